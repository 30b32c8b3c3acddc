import Derived.Test.YtgpphkdoanciiaaGreatDoorWAD
import Derived.Lib.Bytealg
import Derived.WalkKit
import Derived.WalkSpells
import Derived.WalkLawsBesides
import Derived.Deep.Light
import Derived.WalkMore
import Derived.Deep.QuietTactic
import Derived.BigQuiet
import Derived.Conc.LeavingOf
import Derived.Conc.CrowdStepC
import Derived.Listen
import Derived.ProofKit
import Derived.Deep.Slices
set_option linter.all false
set_option maxRecDepth 1000000
set_option maxHeartbeats 8000000
open Go.Proofs.Tryz renaming prog->À,ntmps67->í,func67->ó,zeroCells292->ú,ntmps100->û,func100->Ā,func38->ē,results45->Ģ,underlying25->ĩ,func36->ļ,results36->Ľ,func17->Ł,ntmps160->Ŋ,ntmps147->ŋ,ntmps38->Ŏ,func160->Œ,func147->Ŗ,ntmps95->ŗ,ntmps36->Ř,func95->ť,func30->ŧ,func22->Ũ,ntmps123->Ÿ,ntmps101->ż,func123->Δ,func101->Κ,ntmps96->Μ,ntmps45->Ν,ntmps30->Ο,func96->Ω,func45->ε,func35->ζ,func37->η,func15->ι,f38->ai
open Option renaming none->Á,some->Â,bind_eq_some_iff->Ü,bind_eq_bind->ê,map->ð,map_eq_some_iff->ò,isSome_none->ö,pure_def->ā,map_some->Ă,bind_some->ş
open Go.Value renaming pointer->Ã,string->Ä,int->Å,slice->Ç,tuple->ë,bool->õ,cells->Ĺ
open Go.Ending renaming returned->Æ
open Or renaming inl->È,inr->Ï
open Go.IntKind renaming i64->É,u64->ã,wrap_u64->Ć,wrap_i64->ŝ,u8->ū
open And renaming intro->Ê
open Bool renaming false->Ë,true->Î,false_eq_true->ì,eq_iff_iff->Ę
open Nat renaming le_trans->Ì,zero_le->Ø,le_refl->æ,lt_of_lt_of_le->Ġ,eq_zero_or_pos->ģ,zero_add->œ,mul_le_mul->ű
open Go renaming World->Í,Value->Ñ,Calls->Ò,Addr->ü,bodyPost_ret->ÿ,Act->Ĉ,Goroutine->Ċ,TypeId->č,Frame->Ē,Oper->ĝ,TypeInfo->ħ,maxLen->ī,undef->ĸ,results->Ń,execOp->ś,runNT_fst->Ţ,run_underlying->Ů,info_parts->ů,heap_alloc_new->Ŵ,Tape->ŷ,Trace->Ž,runNT->ſ,mem_ready->Β,wp_loop->Γ,wpList_plain->Ε,yielded->Ι,cell_one_new->Λ,FuncId->Ρ,Code->Τ,storeCells->ν,resolve->ρ,builtin->ς,Program->ω,invoke->ar
open Go.Item renaming inRegion->Ð,code->ax
open List renaming getElem?_eq_getElem->Ó,getElem?_eq_some_iff->Õ,length_append->Ù,mem_map->Ú,eq_nil_of_length_eq_zero->Ý,mem_append->â,mem_of_getElem?->ç,setIfInBounds_toArray->é,length_map->ù,set_cons_zero->ý,set_cons_succ->þ,replicate->ą,length_cons->ď,cons_append->Đ,mem_cons_of_mem->Ĕ,getElem?_of_mem->ĕ,append_nil->Ė,nil_append->ę,getElem_of_mem->Ĝ,getD->Ğ,getElem?_append_right->ğ,getElem?_append_left->Ĥ,extract_eq_take_drop->ĥ,mem_or_eq_of_mem_set->Ħ,take_add_one->Ĩ,getElem?_map->Ī,all_eq_true->ĭ,range->ĳ,set_append_right->Ĵ,length_pos_iff->Ņ,map_cons->ŉ,mem_singleton->ō,map_nil->Ő,append_assoc->ő,ext_getElem?->Ŕ,size_toArray->ř,length_take->Ś,map_toArray->Ŝ,mem_flatMap->Ş,length_nil->ũ,mem_range->Ŷ
open Option.some renaming injEq->Ô,inj->ag
open Go.Lib renaming byteCells->Ö,indexByte->Þ,strCells->į,hasPrefix->ź,TabIs->χ
open Go.Obj renaming cells->Û
open Go.Code renaming wp->ß,wp_mono->İ,loop->ń,skip->aj
open Go.World renaming cell?->à,setCell->Ż,drew->ξ,var?->ο
open Array renaming getElem?_eq_some_iff->á,getElem?_eq_getElem->å,mem_toList_iff->î,getElem_mem->ă,length_toList->ě,size_setIfInBounds->Ĭ,getElem?_eq_none->ı,mem_of_getElem?->ĵ,getElem?_modify->Ķ,getElem?_toList->ķ,toList_extract->ĺ,replicate->Ū
open Go.Region renaming ready->ä,wanted->đ,Mode->Ŀ
open Go.Frame renaming enter->è,finish_at->Ě
open Go.Conc.Goes renaming stop->ï
open Go.Ground renaming phase->ñ,data->ĉ
open Go.Conc renaming events_call_body->ô,crowd->Į,goes_leave1->Ŧ,Good->Ξ,goes_leave2->θ,listed->ay
open ByteArray renaming size_append->ø,getElem_eq_getElem_data->ċ,size_extract->Č,data_extract->Ĳ,size->ŭ,data->Ű,extract->σ,mk->aB
open Go.CallKind renaming normal->Ą
open Go.Region.linearise renaming go->ć
open Go.Great renaming wpList_runTo->Ď
open Go.Builtin renaming append_->ė,firstCells->Ō,lenOf->Ź,append->κ,zeroCells->φ
open Go.RowKit.Below renaming heap_setCell->ġ,heap_alloc->Š
open Go.IntWalk renaming i64_in->Ļ,i64_left->š
open Go.Made renaming word->ł,reckonStruct->ŕ,infoAt->ţ,mostCells->Ų,reckon->Χ
open Int renaming toNat_of_nonneg->ņ,le_refl->Ť
open Go.Operand renaming tmp->ň
open Go.Result renaming andThen_ok->ŏ,andThen->ų
variable{i n j b k m J j9 j7 j6:Nat}{w u W jX:Í}{v x z jQ:Ñ}{g:Ċ}{a p:ü}{h c:Int}{e t T:č}{d q:Array Ñ}{P:ω}{y:Ĉ}{B:ByteArray}{X:Nat->Prop}{O:Option ü}{l:List Ñ}{yQ:Bool}{K H:Ĉ->Í->Prop}{o:ĝ}{D:Nat->Nat}{E:Array Ċ}{L:List Go.Item}{jJ:List Nat}{qX:List Ē}{qJ:Ž}{zX:Go.Loc->Prop}{zQ:List Int}{zJ:ħ}{xQ:ŷ}{xJ:Nat×Nat}{vX:List ByteArray}{vQ:Ñ->Í->Prop}{vJ:Go.Exit->Ĉ->Í->Prop}{Q:Array ĝ}{f:Ē}{F:Ρ}{s:Go.Func}
namespace Go.Proofs.Y.gw
open Go Go.Proofs Go.RowKit Go.Proofs.Y.Lift
def Dz:Τ->Option Τ
 |ń c=>Â c
 |.seq a b=>match Dz b with
  |some c=>Â c
  |none=>Dz a
 |.block _ c=>Dz c
 |.scope c=>Dz c
 |.cond _ a b=>match Dz b with
  |some c=>Â c
  |none=>Dz a
 |_=>Á
noncomputable def NO:Τ:=(ai.body.bind kt).getD aj
noncomputable def NP:Τ:=(ai.body.bind Dz).getD aj
def QE(k:Nat)(X:Ĉ->Í->Prop):Exit->Ĉ->Í->Prop
 |.exit i,a,w=>i=k/\X a w
 |_,_,_=>False
def nL(a:ByteArray)(b:List ByteArray):List UInt8:=b.flatMap λy=>a.data.toList++y.data.toList
def T4(a:ByteArray):List ByteArray->List UInt8
 |[]=>[]
 |x::r=>x.data.toList++nL a r
def iK(xs:List ByteArray):Nat:=(xs.map ŭ).sum
def T5(a b:List ByteArray):iK (a++b)=iK a+iK b:=by simp[iK]
def aaP(a:List ByteArray)(j:Nat):iK (a.take j)<=iK a:=by have h:=T5 (a.take j)<|a.drop j;simp_all
theorem NQ(a:ByteArray)(c:a.size=1):∀b:List ByteArray,(nL a b).length=iK b+b.length
 |[]=>rfl
 |x::r=>by
  have e:nL a (x::r)=(a.data.toList++x.data.toList)++nL a r:=U;have d:a.data.toList.length=1:=by simpa using c
  have f:x.data.toList.length=x.size:=fi
  have g:iK (x::r)=x.size+iK r:=by simp[iK]
  rw[e,Ù,Ù,NQ a c r,d,f,g,ď];omega
def Gc(a:Option ü)(n b:Nat)(c:ByteArray)(m i:Int)(u:Nat->Ñ):Ĉ:=⟨#[Ç a n b,Ä c,u 2,u 3,u 4,Å É m,u 6,u 7,u 8,u 9,u 10,u 11,u 12,u 13,u 14,u 15,u 16,u 17,u 18,u 19,u 20,u 21,u 22,u 23,u 24,u 25,u 26,u 27,u 28,u 29,u 30,u 31,u 32,u 33,u 34,u 35,u 36,u 37,u 38,Ç a n b,Å É n,Å É i,u 42,u 43,u 44,u 45,u 46,u 47,u 48,u 49,u 50,u 51,u 52,u 53,u 54,u 55,u 56,u 57,u 58,u 59,u 60,u 61,u 62,u 63,u 64,u 65,u 66,u 67,u 68,u 69,u 70,u 71,u 72,u 73,u 74],[]⟩
def Gd(b:Option ü)(n c:Nat)(d:ByteArray)(m i:Int)(a:Ĉ):Prop:=∃u,a=Gc b n c d m i u
def qS(a:Option ü)(n c b:Nat)(d:ByteArray)(i:Int)(u:Nat->Ñ):Ĉ:=⟨#[u 0,Ä d,u 2,u 3,u 4,u 5,u 6,u 7,Ã<|Â ⟨b,0,Á⟩,u 9,u 10,u 11,u 12,u 13,u 14,u 15,u 16,u 17,u 18,u 19,u 20,u 21,u 22,u 23,u 24,u 25,u 26,u 27,u 28,u 29,u 30,u 31,u 32,u 33,u 34,u 35,u 36,u 37,u 38,u 39,u 40,u 41,u 42,u 43,u 44,u 45,u 46,u 47,u 48,u 49,u 50,u 51,u 52,u 53,u 54,u 55,u 56,u 57,u 58,u 59,u 60,u 61,u 62,Ç a n c,Å É n,Å É i,u 66,u 67,u 68,u 69,u 70,u 71,u 72,u 73,u 74],[]⟩
def Ge(c:Option ü)(n d b:Nat)(e:ByteArray)(i:Int)(a:Ĉ):Prop:=∃u,a=qS c n d b e i u
section
variable{X:Ĉ->Í->Prop}{sep:ByteArray}{xs:List ByteArray}
def apf(u:Nat->Ñ)(m:Int)(b:∀a,Gd O n i sep m n a->X a w): ß À NO (Exit.then K<|QE 1 X) (Gc O n i sep m n u) w:=by
 unfold Gc;conv=>arg 2;whnf
 go_wp2_with fail
 exact⟨U,b _ (gh _)⟩
def apg(u:Nat->Ñ)(m j:Nat)(f:j<n)(g:n<=1000000)(b c:Nat)(e:O=Â ⟨b,c,Á⟩)(x:ByteArray)(h:w.cell? ⟨b,c+j,Á⟩=Â (Ä x))(k:m+x.size<=140737488355328) (d:∀a,Gd O n i sep ((m+x.size:Nat):Int) ((j+1:Nat):Int) a->K a w): ß À NO (Exit.then K<|QE 1 X) (Gc O n i sep m j u) w:=by
 unfold Gc;conv=>arg 2;whnf
 subst e;have H:=fc d;clear d;go_wp2_with fail;exact H.out _ (gh _)
def J1(O:Option ü)(n i:Nat)(sep:ByteArray)(b:Nat)(xs:List ByteArray)(u:Í)(a:Ĉ)(w:Í):Prop:=
 ∃j:Nat,Gd O n i sep ((b+iK (xs.take j):Nat):Int) j a/\j<=n/\w=u
def J1E(O:Option ü)(n i:Nat)(sep:ByteArray)(b:Nat)(xs:List ByteArray)(u:Í)(a:Ĉ)(w:Í):Prop:=
 Gd O n i sep ((b+iK xs:Nat):Int) n a/\w=u
def NS(n:Nat)(a:Ĉ)(_:Í):Nat:=match a.tmps.getD 41 ĸ with
 |Å _ i=>n-i.toNat
 |_=>0
def aaQ(b:Gd O n i sep h j y):NS n y w=n-j:=by obtain⟨u,rfl⟩:=b;show n-(j:Int).toNat=_;simp
theorem aph(r:n=xs.length)(f:n<=1000000)(g:nK O (jq xs) u)(s:j+iK xs<=140737488355328)(a:Ĉ)(w:Í)(h:J1 O n i sep j xs u a w): ß À NO (Exit.then (λb c=>J1 O n i sep j xs u b c/\NS n b c<NS n a w)<|QE 1<|J1E O n i sep j xs u) a w:=by
 obtain⟨b,d,t,rfl⟩:=h;rw[aaQ d];obtain⟨c,rfl⟩:=d;by_cases k:b=n
 .subst k;refine apf c _ λa q=>⟨?_,U⟩;grind
 .obtain⟨x,e⟩:∃x,xs[b]?=Â x:=⟨_,Ó Z⟩;let⟨l,m,o,p⟩:=g b (Ä x) (by simp[jq,e]);have v:iK (xs.take<|b+1)=iK (xs.take b)+x.size:=by
   rw[Ĩ,e,T5];simp[iK]
  have y:=aaP xs<|b+1;refine apg c _ b Z f l m o x p Z λa q=>⟨⟨b+1,?_,Z,U⟩,by rw[aaQ q];omega⟩;grind
def apj(u:Nat->Ñ)(c:∀a,Ge O n i b sep n a->X a w): ß À NP (Exit.then K<|QE 3 X) (qS O n i b sep n u) w:=by
 unfold qS;conv=>arg 2;whnf
 go_wp2_with fail
 exact⟨U,c _ (gh _)⟩
def apk(c:Nat->Ñ)(j:Nat)(y:j<n)(z:n<=1000000)(d f:Nat)(o:O=Â ⟨d,f,Á⟩)(x:ByteArray)(p:u.cell? ⟨d,f+j,Á⟩=Â (Ä x))(l:List UInt8)(g:o5 u b (Ö l) w)(q:sep.size=1)(B:l.length+1+x.size<=140737488355328) (r:∀a h,Ge O n i b sep ((j+1:Nat):Int) a->o5 u b (Ö<|l++(sep.data.toList++x.data.toList)) h->K a h): ß À NP (Exit.then K<|QE 3 X) (qS O n i b sep j c) w:=by
 unfold qS;conv=>arg 2;whnf
 subst o;have C:=g.r.r p id;have k:=Lib.byteCells_length l;have s:(Ö l++į sep).length=l.length+1:=by rw[Ù,k,Lib.strCells_length,q]
 have E:Ö l++į sep++į x=Ö (l++(sep.data.toList++x.data.toList)):=by simp[Ö,į]
 have H:=fc<|Ê g<|Ê r<|Ê k<|Ê s E;go_wp2_with (first
  |(go_at_call 55;refine(T3 t.out x<|by rw[H.out.2.2.2.1];omega).mono ?_;rintro e D ⟨rfl,m⟩;have v:=fc m;clear m)
  |(go_at_call 55;refine(T3 H.out.1 sep (by rw[H.out.2.2.1];omega)).mono ?_;rintro e D ⟨rfl,m⟩;have t:=fc m;clear m))
 apply H.out.2.1 _ _ (gh _);rw[<-H.out.2.2.2.2];exact v.out
def J2(O:Option ü)(n i b:Nat)(sep:ByteArray)(c:List UInt8)(xs:List ByteArray)(u:Í)(a:Ĉ)(w:Í):Prop:=
 ∃j:Nat,Ge O n i b sep j a/\j<=n/\o5 u b (Ö<|c++nL sep (xs.take j)) w
def J2E(O:Option ü)(n i b:Nat)(sep:ByteArray)(c:List UInt8)(xs:List ByteArray)(u:Í)(a:Ĉ)(w:Í):Prop:=
 Ge O n i b sep n a/\o5 u b (Ö<|c++nL sep xs) w
def NT(n:Nat)(a:Ĉ)(_:Í):Nat:=match a.tmps.getD 65 ĸ with
 |Å _ i=>n-i.toNat
 |_=>0
def aaR(c:Ge O n i b sep j y):NT n y w=n-j:=by obtain⟨u,rfl⟩:=c;show n-(j:Int).toNat=_;simp
theorem apl{d:List UInt8}(z:n=xs.length)(h:n<=1000000)(k:sep.size=1)(l:nK O (jq xs) u)(B:d.length+iK xs+n<=140737488355328)(a:Ĉ)(w:Í)(m:J2 O n i b sep d xs u a w): ß À NP (Exit.then (λc e=>J2 O n i b sep d xs u c e/\NT n c e<NT n a w)<|QE 3<|J2E O n i b sep d xs u) a w:=by
 let⟨j,g,C,o⟩:=m;rw[aaR g];obtain⟨c,rfl⟩:=g;by_cases p:j=n
 .subst p;refine apj c λa q=>⟨q,?_⟩;grind
 .obtain⟨x,f⟩:∃x,xs[j]?=Â x:=⟨_,Ó Z⟩;let⟨r,s,t,v⟩:=l j (Ä x) (by simp[jq,f]);have D:iK (xs.take<|j+1)=iK (xs.take j)+x.size:=by
   rw[Ĩ,f,T5];simp[iK]
  have E:=aaP xs<|j+1;have y:(d++nL sep (xs.take j)).length=d.length+iK (xs.take j)+j:=by grind [Ù,NQ,Ś]
  have F:nL sep (xs.take<|j+1)=nL sep (xs.take j)++(sep.data.toList++x.data.toList):=by rw[Ĩ,f];simp[nL]
  refine apk c j Z h r s t x v _ o k (by rw[y];omega) λa e q G=>⟨⟨j+1,q,Z,?_⟩,by rw[aaR q];omega⟩;grind
end
section
variable{sep:ByteArray}{xs:List ByteArray}
def jb(sep:ByteArray)(xs:List ByteArray):ByteArray:=⟨(T4 sep xs).toArray⟩
def apm:Ò À 38 #[Ç O 0 i,Ä sep] w λe a=>e=Æ (Ä ⟨#[]⟩)/\e8 (λ_=>False) w a:=by go_enter ē,Ŏ;go_wp2_with fail;go_ret;exact⟨U,e8.fU _ _⟩
def apn(a b:Nat)(x:ByteArray)(d:w.cell? ⟨a,b,Á⟩=Â (Ä x)):Ò À 38 #[Ç (Â ⟨a,b,Á⟩) 1 i,Ä sep] w λe c=>e=Æ (Ä x)/\e8 (λ_=>False) w c:=by go_enter ē,Ŏ;go_wp2_with fail;go_ret;exact⟨U,e8.fU _ _⟩
theorem apo(k:Nat)(K:1<=k)(L:k<1000000)(c d:Nat)(M:k+1<=i)(B:sep.size=1)(x:ByteArray)(g:k=xs.length)(f:nK (Â ⟨c,d,Á⟩) (jq<|x::xs) w)(C:iK (x::xs)+(k+1)<=140737488355328): Ò À 38 #[Ç (Â ⟨c,d,Á⟩) (k+1) i,Ä sep] w λe b=>e=Æ (Ä<|jb sep<|x::xs)/\e8 (λ_=>False) w b:=by
 have D:iK (x::xs)=x.size+iK xs:=by simp[iK]
 have m:∀a,Gd (Â ⟨c,d,Á⟩) (k+1) i sep ((k+iK ((x::xs).take 0):Nat):Int) (0:Nat) a->ß À (ń NO) (QE 1<|J1E (Â ⟨c,d,Á⟩) (k+1) i sep k (x::xs) w) a w:=λa h=>
  Γ (J1 (Â ⟨c,d,Á⟩) (k+1) i sep k (x::xs) w) (NS<|k+1) ⟨0,h,Ø _,U⟩<|aph (by simp[g]) Z f Z
 have n:nK (Â ⟨c,d+1,Á⟩) (jq xs) w:=λj u E=>by let⟨b,o,z,l⟩:=f (j+1) u (by simpa[jq]using E);grind
 have p:∀a W,Ge (Â ⟨c,d+1,Á⟩) k (i-1) w.heap.size sep (0:Nat) a->o5 w w.heap.size (Ö<|x.data.toList++nL sep (xs.take 0)) W->ß À (ń NP) (QE 3<|J2E (Â ⟨c,d+1,Á⟩) k (i-1) w.heap.size sep x.data.toList xs w) a W:=λa W h o=>
  Γ (J2 (Â ⟨c,d+1,Á⟩) k (i-1) w.heap.size sep x.data.toList xs w) (NT k) ⟨0,h,Ø _,o⟩<|apl g Z B n (by simp only[ě];have:x.data.size=x.size:=rfl;omega)
 let⟨_,_,F,q⟩:=f 0 (Ä x) U;cases F;have r:w.cell? ⟨c,d,Á⟩=Â (Ä x):=q;have s:x.data.toList++nL sep xs≠[]:=by grind [Ù,NQ,ũ]
 have N:(1:Int)<9223372036854775807/(k:Int):=by rw[Int.lt_iff_add_one_le,Int.le_ediv_iff_mul_le Z];omega
 have t:0<k+iK (x::xs)/\k+iK (x::xs)<=281474976710656:=Z
 have y:(Ö []).length+x.size<=140737488355328:=by simp[Ö];omega
 have H:=fc<|Ê m<|Ê p<|Ê t<|Ê y<|Ê s r;clear m p t y s q r f n g C D;generalize G:iK (x::xs)=S at*;go_enter ē,Ŏ;go_wp2_with fail;refine İ ?_ (H.out.1 _ (gh _));rintro(_|_|_|_|_|_) a v hq;all_goals first|exact absurd hq id|skip
 obtain⟨rfl,b,rfl⟩:=hq;rw[G]at b;obtain⟨u,rfl⟩:=b;unfold Gc;go_wp2_with (first
  |(go_at_call 54;refine(apd ⟨æ _,e8.gE _ _ _ _,ff.N v [Ã Á,Ç Á 0 0] 109⟩ (k+S) H.out.2.2.1.1 H.out.2.2.1.2).mono ?_;rintro e I ⟨rfl,l⟩;have J:=l.r.r H.out.2.2.2.2.2 id;have z:=fc l;clear l)
  |(go_at_call 55;refine(T3 z.out x H.out.2.2.2.1).mono ?_;rintro e l ⟨rfl,z⟩;have I:=fc z;clear z))
 have J:o5 v v.heap.size (Ö<|x.data.toList++nL sep (xs.take 0)) l:=by have:=I.out;show o5 v v.heap.size (Ö<|x.data.toList++[]) l;rw[Ė];exact this
 refine İ ?_ (H.out.2.1 _ _ (gh _) J);rintro(_|_|_|_|_|_) a w3 hq;all_goals first|exact absurd hq id|skip
 obtain⟨rfl,b,o⟩:=hq;obtain⟨v,rfl⟩:=b;unfold qS;go_wp2_with (go_at_call 56;refine(ape (fc o).out H.out.2.2.2.2.1).mono ?_;rintro e O ⟨rfl,z⟩;have I:=fc z;clear z);go_ret;exact⟨U,I.out⟩
def T8(a:n=xs.length)(f:n<=1000000)(g:n<=i)(h:sep.size=1)(b:nK O (jq xs) w)(j:iK xs+n<=140737488355328): Ò À 38 #[Ç O n i,Ä sep] w λe c=>e=Æ (Ä<|jb sep xs)/\e8 (λ_=>False) w c:=by
 cases xs with
 |nil=>subst a;exact apm
 |cons x r=>
  let⟨c,d,k,l⟩:=b 0 (Ä x) U;subst k;cases r with
  |nil=>
   subst a;have e:jb sep [x]=x:=by show aB ((x.data.toList++[]).toArray)=x;rw[Ė]
   rw[e];exact apn c d x l
  |cons y r=>
   subst a;exact apo (r.length+1) Z (by simp at f;omega) c d g h x U b j
def apq(a:n=xs.length)(c:n<=1000000)(d:n<=i)(h:nK O (jq xs) w)(f:iK xs+n<=140737488355328): Ò À 123 #[Ç O n i] w λe b=>e=Æ (Ä<|if xs=[]then⟨#[45]⟩else jb ⟨#[44]⟩ xs)/\e8 (λ_=>False) w b:=by
 have H:=fc<|T8 (sep:=⟨#[44]⟩) a c d U h f;by_cases b:xs=[]
 .subst b;have e:=a;subst e;rw[if_pos U];clear a f H c d;go_enter Δ,Ÿ;go_wp2_with fail;go_ret;exact⟨U,e8.fU _ _⟩
 .rw[if_neg b];have k:0<n:=by rw[a];exact Ņ.2 b
  have l:((n:Int)==0)=Ë:=by simp;omega
  clear a;generalize jb ⟨#[44]⟩ xs=z at*;go_enter Δ,Ÿ;go_wp2_with (go_at_call 38;apply H.out.mono;rintro e m ⟨rfl,g⟩;have j:=fc g;clear g);go_ret;exact⟨U,j.out⟩
end
def Gf{M:Nat}:∀(a:List ByteArray),(∀z∈a,z.size<=M)->iK a<=M*a.length
 |[],_=>Ø _
 |x::r,h=>by
  have c:=Gf r λz b=>h z<|Ĕ _ b;have d:=h x fi;have e:iK (x::r)=x.size+iK r:=by simp[iK]
  rw[e,ď,Nat.mul_add];omega
def NU{e:Nat×Int}(h:gd e.2):(rC e).size<=21:=by unfold rC;rw[ø];have:=ye e.1;have:=pN e.2.toNat (by have:=h.1;have:=h.2;omega);omega
def aaS{e:Int×Bool}(a:0<=e.1)(h:e.1<=400):(F8 e).size<=41:=by unfold F8;rw[ø,ø];have:=pN e.1.toNat Z;have:=pN e.2.toNat (by cases e.2<;>decide);have:ŭ ⟨#[58]⟩=1:=rfl;omega
section
variable{b:List ByteArray}
def aaT{ty:č}{base:Nat}(b:P.underlying t=Â (.slice e))(d:P.info? e=Â zJ)(h:w.ownsRow base e j v n l)(a:Option ü)(c:Nat): (ė #[t,t] ty #[v,Ç a 0 c]).run P w=.ok v w:=by
 have f:(Ō zJ.size 0<|Ç a 0 c).run P w=.ok #[] w:=by cases a<;>simp[Ō,loadCells,loadCellsFrom]
 rcases h.2 with⟨rfl,rfl⟩|⟨g,m,o,rfl,_,_,k,_⟩
 .simp[ė,Ů b,sizeOf,typeInfo,d,Ź,f,ν]
 .simp[ė,Ů b,sizeOf,typeInfo,d,Ź,f,k,ν]
def apr{r:Array ĝ}{t:List ĝ}(l:o.guard=Á)(s c:Operand) (m:o.op=.call {callee:=.builtin κ,args:=#[s,c],argTypes:=#[25,25]}) (d:ig u v vX w) (n:y.eval s=v) {base:Nat} (B:w.ownsRow base 9 1 x b.length (jq b)) (e:y.eval c=x) (I:vX.length+b.length<=1000000) (h:∀j k,ig u j (vX++b) k->wpList À r vJ t (y.put o.dst j) k):wpList À r vJ (o::t) y w:=by
 let⟨J,p,D,E,F⟩:=ů zY;rcases B.2 with⟨f,G⟩|⟨g,H,L,f,_⟩
 .have z:=Ý G;subst z;rw[f]at e;refine Ε l λK i=> ?_;have q:=aaT (ty:=o.type) ĩ p d.fj Á 0;unfold Oper.wp ś;simp only[m,ρ,ar,ς,Sem.run_bind,Sem.run_pure,ŏ,Ŝ,ŉ,Ő,n,e,q];exact i _ _<|h v w<|by rwa[Ė]
 .by_cases C:b=[]
  .subst C;rw[f]at e;refine Ε l λK i=> ?_;have q:=aaT (ty:=o.type) ĩ p d.fj (Â ⟨g,0,Á⟩) H;unfold Oper.wp ś;simp only[m,ρ,ar,ς,Sem.run_bind,Sem.run_pure,ŏ,Ŝ,ŉ,Ő,n,e,q,ũ];exact i _ _<|h v w<|by rwa[Ė]
  .have K:=Ņ.2 C;refine Df l s c 25 m ĩ p D E F U n d.fj ⟨g,0,Á⟩ (jq b) (e.trans f) K (by simp[jq]) (B.cells<|by rw[f];rfl) (λi q=>by unfold jq at q;obtain⟨z,_,rfl⟩:=Ú.1 q;rfl) (by unfold ī;omega) Z d.r.M ?_;intro j k z;refine h j k ⟨?_,d.r.C z.r λi M q=> ?_⟩
   .have:=z.fj;rwa[show jq vX++jq b=jq (vX++b) by simp[jq],show vX.length+b.length=(vX++b).length by simp]at this
   .have:=(d.fj.lt i q).1;omega
end
def ig.I(h:ig u (Ç O n i) vX w):nK O (jq vX) w/\n=vX.length/\n<=i:=by
 rcases h.fj.2 with⟨b,d⟩|⟨g,f,k,b,_,_,d,_⟩
 .cases b;refine⟨λj x e=> ?_,d.symm,æ _⟩;rw[Ý d]at e;cases e
 .have e:n=vX.length:=by injection b
  subst e;injection b with _ _ h4;exact⟨nK.r h.fj,U,by rwa[h4]⟩
def DC(r:zH):ByteArray:=jb ⟨#[44]⟩<|[fI r.C.toNat,fI r.M.toNat,fI r.r.toNat]++r.I.map rC
theorem aps(x y:Nat)(g k:Int)(b c:Nat)(a:Bool)(f:List (Nat×Int))(L:b<18446744073709551616)(M:c<18446744073709551616)(S:f.length<=400000)(V:yb f)(W:lO w) (T:Ò À 158 #[Ã<|Â ⟨i,0,Á⟩,Å É x,Å É y,Å ã g,Å ã k] w λe j=>∃B,e=Æ (ë #[.agg #[Å ã b,õ a,Å ã c],B])/\j.ownsRow 0 257 2 B f.length (kr f)/\e8 (λ_=>False) w j): Ò À 119 #[Ã<|Â ⟨i,0,Á⟩,Å É x,Å É y,Å ã g,Å ã k] w λe j=>e=Æ (Ä<|jb ⟨#[44]⟩<|[fI a.toNat,fI c,fI b]++f.map rC)/\e8 (λ_=>False) w j:=by
 have N:a.toNat<18446744073709551616:=by cases a<;>decide
 have H:=fc<|Ê T<|Ê W V;go_enter Tryz.func119,Tryz.ntmps119;go_wp2_with (go_at_call 158;apply H.out.1.mono;rintro e l ⟨B,rfl,q,d⟩;obtain⟨v,Q,rfl⟩:=jj q;have C:=fc<|Ê d q;clear d q);change ß À _ _ _ (l.alloc<|Û #[Å ã b,õ a,Å ã c] 252);have D:=(e8.gE (λ_=>False) l #[Å ã b,õ a,Å ã c] 252).fe<|e8.fS _ _;have E:=(H.out.2.1.r C.out.1).r D;have o:=(ff.N l [Å ã b,õ a,Å ã c] 252).I (e8.fS (λ_=>False) _) id;have O:=C.out.1.fe D;have X:=ie C.out.2 D λ_ _=>id;refine mq (λj=>j.cell? ⟨l.heap.size,0,Á⟩=Â (Å ã b)/\j.cell? ⟨l.heap.size,1,Á⟩=Â (õ a)/\j.cell? ⟨l.heap.size,2,Á⟩=Â (Å ã c)) [] fp ?_;have h:=fc<|Ê (o.r 0 _ rfl)<|Ê (o.r 1 _ rfl)<|o.r 2 _ rfl;generalize l.heap.size=ob at*;generalize ξ (l.alloc<|Û #[Å ã b,õ a,Å ã c] 252)=w5 at*;apply tk 0 h.out;apply tk 1 h.out;apply tk 2 h.out;apply tk 5 h.out;apply tk 6 h.out;apply tk 8 h.out;apply tk 9 h.out;apply tk 10 h.out;apply gA 3;intro K d;go_simp;go_at_call 159;refine(Ji _ _).mono ?_;rintro e Y ⟨rfl,rm⟩;subst Y;rw[aaH];apply d.out _ _ λ_=>h.out;apply gA 4;intro K d;go_simp;go_at_call 118;refine(yc a.toNat N _ E).mono ?_;rintro e wa ⟨rfl,p⟩;have r:=o.I p id;have P:=E.r p;apply d.out _ _ λ_=>⟨r.r 0 _ U,r.r 1 _ U,r.r 2 _ U⟩;apply gA 7;intro K d;go_simp;go_at_call 118;refine(yc c M _ P).mono ?_;rintro e wb ⟨rfl,s⟩;have t:=r.I s id;have Pb:=P.r s;apply d.out _ _ λ_=>⟨t.r 0 _ U,t.r 1 _ U,t.r 2 _ U⟩;apply gA 11;intro K d;go_simp;go_at_call 118;refine(yc b L _ Pb).mono ?_;rintro e m ⟨rfl,F⟩;have u:=t.I F id;have n:=u.I (e8.gE (λ_=>False) m #[Ä<|fI a.toNat,Ä<|fI c,Ä<|fI b] 9) id;apply d.out _ _ λ_=>⟨u.r 0 _ U,u.r 1 _ U,u.r 2 _ U⟩;apply gA 12;intro K d;go_simp;apply d.out _ _ λ_=>⟨n.r 0 _ U,n.r 1 _ U,n.r 2 _ U⟩;apply gA 13;intro K d;go_simp;apply d.out _ _ λ_=>⟨n.r 0 _ U,n.r 1 _ U,n.r 2 _ U⟩;refine lY fp ?_ _;have G:e8 (λ_=>False) w5 (m.alloc<|Û #[Ä<|fI a.toNat,Ä<|fI c,Ä<|fI b] 9):=((p.fe s).fe F).fe<|e8.gE _ _ _ _;have T6:ig w (Ç (Â ⟨m.heap.size,0,Á⟩) 3 3) [fI a.toNat,fI c,fI b] (m.alloc<|Û #[Ä<|fI a.toNat,Ä<|fI c,Ä<|fI b] 9):=⟨World.ownsRow_lit m #[Ä<|fI a.toNat,Ä<|fI c,Ä<|fI b] 3 (Ì O.M ((p.fe s).fe F).M) (by unfold ī;omega) U,O.fe G⟩;have L6:=ie X G λ_ _=>id;have P6:=E.r G;have I:=fc<|Ê T6<|Ê L6 P6;generalize m.alloc (Û #[Ä<|fI a.toNat,Ä<|fI c,Ä<|fI b] 9)=w6 at*;generalize m.heap.size=tb at*;have ji:∀z∈[fI a.toNat,fI c,fI b]++f.map rC,z.size<=21:=λz hz=>by
  rcases â.1 hz with q|q
  .have h1:=pN a.toNat N;have h2:=pN c M;have v:=pN b L;grind
  .obtain⟨e,v,rfl⟩:=Ú.1 q;exact NU (H.out.2.2 e v).2
 have sZ:=Gf _ ji;have hlen:([fI a.toNat,fI c,fI b]++f.map rC).length=3+f.length:=by simp;omega
 have J:=fc<|Ê sZ hlen;go_wp2_with (first
  |(go_at_call 124;refine(aaG U S H.out.2.2 I.out.2.2<|nK.r I.out.2.1).mono ?_;rintro e v ⟨lt,rfl,q⟩;obtain⟨ta,tc,rfl⟩:=jj q.fj;rw[ù]at q;have Q:=fc q;clear q)
  |(at_builtin;refine apr U _ _ U (I.out.1.fK Q.out.r) U Q.out.fj U (by simp;omega) ?_;intro cv w8 v;obtain⟨ca,cc,rfl⟩:=jj v.fj;generalize([fI a.toNat,fI c,fI b]++f.map rC).length=cn at v|-;have q:=fc v;clear v)
  |(go_at_call 38;refine(T8 q.out.I.2.1 (by have:=q.out.I.2.1;rw[this,J.out.2];omega) q.out.I.2.2 U q.out.I.1 (by have:=q.out.I.2.1;have h1:=J.out.1;have h2:=J.out.2;omega)).mono ?_;rintro e w9 ⟨rfl,v⟩;have Q:=fc v;clear v))
 go_ret;exact⟨U,q.out.r.fe Q.out⟩
def apt{s:St}(v:my i s h w)(b:gH s)(z:iJ w)(B:lO w)(x y:Nat)(g k:Int)(c:x<8)(d:y<8)(f:0<=g)(j:g<=100000)(l:gd k): Ò À 119 #[Ã<|Â ⟨i,0,Á⟩,Å É x,Å É y,Å ã g,Å ã k] w λe q=>e=Æ (Ä<|DC<|gi s [] x y g k)/\e8 (λ_=>False) w q:=by have T:=aaD v b z x y g k c d f j l _ U;have e:=Ni s [] x y g k b c d l f j (by simp;omega);have m:=TN s [] x y g k b c d l f j (by simp;omega) (λ_ q=>by cases q);obtain⟨q,o,a,t,p,C⟩:∃q o a t p,gi s [] x y g k=⟨q,o,a,t,p⟩:=⟨_,_,_,_,_,U⟩;rw[C]at T e m|-;have D:=e.C;have E:=e.r;have r:=e.M;have u:=e.I;simp only at D E r u m T;obtain⟨F,rfl⟩:∃n:Nat,q=n:=⟨q.toNat,Z⟩;obtain⟨G,rfl⟩:∃n:Nat,a=n:=⟨a.toNat,by have:=r.1;omega⟩;exact aps x y g k F G o p Z (by have:=r.2;omega) (by simp at u;omega) m B T
def qI(w:Í):Prop:=w.cell? ⟨4,15,Á⟩=Â (Å ū 4)
def qI.r(h:qI w)(k:e8 (λ_=>False) w u):qI u:=k.r h id
def apu(c:qI w):Ò À 207 #[Å ã 16] w λe a=>e=Æ (Å É 4)/\a=w:=by
 unfold qI at c;have b:ã.wrap (bits BinOp.and ã 16 (ã.wrap<|-16)*285870213051353865)/288230376151711744=15:=A
 go_enter Tryz.func207,Tryz.ntmps207;go_wp2;go_ret;exact⟨U,U⟩
def tz(c:qI w):Ò À 201 #[Å ã 16] w λe a=>e=Æ (Å É 4)/\a=w:=by go_enter Tryz.func201,Tryz.ntmps201;go_wp2_with (go_at_call 207;refine(apu c).mono ?_;rintro e a ⟨rfl,b⟩;subst a);go_ret;exact⟨U,U⟩
def apv:Ò À 200 #[Å É 16] w λe a=>e=Æ (õ Î)/\a=w:=by
 have b:bits BinOp.and É 16 15=0:=A
 go_enter Tryz.func200,Tryz.ntmps200;go_wp2;go_ret;simp_all
def o6(d:Nat):UInt8:=if h:d<36 then(⟨#[48,49,50,51,52,53,54,55,56,57,97,98,99,100,101,102,103,104,105,106,107,108,109,110,111,112,113,114,115,116,117,118,119,120,121,122]⟩:ByteArray)[d]'h else 0
def sC:Nat->Nat->List UInt8->List UInt8
 |0,_,acc=>acc
 |k+1,n,acc=>if n<16 then o6 n::acc else sC k (n/16) (o6 (n%16)::acc)
def aaU:∀k n a,(sC k n a).length<=k+a.length
 |0,_,a=>by simp[sC]
 |k+1,n,a=>by
  unfold sC;split
  .simp;omega
  .have:=aaU k (n/16)<|o6 (n%16)::a;simp at this;omega
noncomputable def NV:Τ:=(Tryz.f190.body.bind kt).getD aj
def Gi(a:Nat)(n i:Int)(u:Nat->Ñ):Ĉ:=⟨#[u 0,Å ã n,Å É 16,õ Ë,õ Ë,u 5,u 6,u 7,u 8,u 9,Ç Á 0 0,u 11,Ã<|Â ⟨a,0,Á⟩,Å É i,Å ã 4,Å ã 16,Å ã 15,u 17,u 18,u 19,u 20,u 21,u 22,u 23,u 24,u 25,u 26,u 27,u 28,u 29,u 30,u 31,u 32,u 33,u 34,u 35,u 36,u 37,u 38,u 39,u 40,u 41,u 42,u 43,u 44,u 45,u 46,u 47,u 48,u 49,u 50,u 51,u 52,u 53,u 54,u 55,u 56,u 57,u 58,u 59,u 60,u 61,u 62,u 63,u 64,u 65,u 66,u 67,u 68,u 69,u 70,u 71,u 72,u 73,u 74,u 75,u 76,u 77,u 78,u 79,u 80,u 81,u 82,u 83,u 84,u 85,u 86,u 87,u 88,u 89,u 90,u 91,u 92,u 93,u 94,u 95,u 96,u 97,u 98,u 99,u 100,u 101],[]⟩
def Gj(b:Nat)(n i:Int)(a:Ĉ):Prop:=∃u,a=Gi b n i u
def zc(i:Nat)(a:List UInt8):List Ñ:=ą i (Å ū 0)++Ö a
def aaV(i:Nat)(a:List UInt8):(zc i a).length=i+a.length:=by simp[zc,Ö]
theorem aaW(i:Nat)(a:List UInt8)(c:UInt8):(zc (i+1) a).set i (Å ū c.toNat)=zc i (c::a):=by unfold zc;rw[List.replicate_succ',ő,Ĵ _ _ fi];simp[Ö]
section
variable{X:Ĉ->Í->Prop}
def apw(u:Nat->Ñ)(n b:Nat)(d:n<16)(c:∀a,Gj i n b a->X a w): ß À NV (Exit.then K<|QE 0 X) (Gi i n b u) w:=by
 unfold Gi;conv=>arg 2;whnf
 go_wp2_with fail
 exact⟨U,c _ (gh _)⟩
def apx(u:Nat->Ñ)(n b:Nat)(g:16<=n)(h:n<18446744073709551616)(j:b<65)(v:Ñ)(c:w.cell? ⟨i,b,Á⟩=Â v)(k:w.frozen? ⟨i,b,Á⟩=Ë) (e:∀a,Gj i ((n/16:Nat):Int) b a->K a (w.setCell ⟨i,b,Á⟩<|Å ū (o6<|n%16).toNat)): ß À NV (Exit.then K<|QE 0 X) (Gi i n ((b+1:Nat):Int) u) w:=by
 unfold Gi;conv=>arg 2;whnf
 have l:bits BinOp.and ã (n:Int) 15=((n%16:Nat):Int):=by have:=(bits_nat ã 64 A (λn f H=>by rw[Ć];omega) n 15 Z A).1;rwa[show(15:Nat)=2^4-1 from rfl,Nat.and_two_pow_sub_one_eq_mod]at this
 have f:n%16<36:=Z
 have m:(⟨#[48,49,50,51,52,53,54,55,56,57,97,98,99,100,101,102,103,104,105,106,107,108,109,110,111,112,113,114,115,116,117,118,119,120,121,122]⟩:ByteArray)[n%16]'f=o6 (n%16):=by unfold o6;rw[dif_pos f]
 have H:=fc e;clear e;generalize o:n%16=d at*;go_wp2_with fail;exact H.out _ (gh _)
def XI(i:Nat)(u:Í)(d:List UInt8)(a:Ĉ)(w:Í):Prop:=
 ∃(n b:Nat) (c:List UInt8),Gj i n b a/\50<=b/\b+c.length=65/\n<16^(b-49)/\n<18446744073709551616/\e8 (λk=>k=i) u w/\ff i (zc b c) 292 w/\sC (b-49) n c=d
def XE(i:Nat)(u:Í)(d:List UInt8)(a:Ĉ)(w:Í):Prop:=
 ∃(n b:Nat) (c:List UInt8),Gj i n b a/\n<16/\50<=b/\b+c.length=65/\e8 (λk=>k=i) u w/\ff i (zc b c) 292 w/\o6 n::c=d
def NW(a:Ĉ)(_:Í):Nat:=match a.tmps.getD 1 ĸ with
 |Å _ i=>i.toNat
 |_=>0
def aaX(b:Gj i n j y):NW y w=n:=by obtain⟨u,rfl⟩:=b;show(n:Int).toNat=_;simp
theorem apy{h:List UInt8}(a:Ĉ)(w:Í)(o:XI i u h a w): ß À NV (Exit.then (λb c=>XI i u h b c/\NW b c<NW a w)<|QE 0<|XE i u h) a w:=by
 let⟨n,b,f,l,p,r,s,t,m,e,d⟩:=o;rw[aaX l];obtain⟨c,rfl⟩:=l;obtain⟨j,rfl⟩:∃j,b=j+1:=⟨b-1,Z⟩;have x:j+1-49=(j-49)+1:=Z
 rw[x]at d s;unfold sC at d;by_cases g:n<16
 .rw[if_pos g]at d;exact apw c n (j+1) g λa q=>⟨n,j+1,f,q,g,p,r,m,e,d⟩
 .rw[if_neg g]at d;have y:50<=j:=by
   grind
  have C:(zc (j+1) f).length=65:=by rw[aaV];omega
  obtain⟨v,z⟩:∃v,(zc (j+1) f)[j]?=Â v:=⟨_,Ó Z⟩;have B:n/16<16^(j-49):=by grind
  refine apx c n j Z t Z v (e.r j v z) (e.C j) λa q=>⟨⟨n/16,j,o6 (n%16)::f,q,y,by simp;omega,B,Z,m.fe (e8.I (X:=λk=>k=i) U _<|Ï e.G),?_,d⟩,by rw[aaX q];omega⟩;have:=e.fP j<|Å ū (o6<|n%16).toNat;grind [aaW]
end
def apz:ú=(zc 65 []).toArray:=fp
def nN(n:Nat):ByteArray:=⟨(sC 16 n []).toArray⟩
theorem apA(n:Nat)(l:n<18446744073709551616)(o:qI w):Ò À 190 #[Ç Á 0 0,Å ã n,Å É 16,õ Ë,õ Ë] w λe p=>e=Æ (ë #[Ç Á 0 0,Ä<|nN n])/\e8 (λ_=>False) w p:=by
 have L:∀a,Gj w.heap.size n (65:Nat) a->ß À (ń NV) (QE 0<|XE w.heap.size (w.alloc<|Û ú 292)<|sC 16 n []) a (w.alloc<|Û ú 292):=λa r=>
  Γ (XI w.heap.size (w.alloc<|Û ú 292)<|sC 16 n []) NW ⟨n,65,[],r,Z,U,by show n<16^16;omega,l,e8.fU _ _,by rw[apz];exact ff.N w (zc 65 []) 292,U⟩ apy
 have H:=fc<|Ê o L;unfold nN;generalize sC 16 n []=res at*;go_enter Tryz.func190,Tryz.ntmps190;go_wp2_with (first
  |(go_at_call 200;refine apv.mono ?_;rintro e b ⟨rfl,c⟩;subst b)
  |(go_at_call 201;refine(tz (H.out.1.r kp)).mono ?_;rintro e b ⟨rfl,c⟩;subst b))
 refine İ (Q:=QE 0<|XE w.heap.size (w.alloc<|Û ú 292) res) ?_ (H.out.2 _ (gh _));rintro(_|_|_|_|_|_) a v hq;all_goals first|exact absurd hq id|skip
 obtain⟨rfl,m,i,c,s,E,F,G,x,b,d⟩:=hq;obtain⟨u,rfl⟩:=s;unfold Gi;obtain⟨j,rfl⟩:∃j,i=j+1:=⟨i-1,Z⟩;have I:(zc (j+1) c).length=65:=by rw[aaV];omega
 obtain⟨z,y⟩:∃z,(zc (j+1) c)[j]?=Â z:=⟨_,Ó Z⟩;have J:=b.r j z y;have K:=b.C j;have M:(0:Int)<=(j:Int):=Z
 have N:(j:Int)<65:=Z
 have O:(j:Int)<=65:=Z
 have S:(0:Int)<=(m:Int):=Z
 have T:(m:Int)<36:=Z
 have f:m<36:=Z
 have V:(⟨#[48,49,50,51,52,53,54,55,56,57,97,98,99,100,101,102,103,104,105,106,107,108,109,110,111,112,113,114,115,116,117,118,119,120,121,122]⟩:ByteArray)[m]'f=o6 m:=by unfold o6;rw[dif_pos f]
 have B:=(e8.gE (λ_=>False) w ú 292).C x λi C q=>by omega
 have g:=b.fP j<|Å ū (o6 m).toNat;rw[aaW,d]at g;have D:e8 (λ_=>False) w (v.setCell ⟨w.heap.size,j,Á⟩<|Å ū (o6 m).toNat):=B.C (e8.I (X:=λk=>k=w.heap.size) U _<|Ï b.G) λi C q=>by omega
 have W:res.length=65-j:=by rw[<-d];simp;omega
 have Y:(convert 107 9<|Ç (Â ⟨w.heap.size,j,Á⟩) (65-j)<|65-j).run À (v.setCell ⟨w.heap.size,j,Á⟩<|Å ū (o6 m).toNat)=.ok (Ä ⟨res.toArray⟩) (v.setCell ⟨w.heap.size,j,Á⟩<|Å ū (o6 m).toNat):=by have h:=run_convert_bytes_back (P:=À) (v.setCell ⟨w.heap.size,j,Á⟩<|Å ū (o6 m).toNat) 107 9 5 ⟨w.heap.size,j,Á⟩ (65-j) res fp fp fp (λt k=>by rw[Addr.add_mid];apply g.r (j+t) _;unfold zc;rw[ğ fi];simp[Ö,Ó k]);grind
 have k:=fc D;go_wp2;go_ret2;simp_all
def apB(n:Nat)(b:n<18446744073709551616)(c:qI w):Ò À 172 #[Å ã n,Å É 16] w λe a=>e=Æ (Ä<|nN n)/\e8 (λ_=>False) w a:=by go_enter Tryz.func172,Tryz.ntmps172;go_wp2_with (go_at_call 190;refine(apA n b c).mono ?_;rintro e a ⟨rfl,d⟩);go_ret;exact⟨U,d⟩
def apC(n:Nat)(b:n<18446744073709551616)(c:qI w):Ò À 157 #[Å ã n,Å É 16] w λe a=>e=Æ (Ä<|nN n)/\e8 (λ_=>False) w a:=by go_enter Tryz.func157,Tryz.ntmps157;go_wp2_with (go_at_call 172;refine(apB n b c).mono ?_;rintro e a ⟨rfl,d⟩);go_ret;exact⟨U,d⟩
def apD(s:ByteArray)(w:Í)(h:s.data.toList.head?=Â 48):Ò À 175 #[Ä s,Ä ⟨#[48]⟩] w λe b=>e=Æ (õ Î)/\b=w:=by
 have H:=Tryz.strings_HasPrefix s ⟨#[48]⟩ w;have e:ź s.data.toList (Ű ⟨#[48]⟩).toList=Î:=by
  generalize s.data.toList=l at h;cases l with
  |nil=>cases h
  |cons a r=>cases h;rfl
 rwa[e]at H
def apE(s:ByteArray)(w:Í)(h:¬s.data.toList.head?=Â 48):Ò À 175 #[Ä s,Ä ⟨#[48]⟩] w λe b=>e=Æ (õ Ë)/\b=w:=by
 have H:=Tryz.strings_HasPrefix s ⟨#[48]⟩ w;have e:ź s.data.toList (Ű ⟨#[48]⟩).toList=Ë:=by
  generalize s.data.toList=l at h;cases l with
  |nil=>rfl
  |cons a r=>
   have c:¬a=48:=λq=>h (by rw[q];rfl);show((48:UInt8)==a&&List.isPrefixOf [] r)=Ë;have:((48:UInt8)==a)=Ë:=beq_eq_false_iff_ne.2 λq=>c q.symm;rw[this];rfl
 rwa[e]at H
def z8(k:Nat):ByteArray:=σ ⟨#[48,48,48,48,48,48,48,48,48,48,48,48,48,48,48,48,48,48,48,48,48,48,48,48,48,48,48,48,48,48,48,48,48,48,48,48,48,48,48,48,48,48,48,48,48,48,48,48,48,48,48,48,48,48,48,48,48,48,48,48,48,48,48,48]⟩ 0 k
def apF(k:Nat)(d:2<=k)(f:k<=64):Ò À 160 #[Ä ⟨#[48]⟩,Å É k] w λe a=>e=Æ (Ä<|z8 k)/\a=w:=by
 have g:((k:Int)==0)=Ë:=by simp;omega
 have h:((k:Int)==1)=Ë:=by simp;omega
 have i:¬(k:Int)<0:=Z
 have j:(0:Int)<=(k:Int):=Z
 have l:(k:Int)<=64:=Z
 have m:ã.wrap (k:Int)=(k:Int):=by rw[Ć];omega
 have n:É.wrap (k:Int)=(k:Int):=by rw[ŝ];omega
 have M:=Tryz.bits_Mul 1 k A Z w;rw[show 1*k/18446744073709551616=0 by omega,show 1*k%18446744073709551616=k by omega]at M;have c:=fc M;go_enter Œ,Ŋ;go_wp2_with (first
  |(go_at_call 174;refine c.out.mono ?_;rintro e a ⟨rfl,b⟩;subst a)
  |(go_at_call 175;refine(apE _ _ A).mono ?_;rintro e a ⟨rfl,b⟩;subst a)
  |(go_at_call 175;refine(apD _ _ A).mono ?_;rintro e a ⟨rfl,b⟩;subst a))
 go_ret;exact⟨U,U⟩
def apG:Ò À 160 #[Ä ⟨#[48]⟩,Å É 0] w λe a=>e=Æ (Ä ⟨#[]⟩)/\a=w:=by go_enter Œ,Ŋ;go_wp2;go_ret;exact⟨U,U⟩
def apH:Ò À 160 #[Ä ⟨#[48]⟩,Å É 1] w λe a=>e=Æ (Ä ⟨#[48]⟩)/\a=w:=by go_enter Œ,Ŋ;go_wp2;go_ret;exact⟨U,U⟩
def apI(k:Nat)(a:k<=64):Ò À 160 #[Ä ⟨#[48]⟩,Å É k] w λe b=>e=Æ (Ä<|z8 k)/\b=w:=by
 match k with
 |0=>exact apG
 |1=>exact apH
 |k+2=>exact apF (k+2) Z a
def Aa(n:Nat):ByteArray:=z8 (16-(nN n).size)++nN n
def aaY(n:Nat):(nN n).size<=16:=by show(sC 16 n []).toArray.size<=16;have:=aaU 16 n [];simpa using this
def aaZ(k:Nat):(z8 k).size<=k:=by unfold z8;rw[Č];omega
def apJ(n:Nat)(c:n<18446744073709551616)(d:qI w):Ò À 121 #[Å ã n] w λe a=>e=Æ (Ä<|Aa n)/\e8 (λ_=>False) w a:=by
 have g:=aaY n;have h:=aaZ<|16-(nN n).size;have T:=apC n c d;have R:∀W:Í,Ò À 160 #[Ä ⟨#[48]⟩,Å É ((16-(nN n).size:Nat):Int)] W λe a=>e=Æ (Ä<|z8<|16-(nN n).size)/\a=W:=λW=>apI _ Z;have i:É.wrap ((16:Int)-((nN n).size:Int))=((16-(nN n).size:Nat):Int):=by rw[ŝ];omega
 have j:(16:Int)-((nN n).size:Int)=((16-(nN n).size:Nat):Int):=Z
 have l:¬9223372036854775807<(z8<|16-(nN n).size).size+(nN n).size:=Z
 unfold Aa;have H:=fc<|Ê T R;generalize m:z8 (16-(nN n).size)=zs at*;generalize o:16-(nN n).size=k at*;generalize nN n=fs at*;go_enter Tryz.func121,Tryz.ntmps121;go_wp2_with (first
  |(go_at_call 157;refine H.out.1.mono ?_;rintro e p ⟨rfl,b⟩;have f:=fc b;clear b)
  |(go_at_call 160;refine(H.out.2 _).mono ?_;rintro e b ⟨rfl,p⟩;subst b))
 go_ret;exact⟨U,f.out⟩
structure pP(r:Nat)(x y g k:Nat)(kind v v2:Int)(slot:Nat)(w:Í):Prop where
 I:w.cell? ⟨r,0,Á⟩=Â (Å É x)
 S:w.cell? ⟨r,1,Á⟩=Â (Å É y)
 a:w.cell? ⟨r,2,Á⟩=Â (Å É g)
 Y:w.cell? ⟨r,3,Á⟩=Â (Å É k)
 N:w.cell? ⟨r,4,Á⟩=Â (Å É kind)
 M:w.cell? ⟨r,5,Á⟩=Â (Å É v)
 c:w.cell? ⟨r,6,Á⟩=Â (Å É v2)
 b:w.cell? ⟨r,7,Á⟩=Â (Å É slot)
def ig.N(h:ig u v vX W)(k:e8 (λ_=>False) w u):ig w v vX W:=by
 refine⟨⟨h.fj.1,?_⟩,k.fe h.r⟩;rcases h.fj.2 with q|⟨g,a,b,c,d,q⟩
 .exact È q
 .exact Ï ⟨g,a,b,c,Ì k.M d,q⟩
section
variable{cp r x y g slot:Nat}{v v2:Int}
def pP.C{w:Í}(h:pP r x y g k c v v2 slot w)(q:e8 (λ_=>False) w u):pP r x y g k c v v2 slot u:= ⟨q.r h.I id,q.r h.S id,q.r h.a id,q.r h.Y id,q.r h.N id,q.r h.M id,q.r h.c id,q.r h.b id⟩
def apK(F:Ò À 113 #[Ç O n cp,Å É v] w λe c=>e=Æ (jV<|Â i)/\e8 (λ_=>False) w c)(j:pP r x y g k 2 v v2 slot w)(p:x<8)(q:slot<16)(z:Nat)(l:w.cell? ⟨i,x*18+2+slot,Á⟩=Â (Å ã z)) (C:∀W,e8 (λ_=>False) w W->Ò À 118 #[Å ã z] W λe c=>e=Æ (Ä B)/\e8 (λ_=>False) W c): Ò À 67 #[Ç O n cp,Ã<|Â ⟨r,0,Á⟩] w λe c=>e=Æ (Ä B)/\e8 (λ_=>False) w c:=by
 have s:=j.M;have o:=j.N;have t:(0:Int)<=(x:Int):=Z
 have u:(x:Int)<8:=Z
 have D:(0:Int)<=(slot:Int):=Z
 have E:(slot:Int)<16:=Z
 have H:=fc<|Ê F C;have f:=fc j;clear F C j;go_enter ó,í;go_wp2_with (go_at_call 113;apply H.out.1.mono;rintro e d ⟨rfl,a⟩;dsimp only[jV,ð];have h:=a.r o id;have b:=fc a;clear a);refine mq (λc=>c.cell? ⟨r,0,Á⟩=Â (Å É x)/\c.cell? ⟨r,7,Á⟩=Â (Å É slot)/\c.cell? ⟨i,x*18+2+slot,Á⟩=Â (Å ã z)) [] fp ?_;have a:=fc (Ê ((f.out.C b.out).C<|e8.fS (λ_=>False) _).I<|Ê ((f.out.C b.out).C<|e8.fS (λ_=>False) _).b<|(b.out.fe<|e8.fS _ _).r l id);apply tk 0 a.out;apply tk 1 a.out;apply tk 2 a.out;apply tk 3 a.out;apply tk 4 a.out;apply tk 5 a.out;apply tk 6 a.out;apply tk 7 a.out;apply tk 8 a.out;apply tk 9 a.out;apply tk 10 a.out;apply tk 11 a.out;apply tk 12 a.out;apply tk 13 a.out;apply tk 14 a.out;apply tk 15 a.out;apply tk 16 a.out;apply gA 17;intro K h;go_simp;go_at_call 118;refine(H.out.2 _<|b.out.fe<|e8.fS _ _).mono ?_;rintro e G ⟨rfl,m⟩;have d:=fc m;clear m;dsimp only;apply h.out _ _ λ_=>⟨(f.out.C<|(b.out.fe<|e8.fS _ _).fe d.out).I,(f.out.C<|(b.out.fe<|e8.fS _ _).fe d.out).b,(((b.out.fe<|e8.fS _ _).fe d.out).r l id)⟩;clear h K;apply gA 18;intro K h;go_simp;apply h.out _ _ λ_=>⟨(f.out.C<|(b.out.fe<|e8.fS _ _).fe d.out).I,(f.out.C<|(b.out.fe<|e8.fS _ _).fe d.out).b,(((b.out.fe<|e8.fS _ _).fe d.out).r l id)⟩;clear h K;try simp only[Act.put,é,ý,þ]
 refine lY fp ?_ _;go_wp2_with fail;go_ret;exact⟨U,(b.out.fe<|e8.fS _ _).fe d.out⟩
def apL(F:Ò À 113 #[Ç O n cp,Å É v] w λe b=>e=Æ (jV<|Â i)/\e8 (λ_=>False) w b)(h:pP r x y g k 3 v v2 slot w)(p:x<8)(z:Nat)(j:w.cell? ⟨i,x*18,Á⟩=Â (Å ã z)) (C:∀W,e8 (λ_=>False) w W->Ò À 118 #[Å ã z] W λe b=>e=Æ (Ä B)/\e8 (λ_=>False) W b): Ò À 67 #[Ç O n cp,Ã<|Â ⟨r,0,Á⟩] w λe b=>e=Æ (Ä B)/\e8 (λ_=>False) w b:=by
 have q:=h.M;have o:=h.N;have s:(0:Int)<=(x:Int):=Z
 have t:(x:Int)<8:=Z
 have H:=fc<|Ê F C;have l:=fc h;clear F C h;go_enter ó,í;go_wp2_with (go_at_call 113;apply H.out.1.mono;rintro e d ⟨rfl,a⟩;dsimp only[jV,ð];have f:=a.r o id;have c:=fc a;clear a);refine mq (λb=>b.cell? ⟨r,0,Á⟩=Â (Å É x)/\b.cell? ⟨i,x*18,Á⟩=Â (Å ã z)) [] fp ?_;have a:=fc (Ê ((l.out.C c.out).C<|e8.fS (λ_=>False) _).I<|(c.out.fe<|e8.fS _ _).r j id);apply tk 0 a.out;apply tk 1 a.out;apply tk 2 a.out;apply tk 3 a.out;apply tk 4 a.out;apply tk 5 a.out;apply tk 6 a.out;apply tk 7 a.out;apply tk 8 a.out;apply tk 9 a.out;apply tk 10 a.out;apply tk 11 a.out;apply gA 12;intro K d;go_simp;go_at_call 118;refine(H.out.2 _<|c.out.fe<|e8.fS _ _).mono ?_;rintro e u ⟨rfl,m⟩;have f:=fc m;clear m;dsimp only;apply d.out _ _ λ_=>⟨(l.out.C<|(c.out.fe<|e8.fS _ _).fe f.out).I,(((c.out.fe<|e8.fS _ _).fe f.out).r j id)⟩;clear d K;apply gA 13;intro K d;go_simp;apply d.out _ _ λ_=>⟨(l.out.C<|(c.out.fe<|e8.fS _ _).fe f.out).I,(((c.out.fe<|e8.fS _ _).fe f.out).r j id)⟩;clear d K;try simp only[Act.put,é,ý,þ]
 refine lY fp ?_ _;go_wp2_with fail;go_ret;exact⟨U,(c.out.fe<|e8.fS _ _).fe f.out⟩
def apM(F:Ò À 113 #[Ç O n cp,Å É v] w λe d=>e=Æ (jV<|Â i)/\e8 (λ_=>False) w d)(j:pP r x y g k 4 v v2 slot w)(o:g<=400)(p:k<18446744073709551616) (C:∀W,e8 (λ_=>False) w W->Ò À 119 #[Ã<|Â ⟨i,0,Á⟩,Å É x,Å É y,Å ã g,Å ã k] W λe d=>e=Æ (Ä B)/\e8 (λ_=>False) W d): Ò À 67 #[Ç O n cp,Ã<|Â ⟨r,0,Á⟩] w λe d=>e=Æ (Ä B)/\e8 (λ_=>False) w d:=by
 have q:=j.M;have m:=j.N;have s:ã.wrap (k:Int)=(k:Int):=by rw[Ć];omega
 have t:ã.wrap (g:Int)=(g:Int):=by rw[Ć];omega
 have u:¬(400:Int)<(g:Int):=Z
 have z:(g:Int)<=400:=Z
 have H:=fc<|Ê F C;have c:=fc j;clear F C j;go_enter ó,í;go_wp2_with (go_at_call 113;apply H.out.1.mono;rintro e f ⟨rfl,a⟩;dsimp only[jV,ð];have h:=a.r m id;have l:=a.r c.out.a id;have b:=fc a;clear a);refine mq (λd=>d.cell? ⟨r,0,Á⟩=Â (Å É x)/\d.cell? ⟨r,1,Á⟩=Â (Å É y)/\d.cell? ⟨r,2,Á⟩=Â (Å É g)/\d.cell? ⟨r,3,Á⟩=Â (Å É k)) [] fp ?_;have a:=fc (Ê ((c.out.C b.out).C<|e8.fS (λ_=>False) _).I<|Ê ((c.out.C b.out).C<|e8.fS (λ_=>False) _).S<|Ê ((c.out.C b.out).C<|e8.fS (λ_=>False) _).a ((c.out.C b.out).C<|e8.fS (λ_=>False) _).Y);apply tk 0 a.out;apply tk 1 a.out;apply tk 2 a.out;apply tk 3 a.out;apply tk 4 a.out;apply tk 5 a.out;apply tk 6 a.out;apply tk 7 a.out;apply tk 8 a.out;apply tk 9 a.out;apply tk 10 a.out;apply tk 11 a.out;apply tk 12 a.out;apply tk 13 a.out;apply tk 14 a.out;apply tk 15 a.out;apply tk 16 a.out;apply tk 17 a.out;apply tk 18 a.out;apply tk 19 a.out;apply tk 20 a.out;apply tk 21 a.out;apply tk 22 a.out;apply gA 23;intro K h;go_simp;go_at_call 119;refine(H.out.2 _<|b.out.fe<|e8.fS _ _).mono ?_;rintro e D ⟨rfl,l⟩;have f:=fc l;clear l;dsimp only;apply h.out _ _ λ_=>⟨(c.out.C<|(b.out.fe<|e8.fS _ _).fe f.out).I,(c.out.C<|(b.out.fe<|e8.fS _ _).fe f.out).S,(c.out.C<|(b.out.fe<|e8.fS _ _).fe f.out).a,(c.out.C<|(b.out.fe<|e8.fS _ _).fe f.out).Y⟩;clear h K;apply gA 24;intro K h;go_simp;apply h.out _ _ λ_=>⟨(c.out.C<|(b.out.fe<|e8.fS _ _).fe f.out).I,(c.out.C<|(b.out.fe<|e8.fS _ _).fe f.out).S,(c.out.C<|(b.out.fe<|e8.fS _ _).fe f.out).a,(c.out.C<|(b.out.fe<|e8.fS _ _).fe f.out).Y⟩;clear h K;try simp only[Act.put,é,ý,þ]
 refine lY fp ?_ _;go_wp2_with fail;go_ret;exact⟨U,(b.out.fe<|e8.fS _ _).fe f.out⟩
def apN(F:Ò À 113 #[Ç O n cp,Å É v] w λe c=>e=Æ (jV<|Â i)/\e8 (λ_=>False) w c)(j:pP r x y g k 5 v v2 slot w)(o:k<18446744073709551616) (C:∀W,e8 (λ_=>False) w W->Ò À 120 #[Ã<|Â ⟨i,0,Á⟩,Å É x,Å É y,Å ã k] W λe c=>e=Æ (Ä B)/\e8 (λ_=>False) W c): Ò À 67 #[Ç O n cp,Ã<|Â ⟨r,0,Á⟩] w λe c=>e=Æ (Ä B)/\e8 (λ_=>False) w c:=by
 have p:=j.M;have m:=j.N;have q:ã.wrap (k:Int)=(k:Int):=by rw[Ć];omega
 have H:=fc<|Ê F C;have d:=fc j;clear F C j;go_enter ó,í;go_wp2_with (go_at_call 113;apply H.out.1.mono;rintro e f ⟨rfl,a⟩;dsimp only[jV,ð];have h:=a.r m id;have b:=fc a;clear a);refine mq (λc=>c.cell? ⟨r,0,Á⟩=Â (Å É x)/\c.cell? ⟨r,1,Á⟩=Â (Å É y)/\c.cell? ⟨r,3,Á⟩=Â (Å É k)) [] fp ?_;have a:=fc (Ê ((d.out.C b.out).C<|e8.fS (λ_=>False) _).I<|Ê ((d.out.C b.out).C<|e8.fS (λ_=>False) _).S ((d.out.C b.out).C<|e8.fS (λ_=>False) _).Y);apply tk 0 a.out;apply tk 1 a.out;apply tk 2 a.out;apply tk 3 a.out;apply tk 4 a.out;apply tk 5 a.out;apply tk 6 a.out;apply tk 7 a.out;apply tk 8 a.out;apply tk 9 a.out;apply tk 10 a.out;apply tk 11 a.out;apply tk 12 a.out;apply tk 13 a.out;apply tk 14 a.out;apply tk 15 a.out;apply tk 16 a.out;apply gA 17;intro K h;go_simp;go_at_call 120;refine(H.out.2 _<|b.out.fe<|e8.fS _ _).mono ?_;rintro e s ⟨rfl,l⟩;have f:=fc l;clear l;dsimp only;apply h.out _ _ λ_=>⟨(d.out.C<|(b.out.fe<|e8.fS _ _).fe f.out).I,(d.out.C<|(b.out.fe<|e8.fS _ _).fe f.out).S,(d.out.C<|(b.out.fe<|e8.fS _ _).fe f.out).Y⟩;clear h K;apply gA 18;intro K h;go_simp;apply h.out _ _ λ_=>⟨(d.out.C<|(b.out.fe<|e8.fS _ _).fe f.out).I,(d.out.C<|(b.out.fe<|e8.fS _ _).fe f.out).S,(d.out.C<|(b.out.fe<|e8.fS _ _).fe f.out).Y⟩;clear h K;try simp only[Act.put,é,ý,þ]
 refine lY fp ?_ _;go_wp2_with fail;go_ret;exact⟨U,(b.out.fe<|e8.fS _ _).fe f.out⟩
def apO(F:Ò À 113 #[Ç O n cp,Å É v] w λe a=>e=Æ (jV<|Â i)/\e8 (λ_=>False) w a)(b:pP r x y g k 6 v v2 slot w)(z:Nat)(C:∀W,e8 (λ_=>False) w W->Ò À 122 #[Ã<|Â ⟨i,0,Á⟩] W λe a=>e=Æ (Å ã z)/\e8 (λ_=>False) W a)(d:∀W,e8 (λ_=>False) w W->Ò À 121 #[Å ã z] W λe a=>e=Æ (Ä B)/\e8 (λ_=>False) W a): Ò À 67 #[Ç O n cp,Ã<|Â ⟨r,0,Á⟩] w λe a=>e=Æ (Ä B)/\e8 (λ_=>False) w a:=by
 have m:=b.M;have j:=b.N;have l:=fc d;clear d;have H:=fc<|Ê F C;have o:=fc b;clear F C b;go_enter ó,í;go_wp2_with (first
  |(go_at_call 113;refine H.out.1.mono ?_;rintro e h ⟨rfl,c⟩;dsimp only[jV,ð];have p:=c.r j id;have f:=fc c;clear c)
  |(go_at_call 122;refine(H.out.2 _ f.out).mono ?_;rintro e p ⟨rfl,c⟩;have h:=fc<|f.out.fe c;clear c)
  |(go_at_call 121;refine(l.out _ h.out).mono ?_;rintro e p ⟨rfl,c⟩;have f:=fc (h.out.fe c);clear c))
 go_ret;exact⟨U,f.out⟩
def apP(F:Ò À 113 #[Ç O n cp,Å É v] w λe b=>e=Æ (jV<|Â i)/\e8 (λ_=>False) w b)(d:pP r x y g k 7 v v2 slot w)(l:Option ü)(o p:Nat)(u:w.cell? ⟨i,144,Á⟩=Â (Ç l o p))(f:List ByteArray)(C:∀W,e8 (λ_=>False) w W->Ò À 124 #[Ç l o p] W λe b=>∃j,e=Æ j/\ig W j f b)(q:∀W a m c,ig w (Ç a m c) f W->Ò À 123 #[Ç a m c] W λe b=>e=Æ (Ä B)/\e8 (λ_=>False) W b): Ò À 67 #[Ç O n cp,Ã<|Â ⟨r,0,Á⟩] w λe b=>e=Æ (Ä B)/\e8 (λ_=>False) w b:=by
 have J:=d.M;have z:=d.N;have D:=fc q;clear q;have H:=fc<|Ê F C;have K:=fc d;clear F C d;go_enter ó,í;go_wp2_with (first
  |(go_at_call 113;refine H.out.1.mono ?_;rintro e t ⟨rfl,h⟩;dsimp only[jV,ð];have E:=h.r z id;have G:=h.r u id;have s:=fc h;clear h)
  |(go_at_call 124;refine(H.out.2 _ s.out).mono ?_;rintro e E ⟨j,rfl,h⟩;obtain⟨G,I,rfl⟩:=jj h.fj;generalize f.length=tn at h|-;have t:=fc (show ig w (Ç G tn I) f E from h.N s.out);clear h)
  |(go_at_call 123;refine(D.out _ _ _ _ t.out).mono ?_;rintro e E ⟨rfl,h⟩;have s:=fc (t.out.r.fe h);clear h))
 go_ret;exact⟨U,s.out⟩
def apQ(F:Ò À 113 #[Ç O n cp,Å É v] w λe b=>e=Æ (jV<|Â i)/\e8 (λ_=>False) w b)(d:pP r x y g k 8 v v2 slot w)(l:Option ü)(o p:Nat)(u:w.cell? ⟨i,146,Á⟩=Â (Ç l o p))(f:List ByteArray)(C:∀W,e8 (λ_=>False) w W->Ò À 125 #[Ç l o p] W λe b=>∃j,e=Æ j/\ig W j f b)(q:∀W a m c,ig w (Ç a m c) f W->Ò À 123 #[Ç a m c] W λe b=>e=Æ (Ä B)/\e8 (λ_=>False) W b): Ò À 67 #[Ç O n cp,Ã<|Â ⟨r,0,Á⟩] w λe b=>e=Æ (Ä B)/\e8 (λ_=>False) w b:=by
 have J:=d.M;have z:=d.N;have D:=fc q;clear q;have H:=fc<|Ê F C;have K:=fc d;clear F C d;go_enter ó,í;go_wp2_with (first
  |(go_at_call 113;refine H.out.1.mono ?_;rintro e t ⟨rfl,h⟩;dsimp only[jV,ð];have E:=h.r z id;have G:=h.r u id;have s:=fc h;clear h)
  |(go_at_call 125;refine(H.out.2 _ s.out).mono ?_;rintro e E ⟨j,rfl,h⟩;obtain⟨G,I,rfl⟩:=jj h.fj;generalize f.length=tn at h|-;have t:=fc (show ig w (Ç G tn I) f E from h.N s.out);clear h)
  |(go_at_call 123;refine(D.out _ _ _ _ t.out).mono ?_;rintro e E ⟨rfl,h⟩;have s:=fc (t.out.r.fe h);clear h))
 go_ret;exact⟨U,s.out⟩
def apR(F:Ò À 113 #[Ç O n cp,Å É v] w λe c=>e=Æ (jV<|Â i)/\e8 (λ_=>False) w c)(a:pP r x y g k 4 v v2 slot w)(j:400<g)(C:B=nW 6): Ò À 67 #[Ç O n cp,Ã<|Â ⟨r,0,Á⟩] w λe c=>e=Æ (Ä B)/\e8 (λ_=>False) w c:=by
 have l:=a.M;have d:=a.N;have m:(400:Int)<(g:Int):=Z
 have H:=fc<|Ê F C;have f:=fc a;clear F C a;go_enter ó,í;go_wp2_with (first
  |(go_at_call 113;refine H.out.1.mono ?_;rintro e o ⟨rfl,b⟩;dsimp only[jV,ð];have p:=b.r d id;have q:=b.r f.out.a id;have h:=fc b;clear b)
  |(go_at_call 114;refine(FT 6 A _).mono ?_;rintro e b ⟨rfl,o⟩;subst b))
 go_ret;exact⟨by rw[H.out.2];rfl,h.out⟩
def apS(F:Ò À 113 #[Ç O n cp,Å É v] w λe a=>e=Æ (jV<|Â i)/\e8 (λ_=>False) w a)(b:pP r x y g k 9 v v2 slot w)(C:B=nW 3)(d:∀W,e8 (λ_=>False) w W->Ò À 113 #[Ç O n cp,Å É v2] W λe a=>e=Æ (jV Á)/\e8 (λ_=>False) W a): Ò À 67 #[Ç O n cp,Ã<|Â ⟨r,0,Á⟩] w λe a=>e=Æ (Ä B)/\e8 (λ_=>False) w a:=by
 have p:=b.M;have j:=b.N;have l:=fc d;clear d;have H:=fc<|Ê F C;have m:=fc b;clear F C b;go_enter ó,í;go_wp2_with (first
  |(go_at_call 113;with_reducible refine H.out.1.mono ?_;rintro e h ⟨rfl,c⟩;dsimp only[jV,ð];have o:=c.r j id;have q:=c.r m.out.c id;have f:=fc c;clear c)
  |(go_at_call 113;refine(l.out _ f.out).mono ?_;rintro e c ⟨rfl,h⟩;dsimp only[jV,ð];have o:=fc<|f.out.fe h;clear h)
  |(go_at_call 114;refine(FT 3 A _).mono ?_;rintro e c ⟨rfl,h⟩;subst c))
 go_ret;exact⟨by rw[H.out.2];rfl,o.out⟩
def apT(F:Ò À 113 #[Ç O n cp,Å É v] w λe b=>e=Æ (jV<|Â i)/\e8 (λ_=>False) w b)(h:pP r x y g k 9 v v2 slot w)(C:True)(q:∀W,e8 (λ_=>False) w W->Ò À 113 #[Ç O n cp,Å É v2] W λe b=>e=Æ (jV<|Â j)/\e8 (λ_=>False) W b)(o:List ByteArray)(s:∀W,e8 (λ_=>False) w W->Ò À 126 #[Ã<|Â ⟨i,0,Á⟩,Ã<|Â ⟨j,0,Á⟩] W λe b=>∃p,e=Æ p/\ig W p o b)(t:∀W a m c,ig w (Ç a m c) o W->Ò À 123 #[Ç a m c] W λe b=>e=Æ (Ä B)/\e8 (λ_=>False) W b): Ò À 67 #[Ç O n cp,Ã<|Â ⟨r,0,Á⟩] w λe b=>e=Æ (Ä B)/\e8 (λ_=>False) w b:=by
 have L:=h.M;have E:=h.N;have G:=fc q;have u:=fc<|Ê s t;clear q s t;have H:=fc<|Ê F C;have I:=fc h;clear F C h;go_enter ó,í;go_wp2_with (first
  |(go_at_call 113;with_reducible refine H.out.1.mono ?_;rintro e z ⟨rfl,d⟩;dsimp only[jV,ð];have l:=d.r E id;have D:=d.r I.out.c id;have f:=fc d;clear d)
  |(go_at_call 113;refine(G.out _ f.out).mono ?_;rintro e l ⟨rfl,d⟩;dsimp only[jV,ð];have z:=fc (f.out.fe d);clear d))
 apply mq (λb=>True/\True) [] fp;have d:=fc<|Ê trivial trivial;apply tk 0 d.out;apply tk 1 d.out;apply tk 2 d.out;apply tk 3 d.out;apply tk 4 d.out;apply tk 5 d.out;apply tk 6 d.out;apply tk 7 d.out;apply gA 8;intro K f;go_simp;go_at_call 126;refine(u.out.1 _<|z.out.fe<|e8.fS _ _).mono ?_;rintro e M ⟨p,rfl,l⟩;obtain⟨N,P,rfl⟩:=jj l.fj;generalize o.length=tn at l|-;have D:=fc<|l.N<|z.out.fe<|e8.fS _ _;clear l;dsimp only;apply f.out _ _ λ_=>⟨trivial,trivial⟩;clear f K;apply gA 9;intro K f;go_simp;go_at_call 123;refine(u.out.2 _ _ _ _ D.out).mono ?_;rintro e Q ⟨rfl,z⟩;have J:=fc<|D.out.r.fe z;clear z;dsimp only;apply f.out _ _ λ_=>⟨trivial,trivial⟩;clear f K;apply gA 10;intro K f;go_simp;apply f.out _ _ λ_=>⟨trivial,trivial⟩;clear f K;try simp only[Act.put,é,ý,þ]
 refine lY fp ?_ _;go_wp2_with fail;go_ret;exact⟨U,J.out⟩
def apU(F:Ò À 113 #[Ç O n cp,Å É v] w λe a=>e=Æ (jV Á)/\e8 (λ_=>False) w a)(b:pP r x y g k h v v2 slot w): Ò À 67 #[Ç O n cp,Ã<|Â ⟨r,0,Á⟩] w λe a=>e=Æ (Ä<|nW 3)/\e8 (λ_=>False) w a:=by
 have f:=b.M;have H:=fc F;clear F b;go_enter ó,í;go_wp2_with (first
  |(go_at_call 113;refine H.out.mono ?_;rintro e i ⟨rfl,c⟩;dsimp only[jV,ð];have d:=fc c;clear c)
  |(go_at_call 114;refine(FT 3 A _).mono ?_;rintro e c ⟨rfl,i⟩;subst c))
 go_ret;exact⟨U,d.out⟩
end
structure Qn where
 x:Nat
 y:Nat
 g:Nat
 k:Nat
 r:Int
 v:Int
 C:Int
 I:Nat
structure Qn.Ok(q:Qn):Prop where
 x:q.x<8
 y:q.y<8
 g:q.g<1000000
 k:q.k<18446744073709551616
 ave:2<=q.r
 avf:q.r<=9
 v:-1<=q.v
 v2:-1<=q.C
 avg:q.I<16
def DF(a:List ByteArray):ByteArray:=if a=[]then⟨#[45]⟩else jb ⟨#[44]⟩ a
def DG(a:List (Nat×fH))(p:fH)(q:Qn):ByteArray:=
 if q.r=2 then fI ((p.s q.x).C q.I).toNat
 else if q.r=3 then fI (p.s q.x).fu.toNat
 else if q.r=4 then if 400<q.g then nW 6 else DC (gi p.s [] q.x q.y q.g q.k)
 else if q.r=5 then oD p.s q.x q.y q.k 0 401
 else if q.r=6 then Aa (xZ p.s)
 else if q.r=7 then DF (p.r.map rC)
 else if q.r=8 then DF (p.C.map F8)
 else match ma a q.C with
  |none=>nW 3
  |some b=>DF<|pO p.s b.2.s 8
def rD(a:List (Nat×fH))(q:Qn):ByteArray:=
 match ma a q.v with
 |none=>nW 3
 |some p=>DG a p.2 q
def T9{M:Nat}(b:∀z∈vX,z.size<=M)(d:M<=100)(f:vX.length<=400000)(h:ig w (Ç O m i) vX W): Ò À 123 #[Ç O m i] W λe g=>e=Æ (Ä<|DF vX)/\e8 (λ_=>False) W g:=by obtain⟨e,g,j⟩:=h.I;have k:=Gf vX b;have:M*vX.length<=100*400000:=ű d f;exact apq g Z j e Z
def apV(s:St):xZ s<18446744073709551616:=by unfold xZ Nx;exact TD _ _<|aat λi=>aaw _ _ _
theorem Ua{b:ByteArray}(c:B.size<=1)(d:b.size<=1):(B++b).size<=2:=by grind
def aa0(s t:St):∀z∈pO s t 8,z.size<=2:=λz a=>by
 unfold pO at a;obtain⟨i,_,h⟩:=Ş.1 a;unfold yd vW at h;rcases â.1 h with h|h
 .rcases â.1 h with h|h
  .split at h
   .cases h
   .simp at h;subst h;exact Ua (ye i)<|æ _
  .split at h
   .cases h
   .simp at h;subst h;exact Ua (ye i)<|æ _
 .unfold qH at h;obtain⟨j,_,h⟩:=Ş.1 h;unfold Dy at h;split at h
  .cases h
  .simp at h;subst h;exact Ua (ye i)<|aaL j
section
variable{cp:Nat}{vs:List (Nat×fH)}{q:Qn}
def apW(u:qG O n vs w)(S:n<=1000)(T:0<n)(hvo:∀p∈vs,TO p.2)(d:pP i q.x q.y q.g q.k q.r q.v q.C q.I w)(ok:q.Ok)(V:iJ w)(o:lO w)(hd:qI w): Ò À 67 #[Ç O n cp,Ã<|Â ⟨i,0,Á⟩] w λe G=>e=Æ (Ä<|rD vs q)/\e8 (λ_=>False) w G:=by
 have F:=NB (cp:=cp) u S T q.v ok.v;unfold rD;cases B:ma vs q.v with
 |none=>
  rw[B]at F;exact apU F d
 |some p=>
  rw[B]at F;have h:=F;have X:=JN B;have f:=u.M X;have j:=hvo p X;obtain⟨x,y,g,k,kind,v,C,Y⟩:=q;obtain⟨r,H,hg,I,uN,uk,hv,NY,J⟩:=ok;simp only at r H hg I uN uk hv NY J d h B|-;obtain⟨cb,_,cs⟩:=f.r.gT r;have HM:gd (k:Int):=⟨Z,Z⟩;unfold DG;simp only;split
  .rename_i e;subst e;have c:=cs Y J;have l:=f.C.C x Y;rw[<-ņ l.1]at c;exact apK h d r J _ c λW b=>yc _ (by have:=l.1;have:=l.2;omega) W<|o.r b
  .split
   .rename_i e;subst e;have l:=f.C.fu x;rw[<-ņ l.1]at cb;exact apL h d r _ cb λW b=>yc _ (by have:=l.1;have:=l.2;omega) W<|o.r b
   .split
    .rename_i e;subst e;split
     .rename_i hh;exact apR h d hh U
     .exact apM h d Z I λW b=>apt (f.r.r b id) f.C (V.r b id) (o.r b) x y g k r H Z Z HM
    .split
     .rename_i e;subst e;exact apN h d I λW b=>aoL (f.r.r b id) f.C (V.r b id) (o.r b) r H HM
     .split
      .rename_i e;subst e;exact apO h d _ (λW b=>an4 (f.r.r b id) f.C) λW b=>apJ _ (apV _)<|hd.r b
      .split
       .rename_i e;subst e;obtain⟨K,L,M,N⟩:=f.N;exact apP h d K _ L M _ (λW b=>aaG U j.I j.C (o.r b)<|nK.C N b) λW a m c t=>T9 (λz P=>by obtain⟨e,D,rfl⟩:=Ú.1 P;exact NU (j.C e D).2) Z (by rw[ù];exact j.I) t
       .split
        .rename_i e;subst e;obtain⟨K,L,M,N⟩:=f.S;exact apQ h d K _ L M _ (λW b=>aoS U j.M j.r (o.r b)<|nK.C N b) λW a m c t=>T9 (λz P=>by obtain⟨e,D,rfl⟩:=Ú.1 P;exact aaS (j.r e D).1 (j.r e D).2) Z (by rw[ù];have:=j.M;omega) t
        .have e:kind=9:=Z
         subst e;have E:∀W,e8 (λ_=>False) w W->Ò À 113 #[Ç O n cp,Å É C] W λe G=>e=Æ (jV ((ma vs C).map (·.1)))/\e8 (λ_=>False) W G:=λW b=>NB (u.I b) S T C NY;cases Q:ma vs C with
         |none=>
          rw[Q]at E;exact apS h d U E
         |some p2=>
          rw[Q]at E;exact apT h d trivial E _ (λW b=>ao4 (f.r.r b id)<|(u.M<|JN Q).r.r b id) λW a m c t=>T9 (aa0 _ _) Z (by have:=TW p.2.s p2.2.s 8;omega) t
end
end Go.Proofs.Y.gw
namespace Go.Proofs.Y.kH
open Go Go.Proofs Go.RowKit Go.Proofs.Y.Lift Go.Proofs.Y.gw
def ku(a:List (Nat×fH)):List fH:=a.map (·.2)
def aa1(d:fH)(l:List fH):fH:=l.foldl (λa b=>if a.h<b.h then b else a) d
theorem aa2:∀(a:List (Nat×fH)) (d:Nat×fH),(tF d a).2=aa1 d.2 (ku a)
 |[],_=>rfl
 |x::r,d=>by show(tF (ya d x) r).2=aa1 (if d.2.h<x.2.h then x.2 else d.2) (ku r);rw[aa2 r];unfold ya;split<;>rfl
theorem Ub{a b:List (Nat×fH)}(h:ku a=ku b)(v:Int):(ma a v).map (·.2)=(ma b v).map (·.2):=by
 have c:∀i:Nat,(a[i]?).map (·.2)=(b[i]?).map (·.2):=λi=>by have:=congrArg (λl:List fH=>l[i]?) h;simpa[ku]using this
 unfold ma;grind [aa2]
theorem apX{a b:List (Nat×fH)}(h:ku a=ku b):a.length=b.length:=by have:=congrArg List.length h;simpa[ku]using this
theorem aa3{a b:List (Nat×fH)}(h:ku a=ku b)(v:Int)(x:Nat)(gJ:List Tx):rB a v x gJ=rB b v x gJ:=by have c:=Ub h v;unfold rB;grind [apX]
theorem apY{a b:List (Nat×fH)}(h:ku a=ku b)(q:Qn):rD a q=rD b q:=by
 have c:=Ub h q.v;have d:=Ub h q.C;have e:∀p:fH,DG a p q=DG b p q:=λp=>by unfold DG;grind
 unfold rD;grind
structure lE(s:List fH):Prop where
 I:0<s.length
 C:s.length<=40
 r:∀v∈s,TO v/\gH v.s/\0<=v.h/\v.h<s.length
def sD(a:List (Nat×fH))(v:Int)(x:Nat)(gJ:List Tx):List fH:=ku a++(rB a v x gJ).1.toList
def lE.M{f:List (Nat×fH)}(h:lE (ku f)){gJ:List Tx}(j:∀t∈gJ,t.Ok)(l:gJ.length<=1000):lE (sD f c i gJ):=by
 unfold kH.sD;have z:(ku f).length=f.length:=by simp[ku]
 unfold rB;cases m:ma f c with
 |none=>simpa using h
 |some p=>
  have n:p.2∈ku f:=Ú.2 ⟨p,JN m,U⟩;let⟨B,k,C,D⟩:=h.r _ n;simp only;split
  .simpa using h
  .rename_i E;cases g:vV i p.2.s gJ with
   |none=>simpa using h
   |some r=>
    simp only[Option.toList];have F:=h.C;have o:gH r.1:=by unfold vV at g;obtain⟨G,w,rfl⟩:=ò.1 g;exact(TP gJ j k (λ_ q=>by cases q) (λ_ q=>by cases q) (by simp;omega) (by simp;omega) w).1.r i<|zI _
    refine⟨fi,by simp;omega,λu y=> ?_⟩;rcases â.1 y with q|q
    .let⟨a,b,e,d⟩:=h.r u q;refine⟨a,b,e,?_⟩;rw[Ù];simp;omega
    .simp at q;subst q;refine⟨aoz j k l g,o,by show 0<=p.2.h+1;omega,?_⟩;rw[Ù];show p.2.h+1<_;simp;omega
def iW(Y:fl)(u w:Í):Prop:=∀(i j o:Nat) (v:Ñ),Y i j->u.cell? ⟨i,o,Á⟩=Â v->∃a,w.cell? ⟨j,o,Á⟩=Â a/\fh Y v a
section
variable{Y:fl}
theorem apZ{k:IntKind}(h:fh Y (Å k c) v):v=Å k c:=by cases h;rfl
theorem ap0(h:fh Y (Ä B) v):v=Ä B:=by cases h;rfl
theorem NZ(h:fh Y (Ã<|Â a) v):∃b,v=Ã (Â b)/\gZ Y a b:=by
 cases h with
 |j0 q=>exact⟨_,U,q⟩
def N0(h:fh Y (Ç O n i) v):∃b,v=Ç b n i/\∀a,O=Â a->∃d,b=Â d/\gZ Y a d:=by
 cases h with
 |nR=>exact⟨Á,U,λa q=>by cases q⟩
 |kU q=>exact⟨_,U,λa e=>by cases e;exact⟨_,U,q⟩⟩
theorem ap1(a:kq v=Î)(h:fh Y v x):x=v:=by cases h<;>first|rfl|(simp[kq]at a;done)
theorem Ab(h:gZ Y ⟨b,i,Á⟩ a):∃c,a=⟨c,i,Á⟩/\Y b c:=by let⟨d,e,f⟩:=h;let⟨c,g,j⟩:=a;grind
theorem iW.r(a:iW Y u w){k:IntKind}(h:Y i j)(d:u.cell? ⟨i,b,Á⟩=Â (Å k c)):w.cell? ⟨j,b,Á⟩=Â (Å k c):=by let⟨e,f,g⟩:=a i j b _ h d;grind [apZ]
theorem iW.C(a:iW Y u w)(h:Y i j)(b:u.cell? ⟨i,n,Á⟩=Â (Ä B)):w.cell? ⟨j,n,Á⟩=Â (Ä B):=by let⟨c,d,e⟩:=a i j n _ h b;grind [ap0]
theorem iW.ap2(a:iW Y u w)(c:kq v=Î)(h:Y i j)(b:u.cell? ⟨i,n,Á⟩=Â v):w.cell? ⟨j,n,Á⟩=Â v:=by let⟨d,e,f⟩:=a i j n _ h b;grind [ap1]
def Uc(s:gw.St):∀v∈iu s,(∃n,v=Å ã n)\/∃p,v=Ä p:=λv n=>by
 unfold iu at n;obtain⟨i,_,rfl⟩:=Ú.1 n;unfold qA qz;split
 .exact È ⟨_,U⟩
 .split
  .exact Ï ⟨_,U⟩
  .exact È ⟨_,U⟩
def ap3(a:iW Y u w){s:gw.St}(c:Y b i)(d:my b s h u):my i s h w:=by
 refine⟨λj v e=> ?_,a.r c d.h⟩;have f:=d.C j v e;rcases Uc s v (ç e)with⟨n,rfl⟩|⟨p,rfl⟩
 .exact a.r c f
 .exact a.C c f
def aa4(a:iW Y u w)(f:Y b i)(g:∀v∈l,kq v=Î)(h:zS ⟨b,j,Á⟩ n l u):zS ⟨i,j,Á⟩ n l w:=by let⟨p,c,k,m⟩:=h;let⟨G,q,r⟩:=a b i j _ f k;obtain⟨s,rfl,t⟩:=N0 r;refine⟨s,c,q,λd x e=> ?_⟩;let⟨H,y,z,B⟩:=m d x e;let⟨I,C,D⟩:=t _ z;obtain⟨E,rfl,F⟩:=Ab D;exact⟨E,y,C,a.ap2 (g x<|ç e) F B⟩
def ap4(a:iW Y u w){v:fH}(c:Y b i)(h:sy b v u):sy i v w:= ⟨ap3 a c h.r,h.C,h.I,h.M,aa4 a c (B' _) h.N,aa4 a c (aad _) h.S⟩
def wH{α β:Type}{R:Nat->α->β->Prop}:∀(l:List α) (k:Nat),(∀j x,l[j]?=Â x->∃y,R (k+j) x y)->∃a:List β,a.length=l.length/\∀j y,a[j]?=Â y->∃x,l[j]?=Â x/\R (k+j) x y
 |[],_,_=>⟨[],U,λj y h=>by simp at h⟩
 |x::r,k,h=>by
  let⟨y,c⟩:=h 0 x U;obtain⟨a,d,e⟩:=wH r (k+1) λj z b=>by let⟨q,f⟩:=h (j+1) z b;exact⟨q,by rwa[show k+1+j=k+(j+1) by omega]⟩
  refine⟨y::a,by simp[d],λj z b=> ?_⟩;cases j with
  |zero=>cases b;exact⟨x,U,c⟩
  |succ j=>
   let⟨q,f,g⟩:=e j z b;exact⟨q,f,by rwa[show k+(j+1)=k+1+j by omega]⟩
theorem JQ(a:iW Y u w){e:List (Nat×fH)}(i:fh Y z jQ)(h:NC z e u):∃c,ku c=ku e/\NC jQ c w:=by
 obtain⟨J,n,k,rfl,l,f⟩:=h;obtain⟨g,rfl,m⟩:=N0 i;let⟨c,o,K⟩:=wH (R:=λj (x y:Nat×fH)=>x.2=y.2/\∃q d,g=Â ⟨q,d,Á⟩/\w.cell? ⟨q,d+j,Á⟩=Â (Ã<|Â ⟨y.1,0,Á⟩)/\sy y.1 y.2 w) e 0 λj x p=>by let⟨b,v⟩:=x;let⟨q,d,r,s,t⟩:=f.C j b v p;let⟨L,B,C⟩:=m _ r;obtain⟨y,rfl,D⟩:=Ab C;let⟨M,E,F⟩:=a q y _ _ D s;obtain⟨N,rfl,G⟩:=NZ F;obtain⟨H,rfl,I⟩:=Ab G;exact⟨(H,v),U,y,d,B,by rwa[œ],ap4 a I t⟩
 refine⟨c,?_,g,n,k,U,l,⟨by rw[o];exact f.r,λj b v q=> ?_⟩⟩
 .refine Ŕ λj=> ?_;unfold ku;grind
 .grind
end
def ln(a:Nat->Prop)(B:Nat):fl:=⟨λi j=>i=j/\a i,B⟩
def ap5(a:Nat->Prop)(B:Nat):Bi (ln a B):= ⟨λ_ _ _ h k=>h.1.symm.trans k.1,λ_ _ _ h k=>h.1.trans k.1.symm,λi j h=>by rw[h.1]⟩
def Ac{V:Nat->Prop}{B:Nat}(h:∀i,X i->V i):(ln X B).r (ln V B):=⟨λ_ _ q=>⟨q.1,h _ q.2⟩,λ_=>ap5 V B,U⟩
def kI(B:Nat)(a:Nat->Prop)(w:Í):Prop:=∀b,a b->∃c e d,w.heap[b]?=Â (Û c e d)/\d.2<=c.size/\fR (ln a B) c c/\0<c.size/\Eh c/\e≠304/\e≠305
section
variable{B:Nat}{V:Nat->Prop}
def kI.I(h:kI B X w)(k:kI B V w):kI B (λb=>X b\/V b) w:=by
 rintro b (q|q)
 .let⟨c,e,a,d,f,g,i⟩:=h b q;exact⟨c,e,a,d,f,g.I (Ac λ_=>È),i⟩
 .let⟨c,e,a,d,f,g,i⟩:=k b q;exact⟨c,e,a,d,f,g.I (Ac λ_=>Ï),i⟩
def kI.C(h:kI B X w)(k:∀b,X b->u.heap[b]?=w.heap[b]?):kI B X u:=λb q=>by let⟨c,e,a,d,f⟩:=h b q;exact⟨c,e,a,by rwa[k b q],f⟩
theorem kI.r(h:kI B X w)(a:X b)(d:w.cell? ⟨b,i,Á⟩=Â v):fh (ln X B) v v:=by let⟨c,e,j,f,_,g,_⟩:=h b a;simp only[à,f,ö,ì,if_false]at d;rcases g.S i with⟨q,_⟩|⟨x,k,l,m,n⟩;all_goals grind
def DL(h:fh (ln X B) (Ã<|Â a) v):X a.block:=by
 cases h with
 |j0 q=>exact q.1.2
def DR(h:fh (ln X B) (Ç (Â a) n i) v):X a.block:=by
 cases h with
 |kU q=>exact q.1.2
def ap6{Y:fl}(h:kq v=Î):fh Y v v:=by cases v<;>first|exact .mC _|exact .iC _ _|(simp[kq]at h;done)
def pQ{Y:fl}(h:∀v∈d.toList,fh Y v v):fR Y d d:=⟨U,λi a _=>h _<|î.2<|ă a⟩
def ap7(h:kq v=Î):yt v=Ë:=by
 cases v with
 |int k n=>cases k<;>first|rfl|(simp[kq]at h;done)
 |_=>rfl
def Ad(h:∀v∈d.toList,yt v=Ë):Eh d:=λk v a=>h v<|î.2<|ĵ a
def JR(v:Ñ)(i:Nat):Prop:=v.ownBlock=Â i
def JS(X:Nat->Prop)(g b:Nat)(a c:Ñ)(i:Nat):Prop:=X i\/i=g\/i=b\/JR a i\/JR c i
def aa5{G:Í}(a:mj T=Î)(h:tH v T u)(o:∀j,v.ownBlock=Â j->G.heap.size<=j)(p:sj G.heap.size u):∀i,JR v i->∃c e f,u.heap[i]?=Â (Û c e f)/\f.2<=c.size/\fR (ln V B) c c/\0<c.size/\Eh c/\e≠304/\e≠305:=λi b=>by
 rcases h with rfl|⟨g,n,c,k,rfl,l⟩
 .cases b
 .have e:g=i:=by unfold JR at b;simpa[Value.ownBlock]using b
  subst e;let⟨r,m⟩:=p g k T (0,0) (o g U) l a;exact⟨k,T,(0,0),l,Ø _,pQ λv d=>ap6<|m v d,r,Ad λv d=>ap7<|m v d,(λq=>by rw[q]at a;cases a),(λq=>by rw[q]at a;cases a)⟩
def aa6(h:tH v T u)(a:∀i,JR v i->V i):fh (ln V B) v v:=by
 rcases h with rfl|⟨g,n,c,b,rfl,d⟩
 .exact .nR _ _
 .exact fh.kU (Y:=ln V B) ⟨⟨U,a g U⟩,U,U⟩ n c
theorem ap8{G:Í}(J:kI B X G)(k:e8 (λ_=>False) G u)(K:∀i,X i->i<G.heap.size){l:List (Nat×fH)}{s:gw.St}(o:TK b s h G u)(r:TJ l b G u m)(L:∀p∈l,X p.1): ∃e,(∀i,X i->e i)/\e m/\kI B e u/\∀i,e i->X i\/G.heap.size<=i:=by
 have t:=k.Y _ λi c T w M y=>by rw[ı M]at y;cases y
 let⟨a,d,N,z,C,D,E⟩:=o.r;refine⟨JS X m b a d,λi q=>È q,Ï<|È U,?_,?_⟩
 .rintro i (q|rfl|rfl|q|q)
  .let⟨c,e,w,n,x,f,j⟩:=J i q;exact⟨c,e,w,by rwa[k.N i (K i q) id],x,f.I (Ac λ_=>È),j⟩
  .let⟨F,n,x,f⟩:=r.r;have H:∀v∈F.toList,v=Ã Á\/∃j,v=Ã (Â ⟨j,0,Á⟩)/\JS X i b a d j:=λv e=>by
    rcases f v e with q|q|q
    .unfold sB at q;obtain⟨p,I,rfl⟩:=Ú.1 q;exact Ï ⟨_,U,È<|L p I⟩
    .exact Ï ⟨_,q,Ï<|Ï<|È U⟩
    .exact È q
   refine⟨F,136,(0,0),n,Ø _,pQ λv e=> ?_,x,Ad λv e=> ?_,A,A⟩
   .rcases H v e with rfl|⟨j,rfl,I⟩
    .exact .lS
    .exact .j0 ⟨⟨U,I⟩,U,U⟩
   .rcases H v e with rfl|⟨j,rfl,I⟩<;>rfl
  .have f:∀v∈ja s a++[Å É h,d],fh (ln (JS X m i a d) B) v v/\yt v=Ë:=λv e=>by
    rw[zO]at e;have I:=aa6 (B:=B) (V:=JS X m i a d) z λj q=>Ï<|Ï<|Ï<|È q;have F:=aa6 (B:=B) (V:=JS X m i a d) C λj q=>Ï<|Ï<|Ï<|Ï q;have H:∀{x:Ñ} {T:č},tH x T u->yt x=Ë:=λ{x T} q=>by rcases q with rfl|⟨_,_,_,_,rfl,_⟩<;>rfl
    rcases â.1 e with q|q
    .rcases â.1 q with q|q
     .rcases Uc s v q with⟨n,rfl⟩|⟨p,rfl⟩
      .exact⟨.iC _ _,U⟩
      .exact⟨.kJ _,U⟩
     .grind
    .simp at q;rcases q with rfl|rfl
     .exact⟨.iC _ _,U⟩
     .grind
   exact⟨_,147,(0,0),N,Ø _,pQ λv e=>(f v<|by simpa using e).1,by simp[mK],Ad λv e=>(f v<|by simpa using e).2,A,A⟩
  .exact aa5 U z D t i q
  .exact aa5 U C E t i q
 .rintro i (q|rfl|rfl|q|q)
  .exact È q
  .exact Ï r.C
  .exact Ï o.C
  .exact Ï<|D i q
  .exact Ï<|E i q
def N4{Y:fl}(h:fh Y v x):fh (ln X B) v v->fh (ln (λj=>∃i,X i/\Y i j) B) x x:=by
 induction h with
 |mC b=>exact λ_=> .mC b
 |iC k n=>exact λ_=> .iC k n
 |kJ s=>exact λ_=> .kJ s
 |lS=>exact λ_=> .lS
 |@j0 a a' q=>exact λz=>fh.j0 (Y:=ln (λj=>∃i,X i/\Y i j) B) ⟨⟨U,_,DL z,q.1⟩,U,U⟩
 |nR n c=>exact λ_=> .nR n c
 |@kU a a' q n c=>exact λz=>fh.kU (Y:=ln (λj=>∃i,X i/\Y i j) B) ⟨⟨U,_,DR z,q.1⟩,U,U⟩ n c
 |vd=>exact λ_=> .vd
 |fn f=>exact λ_=> .fn f
 |ve=>exact λ_=> .ve
 |vf=>exact λ_=> .vf
 |vg=>exact λ_=> .vg
 |yp t _ b=>exact λz=> .yp t (b (by cases z with|yp _ y=>exact y))
 |oK f _ b=>exact λz=> .oK U λi c _=>b i (by rwa[f]) c (by cases z with|oK _ y=>exact y i _ _)
 |nS f _ b=>exact λz=> .nS U λi c _=>b i (by rwa[f]) c (by cases z with|nS _ y=>exact y i _ _)
def ap9{Y:fl}(h:fh Y v x):yt x=yt v:=by cases h<;>rfl
theorem Ud{Y:fl}{r:Nat->Prop}(h:jh Y r u w)(s:kI B X u):kI B (λj=>∃i,X i/\Y i j) w:=by
 rintro j ⟨i,t,x⟩;let⟨c,a,e,F,y,z,C,b,G,H,I⟩:=h.r i j x;let⟨d,J,qS,m,_,D,K,E,n,o⟩:=s i t;rw[z]at m;cases m;have L:=b.C.resolve_right λq=>q.2.1.elim n o;refine⟨a,e,y,C,?_,pQ λv f=> ?_,Z,Ad λv f=> ?_,n,o⟩
 .grind
 .obtain⟨k,g,rfl⟩:=Ĝ f;have l:k<a.size:=by simpa using g
  have:=N4 (b.r k Z l)<|D.C k Z Z;simpa using this
 .obtain⟨k,g,rfl⟩:=Ĝ f;have l:k<a.size:=by simpa using g
  have p:=ap9<|b.r k Z l;rw[(E k c[k]<|å Z)]at p;simpa using p
def Ae{Y:fl}(h:jh Y X u w):iW Y u w:=λi j o v b c=>h.gy (a:=⟨i,o,Á⟩) (a':=⟨j,o,Á⟩) ⟨b,U,U⟩ c
end
end Go.Proofs.Y.kH
namespace Go.Proofs.Y.Lift
open Go
def aa7{α β:Type}{c:α->β->Option (ForInStep β)}{I:β->Prop}(d:∀a b s,I b->c a b=Â s->I s.value): ∀(l:List α) (b r:β),I b->forIn l b c=Â r->I r
 |[],b,r,hi,h=>by simp at h;subst h;exact hi
 |a::l,b,r,hi,h=>by
  rw[List.forIn_cons]at h;cases e:c a b with
  |none=>rw[e]at h;simp at h
  |some s=>
   rw[e]at h;have:=d a b s hi e;cases s with
   |done x=>simp at h;subst h;exact this
   |yield x=>simp at h;exact aa7 d l x r this h
def jS.gT(h:jS v):∀x∈v.cells,jS x:=by
 intro x a;cases h with
 |oK h=>
  obtain⟨i,b,rfl⟩:=Array.mem_iff_getElem.1 a;exact h i b
 |nS h=>simp[Ĺ]at a;subst a;exact .nS h
 |_=>simp[Ĺ]at a;subst a;constructor
def ZP(a:č->Option ħ):Prop:=∀t i z,a t=Â i->i.zero=Â z->jS z
def Ue(h:∀x∈d,jS x):jS (.agg d):=.oK λ_ a=>h _<|ă a
theorem aqa{l:č->Option ħ}(h:ZP l){m:Array Field}(g:ŕ l m=Â zJ)(q:zJ.zero=Â z):jS z:=by
 unfold ŕ at g;simp only[<-Array.forIn_toList]at g;generalize t:(forIn m.toList _ _:Option _)=L at g;cases L with
 |none=>simp at g
 |some r=>
  have u:=aa7 (I:=λx=>∀a,x.2.2.2.2.2.2.2.1=Â a->∀v∈a,jS v) ?_ _ _ _ ?_ t
  .have:∃a,r.2.2.2.2.2.2.2.1=Â a/\z=.agg a:=by
    grind [ò]
   obtain⟨a,e,rfl⟩:=this;exact Ue<|u a e
  .intro f b s w d;have y:∀(e:Option Ñ) (k:Nat) (x:Option (Array Ñ)),(∀z,e=Â z->jS z)->x=(if k>Ų then Á else do pure ((<-b.2.2.2.2.2.2.2.1)++(<-e).cells))->∀a,x=Â a->∀v∈a,jS v:=by
    intro e k x B C a c v n;subst C;split at c
    .simp at c
    .cases j:b.2.2.2.2.2.2.2.1 with
     |none=>rw[j]at c;simp at c
     |some E=>
      cases o:e with
      |none=>rw[j,o]at c;simp at c
      |some D=>
       rw[j,o]at c;simp at c;subst c;rcases Array.mem_append.1 n with p|p
       .exact w _ j v p
       .exact(B D o).gT v p
   cases e:l f.type with
   |none=>rw[e]at d;simp at d
   |some j=>
    rw[e,ê,ş]at d;have k:=y j.zero (b.2.1+j.size) _ (λz q=>h _ _ _ e q) U;generalize(if b.2.1+j.size>Ų then Á else(do pure ((<-b.2.2.2.2.2.2.2.1)++(<-j.zero).cells):Option (Array Ñ)))=X at d k;generalize(if b.1.size+1<m.size then ";" else "")=Y at d;simp only[bind,pure,Option.bind]at d;repeat' split at d
    all_goals first
     |(simp only[Ô]at d;subst d;exact k)
     |(simp at d;done)
  .intro a c v n;simp at c;subst c;simp at n
def aqb{c:č->Option ħ}(h:ZP c){d:TypeDesc}(a:Χ c d=Â zJ)(b:zJ.zero=Â z):jS z:=by
 unfold Χ at a;cases d with
 |struct k=>exact aqa h a b
 |array n e=>
  simp only[ê,Ü,ā,Ô]at a;obtain⟨f,v,st,_,rfl⟩:=a;simp only at b;split at b
  .simp at b
  .split at b
   .simp at b;subst b;exact Ue fi
   .simp only[ò]at b;obtain⟨j,g,rfl⟩:=b;refine Ue λx k=> ?_;simp only[Array.mem_flatten,Array.mem_replicate]at k;obtain⟨l,⟨_,rfl⟩,k⟩:=k;exact(h _ _ _ v g).gT x k
 |pointer e=>
  simp only[ê,Ü,ā]at a;let⟨f,v,a⟩:=a;repeat' split at a
  all_goals first
   |(simp at a;done)
   |(simp only[Ü,Ô]at a;obtain⟨_,_,rfl⟩:=a;simp only[ł,Ô]at b;subst b;constructor)
 |slice e=>
  simp only[ê,Ü,ā,Ô]at a;obtain⟨_,_,_,_,rfl⟩:=a;simp only[ł,Ô]at b;subst b;constructor
 |map k e=>
  simp only[ê,Ü,ā,Ô]at a;obtain⟨_,_,_,_,_,_,_,_,rfl⟩:=a;simp only[ł,Ô]at b;subst b;constructor
 |chan k e=>
  simp only[ê,Ü,ā,Ô]at a;obtain⟨_,_,_,_,rfl⟩:=a;simp only[ł,Ô]at b;subst b;constructor
 |func k e v=>
  simp only[ê,Ü,ā,Ô]at a;obtain⟨_,_,rfl⟩:=a;simp only[ł,Ô]at b;subst b;constructor
 |_=>simp at a
def aa8{T:Tables}(a:∀(t:Nat) (i:ħ) (z:Ñ),T.types[t]?=Â i->i.zero=Â z->jS z):∀f,ZP<|ţ T f
 |0=>λt i z h=>by simp[ţ]at h
 |f+1=>λt i z h b=>by
  unfold ţ at h;split at h
  .exact a t i z h b
  .simp only[Ü]at h;let⟨d,_,c⟩:=h;exact aqb (aa8 a f) c b
def aqc(a:∀(t:Nat) (i:ħ) (z:Ñ),P.types[t]?=Â i->i.zero=Â z->jS z):nU P:=λt i z h b=>by
 have h:P.toTables.info? t=Â i:=h;unfold Tables.info? at h;split at h
 .exact a t i z h b
 .exact aa8 a _ t i z h b
end Go.Proofs.Y.Lift
namespace Go.Proofs.Y.fq
open Go Go.Conc Go.Proofs.Y.Lift Go.RowKit Go.Conc.Lib Go.ConcR.Gen
open Go.Proofs Go.Proofs.YtgpphkdoanciiaaGreatDoor
def Uf:Ñ->Bool
 |.agg a=>a.toList.all yA
 |v=>yA v
def aa9(h:Uf v=Î):jS v:=by
 cases v with
 |agg b=>exact .oK λi a=>Hi<|(ĭ.1 h) _<|î.2<|ă a
 |_=>exact Hi h
def abb:Ñ->Bool
 |ë a=>a.toList.all Uf
 |v=>Uf v
def aqd(h:abb v=Î):jS v:=by
 cases v with
 |tuple b=>exact .nS λi a=>aa9<|(ĭ.1 h) _<|î.2<|ă a
 |_=>exact aa9 h
def Gk(i:ħ):Bool:=match i.zero with
 |some z=>abb z
 |none=>Î
def aqe(h:P.types.toList.all Gk=Î):nU P:=aqc λt i z a b=>by have:=(ĭ.1 h) i<|î.2<|ĵ a;unfold Gk at this;rw[b]at this;exact aqd this
def yv:nU À:=aqe fM
end Go.Proofs.Y.fq
namespace Go.Proofs.Y.kH
open Go Go.Conc Go.Proofs Go.RowKit Go.Proofs.Y.Lift Go.Proofs.Y.gw Go.Proofs.Y.fq
noncomputable def nB:Nat:=À.globals.size
def pR(a:Nat->Prop)(b:Nat):Prop:=a b\/b=1\/b=2\/b=3\/b=4
def N5(b:Nat)(e:č)(w:Í):Prop:=∃c a,w.heap[b]?=Â (Û c e a)/\a.2<=c.size/\a.2<=16/\0<c.size/\∀v∈c.toList,∃k n,v=Å k n
structure mL(w:Í):Prop where
 fv:nB<=w.heap.size
 M:kI nB (λb=>b=1\/b=2) w
 I:N5 3 304 w
 C:N5 4 305 w
 S:gw.lO w
 iZ:iJ w
 N:qI w
section
variable{V:Nat->Prop}
theorem mL.r{w':Í}(h:mL w)(f:nB<=w'.heap.size)(k:∀b,b=1\/b=2\/b=3\/b=4->w'.heap[b]?=w.heap[b]?):mL w':=by
 have d:∀b o,b=1\/b=2\/b=3\/b=4->w'.cell? ⟨b,o,Á⟩=w.cell? ⟨b,o,Á⟩:=λb o e=>by simp only[à,k b e]
 refine⟨f,h.M.C λb e=>k b<|e.imp id È,?_,?_,?_,?_,?_⟩
 .let⟨c,i,a,r⟩:=h.I;exact⟨c,i,by rwa[k 3 fi],r⟩
 .let⟨c,i,a,r⟩:=h.C;exact⟨c,i,by rwa[k 4 fi],r⟩
 .have c:=h.S;have i:À.globalNamed "internal/strconv.uint64pow10"=Â 1:=fp
  unfold gw.lO χ ο at*;grind
 .let⟨c,g,a⟩:=h.iZ.M;refine⟨⟨c,g,by rwa[k 2 fi]⟩,λi r j=> ?_⟩;rw[d 2 _ fi,d 2 _ fi,d 2 _ fi];exact h.iZ.I i r j
 .have:=h.N;unfold qI at*;grind
def abd(u:kI nB X w)(x:∀b,X b->lA b=Ë)(g:mL w):MW (pR X) (pR X) nB w:=by
 have p:∀{a:Nat->Prop} {c:Array Ñ},(∀b,a b->pR X b)->fR (ln a nB) c c->fR (qx (pR X) nB) c c:=λ{a c} hX r=>r.I<|Ac hX;refine⟨?_,g.fv⟩;have s:∀b e,(e=304\/e=305)->lA b=Î->N5 b e w->∃c e d,w.heap[b]?=Â (Û c e d)/\d.2<=c.size/\fR (qx (pR X) nB) c c/\(pR X b->0<c.size/\(lA b=Î->(e=304\/e=305)/\d.2<=16)/\(lA b=Ë->Eh c)):=λb e y B h=>by let⟨c,d,f,j,l,m,o⟩:=h;exact⟨c,e,d,f,j,pQ λv i=>by obtain⟨k,n,rfl⟩:=o v i;exact .iC _ _,λ_=>⟨m,λ_=>⟨y,l⟩,λq=>by rw[B]at q;cases q⟩⟩
 rintro b (q|q|q|rfl|rfl)
 .let⟨c,e,d,f,j,l,m,o,_⟩:=u b q;exact⟨c,e,d,f,j,p (λ_=>È) l,λ_=>⟨m,λt=>(by rw[x b q]at t;cases t),λ_=>o⟩⟩
 .let⟨c,e,d,f,j,l,m,o,_⟩:=g.M b<|È q;exact⟨c,e,d,f,j,p (λi k=>k.elim (λz=>Ï<|È z) λz=>Ï<|Ï<|È z) l,λ_=>⟨m,λt=>(by rw[q]at t;cases t),λ_=>o⟩⟩
 .let⟨c,e,d,f,j,l,m,o,_⟩:=g.M b<|Ï q;exact⟨c,e,d,f,j,p (λi k=>k.elim (λz=>Ï<|È z) λz=>Ï<|Ï<|È z) l,λ_=>⟨m,λt=>(by rw[q]at t;cases t),λ_=>o⟩⟩
 .exact s 3 304 (È U) U g.I
 .exact s 4 305 (Ï U) U g.C
def pS(a:lA b=Ë\/i<16)(h:w.cell? ⟨b,i,Á⟩=Â v):(World.tp (ll V w) xQ 0).cell? ⟨b,i,Á⟩=Â v:=by
 have j:(World.tp (ll V w) xQ 0).heap[b]?=(w.heap[b]?).map (pK V b):=FE b;simp only[à,j];simp only[à]at h;cases g:w.heap[b]? with
 |none=>rw[g]at h;cases h
 |some k=>
  rw[g]at h;cases k with
  |cells c e m=>
   simp only[Ă,pK,ö,ì,if_false]at h|-;split
   .rename_i d;split at d
    .split at d
     .rename_i l;cases d;rcases a with a|a
      .rw[l]at a;cases a
      .unfold uL;rw[Array.getElem?_extract];simp;exact⟨by have:=(á.1 h).1;omega,h⟩
     .cases d;exact h
    .cases d;exact h
   .rename_i f;split at f
    .split at f<;>exact absurd U<|f _ _ _
    .exact absurd U<|f _ _ _
  |_=>cases h
def abe{T:ŷ}(d:kI nB X w)(e:∀b,X b->lA b=Ë):iW (ln X nB) w (World.tp (ll V w) T 0):=by rintro i j o v ⟨rfl,a⟩ c;exact⟨v,pS (È<|e i a) c,d.r a c⟩
end
def RD(s:List fH)(b:Ñ)(a:Nat->Prop)(w:Í):Prop:=∃c,ku c=s/\lE s/\NC b c w/\kI nB a w/\fh (ln a nB) b b
section
variable{V:Nat->Prop}{s:List fH}
def abf(h:kI nB X w)(k:∀b,X b->u.heap[b]?=w.heap[b]?):iW (ln X nB) w u:=by rintro i j o v ⟨rfl,a⟩ c;exact⟨v,by simp only[à,k i a];exact c,h.r a c⟩
def RD.r(h:RD s v X w)(k:∀b,X b->u.heap[b]?=w.heap[b]?):RD s v X u:=by let⟨l,d,e,f,a,c⟩:=h;let⟨g,i,j⟩:=JQ (abf a k) c f;exact⟨g,i.trans d,e,j,a.C k,c⟩
def JU(r:Nat)(q:Qn)(w:Í):Prop:=pP r q.x q.y q.g q.k q.r q.v q.C q.I w
def abg{Y:fl}(a:iW Y u w){r:Nat}{q:Qn}(b:Y r i)(h:JU r q u):JU i q w:= ⟨a.r b h.I,a.r b h.S,a.r b h.a,a.r b h.Y,a.r b h.N,a.r b h.M,a.r b h.c,a.r b h.b⟩
def aqf{T:ŷ}(g:mL w):gw.lO (World.tp (ll V w) T 0):=by
 have a:=g.S;have h:À.globalNamed "internal/strconv.uint64pow10"=Â 1:=fp
 unfold gw.lO χ ο at*;rw[h]at a|-;simp only[ş]at a|-;have i:(World.tp (ll V w) T 0).heap[1]?=(w.heap[1]?).map (pK V 1):=FE 1;rw[i];cases f:w.heap[1]? with
 |none=>rw[f]at a;cases a
 |some j=>
  rw[f]at a;cases j with
  |cells c e k=>
   simp only[Ă,pK,lA]at a|-;split
   .rename_i b;split at b<;>(simp at b;obtain⟨rfl,_⟩:=b;exact a)
   .rename_i d;split at d
    .exact absurd U<|d _ _ _
    .exact absurd U<|d _ _ _
  |_=>cases a
theorem abh{T:ŷ}(g:mL w):iJ (World.tp (ll V w) T 0):=by
 let⟨f,h,d⟩:=g.iZ.M;refine⟨?_,λi r e=> ?_⟩
 .have a:(World.tp (ll V w) T 0).heap[2]?=(w.heap[2]?).map (pK V 2):=FE 2;rw[a,d];simp only[Ă,pK,lA];grind
 .let⟨a,b,c⟩:=g.iZ.I i r e;exact⟨pS (È U) a,pS (È U) b,pS (È U) c⟩
def aqg{T:ŷ}(g:mL w):qI (World.tp (ll V w) T 0):=pS (Ï A) g.N
theorem Gl{T:ŷ}:ko (World.tp (ll V w) T 0):=λi o h=>h' (Sh:=V) (w:=w) i o h
theorem aqh{l:e9}{q:Qn}{r:Nat}(x:RD s v X l.w)(I:∀b,X b->l.M b)(y:kI nB V l.w)(J:∀b,V b->l.M b)(h:V r)(z:JU r q l.w)(ok:q.Ok)(g:mL l.w)(K:∀b,b=1\/b=2\/b=3\/b=4->l.M b)(j:∀b,X b\/V b->lA b=Ë)(m:List (Nat×fH))(B:ku m=s): FH (λg=>xG g=Î) 67 #[v,Ã<|Â ⟨r,0,Á⟩] l (pR λb=>X b\/V b) λe _=>e=Ä (rD m q):=by
 let⟨L,c,d,D,E,o⟩:=x;have t:=E.I y;refine⟨?_,abd t j g,?_,?_,λT=> ?_⟩
 .rintro b (q|q);all_goals grind
 .intro b a;unfold xG at a;simp at a;exact Ï a
 .refine pQ λe a=> ?_;simp at a;rcases a with rfl|rfl
  .exact o.fN<|Ac λi k=>È<|È k
  .exact fh.j0 (Y:=qx (pR λb=>X b\/V b) nB) ⟨⟨U,È<|Ï h⟩,U,U⟩
 .have a:=abe (V:=pR λb=>X b\/V b) (T:=T) t j;obtain⟨F,f,N,n,G,rfl,O,u⟩:=JQ a (o.fN<|Ac λi k=>È k) D;have i:n=(ku F).length:=by rw[u.r];simp[ku]
  have P:=d.I;have Q:=d.C;rw[f,c]at i;have C:=apW (cp:=G) u Z Z (λp H=> ?_) (abg a ⟨U,Ï h⟩ z) ok (abh g) (aqf g)<|aqg g
  .apply C.mono;rintro e S ⟨rfl,k⟩;exact⟨by rw[apY<|f.trans<|c.trans B.symm],k.gT Gl⟩
  .have:p.2∈s:=by rw[<-c,<-f];exact Ú.2 ⟨p,H,U⟩
   exact(d.r _ this).1
end
def DU(r:Nat)(v:Int)(x:Nat)(gJ:List Tx)(w:Í):Prop:=∃a n c b,Dv r v x a n c w/\Dp a n b w/\lN b=gJ/\n<=1000
section
variable{V:Nat->Prop}{s:List fH}
def abj(h:kI nB X w):∀i,X i->i<w.heap.size:=λi a=>by let⟨c,e,d,b,_⟩:=h i a;exact(á.1 b).1
theorem abk{T:ŷ}(f:lA b=Ë)(h:w.heap[b]?=Â (Û d e xJ))(i:xJ.2<=d.size):∃a,(World.tp (ll V w) T 0).heap[b]?=Â (Û d e a)/\a.2<=d.size:=by have g:(World.tp (ll V w) T 0).heap[b]?=(w.heap[b]?).map (pK V b):=FE b;rw[g,h];simp only[Ă,pK,f,ì,if_false];grind
def aqi{T:ŷ}(h:kI nB X w)(d:∀b,X b->lA b=Ë):kI nB X (World.tp (ll V w) T 0):=λb a=>by let⟨c,e,m,f,g,i⟩:=h b a;let⟨j,k,l⟩:=abk (V:=V) (T:=T) (d b a) f g;exact⟨c,e,j,k,l,i⟩
def aqj{T:ŷ}(k:kI nB X w)(l:∀b,X b->lA b=Ë){r:Nat}{v:Int}{gJ:List Tx}(o:X r)(h:DU r v i gJ w):DU r v i gJ (World.tp (ll V w) T 0):=by
 let⟨D,n,E,F,g,p,G,H⟩:=h;have m:=l r o;refine⟨D,n,E,F,⟨pS (È m) g.M,pS (È m) g.N,pS (È m) g.I⟩,⟨p.r,λj a t q=> ?_⟩,G,H⟩;let⟨tb,I,s,u,d,J⟩:=p.C j a t q;have y:X tb:=by have:=k.r o g.I;rw[s]at this;exact DR this
 have z:=DL<|k.r y u;have f:=l a z;let⟨K,O,B⟩:=d.b;let⟨c,e,P,C,L,_⟩:=k a z;rw[B]at C;cases C;obtain⟨M,N,_⟩:=abk f B L;exact⟨tb,I,s,pS (È<|l tb y) u,⟨⟨K,M,N⟩,pS (È f) d.r,pS (È f) d.C,pS (È f) d.I,pS (È f) d.M,pS (È f) d.Y,pS (È f) d.N⟩,J⟩
def Rg(s:List fH)(v:Ñ)(u:Í):Prop:=∃X,RD s v X u
def Rg.tp{T:ŷ}(h:Rg s v w):Rg s v (World.tp w T n):=by let⟨X,h⟩:=h;exact⟨X,h.r λ_ _=>rfl⟩
def aqk{Y:fl}{d:Nat->Prop}(h:rN Y d u w)(a:fh Y v x)(e:Rg s v u):∃c,RD s x c w/\∀b,c b->∃i,Y i b:=by let⟨X,f⟩:=e;have g:RD s v X {u with tape:=w.tape,drawn:=w.drawn}:=f.r λ_ _=>rfl;let⟨t,j,k,l,m,n⟩:=g;let⟨o,p,q⟩:=JQ (Ae h) a l;exact⟨_,⟨o,p.trans j,k,q,Ud h m,N4 a n⟩,λb ⟨i,_,r⟩=>⟨i,r⟩⟩
theorem aql{l:e9}{r:Nat}{gJ:List Tx}(hRD:RD s v X l.w)(hU:∀b,X b->l.M b)(L:kI nB V l.w)(hV:∀b,V b->l.M b)(N:V r)(hq:DU r h m gJ l.w)(hx:m<8)(o:-1<=h)(Ug:∀t∈gJ,t.Ok)(hn:gJ.length<=1000)(g:mL l.w)(hG:∀b,b=1\/b=2\/b=3\/b=4->l.M b)(y:∀b,X b\/V b->lA b=Ë)(B:List (Nat×fH))(H:ku B=s): FH (λg=>xG g=Î) 66 #[v,Ã<|Â ⟨r,0,Á⟩] l (pR λb=>X b\/V b) λz u=>∃p n c,z=ë #[Ç p n c,Ä (rB B h m gJ).2]/\Rg (sD B h m gJ) (Ç p n c) u:=by
 let⟨vs,h1,D,h3,O,d⟩:=hRD;have P:=O.I L;refine⟨?_,abd P y g,?_,?_,λT=> ?_⟩
 .rintro b (q|q);all_goals grind
 .intro b u;unfold xG at u;simp at u;exact Ï u
 .refine pQ λh o=> ?_;simp at o;rcases o with rfl|rfl
  .exact d.fN<|Ac λi j=>È<|È j
  .exact fh.j0 (Y:=qx (pR λb=>X b\/V b) nB) ⟨⟨U,È<|Ï N⟩,U,U⟩
 .have f:=aqi (V:=pR λb=>X b\/V b) (T:=T) O λb q=>y b<|È q;obtain⟨z,k1,Q,n,S,rfl,W,E⟩:=JQ (abe (V:=pR λb=>X b\/V b) (T:=T) P y) (d.fN<|Ac λi j=>È j) h3;obtain⟨tp,tn,tc,a,q1,q2,rfl,q4⟩:=(aqj (V:=pR λb=>X b\/V b) (T:=T) L (λb q=>y b<|Ï q) N hq);have c:=k1.trans h1;have hlen:n=s.length:=by rw[E.r,<-c];simp[ku]
  have avh:=D.I;have hle:=D.C;have nI:ko (World.tp (ll (pR λb=>X b\/V b) l.w) T 0):=Gl;have C:=aot E Z Z W (λp I=>by
   have:p.2∈s:=by rw[<-c];exact Ú.2 ⟨p,I,U⟩
   have:=(D.r _ this).2.2.2;omega) q1 q2 q4 (abh g) hx o
  have u:sD z h m (lN a)=sD B h m (lN a):=by unfold sD;rw[aa3<|c.trans H.symm,c,H]
  have F:lE (sD z h m<|lN a):=lE.M (by rwa[c]) Ug hn;have ha:=aa3 (c.trans H.symm) h m<|lN a;generalize World.tp (ll (pR λb=>X b\/V b) l.w) T 0=G at*;refine C.mono ?_;rintro e u' ⟨k,hA⟩;rcases hA with⟨J,rfl⟩|⟨nv,b,tA,J,rfl,e3,e4,gb,gn,gc,rfl,e6⟩
  .refine⟨⟨Q,n,S,by rw[ha],?_⟩,k.gT nI⟩;rw[<-u];have K:sD z h m (lN a)=s:=by unfold sD;rw[J,c];simp
   rw[K]at F|-;exact⟨X,z,c,F,⟨Q,n,S,U,W,E.I k⟩,f.C λi j=>k.N i (abj f i j) id,d⟩
  .let⟨i,m1,m2,m3,_⟩:=ap8 f k (abj f) e4 e6 λp I=>by
    let⟨j,hj⟩:=ĕ I;let⟨sb,so,f1,f2,_⟩:=E.C j p.1 p.2 hj;have:X sb:=by rw[f1]at d;exact DR d
    exact DL<|f.r this f2
   refine⟨⟨Â ⟨gb,0,Á⟩,gn,gc,by rw[ha],?_⟩,k.gT nI⟩;rw[<-u];have K:sD z h m (lN a)=ku (z++[(b,nv)]):=by unfold sD;rw[J];simp[ku]
   rw[K]at F|-;exact⟨i,_,U,F,e3,m3,fh.kU (Y:=ln i nB) ⟨⟨U,m2⟩,U,U⟩ gn gc⟩
end
structure we where
 r:Nat->Int×Nat×List Tx
 C:Nat->Qn
def ng(s:List fH):List (Nat×fH):=s.map λv=>(0,v)
theorem JV(s:List fH):ku (ng s)=s:=by simp[ku,ng,Function.comp_def]
def DV(s:List fH)(i:Int×Nat×List Tx):List fH:=sD (ng s) i.1 i.2.1 i.2.2
def pT(a:we)(I:List Nat)(b:List fH):Nat->List fH
 |0=>b
 |k+1=>DV (pT a I b k)<|a.r<|I.getD k 0
def wh(a:we)(kd:Nat->Int)(p:Nat)(s:List fH):ByteArray:=if kd p=1 then(rB (ng s) (a.r p).1 (a.r p).2.1 (a.r p).2.2).2 else rD (ng s) (a.C p)
def iA(e:e9)(a:Nat->Prop)(c:we)(kd:Nat->Int)(R:Nat)(d:List fH)(f:Nat->Prop):xE where
 γ:=List fH
 C:=d
 M:=λk s g=>g=DV s (c.r<|(gY kd R).getD k 0)
 RD:=λs h V w=>RD s h V w/\∀b,V b->a b\/e.w.heap.size<=b
 I:=λp=>wh c kd p<|pT c (gY kd R) d<|fJ kd p
 r:=f
def Uh{kd:Nat->Int}:∀(R k:Nat),k<(gY kd R).length->fJ kd ((gY kd R).getD k 0)=k
 |0,k,h=>by simp[gY]at h
 |R+1,k,h=>by
  by_cases q:kd R=1
  .rw[tx q]at h|-;rcases Nat.lt_or_ge k (gY kd R).length with z|z
   .have e:(gY kd R++[R]).getD k 0=(gY kd R).getD k 0:=by simp[Ğ,Ĥ z]
    rw[e];exact Uh R k z
   .have e:k=(gY kd R).length:=by simp at h;omega
    subst e;simp[Ğ,fJ]
  .rw[vN q]at h|-;exact Uh R k h
section
variable{y:Nat->Prop}
def N6(h:kI nB y w)(g:mL w):∀b,y b->lA b=Ë:=λb i=>by
 let⟨c,e,m,f,_,_,_,_,j,k⟩:=h b i;cases d:lA b with
 |false=>rfl
 |true=>
  unfold lA at d;simp at d;rcases d with rfl|rfl
  .let⟨l,qS,a,_⟩:=g.I;rw[f]at a;cases a;exact absurd U j
  .let⟨l,qS,a,_⟩:=g.C;rw[f]at a;cases a;exact absurd U k
def aqm(p:kI nB X w)(k:∀b,X b->u.heap[b]?=w.heap[b]?){r:Nat}{gJ:List Tx}(g:X r)(h:DU r c i gJ w):DU r c i gJ u:=by
 have d:∀{b o:Nat} {z:Ñ},X b->w.cell? ⟨b,o,Á⟩=Â z->u.cell? ⟨b,o,Á⟩=Â z:=λ{b o z} l q=>by simp only[à,k b l];exact q
 let⟨C,n,D,E,m,s,F,G⟩:=h;refine⟨C,n,D,E,⟨d g m.M,d g m.N,d g m.I⟩,⟨s.r,λj a t q=> ?_⟩,F,G⟩;let⟨tb,H,y,B,e,I⟩:=s.C j a t q;have l:X tb:=by have:=p.r g m.I;rw[y]at this;exact DR this
 have f:=DL<|p.r l B;let⟨J,K,L⟩:=e.b;exact⟨tb,H,y,d l B,⟨⟨J,K,by rwa[k a f]⟩,d f e.r,d f e.C,d f e.I,d f e.M,d f e.Y,d f e.N⟩,I⟩
end
structure JX(l0:e9)(bt:we)(kd:Nat->Int)(rq:Nat->Nat)(R:Nat)(Q:Nat->Prop):Prop where
 M:mL l0.w
 I:∀b,b=1\/b=2\/b=3\/b=4->l0.O b
 C:kI nB Q l0.w
 fj:∀b,Q b->l0.O b
 r:∀p,p<R->Q (rq p)
 kN:∀p,p<R->kd p=1->DU (rq p) (bt.r p).1 (bt.r p).2.1 (bt.r p).2.2 l0.w/\(bt.r p).2.1<8/\-1<=(bt.r p).1/\(∀t∈(bt.r p).2.2,t.Ok)/\(bt.r p).2.2.length<=1000
 Sz:∀p,p<R->kd p≠1->JU (rq p) (bt.C p) l0.w/\(bt.C p).Ok
def abl{V:Nat->Prop}{l:e9}{a:Ñ->Í->Prop}(h:FH X F d l V vQ)(b:∀v u,vQ v u->a v u):FH X F d l V a:= ⟨h.N,h.S,h.I,h.r,λT=>(h.C T).mono λe u q=>by
  cases e with
  |returned v=>exact⟨b v u q.1,q.2⟩
  |_=>exact q⟩
section
variable{l0:e9}{bt:we}{kd:Nat->Int}{rq:Nat->Nat}{R:Nat}{Q C d:Nat->Prop}{B:List fH}{E F:Option ü}
def abm{s:List fH}(h:fq.nD ((kG (iA l0 d bt kd R B C) i n R kd rq D E F j9 j7 k m J j qX l0).r À) b s):s=pT bt (gY kd R) B b:=by
 have c:∀(b:Nat) (s:((kG (iA l0 d bt kd R B C) i n R kd rq D E F j9 j7 k m J j qX l0).r À).γ),fq.nD ((kG (iA l0 d bt kd R B C) i n R kd rq D E F j9 j7 k m J j qX l0).r À) b s->s=pT bt (gY kd R) B b:=λb s h=>by
  induction h with
  |vo=>rfl
  |ED _ a e=>
   rwa[e]at a
 exact c b s h
def aqn(h:JX l0 bt kd rq R Q)(N:l0.w.heap.size<=m):FC (kG (iA l0 d bt kd R B C) i n R kd rq D E F j9 j7 k m J j qX l0):=by
 apply ak8 yv n_ m_ U;intro a s O W l q t f x y P g G;let⟨f,S⟩:=f;have T:=y.fv m<|g m<|Ï U;have H:l0.w.heap.size<=l.w.heap.size:=Z
 have o:=G;have p:=h.M.r (Ì h.M.fv H) λb c=>o b<|h.I b c;have r:=h.C.C λb c=>o b<|h.fj b c;have e:=I7<|vT q;let⟨I,K⟩:=h.Sz _ e.1 e.2;refine⟨_,abl (aqh f x r (λb c=>g b<|È<|h.fj b c) (h.r _ e.1) (abg (abf h.C λb c=>o b<|h.fj b c) ⟨U,h.r _ e.1⟩ I) K p (λb c=>g b<|È<|h.I b c) (λb c=>c.elim (N6 (by let⟨_,_,_,_,z,_⟩:=f;exact z) p b)<|N6 r p b) (ng s)<|JV s) λv u L=> ?_⟩;rw[L];have z:=abm t;have M:(kG (iA l0 d bt kd R B C) i n R kd rq D E F j9 j7 k m J j qX l0).a a=fJ kd ((jB kd R).getD a 0):=if_pos q;rw[M]at z;show _=Ä (wh bt kd ((jB kd R).getD a 0)<|pT bt (gY kd R) B<|fJ kd<|(jB kd R).getD a 0);rw[<-z];unfold wh;rw[if_neg e.2]
theorem aqo(h:JX l0 bt kd rq R Q)(hZ:(∀b,Q b->d b)/\∀b,b=1\/b=2\/b=3\/b=4->d b)(ZJ:l0.w.heap.size<=m):FB (kG (iA l0 d bt kd R B C) i n R kd rq D E F j9 j7 k m J j qX l0):=by
 refine ak9 yv n_ m_ U (λs o u=>Rg s o u) (λs o u T n q=>Rg.tp q) ?_;intro T s o W l H I g K L hq r M;let⟨g,QK⟩:=g;have hs:=L.fv m<|r m<|Ï U;have N:l0.w.heap.size<=l.w.heap.size:=Z
 have t:=M;have x:=h.M.r (Ì h.M.fv N) λb a=>t b<|h.I b a;have y:=h.C.C λb a=>t b<|h.fj b a;have G:=H;have f:=I6<|vT G;let⟨O,P,S,V,X⟩:=h.kN _ f.1 f.2;refine⟨_,abl (aql g K y (λb a=>r b<|È<|h.fj b a) (h.r _ f.1) (aqm h.C (λb a=>t b<|h.fj b a) (h.r _ f.1) O) P S V X x (λb a=>r b<|È<|h.I b a) (λb a=>a.elim (N6 (by let⟨_,_,_,_,z,_⟩:=g;exact z) x b)<|N6 y x b) (ng s)<|JV s) λv u hv=> ?_,?_⟩
 .obtain⟨p,z,c,rfl,Y⟩:=hv;refine⟨p,z,c,DV s<|bt.r<|(gY kd R).getD T 0,?_,U,Y⟩;have e:(kG (iA l0 d bt kd R B C) i n R kd rq D E F j9 j7 k m J j qX l0).d (T+1)=wh bt kd ((gY kd R).getD T 0) (pT bt (gY kd R) B<|fJ kd<|(gY kd R).getD T 0):=U;rw[e,Uh R T G,<-(abm I)];unfold wh;rw[if_pos f.2]
 .intro Y Sh u w s' b_ MP e p h3 h4;let⟨V',k1,c⟩:=aqk e p h3;refine⟨V',⟨k1,λb a=> ?_⟩,c⟩;let⟨z,hi⟩:=c b a;rcases h4 z b hi with((q|q)|q)|q;all_goals grind
end
section
variable{R:Nat}{kd:Nat->Int}{o:Nat->Nat}{r:List Ē}{l:e9}{u:Nat->e9}{bt:we}{j f:Nat->Prop}{s0:List fH}
def aqp{s:List fH}(h:zy (iA l f bt kd R s0 j) k s):s=pT bt (gY kd R) s0 k:=by
 have b:∀(k:Nat) (s:(iA l f bt kd R s0 j).γ),zy (iA l f bt kd R s0 j) k s->s=pT bt (gY kd R) s0 k:=λk s h=>by
  induction h with
  |vo=>rfl
  |ED _ a c=>
   rwa[c]at a
 exact b k s h
structure Af(f:Nat->Prop)(bt:we)(R:Nat)(kd:Nat->Int)(s0:List fH)(l:e9)(an:Nat)(sl:Ñ)(l':e9):Prop where
 M:∀b,l.O b->l'.O b/\l'.w.heap[b]?=l.w.heap[b]?
 r:l'.O an/\∀p,p<R->l'.w.cell? ⟨an,p,Á⟩=Â (Ä<|wh bt kd p<|pT bt (gY kd R) s0<|fJ kd p)
 S:∃V,RD (pT bt (gY kd R) s0<|fJ kd R) sl V l'.w/\∀b,V b->l'.O b/\(f b\/l.w.heap.size<=b)
 d:l'.d=0
 q:¬l'.q
 rd:∀b,¬l'.I b
 C:(∀a,¬l'.r a)/\(∀a,¬l'.N a)/\∀a,¬l'.K a
 I:l'.w.cell? ⟨an,R,Á⟩=Á/\kV l'.w an=Â (0,0)
def aqr{a:e9}(h:Hg (iA l f bt kd R s0 j) R kd l i v a):Af f bt R kd s0 l i v a:=by let⟨s,V,g,c,k⟩:=h.I8;have e:=aqp g;subst e;exact⟨h.vt,h.kD,⟨V,c.1,λb q=>⟨k b q,c.2 b q⟩⟩,h.d,h.q,h.rd,h.xF,h.Ek⟩
def aqs{J:(Loc->Prop)->Nat->Jd}{F:Ē}(P:qX=F.at y (Ð Q (j9::jJ)::L)::r)(c:fq.si À zX i (MN kd o R n v l qX) .fy D u E w qJ)(C:Option (Nat×Nat))(s:gu l)(S:∀b,¬l.I b)(W:¬l.q)(Y:l.d=0)(N7:vU zX i l)(H:JX l bt kd o R X)(hZ:(∀b,X b->f b)/\∀b,b=1\/b=2\/b=3\/b=4->f b)(I:∀b,f b->l.O b)(K:∀b,j b->f b)(Dc:RD s0 v j l.w)(xC:w.os=l.w.os/\w.output=l.w.output)(hn:1<=n)(hs:n+R<1000) (hJ:∀t x z B p m c,vU t x z->gu z->Af f bt R kd s0 l B (Ç p m c) z->fq.fg À Î (J t x) z (G (F.at (y.put ((Q[j9]?).bind (·.dst))<|ë #[Ç (Â ⟨B,0,Á⟩) R R,Ç p m c])<|Ð Q jJ::L) r)): ∃N t x T V I9 g e tA h,ſ À N (Į E w C) qJ=(.next<|Į g e tA,h)/\(e.os=l.w.os/\e.output=l.w.output)/\fq.si À t x (J t x) T V I9 g e h:= ak1 (M:=iA l f bt kd R s0 j) P c C s S W Y N7 (λb q=>I b<|K b q) (λs C V w e h L=>⟨h.1.r L,h.2⟩) (λs C V w h=>⟨by let⟨_,_,_,⟨g,n,N,e,_⟩,_⟩:=h.1;exact⟨g,n,N,e⟩,λb q=>(h.2 b q).imp (I b) id⟩) ⟨Dc,λb h=>È<|K b h⟩ xC hn hs (λg N V T cq B ba bi all e=>⟨aqo H hZ e,aqn H e⟩) λt x z B p m c e g N=>hJ t x z B p m c e g<|aqr N
end
end Go.Proofs.Y.kH
namespace Go.Proofs.Y.nh
open Go Go.Proofs Go.RowKit Go.Proofs.Y.Lift Go.Proofs.Y.gw
def jk(c:Int):Bool:=decide (48<=c)&&decide (c<=57)
def sE(c:Int):Bool:=decide (97<=c)&&decide (c<=104)
def wi(c:Int):Int:=
 if c=105 then 1 else if c=103 then 2 else if c=98 then 3 else if c=99 then 4 else if c=109 then 5
 else if c=114 then 6 else if c=108 then 7 else if c=117 then 8 else if c=100 then 9 else 0
def N8(c:Int):Int:=if c=62 then 1 else if c=123 then 2 else if c=58 then 3 else 0
def abn(h:48<=c/\c<=57):jk c=Î:=by simp[jk,h]
theorem Gm(c:Int):jk c=Î↔(48<=c/\c<=57):=by simp[jk]
def aqt(c:Int):sE c=Î↔(97<=c/\c<=104):=by simp[sE]
def rE(k:Int):List Int:=
 if k=1 then[86,58,120,47,66]else if k=2 then[86,58,120,115]else if k=3 then[86,58,120]
 else if k=4 then[86,58,120,62,121,40,110,44,107,41]else if k=5 then[86,58,120,62,121,40,107,41]
 else if k=9 then[86,58,87]else[86]
def sF(k:Int):List Int:=
 if k=1 then[121,61,110]else if k=2 then[80]else[121,40,110,44,107,41]
def o7(a c:Int):Bool:=
 if a=86\/a=87 then c==104||jk c
 else if a=110\/a=107 then jk c
 else if a=120\/a=121 then sE c
 else if a=115 then jk c||(decide (97<=c)&&decide (c<=102))
 else c==a
def qK(a c:Int):Int:=
 if c=48\/jk c=Ë then 0
 else if a=86\/a=87 then 1
 else if a=110\/a=107 then 5
 else 0
def jW(s:ByteArray):List Int:=s.data.toList.map λc=>((c.toNat:Nat):Int)
def aqu(B:ByteArray)(k:Nat)(h:k<B.size):(jW B).drop k=((B[k].toNat:Nat):Int)::(jW B).drop (k+1):=by
 have a:k<(jW B).length:=by simpa[jW]using h
 rw[List.drop_eq_getElem_cons a];congr 1;simp[jW,ċ]
theorem Ui(B:ByteArray):(jW B).length=B.size:=by unfold jW;simp_all
theorem wj(s:ByteArray)(h:0<s.size):jW s=((s[0].toNat:Nat):Int)::(jW s).tail:=by have:=aqu s 0 h;grind
theorem abo(s:ByteArray)(h:s.size=0):jW s=[]:=by grind [Ý,Ui]
def aqv(s:ByteArray):jW (s.extract 1 s.size)=(jW s).tail:=by unfold jW;rw[Ĳ,ĺ,<-List.map_tail];congr 1;rw[ĥ,<-List.drop_one];apply List.take_of_length_le;simp_all
theorem aqw(s:ByteArray)(h:s.size<=10):(s.extract 1 s.size).size<=10:=by grind [Č]
theorem aqx(a c:Int):0<=qK a c/\qK a c<=5:=by unfold qK;grind
structure PT where
 c:List Int
 p:ByteArray
structure PR where
 c:List Int
 r:List PT
structure PD where
 S:List PR
 r:Bool
 I:PR
 M:Bool
 N:PT
structure PS where
 C:List Int
 r:Int
 I:Int
 M:Int
 d:PD
namespace PD
def Y(d:PD):List PT:=if d.M then d.I.r++[d.N]else d.I.r
def C(d:PD):List PR:=if d.r then d.S++[⟨d.I.c,d.Y⟩]else d.S
def om(d:PD)(i:Nat)(z:Int):PD:={d with I:={d.I with c:=d.I.c.set i z}}
def oE(d:PD)(i:Nat)(z:Int):PD:={d with N:={d.N with c:=d.N.c.set i z}}
def iq(d:PD)(i:Nat)(z:Int):PD:=if d.M then d.oE i z else d.om i z
def oF(d:PD)(p:ByteArray):PD:={d with N:={d.N with p:=p}}
def Gk:PT:=⟨[0,0,0,0,0],⟨#[]⟩⟩
def abp(k:Int):PR:=⟨[0,0,0,0,k,0,0,0],[]⟩
def nO(d:PD):PD:={d with I:=⟨d.I.c,d.Y⟩,M:=Î,N:=Gk}
def Gn(d:PD)(k:Int):PD:={S:=d.C,r:=Î,I:=abp k,M:=Ë,N:=d.N}
def fP(d:PD)(want z:Int):PD:=
 if want=86 then d.om 5 z else if want=87 then d.om 6 z else if want=120 then d.iq 0 z else if want=121 then d.iq 1 z
 else if want=110 then d.iq 2 z else if want=107 then d.iq 3 z else if want=115 then d.om 7 z else d
def tK(d:PD)(i:Nat):Int:=if d.M then d.N.c.getD i 0 else d.I.c.getD i 0
def G(d:PD)(a:Int):Int:=if a=86 then d.I.c.getD 5 0 else if a=87 then d.I.c.getD 6 0 else if a=110 then d.tK 2 else d.tK 3
end PD
def ni(a c:Int):Int:=
 if a=120\/a=121 then Þ [97,98,99,100,101,102,103,104] c.toNat.toUInt8
 else if a=115 then Þ [48,49,50,51,52,53,54,55,56,57,97,98,99,100,101,102] c.toNat.toUInt8
 else if c=104 then-1 else(c-48)%256
def pU(z c:Int):Int:=É.wrap<|É.wrap (z*10)+(c-48)%256
def pV(st:PS)(c:Int):Option PS:=
 if c=59/\st.d.S.length+1<24 then Â {st with C:=[82]}
 else if c=44/\0<st.d.Y.length/\st.d.Y.length<8 then Â {st with C:=[120,84],d:=st.d.nO}
 else Á
def yg(st:PS)(k:Int):Option PS:=if k=0 then Á else Â {st with C:=rE k,d:=st.d.Gn k}
def yh(st:PS)(k:Int):Option PS:=if k=0 then Á else Â {st with C:=sF k,I:=0,d:=st.d.oE 4 k}
def ot(st:PS)(a c:Int):PS:={st with r:=qK a c,M:=a,d:=st.d.fP a (ni a c)}
def jP(B:ByteArray)(k:Nat)(st:PS)(c:Int):Option PS:=
 match st.C with
 |[]=>pV st c
 |want::tl=>
  if want=82 then yg st (wi c)
  else if want=66 then
   if sE c=Î then Â (ot {st with C:=[84],d:=st.d.nO} 120 c)else pV st c
  else if want=84 then yh st (N8 c)
  else if want=80 then
   if c=125 then Â {st with C:=tl,d:=st.d.oF (B.extract (k-st.I.toNat) k)}
   else if st.I=40\/lB c=0 then Á else Â {st with I:=st.I+1}
  else if o7 want c=Î then Â {ot st want c with C:=tl}
  else Á
def DW(st:PS)(c:Int):PS:={st with r:=st.r-1,d:=st.d.fP st.M (pU (st.d.G st.M) c)}
def kR(B:ByteArray)(k:Nat)(st:PS)(c:Int):Option PS:=
 if 0<st.r/\jk c=Î then Â (DW st c)else jP B k {st with r:=0} c
def jR(B:ByteArray):Nat->Nat->PS->Nat×PS
 |0,k,st=>(k,st)
 |f+1,k,st=>if h:k<B.size then match kR B k st (B[k].toNat:Int)with
  |none=>(k,st)
  |some a=>jR B f (k+1) a
  else(k,st)
def pd0:PD:=⟨[],Ë,⟨[],[]⟩,Ë,⟨[],⟨#[]⟩⟩⟩
def nP:PS:=⟨[82],0,0,0,pd0⟩
def sG(c:Int)(w:Í): Ò À 94 #[Å ū c] w λe a=>e=Æ (õ<|jk c)/\a=w:=by
 go_enter Tryz.func94,Tryz.ntmps94;go_wp2;all_goals go_ret
 all_goals exact⟨r_ (by simp only[jk];first|(simp[*];done)|(rw[Ę];simp;omega)),U⟩
def aqy(s:ByteArray)(c:Int)(w:Í): Ò À 167 #[Ä s,Å ū c] w λe a=>e=Æ (Å É<|Þ s.data.toList c.toNat.toUInt8)/\a=w:=by go_enter Tryz.func167,Tryz.ntmps167;go_wp2;rw[run_callFunc_extern Tryz.func185 fp fp fp fp,Lib.run_indexByteString];simp only[ų];rw[Oper.upon_value];go_wp2;go_ret;exact⟨U,U⟩
def JY(s:ByteArray)(c:Int)(w:Í): Ò À 146 #[Ä s,Å ū c] w λe a=>e=Æ (Å É<|Þ s.data.toList c.toNat.toUInt8)/\a=w:=by go_enter Tryz.func146,Tryz.ntmps146;go_wp2_with (go_at_call 167;refine(aqy _ _ _).mono ?_;rintro e a ⟨rfl,rfl⟩);go_ret;exact⟨U,U⟩
def N9(c:Int):Bool:=jk c||(decide (97<=c)&&decide (c<=102))
def aqz:∀n:Fin 256,decide (0<=Þ [97,98,99,100,101,102,103,104] n.val.toUInt8)=sE (n.val:Int):=by decide+kernel
def aqA:∀n:Fin 256,decide (0<=Þ [48,49,50,51,52,53,54,55,56,57,97,98,99,100,101,102] n.val.toUInt8)=N9 (n.val:Int):=by decide+kernel
def aqB(a:0<=c)(b:c<256):decide (0<=Þ [97,98,99,100,101,102,103,104] c.toNat.toUInt8)=sE c:=by have:=aqz ⟨c.toNat,Z⟩;rwa[show((c.toNat:Nat):Int)=c from by omega]at this
def aqC(a:0<=c)(b:c<256):decide (0<=Þ [48,49,50,51,52,53,54,55,56,57,97,98,99,100,101,102] c.toNat.toUInt8)=N9 c:=by have:=aqA ⟨c.toNat,Z⟩;rwa[show((c.toNat:Nat):Int)=c from by omega]at this
def Uj(c:Int)(b:0<=c)(d:c<256)(w:Í): Ò À 98 #[Å ū c] w λe a=>e=Æ (õ<|sE c)/\a=w:=by
 have f:=aqB b d;go_enter Tryz.func98,Tryz.ntmps98;go_wp2_with (go_at_call 146;refine(JY _ _ _).mono ?_;rintro e a ⟨rfl,rfl⟩);all_goals go_ret
 all_goals exact⟨U,U⟩
def aqD(c:Int)(b:0<=c)(d:c<256)(w:Í): Ò À 149 #[Å ū c] w λe a=>e=Æ (õ<|N9 c)/\a=w:=by
 have f:=aqC b d;go_enter Tryz.func149,Tryz.ntmps149;go_wp2_with (go_at_call 146;refine(JY _ _ _).mono ?_;rintro e a ⟨rfl,rfl⟩);all_goals go_ret
 all_goals exact⟨U,U⟩
def aqE(c:Int)(w:Í): Ò À 102 #[Å ū c] w λe a=>e=Æ (Å É<|N8 c)/\a=w:=by
 go_enter Tryz.func102,Tryz.ntmps102;go_wp2;all_goals go_ret
 all_goals refine⟨FL ?_,U⟩
 all_goals simp only[beq_iff_eq,beq_eq_false_iff_ne,ne_eq]at*
 all_goals simp[N8, *]
def aqF(c:Int)(w:Í): Ò À 97 #[Å ū c] w λe a=>e=Æ (Å É<|wi c)/\a=w:=by
 go_enter Tryz.func97,Tryz.ntmps97;go_wp2;all_goals go_ret
 all_goals refine⟨FL ?_,U⟩
 all_goals simp only[beq_iff_eq,beq_eq_false_iff_ne,ne_eq]at*
 all_goals simp[wi, *]
def abq(b c:Int)(d:0<=c)(f:c<256)(w:Í): Ò À 104 #[Å ū b,Å ū c] w λe a=>e=Æ (õ<|o7 b c)/\a=w:=by
 go_enter Tryz.func104,Tryz.ntmps104;go_wp2_with (first|(go_at_call 94;refine(sG _ _).mono ?_;rintro e a ⟨rfl,rfl⟩)|(go_at_call 98;refine(Uj _ d f _).mono ?_;rintro e a ⟨rfl,rfl⟩)|(go_at_call 149;refine(aqD _ d f _).mono ?_;rintro e a ⟨rfl,rfl⟩));all_goals go_ret
 all_goals refine⟨r_ ?_,U⟩
 all_goals try go_light
 all_goals simp only[beq_iff_eq,beq_eq_false_iff_ne,ne_eq]at*
 all_goals unfold o7
 all_goals first|(simp[N9, *];done)|(rw[Ę];simp[*];done)|(rw[Ę];simp[*];omega)
def aqG(k:Int)(w:Í): Ò À 145 #[Å É k] w λe a=>(∃b:ByteArray,e=Æ (Ä b)/\b.size<=10/\jW b=rE k)/\a=w:=by
 go_enter Tryz.func145,Tryz.ntmps145;go_wp2;all_goals go_ret
 all_goals refine⟨⟨_,U,?_,?_⟩,U⟩
 all_goals try go_light
 all_goals simp only[beq_iff_eq,beq_eq_false_iff_ne,ne_eq]at*
 all_goals first|(simp[jW,rE, *];done)|decide
def aqH(k:Int)(w:Í): Ò À 148 #[Å É k] w λe a=>(∃b:ByteArray,e=Æ (Ä b)/\b.size<=10/\jW b=sF k)/\a=w:=by
 go_enter Tryz.func148,Tryz.ntmps148;go_wp2;all_goals go_ret
 all_goals refine⟨⟨_,U,?_,?_⟩,U⟩
 all_goals try go_light
 all_goals simp only[beq_iff_eq,beq_eq_false_iff_ne,ne_eq]at*
 all_goals first|(simp[jW,sF, *];done)|decide
def nj(m s:Nat):Ñ->Prop
 |Å ū _=>False
 |Å _ _=>True
 |õ _=>True
 |Ä _=>True
 |Ã Á=>True
 |Ã (Â a)=>m<=a.block/\a.block<s
 |Ç Á _ _=>True
 |Ç (Â a) _ _=>m<=a.block/\a.block<s
 |_=>False
def nj.r(h:nj m i v)(d:i<=n):nj m n v:=by
 cases v with
 |int k b=>cases k<;>exact h
 |pointer a=>cases a with
  |none=>trivial
  |some a=>exact⟨h.1,Ġ h.2 d⟩
 |slice a b c=>cases a with
  |none=>trivial
  |some a=>exact⟨h.1,Ġ h.2 d⟩
 |_=>exact h
def Oa(m s:Nat)(o:Obj):Prop:=∃c e a,o=Û c e a/\a.2<=c.size/\0<c.size/\e≠304/\e≠305/\∀v∈c.toList,nj m s v
def jE(m:Nat)(w:Í):Prop:=∀i o,m<=i->w.heap[i]?=Â o->Oa m w.heap.size o
def Oa.r{o:Obj}(h:Oa m i o)(a:i<=n):Oa m n o:=by let⟨c,e,b,d,f,g,j,k,l⟩:=h;exact⟨c,e,b,d,f,g,j,k,λv p=>(l v p).r a⟩
def jE.I(w:Í):jE w.heap.size w:=λi o a h=>by rw[ı a]at h;cases h
def jE.fS(h:jE m w):jE m w.drew:=h
def jE.iP(h:jE m w)(n:Nat):jE m (w.drewN n):=h
theorem jE.gE(h:jE m w)(cs:Array Ñ)(t:č)(c:0<cs.size)(b:t≠304/\t≠305)(d:∀v∈cs.toList,nj m w.heap.size v):jE m (w.alloc<|Û cs t):=by
 intro i o f a;have k:(w.alloc<|Û cs t).heap.size=w.heap.size+1:=fi
 by_cases e:i<w.heap.size
 .rw[Š _ _ _ e]at a;exact(h i o f a).r Z
 .by_cases g:i=w.heap.size
  .subst g;rw[Ŵ]at a;cases a;exact⟨cs,t,(0,0),U,Ø _,c,b.1,b.2,λv j=>(d v j).r Z⟩
  .grind
def jE.r(h:jE m w)(p:ü)(l:nj m w.heap.size v):jE m (w.setCell p v):=by
 intro i o f a;have n:(w.setCell p v).heap.size=w.heap.size:=fi
 rw[n];by_cases e:i=p.block
 .subst e;unfold Ż at a;simp only[Ķ,if_true]at a;cases d:w.heap[p.block]? with
  |none=>rw[d]at a;cases a
  |some x=>
   rw[d]at a;obtain⟨c,e,r,rfl,g,j,s,t,k⟩:=h _ _ f d;simp only[Ă,Ô]at a;subst a;refine⟨_,e,r,U,?_,?_,s,t,λu b=> ?_⟩
   .split
    .exact g
    .rwa[Ĭ]
   .split
    .exact j
    .rwa[Ĭ]
   .split at b
    .exact k u b
    .rw[Array.toList_setIfInBounds]at b;rcases Ħ b with q|q
     .exact k u q
     .rwa[q]
 .rw[ġ _ _ _ _ (by simpa using e)]at a;exact h i o f a
theorem aqI{ty:č}{bytes base:Nat}(y:P.underlying t=Â (.slice e))(B:P.info? e=Â zJ)(G:zJ.zero=Â (Ã Á)) (s:zJ.size=1) (H:zJ.bytes=bytes) (f:w.ownsRow base e 1 v n l) (a:ü) (c:Nat) (C:∀j M,[z][j]?=Â M->w.cell? (a.add j)=Â M) (N:z.oneCell'=Î) (O:n+1<=ī) (I:(n+1)*bytes<=140737488355328) (W:base<=w.heap.size) (X:mj e=Ë) (hm:m<=base) (D:jE m w) (hg:nj m w.heap.size z) (Y:e≠304/\e≠305): ∃h u,(ė #[t,t] ty #[v,Ç (Â a) 1 c]).run P w=.ok h u/\qy w base e 1 v n l 1 [z] h u/\jE m u/\nj m u.heap.size h:=by
 obtain⟨h,u,J,E⟩:=SN y B G s H U f a c [z] Z U C (λx b=>by simp at b;subst b;exact N) O I W<|È X;have hgv:nj m u.heap.size h:=by
  obtain⟨p,o,rfl⟩:=jj E.fj;cases p with
  |none=>trivial
  |some p=>
   have k:=E.fj.lt p.block (by rcases E.fj.2 with⟨q,_⟩|⟨g,r,d,q,_⟩<;>(cases q;try rfl));exact⟨Z,k.2⟩
 refine⟨h,u,J,E,?_,hgv⟩;have q:[z].length=1*zJ.size:=by rw[s];rfl
 have hlx:l.length=n*zJ.size:=by rw[s];exact f.1
 have alv:n+1<=9223372036854775807:=by simp only[ī]at O;omega
 have um:∀x∈l,nj m w.heap.size x:=λx b=>by
  rcases f.2 with⟨_,rfl⟩|⟨g,r,d,rfl,hbg,p,hnc,hcm,Q,htake⟩
  .grind
  .let⟨c2,e2,qS,S,_,_,_,_,q6⟩:=D g _ Z p;grind
 have gr:∀T,jE m (w.drew.alloc<|Û (l.toArray++[z].toArray++φ (Ĺ<|Ã Á) (grownCap w (n+1) T e-(n+1))) e):=λT=>by
  refine jE.gE D _ _ (by simp;omega) Y λx b=> ?_;simp only[Array.toList_append,â]at b;rcases b with(b|b)|b
  .exact um x b
  .grind
  .have:=SL b;simp[Ĺ]at this;subst this;trivial
 rcases f.2 with⟨rfl,rfl⟩|⟨g,r,d,rfl,hbg,p,hnc,hcm,Q,htake⟩
 .have b:=Ý (by simpa using f.1);subst b;have K:=run_append_nil w t ty e zJ (Ã Á) y B G a 1 c [z] q C Z Z (by rw[H];have k:=I;simp only[œ]at k;omega);grind
 .by_cases aqJ:n+1<=r
  .have SO:n*zJ.size+[z].length<=d.size:=by rw[q,Q,s];omega
   have K:=run_append_room w t ty e zJ y B g n r d p a 1 c [z] q C (λx b=>by simp at b;subst b;exact N) aqJ SO;rw[K]at J;cases J;have aqK:=setRow_heap w g d (d.toList.take (n*zJ.size)++[z]++d.toList.drop (n*zJ.size+[z].length)).toArray e _ p;have aqL:=λk (L:k≠g)=>setRow_other w g k (d.toList.take (n*zJ.size)++[z]++d.toList.drop (n*zJ.size+[z].length)).toArray L;let⟨c2,e2,qS,S,q2,q3,q4,q5,q6⟩:=D g _ Z p;cases S;intro k o L F;have ji:(w.setRow g (d.toList.take (n*zJ.size)++[z]++d.toList.drop (n*zJ.size+[z].length)).toArray).heap.size=w.heap.size:=fi
   rw[ji];by_cases V:k=g
   .subst V;rw[aqK]at F;cases F;refine⟨_,_,_,U,fi,(by simp;omega),q4,q5,λx b=> ?_⟩;grind
   .rw[aqL k V]at F;exact D k o L F
  .have k:w.ownsRow base e zJ.size (Ç (Â ⟨g,0,Á⟩) n r) n l:=by rwa[s]
   have K:=run_append_grow w t ty e zJ (Ã Á) y B G ⟨g,0,Á⟩ n r l hlx (k.cells U) a 1 c [z] q C Z Z (by rw[H];exact growslice_fits Z I);grind
def abr{f:Array ĝ}{E:Prop}{base:Nat} (k:o.guard=Á) (s x:Operand) (t:č) (p:o.op=Op.call {callee:=Callee.builtin κ,args:=#[s,x],argTypes:=#[t,t]}) {bytes:Nat} (q:P.underlying t=Â (.slice e)) (r:P.info? e=Â zJ) (B:zJ.zero=Â (Ã Á)) (C:zJ.size=1) (D:zJ.bytes=bytes) (F:y.eval s=v) (G:w.ownsRow base e 1 v n l) (ad:ü) (H:y.eval x=Ç (Â ad) 1 b) (I:∀j g,[z][j]?=Â g->w.cell? (ad.add j)=Â g) (J:z.oneCell'=Î) (L:n+1<=ī) (M:(n+1)*bytes<=140737488355328) (N:base<=w.heap.size) (O:mj e=Ë) (S:m<=base) (T:jE m w) (V:nj m w.heap.size z) (W:e≠304/\e≠305) (h:∀d u,qy w base e 1 v n l 1 [z] d u->jE m u->nj m u.heap.size d->K (y.put o.dst d) u): if đ o (Ι f y.tmps)=Î then Oper.wp P o y w K vJ else E:=by
 have X:đ o (Ι f y.tmps)=Î:=by simp[đ,k]
 rw[if_pos X];let⟨d,u,Y,h2,h3,h4⟩:=aqI (ty:=o.type) q r B C D G ad b I J L M N O S T V W;unfold Oper.wp;simp[ś,p,ρ,ar,ς,F,H,Y,ų];exact h d u h2 h3 h4
def nQ(l:List Nat):List Ñ:=l.map λa=>Ã<|Â ⟨a,0,Á⟩
def oG(l:List Int):List Ñ:=l.map λz=>Å É z
def Gp(p:PT):List Ñ:=oG p.c++[Ä p.p]
def DX(c:List Int)(a:Ñ):List Ñ:=oG c++[a]
structure pb(lo hi:Nat)(tb:List Nat)(l:List PT)(w:Í):Prop where
 r:tb.length=l.length
 I:∀(j a:Nat) (p:PT),tb[j]?=Â a->l[j]?=Â p->lo<=a/\a<hi/\p.c.length=5/\ff a (Gp p) 200 w
structure wm(B q:Nat)(r:PR)(w:Í):Prop where
 M:q<B
 C:r.c.length=8
 I:∃vb tb,ff q (DX r.c vb) 161 w/\w.ownsRow 0 149 1 vb tb.length (nQ tb)/\(∀j,vb.ownBlock=Â j->j<B)/\pb 0 B tb r.r w
structure pW(B:Nat)(qs:List Nat)(rs:List PR)(w:Í):Prop where
 I:qs.length=rs.length
 M:∀(j q:Nat) (r:PR),qs[j]?=Â q->rs[j]?=Â r->wm B q r w
section
variable{w':Í}{lo hi B q:Nat}{tb qs:List Nat}{l:List PT}{r:PR}{rs:List PR}
def pb.C(h:pb lo hi tb l w)(k:e8 X w w')(f:∀a c g,lo<=a->a<hi->w.heap[a]?=Â (Û c 200 g)->¬X a):pb lo hi tb l w':= ⟨h.r,λj a p i m=>by let⟨b,d,n,e⟩:=h.I j a p i m;exact⟨b,d,n,e.I k<|f a _ _ b d e⟩⟩
def pb.M(h:pb lo hi tb l w)(f:i<=lo)(g:hi<=n):pb i n tb l w:= ⟨h.r,λj a p b c=>by let⟨k,m,d,e⟩:=h.I j a p b c;exact⟨Z,Z,d,e⟩⟩
def pb.N(lo hi:Nat)(w:Í):pb lo hi [] [] w:=⟨U,λj a p h=>by cases h⟩
theorem Gq{α:Type}{l:List α}{a x:α}(h:(l++[a])[j]?=Â x):l[j]?=Â x\/j=l.length/\x=a:=by grind
theorem pb.Uk{p:PT}(h:pb lo hi tb l w)(g:lo<=i)(k:i<hi)(m:p.c.length=5)(n:ff i (Gp p) 200 w):pb lo hi (tb++[i]) (l++[p]) w:=by
 refine⟨by simp[h.r],λj x y d b=> ?_⟩;rcases Gq d with e|⟨e,rfl⟩
 .rcases Gq b with f|⟨f,rfl⟩
  .exact h.I j x y e f
  .have:=(Õ.1 e).1;have:=h.r;omega
 .rcases Gq b with f|⟨f,rfl⟩
  .have:=(Õ.1 f).1;have:=h.r;omega
  .grind
def Ul(B:Nat)(w:Í)(i:Nat):Prop:=B<=i\/∃c T a,w.heap[i]?=Â (Û c T a)/\(T=153\/T=148)
theorem Um(a:Ul B w i)(hi:i<B)(h:w.heap[i]?=Â (Û d T xJ))(b:T≠153/\T≠148):False:=by rcases a with q|⟨e,f,qS,g,j⟩;all_goals grind
theorem wm.vt(h:wm B q r w)(k:e8 X w w')(d:∀i,i<w.heap.size->X i->Ul B w i):wm B q r w':=by let⟨f,tb,b,g,l,m⟩:=h.I;refine⟨h.M,h.C,f,tb,b.I k λx=>Um (d q b.M x) h.M b A,ie g k λj o x=> ?_,l,m.C k λa c p _ n e x=>Um (d a (á.1 e).1 x) n e A⟩;grind [lX,Um]
def wm.fN(h:wm B q r w)(a:B<=i):wm i q r w:=by let⟨b,tb,c,d,e,f⟩:=h.I;exact⟨by have:=h.M;omega,h.C,b,tb,c,d,λj g=>by have:=e j g;omega,f.M (æ _) a⟩
def pW.C(h:pW B qs rs w)(k:e8 X w w')(a:∀i,i<w.heap.size->X i->Ul B w i):pW B qs rs w':= ⟨h.I,λj q r b c=>(h.M j q r b c).vt k a⟩
def pW.Uk(h:pW B qs rs w)(b:B<=i)(c:wm i q r w):pW i (qs++[q]) (rs++[r]) w:=by
 refine⟨by simp[h.I],λj x y d a=> ?_⟩;rcases Gq d with e|⟨e,rfl⟩
 .rcases Gq a with f|⟨f,rfl⟩
  .exact(h.M j x y e f).fN b
  .have:=(Õ.1 e).1;have:=h.I;omega
 .rcases Gq a with f|⟨f,rfl⟩
  .have:=(Õ.1 f).1;have:=h.I;omega
  .exact c
def pW.N(B:Nat)(w:Í):pW B [] [] w:=⟨U,λj q r h=>by cases h⟩
end
structure Gh where
 a:List Nat
 q:Nat
 t:Nat
 B:Nat
 tb:List Nat
 N:Ñ
 r:Ñ
 b:Option ü
namespace Gh
def C(g:Gh)(d:PD):List Nat:=if d.r then g.a++[g.q]else g.a
def I(g:Gh)(d:PD):List Nat:=if d.M then g.tb++[g.t]else g.tb
def S(g:Gh)(d:PD):Option ü:=if d.r then Â ⟨g.q,0,Á⟩else Á
def Y(g:Gh)(d:PD):Option ü:=if d.M then Â ⟨g.t,0,Á⟩else g.b
def M(g:Gh)(d:PD):Nat:=if d.M then g.t else g.q
def G(g:Gh)(d:PD):Option ü:=if d.r then Â ⟨g.M d,0,Á⟩else Á
def DY(g:Gh)(d:PD)(a:Int):ü:=if a=86 then⟨g.q,5,Á⟩else if a=87 then⟨g.q,6,Á⟩else if a=110 then⟨g.M d,2,Á⟩else⟨g.M d,3,Á⟩
end Gh
structure wo(m:Nat)(g:Gh)(d:PD)(w:Í):Prop where
 S:m<=g.B
 N:g.B<=g.q
 M:d.I.c.length=8
 r:ff g.q (DX d.I.c g.r) 161 w
 I:w.ownsRow g.B 149 1 g.r (g.I d).length (nQ<|g.I d)
 Y:pb g.B g.t g.tb d.I.r w
 C:d.M=Î->g.B<=g.t/\d.N.c.length=5/\ff g.t (Gp d.N) 200 w
 a:d.M=Ë->g.tb=[]/\d.I.r=[]
structure kZ(m:Nat)(g:Gh)(d:PD)(w:Í):Prop where
 C:w.ownsRow m 148 1 g.N (g.C d).length (nQ<|g.C d)
 I:pW g.B g.a d.S w
 r:d.r=Î->wo m g d w
 N:d.r=Ë->d.M=Ë
def Un(s:ByteArray)(g:Gh)(d:PD)(a:Option ü)(lq b:Int):List Ñ:=
 [Ä s,g.N,Ã<|g.S d,Ã<|g.Y d,Ã<|g.G d,Ã a,Å É lq,Å É b]
structure gQ(m b:Nat)(g:Gh)(c:Option ü)(s:ByteArray)(st:PS)(w:Í):Prop where
 S:m<=b
 a:jE m w
 r:ff b (Un s g st.d c st.r st.I) 153 w
 M:s.size<=10
 I:jW s=st.C
 C:kZ m g st.d w
 c:0<st.r->st.d.r=Î/\c=Â (g.DY st.d st.M)
 N:st.d.r=Î\/st.C=[82]
def sH(m b:Nat)(st:PS)(w a:Í):Prop:=e8 (λi=>m<=i) w a/\∃g i s,gQ m b g i s st a
section
variable{w':Í}{g:Gh}{d:PD}{s:ByteArray}{st:PS}
theorem wo.vt(h:wo m g d w)(k:e8 X w w')(p:∀i c T b,w.heap[i]?=Â (Û c T b)->X i->T=153\/T=148):wo m g d w':=by
 have l:∀{i:Nat} {c:Array Ñ} {T:č} {b:Nat×Nat},w.heap[i]?=Â (Û c T b)->(T≠153/\T≠148)->¬X i:=λ{i c T b} n f x=>(p i c T b n x).elim f.1 f.2;refine⟨h.S,h.N,h.M,h.r.I k<|l h.r A,ie h.I k λj r=> ?_,h.Y.C k λa c b _ _ q=>l q A,λe=> ?_,h.a⟩
 .let⟨o,s⟩:=lX h.I r;grind
 .let⟨n,f,o⟩:=h.C e;exact⟨n,f,o.I k<|l o A⟩
theorem kZ.rd(h:kZ m g d w)(k:e8 X w w')(b:∀i c T a,w.heap[i]?=Â (Û c T a)->X i->T=153)(f:∀i,i<w.heap.size->X i->∃c a,w.heap[i]?=Â (Û c 153 a)):kZ m g d w':=by
 refine⟨ie h.C k λj l x=> ?_,h.I.C k λi n x=> ?_,λe=>(h.r e).vt k λi c T a q x=>È<|b i c T a q x,h.N⟩
 .let⟨o,q⟩:=lX h.C l;grind
 .let⟨c,a,q⟩:=f i n x;exact Ï ⟨c,_,a,q,È U⟩
def kZ.M(h:kZ m g d w)(a:ff b l 153 w)(k:e8 (λi=>i=b) w w'):kZ m g d w':= h.rd k (λi c T e q x=>by subst x;unfold ff at a;rw[a]at q;cases q;rfl) λi _ x=>⟨l.toArray,(0,0),by rwa[x]⟩
def pX{i:Nat}{v:Value}{j:Nat}{vs:List Value}{T:TypeId}(h:ff j vs T w)(hT:mj T=false:=by decide):e8 (λk=>k=j) w (w.setCell ⟨j,i,none⟩ v):=e8.I (X:=λk=>k=j) U v<|Ï<|h.G hT
def kZ.G(h:kZ m g d w):(g.C d).length=d.C.length:=by unfold Gh.C PD.C;split<;>simp[h.I.I]
def wo.G(h:wo m g d w):(g.I d).length=d.Y.length:=by unfold Gh.I PD.Y;split<;>simp[h.Y.r]
def Uo(h:i<zQ.length)(v:Ñ):(oG zQ++[v])[i]?=Â (Å É<|zQ.getD i 0):=by rw[Ĥ (by simpa[oG]using h)];simp[oG,Ğ,h]
def abt(l:List Int)(i:Nat)(z:Int)(v:Ñ)(h:i<l.length):(oG l++[v]).set i (Å É z)=oG (l.set i z)++[v]:=by rw[List.set_append_left _ _ (by simpa[oG]using h)];simp[oG,List.map_set]
def abu(l:List Int)(v u:Ñ):(oG l++[v]).set l.length u=oG l++[u]:=by rw[Ĵ _ _ (by simp[oG])];simp[oG]
def DZ(l:List Int)(v:Ñ):(oG l++[v])[l.length]?=Â v:=by rw[ğ (by simp[oG])];simp[oG]
theorem kZ.S(h:kZ m g d w)(on:d.r=Î)(n:i<8)(z:Int):kZ m g (d.om i z) (w.setCell ⟨g.q,i,Á⟩<|Å É z):=by
 have l:=h.r on;have k:e8 (λk=>k=g.q) w (w.setCell ⟨g.q,i,Á⟩<|Å É z):=pX l.r;have r:=l.N;refine⟨ie h.C k λj b x=>jD h.C l.r A (by rw[b,x]),h.I.C k λi _ x=>È Z,λ_=>⟨l.S,l.N,by simp[PD.om,l.M],?_,ie l.I k λj b x=>jD l.I l.r A (by rw[b,x]),l.Y.C k λa c s _ _ q x=> ?_,λe=> ?_,l.a⟩,h.N⟩
 .have:=l.r.fP i<|Å É z;unfold DX at this;rw[abt _ _ _ _ (by rwa[l.M])]at this;exact this
 .have:=l.r;unfold ff at this;grind
 .let⟨o,p,f⟩:=l.C e;exact⟨o,p,f.I k λx=>(ff.S f l.r A) x⟩
theorem kZ.iq(h:kZ m g d w)(on:d.r=Î)(f:d.M=Î){p:PT}(n:p.c.length=5)(r:(Gp d.N).set i v=Gp p):kZ m g {d with N:=p} (w.setCell ⟨g.t,i,Á⟩ v):=by have l:=h.r on;let⟨o,s,b⟩:=l.C f;have k:e8 (λk=>k=g.t) w (w.setCell ⟨g.t,i,Á⟩ v):=pX b;refine⟨ie h.C k λj e x=>jD h.C b A (by rw[e,x]),h.I.C k λi _ x=>È Z,λ_=>⟨l.S,l.N,l.M,l.r.I k λx=>(ff.S l.r b A) x,ie l.I k λj e x=>jD l.I b A (by rw[e,x]),l.Y.C k λa c u _ q _ x=>by omega,λ_=>⟨o,n,?_⟩,l.a⟩,h.N⟩;have:=b.fP i v;grind
def kZ.Y(h:kZ m g d w)(on:d.r=Î)(a:d.M=Î)(c:i<5)(z:Int):kZ m g (d.oE i z) (w.setCell ⟨g.t,i,Á⟩<|Å É z):=by let⟨e,b,f⟩:=(h.r on).C a;exact h.iq on a (by simp[b])<|abt _ _ _ _<|by rwa[b]
def kZ.oF(h:kZ m g d w)(on:d.r=Î)(a:d.M=Î)(p:ByteArray):kZ m g (d.oF p) (w.setCell ⟨g.t,5,Á⟩<|Ä p):=by let⟨e,b,f⟩:=(h.r on).C a;refine h.iq on a b ?_;have:=abu d.N.c (Ä d.N.p)<|Ä p;rwa[b]at this
structure qL(m b:Nat)(g:Gh)(d:PD)(ab ao:Nat)(f:Int->PD)(x:Int)(w:Í):Prop where
 r:ab≠b
 N:m<=ab
 Y:ab<w.heap.size
 C:w.cell? ⟨ab,ao,Á⟩=Â (Å É x)
 I:w.frozen? ⟨ab,ao,Á⟩=Ë
 nf:NF ab w
 S:∀W,kZ m g d W->∀z,kZ m g (f z)<|W.setCell ⟨ab,ao,Á⟩<|Å É z
 M:∀z,g.S (f z)=g.S d/\g.Y (f z)=g.Y d/\g.G (f z)=g.G d/\(f z).r=d.r/\∀n,g.DY (f z) n=g.DY d n
theorem Gr(h:kZ m g d w)(f:ff b l 153 w)(on:d.r=Î)(e:i<8):qL m b g d g.q i (λz=>d.om i z) (d.I.c.getD i 0) w:=by have a:=h.r on;exact⟨ff.S a.r f A,Ì a.S a.N,a.r.M,a.r.r i _ (Uo (by rwa[a.M]) _),a.r.C i,a.r.G,λW j z=>j.S on e z,λz=>⟨U,U,U,U,λn=>rfl⟩⟩
theorem abv(h:kZ m g d w)(k:ff b l 153 w)(on:d.r=Î)(f:d.M=Î)(j:i<5):qL m b g d g.t i (λz=>d.oE i z) (d.N.c.getD i 0) w:=by have a:=h.r on;let⟨o,p,e⟩:=a.C f;exact⟨ff.S e k A,Ì a.S o,e.M,e.r i _ (Uo (by rwa[p]) _),e.C i,e.G,λW q z=>q.Y on f j z,λz=>⟨U,U,U,U,λn=>rfl⟩⟩
theorem Gs(h:kZ m g d w)(a:ff b l 153 w)(on:d.r=Î)(c:i<4):qL m b g d (g.M d) i (λz=>d.iq i z) (d.tK i) w:=by unfold PD.iq PD.tK Gh.M;split;all_goals grind [abv,Gr]
theorem gQ.G{f:Int->PD}(h:gQ m b g O s st w)(n:qL m b g st.d i j f c w)(z:Int):gQ m b g O s {st with d:=f z} (w.setCell ⟨i,j,Á⟩<|Å É z):=by
 let⟨e,l,o,a,p⟩:=n.M z;have k:e8 (λk=>k=i) w (w.setCell ⟨i,j,Á⟩<|Å É z):=e8.I (X:=λk=>k=i) U _<|È U;refine⟨h.S,h.a.r _ trivial,?_,h.M,h.I,n.S w h.C z,λq=> ?_,?_⟩
 .have:=h.r.I k λc=>n.r c.symm;unfold Un at this|-;grind
 .let⟨r,t⟩:=h.c q;grind
 .simp only[a];exact h.N
def gQ.Ob(h:gQ m b g O s st w)(a:ByteArray)(r:List Int)(c:a.size<=10)(e:jW a=r)(f:st.d.r=Î\/r=[82]):gQ m b g O a {st with C:=r} (w.setCell ⟨b,0,Á⟩<|Ä a):= ⟨h.S,h.a.r _ trivial,h.r.fP 0 _,c,e,h.C.M h.r<|pX h.r,h.c,f⟩
def gQ.Y(h:gQ m b g O s st w)(z:Int)(a:0<z->st.d.r=Î/\O=Â (g.DY st.d st.M)):gQ m b g O s {st with r:=z} (w.setCell ⟨b,6,Á⟩<|Å É z):= ⟨h.S,h.a.r _ trivial,h.r.fP 6 _,h.M,h.I,h.C.M h.r<|pX h.r,a,h.N⟩
def gQ.abw(h:gQ m b g O s st w)(z:Int):gQ m b g O s {st with I:=z} (w.setCell ⟨b,7,Á⟩<|Å É z):= ⟨h.S,h.a.r _ trivial,h.r.fP 7 _,h.M,h.I,h.C.M h.r<|pX h.r,h.c,h.N⟩
def gQ.abx(h:gQ m b g O s st w)(a:ü)(n:Int)(d:st.r=0)(c:m<=a.block/\a.block<w.heap.size):gQ m b g (Â a) s {st with M:=n} (w.setCell ⟨b,5,Á⟩<|Ã<|Â a):= ⟨h.S,h.a.r _ c,h.r.fP 5 _,h.M,h.I,h.C.M h.r<|pX h.r,λq=>by have:0<st.r:=q;omega,h.N⟩
def gQ.fS(h:gQ m b g O s st w):gQ m b g O s st w.drew:=by have k:=e8.fS (λ_=>False) w;exact⟨h.S,h.a,h.r.I k id,h.M,h.I,h.C.rd k (λ_ _ _ _ _ x=>x.elim) λ_ _ x=>x.elim,h.c,h.N⟩
end
section
variable{w':Í}{g:Gh}{st:PS}{f:Int->PD}{x:Int}
def qL.rd{d:PD}(h:qL m b g d n j f x w)(i:Nat)(v:Ñ):qL m b g d n j f x (w.setCell ⟨b,i,Á⟩ v):= ⟨h.r,h.N,by simpa using h.Y,by rw[Jc<|Ne.symm h.r];exact h.C,by rw[World.frozen?_setCell];exact h.I,λc T a q=>h.nf c T a (by rwa[ġ _ _ _ _ (by simpa using h.r)]at q),h.S,h.M⟩
def gQ.Up(h:gQ m b g O B st w)(n:Int)(a:st.r=0):gQ m b g O B {st with M:=n} w:= ⟨h.S,h.a,h.r,h.M,h.I,h.C,λq=>by have:0<st.r:=q;omega,h.N⟩
def mM(h:gQ m b g O B st w)(i:Nat)(v:Ñ):e8 (λi=>m<=i) w (w.setCell ⟨b,i,Á⟩ v):=e8.I (X:=λi=>m<=i) (p:=⟨b,i,Á⟩) h.S v<|Ï h.r.G
def Gt(h:qL m b g st.d n j f x w)(z:Int):e8 (λi=>m<=i) w (w.setCell ⟨n,j,Á⟩<|Å É z):=e8.I (X:=λi=>m<=i) (p:=⟨n,j,Á⟩) h.N _<|È U
def wq(c a:Int):Int:=if c=104\/c=48 then 0 else a-1
def jw(c:Int):Int:=if c=104 then-1 else(c-48)%256
def Uq{st:PS}(h:st.r=0)(n:Int)(d:PD):({st with r:=0,M:=n,d:=d}:PS)={st with M:=n,d:=d}:=by rw[<-h]
def Oc(h:gQ m b g O B st w)(i:qL m b g st.d n j f x w)(k:st.r=0)(o:st.d.r=Î)(c l a:Int)(y:0<=l)(C:l<=6)(p:∀z,g.DY (f z) a=⟨n,j,Á⟩): Ò À 147 #[Ã<|Â ⟨b,0,Á⟩,Ã<|Â ⟨n,j,Á⟩,Å ū c,Å É l] w λe w'=>
  e=Æ (ë #[])/\sH m b {st with r:=wq c l,M:=a,d:=f (jw c)} w w':=by
 have D:=h.r.r 5 _ U;have E:=h.r.r 6 _ U;have F:=h.r.C 5;have G:=h.r.C 6;have I:=i.C;have J:=i.I;have K:=i.r;have L:¬b=n:=λe=>i.r e.symm;have s:m<=n/\n<w.heap.size:=⟨i.N,i.Y⟩;have H:=fc<|Ê h<|Ê i<|Ê p<|Ê k o;by_cases r:c=104
 .subst r;go_enter Ŗ,ŋ;go_wp2;first|go_end0|refine ÿ (results_none U _ _ _) U ?_
  let⟨h,i,p,k,o⟩:=H.out;refine⟨U,Gt i _,g,O,B,?_⟩;have:=(h.G i<|-1).Up a k;rw[show wq 104 l=0 from if_pos<|È U,Uq k];exact this
 .have M:(c==104)=Ë:=by rwa[beq_eq_false_iff_ne]
  have t:jw c=(c-48)%256:=if_neg r;by_cases v:c=48
  .subst v;go_enter Ŗ,ŋ;go_wp2;go_end0;let⟨h,i,p,k,o⟩:=H.out;have u:=h.abx ⟨n,j,Á⟩ a k s;have q:=i.rd 5<|Ã<|Â ⟨n,j,Á⟩;refine⟨U,(mM h 5 _).fe<|Gt q _,g,Â ⟨n,j,Á⟩,B,?_⟩;have:=u.G q 0;rw[show wq 48 l=0 from if_pos<|Ï U,Uq k,t];exact this
  .go_enter Ŗ,ŋ;go_wp2;go_end0;let⟨h,i,p,k,o⟩:=H.out;have q:=i.rd 5<|Ã<|Â ⟨n,j,Á⟩;have u:=(h.abx ⟨n,j,Á⟩ a k s).G q<|(c-48)%256;refine⟨U,((mM h 5 _).fe<|Gt q _).fe<|mM u 6 _,g,Â ⟨n,j,Á⟩,B,?_⟩;rw[show wq c l=l-1 from if_neg Z,t];exact(u.Y (l-1) λ_=>⟨by simp only;rwa[(i.M _).2.2.2.1],by simp only;rw[p]⟩)
theorem Od{b a:Int}(h:o7 a c=Î)(d:(a=86\/a=87)/\b=2\/(a=110\/a=107)/\b=6):wq c b=qK a c:=by unfold wq qK;unfold o7 at h;grind [Gm]
theorem Oe{a:Int}(h:¬(a=86\/a=87)/\¬(a=110\/a=107)):qK a c=0:=by unfold qK;grind
theorem Og{a:Int}(h:a=86\/a=87\/a=110\/a=107):ni a c=jw c:=by unfold ni jw;grind
def Ur(h:gQ m b g O B st w)(i:qL m b g st.d n j f x w)(k:st.r=0){a z:Int}(e:c=0)(l:w'=(w.setCell ⟨n,j,Á⟩<|Å É z).drew):sH m b {st with r:=c,M:=a,d:=f z} w w':=by subst l;subst e;rw[Uq k];exact⟨(Gt i z).fe<|e8.fS _ _,g,O,B,((h.G i z).Up a k).fS⟩
end
section
variable{g:Gh}{st:PS}
def JZ{d:PD}(a:d.M=Î):g.Y d=Â ⟨g.t,0,Á⟩:=if_pos a
def aqM:yh st 0=Á:=rfl
def aqN(h:gQ m b g O B st w)(r:st.r=0)(on:st.d.r=Î)(f:st.d.M=Î)(k:Int): Ò À 101 #[Ã<|Â ⟨b,0,Á⟩,Å É k] w λe u=>match yh st k with
  |none=>e=Æ (õ Ë)/\u=w
  |some a=>e=Æ (õ Î)/\sH m b a w u:=by
 have s:=h.r.r 0 _ U;have o:=h.r.r 3 _ U;have v:=h.r.r 7 _ U;rw[JZ f]at o;have x:=h.r.C 0;have y:=h.r.C 7;have a:=abv h.C h.r on f (i:=4) A;have z:=a.C;have C:=a.I;have D:=a.r;have E:¬b=g.t:=λe=>a.r e.symm;have H:=fc<|Ê h a;by_cases c:k=0
 .subst c;rw[aqM];go_enter Κ,ż;go_wp2;go_ret;exact⟨U,U⟩
 .have F:(k==0)=Ë:=by rwa[beq_eq_false_iff_ne]
  have e:yh st k=Â {st with C:=sF k,I:=0,d:=st.d.oE 4 k}:=if_neg c;rw[e];go_enter Κ,ż;go_wp2_with (go_at_call 148;refine(aqH _ _).mono ?_;rintro e u ⟨⟨j,rfl,p,q⟩,l⟩;subst u);go_ret;let⟨h,a⟩:=H.out;have l:=h.G a k;have n:=l.abw 0;exact⟨U,((Gt a k).fe<|mM l 7 _).fe<|mM n 0 _,g,O,j,n.Ob j _ p q<|È on⟩
end
def aqO:(À.info? 149).map (λi=>(i.zero,i.size,i.bytes))=Â (Â<|Ã Á,1,8):=fp
def aqP:(À.info? 148).map (λi=>(i.zero,i.size,i.bytes))=Â (Â<|Ã Á,1,8):=fp
section
variable{g:Gh}{nm:Option ü}{s:ByteArray}{st:PS}{d:PD}{T:Nat}
structure uV(m:Nat)(g:Gh)(d:PD)(T:Nat)(w:Í):Prop where
 C:w.ownsRow m 148 1 g.N (g.C d).length (nQ<|g.C d)
 I:pW g.B g.a d.S w
 N:pb g.B T (g.I d) d.Y w
 tb:ff T (Gp PD.Gk) 200 w
def J0(x:i=j)(h:ff j l t w):w.heap[i]?=Â (Û l.toArray t (0,0)):=by rwa[x]
theorem uV.r(h:uV m g d T w)(k:e8 X w u)(f:∀i,i<w.heap.size->X i->∃c t b,w.heap[i]?=Â (Û c t b)/\(t=153\/(t=161\/t=149)/\g.B<=i)):uV m g d T u:=by
 have e:∀{i:Nat} {c:Array Ñ} {t:č} {b:Nat×Nat},w.heap[i]?=Â (Û c t b)->(t≠153/\t≠161/\t≠149)->¬X i:=λ{i c t b} q1 q2 x=>by grind
 refine⟨ie h.C k λj l=> ?_,h.I.C k λi n x=> ?_,h.N.C k λa c b _ _ q=>e q A,h.tb.I k<|e h.tb A⟩
 .let⟨o,p⟩:=lX h.C l;grind
 .let⟨r,s,qS,o,p⟩:=f i n x;rcases p with rfl|⟨_,z⟩
  .exact Ï ⟨_,_,_,o,È U⟩
  .exact È z
def uV.fK(h:uV m g d T w)(k:e8 (λ_=>False) w u):uV m g d T u:=h.r k λ_ _ x=>x.elim
def uV.M(h:uV m g d T w)(a:ff b l 153 w):uV m g d T (w.setCell ⟨b,i,Á⟩ v):= h.r (pX a) λi _ x=>⟨_,_,_,J0 x a,È U⟩
theorem wo.aby(l:wo m g d w):pb g.B w.heap.size (g.I d) d.Y w:=by
 unfold Gh.I PD.Y;split
 .rename_i e;let⟨b,c,a⟩:=l.C e;have:=a.M;exact(l.Y.M (æ _) Z).Uk b a.M c a
 .rename_i e;let⟨b,c⟩:=l.a (by simpa using e);grind [pb.N]
theorem jE.C(n:jE m w)(g:ff b l e w)(C:m<=b)(p:e≠304/\e≠305)(d:Array Ñ)(t:č)(u:0<d.size)(r:t≠304/\t≠305)(h:∀v∈d.toList,nj m (w.heap.size+1) v):jE m ((w.setCell ⟨b,i,Á⟩<|Ã<|Â ⟨w.heap.size,0,Á⟩).alloc<|Û d t):=by
 have s:(w.setCell ⟨b,i,Á⟩<|Ã<|Â ⟨w.heap.size,0,Á⟩).heap.size=w.heap.size:=fi
 have D:=g.M;intro j o k c;have x:((w.setCell ⟨b,i,Á⟩<|Ã<|Â ⟨w.heap.size,0,Á⟩).alloc<|Û d t).heap.size=w.heap.size+1:=fi
 rw[x];by_cases a:j<w.heap.size
 .rw[Š _ _ _ (by rwa[s])]at c;by_cases f:j=b
  .subst f;have:=g.fP i<|Ã<|Â ⟨w.heap.size,0,Á⟩;unfold ff at this;rw[this]at c;cases c;let⟨E,F,G,y,H,z,I,J,B⟩:=n j _ k g;cases y;refine⟨_,_,_,U,fi,by simpa using z,p.1,p.2,λv h=> ?_⟩;rcases Ħ (by simpa using h)with q|q
   .exact(B v<|by simpa using q).r Z
   .rw[q];exact⟨Ì k<|Nat.le_of_lt a,Nat.lt_succ_self _⟩
  .rw[ġ _ _ _ _ (by simpa using f)]at c;exact(n j o k c).r Z
 .by_cases f:j=w.heap.size
  .have:=Ŵ (w.setCell ⟨b,i,Á⟩<|Ã<|Â ⟨w.heap.size,0,Á⟩)<|Û d t;rw[s]at this;rw[f,this]at c;cases c;exact⟨_,_,_,U,Ø _,u,r.1,r.2,h⟩
  .grind
def Oh(b:Nat)(w:Í):Í:=(w.setCell ⟨b,3,Á⟩<|Ã<|Â ⟨w.heap.size,0,Á⟩).alloc<|Û #[Å É 0,Å É 0,Å É 0,Å É 0,Å É 0,Ä ⟨#[]⟩] 200
def rdM(s:ByteArray)(g:Gh)(d:PD)(a b nm:Option ü)(lq c:Int):List Ñ:=
 [Ä s,g.N,Ã<|g.S d,Ã a,Ã b,Ã nm,Å É lq,Å É c]
structure Gu(m b:Nat)(g:Gh)(d:PD)(T:Nat)(s:ByteArray)(tm nm:Option ü)(lq Us:Int)(w0 w:Í):Prop where
 S:e8 (λi=>m<=i) w0 w
 N:jE m w
 r:ff b (rdM s g d (Â ⟨T,0,Á⟩) tm nm lq Us) 153 w
 M:uV m g d T w
 I:ff g.q (DX d.I.c g.r) 161 w
 C:w.ownsRow g.B 149 1 g.r (g.I d).length (nQ<|g.I d)
def Gu.fK{lq:Int}(h:Gu m b g d T s O nm lq c W w)(k:e8 (λ_=>False) w u)(a:jE m u):Gu m b g d T s O nm lq c W u:= ⟨h.S.C k λ_ _ x=>x.elim,a,h.r.I k id,h.M.fK k,h.I.I k id,ie h.C k λ_ _=>id⟩
theorem gQ.aqQ(h:gQ m b g nm s st w)(on:st.d.r=Î):Gu m b g st.d w.heap.size s (g.G st.d) nm st.r st.I w (Oh b w):=by
 have l:=h.C.r on;have p:(w.setCell ⟨b,3,Á⟩<|Ã<|Â ⟨w.heap.size,0,Á⟩).heap.size=w.heap.size:=fi
 have n:e8 (λ_=>False) (w.setCell ⟨b,3,Á⟩<|Ã<|Â ⟨w.heap.size,0,Á⟩) (Oh b w):=e8.gE _ _ _ _;have r:e8 (λk=>k=b) w (w.setCell ⟨b,3,Á⟩<|Ã<|Â ⟨w.heap.size,0,Á⟩):=pX h.r;have e:=r.C n λ_ _ x=>x.elim;refine⟨e.S λk _ x=>by rw[x];exact h.S,?_,(h.r.fP 3 _).I n id,⟨ie h.C.C e λj f x=>jD h.C.C h.r A (by rw[f,x]),h.C.I.C e λi _ x=>Ï ⟨_,_,_,J0 x h.r,È U⟩,l.aby.C e λa c t _ _ q x=> ?_,?_⟩,l.r.I e λx=>ff.S l.r h.r A x,ie l.I e λj f x=>jD l.I h.r A<|by rw[f,x]⟩
 .exact h.a.C h.r h.S A _ _ fi A λv o=>by simp at o;rcases o with rfl|rfl<;>trivial
 .have o:=h.r;unfold ff at o;grind
 .have:=ff.N (w.setCell ⟨b,3,Á⟩<|Ã<|Â ⟨w.heap.size,0,Á⟩) [Å É 0,Å É 0,Å É 0,Å É 0,Å É 0,Ä ⟨#[]⟩] 200;rwa[p]at this
def Ut(g:Gh)(d:PD)(T:Nat)(v:Ñ):Gh:={g with t:=T,tb:=g.I d,r:=v}
theorem Gu.jL(h:Gu m b g st.d T s O nm st.r st.I w u)(C:m<=b)(on:st.d.r=Î)(a:m<=g.B/\g.B<=g.q/\st.d.I.c.length=8)(D:g.B<=T)(hd:st.r=0) (l:qy u g.B 149 1 g.r (g.I st.d).length (nQ<|g.I st.d) 1 [Ã<|Â ⟨T,0,Á⟩] v W) (K:jE m W) (L:nj m W.heap.size v) (n:jX=((W.setCell ⟨g.q,8,Á⟩ v).setCell ⟨b,4,Á⟩<|Ã<|Â ⟨T,0,Á⟩).setCell ⟨b,0,Á⟩ (Ä ⟨#[84]⟩)): e8 (λi=>m<=i) w jX/\gQ m b (Ut g st.d T v) nm ⟨#[84]⟩ {st with C:=[84],d:=st.d.nO} jX:=by
 have E:∀{j:Nat} {M:List Ñ} {t:č},ff j M t u->149≠t->¬g.r.ownBlock=Â j:=λN f=>jD h.C N f;have F:=h.r.I l.r<|E h.r A;have f:=h.I.I l.r<|E h.I A;have P:=h.M.r l.r λi _ x=>by let⟨k,z⟩:=lX h.C x;exact⟨_,_,_,z,Ï ⟨Ï U,(h.C.lt i x).1⟩⟩
 have o:e8 (λk=>k=g.q) W (W.setCell ⟨g.q,8,Á⟩ v):=pX f;have G:ff g.q (DX st.d.I.c v) 161 (W.setCell ⟨g.q,8,Á⟩ v):=by have:=f.fP 8 v;have e:=abu st.d.I.c g.r v;rw[a.2.2]at e;unfold DX at this|-;grind
 have z:=F.I o λx=>ff.S F f A x;have H:=P.r o λi _ x=>⟨_,_,_,J0 x f,Ï ⟨È U,by rw[x];exact a.2.1⟩⟩;have I:=ie l.fj o λj p x=>jD l.fj f A (by rw[p,x]);have Q:jE m (W.setCell ⟨g.q,8,Á⟩ v):=K.r _ L;have S:e8 (λk=>k=b) (W.setCell ⟨g.q,8,Á⟩ v) ((W.setCell ⟨g.q,8,Á⟩ v).setCell ⟨b,4,Á⟩<|Ã<|Â ⟨T,0,Á⟩):=pX z;have r:=z.fP 4<|Ã<|Â ⟨T,0,Á⟩;have V:e8 (λk=>k=b) ((W.setCell ⟨g.q,8,Á⟩ v).setCell ⟨b,4,Á⟩<|Ã<|Â ⟨T,0,Á⟩) jX:=by rw[n];exact pX r
 have J:=r.fP 0<|Ä ⟨#[84]⟩;rw[<-n]at J;have k:uV m g st.d T jX:=by rw[n];exact(H.M z).M r
 have y:=S.fe V;have X:=G.I y λx=>ff.S G z A x;have Y:=ie I y λj p x=>jD I z A (by rw[p,x]);have hTl:=H.tb.M;have c5:jE m jX:=by rw[n];refine(Q.r _ ?_).r _ trivial;exact⟨Ì a.1 D,hTl⟩
 have e1:(g.I st.d++[T]).length=(g.I st.d).length+1:=fi
 have e2:nQ (g.I st.d++[T])=nQ (g.I st.d)++[Ã<|Â ⟨T,0,Á⟩]:=by simp[nQ]
 refine⟨((h.S.C l.r λi _ x=> ?_).C o λi _ x=> ?_).C y λi _ x=> ?_,C,c5,?_,A,U,⟨k.C,k.I,λ_=>⟨a.1,a.2.1,a.2.2,X,?_,k.N,λ_=>⟨D,U,k.tb⟩,λe=>by cases e⟩,λe=> ?_⟩,λe=> ?_,È on⟩
 .have:=(h.C.lt i x).1;have:=a.1;omega
 .grind
 .rwa[x]
 .have e:(Ut g st.d T v).S st.d.nO=g.S st.d:=U;unfold Un;rw[e];have e4:(Ut g st.d T v).G st.d.nO=Â ⟨T,0,Á⟩:=if_pos on;rwa[e4]
 .show jX.ownsRow g.B 149 1 v (g.I st.d++[T]).length (nQ<|g.I st.d++[T]);rwa[e1,e2]
 .have:st.d.r=Ë:=e;grind
 .grind
def abz(h:gQ m b g nm s st w)(D:st.r=0)(p:st.d.r=Î)(E:st.d.Y.length<=100000): Ò À 99 #[Ã<|Â ⟨b,0,Á⟩] w λe u=>e=Æ (ë #[])/\sH m b {st with C:=[84],d:=st.d.nO} w u:=by
 have Y:=h.r.r 3 _ U;have f3:=h.r.C 3;have gI:=h.r.M;have l:=h.C.r p;have z:=h.aqQ p;have F:=λv=>by have:=DZ st.d.I.c v;rwa[l.M]at this
 have G:m<=g.B/\g.B<=g.q/\st.d.I.c.length=8:=⟨l.S,l.N,l.M⟩;have I:g.B<=w.heap.size:=by have:=l.r.M;have:=l.N;omega
 have J:(g.I st.d).length<=100000:=by rwa[l.G]
 have L:=h.S;have H:=fc<|Ê G<|Ê I<|Ê J<|Ê L<|Ê D p;have k:=fc<|F g.r;have y:g.S st.d=Â ⟨g.q,0,Á⟩:=if_pos p;go_enter Tryz.func99,Tryz.ntmps99;go_wp2_with fail;change ß À _ _ _ (Oh b w);have n:=z.fK (e8.fS _ _) z.N.fS;generalize hT:w.heap.size=T at*;generalize M:(Oh b w).drew=w1 at*;let⟨i0,N,O,P,Q⟩:=ů aqO;have r:=fc<|Ê N<|Ê O<|Ê P Q;refine mq (λu=>u.cell? ⟨b,2,Á⟩=Â (Ã<|g.S st.d)/\u.cell? ⟨b,3,Á⟩=Â (Ã<|Â ⟨T,0,Á⟩)/\u.cell? ⟨g.q,8,Á⟩=Â g.r) [19] fp ?_;rw[M];rw[y];have a:Hid (w1.cell? ⟨b,2,Á⟩=Â (Ã<|Â ⟨g.q,0,Á⟩)/\w1.cell? ⟨b,3,Á⟩=Â (Ã<|Â ⟨T,0,Á⟩)/\w1.cell? ⟨g.q,8,Á⟩=Â g.r):=fc ⟨by rw[<-y];exact n.r.r 2 _ U,n.r.r 3 _ U,n.I.r 8 _ k.out⟩;have t:=fc y;apply tk 0 a.out;apply tk 1 a.out;apply tk 2 a.out;apply tk 3 a.out;apply tk 4 a.out;apply tk 5 a.out;apply tk 6 a.out;apply tk 7 a.out;apply tk 8 a.out;apply tk 9 a.out;apply tk 10 a.out;apply tk 11 a.out;apply tk 12 a.out;apply tk 13 a.out;apply tk 14 a.out;have S:=n.M.tb.M;have f:=n.fK (e8.gE (λ_=>False) w1 #[Ã<|Â ⟨T,0,Á⟩] 149) (n.N.gE _ _ fi A λv i=>by simp at i;subst i;exact⟨Ì H.out.1.1 H.out.2.1,S⟩);apply gA 15;intro K j;go_simp;refine j.out _ _ (λ_=>⟨by rw[<-t.out];exact f.r.r 2 _ U,f.r.r 3 _ U,f.I.r 8 _ k.out⟩) ?_;apply gA 16;intro K j;refine abr fM _ _ 159 fM Tryz.underlying159 r.out.1 r.out.2.1 r.out.2.2.1 r.out.2.2.2 fM f.C ⟨w1.heap.size,0,Á⟩ fM (Λ w1 _ _) U (by have:=H.out.2.2.1;unfold ī;omega) (by have:=H.out.2.2.1;omega) (by have:=H.out.2.1;have:=f.M.tb.M;omega) A H.out.1.1 f.N ⟨Ì H.out.1.1 H.out.2.1,f.M.tb.M⟩ A ?_;intro v9 w9 x V W;obtain⟨a9,n9c,rfl⟩:=jj x.fj;have i:=f.r.I x.r<|jD f.C f.r A;have o:=f.I.I x.r<|jD f.C f.I A;refine j.out _ _ (λ_=>⟨by rw[<-t.out];exact i.r 2 _ U,i.r 3 _ U,o.r 8 _ k.out⟩) ?_;apply gA 17;intro K j;go_simp;refine j.out _ _ (λ_=>⟨by rw[<-t.out];exact i.r 2 _ U,i.r 3 _ U,o.r 8 _ k.out⟩) ?_;apply gA 18;intro K j;go_simp;refine j.out _ _ (λ_=>⟨by rw[<-t.out];exact i.r 2 _ U,i.r 3 _ U,o.r 8 _ k.out⟩) ?_;have cq8:=o.r 8 _ k.out;have fq8:=o.C 8;have cb4:=i.r 4 _ U;have fb4:=i.C 4;have cb0:=i.r 0 _ U;have fb0:=i.C 0;have cb3:=i.r 3 _ U;have X:=ff.S o i A;have hbq:¬b=g.q:=λe=>X e.symm;apply gA 19;intro K j;go_simp;apply j.out _ _ λC=>absurd A C;refine lY fp ?_ _;have C:=fc<|f.jL H.out.2.2.2.1 p H.out.1 H.out.2.1 H.out.2.2.2.2.1 x V W U;go_wp2_with fail;go_end0;exact⟨U,C.out.1,_,_,_,C.out.2⟩
end
section
variable{g:Gh}{nm:Option ü}{s:ByteArray}{f:PS}{d:PD}{Q:Nat}{k:Int}
def aqR(h:w.ownsRow i e 1 v n l)(c:j<=i):w.ownsRow j e 1 v n l:= ⟨h.1,h.2.imp id λ⟨g,d,f,a,b,r⟩=>⟨g,d,f,a,Ì c b,r⟩⟩
def wo.fZ(l:wo m g d w):wm w.heap.size g.q ⟨d.I.c,d.Y⟩ w:= ⟨l.r.M,l.M,g.r,g.I d,l.r,aqR l.I<|Ø _,λj a=>(l.I.lt j a).2,l.aby.M (Ø _)<|æ _⟩
theorem kZ.abA(h:kZ m g d w)(a:d.r=Ë->d.S=[]):pW w.heap.size (g.C d) d.C w:=by
 unfold Gh.C PD.C;split
 .rename_i e;have l:=h.r e;have b:=l.r.M;have c:=l.N;exact h.I.Uk Z l.fZ
 .rename_i e;have f:=a (by simpa using e);have:=h.I.I;grind [Ý,pW.N]
def Oi(b:Nat)(k:Int)(w:Í):Í:=(w.setCell ⟨b,2,Á⟩<|Ã<|Â ⟨w.heap.size,0,Á⟩).alloc<|Û #[Å É 0,Å É 0,Å É 0,Å É 0,Å É k,Å É 0,Å É 0,Å É 0,Ç Á 0 0] 161
def rdQ(s:ByteArray)(g:Gh)(d:PD)(Q:Nat)(nm:Option ü)(lq a:Int):List Ñ:=
 [Ä s,g.N,Ã<|Â ⟨Q,0,Á⟩,Ã<|g.Y d,Ã<|g.G d,Ã nm,Å É lq,Å É a]
structure Gv(m b:Nat)(g:Gh)(d:PD)(Q:Nat)(k:Int)(s:ByteArray)(nm:Option ü)(lq Us:Int)(w0 w:Í):Prop where
 S:e8 (λi=>m<=i) w0 w
 M:jE m w
 r:ff b (rdQ s g d Q nm lq Us) 153 w
 I:ff Q (DX (PD.abp k).c<|Ç Á 0 0) 161 w
 N:pW Q (g.C d) d.C w
 C:w.ownsRow m 148 1 g.N (g.C d).length (nQ<|g.C d)
def Gv.fK{lq:Int}(h:Gv m b g d Q k s nm lq c W w)(a:e8 (λ_=>False) w u)(e:jE m u):Gv m b g d Q k s nm lq c W u:= ⟨h.S.C a λ_ _ x=>x.elim,e,h.r.I a id,h.I.I a id,h.N.C a λ_ _ x=>x.elim,ie h.C a λ_ _=>id⟩
def gQ.aqS(h:gQ m b g nm s f w)(k:Int)(l:f.d.r=Ë->f.d.S=[]):Gv m b g f.d w.heap.size k s nm f.r f.I w (Oi b k w):=by
 have n:(w.setCell ⟨b,2,Á⟩<|Ã<|Â ⟨w.heap.size,0,Á⟩).heap.size=w.heap.size:=fi
 have c:e8 (λ_=>False) (w.setCell ⟨b,2,Á⟩<|Ã<|Â ⟨w.heap.size,0,Á⟩) (Oi b k w):=e8.gE _ _ _ _;have o:e8 (λk=>k=b) w (w.setCell ⟨b,2,Á⟩<|Ã<|Â ⟨w.heap.size,0,Á⟩):=pX h.r;have a:=o.C c λ_ _ x=>x.elim;refine⟨a.S λk _ x=>by rw[x];exact h.S,?_,(h.r.fP 2 _).I c id,?_,(h.C.abA l).C a λi _ x=>Ï ⟨_,_,_,J0 x h.r,È U⟩,ie h.C.C a λj p x=>jD h.C.C h.r A<|by rw[p,x]⟩
 .exact h.a.C h.r h.S A _ _ fi A λv e=>by simp at e;rcases e with rfl|rfl|rfl|rfl<;>trivial
 .have:=ff.N (w.setCell ⟨b,2,Á⟩<|Ã<|Â ⟨w.heap.size,0,Á⟩) [Å É 0,Å É 0,Å É 0,Å É 0,Å É k,Å É 0,Å É 0,Å É 0,Ç Á 0 0] 161;rwa[n]at this
def aqT(g:Gh)(d:PD)(Q:Nat)(v:Ñ):Gh:={a:=g.C d,q:=Q,t:=Q,B:=Q,tb:=[],N:=v,r:=Ç Á 0 0,b:=g.Y d}
theorem Gv.jL{sb:ByteArray}(h:Gv m b g f.d Q k s nm f.r f.I w u)(o:m<=b)(p:m<=Q)(S:f.r=0)(y:sb.size<=10)(B:jW sb=rE k) (a:qy u m 148 1 g.N (g.C f.d).length (nQ<|g.C f.d) 1 [Ã<|Â ⟨Q,0,Á⟩] v W) (C:jE m W) (D:nj m W.heap.size v) (l:jX=((W.setCell ⟨b,1,Á⟩ v).setCell ⟨b,4,Á⟩<|Ã<|Â ⟨Q,0,Á⟩).setCell ⟨b,0,Á⟩ (Ä sb)): e8 (λi=>m<=i) w jX/\gQ m b (aqT g f.d Q v) nm sb {f with C:=rE k,d:=f.d.Gn k} jX:=by
 have c:=h.r.I a.r<|jD h.C h.r A;have n:=h.I.I a.r<|jD h.C h.I A;have E:=h.N.C a.r λi _ x=>by let⟨e,z⟩:=lX h.C x;exact Ï ⟨_,_,_,z,Ï U⟩
 have F:e8 (λk=>k=b) W (W.setCell ⟨b,1,Á⟩ v):=pX c;have q:=c.fP 1 v;have G:e8 (λk=>k=b) (W.setCell ⟨b,1,Á⟩ v) ((W.setCell ⟨b,1,Á⟩ v).setCell ⟨b,4,Á⟩<|Ã<|Â ⟨Q,0,Á⟩):=pX q;have r:=q.fP 4<|Ã<|Â ⟨Q,0,Á⟩;have H:e8 (λk=>k=b) ((W.setCell ⟨b,1,Á⟩ v).setCell ⟨b,4,Á⟩<|Ã<|Â ⟨Q,0,Á⟩) jX:=by rw[l];exact pX r
 have t:=r.fP 0<|Ä sb;rw[<-l]at t;have z:=(F.fe G).fe H;have I:=n.I z λx=>ff.S n c A x;have J:=E.C z λi _ x=>Ï ⟨_,_,_,J0 x c,È U⟩;have K:=ie a.fj z λj L x=>jD a.fj c A (by rw[L,x]);have M:Q<(W.setCell ⟨b,1,Á⟩ v).heap.size:=by simpa using n.M
 have N:jE m jX:=by rw[l];refine((C.r _ D).r _ ?_).r _ trivial;exact⟨p,M⟩
 have O:(g.C f.d++[Q]).length=(g.C f.d).length+1:=fi
 have P:nQ (g.C f.d++[Q])=nQ (g.C f.d)++[Ã<|Â ⟨Q,0,Á⟩]:=by simp[nQ]
 refine⟨(h.S.C a.r λi _ x=> ?_).C z λi _ x=> ?_,o,N,t,y,B,⟨?_,J,λ_=>⟨p,æ _,U,I,?_,pb.N _ _ _,(λe=>by cases e),λ_=>⟨rfl,rfl⟩⟩,(λe=>by cases e)⟩,λe=> ?_,È rfl⟩
 .exact(h.C.lt i x).1
 .rwa[x]
 .show jX.ownsRow m 148 1 v (g.C f.d++[Q]).length (nQ<|g.C f.d++[Q]);rwa[O,P]
 .exact⟨U,È ⟨U,U⟩⟩
 .grind
def aqU:yg f 0=Á:=rfl
def aqV(h:gQ m b g nm s f w)(t:f.r=0)(x:f.d.r=Ë->f.d.S=[])(y:f.d.C.length<=100000)(k:Int): Ò À 96 #[Ã<|Â ⟨b,0,Á⟩,Å É k] w λe u=>match yg f k with
  |none=>e=Æ (õ Ë)/\u=w
  |some i=>e=Æ (õ Î)/\sH m b i w u:=by
 by_cases n:k=0
 .subst n;rw[aqU];go_enter Ω,Μ;go_wp2;go_ret;exact⟨U,U⟩
 have Q:(k==0)=Ë:=by rwa[beq_eq_false_iff_ne]
 have e:yg f k=Â {f with C:=rE k,d:=f.d.Gn k}:=if_neg n;rw[e];have S:=h.r.r 2 _ U;have V:=h.r.C 2;have W:=h.r.M;have q:=h.aqS k x;have z:(g.C f.d).length<=100000:=by rwa[h.C.G]
 have B:=h.S;have C:m<=w.heap.size:=Z
 have H:=fc<|Ê B<|Ê C<|Ê z t;go_enter Ω,Μ;go_wp2_with fail;change ß À _ _ _ (Oi b k w);have j:=q.fK (e8.fS _ _) q.M.fS;generalize X:w.heap.size=T at*;generalize D:(Oi b k w).drew=w1 at*;let⟨Y,E,F,G,I⟩:=ů aqP;have l:=fc<|Ê E<|Ê F<|Ê G I;refine mq (λu=>u.cell? ⟨b,1,Á⟩=Â g.N/\u.cell? ⟨b,2,Á⟩=Â (Ã<|Â ⟨T,0,Á⟩)) [13] fp ?_;rw[D];have c:Hid (w1.cell? ⟨b,1,Á⟩=Â g.N/\w1.cell? ⟨b,2,Á⟩=Â (Ã<|Â ⟨T,0,Á⟩)):=fc ⟨j.r.r 1 _ U,j.r.r 2 _ U⟩;apply tk 0 c.out;apply tk 1 c.out;apply tk 2 c.out;apply tk 3 c.out;apply tk 4 c.out;apply tk 5 c.out;apply tk 6 c.out;apply tk 7 c.out;apply tk 8 c.out;have J:=j.I.M;have a:=j.fK (e8.gE (λ_=>False) w1 #[Ã<|Â ⟨T,0,Á⟩] 148) (j.M.gE _ _ fi A λv i=>by simp at i;subst i;exact⟨H.out.2.1,J⟩);apply gA 9;intro K i;go_simp;apply i.out _ _ λ_=>⟨a.r.r 1 _ U,a.r.r 2 _ U⟩;apply gA 10;intro K i;refine abr fM _ _ 61 fM Tryz.underlying61 l.out.1 l.out.2.1 l.out.2.2.1 l.out.2.2.2 fM a.C ⟨w1.heap.size,0,Á⟩ fM (Λ w1 _ _) U (by have:=H.out.2.2.1;unfold ī;omega) (by have:=H.out.2.2.1;omega) (by have:=H.out.2.1;have:=a.I.M;omega) A (æ _) a.M ⟨H.out.2.1,a.I.M⟩ A ?_;intro v9 w9 o L M;obtain⟨a9,n9c,rfl⟩:=jj o.fj;have v:=a.r.I o.r<|jD a.C a.r A;apply i.out _ _ λ_=>⟨v.r 1 _ U,v.r 2 _ U⟩;apply gA 11;intro K i;go_simp;apply i.out _ _ λ_=>⟨v.r 1 _ U,v.r 2 _ U⟩;apply gA 12;intro K i;go_simp;apply i.out _ _ λ_=>⟨v.r 1 _ U,v.r 2 _ U⟩;have cb1:=v.r 1 _ U;have fb1:=v.C 1;have cb4:=v.r 4 _ U;have fb4:=v.C 4;have cb0:=v.r 0 _ U;have fb0:=v.C 0;have cb2:=v.r 2 _ U;apply gA 13;intro K i;go_simp;apply i.out _ _ λp=>absurd A p;refine lY fp ?_ _;have N:=fc λp r O=>a.jL (sb:=p) H.out.1 H.out.2.1 H.out.2.2.2 r O o L M U;go_wp2_with (go_at_call 145;refine(aqG _ _).mono ?_;rintro e u ⟨⟨p,rfl,O,P⟩,r⟩;subst u);go_ret;have r:=N.out p O P;exact⟨U,r.1,_,_,_,r.2⟩
end
def lP(i:Nat)(z:Int):Prop:=match i with
 |0=>0<=z/\z<8
 |1=>0<=z/\z<8
 |2=>0<=z/\z<1000000
 |3=>0<=z/\z<1000000
 |4=>1<=z/\z<10
 |5=>-1<=z/\z<1000000
 |6=>-1<=z/\z<1000000
 |7=>0<=z/\z<16
 |_=>True
structure Gw(n m:Nat)(c:List Int):Prop where
 C:c.length=n
 r:∀i,i<m->lP i (c.getD i 0)
theorem Gw.I(h:Gw n m zQ)(i:Nat)(z:Int)(b:i<m->lP i z):Gw n m (zQ.set i z):=by refine⟨by simp[h.C],λj a=> ?_⟩;have:=h.r j a;grind
def abB(h:i<zQ.length)(z:Int):(zQ.set i z).getD i 0=z:=by simp[Ğ,h]
structure oh(t:PT):Prop where
 c:Gw 5 4 t.c
 p:t.p.size<=40/\∀c∈t.p.data.toList,xO c=Î
structure uW(r:PR):Prop where
 c:Gw 8 8 r.c
 C:∀t∈r.r,oh t
 n:r.r.length<=8
structure kv(d:PD):Prop where
 N:d.r=Ë->d.S=[]/\d.M=Ë
 b:d.M=Ë->d.I.r=[]
 C:d.C.length<=24
 I:d.Y.length<=8
 S:∀r∈d.S,uW r
 M:d.r=Î->Gw 8 8 d.I.c
 a:d.r=Î->∀t∈d.I.r,oh t
 Y:d.M=Î->oh d.N
structure jx(B:ByteArray)(k:Nat)(st:PS):Prop where
 M:0<=st.r
 r:st.r<=5
 C:0<=st.I
 I:st.I<=40
 e:0<st.r->(st.M=86\/st.M=87\/st.M=110\/st.M=107)/\st.d.r=Î/\0<=st.d.G st.M/\st.d.G st.M<10^(6-st.r.toNat)
 d:kv st.d
 c:st.d.r=Î\/st.C=[82]
 b:82∈st.C->st.d.C.length<24
 N:84∈st.C\/80∈st.C->st.d.M=Î
 a:66∈st.C->st.d.M=Ë
 S:80∈st.C->st.C=[80]/\st.r=0
 Y:80∈st.C->st.I.toNat<=k/\∀j (h:j<B.size),k-st.I.toNat<=j->j<k->xO B[j]=Î
section
variable{d:PD}{st o:PS}
def kv.abC(h:kv d)(on:d.r=Î):∀t∈d.Y,oh t:=by
 unfold PD.Y;split
 .rename_i e;intro t a;rcases â.1 a with q|q
  .exact h.a on t q
  .rw[ō]at q;rw[q];exact h.Y e
 .exact h.a on
def kv.G(h:kv d):∀r∈d.C,uW r:=by
 unfold PD.C;split
 .rename_i e;intro r a;rcases â.1 a with q|q
  .exact h.S r q
  .rw[ō]at q;rw[q];exact⟨h.M e,h.abC e,h.I⟩
 .exact h.S
def yi(d:PD):d.C.length=d.S.length+(if d.r then 1 else 0):=by unfold PD.C;split<;>simp
def J3(d:PD):d.Y.length=d.I.r.length+(if d.M then 1 else 0):=by unfold PD.Y;split<;>simp
def kv.r(h:kv d)(i:Nat)(z:Int)(a:lP i z):kv (d.om i z):= ⟨h.N,h.b,by have:=h.C;rw[yi]at this|-;exact this,by have:=h.I;rw[J3]at this|-;exact this,h.S,λe=>(h.M e).I i z λ_=>a,h.a,h.Y⟩
def kv.oE(h:kv d)(i:Nat)(z:Int)(a:i<4->lP i z):kv (d.oE i z):= ⟨h.N,h.b,by have:=h.C;rw[yi]at this|-;exact this,by have:=h.I;rw[J3]at this|-;exact this,h.S,h.M,h.a,λe=>⟨(h.Y e).c.I i z a,(h.Y e).p⟩⟩
def kv.iq(h:kv d)(i:Nat)(z:Int)(a:lP i z):kv (d.iq i z):=by
 unfold PD.iq;split
 .exact h.oE i z λ_=>a
 .exact h.r i z a
def kv.oF(h:kv d)(p:ByteArray)(a:p.size<=40/\∀c∈p.data.toList,xO c=Î):kv (d.oF p):= ⟨h.N,h.b,by have:=h.C;rw[yi]at this|-;exact this,by have:=h.I;rw[J3]at this|-;exact this,h.S,h.M,h.a,λe=>⟨(h.Y e).c,a⟩⟩
def aqW:oh PD.Gk:=⟨⟨U,λi a=>by
 match i,a with
 |0,_=>exact⟨A,A⟩
 |1,_=>exact⟨A,A⟩
 |2,_=>exact⟨A,A⟩
 |3,_=>exact⟨A,A⟩⟩,⟨A,λc b=>by cases b⟩⟩
def kv.nO(h:kv d)(on:d.r=Î)(a:d.Y.length<8):kv d.nO:= ⟨(λe=>by have:d.r=Ë:=e;rw[on]at this;cases this),(λe=>by cases e),by have:=h.C;rw[yi]at this|-;exact this,by rwa[J3],h.S,λe=>h.M e,λ_=>h.abC on,λ_=>aqW⟩
def kv.Gn(h:kv d)(q:Int)(a:1<=q/\q<10)(b:d.C.length<24):kv (d.Gn q):= ⟨(λe=>by cases e),λ_=>rfl,by rwa[yi],by show(0:Nat)<=8;decide,h.G,λ_=>⟨U,λi c=>by
   match i,c with
   |0,_=>exact⟨by show(0:Int)<=0;decide,by show(0:Int)<8;decide⟩
   |1,_=>exact⟨by show(0:Int)<=0;decide,by show(0:Int)<8;decide⟩
   |2,_=>exact⟨by show(0:Int)<=0;decide,by show(0:Int)<1000000;decide⟩
   |3,_=>exact⟨by show(0:Int)<=0;decide,by show(0:Int)<1000000;decide⟩
   |4,_=>exact a
   |5,_=>exact⟨by show(-1:Int)<=0;decide,by show(0:Int)<1000000;decide⟩
   |6,_=>exact⟨by show(-1:Int)<=0;decide,by show(0:Int)<1000000;decide⟩
   |7,_=>exact⟨by show(0:Int)<=0;decide,by show(0:Int)<16;decide⟩⟩,(λ_ t f=>by cases f),(λe=>by cases e)⟩
def kv.fP(h:kv d)(want z:Int)(a:(want=86->lP 5 z)/\(want=87->lP 6 z)/\(want=120->lP 0 z)/\(want=121->lP 1 z)/\(want=110->lP 2 z)/\(want=107->lP 3 z)/\(want=115->lP 7 z)):kv (d.fP want z):=by
 let⟨b,c,e,f,g,i,j⟩:=a;unfold PD.fP;repeat' split
 .exact h.r 5 z<|b ‹_›
 .exact h.r 6 z<|c ‹_›
 .exact h.iq 0 z<|e ‹_›
 .exact h.iq 1 z<|f ‹_›
 .exact h.iq 2 z<|g ‹_›
 .exact h.iq 3 z<|i ‹_›
 .exact h.r 7 z<|j ‹_›
 .exact h
def Uu(d:PD)(a z:Int):(d.fP a z).r=d.r/\(d.fP a z).M=d.M/\(d.fP a z).C.length=d.C.length:=by
 unfold PD.fP PD.iq;repeat' split
 all_goals exact⟨U,U,(yi _).trans (yi d).symm⟩
theorem Uv(h:kv d)(on:d.r=Î)(a z:Int)(f:a=86\/a=87\/a=110\/a=107):(d.fP a z).G a=z:=by
 have g:=(h.M on).C;have b:∀i,i<4->(d.iq i z).tK i=z:=λi j=>by
  unfold PD.iq;split
  .rename_i e;have k:=(h.Y e).c.C;show(if d.M=Î then(d.N.c.set i z).getD i 0 else d.I.c.getD i 0)=z;grind
  .rename_i e;show(if d.M=Î then d.N.c.getD i 0 else(d.I.c.set i z).getD i 0)=z;grind
 rcases f with rfl|rfl|rfl|rfl
 .exact abB Z z
 .exact abB Z z
 .exact b 2 A
 .exact b 3 A
def Oj:∀(l:List UInt8) (c:UInt8),Þ l c<l.length
 |[],_=>by show(-1:Int)<0;decide
 |a::l,c=>by
  have:=Oj l c;unfold Þ;split
  .simp
  .split<;>(simp;omega)
def Uw:∀(l:List UInt8) (c:UInt8),c∈l->0<=Þ l c
 |[],_,h=>by cases h
 |a::l,c,h=>by
  unfold Þ;split
  .decide
  .rename_i e;rcases List.mem_cons.1 h with q|q
   .subst q;simp at e
   .have:=Uw l c q;split
    .rename_i b;rw[beq_iff_eq]at b;omega
    .omega
def abD{l:List UInt8}(h:c.toNat∈l.map UInt8.toNat):c.toNat.toUInt8∈l:=by let⟨x,a,b⟩:=Ú.1 h;rw[<-b];simpa using a
def abE(h:sE c=Î):0<=Þ [97,98,99,100,101,102,103,104] c.toNat.toUInt8:=by rw[aqt]at h;refine Uw _ _<|abD ?_;simp;omega
def aqX(h:(jk c||(decide (97<=c)&&decide (c<=102)))=Î):0<=Þ [48,49,50,51,52,53,54,55,56,57,97,98,99,100,101,102] c.toNat.toUInt8:=by simp only[Bool.or_eq_true,Gm,Bool.and_eq_true,decide_eq_true_eq]at h;refine Uw _ _<|abD ?_;simp;omega
theorem aqY(a:o7 h c=Î):(h=86->lP 5 (ni h c))/\(h=87->lP 6 (ni h c))/\(h=120->lP 0 (ni h c))/\(h=121->lP 1 (ni h c))/\(h=110->lP 2 (ni h c))/\(h=107->lP 3 (ni h c))/\(h=115->lP 7 (ni h c)):=by
 unfold o7 at a;have b:(c==104||jk c)=Î->-1<=(if c=104 then-1 else(c-48)%256)/\(if c=104 then(-1:Int)else(c-48)%256)<1000000:=λq=>by split<;>omega
 have d:jk c=Î->0<=(if c=104 then-1 else(c-48)%256)/\(if c=104 then(-1:Int)else(c-48)%256)<1000000:=λq=>by rw[Gm]at q;grind
 refine⟨?_,?_,?_,?_,?_,?_,?_⟩<;>rintro rfl
 .exact b a
 .exact b a
 .exact⟨abE a,Oj _ _⟩
 .exact⟨abE a,Oj _ _⟩
 .exact d a
 .exact d a
 .exact⟨aqX a,Oj _ _⟩
theorem aqZ{lq:Int}(a:jk c=Î)(b:0<=h)(d:0<lq)(e:lq<=5)(f:h<10^(6-lq.toNat)):0<=pU h c/\pU h c<10^(6-(lq-1).toNat)/\pU h c<1000000:=by
 rw[Gm]at a;have g:h<100000->pU h c=h*10+(c-48):=λq=>by unfold pU;rw[Ļ (h*10) ⟨Z,Z⟩,Ļ _ ⟨Z,Z⟩];omega
 have i:lq=1\/lq=2\/lq=3\/lq=4\/lq=5:=Z
 grind
def kv.lq(h:kv d)(a z:Int)(c:a=86\/a=87\/a=110\/a=107)(b:0<=z/\z<1000000):kv (d.fP a z):= h.fP a z ⟨λ_=>⟨Z,b.2⟩,λ_=>⟨Z,b.2⟩,λe=>by omega,λe=>by omega,λ_=>b,λ_=>b,λe=>by omega⟩
def jx.aq0(h:jx B k st)(e:0<st.r)(j:jk c=Î):jx B (k+1) (DW st c):=by
 let⟨a,b,l,m⟩:=h.e e;let⟨f,n,o⟩:=aqZ j l e h.r m;let⟨g,i,p⟩:=Uu st.d st.M<|pU (st.d.G st.M) c;refine⟨by show 0<=st.r-1;omega,by have:=h.r;show st.r-1<=5;omega,h.C,h.I,λ_=>⟨a,g.trans b,?_⟩,h.d.lq _ _ a ⟨f,o⟩,?_,λq=> ?_,λq=>i.trans<|h.N q,λq=>i.trans<|h.a q,λq=> ?_,λq=> ?_⟩
 .show 0<=(st.d.fP st.M<|pU (st.d.G st.M) c).G st.M/\(st.d.fP st.M<|pU (st.d.G st.M) c).G st.M<10^(6-(st.r-1).toNat);rw[Uv h.d b _ _ a];exact⟨f,n⟩
 .exact È<|g.trans b
 .show(st.d.fP st.M<|pU (st.d.G st.M) c).C.length<24;rw[p];exact h.b q
 .have:=(h.S q).2;omega
 .have:=(h.S q).2;omega
def jx.vo(h:jx B k st):jx B k {st with r:=0}:= ⟨Ť _,by show(0:Int)<=5;decide,h.C,h.I,(λq=>by cases q),h.d,h.c,h.b,h.N,h.a,λq=>⟨(h.S q).1,rfl⟩,h.Y⟩
theorem jx.on(h:jx B k st)(a:82∉st.C):st.d.r=Î:=by rcases h.c with q|q;all_goals grind
def kv.aq1(h:kv d)(a:d.M=Î):d.r=Î:=by
 cases e:d.r with
 |true=>rfl
 |false=>have:=(h.N e).2;rw[a]at this;cases this
theorem abF(h:jx B k st)(b:st.r=0)(on:st.d.r=Î)(a:pV st c=Â o):jx B (k+1) o:=by
 unfold pV at a;split at a
 .rename_i e;cases a;refine⟨h.M,h.r,h.C,h.I,λq=> ?_,h.d,Ï U,λ_=> ?_,λq=> ?_,λq=> ?_,λq=> ?_,λq=> ?_⟩
  .grind
  .rw[yi,on];exact e.2
  .simp at q
  .simp at q
  .simp at q
  .simp at q
 .split at a
  .rename_i e;cases a;refine⟨h.M,h.r,h.C,h.I,λq=> ?_,h.d.nO on e.2.2,È on,λq=> ?_,λ_=>rfl,λq=> ?_,λq=> ?_,λq=> ?_⟩;all_goals grind
  .cases a
def aq2(q:Int):82∉rE q/\84∉rE q/\80∉rE q:=by
 unfold rE;repeat' split
 all_goals decide
theorem aq3(q:Int):82∉sF q/\84∉sF q/\66∉sF q/\(80∈sF q->sF q=[80]):=by unfold sF;grind
def aq4(c:Int):0<=wi c/\wi c<10:=by
 unfold wi;repeat' split
 all_goals decide
theorem aq5(h:jx B k st)(i:st.r=0)(f:82∈st.C)(a:yg st (wi c)=Â o):jx B (k+1) o:=by
 unfold yg at a;split at a
 .cases a
 .rename_i e;cases a;let⟨g,j,b⟩:=aq2<|wi c;have l:=aq4 c;refine⟨h.M,h.r,h.C,h.I,λq=> ?_,h.d.Gn _ Z<|h.b f,È U,λq=>absurd q g,λq=> ?_,λ_=>rfl,λq=>absurd q b,λq=>absurd q b⟩;all_goals grind
theorem aq6(h:jx B k st)(c:st.r=0)(q:Int)(f:84∈st.C)(a:yh st q=Â o):jx B (k+1) o:=by
 unfold yh at a;split at a
 .cases a
 .cases a;let⟨g,m,i,l⟩:=aq3 q;have b:=h.N<|È f;refine⟨h.M,h.r,Ť _,by show(0:Int)<=40;decide,λq=> ?_,h.d.oE 4 q λe=>by omega,È<|h.d.aq1 b,λq=>absurd q g,λ_=>b,λq=>absurd q i,λq=>⟨l q,c⟩,λ_=>⟨Ø _,λj _ n p=> ?_⟩⟩;all_goals grind
theorem aq7{a:Int}(h:0<qK a c):(a=86\/a=87)/\qK a c=1/\jk c=Î/\c≠48\/(a=110\/a=107)/\qK a c=5/\jk c=Î/\c≠48:=by unfold qK at h|-;grind
theorem abG(h:jx B k st)(on:st.d.r=Î){want:Int}(l:o7 want c=Î)(r:List Int)(a:∀x∈r,x∈st.C)(g:80∉r):jx B (k+1) {ot st want c with C:=r}:=by
 let⟨m,i,n⟩:=Uu st.d want<|ni want c;have j:=aqx want c;refine⟨j.1,j.2,h.C,h.I,λq=> ?_,h.d.fP _ _<|aqY l,È<|m.trans on,λq=> ?_,λq=>i.trans<|h.N<|q.imp (a _)<|a _,λq=>i.trans<|h.a<|a _ q,λq=>absurd q g,λq=>absurd q g⟩
 .have q:=q;show(want=86\/want=87\/want=110\/want=107)/\(st.d.fP want<|ni want c).r=Î/\0<=(st.d.fP want<|ni want c).G want/\(st.d.fP want<|ni want c).G want<10^(6-(qK want c).toNat);rcases aq7 q with⟨o,b,e,p⟩|⟨o,b,e,p⟩
  .have f:want=86\/want=87\/want=110\/want=107:=Z
   rw[Uv h.d on _ _ f,b];rw[Gm]at e;have:ni want c=(c-48)%256:=by unfold ni;grind
   grind
  .have f:want=86\/want=87\/want=110\/want=107:=Z
   rw[Uv h.d on _ _ f,b];rw[Gm]at e;have:ni want c=(c-48)%256:=by unfold ni;grind
   grind
 .show(st.d.fP want<|ni want c).C.length<24;rw[n];exact h.b<|a _ q
def aq8{x:UInt8}(h:x∈(B.extract i b).data.toList):∃j,∃e:j<B.size,i<=j/\j<b/\B[j]=x:=by rw[Ĳ,ĺ,ĥ]at h;obtain⟨c,d,rfl⟩:=Ĝ h;simp only[Ś,List.length_drop,ě]at d;have f:B.data.size=B.size:=rfl;exact⟨i+c,Z,Z,Z,by simp[ċ]⟩
theorem aq9(h:jx B k st)(l:st.r=0)(F:k<B.size)(a:jP B k st (B[k].toNat:Int)=Â o):jx B (k+1) o:=by
 unfold jP at a;split at a
 .rename_i e;exact abF h l (h.on<|by rw[e];decide) a
 .rename_i t p e;have c:t∈st.C:=by rw[e];exact List.mem_cons_self ..
  split at a
  .rename_i f;subst f;exact aq5 h l c a
  rename_i G;have i:st.d.r=Î:=by rcases h.c with q|q;all_goals grind
  split at a
  .rename_i f;subst f;split at a
   .rename_i u;cases a;have n:=h.a c;have b:st.d.Y.length<8:=by rw[J3,h.d.b n,n];decide
    have v:jx B k {st with C:=[84],d:=st.d.nO}:=by refine⟨h.M,h.r,h.C,h.I,λq=> ?_,h.d.nO i b,È i,λq=> ?_,λ_=>rfl,λq=> ?_,λq=> ?_,λq=> ?_⟩;all_goals grind
    exact abG (want:=120) v i u [84] (λx b=>b) A
   .exact abF h l i a
  split at a
  .rename_i f;subst f;exact aq6 h l _ c a
  split at a
  .rename_i f;subst f;let⟨H,w⟩:=h.Y c;have n:=h.N<|Ï c;have y:=(h.S c).1;have I:=h.C;have J:=h.I;split at a
   .cases a;have z:p=[]:=by rw[y]at e;cases e;rfl
    subst z;refine⟨h.M,h.r,h.C,h.I,λq=> ?_,h.d.oF _ ⟨by rw[Č];omega,λx b=> ?_⟩,È i,λq=> ?_,λq=> ?_,λq=> ?_,λq=> ?_,λq=> ?_⟩
    .grind
    .obtain⟨j,r,m,s,rfl⟩:=aq8 b;exact w j r m s
    .cases q
    .grind
    .cases q
    .cases q
    .cases q
   .split at a
    .cases a
    .rename_i g;cases a;have K:=λq=>g<|È q;have C:=λq=>g<|Ï q;refine⟨h.M,h.r,by show 0<=st.I+1;omega,by show st.I+1<=40;omega,h.e,h.d,h.c,h.b,h.N,h.a,h.S,λ_=>⟨by show(st.I+1).toNat<=k+1;omega,λj r m s=> ?_⟩⟩;have m:k+1-(st.I+1).toNat<=j:=m;by_cases D:j=k
     .subst D;unfold xO;simpa using C
     .grind
  split at a
  .rename_i L M N E;cases a;refine abG h i E p (λx b=>by rw[e];exact Ĕ _ b) λq=> ?_;have:=(h.S<|by rw[e];exact Ĕ _ q).1;grind
  .cases a
def abH(h:jx B k st)(b:k<B.size)(a:kR B k st (B[k].toNat:Int)=Â o):jx B (k+1) o:=by
 unfold kR at a;split at a
 .rename_i e;cases a;exact h.aq0 e.1 e.2
 .exact aq9 h.vo U b a
def Ux(B:ByteArray):jx B 0 nP:= ⟨A,A,A,A,(λq=>by cases q),⟨λ_=>⟨rfl,rfl⟩,λ_=>rfl,A,A,(λr e=>by cases e),(λe=>by cases e),(λe=>by cases e),(λe=>by cases e)⟩,Ï rfl,λ_=>by decide,(λq=>by rcases q with q|q<;>simp[nP]at q),(λq=>by simp[nP]at q),(λq=>by simp[nP]at q),(λq=>by simp[nP]at q)⟩
def Uy:∀(f k:Nat) (st:PS),jx B k st->k<=B.size->jx B (jR B f k st).1 (jR B f k st).2/\(jR B f k st).1<=B.size
 |0,k,st,h,hk=>⟨h,hk⟩
 |f+1,k,st,h,hk=>by
  unfold jR;split
  .rename_i a;split
   .exact⟨h,hk⟩
   .rename_i o e;exact Uy f (k+1) o (abH h a e) Z
  .exact⟨h,hk⟩
end
section
variable{g:Gh}{st:PS}
def abI{d:PD}(i:Nat)(z:Int):g.M (d.iq i z)=g.M d:=by unfold PD.iq Gh.M;split<;>simp[PD.oE,PD.om, *]
def abJ{d:PD}(h:i=2\/i=3)(z:Int):g.DY (d.iq i z) (if i=2 then 110 else 107)=⟨g.M d,i,Á⟩:=by
 rcases h with rfl|rfl
 .show(⟨g.M<|d.iq 2 z,2,Á⟩:ü)=_;rw[abI]
 .show(⟨g.M<|d.iq 3 z,3,Á⟩:ü)=_;rw[abI]
def abK{d:PD}(on:d.r=Î):g.S d=Â ⟨g.q,0,Á⟩:=if_pos on
def ara{d:PD}(on:d.r=Î):g.G d=Â ⟨g.M d,0,Á⟩:=if_pos on
def M8(h:gQ m b g O B st w)(j:st.r=0)(on:st.d.r=Î)(a c:Int)(v:o7 a c=Î): Ò À 100 #[Ã<|Â ⟨b,0,Á⟩,Å ū a,Å ū c] w λe u=>e=Æ (ë #[])/\sH m b (ot st a c) w u:=by
 have G:w.cell? ⟨b,2,Á⟩=Â (Ã<|g.S st.d):=h.r.r 2 _ U;have x:w.cell? ⟨b,4,Á⟩=Â (Ã<|g.G st.d):=h.r.r 4 _ U;rw[abK on]at G;rw[ara on]at x;have H:=fc<|Ê h v;clear h v;generalize y:g.M st.d=tm at x;have n:=fc y;clear y;by_cases o:a=86
 .subst o;have k:=fc (show ot st 86 c={st with r:=wq c 2,M:=86,d:=st.d.om 5 (jw c)}from by unfold ot;rw[<-Od H.out.2 (È ⟨È U,U⟩),Og A];rfl);go_enter Ā,û;go_wp2_with (go_at_call 147;refine(Oc H.out.1 (Gr H.out.1.C H.out.1.r on (i:=5) A) j on _ _ 86 A A λz=>rfl).mono ?_;rintro e u ⟨rfl,l⟩);go_end0;exact⟨U,by rwa[k.out]⟩
 have I:(a==86)=Ë:=by rwa[beq_eq_false_iff_ne]
 by_cases p:a=87
 .subst p;have k:=fc (show ot st 87 c={st with r:=wq c 2,M:=87,d:=st.d.om 6 (jw c)}from by unfold ot;rw[<-Od H.out.2 (È ⟨Ï U,U⟩),Og A];rfl);go_enter Ā,û;go_wp2_with (go_at_call 147;refine(Oc H.out.1 (Gr H.out.1.C H.out.1.r on (i:=6) A) j on _ _ 87 A A λz=>rfl).mono ?_;rintro e u ⟨rfl,l⟩);go_end0;exact⟨U,by rwa[k.out]⟩
 have J:(a==87)=Ë:=by rwa[beq_eq_false_iff_ne]
 by_cases q:a=120
 .subst q;have f:=fc ((by have:=Gs H.out.1.C H.out.1.r on (i:=0) A;rw[n.out]at this;exact this:qL m b g st.d tm 0 (λz=>st.d.iq 0 z) (st.d.tK 0) w));have C:=f.out.C;have D:=f.out.I;have E:=f.out.r;go_enter Ā,û;go_wp2_with fail;go_region_with (go_at_call 146;refine(JY _ _ _).mono ?_;rintro e u ⟨rfl,F⟩;subst u);all_goals go_end0
  all_goals exact⟨U,Ur H.out.1 f.out j (Oe A) U⟩
 have K:(a==120)=Ë:=by rwa[beq_eq_false_iff_ne]
 by_cases r:a=121
 .subst r;have f:=fc ((by have:=Gs H.out.1.C H.out.1.r on (i:=1) A;rw[n.out]at this;exact this:qL m b g st.d tm 1 (λz=>st.d.iq 1 z) (st.d.tK 1) w));have C:=f.out.C;have D:=f.out.I;have E:=f.out.r;go_enter Ā,û;go_wp2_with fail;go_region_with (go_at_call 146;refine(JY _ _ _).mono ?_;rintro e u ⟨rfl,F⟩;subst u);all_goals go_end0
  all_goals exact⟨U,Ur H.out.1 f.out j (Oe A) U⟩
 have L:(a==121)=Ë:=by rwa[beq_eq_false_iff_ne]
 by_cases s:a=110
 .subst s;have k:=fc (show ot st 110 c={st with r:=wq c 6,M:=110,d:=st.d.iq 2 (jw c)}from by unfold ot;rw[<-Od H.out.2 (Ï ⟨È U,U⟩),Og A];rfl);go_enter Ā,û;go_wp2_with (go_at_call 147;refine(Oc H.out.1 ((by have:=Gs H.out.1.C H.out.1.r on (i:=2) A;rw[n.out]at this;exact this:qL m b g st.d tm 2 (λz=>st.d.iq 2 z) (st.d.tK 2) w)) j on _ _ 110 A A λz=>(by have:=abJ (g:=g) (d:=st.d) (i:=2) (È U) z;rwa[n.out]at this)).mono ?_;rintro e u ⟨rfl,l⟩);go_end0;exact⟨U,by rwa[k.out]⟩
 have M:(a==110)=Ë:=by rwa[beq_eq_false_iff_ne]
 by_cases t:a=107
 .subst t;have k:=fc (show ot st 107 c={st with r:=wq c 6,M:=107,d:=st.d.iq 3 (jw c)}from by unfold ot;rw[<-Od H.out.2 (Ï ⟨Ï U,U⟩),Og A];rfl);go_enter Ā,û;go_wp2_with (go_at_call 147;refine(Oc H.out.1 ((by have:=Gs H.out.1.C H.out.1.r on (i:=3) A;rw[n.out]at this;exact this:qL m b g st.d tm 3 (λz=>st.d.iq 3 z) (st.d.tK 3) w)) j on _ _ 107 A A λz=>(by have:=abJ (g:=g) (d:=st.d) (i:=3) (Ï U) z;rwa[n.out]at this)).mono ?_;rintro e u ⟨rfl,l⟩);go_end0;exact⟨U,by rwa[k.out]⟩
 have l:(a==107)=Ë:=by rwa[beq_eq_false_iff_ne]
 by_cases k:a=115
 .subst k;have f:=fc<|Gr H.out.1.C H.out.1.r on (i:=7) A;have C:=f.out.C;have D:=f.out.I;have E:=f.out.r;go_enter Ā,û;go_wp2_with fail;go_region_with (go_at_call 146;refine(JY _ _ _).mono ?_;rintro e u ⟨rfl,F⟩;subst u);all_goals go_end0
  all_goals exact⟨U,Ur H.out.1 f.out j (Oe A) U⟩
 have f:(a==115)=Ë:=by rwa[beq_eq_false_iff_ne]
 go_enter Ā,û;go_wp2;go_end0;refine⟨U,e8.fU _ _,g,O,B,?_⟩;have e:ot st a c={st with M:=a}:=by unfold ot PD.fP;rw[Oe ⟨Z,Z⟩,if_neg o,if_neg p,if_neg q,if_neg r,if_neg s,if_neg t,if_neg k,<-j]
 rw[e];exact H.out.1.Up a j
end
section
variable{g:Gh}{s:ByteArray}{st:PS}{d:PD}
def Ol(m b:Nat)(o:Option PS)(e:Ending)(w u:Í):Prop:=
 (o=Á/\e=Æ (õ Ë)/\u=w)\/∃a,o=Â a/\e=Æ (õ Î)/\sH m b a w u
def abL{o:Option PS}{e:Ending}(h:match o with
 |none=>e=Æ (õ Ë)/\u=w
 |some a=>e=Æ (õ Î)/\sH m b a w u):Ol m b o e w u:=by
 cases o with
 |none=>exact È ⟨U,h⟩
 |some a=>exact Ï ⟨a,U,h⟩
def arb{d:PD}(on:d.r=Î):d.C.length=d.S.length+1:=by rw[yi,on];rfl
def abM(h:gQ m b g O s st w)(j:st.r=0)(on:st.d.r=Î)(y:st.d.Y.length<=8)(z:st.d.C.length<=24)(c:Int): Ò À 95 #[Ã<|Â ⟨b,0,Á⟩,Å ū c] w λe u=>Ol m b (pV st c) e w u:=by
 have l:=h.C.r on;let⟨I,J,p⟩:=jj h.C.C;let⟨K,L,q⟩:=jj l.I;rw[h.C.G]at p;rw[l.G]at q;have M:=h.r.r 0 _ U;have r:=h.r.r 1 _ U;have B:=h.r.r 2 _ U;rw[abK on]at B;rw[p]at r;have t:=l.r.r 8 _ (by have:=DZ st.d.I.c g.r;rwa[l.M]at this);rw[q]at t;have N:=h.r.C 0;obtain⟨v,f⟩:∃n,st.d.C.length=n:=⟨_,U⟩;obtain⟨x,i⟩:∃n,st.d.Y.length=n:=⟨_,U⟩;rw[f]at r z;rw[i]at t y;have k:st.d.S.length+1=v:=by rw[<-f];exact(arb on).symm
 have H:=fc<|Ê h<|Ê f<|Ê i<|Ê k j;by_cases C:c=59/\v<24
 .obtain⟨rfl,a⟩:=C;go_enter ť,ŗ;go_wp2;go_ret;let⟨h,f,i,k,j⟩:=H.out;exact Ï ⟨_,by rw[pV,if_pos ⟨U,Z⟩],U,mM h 0 _,g,O,_,h.Ob _ [82] A A<|È on⟩
 by_cases D:c=44/\0<x/\x<8
 .obtain⟨rfl,P,Q⟩:=D;go_enter ť,ŗ;go_wp2_with (go_at_call 99;refine(abz H.out.1 H.out.2.2.2.2 on (by have:=H.out.2.2.1;omega)).mono ?_;rintro e u ⟨rfl,o,E,F,S,a⟩;have T:=a.r.r 0 _ U;have V:=a.r.C 0;have G:=fc<|Ê o a;clear o a);go_ret;let⟨h,f,i,k,j⟩:=H.out;let⟨o,a⟩:=G.out;exact Ï ⟨_,by rw[pV,if_neg Z,if_pos ⟨U,Z,Z⟩],U,o.fe<|mM a 0 _,E,F,_,a.Ob _ [120,84] A A<|È on⟩
 .have a:=fc (show pV st c=Á by
   let⟨h,f,i,k,j⟩:=H.out;rw[pV,if_neg Z,if_neg Z])
  go_enter ť,ŗ;go_wp2_with fail;all_goals first|(go_ret;exact È ⟨a.out,U,U⟩)|(exfalso;simp only[beq_iff_eq,decide_eq_true_eq]at*;omega)
def kt:Τ->Option Τ
 |ń c=>Â c
 |.seq a b=>match kt a with
  |some c=>Â c
  |none=>kt b
 |.block _ c=>kt c
 |.scope c=>kt c
 |.cond _ a b=>match kt a with
  |some c=>Â c
  |none=>kt b
 |_=>Á
noncomputable def qM:Τ:=(Tryz.f61.body.bind kt).getD aj
def pY(b:Nat)(B:ByteArray)(i:Ñ)(u:Nat->Ñ):Ĉ:=⟨#[Ã<|Â ⟨b,0,Á⟩,Ä B,ĸ,ĸ,Å É 0,i,u 6,u 7,u 8,u 9,u 10,u 11,u 12,u 13,u 14,u 15,u 16,u 17,u 18,u 19,u 20,u 21,u 22,u 23,u 24,u 25,u 26,u 27,u 28,u 29,u 30,u 31,u 32,u 33,u 34,u 35,u 36,u 37,u 38,u 39,u 40,u 41,u 42,u 43,u 44,u 45,u 46,u 47,u 48,u 49,u 50,u 51,u 52,u 53,u 54,u 55,u 56,u 57,u 58,u 59,u 60,u 61,u 62,u 63,u 64,u 65,u 66,u 67,u 68,u 69,u 70,u 71,u 72,u 73,u 74,u 75,u 76,u 77,u 78,u 79,u 80,u 81,u 82,u 83,u 84,u 85,u 86,u 87,u 88,u 89,u 90,u 91,u 92,u 93,u 94,u 95,u 96,u 97,u 98,u 99,u 100,u 101,u 102,u 103,u 104,u 105,u 106,u 107,u 108,u 109,u 110,u 111,u 112,u 113,u 114,u 115,u 116,u 117,u 118,u 119,u 120,u 121,u 122,u 123,u 124,u 125,u 126,u 127,u 128,u 129,u 130,u 131,u 132,u 133,u 134,u 135,u 136,u 137,u 138,u 139,u 140,u 141,u 142,u 143,u 144,u 145,u 146],[]⟩
def Fr(b:Nat)(B:ByteArray)(i:Ñ)(a:Ĉ):Prop:=∃u,a=pY b B i u
def gh{b:Nat}{B:ByteArray}{i:Value}{a:Act}(h:a=pY b B i (λn=>a.tmps.getD n undef):=by rfl):Fr b B i a:=⟨_,h⟩
def QQ(X:Ĉ->Í->Prop):Exit->Ĉ->Í->Prop
 |.exit 0,a,w=>X a w
 |_,_,_=>False
def sI(m b:Nat)(B:ByteArray)(k:Nat)(st:PS)(a u:Í):Prop:=∃(h:k<B.size) (h:PS),kR B k st (B[k].toNat:Int)=Â h/\sH m b h a u
def sJ(m b:Nat)(B:ByteArray)(k:Nat)(st:PS)(a u:Í):Prop:=∃h:k<B.size,kR B k st (B[k].toNat:Int)=Á/\∃c,sH m b c a u
theorem uX{d:Int}(h:(0<d/\yQ=Ë)\/d<=0):¬(0<d/\yQ=Î):=by grind
def uY(h:¬(0<st.r/\jk c=Î)):kR B k st c=jP B k {st with r:=0} c:=if_neg h
def ard(a:0<st.r)(b:jk c=Î):kR B k st c=Â (DW st c):=if_pos ⟨a,b⟩
section
variable{want:Int}
def arf(h:st.C=[]):jP B k st c=pV st c:=by rw[jP,h]
def arh(h:st.C=want::zQ)(a:want=82):jP B k st c=yg st (wi c):=by rw[jP,h];simp only;rw[if_pos a]
def ari(h:st.C=want::zQ)(a:want=66)(b:sE c=Î):jP B k st c=Â (ot {st with C:=[84],d:=st.d.nO} 120 c):=by rw[jP,h];simp only;rw[if_neg Z,if_pos a,if_pos b]
def arj(h:st.C=want::zQ)(a:want=66)(b:sE c=Ë):jP B k st c=pV st c:=by rw[jP,h];simp only;rw[if_neg Z,if_pos a,if_neg (by rw[b];decide)]
def ark(h:st.C=want::zQ)(a:want=84):jP B k st c=yh st (N8 c):=by rw[jP,h];simp only;rw[if_neg Z,if_neg Z,if_pos a]
def arl(h:st.C=want::zQ)(a:want=80)(b:c=125):jP B k st c=Â {st with C:=zQ,d:=st.d.oF (B.extract (k-st.I.toNat) k)}:=by rw[jP,h];simp only;rw[if_neg Z,if_neg Z,if_neg Z,if_pos a,if_pos b]
def abN(h:st.C=want::zQ)(a:want=80)(b:¬c=125)(d:st.I=40\/lB c=0):jP B k st c=Á:=by rw[jP,h];simp only;rw[if_neg Z,if_neg Z,if_neg Z,if_pos a,if_neg b,if_pos d]
def arn(h:st.C=want::zQ)(a:want=80)(b:¬c=125)(d:¬st.I=40)(e:¬lB c=0):jP B k st c=Â {st with I:=st.I+1}:=by rw[jP,h];simp only;rw[if_neg Z,if_neg Z,if_neg Z,if_pos a,if_neg b,if_neg Z]
def aro(h:st.C=want::zQ)(a:¬want=82)(b:¬want=66)(d:¬want=84)(e:¬want=80)(f:o7 want c=Î):jP B k st c=Â {ot st want c with C:=zQ}:=by rw[jP,h];simp only;rw[if_neg a,if_neg b,if_neg d,if_neg e,if_pos f]
def arp(h:st.C=want::zQ)(a:¬want=82)(b:¬want=66)(d:¬want=84)(e:¬want=80)(f:o7 want c=Ë):jP B k st c=Á:=by rw[jP,h];simp only;rw[if_neg a,if_neg b,if_neg d,if_neg e,if_neg (by rw[f];decide)]
end
def uZ(c:UInt8):(0:Int)<=(c.toNat:Int)/\(c.toNat:Int)<256:=⟨Int.natCast_nonneg _,by have:=c.toNat_lt;omega⟩
def Uz(s:ByteArray)(h:s.size=0):(s.toList==[])=Î:=by simp_all
theorem tL(s:ByteArray)(h:¬s.size=0):(s.toList==[])=Ë:=by
 rw[beq_eq_false_iff_ne];intro e;have:s.toList.length=s.size:=by rw[ByteArray.toList_eq];rfl
 grind
def gQ.arq(h:gQ m b g O s st w)(on:st.d.r=Î)(i:c=86\/c=87\/c=110\/c=107):∃a e f,g.DY st.d c=⟨a,e,Á⟩/\qL m b g st.d a e f (st.d.G c) w/\∀z,f z=st.d.fP c z:=by
 rcases i with rfl|rfl|rfl|rfl
 .exact⟨_,_,_,U,Gr h.C h.r on A,λz=>rfl⟩
 .exact⟨_,_,_,U,Gr h.C h.r on A,λz=>rfl⟩
 .exact⟨_,_,_,U,Gs h.C h.r on A,λz=>rfl⟩
 .exact⟨_,_,_,U,Gs h.C h.r on A,λz=>rfl⟩
def gQ.oF(h:gQ m b g O s st w)(on:st.d.r=Î)(a:st.d.M=Î)(p:ByteArray):gQ m b g O s {st with d:=st.d.oF p} (w.setCell ⟨g.t,5,Á⟩<|Ä p)/\e8 (λi=>m<=i) w (w.setCell ⟨g.t,5,Á⟩<|Ä p):=by have l:=h.C.r on;let⟨f,j,c⟩:=l.C a;have e:e8 (λi=>i=g.t) w (w.setCell ⟨g.t,5,Á⟩<|Ä p):=pX c;exact⟨⟨h.S,h.a.r _ trivial,h.r.I e λx=>ff.S h.r c A x,h.M,h.I,h.C.oF on a p,h.c,h.N⟩,e.S λi _ x=>by have:=l.S;omega⟩
def gQ.abO(h:gQ m b g O s st w)(on:st.d.r=Î)(a:st.C=c::zQ):gQ m b g O (s.extract 1 s.size) {st with C:=zQ} (w.setCell ⟨b,0,Á⟩<|Ä<|s.extract 1 s.size):= h.Ob _ zQ (aqw s h.M) (by rw[aqv,h.I,a];rfl)<|È on
def gQ.ars(h:gQ m b g O s st w)(a:st.C=c::zQ):0<s.size:=by have:=Ui s;rw[h.I,a]at this;simp at this;omega
end
section
variable{g:Gh}{s:ByteArray}{st:PS}{d:PD}
def aru(h:gQ m b g O s st w)(a:st.r=0)(c:st.d.r=Ë->st.d.S=[])(f:st.d.C.length<=100000)(k:Int): Ò À 96 #[Ã<|Â ⟨b,0,Á⟩,Å É k] w λe u=>Ol m b (yg st k) e w u:=(aqV h a c f k).mono λ_ _ q=>abL q
def arv(h:gQ m b g O s st w)(a:st.r=0)(on:st.d.r=Î)(c:st.d.M=Î)(k:Int): Ò À 101 #[Ã<|Â ⟨b,0,Á⟩,Å É k] w λe u=>Ol m b (yh st k) e w u:=(aqN h a on c k).mono λ_ _ q=>abL q
theorem arw{X:Ĉ->Í->Prop}{a:Ĉ}(G:Fr b B (Å É k) a) (h:gQ m b g O s st w) (i:jx B k st) (Q:B.size<=1200) (H:k<B.size) (n:0<st.r) (I:jk (B[k].toNat:Int)=Î) (S:∀a u,Fr b B (Å É<|(k:Int)+1) a/\sI m b B k st w u->K a u) (_hQ:∀a u,Fr b B (Å É k) a/\sJ m b B k st w u->X a u): ß À qM (Exit.then K<|QQ X) a w:=by
 obtain⟨c,rfl⟩:=G;unfold pY;conv=>arg 2;whnf
 have T:w.cell? ⟨b,0,Á⟩=Â (Ä s):=h.r.r 0 _ U;have V:w.cell? ⟨b,6,Á⟩=Â (Å É st.r):=h.r.r 6 _ U;have W:w.cell? ⟨b,7,Á⟩=Â (Å É st.I):=h.r.r 7 _ U;have Y:=h.r.C 0;have f6:=h.r.C 6;have f7:=h.r.C 7;have d0:=i.M;have d1:=i.r;have e0:=i.C;have e1:=i.I;let⟨q,on,_,_⟩:=i.e n;let⟨r,ao,f,t,j,v⟩:=h.arq on q;have J:w.cell? ⟨b,5,Á⟩=Â (Ã O):=h.r.r 5 _ U;rw[(h.c n).2,t]at J;obtain⟨x,o⟩:∃x,st.d.G st.M=x:=⟨_,U⟩;have L:=j.C;rw[o]at L;have fm:=j.I;obtain⟨M,N⟩:∃y,wrap64 (x*10)=y:=⟨_,U⟩;obtain⟨l,P⟩:∃y,wrap64 (M+((B[k].toNat:Int)-48)%256)=y:=⟨_,U⟩;have Om:¬r=b:=j.r;have On:¬b=r:=λe=>j.r e.symm;have z:=h.Y (st.r-1) λ_=>h.c n;have p:=j.rd 6<|Å É<|st.r-1;have C:=z.G p l;have D:pU (st.d.G st.M) (B[k].toNat:Int)=l:=by rw[pU,š,š,o,N,P]
 have E:DW st (B[k].toNat:Int)={st with r:=st.r-1,d:=f l}:=by rw[DW,D,v]
 have F:Hid (kR B k st (B[k].toNat:Int)=Â {st with r:=st.r-1,d:=f l}/\sH m b {st with r:=st.r-1,d:=f l} w (ξ _)):= fc ⟨by rw[ard n I,E],(((mM h 6 _).fe<|Gt (st:=st) p _).C (e8.fS (λ_=>False) _) λ_ _ x=>x.elim),g,O,s,C.fS⟩;clear z p C D E j v t h i o q;go_wp2_with (go_at_call 94;refine(sG _ _).mono ?_;rintro e u ⟨rfl,hw⟩;subst u);go_region;all_goals
  go_wp2;exact⟨gh,⟨H,_,F.out.1,F.out.2⟩⟩
theorem arx{X:Ĉ->Í->Prop}(z:Fr b B (Å É k) y) (i:gQ m b g O s st w) (j:jx B k st) (Q:B.size<=1200) (l:k<B.size) (n:(0<st.r/\jk (B[k].toNat:Int)=Ë)\/st.r<=0) (o:s.size=0) (S:∀y u,Fr b B (Å É<|(k:Int)+1) y/\sI m b B k st w u->K y u) (C:∀y u,Fr b B (Å É k) y/\sJ m b B k st w u->X y u): ß À qM (Exit.then K<|QQ X) y w:=by
 obtain⟨f,rfl⟩:=z;unfold pY;conv=>arg 2;whnf
 have T:w.cell? ⟨b,0,Á⟩=Â (Ä s):=i.r.r 0 _ U;have V:w.cell? ⟨b,6,Á⟩=Â (Å É st.r):=i.r.r 6 _ U;have W:w.cell? ⟨b,7,Á⟩=Â (Å É st.I):=i.r.r 7 _ U;have Y:=i.r.C 0;have f6:=i.r.C 6;have f7:=i.r.C 7;have d0:=j.M;have d1:=j.r;have e0:=j.C;have e1:=j.I;have p:=fc<|uY (B:=B) (k:=k)<|uX n;have r:=i.Y 0 λh=>absurd h A;have t:=fc<|mM i 6<|Å É 0;have D:=j.d.C;have E:=j.d.I;have F:=fc r;let⟨ug,Ag⟩:=uZ B[k];have ru:=Uz s o;have h:st.C=[]:=by rw[<-i.I];exact abo s o
 have G:st.d.r=Î:=by
  rcases i.N with q|q
  .exact q
  .rw[h]at q;cases q
 have v:=fc<|arf (B:=B) (k:=k) (c:=(B[k].toNat:Int)) (st:={st with r:=0}) h;clear h i j;rcases n with⟨H,na⟩|H;all_goals
  go_wp2_with (first|(go_at_call 94;refine(sG _ _).mono ?_;rintro e u ⟨rfl,x⟩;subst u)|(go_at_call 95;refine(abM r U G E D _).mono ?_;rintro e u (⟨q,rfl,x⟩|⟨I,q,rfl,J,L,M,N,P⟩)))
  .subst x;exact C _ _ ⟨gh,⟨l,p.out.trans<|v.out.trans q,_,t.out,_,_,_,F.out⟩⟩
  .exact⟨gh,⟨l,I,p.out.trans<|v.out.trans q,t.out.fe J,L,M,N,P⟩⟩
theorem arz{X:Ĉ->Í->Prop}(z:Fr b B (Å É k) y) (i:gQ m b g O s st w) (j:jx B k st) (P:B.size<=1200) (o:k<B.size) (p:(0<st.r/\jk (B[k].toNat:Int)=Ë)\/st.r<=0) (q:0<s.size) (l:((s[0]'q).toNat:Int)=82) (Q:∀y u,Fr b B (Å É<|(k:Int)+1) y/\sI m b B k st w u->K y u) (C:∀y u,Fr b B (Å É k) y/\sJ m b B k st w u->X y u): ß À qM (Exit.then K<|QQ X) y w:=by
 obtain⟨f,rfl⟩:=z;unfold pY;conv=>arg 2;whnf
 have S:w.cell? ⟨b,0,Á⟩=Â (Ä s):=i.r.r 0 _ U;have T:w.cell? ⟨b,6,Á⟩=Â (Å É st.r):=i.r.r 6 _ U;have V:w.cell? ⟨b,7,Á⟩=Â (Å É st.I):=i.r.r 7 _ U;have W:=i.r.C 0;have Y:=i.r.C 6;have f7:=i.r.C 7;have d0:=j.M;have d1:=j.r;have e0:=j.C;have e1:=j.I;have r:=fc<|uY (B:=B) (k:=k)<|uX p;have t:=i.Y 0 λh=>absurd h A;have v:=fc<|mM i 6<|Å É 0;have Ah:=j.d.C;have D1:=j.d.I;have D:=fc t;let⟨ug,Ag⟩:=uZ B[k];have ru:=tL s Z;have tM:s.size<=10:=i.M;have E:=fc (show st.C=(s[0].toNat:Int)::(jW s).tail by rw[<-i.I];exact wj s q);have x:=fc<|arh (B:=B) (k:=k) (c:=(B[k].toNat:Int)) (st:={st with r:=0}) E.out l;have yj:((s[0].toNat:Int)==82)=Î:=by rw[l];rfl
 have F:=fc λe=>(j.d.N e).1;clear l i j;rcases p with⟨G,na⟩|G;all_goals
  go_wp2_with (first|(go_at_call 94;refine(sG _ _).mono ?_;rintro e u ⟨rfl,h⟩;subst u)|(go_at_call 97;refine(aqF _ _).mono ?_;rintro e u ⟨rfl,h⟩;subst u)|(go_at_call 96;refine(aru t U F.out (by show st.d.C.length<=100000;omega) _).mono ?_;rintro e u (⟨n,rfl,h⟩|⟨H,n,rfl,I,J,L,M,N⟩)))
  .subst h;exact C _ _ ⟨gh,⟨o,r.out.trans<|x.out.trans n,_,v.out,_,_,_,D.out⟩⟩
  .exact⟨gh,⟨o,H,r.out.trans<|x.out.trans n,v.out.fe I,J,L,M,N⟩⟩
end
section
variable{g:Gh}{s:ByteArray}{st:PS}{d:PD}
def arA{X:Ĉ->Í->Prop}(t:Fr b B (Å É k) y) (f:gQ m b g O s st w) (i:jx B k st) (M:B.size<=1200) (v:k<B.size) (l:(0<st.r/\jk (B[k].toNat:Int)=Ë)\/st.r<=0) (n:0<s.size) (j:((s[0]'n).toNat:Int)=66) (o:sE (B[k].toNat:Int)=Î) (N:∀y u,Fr b B (Å É<|(k:Int)+1) y/\sI m b B k st w u->K y u) (_hQ:∀y u,Fr b B (Å É k) y/\sJ m b B k st w u->X y u): ß À qM (Exit.then K<|QQ X) y w:=by
 obtain⟨c,rfl⟩:=t;unfold pY;conv=>arg 2;whnf
 have P:w.cell? ⟨b,0,Á⟩=Â (Ä s):=f.r.r 0 _ U;have Q:w.cell? ⟨b,6,Á⟩=Â (Å É st.r):=f.r.r 6 _ U;have S:w.cell? ⟨b,7,Á⟩=Â (Å É st.I):=f.r.r 7 _ U;have T:=f.r.C 0;have V:=f.r.C 6;have W:=f.r.C 7;have Y:=i.M;have d1:=i.r;have e0:=i.C;have e1:=i.I;have x:=fc<|uY (B:=B) (k:=k)<|uX l;have p:=f.Y 0 λh=>absurd h A;have z:=fc<|mM f 6<|Å É 0;have Ah:=i.d.C;have D1:=i.d.I;have HH1:=fc p;let⟨C,D⟩:=uZ B[k];have ru:=tL s Z;have tM:s.size<=10:=f.M;have h:=fc (show st.C=(s[0].toNat:Int)::(jW s).tail by rw[<-f.I];exact wj s n);have r:st.d.r=Î:=by
  rcases f.N with q|q
  .exact q
  .rw[h.out]at q;injection q with q;omega
 have q:=fc<|ari (B:=B) (k:=k) (st:={st with r:=0}) h.out j o;have yj:((s[0].toNat:Int)==82)=Ë:=by rw[j];rfl
 have Gx:((s[0].toNat:Int)==66)=Î:=by rw[j];rfl
 clear j f i;rcases l with⟨E,na⟩|E;all_goals
  go_wp2_with (first|(go_at_call 94;refine(sG _ _).mono ?_;rintro e u ⟨rfl,F⟩;subst u)|(go_at_call 98;refine(Uj _ C D _).mono ?_;rintro e u ⟨rfl,F⟩;subst u)|(go_at_call 99;refine(abz p U r<|by show st.d.Y.length<=100000;omega).mono ?_;rintro e u ⟨rfl,F,H,I,J,G⟩)|(go_at_call 100;refine(M8 G U r _ _<|show o7 120 _=Î from o).mono ?_;rintro e w'' ⟨rfl,G,H,I,J,L⟩))
  exact⟨gh,⟨v,_,x.out.trans q.out,z.out.fe<|F.fe G,H,I,J,L⟩⟩
def arB{X:Ĉ->Í->Prop}(z:Fr b B (Å É k) y) (f:gQ m b g O s st w) (i:jx B k st) (V:B.size<=1200) (l:k<B.size) (n:(0<st.r/\jk (B[k].toNat:Int)=Ë)\/st.r<=0) (o:0<s.size) (j:((s[0]'o).toNat:Int)=66) (C:sE (B[k].toNat:Int)=Ë) (W:∀y u,Fr b B (Å É<|(k:Int)+1) y/\sI m b B k st w u->K y u) (D:∀y u,Fr b B (Å É k) y/\sJ m b B k st w u->X y u): ß À qM (Exit.then K<|QQ X) y w:=by
 obtain⟨c,rfl⟩:=z;unfold pY;conv=>arg 2;whnf
 have Y:w.cell? ⟨b,0,Á⟩=Â (Ä s):=f.r.r 0 _ U;have c6:w.cell? ⟨b,6,Á⟩=Â (Å É st.r):=f.r.r 6 _ U;have c7:w.cell? ⟨b,7,Á⟩=Â (Å É st.I):=f.r.r 7 _ U;have f0:=f.r.C 0;have f6:=f.r.C 6;have f7:=f.r.C 7;have d0:=i.M;have d1:=i.r;have e0:=i.C;have e1:=i.I;have p:=fc<|uY (B:=B) (k:=k)<|uX n;have r:=f.Y 0 λh=>absurd h A;have t:=fc<|mM f 6<|Å É 0;have E:=i.d.C;have F:=i.d.I;have G:=fc r;let⟨H,I⟩:=uZ B[k];have ru:=tL s Z;have tM:s.size<=10:=f.M;have v:=fc (show st.C=(s[0].toNat:Int)::(jW s).tail by rw[<-f.I];exact wj s o);have J:st.d.r=Î:=by
  rcases f.N with q|q
  .exact q
  .rw[v.out]at q;injection q with q;omega
 have x:=fc<|arj (B:=B) (k:=k) (st:={st with r:=0}) v.out j C;have yj:((s[0].toNat:Int)==82)=Ë:=by rw[j];rfl
 have Gx:((s[0].toNat:Int)==66)=Î:=by rw[j];rfl
 clear j f i;rcases n with⟨L,na⟩|L;all_goals
  go_wp2_with (first|(go_at_call 94;refine(sG _ _).mono ?_;rintro e u ⟨rfl,h⟩;subst u)|(go_at_call 98;refine(Uj _ H I _).mono ?_;rintro e u ⟨rfl,h⟩;subst u)|(go_at_call 95;refine(abM r U J F E _).mono ?_;rintro e u (⟨q,rfl,h⟩|⟨M,q,rfl,N,P,Q,S,T⟩)))
  .subst h;exact D _ _ ⟨gh,⟨l,p.out.trans<|x.out.trans q,_,t.out,_,_,_,G.out⟩⟩
  .exact⟨gh,⟨l,M,p.out.trans<|x.out.trans q,t.out.fe N,P,Q,S,T⟩⟩
theorem arC{X:Ĉ->Í->Prop}(C:Fr b B (Å É k) y) (i:gQ m b g O s st w) (j:jx B k st) (Q:B.size<=1200) (o:k<B.size) (p:(0<st.r/\jk (B[k].toNat:Int)=Ë)\/st.r<=0) (r:0<s.size) (l:((s[0]'r).toNat:Int)=84) (S:∀y u,Fr b B (Å É<|(k:Int)+1) y/\sI m b B k st w u->K y u) (D:∀y u,Fr b B (Å É k) y/\sJ m b B k st w u->X y u): ß À qM (Exit.then K<|QQ X) y w:=by
 obtain⟨f,rfl⟩:=C;unfold pY;conv=>arg 2;whnf
 have T:w.cell? ⟨b,0,Á⟩=Â (Ä s):=i.r.r 0 _ U;have V:w.cell? ⟨b,6,Á⟩=Â (Å É st.r):=i.r.r 6 _ U;have W:w.cell? ⟨b,7,Á⟩=Â (Å É st.I):=i.r.r 7 _ U;have Y:=i.r.C 0;have f6:=i.r.C 6;have f7:=i.r.C 7;have d0:=j.M;have d1:=j.r;have e0:=j.C;have e1:=j.I;have t:=fc<|uY (B:=B) (k:=k)<|uX p;have v:=i.Y 0 λh=>absurd h A;have x:=fc<|mM i 6<|Å É 0;have Ah:=j.d.C;have D1:=j.d.I;have E:=fc v;let⟨ug,Ag⟩:=uZ B[k];have ru:=tL s Z;have tM:s.size<=10:=i.M;have h:=fc (show st.C=(s[0].toNat:Int)::(jW s).tail by rw[<-i.I];exact wj s r);have F:st.d.r=Î:=by
  rcases i.N with q|q
  .exact q
  .rw[h.out]at q;injection q with q;omega
 have G:st.d.M=Î:=j.N (by rw[h.out,l];simp);have z:=fc<|ark (B:=B) (k:=k) (c:=(B[k].toNat:Int)) (st:={st with r:=0}) h.out l;have yj:((s[0].toNat:Int)==82)=Ë:=by rw[l];rfl
 have Gx:((s[0].toNat:Int)==66)=Ë:=by rw[l];rfl
 have Gy:((s[0].toNat:Int)==84)=Î:=by rw[l];rfl
 clear l i j;rcases p with⟨H,na⟩|H;all_goals
  go_wp2_with (first|(go_at_call 94;refine(sG _ _).mono ?_;rintro e u ⟨rfl,q⟩;subst u)|(go_at_call 102;refine(aqE _ _).mono ?_;rintro e u ⟨rfl,q⟩;subst u)|(go_at_call 101;refine(arv v U F G _).mono ?_;rintro e u (⟨n,rfl,q⟩|⟨I,n,rfl,J,L,M,N,P⟩)))
  .subst q;exact D _ _ ⟨gh,⟨o,t.out.trans<|z.out.trans n,_,x.out,_,_,_,E.out⟩⟩
  .exact⟨gh,⟨o,I,t.out.trans<|z.out.trans n,x.out.fe J,L,M,N,P⟩⟩
end
section
variable{g:Gh}{s:ByteArray}{st:PS}{d:PD}
theorem arD{X:Ĉ->Í->Prop}(N:Fr b B (Å É k) y) (i:gQ m b g O s st w) (j:jx B k st) (hB:B.size<=1200) (P:k<B.size) (E:(0<st.r/\jk (B[k].toNat:Int)=Ë)\/st.r<=0) (F:0<s.size) (l:((s[0]'F).toNat:Int)=80) (r:(B[k].toNat:Int)=125) (hK:∀y u,Fr b B (Å É<|(k:Int)+1) y/\sI m b B k st w u->K y u) (_hQ:∀y u,Fr b B (Å É k) y/\sJ m b B k st w u->X y u): ß À qM (Exit.then K<|QQ X) y w:=by
 obtain⟨f,rfl⟩:=N;unfold pY;conv=>arg 2;whnf
 have c0:w.cell? ⟨b,0,Á⟩=Â (Ä s):=i.r.r 0 _ U;have c6:w.cell? ⟨b,6,Á⟩=Â (Å É st.r):=i.r.r 6 _ U;have Q:w.cell? ⟨b,7,Á⟩=Â (Å É st.I):=i.r.r 7 _ U;have f0:=i.r.C 0;have f6:=i.r.C 6;have f7:=i.r.C 7;have d0:=j.M;have d1:=j.r;have S:=j.C;have T:=j.I;have G:=fc<|uY (B:=B) (k:=k)<|uX E;have v:=i.Y 0 λh=>absurd h A;have H:=fc<|mM i 6<|Å É 0;have Ah:=j.d.C;have D1:=j.d.I;have V:=fc v;let⟨ug,Ag⟩:=uZ B[k];have ru:=tL s Z;have tM:s.size<=10:=i.M;have h:=fc (show st.C=(s[0].toNat:Int)::(jW s).tail by rw[<-i.I];exact wj s F);have z:st.d.r=Î:=by
  rcases i.N with q|q
  .exact q
  .rw[h.out]at q;injection q with q;omega
 have C:st.d.M=Î:=j.N (by rw[h.out,l];simp);have W:w.cell? ⟨b,3,Á⟩=Â (Ã<|g.Y st.d):=i.r.r 3 _ U;rw[JZ C]at W;let⟨Y,I,q⟩:=(i.C.r z).C C;have UA:w.cell? ⟨g.t,5,Á⟩=Â (Ä st.d.N.p):=q.r 5 _ (by have:=DZ st.d.N.c<|Ä st.d.N.p;rwa[I]at this);have UB:=q.C 5;have On:¬b=g.t:=λe=>ff.S q i.r A e.symm;have Om:¬g.t=b:=ff.S q i.r A;let⟨Oo,_⟩:=j.Y (by rw[h.out,l];simp);have yj:((s[0].toNat:Int)==82)=Ë:=by rw[l];rfl
 have Gx:((s[0].toNat:Int)==66)=Ë:=by rw[l];rfl
 have Gy:((s[0].toNat:Int)==84)=Ë:=by rw[l];rfl
 have J4:((s[0].toNat:Int)==80)=Î:=by rw[l];rfl
 clear Y I q;have J:=fc<|arl (B:=B) (k:=k) (st:={st with r:=0}) h.out l r;have UC:((B[k].toNat:Int) !=125)=Ë:=by rw[r];rfl
 obtain⟨n,L⟩:∃t:Nat,st.I=(t:Int):=⟨st.I.toNat,Z⟩;have o:=v.oF z C<|B.extract (k-n) k;have M:=o.1.abO z h.out;have D:=fc (Ê (show kR B k st (B[k].toNat:Int)=Â {({st with r:=0}:PS)with C:=(jW s).tail,d:=st.d.oF (B.extract (k-n) k)} by rw[G.out,J.out,show({st with r:=0}:PS).I.toNat=n by show st.I.toNat=n;omega])<|Ê ((H.out.fe o.2).fe<|mM o.1 0<|Ä<|s.extract 1 s.size) M);rw[L]at Q S T Oo;clear r l i j o M L J G H V v;rcases E with⟨CX,na⟩|CX;all_goals
  go_wp2_with (first|(go_at_call 94;refine(sG _ _).mono ?_;rintro e u ⟨rfl,x⟩;subst u))
  go_region
  all_goals
   go_wp2;exact⟨gh,⟨P,_,D.out.1,D.out.2.1.C (e8.fS (λ_=>False) _) λ_ _ x=>x.elim,_,_,_,D.out.2.2.fS⟩⟩
theorem arE{X:Ĉ->Í->Prop}(C:Fr b B (Å É k) y) (i:gQ m b g O s st w) (j:jx B k st) (Q:B.size<=1200) (D:k<B.size) (v:(0<st.r/\jk (B[k].toNat:Int)=Ë)\/st.r<=0) (x:0<s.size) (l:((s[0]'x).toNat:Int)=80) (o:¬(B[k].toNat:Int)=125) (r:st.I=40) (_hK:∀y u,Fr b B (Å É<|(k:Int)+1) y/\sI m b B k st w u->K y u) (E:∀y u,Fr b B (Å É k) y/\sJ m b B k st w u->X y u): ß À qM (Exit.then K<|QQ X) y w:=by
 obtain⟨f,rfl⟩:=C;unfold pY;conv=>arg 2;whnf
 have S:w.cell? ⟨b,0,Á⟩=Â (Ä s):=i.r.r 0 _ U;have T:w.cell? ⟨b,6,Á⟩=Â (Å É st.r):=i.r.r 6 _ U;have V:w.cell? ⟨b,7,Á⟩=Â (Å É st.I):=i.r.r 7 _ U;have W:=i.r.C 0;have Y:=i.r.C 6;have f7:=i.r.C 7;have d0:=j.M;have d1:=j.r;have e0:=j.C;have e1:=j.I;have F:=fc<|uY (B:=B) (k:=k)<|uX v;have G:=i.Y 0 λh=>absurd h A;have H:=fc<|mM i 6<|Å É 0;have Ah:=j.d.C;have D1:=j.d.I;have I:=fc G;let⟨ug,Ag⟩:=uZ B[k];have ru:=tL s Z;have tM:s.size<=10:=i.M;have n:=fc (show st.C=(s[0].toNat:Int)::(jW s).tail by rw[<-i.I];exact wj s x);have J:st.d.r=Î:=by
  rcases i.N with q|q
  .exact q
  .rw[n.out]at q;injection q with q;omega
 have q:st.d.M=Î:=j.N (by rw[n.out,l];simp);have L:w.cell? ⟨b,3,Á⟩=Â (Ã<|g.Y st.d):=i.r.r 3 _ U;rw[JZ q]at L;let⟨M,z,h⟩:=(i.C.r J).C q;have UA:w.cell? ⟨g.t,5,Á⟩=Â (Ä st.d.N.p):=h.r 5 _ (by have:=DZ st.d.N.c<|Ä st.d.N.p;rwa[z]at this);have UB:=h.C 5;have On:¬b=g.t:=λe=>ff.S h i.r A e.symm;have Om:¬g.t=b:=ff.S h i.r A;let⟨Oo,_⟩:=j.Y (by rw[n.out,l];simp);have yj:((s[0].toNat:Int)==82)=Ë:=by rw[l];rfl
 have Gx:((s[0].toNat:Int)==66)=Ë:=by rw[l];rfl
 have Gy:((s[0].toNat:Int)==84)=Ë:=by rw[l];rfl
 have J4:((s[0].toNat:Int)==80)=Î:=by rw[l];rfl
 clear M z h;have UC:((B[k].toNat:Int) !=125)=Î:=by rwa[bne_iff_ne]
 have N:=fc<|abN (B:=B) (k:=k) (st:={st with r:=0}) n.out l o<|È r;have abP:(st.I==40)=Î:=by rw[r];rfl
 clear r o l i j;rcases v with⟨P,na⟩|P;all_goals
  go_wp2_with (first|(go_at_call 94;refine(sG _ _).mono ?_;rintro e u ⟨rfl,hw⟩;subst u))
  exact E _ _ ⟨gh,⟨D,F.out.trans N.out,_,H.out,_,_,_,I.out⟩⟩
theorem arF{X:Ĉ->Í->Prop}(E:Fr b B (Å É k) y) (i:gQ m b g O s st w) (j:jx B k st) (S:B.size<=1200) (F:k<B.size) (v:(0<st.r/\jk (B[k].toNat:Int)=Ë)\/st.r<=0) (x:0<s.size) (l:((s[0]'x).toNat:Int)=80) (o:¬(B[k].toNat:Int)=125) (r:¬st.I=40) (z:¬lB (B[k].toNat:Int)=0) (T:∀y u,Fr b B (Å É<|(k:Int)+1) y/\sI m b B k st w u->K y u) (_hQ:∀y u,Fr b B (Å É k) y/\sJ m b B k st w u->X y u): ß À qM (Exit.then K<|QQ X) y w:=by
 obtain⟨f,rfl⟩:=E;unfold pY;conv=>arg 2;whnf
 have V:w.cell? ⟨b,0,Á⟩=Â (Ä s):=i.r.r 0 _ U;have W:w.cell? ⟨b,6,Á⟩=Â (Å É st.r):=i.r.r 6 _ U;have Y:w.cell? ⟨b,7,Á⟩=Â (Å É st.I):=i.r.r 7 _ U;have f0:=i.r.C 0;have f6:=i.r.C 6;have f7:=i.r.C 7;have d0:=j.M;have d1:=j.r;have e0:=j.C;have e1:=j.I;have G:=fc<|uY (B:=B) (k:=k)<|uX v;have H:=i.Y 0 λh=>absurd h A;have I:=fc<|mM i 6<|Å É 0;have Ah:=j.d.C;have D1:=j.d.I;have C:=fc H;let⟨ug,Ag⟩:=uZ B[k];have ru:=tL s Z;have tM:s.size<=10:=i.M;have n:=fc (show st.C=(s[0].toNat:Int)::(jW s).tail by rw[<-i.I];exact wj s x);have J:st.d.r=Î:=by
  rcases i.N with q|q
  .exact q
  .rw[n.out]at q;injection q with q;omega
 have q:st.d.M=Î:=j.N (by rw[n.out,l];simp);have L:w.cell? ⟨b,3,Á⟩=Â (Ã<|g.Y st.d):=i.r.r 3 _ U;rw[JZ q]at L;let⟨M,D,h⟩:=(i.C.r J).C q;have UA:w.cell? ⟨g.t,5,Á⟩=Â (Ä st.d.N.p):=h.r 5 _ (by have:=DZ st.d.N.c<|Ä st.d.N.p;rwa[D]at this);have UB:=h.C 5;have On:¬b=g.t:=λe=>ff.S h i.r A e.symm;have Om:¬g.t=b:=ff.S h i.r A;let⟨Oo,_⟩:=j.Y (by rw[n.out,l];simp);have yj:((s[0].toNat:Int)==82)=Ë:=by rw[l];rfl
 have Gx:((s[0].toNat:Int)==66)=Ë:=by rw[l];rfl
 have Gy:((s[0].toNat:Int)==84)=Ë:=by rw[l];rfl
 have J4:((s[0].toNat:Int)==80)=Î:=by rw[l];rfl
 clear M D h;have UC:((B[k].toNat:Int) !=125)=Î:=by rwa[bne_iff_ne]
 have N:=fc<|arn (B:=B) (k:=k) (st:={st with r:=0}) n.out l o r z;have abP:(st.I==40)=Ë:=by rwa[beq_eq_false_iff_ne]
 have zn:((lB (B[k].toNat:Int):Int)==0)=Ë:=by rw[beq_eq_false_iff_ne];omega
 clear r o l i j z;rcases v with⟨P,na⟩|P;all_goals
  go_wp2_with (first|(go_at_call 94;refine(sG _ _).mono ?_;rintro e u ⟨rfl,Q⟩;subst u)|(go_at_call 103;refine(qD _ _).mono ?_;rintro e u ⟨rfl,Q⟩;subst u))
  exact⟨gh,⟨F,_,G.out.trans N.out,I.out.fe<|mM C.out 7 _,_,_,_,C.out.abw _⟩⟩
theorem arG{X:Ĉ->Í->Prop}(D:Fr b B (Å É k) y) (i:gQ m b g O s st w) (j:jx B k st) (T:B.size<=1200) (E:k<B.size) (v:(0<st.r/\jk (B[k].toNat:Int)=Ë)\/st.r<=0) (x:0<s.size) (l:((s[0]'x).toNat:Int)=80) (o:¬(B[k].toNat:Int)=125) (z:¬st.I=40) (r:lB (B[k].toNat:Int)=0) (_hK:∀y u,Fr b B (Å É<|(k:Int)+1) y/\sI m b B k st w u->K y u) (F:∀y u,Fr b B (Å É k) y/\sJ m b B k st w u->X y u): ß À qM (Exit.then K<|QQ X) y w:=by
 obtain⟨f,rfl⟩:=D;unfold pY;conv=>arg 2;whnf
 have V:w.cell? ⟨b,0,Á⟩=Â (Ä s):=i.r.r 0 _ U;have W:w.cell? ⟨b,6,Á⟩=Â (Å É st.r):=i.r.r 6 _ U;have Y:w.cell? ⟨b,7,Á⟩=Â (Å É st.I):=i.r.r 7 _ U;have f0:=i.r.C 0;have f6:=i.r.C 6;have f7:=i.r.C 7;have d0:=j.M;have d1:=j.r;have e0:=j.C;have e1:=j.I;have G:=fc<|uY (B:=B) (k:=k)<|uX v;have H:=i.Y 0 λh=>absurd h A;have I:=fc<|mM i 6<|Å É 0;have Ah:=j.d.C;have D1:=j.d.I;have J:=fc H;let⟨ug,Ag⟩:=uZ B[k];have ru:=tL s Z;have tM:s.size<=10:=i.M;have n:=fc (show st.C=(s[0].toNat:Int)::(jW s).tail by rw[<-i.I];exact wj s x);have L:st.d.r=Î:=by
  rcases i.N with q|q
  .exact q
  .rw[n.out]at q;injection q with q;omega
 have q:st.d.M=Î:=j.N (by rw[n.out,l];simp);have M:w.cell? ⟨b,3,Á⟩=Â (Ã<|g.Y st.d):=i.r.r 3 _ U;rw[JZ q]at M;let⟨N,C,h⟩:=(i.C.r L).C q;have UA:w.cell? ⟨g.t,5,Á⟩=Â (Ä st.d.N.p):=h.r 5 _ (by have:=DZ st.d.N.c<|Ä st.d.N.p;rwa[C]at this);have UB:=h.C 5;have On:¬b=g.t:=λe=>ff.S h i.r A e.symm;have Om:¬g.t=b:=ff.S h i.r A;let⟨Oo,_⟩:=j.Y (by rw[n.out,l];simp);have yj:((s[0].toNat:Int)==82)=Ë:=by rw[l];rfl
 have Gx:((s[0].toNat:Int)==66)=Ë:=by rw[l];rfl
 have Gy:((s[0].toNat:Int)==84)=Ë:=by rw[l];rfl
 have J4:((s[0].toNat:Int)==80)=Î:=by rw[l];rfl
 clear N C h;have UC:((B[k].toNat:Int) !=125)=Î:=by rwa[bne_iff_ne]
 have P:=fc<|abN (B:=B) (k:=k) (st:={st with r:=0}) n.out l o<|Ï r;have abP:(st.I==40)=Ë:=by rwa[beq_eq_false_iff_ne]
 have zn:((lB (B[k].toNat:Int):Int)==0)=Î:=by rw[r];rfl
 clear z o l i j r;rcases v with⟨Q,na⟩|Q;all_goals
  go_wp2_with (first|(go_at_call 94;refine(sG _ _).mono ?_;rintro e u ⟨rfl,S⟩;subst u)|(go_at_call 103;refine(qD _ _).mono ?_;rintro e u ⟨rfl,S⟩;subst u))
  exact F _ _ ⟨gh,⟨E,G.out.trans P.out,_,I.out,_,_,_,J.out⟩⟩
end
section
variable{g:Gh}{s:ByteArray}{st:PS}{d:PD}
def arH{X:Ĉ->Í->Prop}(D:Fr b B (Å É k) y) (f:gQ m b g O s st w) (i:jx B k st) (Q:B.size<=1200) (E:k<B.size) (v:(0<st.r/\jk (B[k].toNat:Int)=Ë)\/st.r<=0) (j:0<s.size) (n:¬((s[0]'j).toNat:Int)=82) (o:¬((s[0]'j).toNat:Int)=66) (p:¬((s[0]'j).toNat:Int)=84) (r:¬((s[0]'j).toNat:Int)=80) (x:o7 ((s[0]'j).toNat:Int) (B[k].toNat:Int)=Î) (S:∀y u,Fr b B (Å É<|(k:Int)+1) y/\sI m b B k st w u->K y u) (_hQ:∀y u,Fr b B (Å É k) y/\sJ m b B k st w u->X y u): ß À qM (Exit.then K<|QQ X) y w:=by
 obtain⟨c,rfl⟩:=D;unfold pY;conv=>arg 2;whnf
 have T:w.cell? ⟨b,0,Á⟩=Â (Ä s):=f.r.r 0 _ U;have V:w.cell? ⟨b,6,Á⟩=Â (Å É st.r):=f.r.r 6 _ U;have W:w.cell? ⟨b,7,Á⟩=Â (Å É st.I):=f.r.r 7 _ U;have Y:=f.r.C 0;have f6:=f.r.C 6;have f7:=f.r.C 7;have d0:=i.M;have d1:=i.r;have e0:=i.C;have e1:=i.I;have F:=fc<|uY (B:=B) (k:=k)<|uX v;have G:=f.Y 0 λh=>absurd h A;have H:=fc<|mM f 6<|Å É 0;have Ah:=i.d.C;let⟨I,J⟩:=uZ B[k];have ru:=tL s Z;have tM:s.size<=10:=f.M;have l:=fc (show st.C=(s[0].toNat:Int)::(jW s).tail by rw[<-f.I];exact wj s j);have z:st.d.r=Î:=by
  rcases f.N with q|q
  .exact q
  .rw[l.out]at q;injection q with q;omega
 have yj:((s[0].toNat:Int)==82)=Ë:=by rwa[beq_eq_false_iff_ne]
 have arI:((s[0].toNat:Int)==66)=Ë:=by rwa[beq_eq_false_iff_ne]
 have Gy:((s[0].toNat:Int)==84)=Ë:=by rwa[beq_eq_false_iff_ne]
 have J4:((s[0].toNat:Int)==80)=Ë:=by rwa[beq_eq_false_iff_ne]
 have L:=fc<|aro (B:=B) (k:=k) (st:={st with r:=0}) l.out n o p r x;have M:=fc x;clear n o p r f i;rcases v with⟨N,na⟩|N;all_goals
  go_wp2_with (first|(go_at_call 94;refine(sG _ _).mono ?_;rintro e u ⟨rfl,h⟩;subst u)|(go_at_call 104;refine(abq _ _ I J _).mono ?_;rintro e u ⟨rfl,h⟩;subst u)|(go_at_call 100;refine(M8 G U z _ _ M.out).mono ?_;rintro e P ⟨rfl,C,g',nm',q,h⟩;have k0:P.cell? ⟨b,0,Á⟩=Â (Ä q):=h.r.r 0 _ U;have kf0:=h.r.C 0;have uh:0<q.size:=h.ars l.out;have avi:q.size<=10:=h.M;have t:=fc<|Ê C h;clear C h))
  exact⟨gh,⟨E,_,F.out.trans L.out,H.out.fe<|t.out.1.fe<|mM t.out.2 0 _,_,_,_,t.out.2.abO ((Uu _ _ _).1.trans z) l.out⟩⟩
def arJ{X:Ĉ->Í->Prop}(t:Fr b B (Å É k) y) (f:gQ m b g O s st w) (i:jx B k st) (L:B.size<=1200) (v:k<B.size) (r:(0<st.r/\jk (B[k].toNat:Int)=Ë)\/st.r<=0) (j:0<s.size) (l:¬((s[0]'j).toNat:Int)=82) (n:¬((s[0]'j).toNat:Int)=66) (o:¬((s[0]'j).toNat:Int)=84) (p:¬((s[0]'j).toNat:Int)=80) (x:o7 ((s[0]'j).toNat:Int) (B[k].toNat:Int)=Ë) (_hK:∀y u,Fr b B (Å É<|(k:Int)+1) y/\sI m b B k st w u->K y u) (z:∀y u,Fr b B (Å É k) y/\sJ m b B k st w u->X y u): ß À qM (Exit.then K<|QQ X) y w:=by
 obtain⟨c,rfl⟩:=t;unfold pY;conv=>arg 2;whnf
 have M:w.cell? ⟨b,0,Á⟩=Â (Ä s):=f.r.r 0 _ U;have N:w.cell? ⟨b,6,Á⟩=Â (Å É st.r):=f.r.r 6 _ U;have P:w.cell? ⟨b,7,Á⟩=Â (Å É st.I):=f.r.r 7 _ U;have Q:=f.r.C 0;have S:=f.r.C 6;have T:=f.r.C 7;have V:=i.M;have W:=i.r;have Y:=i.C;have e1:=i.I;have C:=fc<|uY (B:=B) (k:=k)<|uX r;have D:=f.Y 0 λh=>absurd h A;have E:=fc<|mM f 6<|Å É 0;have Ah:=i.d.C;have D1:=i.d.I;have F:=fc D;let⟨G,H⟩:=uZ B[k];have ru:=tL s Z;have tM:s.size<=10:=f.M;have h:=fc (show st.C=(s[0].toNat:Int)::(jW s).tail by rw[<-f.I];exact wj s j);have on:st.d.r=Î:=by
  rcases f.N with q|q
  .exact q
  .rw[h.out]at q;injection q with q;omega
 have yj:((s[0].toNat:Int)==82)=Ë:=by rwa[beq_eq_false_iff_ne]
 have arI:((s[0].toNat:Int)==66)=Ë:=by rwa[beq_eq_false_iff_ne]
 have Gy:((s[0].toNat:Int)==84)=Ë:=by rwa[beq_eq_false_iff_ne]
 have J4:((s[0].toNat:Int)==80)=Ë:=by rwa[beq_eq_false_iff_ne]
 have q:=fc<|arp (B:=B) (k:=k) (st:={st with r:=0}) h.out l n o p x;clear l n o p f i;rcases r with⟨I,na⟩|I;all_goals
  go_wp2_with (first|(go_at_call 94;refine(sG _ _).mono ?_;rintro e u ⟨rfl,J⟩;subst u)|(go_at_call 104;refine(abq _ _ G H _).mono ?_;rintro e u ⟨rfl,J⟩;subst u))
  exact z _ _ ⟨gh,⟨v,C.out.trans q.out,_,E.out,_,_,_,F.out⟩⟩
end
section
variable{g:Gh}{st:PS}{d:PD}
theorem arK{X:Ĉ->Í->Prop}{c:ByteArray}(d:Fr b c (Å É k) y) (e:gQ m b g O B st w) (f:jx c k st) (h:c.size<=1200) (i:k<c.size) (j:∀y v,Fr b c (Å É<|(k:Int)+1) y/\sI m b c k st w v->K y v) (l:∀y v,Fr b c (Å É k) y/\sJ m b c k st w v->X y v): ß À qM (Exit.then K<|QQ X) y w:=by
 by_cases u:0<st.r/\jk (c[k].toNat:Int)=Î
 .grind [arw]
 have n:(0<st.r/\jk (c[k].toNat:Int)=Ë)\/st.r<=0:=by grind
 by_cases x:B.size=0
 .grind [arx]
 have o:0<B.size:=Z
 by_cases q:(B[0].toNat:Int)=82
 .grind [arz]
 by_cases p:(B[0].toNat:Int)=66
 .cases r:sE (c[k].toNat:Int)with
  |true=>exact arA d e f h i n o p r j l
  |false=>exact arB d e f h i n o p r j l
 by_cases r:(B[0].toNat:Int)=84
 .grind [arC]
 by_cases s:(B[0].toNat:Int)=80
 .grind [arD,arE,arG,arF]
 cases t:o7 (B[0].toNat:Int) (c[k].toNat:Int)with
 |true=>exact arH d e f h i n o q p r s t j l
 |false=>exact arJ d e f h i n o q p r s t j l
def arL{X:Ĉ->Í->Prop}(c:Fr b B (Å É k) y)(_hB:B.size<=1200)(e:¬k<B.size)(_hk:k<=B.size) (d:∀y v,Fr b B (Å É k) y/\v=w->X y v): ß À qM (Exit.then K<|QQ X) y w:=by
 obtain⟨u,rfl⟩:=c;unfold pY;conv=>arg 2;whnf
 go_wp2;exact d _ _ ⟨gh,U⟩
def lC(B:ByteArray):Nat×PS:=jR B B.size 0 nP
def RI(m b:Nat)(c:ByteArray)(w:Í)(a:Ĉ)(d:Í):Prop:=
 ∃(k:Nat) (g:Gh) (O:Option ü) (B:ByteArray) (st:PS),k<=c.size/\Fr b c (Å É k) a/\gQ m b g O B st d/\e8 (λi=>m<=i) w d/\jx c k st/\lC c=jR c (c.size-k) k st
def Rmu(B:ByteArray)(a:Ĉ)(_:Í):Nat:=B.size-(intOf<|a.tmps.getD 5 ĸ).toNat
def RX(m b:Nat)(B:ByteArray)(w:Í)(a:Ĉ)(d:Í):Prop:=
 ∃(k:Nat) (c:PS),k<=B.size/\Fr b B (Å É k) a/\sH m b c w d/\(lC B).1=k/\(k=B.size->(lC B).2=c)
def abQ{w:Í}(h:Fr b B (Å É c) y):Rmu B y w=B.size-c.toNat:=by obtain⟨u,rfl⟩:=h;rfl
def arM{a:PS}(b:k<B.size)(c:kR B k st (B[k].toNat:Int)=Â a):jR B (B.size-k) k st=jR B (B.size-(k+1)) (k+1) a:=by rw[show B.size-k=(B.size-(k+1))+1 by omega,jR,dif_pos b,c]
def arN(a:k<B.size)(b:kR B k st (B[k].toNat:Int)=Á):jR B (B.size-k) k st=(k,st):=by rw[show B.size-k=(B.size-(k+1))+1 by omega,jR,dif_pos a,b]
def arO{c:ByteArray}(f:Fr b c (Å É 0) y)(h:gQ m b g O B nP w)(q:c.size<=1200): ß À (ń qM) (QQ<|RX m b c w) y w:=by
 apply Γ (RI m b c w) (Rmu c) ⟨0,g,O,B,nP,Ø _,f,h,e8.fU _ _,Ux c,U⟩;rintro y u ⟨k,g,O,B,st,l,f,r,n,s,o⟩;by_cases i:k<c.size
 .refine arK f r s q i ?_ ?_
  .rintro t v ⟨d,x,e,j,p,z,C,D,E⟩;refine⟨⟨k+1,z,C,D,e,Z,by simpa using d,E,n.fe p,abH s i j,o.trans<|arM i j⟩,?_⟩;rw[abQ d,abQ (w:=u) f];omega
  .rintro t v ⟨d,x,j,z,p,C⟩;have:=o.trans<|arN i j;exact⟨k,z,l,d,⟨n.fe p,C⟩,by rw[this],λe=>by omega⟩
 .apply arL f q i l;rintro t v ⟨d,rfl⟩;have:lC c=(k,st):=by rw[o,show c.size-k=0 by omega];rfl
  exact⟨k,st,l,d,⟨n,g,O,B,r⟩,by rw[this],λ_=>by rw[this]⟩
def arP{c:ByteArray}(h:gQ m b g O B nP w)(f:c.size<=1200): Ò À 61 #[Ã<|Â ⟨b,0,Á⟩,Ä c] w λe u=>
  ∃(k:Nat) (d:PS),k<=c.size/\e=Æ (Å É k)/\sH m b d w u/\(lC c).1=k/\(k=c.size->(lC c).2=d):=by
 go_enter Tryz.func61,Tryz.ntmps61;go_wp2;go_step3;go_wp2;go_step3;go_wp2;refine İ ?_ (arO gh h f);rintro(_|(_|_)|_|_|_|_) a v hq;all_goals first|exact absurd hq id|skip
 let⟨k,d,i,j,l⟩:=hq;obtain⟨e,rfl⟩:=j;unfold pY;go_wp2;(try rw[Exit.noGoto_ret]);go_ret;exact⟨k,d,i,U,(fc l).out⟩
end
def lQ(B:ByteArray):Int×Bool×List PR:=
 if B.size=0 then(0,Î,[])else(((lC B).1:Int),decide ((lC B).1=B.size)&&(decide ((lC B).2.C=[])||decide ((lC B).2.C=[66])),(lC B).2.d.C)
def gK(B:ByteArray):Int×Int×List PR:=
 if 1200<B.size then(1,0,[])else if(lQ B).2.1=Î then(0,0,(lQ B).2.2)else(2,(lQ B).1,[])
def D2(m:Nat)(v:Ñ)(b:List PR)(w:Í):Prop:=jE m w/\∃a,w.ownsRow m 148 1 v a.length (nQ a)/\pW w.heap.size a b w
section
variable{g:Gh}{s:ByteArray}{st:PS}
def D2.pn(w:Í):D2 w.heap.size (Ç Á 0 0) [] w:=⟨jE.I w,[],⟨U,È ⟨U,U⟩⟩,pW.N _ _⟩
def gQ.iM(h:gQ m b g O s st w)(a:st.d.r=Ë->st.d.S=[])(n:Nat):D2 m g.N st.d.C (w.drewN n):= ⟨h.a.iP n,g.C st.d,ie h.C.C (e8.iP (λ_=>False) w n) λ_ _=>id,(h.C.abA a).C (e8.iP (λ_=>False) w n) λ_ _ x=>x.elim⟩
def g0(m:Nat):Gh:={a:=[],q:=0,t:=0,B:=m,tb:=[],N:=Ç Á 0 0,r:=Ç Á 0 0,b:=Á}
def arQ(w:Í):gQ w.heap.size w.heap.size (g0 w.heap.size) Á ⟨#[82]⟩ nP (w.alloc<|Û #[Ä ⟨#[82]⟩,Ç Á 0 0,Ã Á,Ã Á,Ã Á,Ã Á,Å É 0,Å É 0] 153):= ⟨æ _,(jE.I w).gE _ _ A A (λv e=>by simp at e;rcases e with rfl|rfl|rfl|rfl<;>trivial),ff.N w [Ä ⟨#[82]⟩,Ç Á 0 0,Ã Á,Ã Á,Ã Á,Ã Á,Å É 0,Å É 0] 153,A,A,⟨⟨U,È ⟨U,U⟩⟩,pW.N _ _,(λe=>by cases e),λ_=>rfl⟩,(λq=>by cases q),Ï rfl⟩
def arR(s:ByteArray):jW s=[66]↔s.toList=[66]:=by
 unfold jW;rw[ByteArray.toList_eq];constructor
 .intro h;match hl:s.data.toList with
  |[]=>rw[hl]at h;simp at h
  |[x]=>
   rw[hl]at h;simp only[ŉ,Ő,List.cons.injEq,and_true]at h;have:x=66:=UInt8.toNat_inj.1 (by have:x.toNat=66:=Z;rw[this];rfl);rw[this]
  |x::y::r=>rw[hl]at h;simp at h
 .intro h;rw[h];rfl
def UD(a:¬B.size=0):(lQ B).1=((lC B).1:Int):=by rw[lQ,if_neg a]
def abR(a:¬B.size=0):(lQ B).2.2=(lC B).2.d.C:=by rw[lQ,if_neg a]
def arS(a:¬B.size=0)(h:¬(lC B).1=B.size):(lQ B).2.1=Ë:=by rw[lQ,if_neg a];simp[h]
def abS(a:¬B.size=0)(h:(lC B).1=B.size){x:Bool}(b:x=(decide ((lC B).2.C=[])||decide ((lC B).2.C=[66]))):(lQ B).2.1=x:=by rw[lQ,if_neg a,b];simp[h]
def arT(B:ByteArray):(lC B).2.d.r=Ë->(lC B).2.d.S=[]:=λe=>((Uy B.size 0 nP (Ux B)<|Ø _).1.d.N e).1
theorem abT(q:B.size<=1200): Ò À 45 #[Ä B] w λe u=>
  e8 (λ_=>False) w u/\∃v,e=Æ (ë #[v,Å É (lQ B).1,õ (lQ B).2.1])/\((lQ B).2.1=Î->D2 w.heap.size v (lQ B).2.2 u):=by
 by_cases a:B.size=0
 .have f:=Uz B a;have n:=fc (show lQ B=(0,Î,[])from if_pos a);go_enter ε,Ν;go_wp2;apply ÿ (v:=ë #[Ç Á 0 0,Å É 0,õ Î]) (by simp[Ń,Ģ,go_sem]) U;exact⟨e8.fU _ _,_,by rw[n.out],λ_=>by rw[n.out];exact D2.pn w⟩
 .have f:=tL B a;have b:=fc a;go_enter ε,Ν;go_wp2_with (go_at_call 61;refine(arP (arQ w) q).mono ?_;rintro e r ⟨k,d,i,rfl,⟨n,g,O,s,c⟩,h,t⟩);have l:e8 (λ_=>False) w r:=((e8.gE (λi=>w.heap.size<=i) w _ _).fe n).S λi D x=>by omega
  have E:=c.r.r 0 _ U;have F:=c.r.r 1 _ U;by_cases m:k=B.size
  .subst m;have y:=t U;subst y;have o:=fc c.I;have p:=fc λn=>c.iM (arT B) n;have n:=fc h;have d:=fc l;have z:((B.size:Int)==(B.size:Int))=Î:=fi
   by_cases a:s.size=0
   .have f:=Uz s a;have j:=fc (abS b.out n.out (x:=Î)<|by rw[<-o.out,abo s a];rfl);go_quiet (fail);go_wp2;apply ÿ (v:=ë #[g.N,Å É B.size,õ Î]) (by simp[Ń,Ģ,go_sem]) U;exact⟨d.out.fe<|e8.iP _ _ _,_,by rw[UD b.out,n.out,j.out],λ_=>by rw[abR b.out];exact p.out _⟩
   .have f:=tL s a;have j:=fc (abS b.out n.out (x:=(s.toList==[66])) (by
     rw[<-o.out];have C:¬jW s=[]:=λe=>by have:=Ui s;grind
     rw[decide_eq_false C,Bool.false_or,Ę,beq_iff_eq,decide_eq_true_iff,arR]))
    go_quiet (fail)
    go_wp2;apply ÿ (v:=ë #[g.N,Å É B.size,õ<|s.toList==[66]]) (by simp[Ń,Ģ,go_sem]) U;exact⟨d.out.fe<|e8.iP _ _ _,_,by rw[UD b.out,n.out,j.out],λ_=>by rw[abR b.out];exact p.out _⟩
  .have z:((k:Int)==(B.size:Int))=Ë:=by rw[beq_eq_false_iff_ne];omega
   have n:=fc (Ê h<|arS b.out<|by rwa[h]);have d:=fc l;go_quiet (fail);go_wp2;apply ÿ (v:=ë #[g.N,Å É k,õ Ë]) (by simp[Ń,Ģ,go_sem]) U;exact⟨d.out.fe<|e8.iP _ _ _,_,by rw[UD b.out,n.out.1,n.out.2],λe=>by rw[n.out.2]at e;cases e⟩
def arU(h:B.size<=ī): Ò À 36 #[Ä B] w λe u=>
  e8 (λ_=>False) w u/\∃v,e=Æ (ë #[v,Å É (gK B).1,Å É (gK B).2.1])/\((gK B).1=0->D2 w.heap.size v (gK B).2.2 u)/\((gK B).1≠0->v=Ç Á 0 0):=by
 unfold ī at h;by_cases b:1200<B.size
 .have a:=fc (show gK B=(1,0,[]) by rw[gK,if_pos b]);go_enter ļ,Ř;go_wp2;apply ÿ (v:=ë #[Ç Á 0 0,Å É 1,Å É 0]) (by simp[Ń,Ľ,go_sem]) U;exact⟨e8.fU _ _,_,by rw[a.out],(λe=>by rw[a.out]at e;cases e),λ_=>rfl⟩
 .have f:B.size<=1200:=Z
  cases c:(lQ B).2.1 with
  |true=>
   have a:=fc (show gK B=(0,0,(lQ B).2.2) by rw[gK,if_neg b,if_pos c]);go_enter ļ,Ř;go_wp2_with (go_at_call 45;refine(abT f).mono ?_;rintro e i ⟨d,v,rfl,g⟩);apply ÿ (v:=ë #[v,Å É 0,Å É 0]) (by simp[Ń,Ľ,go_sem]) U;exact⟨d,_,by rw[a.out],(λ_=>by rw[a.out];exact g c),λe=>by rw[a.out]at e;exact absurd U e⟩
  |false=>
   have a:=fc (show gK B=(2,(lQ B).1,[]) by rw[gK,if_neg b,if_neg (by rw[c];exact Bool.false_ne_true)]);go_enter ļ,Ř;go_wp2_with (go_at_call 45;refine(abT f).mono ?_;rintro e i ⟨d,v,rfl,g⟩);apply ÿ (v:=ë #[Ç Á 0 0,Å É 2,Å É (lQ B).1]) (by simp[Ń,Ľ,go_sem]) U;exact⟨d,_,by rw[a.out],(λe=>by rw[a.out]at e;cases e),λ_=>rfl⟩
end
end Go.Proofs.Y.nh
namespace Go.Proofs.Y.kH
open Go Go.Conc Go.Proofs Go.RowKit Go.Proofs.Y.Lift Go.Proofs.Y.gw Go.Proofs.Y.fq Go.Proofs.Y.nh
structure J5(a:Nat)(t:PT)(w:Í):Prop where
 r:∃cs fz,w.heap[a]?=Â (Û cs 200 fz)
 c:∀i,i<5->w.cell? ⟨a,i,Á⟩=Â (Å É<|t.c.getD i 0)
 p:w.cell? ⟨a,5,Á⟩=Â (Ä t.p)
structure yk(r:Nat)(p:PR)(w:Í):Prop where
 c:∀i,i<8->w.cell? ⟨r,i,Á⟩=Â (Å É<|p.c.getD i 0)
 b:∃bp n cp,w.cell? ⟨r,8,Á⟩=Â (Ç bp n cp)/\n=p.r.length/\∀(j:Nat) (t:PT),p.r[j]?=Â t->∃tb a,bp=Â ⟨tb,0,Á⟩/\w.cell? ⟨tb,j,Á⟩=Â (Ã<|Â ⟨a,0,Á⟩)/\J5 a t w
structure RQ(rs:List PR)(v:Ñ)(U:Nat->Prop)(w:Í):Prop where
 C:kI nB U w
 I:fh (ln U nB) v v
 M:∃bp cp,v=Ç bp rs.length cp/\∀(j:Nat) (p:PR),rs[j]?=Â p->∃sb r,bp=Â ⟨sb,0,Á⟩/\w.cell? ⟨sb,j,Á⟩=Â (Ã<|Â ⟨r,0,Á⟩)/\yk r p w
section
variable{f:Nat->Prop}{rs:List PR}{Y:fl}
theorem arV(h:jh Y X u w){t:PT}(d:Y i n)(k:J5 i t u):J5 n t w:=by refine⟨?_,λb f=>(Ae h).r d<|k.c b f,(Ae h).C d k.p⟩;let⟨c,g,e,j,l,m,o,_⟩:=h.r i n d;let⟨r,s,q⟩:=k.r;grind
theorem arW(h:jh Y X u w){r:Nat}{p:PR}(e:Y r i)(k:yk r p u):yk i p w:=by refine⟨λd f=>(Ae h).r e<|k.c d f,?_⟩;let⟨G,n,g,l,m,o⟩:=k.b;let⟨x,q,s⟩:=Ae h r i 8 _ e l;obtain⟨v,rfl,y⟩:=N0 s;refine⟨v,n,g,q,m,λj t z=> ?_⟩;let⟨tb,a,B,C,H⟩:=o j t z;let⟨I,J,D⟩:=y _ B;obtain⟨E,rfl,F⟩:=Ab D;let⟨K,L,M⟩:=Ae h tb E j _ F C;grind [NZ,Ab,arV]
theorem arX(h:jh Y X u w)(b:fh Y v x)(a:RQ rs v f u):RQ rs x (λj=>∃i,f i/\Y i j) w:=by refine⟨Ud h a.C,N4 b a.I,?_⟩;obtain⟨s,i,rfl,c⟩:=a.M;obtain⟨d,rfl,e⟩:=N0 b;refine⟨d,i,U,λj p g=> ?_⟩;let⟨k,r,l,m,t⟩:=c j p g;let⟨y,z,n⟩:=e _ l;obtain⟨o,rfl,q⟩:=Ab n;let⟨B,C,D⟩:=Ae h k o j _ q m;grind [NZ,Ab,arW]
def D3(k:W.heap[b]?=w.heap[b]?)(h:w.cell? ⟨b,i,Á⟩=Â z):W.cell? ⟨b,i,Á⟩=Â z:=by simp only[à,k];exact h
def arY(l:kI nB X w)(k:∀b,X b->W.heap[b]?=w.heap[b]?){r:Nat}{p:PR}(d:X r)(h:yk r p w):yk r p W:=by
 refine⟨λi e=>D3 (k r d)<|h.c i e,?_⟩;let⟨u,n,v,m,x,y⟩:=h.b;refine⟨u,n,v,D3 (k r d) m,x,λj t z=> ?_⟩;let⟨tb,a,o,q,f⟩:=y j t z;have s:X tb:=by have:=l.r d m;rw[o]at this;exact DR this
 have g:=DL<|l.r s q;exact⟨tb,a,o,D3 (k tb s) q,⟨by rw[k a g];exact f.r,λi e=>D3 (k a g)<|f.c i e,D3 (k a g) f.p⟩⟩
def RQ.r(h:RQ rs v f w)(k:∀b,f b->W.heap[b]?=w.heap[b]?):RQ rs v f W:=by
 refine⟨h.C.C k,h.I,?_⟩;obtain⟨g,i,rfl,l⟩:=h.M;refine⟨g,i,U,λj p m=> ?_⟩;let⟨a,r,c,d,n⟩:=l j p m;have e:f a:=by have:=h.I;rw[c]at this;exact DR this
 exact⟨a,r,c,D3 (k a e) d,arY h.C k (DL<|h.C.r e d) n⟩
def abU{v:Ñ}(h:nj m i v):fh (ln (λd=>m<=d/\d<i) nB) v v:=by
 cases v with
 |int k n=>exact .iC k n
 |bool b=>exact .mC b
 |string i=>exact .kJ i
 |pointer a=>cases a with
  |none=>exact .lS
  |some a=>exact fh.j0 (Y:=ln (λd=>m<=d/\d<i) nB) ⟨⟨U,h⟩,U,U⟩
 |slice a n c=>cases a with
  |none=>exact .nR n c
  |some a=>exact fh.kU (Y:=ln (λd=>m<=d/\d<i) nB) ⟨⟨U,h⟩,U,U⟩ n c
 |_=>exact absurd h<|by simp[nj]
def arZ{v:Ñ}(h:nj m i v):yt v=Ë:=by
 cases v with
 |int k n=>cases k<;>first|rfl|exact absurd h<|by simp[nj]
 |_=>rfl
def ar0(h:jE m w):kI nB (λi=>m<=i/\i<w.heap.size) w:=λb i=>by let⟨c,e,f,g,j,k,l,n,d⟩:=h b _ i.1<|å i.2;exact⟨c,e,f,by rw[å i.2,g],j,pQ λv a=>abU<|d v a,k,Ad λv a=>arZ<|d v a,l,n⟩
theorem M7{base:Nat}(h:w.ownsRow base e 1 v jJ.length (nQ jJ)):∃b f,v=Ç b jJ.length f/\∀(j r:Nat),jJ[j]?=Â r->∃a,b=Â ⟨a,0,Á⟩/\base<=a/\w.cell? ⟨a,j,Á⟩=Â (Ã<|Â ⟨r,0,Á⟩):=by
 obtain⟨m,⟨n,o⟩|⟨g,p,q,rfl,i,k,s,t,u,l⟩⟩:=h
 .grind
 .refine⟨_,_,U,λj r c=>⟨g,U,i,?_⟩⟩;have x:=(Õ.1 c).1;have d:(nQ jJ)[j]?=Â (Ã<|Â ⟨r,0,Á⟩):=by simp[nQ,c]
  rw[<-l,List.getElem?_take_of_lt Z]at d;simp only[à,k,ö,ì,if_false];simpa using d
def abV(h:ff n (oG zQ++[z]) T w)(a:i<zQ.length):w.cell? ⟨n,i,Á⟩=Â (Å É<|zQ.getD i 0):=h.r i _<|Uo a z
def abW(h:ff i (oG zQ++[z]) T w)(a:zQ.length=n):w.cell? ⟨i,n,Á⟩=Â z:=h.r n _<|by rw[<-a];exact DZ zQ z
def ar1{r:PR}(h:wm i n r w):yk n r w:=by
 let⟨x,tb,e,l,y,b⟩:=h.I;refine⟨λa c=>abV e (by rwa[h.C]),?_⟩;obtain⟨m,o,rfl,p⟩:=M7 l;refine⟨m,_,o,abW e h.C,b.r,λj t f=> ?_⟩;have g:j<tb.length:=by rw[b.r];exact(Õ.1 f).1
 let⟨s,u,z,v⟩:=p j tb[j]<|Ó g;let⟨_,_,k,d⟩:=b.I j tb[j] t (Ó g) f;exact⟨s,tb[j],u,v,⟨_,_,d⟩,λa c=>abV d (by rwa[k]),abW d k⟩
def ar2(h:D2 m v rs w):RQ rs v (λi=>m<=i/\i<w.heap.size) w:=by
 let⟨f,i,b,c⟩:=h;obtain⟨d,k,rfl,l⟩:=M7 b;refine⟨ar0 f,?_,d,k,by rw[c.I],λj p e=> ?_⟩
 .cases d with
  |none=>exact .nR _ _
  |some a=>
   have:=b.lt a.block (by rcases b.2 with⟨q,_⟩|⟨g,n,o,q,_⟩<;>(cases q;try rfl));exact abU this
 .have a:j<i.length:=by rw[c.I];exact(Õ.1 e).1
  let⟨g,q,o,n⟩:=l j i[j]<|Ó a;exact⟨g,i[j],q,n,ar1<|c.M j i[j] p (Ó a) e⟩
end
def abX(B:ByteArray)(z:Ñ)(u:Í):Prop:=∃v,z=ë #[v,Å É (gK B).1,Å É (gK B).2.1]/\((gK B).1=0->∃a,RQ (gK B).2.2 v a u)
def ar3(B:ByteArray):wV (abX B):=λv u T D h=>by let⟨x,a,b⟩:=h;refine⟨x,a,λe=> ?_⟩;let⟨U,c⟩:=b e;exact⟨U,c.r λ_ _=>rfl⟩
def abY{l:e9}(f:gu l)(s:¬l.q)(t:nB<=l.w.heap.size)(u:B.size<=ī)(m:Bool)(h:Ē)(k:List Ē): fq.fg À m (λa n=>jA l a/\a.d=l.d/\∃v,n=G (h.finish<|ë #[v,Å É (gK B).1,Å É (gK B).2.1]) k/\((gK B).1=0->∃V,RQ (gK B).2.2 v V a.w/\∀b,V b->a.O b/\l.w.heap.size<=b)) l (G (è À 36 #[Ä B] Ą)<|h::k):=by
 let⟨X,c,C,V⟩:=zD 36 fM;have D:∀T,Ò À 36 #[Ä B] (World.tp (ll (λj=>False/\¬(mg l).O j) l.w) T 0) fun|Æ v,j=>abX B v j/\ko j|_,_=>False:=λT=>by refine(arU u).mono ?_;rintro e p ⟨g,v,rfl,i,o⟩;exact⟨⟨v,U,λe=>⟨_,ar2<|i e⟩⟩,g.gT Gl⟩
 refine((FF yv M1 zD (ar3 B) fM C V (FG f) s (λb q=>q.elim) ⟨λb q=>q.elim,t⟩ (λg q=>by cases q) (pQ λv g=>by simp at g;subst g;exact .kJ B) D m h k).mg f).fN ?_;rintro a n ⟨x',⟨Y,j,v,v',_,E,F,⟨v0,rfl,o⟩,H,I,_,J⟩,rfl,K,L,_,_⟩;cases F with
 |@nS _ cs'' hs mG=>
  let⟨M⟩:=cs'';match M,hs with
  |[x,y,z],_=>
   have g:=mG 0 fi fi;have p:=mG 1 fi fi;have r:=mG 2 fi fi;simp at g p r;cases p;cases r;refine⟨K,J,x,H,λe=> ?_⟩;let⟨U,N⟩:=o e;refine⟨_,arX E g (N.r λ_ _=>rfl),λb V=> ?_⟩;let⟨i,_,P⟩:=V;let⟨Q,S⟩:=I i b P;have W:l.w.heap.size<=b:=S.elim (λq=>q.elim) λq=>q.elim (λq=>q.elim) id;refine⟨È (Q.resolve_right λq=> ?_),W⟩;rw[L]at q;have:=f.fv b q;omega
end Go.Proofs.Y.kH
namespace Go.Proofs.Y.gw
open Go Go.Proofs Go.RowKit Go.Proofs.Y.Lift
def D4:List Ñ:=iu (kj 8)++[Ç Á 0 0,Å É 0,Ç Á 0 0]
def ar4(w:Í):Ò À 44 #[] w λe a=>∃c B,e=Æ (Ç (Â ⟨c,0,Á⟩) 1 1)/\ff B D4 147 a/\ff c [Ã<|Â ⟨B,0,Á⟩] 136 a/\e8 (λ_=>False) w a:=by
 have d:(iu<|kj 8).length=144:=su _;have i:(iu (kj 8)++[Ç Á 0 0]).length=145:=by rw[Ù,d];rfl
 have f:=fc<|Ê d i;unfold D4;have j:=fc λW=>aod W;generalize kj 8=s at*;go_enter Tryz.func44,Tryz.ntmps44;go_wp2_with (first
  |(go_at_call 60;refine(j.out _).mono ?_;rintro e W ⟨rfl,b⟩;have k:=fc b;clear b)
  |(with_reducible refine Ď U (Â 2) U _ _ (Tv U U f.out.1) ?_)
  |(with_reducible refine Ď U (Â 3) U _ _ (aov U U f.out.2) ?_)
  |(with_reducible refine Ď U (Â 4) U _ _ (Z' U U) ?_))
 have g:=ff.N (W.alloc<|Û (iu s++[Ç Á 0 0,Å É 0,Ç Á 0 0]).toArray 147) [Ã<|Â ⟨W.heap.size,0,Á⟩] 136;have h:=e8.gE (λ_=>False) (W.alloc<|Û (iu s++[Ç Á 0 0,Å É 0,Ç Á 0 0]).toArray 147) #[Ã<|Â ⟨W.heap.size,0,Á⟩] 136;have l:(W.alloc<|Û (iu s++[Ç Á 0 0,Å É 0,Ç Á 0 0]).toArray 147).heap.size=W.heap.size+1:=fi
 rw[l]at g;have b:=fc (Ê ((ff.N W (iu s++[Ç Á 0 0,Å É 0,Ç Á 0 0]) 147).I h id)<|Ê g<|(k.out.fe<|e8.gE (λ_=>False) W (iu s++[Ç Á 0 0,Å É 0,Ç Á 0 0]).toArray 147).fe h);go_ret;exact⟨W.heap.size+1,W.heap.size,U,b.out.1,b.out.2.1,b.out.2.2⟩
def ar5(n:Int)(j:1<=n)(k:n<=8)(w:Í):Ò À 35 #[Å É n] w λe b=>∃g a B,e=Æ (ë #[Ã<|Â ⟨g,0,Á⟩,Å É 0])/\ff g [Å É n,Ç (Â ⟨a,0,Á⟩) 1 1] 68 b/\ff B D4 147 b/\ff a [Ã<|Â ⟨B,0,Á⟩] 136 b/\e8 (λ_=>False) w b:=by go_enter ζ,Tryz.ntmps35;go_wp2_with (go_at_call 44;refine(ar4 _).mono ?_;rintro e c ⟨a,B,rfl,f,h,i⟩;have d:=fc<|Ê f<|Ê h i;clear f h i);go_ret2;have f:=e8.gE (λ_=>False) c #[Å É n,Ç (Â ⟨a,0,Á⟩) 1 1] 68;exact⟨c.heap.size,a,B,U,ff.N c [Å É n,Ç (Â ⟨a,0,Á⟩) 1 1] 68,d.out.1.I f id,d.out.2.1.I f id,d.out.2.2.fe f⟩
end Go.Proofs.Y.gw
namespace Go.Proofs.Y.kH
open Go Go.Conc Go.Proofs Go.RowKit Go.Proofs.Y.Lift Go.Proofs.Y.gw Go.Proofs.Y.fq Go.Proofs.Y.nh
section
variable{Y:fl}{a:Nat->Prop}
def abZ:∀v∈D4,(∃k n,v=Å k n/\k≠ū)\/(∃p,v=Ä p)\/v=Ç Á 0 0:=λv k=>by
 unfold D4 at k;rcases â.1 k with q|q
 .rcases Uc _ v q with⟨n,rfl⟩|⟨p,rfl⟩
  .exact È ⟨_,_,U,A⟩
  .exact Ï<|È ⟨p,U⟩
 .simp at q;rcases q with rfl|rfl|rfl
  .exact Ï<|Ï U
  .exact È ⟨_,_,U,A⟩
  .exact Ï<|Ï U
def ab0:lE [gw.jw]:=⟨A,A,λv b=>by simp at b;subst b;exact⟨⟨(λp a=>by cases a),(λp a=>by cases a),Ø _,Ø _⟩,aaA,Ť _,show(0:Int)<1 by decide⟩⟩
def ar6(d:gw.ff n D4 147 w)(f:gw.ff i [Ã<|Â ⟨n,0,Á⟩] 136 w):RD [gw.jw] (Ç (Â ⟨i,0,Á⟩) 1 1) (λk=>k=i\/k=n) w:=by
 refine⟨[(n,gw.jw)],U,ab0,⟨_,1,1,U,æ _,⟨U,λj b v e=> ?_⟩⟩,?_,fh.kU (Y:=ln (λk=>k=i\/k=n) nB) ⟨⟨U,È U⟩,U,U⟩ 1 1⟩
 .cases j with
  |zero=>
   cases e;exact⟨_,0,U,f.r 0 _ U,(aow aaA<|by rwa[ő])⟩
  |succ j=>simp at e
 .rintro b (rfl|rfl)
  .refine⟨_,_,_,f,fi,pQ λv c=> ?_,fi,Ad λv c=> ?_,A,A⟩
   .simp at c;subst c;exact fh.j0 (Y:=ln (λk=>k=b\/k=n) nB) ⟨⟨U,Ï U⟩,U,U⟩
   .simp at c;subst c;rfl
  .refine⟨_,_,_,d,fi,pQ λv c=> ?_,by simp[D4],Ad λv c=> ?_,A,A⟩
   .rcases abZ v (by simpa using c)with⟨k,a,rfl,_⟩|⟨p,rfl⟩|rfl
    .exact .iC k a
    .exact .kJ p
    .exact .nR 0 0
   .rcases abZ v (by simpa using c)with⟨k,a,rfl,g⟩|⟨p,rfl⟩|rfl
    .cases k<;>first|rfl|exact absurd U g
    .rfl
    .rfl
def Gz(b:Nat)(n:Int)(c:Ñ)(w:Í):Prop:=∃a,w.heap[b]?=Â (Û #[Å É n,c] 68 a)/\a=(0,0)
def Gz.r(h:Gz i c v w)(k:W.heap[i]?=w.heap[i]?):Gz i c v W:=by let⟨a,b,d⟩:=h;exact⟨a,k.trans b,d⟩
def ar7(h:jh Y a u w)(g:∀b,¬a b)(q:Y i j)(k:gw.ff i [Å É c,v] 68 u):∃l,fh Y v l/\Gz j c l w:=by
 let⟨d,r,e,D,s,m,t,z,_,B,_⟩:=h.r i j q;unfold gw.ff at k;rw[k]at m;cases m;have f:=z.N<|g j;let⟨C⟩:=r;match C,f.r with
 |[x,y],_=>
  have o:=f.C 0 fi fi;have p:=f.C 1 fi fi;simp at o p;cases o;exact⟨y,p,s,t,(B<|g j).symm⟩
end
def ab1(n:Int)(z:Ñ)(u:Í):Prop:=∃a b B,z=ë #[Ã<|Â ⟨a,0,Á⟩,Å É 0]/\gw.ff a [Å É n,Ç (Â ⟨b,0,Á⟩) 1 1] 68 u/\RD [gw.jw] (Ç (Â ⟨b,0,Á⟩) 1 1) (λi=>i=b\/i=B) u/\a≠b/\a≠B
def ar8(n:Int):wV (ab1 n):=λv u T D h=>by let⟨b,c,B,d,e,a⟩:=h;exact⟨b,c,B,d,e,a.1.r λ_ _=>rfl,a.2⟩
def ar9{l:e9}(p:gu l)(K:¬l.q)(L:nB<=l.w.heap.size){n:Int}(M:1<=n)(N:n<=8)(C:Bool)(r:Ē)(s:List Ē): fq.fg À C (λf D=>jA l f/\f.d=l.d/\∃a e,D=G (r.finish<|ë #[Ã<|Â ⟨a,0,Á⟩,Å É 0]) s/\Gz a n e f.w/\f.O a/\l.w.heap.size<=a/\∃V,RD [gw.jw] e V f.w/\¬V a/\∀b,V b->f.O b/\l.w.heap.size<=b) l (G (è À 35 #[Å É n] Ą)<|r::s):=by
 let⟨fn,c,P,t⟩:=zD 35 fM;have Q:∀T,Ò À 35 #[Å É n] (World.tp (ll (λj=>False/\¬(mg l).O j) l.w) T 0) fun|Æ v,h=>ab1 n v h/\ko h|_,_=>False:=λT=>by refine(ar5 n M N _).mono ?_;rintro e z ⟨a,k,B,rfl,V,m,o,g⟩;exact⟨⟨a,k,B,U,V,ar6 m o,gw.ff.S V o A,gw.ff.S V m A⟩,g.gT Gl⟩
 refine((FF yv M1 zD (ar8 n) fM P t (FG p) K (λb q=>q.elim) ⟨λb q=>q.elim,L⟩ (λg q=>by cases q) (pQ λv e=>by simp at e;subst e;exact .iC _ _) Q C r s).mg p).fN ?_;rintro f D ⟨u,⟨Y,h,v,v',_,g,S,⟨a,k,B,rfl,V,m,o,W⟩,X,q7,_,q6⟩,rfl,ha,hR,_,_⟩;have E:∀i j,Y i j->(re l u).O j/\l.w.heap.size<=j:=λi j e=>by let⟨z,F⟩:=q7 i j e;have H:l.w.heap.size<=j:=F.elim (λq=>q.elim) λq=>q.elim (λq=>q.elim) id;refine⟨È (z.resolve_right λq=> ?_),H⟩;rw[hR]at q;have:=p.fv j q;omega
 cases S with
 |@nS _ cs'' hs mG=>
  let⟨ls⟩:=cs'';match ls,hs with
  |[x,y],_=>
   have F:=mG 0 fi fi;have H:=mG 1 fi fi;simp at F H;cases H;obtain⟨a2,rfl,m3⟩:=NZ F;obtain⟨I,rfl,z⟩:=Ab m3;have h2':RD [gw.jw] (Ç (Â ⟨k,0,Á⟩) 1 1) (λi=>i=k\/i=B) {h with tape:=u.w.tape,drawn:=u.w.drawn}:=m.r λ_ _=>rfl;let⟨tA,J,e2⟩:=ar7 g (λj q=>q.1) z V;let⟨vs,k1,k2,k3,k4,k5⟩:=h2';let⟨vs',n1,n2⟩:=JQ (Ae g) J k3;let⟨p1,p2⟩:=E a I z;refine⟨ha,q6,I,tA,X,e2,p1,p2,_,⟨vs',n1.trans k1,k2,n2,Ud g k4,N4 J k5⟩,?_,λb t=> ?_⟩
   .rintro⟨i,hi,e⟩;have:=g.C.2.1 _ _ _ z e;subst this;exact hi.elim o W
   .let⟨i,_,e⟩:=t;exact E i b e
end Go.Proofs.Y.kH
namespace Go.Proofs.Y.kH
open Go Go.Conc Go.Proofs Go.RowKit Go.Proofs.Y.Lift Go.Proofs.Y.gw Go.Proofs.Y.fq Go.Proofs.Y.nh
structure u5(an:Nat)(xs:List ByteArray)(w:Í):Prop where
 r:∀(p:Nat) (x:ByteArray),xs[p]?=Â x->w.cell? ⟨an,p,Á⟩=Â (Ä x)
 C:w.cell? ⟨an,xs.length,Á⟩=Á
section
variable{an:Nat}{xs:List ByteArray}
theorem u5.rL(h:u5 an xs w)(j:0<xs.length):∃c e d,w.heap[an]?=Â (Û c e d)/\c.size=xs.length/\∀v∈c.toList,∃x,v=Ä x:=by
 have i:∀p,p<xs.length->w.cell? ⟨an,p,Á⟩=Â (Ä xs[p]!):=λp a=>h.r p _ (by simp[a]);have b:=i 0 j;have f:=h.C;simp only[à]at b f;cases g:w.heap[an]? with
 |none=>rw[g]at b;cases b
 |some o=>
  cases o<;>rw[g]at b f<;>simp only[ö,ì,if_false]at b f<;>first|cases b|skip
  rename_i c e d;have k:c.size<=xs.length:=by grind
  have l:=λp a=>by have:=i p a;simp only[à,g,ö,ì,if_false]at this;exact this
  have m:xs.length<=c.size:=by grind
  refine⟨c,e,d,U,Nat.le_antisymm k m,λv n=> ?_⟩;let⟨p,a⟩:=ĕ n;have q:p<c.size:=by have:=(Õ.1 a).1;simpa using this
  have:=l p Z;rw[ķ]at a;rw[this]at a;cases a;exact⟨_,U⟩
end
def asa{l:e9}(o:gu l)(F:¬l.q)(H:nB<=l.w.heap.size)(h:u5 i vX l.w)(I:0<vX.length)(J:l.M i)(p:lA i=Ë)(f:kV l.w i=Â (0,0))(hn:vX.length<=1000)(K:B.size=1)(L:iK vX+vX.length<=140737488355328)(r:Bool)(k:Ē)(m:List Ē): fq.fg À r (λn s=>jA l n/\n.d=l.d/\s=G (k.finish<|Ä<|jb B vX) m) l (G (è À 38 #[Ç (Â ⟨i,0,Á⟩) vX.length vX.length,Ä B] Ą)<|k::m):=by
 let⟨fn,c,N,P⟩:=zD 38 fM;let⟨t,e,Q,y,b2,z⟩:=h.rL I;have C:(λj=>j=i/\¬(mg l).O j)=λj=>j=i:=by funext j;exact propext ⟨λq=>q.1,λq=>⟨q,id⟩⟩
 have S:∀T,Ò À 38 #[Ç (Â ⟨i,0,Á⟩) vX.length vX.length,Ä B] (World.tp (ll (λj=>j=i) l.w) T 0) fun|Æ v,E=>v=Ä (jb B vX)/\ko E|_,_=>False:=λT=>by
  refine(T8 U Z (æ _) K (λj v a=> ?_) L).mono ?_
  .unfold jq at a;rw[Ī]at a;obtain⟨x,b,rfl⟩:=ò.1 a;exact⟨i,0,U,by rw[œ];exact pS (È p)<|h.r j x b⟩
  .rintro e g ⟨rfl,b⟩;exact⟨U,b.gT Gl⟩
 have V:∀v∈t.toList,fh (qx (λj=>j=i) À.globals.size) v v:=λv a=>by obtain⟨x,rfl⟩:=z v a;exact .kJ x
 have X:fR (qx (λj=>j=i) À.globals.size) #[Ç (Â ⟨i,0,Á⟩) vX.length vX.length,Ä B] #[Ç (Â ⟨i,0,Á⟩) vX.length vX.length,Ä B]:=pQ λv a=>by
  have b:v=Ç (Â ⟨i,0,Á⟩) vX.length vX.length\/v=Ä B:=by simpa using a
  rcases b with rfl|rfl
  .exact fh.kU (Y:=qx (λj=>j=i) À.globals.size) ⟨⟨U,U⟩,U,U⟩ _ _
  .exact .kJ B
 have W:=FF yv M1 zD (λv u T D h=>h) fM N P (FG o) F (λb q=>Ï<|by rwa[q]) (by rw[C];refine⟨λb q=> ?_,H⟩;subst q;exact⟨t,e,Q,y,(by unfold kV at f;rw[y]at f;cases f;exact Ø _),pQ V,λ_=>⟨Z,(λq=>by rw[p]at q;cases q),λ_=>Ad λv a=>by obtain⟨x,rfl⟩:=z v a;rfl⟩⟩) (λg q=>by cases q) X (by rwa[C]) r k m;refine(W.mg o).fN ?_;rintro n s ⟨D,⟨Y,E,v,v',_,_,b,rfl,g,_,_,u⟩,rfl,x,_,_,_⟩;cases b;exact⟨x,u,g⟩
end Go.Proofs.Y.kH
namespace Go.Proofs.Y.fq
open Go Go.Conc Go.Proofs.Y.Lift
open Go.ConcN (sumTo sumTo_congr)
def UE(P:ω)(a:Ñ->Í->Prop):Jd:=λl g=>g.status=.running/\∃v,(∀w,stepG P Î g w=.ended (.done v) w)/\a v l.w
section
variable{Y:Nat->Prop}{e:Nat->e9}
def kF.nj{J:Jd}{T:gq}(c:kF P Y zX i J T D e E w qJ){sl:Option (Nat×Nat)}(k:vQ v u):Ξ P vQ (Į E w sl) (.done v) u qJ:=by
 have C:=c.r.r;have f:∀a g,E[a]?=Â g->a≠0->QuitsD P (D a) (Deaf qJ a) g:=λa g b d=>by
  let⟨g0,j,h,_,_⟩:=c.r.C a g b;obtain rfl:g=g0:=by cases h;rfl
  simp only[d,if_false]at j;rw[C.f a<|(á.1 b).1];exact j _<|fF.fU _ _
 refine⟨v,U,k,C.l,c.N,⟨λg l=> ?_,U⟩,λa g b d=>⟨D a,(f a g b d).hears _⟩⟩;let⟨j,h⟩:=ĕ l;rw[List.getElem?_drop]at h;exact⟨_,(f (1+j) g (by rwa[<-ķ]) Z).leaves⟩
theorem asb{J:Jd}{T:gq}{l:e9}(u:l.w=W)(v:l.d=0)(m:¬l.q)(n:∀b,¬l.I b)(r:∀a,¬l.r a)(o:∀a,¬l.N a)(y:∀a,¬l.K a)(z:∀b,l.O b->b<W.heap.size)(B:g.status=.running)(C:lh P Î J T l g):si P (λ_=>False) 0 J T (λ_=>0) (λ_=>l) #[g] W #[]:=by
 have f:∀(p:Nat) a,touchAt #[] p=Â a->False:=λp a h=>by unfold touchAt Trace.act? at h;simp at h
 refine⟨fi,⟨⟨λi j s D E=> ?_,λi j s D E=> ?_,λi _ b _=>n b,λi _ a _=>o a,λ_ _ _ _=>id,λi _ a e=>e.elim (λq=>absurd q<|r a) λq=>absurd q<|o a,λi _ b F=>F.elim (z b) λq=>absurd q<|n b,λ_ h=>h.elim,λi _=>by rw[u];exact fF.fU _ _,λi _=>⟨λa e p x k=>(f p x k).elim,λa e=>(n _ e).elim,λa e=>(r a e).elim,λa e=>(o a e).elim⟩,λi _=>by rw[v];rfl,λH q=> ?_,λI G=>by simp at G,λp a c h=>(f p a h).elim,λi _ a e=>absurd e<|y a⟩,λi x k=> ?_,λj _=>rfl⟩,λi L s=> ?_,m,λp a h=>(f p a h).elim,λp a x h=>(f p a h).elim,λa _ q m=> ?_,?_⟩
 .grind
 .grind
 .let⟨i,j,_,⟨a,b,e,_⟩,_⟩:=q;simp[Trace.act?]at e
 .have t:i<1:=(á.1 k).1;obtain rfl:i=0:=Z
  obtain rfl:g=x:=by simpa using k
  exact⟨g,C,.gi,È B,È U⟩
 .grind
 .simp[Trace.act?]at m
 .intro i g t;simp[Trace.g?]at t
end
end Go.Proofs.Y.fq
namespace Go.Proofs.Y.kH
open Go Go.Conc Go.Proofs Go.RowKit Go.Proofs.Y.Lift Go.Proofs.Y.gw Go.Proofs.Y.fq Go.Proofs.Y.nh
open Go.ConcN (sumTo)
def Ai(f:Ñ->Í->Prop)(c:Array Ċ)(w:Í)(d:Option (Nat×Nat))(t:Ž):Prop:=
 ∃N a v b e,ſ À (N+1) (Į c w d) t=(.ended (.done v) b,e)/\runN À N (Į c w d)=.next a/\step À a=.ended (.done v) b/\Ξ À f a (.done v) b e
section
variable{f:Array Ċ}{w':Í}{sl e:Option (Nat×Nat)}{t:Ž}{l:e9}
def Ai.fN{a:Ñ->Í->Prop}(h:Ai vQ E w sl t)(b:∀v u,vQ v u->a v u):Ai a E w sl t:=by let⟨M,c,v,x,d,e,f,g,i⟩:=h;exact⟨M,c,v,x,d,e,f,g,i.mono λv q=>b v x q⟩
def Ai.re{N:Nat}(r:ſ À N (Į E w sl) t=(.next<|Į f w' e,qJ))(h:Ai vQ f w' e qJ):Ai vQ E w sl t:=by
 let⟨M,a,v,x,b,c,d,g,i⟩:=h;refine⟨N+M,a,v,x,b,?_,?_,g,i⟩
 .rwa[Nat.add_assoc,runNT_add,r]
 .rw[<-Ţ À (N+M) (Į E w sl) t,runNT_add,r];rwa[Ţ]
def sK(vQ:Ñ->Í->Prop)(E:Array Ċ)(w:Í)(sl:Option (Nat×Nat))(t:Ž):Prop:=Ai (λv u=>vQ v u/\u.os=w.os/\u.output=w.output) E w sl t
def sK.r{N:Nat}(r:ſ À N (Į E w sl) t=(.next<|Į f w' e,qJ))(a:w'.os=w.os/\w'.output=w.output)(h:sK vQ f w' e qJ):sK vQ E w sl t:= Ai.re r<|h.fN λ_ _ q=>⟨q.1,q.2.1.trans a.1,q.2.2.trans a.2⟩
def kF.asc{Y:Nat->Prop}:∀(s:Nat) (h:Nat->Nat) (j:Nat->e9) (E:Array Ċ) (w:Í) (sl:Option (Nat×Nat)) (t:Ž),sumTo E.size h=s->kF À Y zX n (UE À vQ) .fy h j E w t->sK vQ E w sl t:=by
 intro s
 induction s using Nat.strongRecOn with
 |_ s r=>
  intro h j E w sl t I c;have J:=c.C;obtain⟨g0,a⟩:∃g,E[0]?=Â g:=⟨_,å Z⟩;have o:∀d,UE À vQ {j 0 with w:=w.at d} g0:=λd=>by
   let⟨u,b,k,_,_⟩:=(c.I d).r.C 0 g0 a;obtain rfl:g0=u:=by cases k;rfl
   exact b (w.at d)<|(c.I d).r.r.r 0 Z
  obtain⟨i,g,d,e,l,x,m⟩:=crowd_pick c.LJ ⟨0,g0,a,(o 0).1⟩;by_cases p:i=0
  .subst p;rw[a]at l;obtain rfl:=ag l;let⟨_,v,q,y⟩:=o d;have u:stepT À (Į E w sl)=(.ended (.done v)<|w.at d,#[]):=by
    rw[m,ConcN.runT_crowd_ended a<|q<|w.at d];rfl
   refine⟨0,Į E w sl,v,w.at d,t,?_,U,?_,c.nj ⟨y,U,U⟩⟩
   .simp[ſ,u]
   .have:=stepT_fst À (Į E w sl) Î;rw[<-this];rw[u]
  .let⟨q,y,f,u,b,k,K,L,z⟩:=(c.I d).Z0 (sl:=e) l p x;let⟨N,B,v,w',qJ,C,D,F,G⟩:=r (sumTo f.size q) (by rw[k];omega) q y f (w.at d) e (t++u) U z;refine⟨N+1,B,v,w',qJ,by simp only[ſ,m,b];exact C,?_,F,G⟩;have:=Ţ À (N+1) (Į E w sl) t;rw[<-this];simp only[ſ,m,b];rwa[Ţ]
structure gL(l:e9):Prop where
 r:gu l
 d:l.d=0
 q:¬l.q
 rd:∀b,¬l.I b
 I:∀a,¬l.r a
 M:∀a,¬l.N a
 k:∀a,¬l.K a
def gL.C(h:gL l){w₁:Í}(r:fF l l.w w₁):gL {l with w:=w₁}:= ⟨⟨h.r.c,h.r.Y,h.r.N,λb q=>Ġ (h.r.fv b q) r.r,λa q=>q.elim (λz=>(h.I a z).elim) λz=>(h.M a z).elim,λa q=>(h.k a q).elim⟩,h.d,h.q,h.rd,h.I,h.M,h.k⟩
def iL(vQ:Ñ->Í->Prop)(l:e9)(g:Ċ):Prop:=
 gL l->g.status=.running->∀(a:Loc->Prop) (H:Nat) (J:Jd) (c:Nat->Nat) (b:Nat->e9) (E:Array Ċ) (sl:Option (Nat×Nat)) (t:Ž),vU a H l->fq.si À a H J .fy c b E l.w t->(b 0).d=0->E[0]?=Â g->sK vQ E l.w sl t
def ase{a:e9}(h:vU zX i l)(k:rp l a l.w a.w):vU zX i a:= ⟨h.r,λb c x d q=>by
  rcases k.N b c with z|z
  .exact h.fj b z x d q
  .have:=h.r x q;have:=h.C;omega,Ì h.C k.r⟩
def UF{J f:Jd}{e:Nat->e9}(a:gL l)(h:g.status=.running)(j:vU zX i l)(c:fq.si À zX i J .fy D e E l.w t)(m:(e 0).d=0)(n:E[0]?=Â g)(W:fq.fg À Î f l g):∃T,fq.si À zX i f T D (fq.vp e l) E l.w t:=by let⟨T,o⟩:=jl W;exact⟨T,kF.Y c m n h U a.d a.q a.rd a.I a.M a.k (λb q=>⟨a.r.fv b<|È q,j.fj b q⟩) o⟩
def ab2{Y:Nat->Prop}{J:Jd}{a:Nat->e9}(c:kF À Y zX i J .fy D a E w t):∃g,E[0]?=Â g/\J {a 0 with w:=w} g:=by
 obtain⟨g0,b⟩:∃g,E[0]?=Â g:=⟨_,å c.C⟩;let⟨d,e,f,_,_⟩:=c.r.C 0 g0 b;obtain rfl:g0=d:=by cases f;rfl
 exact⟨g0,b,e w<|c.r.r.r 0 c.C⟩
def J6(vQ:Ñ->Í->Prop):Jd:=λl g=>gL l/\g.status=.running/\iL vQ l g
def asf{b:Nat->e9}{T:gq}(m:(b 0).w=w)(n:vU zX i (b 0))(c:fq.si À zX i (J6 vQ) T D b E w t):sK vQ E w sl t:=by let⟨N,o,p,f,w',e,qJ,r,_,a,j⟩:=kF.G (λl g h=>È h.2.1) T _ D b E w sl t U c;let⟨v,q,h,s,u⟩:=ab2 j;refine sK.r r ⟨a.C,a.I⟩<|u h s zX i (J6 vQ) o p f e qJ ?_ j h.d q;apply ase n;rw[m];exact⟨a.r,a.N,a.rd,a.S,a.b,a.k,a.jT,a.M,a.Y,a.C,a.I,a.c⟩
def mA(W:fq.fg À Î (J6 vQ) l g):iL vQ l g:=by intro b d i H J j k E sl t a c e f;let⟨T,h⟩:=UF b d a c e f W;exact asf (by rw[fq.Sw]) (by rwa[fq.Sw]) h
def ab3(W:fq.fg À Î (UE À vQ) l g):iL vQ l g:=by intro b d s H J i u E sl t j c k m;let⟨T,n⟩:=UF b d j c k m W;let⟨N,o,p,f,w',e,qJ,r,_,a,q⟩:=kF.G (λl g h=>È h.1) T _ i _ E l.w sl t U n;exact sK.r r ⟨a.C,a.I⟩<|kF.asc _ o p f w' e qJ U q
def Af.N{e:we}{R:Nat}{kd:Nat->Int}{f:List fH}{c:e9}(h:Af X e R kd f l i v c)(r:fF c c.w u):Af X e R kd f l i v {c with w:=u}:=by have a:=λb q=>r.I b<|È q;let⟨V,j,g⟩:=h.S;exact⟨λb q=>⟨(h.M b q).1,(a b (h.M b q).1).trans (h.M b q).2⟩,⟨h.r.1,λp k=>(gM<|a i h.r.1).trans<|h.r.2 p k⟩,⟨V,j.r λb q=>a b (g b q).1,g⟩,h.d,h.q,h.rd,h.C,(gM<|a i h.r.1).trans h.I.1,(wY<|a i h.r.1).trans h.I.2⟩
def asg{kd:Nat->Int}{bt:we}{V0 h:Nat->Prop}{s0:List fH}{B:Option ü}{I:Option ü}{R:Nat}{C:Ē}{z:Array ĝ} (IU:0<R->I=Â ⟨j7,0,Á⟩) (CZ:0<R->l.M j7) (IV:∀i,i<R->l.w.cell? ⟨j7,i,Á⟩=Â (Ã<|Â ⟨D i,0,Á⟩)) (IW:∀i,i<R->l.w.cell? ⟨D i,4,Á⟩=Â (Å É<|kd i)) (K:JX l bt kd D R X) (hZ:(∀b,X b->h b)/\∀b,b=1\/b=2\/b=3\/b=4->h b) (hZO:∀b,h b->l.O b) (hVZ:∀b,V0 b->h b) (Dc:RD s0 (Ç B j j9) V0 l.w) (hn:1<=n) (hs:n+R<1000) (hJ:∀o v p m c,gL o->Af h bt R kd s0 l v (Ç p m c) o->iL vQ o (G (C.at (y.put ((z[i]?).bind (·.dst))<|ë #[Ç (Â ⟨v,0,Á⟩) R R,Ç p m c])<|Ð z jJ::L) qX)): iL vQ l (Fy (Ç B j j9) (Ç I R j6) n<|C.at y (Ð z (i::jJ)::L)::qX):=by
 intro s hr jm H J lv lot E sl t N7 c hd P;have W:fq.fg À Î (MN kd D R n (Ç B j j9) l<|C.at y (Ð z (i::jJ)::L)::qX) l (Fy (Ç B j j9) (Ç I R j6) n<|C.at y (Ð z (i::jJ)::L)::qX):= ajR s.r s.q s.d Z IU CZ IV (λi P=>È<|K.fj _<|K.r i P) IW λg S o u x F v T V Y bw bf v1 h1 h2=>⟨g,S,u,x,F,v,T,V,Y,bw,bf,v1,h1,h2,U⟩;let⟨T,c'⟩:=UF s hr N7 c hd P W;let⟨N,jC,I9,f,w',e,qJ,r,_,x,c''⟩:=kF.G (λlx gx S=>by obtain⟨_,_,_,_,_,_,_,_,_,_,_,_,_,_,rfl⟩:=S;exact È U) T _ lv _ E l.w sl t U c';apply sK.r r ⟨x.C,x.I⟩;let⟨N2,ash,V,T2,MO,SC,gs2,w2,MP,t2,r2,io2,c2⟩:=aqs (J:=λu V o F=>vU u V o/\J6 vQ o F) U c'' e s.r s.rd s.q s.d N7 K hZ hZO hVZ Dc ⟨x.C,x.I⟩ hn hs λFD H' o v p m c Y z2 u=> .fy λw₁ F=>by have lk:gL o:=⟨z2,u.d,u.q,u.rd,u.C.1,u.C.2.1,u.C.2.2⟩;exact⟨⟨Y.r,Y.fj,Ì Y.C F.r⟩,lk.C F,U,hJ _ v p m c (lk.C F)<|u.N F⟩
 apply sK.r r2 ⟨io2.1.trans x.C.symm,io2.2.trans x.I.symm⟩;let⟨N3,Nh,asi,gs3,w3,sl3,t3,r3,_,wn3,c3⟩:=kF.G (λlx gx S=>È S.2.2.1) T2 _ MO SC gs2 w2 MP t2 U c2;apply sK.r r3 ⟨wn3.C,wn3.I⟩;let⟨g3,UG,p7,S,hr3,hs3⟩:=ab2 c3;exact hs3 S hr3 ash V _ Nh asi gs3 sl3 t3 p7 c3 S.d UG
end
end Go.Proofs.Y.kH
namespace Go.Proofs.Y.kH
open Go Go.Conc Go.Proofs Go.RowKit Go.Proofs.Y.Lift Go.Proofs.Y.gw Go.Proofs.Y.fq Go.Proofs.Y.nh
open Go.Conc.Lib Go.ConcR.Gen Go.Proofs.YtgpphkdoanciiaaGreatDoor
def toTx(t:PT):Tx:=⟨(t.c.getD 0 0).toNat,(t.c.getD 1 0).toNat,t.c.getD 2 0,t.c.getD 3 0,t.c.getD 4 0,t.p⟩
def toQn(r:PR):Qn:=⟨(r.c.getD 0 0).toNat,(r.c.getD 1 0).toNat,(r.c.getD 2 0).toNat,(r.c.getD 3 0).toNat,r.c.getD 4 0,r.c.getD 5 0,r.c.getD 6 0,(r.c.getD 7 0).toNat⟩
def pd:PR:=⟨[],[]⟩
def wv(a:List PR):we where
 r:=λp=>((a.getD p pd).c.getD 5 0,((a.getD p pd).c.getD 0 0).toNat,(a.getD p pd).r.map toTx)
 C:=λp=>toQn<|a.getD p pd
def kS(a:List PR)(p:Nat):Int:=(a.getD p pd).c.getD 4 0
section
variable{p:PR}{t:PT}{a:Nat}{rs:List PR}{l:e9}
theorem toTx_ok(h:oh t):(toTx t).Ok:=by have d:=h.c.r 0 A;have e:=h.c.r 1 A;have a:=h.c.r 2 A;have b:=h.c.r 3 A;simp only[lP]at d e a b;exact⟨by show(t.c.getD 0 0).toNat<8;omega,by show(t.c.getD 1 0).toNat<8;omega,a.1,a.2,b.1,b.2,h.p⟩
theorem Aj(a:0<=c)(h:w.cell? ⟨b,i,Á⟩=Â (Å É c)):w.cell? ⟨b,i,Á⟩=Â (Å É (c.toNat:Nat)):=by grind
theorem asj(h:oh t)(k:J5 a t w):lZ a (toTx t) w:=by have b:=h.c.r 0 A;have d:=h.c.r 1 A;simp only[lP]at b d;exact⟨k.r,Aj b.1<|k.c 0 A,Aj d.1<|k.c 1 A,k.c 2 A,k.c 3 A,k.c 4 A,k.p⟩
theorem asl(h:uW p)(k:yk i p w):DU i (p.c.getD 5 0) (p.c.getD 0 0).toNat (p.r.map toTx) w:=by
 have e:=h.c.r 0 A;simp only[lP]at e;let⟨f,n,g,l,m,o⟩:=k.b;let⟨r,s,u⟩:=wH (R:=λj t (y:Nat×Tx)=>y.2=toTx t/\∃d,f=Â ⟨d,0,Á⟩/\w.cell? ⟨d,j,Á⟩=Â (Ã<|Â ⟨y.1,0,Á⟩)/\J5 y.1 t w) p.r 0 λj t v=>by let⟨d,a,y,q,x⟩:=o j t v;simp_all
 refine⟨f,n,g,r,⟨Aj e.1<|k.c 0 A,k.c 5 A,l⟩,⟨by rw[m,s],λj a t q=> ?_⟩,?_,by have:=h.n;omega⟩
 .let⟨x,z,y,d,D,B,C⟩:=u j (a,t) q;simp only at y B C;subst y;have E:=h.C x<|ç z;grind [asj,toTx_ok]
 .refine Ŕ λj=> ?_;unfold lN;grind
def asn(h:uW p)(k:yk i p w):JU i (toQn p) w:=by have a:=h.c.r 0 A;have b:=h.c.r 1 A;have d:=h.c.r 2 A;have e:=h.c.r 3 A;have f:=h.c.r 7 A;simp only[lP]at a b d e f;exact⟨Aj a.1<|k.c 0 A,Aj b.1<|k.c 1 A,Aj d.1<|k.c 2 A,Aj e.1<|k.c 3 A,k.c 4 A,k.c 5 A,k.c 6 A,Aj f.1<|k.c 7 A⟩
def ab4(h:uW p)(k:p.c.getD 4 0≠1):(toQn p).Ok:=by
 have d:=h.c.r 0 A;have e:=h.c.r 1 A;have f:=h.c.r 2 A;have g:=h.c.r 3 A;have i:=h.c.r 4 A;have a:=h.c.r 5 A;have b:=h.c.r 6 A;have j:=h.c.r 7 A;simp only[lP]at d e f g i a b j;refine⟨?_,?_,?_,?_,?_,?_,a.1,b.1,?_⟩
 .show(p.c.getD 0 0).toNat<8;omega
 .show(p.c.getD 1 0).toNat<8;omega
 .show(p.c.getD 2 0).toNat<1000000;omega
 .show(p.c.getD 3 0).toNat<18446744073709551616;omega
 .show 2<=p.c.getD 4 0;omega
 .show p.c.getD 4 0<=9;omega
 .show(p.c.getD 7 0).toNat<16;omega
theorem aso(h:RQ rs v X l.w)(k:∀i∈rs,uW i)(B:mL l.w)(C:∀b,b=1\/b=2\/b=3\/b=4->l.O b)(m:∀b,X b->l.O b): ∃d e f g,v=Ç d rs.length e/\(0<rs.length->d=Â ⟨f,0,Á⟩)/\(0<rs.length->l.O f)/\(∀a,a<rs.length->l.w.cell? ⟨f,a,Á⟩=Â (Ã<|Â ⟨g a,0,Á⟩))/\(∀a,a<rs.length->l.w.cell? ⟨g a,4,Á⟩=Â (Å É<|kS rs a))/\JX l (wv rs) (kS rs) g rs.length X:=by
 obtain⟨o,D,rfl,E⟩:=h.M;have p:∀a,a<rs.length->rs[a]?=Â (rs.getD a pd):=λa d=>by simp[Ğ,d]
 have r:=λa d=>ç<|p a d;obtain⟨f,s⟩:∃f,∀a,a<rs.length->o=Â ⟨f,0,Á⟩:=by
  by_cases e:0<rs.length
  .let⟨j,i,q,_⟩:=E 0 _<|p 0 e;exact⟨j,λ_ _=>q⟩
  .simp_all
 have F:∀a,∃i,a<rs.length->l.w.cell? ⟨f,a,Á⟩=Â (Ã<|Â ⟨i,0,Á⟩)/\yk i (rs.getD a pd) l.w:=λa=>by grind
 let⟨g,j⟩:=Classical.axiomOfChoice F;have u:=λe=>by have:=h.I;rw[s 0 e]at this;exact DR this
 refine⟨o,D,f,g,U,λe=>s 0 e,λe=>m _<|u e,λa d=>(j a d).1,λa d=>(j a d).2.c 4 A,B,C,h.C,m,λa d=>(DL<|h.C.r (u Z) (j a d).1),λa d y=> ?_,λa d y=> ?_⟩
 .have q:=k _<|r a d;have e:=q.c.r 0 A;have z:=q.c.r 5 A;simp only[lP]at e z;refine⟨asl q (j a d).2,?_,z.1,λt G=> ?_,?_⟩
  .show((rs.getD a pd).c.getD 0 0).toNat<8;omega
  .obtain⟨x,H,rfl⟩:=Ú.1 G;exact toTx_ok<|q.C x H
  .show((rs.getD a pd).r.map toTx).length<=1000;rw[ù];have:=q.n;omega
 .have q:=k _<|r a d;exact⟨asn q (j a d).2,ab4 q y⟩
end
theorem J7:(∀r∈(gK B).2.2,uW r)/\(gK B).2.2.length<=24:=by
 unfold gK;split
 .grind
 .split
  .unfold lQ;split
   .grind
   .have:=(Uy B.size 0 nP (Ux B)<|Ø _).1.d;exact⟨this.G,this.C⟩
  .grind
def kT(rs:List PR)(s:List fH):List ByteArray:=(ĳ rs.length).map λp=>wh (wv rs) (kS rs) p<|pT (wv rs) (gY (kS rs) rs.length) s<|fJ (kS rs) p
def wx(rs:List PR)(s:List fH):List fH:=pT (wv rs) (gY (kS rs) rs.length) s<|fJ (kS rs) rs.length
def lR(s:List fH)(B:ByteArray):ByteArray×Int×List fH:=
 if(gK B).1=0 then(jb ⟨#[59]⟩<|kT (gK B).2.2 s,0,wx (gK B).2.2 s)else(⟨#[]⟩,(gK B).1,s)
section
variable{b:Ē}{l:e9}{a:Ĉ}
def ab5{md:Ŀ}(I:Array Bool->Ĉ->e9->Prop) (o:∀c a l i k,I c a l->i∈ä md Q c->(∀f g,I (c.setIfInBounds i Î) f g->iL vQ g (G (b.at f<|Ð Q k::L) qX))->iL vQ l (G (b.at a<|Ð Q (i::k)::L) qX)) (m:∀c a l,I c a l->c.size=Q.size->ä md Q c=[]->iL vQ l (G (b.at a<|Ð Q []::L) qX)): ∀(d t:Nat) (c:Array Bool) (a:Ĉ) (l:e9),c.size=Q.size->ju c<=d->I c a l->iL vQ l (G (b.at a<|Ð Q (ć md Q d t c [])::L) qX):=by
 intro d
 induction d with
 |zero=>
  intro t c a l e p h;simpa[ć]using m c a l h e<|Rf e Z
 |succ d q=>
  intro t c a l e p h;simp only[ć];change iL vQ l (G (b.at a (Ð Q (match(ä md Q c)[t%(ä md Q c).length]? with
   |some i=>ć md Q d (t/(ä md Q c).length) (c.setIfInBounds i Î) [i]
   |none=>[].reverse)::L)) qX)
  cases j:(ä md Q c)[t%(ä md Q c).length]? with
  |none=>
   have r:ä md Q c=[]:=by
    cases s:ä md Q c with
    |nil=>rfl
    |cons x n=>
     rw[s]at j;have u:t%(x::n).length<(x::n).length:=Nat.mod_lt _ fi;simp at j;simp at u;omega
   simpa using m c a l h e r
  |some i=>
   simp only[];rw[linearise_go_acc,List.reverse_singleton,List.singleton_append];have n:=ç j;refine o c a l i _ h n λf g r=>(q _ _ f g (by simpa using e) (by have:=LP (Β.1 n).1;omega) r)
def asq{id:Nat}(I:Array Bool->Ĉ->e9->Prop)(e:gL l) (j:∀f,fF l l.w f->I (Ū Q.size Ë) a {l with w:=f}) (k:∀g c a l i m,I c a l->i∈ä g Q c->(∀n o,I (c.setIfInBounds i Î) n o->iL vQ o (G (b.at n<|Ð Q m::L) qX))->iL vQ l (G (b.at a<|Ð Q (i::m)::L) qX)) (p:∀g c a l,I c a l->c.size=Q.size->ä g Q c=[]->iL vQ l (G (b.at a<|Ð Q []::L) qX)): iL vQ l (G (b.at a<|ax (.region id Q Î)::L) qX):=by
 refine mA (.mk U λf r=>⟨_,_,_,_,stepG_region_draw,Re (lH e.r.r r) e.q,.fy λs d=> ?_⟩);have h:=r.fe ⟨d.r,d.I,d.N,d.Y,d.S⟩;refine⟨e.C h,U,?_⟩;unfold Region.schedule;split
 .exact ab5 I (k _) (p _) _ _ _ _ _ fi (by rw[E4];exact æ _)<|j s h
 .exact ab5 I (k _) (p _) _ _ _ _ _ fi (by rw[E4];exact æ _)<|j s h
def asr{I:Ĉ->e9->Prop}(W:fq.fg À Î (λa d=>∃c,d=G (b.at c<|Ð Q jJ::L) qX/\I c a) l g)(f:∀c a,I c a->gL a)(i:∀c a,I c a->iL vQ a (G (b.at c<|Ð Q jJ::L) qX)):iL vQ l g:= mA (W.fN λa d h=>by obtain⟨c,rfl,e⟩:=h;exact⟨f c a e,U,i c a e⟩)
def wy{f:FuncId}{fn:Func}(xs:List Value)(n:Nat)(hf:Tryz.prog.funcs[f]?=some fn)(hb:fn.body=some (kY fn []):=by kernel_rfl)(hn:fn.ntmps=xs.length+n:=by kernel_rfl):Frame.enter Tryz.prog f xs.toArray .normal=(base f).at ⟨(xs++List.replicate n undef).toArray,[]⟩ [.code<|kY fn []]:=by rw[enter_at _ hf hb,hn,ř,Nat.add_sub_cancel_left,show xs.toArray++Ū n ĸ=(xs++ą n ĸ).toArray from Array.ext' fi]
def wz{J:Jd}{f:Ρ}{args:Array Ñ}(d:Q[i]?=Â o)(e:đ o (Ι Q a.tmps)=Î)(g:b.kind≠.early)(h:jU l) (j:∀w,(ś a.eval o).run À w=.ok (.enter f args) w) (k:∀w,(ś a.eval o).events À w #[]=#[]) (m:∀c,fF l l.w c->fq.fg À Î J {l with w:=c} (G (è À f args Ą)<|b.at a (Ð Q (i::jJ)::L)::qX)): fq.fg À Î J l (G (b.at a<|Ð Q (i::jJ)::L) qX):=by refine .mk U λc r=>⟨G (è À f args Ą)<|b.at a (Ð Q (i::jJ)::L)::qX,c,#[],{l with w:=c},?_,LK c<|lH h r,m c r⟩;rw[stepG_enter d e g<|j c];unfold ay;rw[k c,seen_none]
def yl{f:Ρ}{args:Array Ñ}(e:gL l)(j:Q[i]?=Â o)(k:đ o (Ι Q a.tmps)=Î)(m:b.kind≠.early) (n:∀w,(ś a.eval o).run À w=.ok (.enter f args) w) (p:∀w,(ś a.eval o).events À w #[]=#[]) (q:∀d,fF l l.w d->iL vQ {l with w:=d} (G (è À f args Ą)<|b.at a (Ð Q (i::jJ)::L)::qX)): iL vQ l (G (b.at a<|Ð Q (i::jJ)::L) qX):= mA (wz j k m e.r.r n p λd r=> .fy λg c=>by have h:fF l l.w g:=r.fe ⟨c.r,c.I,c.N,c.Y,c.S⟩;exact⟨e.C h,U,q g h⟩)
def jA.xF{c:e9}(e:gL l)(h:jA l c)(k:c.d=l.d):gL c:=by
 have g:∀b,¬c.I b:=by rw[h.I];exact e.rd
 have f:∀a,¬c.r a:=by rw[h.N];exact e.I
 have i:∀a,¬c.N a:=by rw[h.Y];exact e.M
 have j:∀a,¬c.K a:=by rw[h.K];exact e.k
 exact⟨⟨λb _=>g b,λa q=>(f a q).elim,λa q=>q.elim (λz=>(f a z).elim) λz=>(i a z).elim,λb q=>q.elim (λz=>h.fv b z) λz=>(g b z).elim,λa q=>q.elim (λz=>(f a z).elim) λz=>(i a z).elim,λa q=>(j a q).elim⟩,k.trans e.d,by rw[h.q];exact e.q,g,f,i,j⟩
end
def J8:ĝ:=⟨Â 21,.move<|ň 0,26, "attic.go:46",#[],Á⟩
def J9:ĝ:=⟨Â 22,.nilCheck<|ň 21,0, "attic.go:46",#[⟨0,ĉ⟩],Á⟩
def Ka:ĝ:=⟨Â 23,.fieldAddr 68 (ň 22) 1,0, "attic.go:46",#[⟨1,ĉ⟩],Á⟩
def Kb:ĝ:=⟨Â 24,.load 65<|ň 23,65, "attic.go:46",#[⟨2,ĉ⟩],Á⟩
def Ke:ĝ:=⟨Â 25,.move<|ň 6,61, "attic.go:46",#[],Á⟩
def Kf:ĝ:=⟨Â 26,.move<|ň 0,26, "attic.go:46",#[],Á⟩
def Kg:ĝ:=⟨Â 27,.nilCheck<|ň 26,0, "attic.go:46",#[⟨5,ĉ⟩],Á⟩
def Kh:ĝ:=⟨Â 28,.fieldAddr 68 (ň 27) 0,0, "attic.go:46",#[⟨6,ĉ⟩],Á⟩
def Ki:ĝ:=⟨Â 29,.load 3<|ň 28,3, "attic.go:46",#[⟨7,ĉ⟩],Á⟩
def ym:ĝ:=⟨Â 30,.call {callee:=.value<|.func 37,args:=#[ň 24,ň 25,ň 29],argTypes:=#[65,61,3]},66, "attic.go:46",#[⟨3,ĉ⟩,⟨4,ĉ⟩,⟨8,ĉ⟩],Á⟩
def Ak:ĝ:=⟨Â 20,.move<|ň 30,66, "attic.go:46",#[⟨9,ĉ⟩],Á⟩
def D5:ĝ:=⟨Â 31,.extract (ň 20) 0,25, "attic.go:46",#[⟨10,ĉ⟩],Á⟩
def D6:ĝ:=⟨Â 32,.extract (ň 20) 1,65, "attic.go:46",#[⟨10,ĉ⟩,{on:=13,ground:=Ground.gcOnly Departure.lateStores}],Á⟩
def D7:ĝ:=⟨Â 9,.assign<|ň 31,25, "attic.go:46",#[⟨11,ĉ⟩,⟨9,.chain⟩,⟨0,ñ⟩,⟨1,ñ⟩,⟨2,ñ⟩,⟨3,ñ⟩,⟨4,ñ⟩,⟨5,ñ⟩,⟨6,ñ⟩,⟨7,ñ⟩,⟨8,ñ⟩,⟨9,ñ⟩,⟨10,ñ⟩,⟨11,ñ⟩,{on:=12,ground:=Ground.textOnly Departure.lateStores}],Á⟩
def D8:ĝ:=⟨Â 10,.assign<|ň 32,65, "attic.go:46",#[⟨12,ĉ⟩,⟨13,.chain⟩,⟨0,ñ⟩,⟨1,ñ⟩,⟨2,ñ⟩,⟨3,ñ⟩,⟨4,ñ⟩,⟨5,ñ⟩,⟨6,ñ⟩,⟨7,ñ⟩,⟨8,ñ⟩,⟨9,ñ⟩,⟨10,ñ⟩,⟨11,ñ⟩,⟨12,ñ⟩,⟨13,ñ⟩],Á⟩
def oH:Array ĝ:=#[J8,J9,Ka,Kb,Ke,Kf,Kg,Kh,Ki,ym,Ak,D5,D6,D7,D8]
noncomputable def UH:Τ:=kY Tryz.f17 [1,1,1,1]
structure ou(l:e9)(ab n:Nat)(s:List fH)(sl:Ñ)(V:Nat->Prop):Prop where
 r:mL l.w
 C:∀b,b=1\/b=2\/b=3\/b=4->l.O b
 Y:Gz ab n sl l.w
 fj:l.O ab
 rd:RD s sl V l.w
 S:∀b,V b->l.O b
 d:¬V ab
 a:1<=n
 c:n<=8
 I:¬(ab=1\/ab=2\/ab=3\/ab=4)
structure Oq(l l':e9)(ab n:Nat)(s':List fH)(V:Nat->Prop):Prop where
 vt:∀b,l.O b->b≠ab->l'.O b/\l'.w.heap[b]?=l.w.heap[b]?
 att:∃tA V',ou l' ab n s' tA V'/\∀b,V' b->V b\/(b=1\/b=2\/b=3\/b=4)\/l.w.heap.size<=b
section
variable{l d:e9}{ab:Nat}{s:List fH}{sl:Ñ}{V:Nat->Prop}
def ou.N{a:e9}(h:ou l ab n s sl V)(c:∀b,l.O b->a.O b)(d:∀b,l.O b->a.w.heap[b]?=l.w.heap[b]?)(e:l.w.heap.size<=a.w.heap.size):ou a ab n s sl V:= ⟨h.r.r (Ì h.r.fv e) λb q=>d b<|h.C b q,λb q=>c b<|h.C b q,h.Y.r<|d ab h.fj,c ab h.fj,h.rd.r λb q=>d b<|h.S b q,λb q=>c b<|h.S b q,h.d,h.a,h.c,h.I⟩
def ou.M(h:ou l ab n s sl V)(r:fF l l.w u):ou {l with w:=u} ab n s sl V:=h.N (λ_ q=>q) (λb q=>r.I b<|È q) r.r
def kl(ab:Nat)(n:Nat)(sl rs:Ñ)(x:Value×Value):Nat->Ñ
 |0=>Ã<|Â ⟨ab,0,Á⟩
 |1=>Ã<|Â ⟨ab,0,Á⟩
 |2=>Ã<|Â ⟨ab,1,Á⟩
 |3=>sl
 |4=>rs
 |5=>Ã<|Â ⟨ab,0,Á⟩
 |6=>Ã<|Â ⟨ab,0,Á⟩
 |7=>Ã<|Â ⟨ab,0,Á⟩
 |8=>Å É n
 |9=>ë #[x.1,x.2]
 |10=>ë #[x.1,x.2]
 |11=>x.1
 |12=>x.2
 |13=>x.1
 |14=>x.2
 |_=>ĸ
def wA(d:e9)(V:Nat->Prop)(rs:List PR)(s:List fH)(listed:Array Bool)(x:Value×Value)(l:e9):Prop:=
 gL l/\(listed.getD 9 Ë=Ë->gf (λ_=>False) d l)/\(listed.getD 9 Ë=Î->∃a e p m c,gf (λ_=>False) d a/\x=(Ç (Â ⟨e,0,Á⟩) rs.length rs.length,Ç p m c)/\Af (λb=>V b\/b=1\/b=2\/b=3\/b=4) (wv rs) rs.length (kS rs) s a e (Ç p m c) l)
def wA.j4{V:Nat->Prop}{a:List PR}{s:List fH}{listed:Array Bool}{x:Value×Value}(h:wA d V a s listed x l)(b:i≠9){w₁:Í}(r:fF l l.w w₁):wA d V a s (listed.setIfInBounds i Î) x {l with w:=w₁}:=by
 have e:(listed.setIfInBounds i Î).getD 9 Ë=listed.getD 9 Ë:=by simp[Array.getD_eq_getD_getElem?,Array.getElem?_setIfInBounds_ne b]
 refine⟨h.1.C r,λq=> ?_,λq=> ?_⟩
 .rw[e]at q;exact(h.2.1 q).G r
 .rw[e]at q;let⟨f,g,p,m,c,j,k,n⟩:=h.2.2 q;exact⟨f,g,p,m,c,j,k,n.N r⟩
theorem asu{D:Array Ñ}{I:List PR}(J:ou d ab n s sl V)(T:D.size=39)(W:D[0]?=Â (Ã<|Â ⟨ab,0,Á⟩))(Y:D[6]?=Â z) (md:Ŀ) (listed:Array Bool) (a:Ĉ) (l:e9) (i:Nat) (O:List Nat) (hI:II oH D (kl ab n sl z) (wA d X I s) listed a l) (p:i∈ä md oH listed) (F:i≠9): fq.fg À Î (λc e=>∃b,e=G ((base 17).at b<|Ð oH O::L) qX/\II oH D (kl ab n sl z) (wA d X I s) (listed.setIfInBounds i Î) b c) l (G ((base 17).at a<|Ð oH (i::O)::L) qX):=by
 let⟨x,g,H⟩:=hI;have t:qZ oH D.size=Î:=by rw[T];decide
 have K:=zh p;have u:=H.1.r.r;have y:=H.1.q;have P:=(g.C A).trans W;have Ot:=(g.C A).trans Y;have B:∀c,fF l l.w c->wA d X I s (listed.setIfInBounds i Î) x {l with w:=c}:=λc r=>H.j4 F r;let⟨fr,mG,_⟩:=J.Y;have early:∀m,m<15->listed.getD m Ë=Ë->(∃e,e∈ym.after/\e.on=m/\vB e=Î)->listed.getD 9 Ë=Ë:=λm _ hm ⟨e,h1,h2,h3⟩=>by
  cases q:listed.getD 9 Ë with
  |false=>rfl
  |true=>
   have:=g.Y 9 ym e U q h1 h3;rw[h2,hm]at this;cases this
 have ji:oH.size=15:=A
 rw[ji]at K;have Ew:listed.getD i Ë=Ë:=by have:=(Β.1 p).1;grind
 have S:∀{j v},(∃e,e∈ym.after/\e.on=i/\vB e=Î)->#[Å É n,sl][j]?=Â v->gX l ⟨ab,j,Á⟩/\l.w.cell? ⟨ab,j,Á⟩=Â v:=λq h=>by have b:=H.2.1<|early i K Ew q;exact⟨È<|b.M<|È J.fj,(gM<|b.r ab (È J.fj) id).trans<|by simp[à,mG,h]⟩
 match i,K,F with
 |9,_,F=>exact absurd U F
 |0,_,_=>
  exact ik (o:=J8) t g U U p (by k_ne) u y (λc r=>by simp only[kl,J8];go_simp) (λc r e f=>by simp[go_sem,J8,P]at f) B
 |1,_,_=>
  have b:=g.r 0 J8 21 U (ic p U U) U;simp only[kl]at b;exact ik (o:=J9) t g U U p (by k_ne) u y (λc r=>by simp only[kl,J9];go_simp) (λc r e f=>by simp[go_sem,J9,b]at f) B
 |2,_,_=>
  have b:=g.r 1 J9 22 U (ic p U U) U;simp only[kl]at b;exact ik (o:=Ka) t g U U p (by k_ne) u y (λc r=>by simp only[kl,Ka];go_simp) (λc r e f=>by simp[go_sem,Ka,b]at f) B
 |3,_,_=>
  have b:=g.r 2 Ka 23 U (ic p U U) U;simp only[kl]at b;let⟨C,E⟩:=S (j:=1) ⟨⟨3,ĉ⟩,by simp[ym],U,U⟩ U;refine ik (o:=Kb) t g U U p (by k_ne) u y (λc r=> ?_) (λc r e f=> ?_) B
  .have N:=(C.r r).trans E;simp only[kl,Kb];go_simp
  .have N:=(C.r r).trans E;simp[go_sem,Kb,b,N]at f;subst f;exact C.rd
 |4,_,_=>
  exact ik (o:=Ke) t g U U p (by k_ne) u y (λc r=>by simp only[kl,Ke];go_simp) (λc r e f=>by simp[go_sem,Ke,Ot]at f) B
 |5,_,_=>
  exact ik (o:=Kf) t g U U p (by k_ne) u y (λc r=>by simp only[kl,Kf];go_simp) (λc r e f=>by simp[go_sem,Kf,P]at f) B
 |6,_,_=>
  have b:=g.r 5 Kf 26 U (ic p U U) U;simp only[kl]at b;exact ik (o:=Kg) t g U U p (by k_ne) u y (λc r=>by simp only[kl,Kg];go_simp) (λc r e f=>by simp[go_sem,Kg,b]at f) B
 |7,_,_=>
  have b:=g.r 6 Kg 27 U (ic p U U) U;simp only[kl]at b;exact ik (o:=Kh) t g U U p (by k_ne) u y (λc r=>by simp only[kl,Kh];go_simp) (λc r e f=>by simp[go_sem,Kh,b]at f) B
 |8,_,_=>
  have b:=g.r 7 Kh 28 U (ic p U U) U;simp only[kl]at b;let⟨C,E⟩:=S (j:=0) ⟨⟨8,ĉ⟩,by simp[ym],U,U⟩ U;refine ik (o:=Ki) t g U U p (by k_ne) u y (λc r=> ?_) (λc r e f=> ?_) B
  .have N:=(C.r r).trans E;simp only[kl,Ki];go_simp
  .simp[go_sem,Ki,b,(C.r r).trans E]at f;subst f;exact C.rd
 |10,_,_=>
  have b:=g.r 9 ym 30 U (ic p U U) U;simp only[kl]at b;exact ik (o:=Ak) t g U U p (by k_ne) u y (λc r=>by simp only[kl,Ak];go_simp) (λc r e f=>by simp[go_sem,Ak,b]at f) B
 |11,_,_=>
  have b:=g.r 10 Ak 20 U (ic p U U) U;simp only[kl]at b;exact ik (o:=D5) t g U U p (by k_ne) u y (λc r=>by simp only[kl,D5];go_simp) (λc r e f=>by simp[go_sem,D5,b]at f) B
 |12,_,_=>
  have b:=g.r 10 Ak 20 U (ic p U U) U;simp only[kl]at b;exact ik (o:=D6) t g U U p (by k_ne) u y (λc r=>by simp only[kl,D6];go_simp) (λc r e f=>by simp[go_sem,D6,b]at f) B
 |13,_,_=>
  have b:=g.r 11 D5 31 U (ic p U U) U;simp only[kl]at b;exact ik (o:=D7) t g U U p (by k_ne) u y (λc r=>by simp only[kl,D7];go_simp) (λc r e f=>by simp[go_sem,D7,b]at f) B
 |14,_,_=>
  have b:=g.r 12 D6 32 U (ic p U U) U;simp only[kl]at b;exact ik (o:=D8) t g U U p (by k_ne) u y (λc r=>by simp only[kl,D8];go_simp) (λc r e f=>by simp[go_sem,D8,b]at f) B
end
def asv(x y:Ñ)(n:Nat)(a:List Ē):G (è À 37 #[x,y,Å É n] Ą) a=Fy x y n a:=by unfold Fy;rw[enter_at #[x,y,Å É n] η (c:=kY Tryz.f37 []) fp];kernel_rfl
section
variable{l g:e9}{s:List fH}{V:Nat->Prop}{d:List PR}
theorem asw{F:Array Ñ}(D:ou g i n s x V)(W:RQ d v X g.w)(M:∀b,X b->g.O b)(Y:∀r∈d,uW r)(LX:d.length<=24)(ht:F.size=39) (md:Ŀ) (listed:Array Bool) (a:Ĉ) (l:e9) (N:List Nat) (hI:II oH F (kl i n x v) (wA g (λb=>V b\/X b) d s) listed a l) (B:9∈ä md oH listed) (hn:∀P E,II oH F (kl i n x v) (wA g (λb=>V b\/X b) d s) (listed.setIfInBounds 9 Î) P E->iL vQ E (G ((base 17).at P<|Ð oH N::L) qX)): iL vQ l (G ((base 17).at a<|Ð oH (9::N)::L) qX):=by
 let⟨t,y,Q⟩:=hI;have Ew:=(Β.1 B).1;have h9s:9<listed.size:=by grind
 have H:listed.getD 9 Ë=Ë:=by grind
 have e24:a.tmps[24]?=Â x:=y.r 3 Kb 24 U (ic B U U) U;have e25:a.tmps[25]?=Â v:=y.r 4 Ke 25 U (ic B U U) U;have e29:a.tmps[29]?=Â (Å É n):=y.r 8 Ki 29 U (ic B U U) U;have late:∀(S:Value×Value) j,listed.getD j Ë=Î->kl i n x v S j=kl i n x v t j:=λS j u=>by
  have c:listed.getD 10 Ë=Ë:=by
   cases q:listed.getD 10 Ë with
   |false=>rfl
   |true=>exact absurd (y.Y 10 Ak ⟨9,ĉ⟩ U q (by simp[Ak]) U)<|by rw[H];decide
  have e:listed.getD 11 Ë=Ë:=by
   cases q:listed.getD 11 Ë with
   |false=>rfl
   |true=>exact absurd (y.Y 11 D5 ⟨10,ĉ⟩ U q (by simp[D5]) U)<|by rw[c];decide
  have h:listed.getD 12 Ë=Ë:=by
   cases q:listed.getD 12 Ë with
   |false=>rfl
   |true=>exact absurd (y.Y 12 D6 ⟨10,ĉ⟩ U q (by simp[D6]) U)<|by rw[c];decide
  have m:listed.getD 13 Ë=Ë:=by
   cases q:listed.getD 13 Ë with
   |false=>rfl
   |true=>exact absurd (y.Y 13 D7 ⟨11,ĉ⟩ U q (by simp[D7]) U)<|by rw[e];decide
  have p:listed.getD 14 Ë=Ë:=by
   cases q:listed.getD 14 Ë with
   |false=>rfl
   |true=>exact absurd (y.Y 14 D8 ⟨12,ĉ⟩ U q (by simp[D8]) U)<|by rw[h];decide
  match j with
  |9=>rw[H]at u;cases u
  |10=>rw[c]at u;cases u
  |11=>rw[e]at u;cases u
  |12=>rw[h]at u;cases u
  |13=>rw[m]at u;cases u
  |14=>rw[p]at u;cases u
  |0|1|2|3|4|5|6|7|8=>rfl
  |j+15=>rfl
 refine yl (f:=37) (args:=#[x,v,Å É n]) Q.1 (o:=ym) U (LW U _) (by k_ne) (λw=> ?_) (λw=> ?_) λw₁ r=> ?_
 .simp only[ym];go_simp
 .exact ô U η U U #[]
 have z:=(Q.2.1 H).G r;have C:=D.N (λb q=>z.O b q) (λb q=>z.r b (È q) id) z.I;have T:=λb q=>z.O b<|M b q;obtain⟨ra,cr,rb,rq,rfl,IU,CZ,IV,IW,ready⟩:=aso (W.r λb q=>z.r b (È<|M b q) id) Y C.r C.C T;obtain⟨I,J,K,rfl⟩:∃I J K,x=Ç I J K:=by let⟨_,_,_,⟨I,J,K,e,_⟩,_⟩:=D.rd;grind
 rw[asv];refine asg IU (λh=>È<|CZ h) IV IW ready ⟨λb q=>È<|Ï q,λb q=>Ï q⟩ (λb q=>q.elim (λq=>q.elim (C.S b)<|T b)<|C.C b) (λb q=>È<|È q) C.rd D.a (by have:=D.c;omega) λE e p m c h hT=> ?_;refine hn _ E ⟨(Ç (Â ⟨e,0,Á⟩) d.length d.length,Ç p m c),(y.Y0<|late _).fP (by rw[ht];decide) U B λ_=>rfl,h,λq=> ?_,λ_=>⟨_,e,p,m,c,z,U,hT⟩⟩;simp_all
end
section
variable{l o l4:e9}{ab:Nat}{s:List fH}{sl:Ñ}{V:Nat->Prop}{rs:List PR}
structure ab6(l l4:e9)(ab n:Nat)(s:List fH)(sl:Ñ)(V:Nat->Prop)(rs:List PR)(an:Nat)(tA:Ñ):Prop where
 r:∀b,l.O b->l4.O b/\l4.w.heap[b]?=l.w.heap[b]?
 fv:nB<=l4.w.heap.size
 C:l4.O an/\u5 an (kT rs s) l4.w/\kV l4.w an=Â (0,0)
 I8:∃V',RD (wx rs s) tA V' l4.w/\(∀b,V' b->l4.O b)/\¬V' ab/\∀b,V' b->V b\/(b=1\/b=2\/b=3\/b=4)\/l.w.heap.size<=b
def asx{kd:Nat->Int}(h:∀p,p<rs.length->w.cell? ⟨i,p,Á⟩=Â (Ä<|wh (wv rs) (kS rs) p<|pT (wv rs) (gY (kS rs) rs.length) s<|fJ (kS rs) p))(d:w.cell? ⟨i,rs.length,Á⟩=Á):u5 i (kT rs s) w:=by refine⟨λp x a=> ?_,by unfold kT;simpa using d⟩;unfold kT at a;rw[Ī]at a;obtain⟨q,e,rfl⟩:=ò.1 a;let⟨b,c⟩:=Õ.1 e;simp at b c;subst c;exact h p b
def Ou:(kT rs s).length=rs.length:=by simp[kT]
def asy:nB<=5:=by show À.globals.size<=5;decide+kernel
def asz{f:e9}{p:Option ü}(d:ou l ab n s sl V)(t:gu l)(u:∀b,X b->l.w.heap.size<=b)(v:∀b,l.O b->o.O b/\o.w.heap[b]?=l.w.heap[b]?)(x:l.w.heap.size<=o.w.heap.size)(y:gu l4)(e:gf (λ_=>False) o f)(a:Af (λb=>(V b\/X b)\/b=1\/b=2\/b=3\/b=4) (wv rs) rs.length (kS rs) s f i (Ç p m j) l4):ab6 l l4 ab n s sl V rs i (Ç p m j):=by
 have g:∀b,l.O b->l4.O b/\l4.w.heap[b]?=l.w.heap[b]?:=λb q=>by let⟨z,h⟩:=v b q;let⟨k,r⟩:=a.M b<|e.O b z;exact⟨k,r.trans<|(e.r b (È z) id).trans h⟩
 refine⟨g,?_,⟨a.r.1,asx (kd:=kS rs) a.r.2 a.I.1,a.I.2⟩,?_⟩
 .have:=y.fv 4<|È (g 4<|d.C 4 A).1;have:=asy;omega
 .let⟨h,B,k⟩:=a.S;have r:∀b,h b->V b\/(b=1\/b=2\/b=3\/b=4)\/l.w.heap.size<=b:=λb q=>by
   rcases(k b q).2 with((z|z)|z)|z
   .exact È z
   .exact Ï<|Ï<|u b z
   .exact Ï<|È z
   .exact Ï<|Ï<|Ì (Ì x e.I) z
  refine⟨h,B,λb q=>(k b q).1,λq=> ?_,r⟩;rcases r ab q with z|z|z
  .exact d.d z
  .exact d.I z
  .have:=t.fv ab<|È d.fj;omega
def asA{f:e9}{p:Option ü}(d:ou l ab n s sl V)(h:ab6 l l4 ab n s sl V rs i (Ç p m j))(E:gu l4)(g:∀b,l4.O b->f.O b)(r:∀b,l4.O b->f.w.heap[b]?=(l4.w.setCell ⟨ab,1,Á⟩<|Ç p m j).heap[b]?)(v:l4.w.heap.size<=f.w.heap.size):Oq l f ab n (wx rs s) V:=by
 let⟨x,y,t,u,z⟩:=h.I8;have k:∀b,l4.O b->b≠ab->f.w.heap[b]?=l4.w.heap[b]?:=λb q e=>(r b q).trans<|lu (a:=⟨ab,1,Á⟩) e;have o:=h.r ab d.fj;refine⟨λb q e=>⟨g b (h.r b q).1,(k b (h.r b q).1 e).trans (h.r b q).2⟩,Ç p m j,x,⟨?_,λb q=>g b (h.r b<|d.C b q).1,?_,g ab o.1,y.r λb q=>k b (t b q) λe=>u<|e▸q,λb q=>g b<|t b q,u,d.a,d.c,d.I⟩,z⟩
 .exact d.r.r (Ì h.fv v) λb q=>(k b (h.r b<|d.C b q).1 λe=>d.I<|e▸q).trans (h.r b<|d.C b q).2
 .let⟨B,C,D⟩:=d.Y;refine⟨B,?_,D⟩;rw[r ab o.1];unfold Ż;simp[Ķ,o.2,C]
def asB{J:Jd}(b:jU l)(d:fq.fg À Î J l (G (f.at (y.put ((Q[i]?).bind (·.dst))<|Ä ⟨#[]⟩)<|Ð Q jJ::L) qX)): fq.fg À Î J l (G (è À 38 #[Ç O 0 j,Ä B] Ą)<|f.at y (Ð Q (i::jJ)::L)::qX):=by
 have hF:True:=trivial;rw[wy [_,_] 73 ē];simp only[ą,Đ,ę];conv in kY _ _=>whnf
 apply fO (n:=60) b;repeat w_go ft
 u_in ft hF
 refine Ŧ (t:=4) U U ē U ⟨by u_nil,?_⟩;refine ï λ_ _=> ?_;exact d
def u5.I{w':Í}{xs:List ByteArray}(h:u5 i xs w)(k:w'.heap[i]?=w.heap[i]?):u5 i xs w':= ⟨λp x a=>D3 k<|h.r p x a,by have:=h.C;simp only[à,k]at this|-;exact this⟩
def asC{xs:List ByteArray}(g:mL w)(h:u5 i xs w):lA i=Ë:=by
 have b:∀e,N5 i e w->False:=λe ⟨c,o,j,_,_,d,l⟩=>by
  have f:w.cell? ⟨i,0,Á⟩=Â c[0]:=by simp only[à,j,ö,ì,if_false];exact å d
  rcases ģ xs.length with q|q
  .have a:=h.C;rw[q,f]at a;cases a
  .have a:=h.r 0 _<|Ó q;let⟨k,n,m⟩:=l c[0]<|î.2<|ă d;rw[f,m]at a;cases a
 cases q:lA i with
 |false=>rfl
 |true=>
  unfold lA at q;simp at q;rcases q with rfl|rfl
  .exact(b _ g.I).elim
  .exact(b _ g.C).elim
def jA.asD(a:jU l)(r:fF l l.w u):jA l {l with w:=u}:=⟨λ_ q=>q,λ_ q=>È q,U,U,U,U,U,r,lH a r⟩
def asE{a:Ĉ}{xs:List ByteArray}(b:gL l)(j:nB<=l.w.heap.size)(h:u5 n xs l.w)(m:l.O n)(o:lA n=Ë)(p:kV l.w n=Â (0,0))(s:xs.length<=1000){N:Nat}(t:xs.length=N)(u:B.size=1)(v:iK xs+xs.length<=140737488355328): fq.fg À Î (λc g=>jA l c/\c.d=l.d/\g=G (f.at (a.put ((Q[i]?).bind (·.dst))<|Ä<|jb B xs)<|Ð Q jJ::L) qX) l (G (è À 38 #[Ç (Â ⟨n,0,Á⟩) N N,Ä B] Ą)<|f.at a (Ð Q (i::jJ)::L)::qX):=by
 subst t;rcases ģ xs.length with e|e
 .have x:=Ý e;subst x;exact asB b.r.r<|.fy λy r=>⟨jA.asD b.r.r r,U,U⟩
 .refine(asa b.r b.q j h e (È m) o p s u v Î _ qX).fN ?_;rintro c g ⟨r,x,rfl⟩;exact⟨r,x,by rw[Ě]⟩
def asF{N:Array Ñ}{cf:Ē}(C:ou l ab n s sl V)(Fz:gu l)(UI:∀b,X b->l.w.heap.size<=b)(hl:∀b,l.O b->o.O b/\o.w.heap[b]?=l.w.heap[b]?)(ji:l.w.heap.size<=o.w.heap.size)(LX:rs.length<=24)(sZ:iK (kT rs s)+rs.length<=140737488355328)(ht:N.size=39)(ht0:N[0]?=Â (Ã<|Â ⟨ab,0,Á⟩)) (hJ:∀P,gL P->Oq l P ab n (wx rs s) V->iL vQ P (G (cf.at (y.put ((Q[i]?).bind (·.dst))<|ë #[Ä<|jb ⟨#[59]⟩<|kT rs s,Å É 0])<|Ð Q jJ::L) qX)) (md:Ŀ) (listed:Array Bool) (a:Ĉ) (l4:e9) (hI:II oH N (kl ab n sl v) (wA o (λb=>V b\/X b) rs s) listed a l4) (H:listed.size=oH.size) (I:ä md oH listed=[]): iL vQ l4 (G ((base 17).at a<|Ð oH []::[ax UH])<|cf.at y (Ð Q (i::jJ)::L)::qX):=by
 have hF:True:=trivial;let⟨x,D,g,_,hS⟩:=hI;have J:∀i∈ĳ 15,listed.getD i Ë=Î:=by
  cases md
  .exact pH I H (ĳ 15) [] fM λi c=>by cases c
  .exact λi c=>pH I H [0,1,2,3,4,5,6,7,8,9,10,11,13,12,14] [] fM (λi c=>by cases c) i (by have:=Ŷ.1 c;revert i;decide)
  .exact pH I H (ĳ 15) [] fM λi c=>by cases c
 obtain⟨l1,r,p,m,c,k1,rfl,hT⟩:=hS<|J 9 A;have h:=asz (rs:=rs) C Fz UI hl ji g.r k1 hT;let⟨F,ds⟩:=a;obtain rfl:ds=[]:=D.M;have S:F[0]?=Â (Ã<|Â ⟨ab,0,Á⟩):=(D.C A).trans ht0;have T:F[9]?=Â (Ç (Â ⟨r,0,Á⟩) rs.length rs.length):=D.r 13 D7 9 U (J 13 A) U;have W:F[10]?=Â (Ç p m c):=D.r 14 D8 10 U (J 14 A) U;have I1:F.size=39:=D.S.trans ht;clear D J hS hT k1 I H;obtain⟨u,rfl⟩:=xm F I1;simp only[List.getElem?_toArray,Ī,List.getElem?_range,Nat.reduceLT,Ă,Ô]at S T W;simp only[ĳ,List.range.loop,List.map,S,T,W];clear S T W I1;let⟨fr,mG,hfr⟩:=C.Y;let⟨Ov,hab⟩:=h.r ab C.fj;have Y:l4.w.heap[ab]?=Â (Û #[Å É n,sl] 68 (0,0)):=by rw[hab,mG,hfr]
 have c1:l4.w.cell? ⟨ab,1,Á⟩=Â sl:=by simp[à,Y]
 have z1:l4.w.frozen? ⟨ab,1,Á⟩=Ë:=by simp[World.frozen?,Y]
 have CO:=g.q;apply mA;apply fO (n:=20) g.r.r;conv in UH=>whnf
 iterate 7 w_go ft
 refine ï λ_ _=> ?_;apply It (p:=ab) (off:=1) (v:=Ç p m c) (u:=sl) U U (by k_ne) g.r.r CO Ov c1 z1 U (λw z B=>by go_simp) (λw z B=>by simp[go_sem,events_store _ _ _ _ _ _ (show Value.oneCell' (Ç p m c)=Î from rfl),z,B]);have k5:=L8 (X:=λb=>b=ab) (p:=ab) (w':=l4.w.setCell ⟨ab,1,Á⟩<|Ç p m c) g.r (fF.fU _ _) Ov U fq.j1 λj hj=>fq.lu hj;have sf:=k5.N g.r;have avj:(l4.w.setCell ⟨ab,1,Á⟩<|Ç p m c).heap.size=l4.w.heap.size:=fq.j1;have rV:gL ({l4 with w:=l4.w.setCell ⟨ab,1,Á⟩ (Ç p m c)}:e9):=⟨sf,g.d,g.q,g.rd,g.I,g.M,g.k⟩;have c0:l4.w.cell? ⟨ab,0,Á⟩=Â (Å É n):=by simp[à,Y]
 have asG:r≠ab:=λe=>by
  rcases ģ (kT rs s).length with q|q
  .have z:=h.C.2.1.C;rw[q,e,c0]at z;cases z
  .have B:=h.C.2.1.r 0 _<|Ó q;rw[e,c0]at B;cases B
 have ab7:(l4.w.setCell ⟨ab,1,Á⟩<|Ç p m c).heap[r]?=l4.w.heap[r]?:=fq.lu (a:=⟨ab,1,Á⟩) asG;have Ug:=h.C.2.1.I ab7;have Cx:kV (l4.w.setCell ⟨ab,1,Á⟩<|Ç p m c) r=Â (0,0):=(wY ab7).trans h.C.2.2;have asH:lA r=Ë:=asC (C.r.r h.fv λb q=>(h.r b<|C.C b q).2) h.C.2.1;have hlen:(kT rs s).length=rs.length:=Ou;apply fO (n:=20) sf.r;iterate 4 w_go ft
 refine ï λ_ _=> ?_;refine wz (f:=38) (args:=#[Ç (Â ⟨r,0,Á⟩) rs.length rs.length,Ä ⟨#[59]⟩]) U fM (by k_ne) sf.r (λw=>by go_simp) (λw=>ô U ē U U #[]) λw₁ E=> ?_;have Ot:=rV.C E;have asI:u5 r (kT rs s) w₁:=Ug.I<|E.I r<|È h.C.1;refine fq.fg.lD ?_ (asE (xs:=kT rs s) Ot (Ì (by rw[fq.j1];exact h.fv) E.r) asI h.C.1 asH ((wY<|E.I r<|È h.C.1).trans Cx) Z hlen U Z);rintro K g6 ⟨M,hd,rfl⟩;have UJ:gL K:=jA.xF Ot M hd;have hk6:∀b,l4.O b->K.w.heap[b]?=(l4.w.setCell ⟨ab,1,Á⟩<|Ç p m c).heap[b]?:=λb q=>(M.r.I b<|È q).trans<|E.I b<|È q;have hs6:l4.w.heap.size<=K.w.heap.size:=by have z:=M.r.r;have B:=E.r;have h3:(l4.w.setCell ⟨ab,1,Á⟩<|Ç p m c).heap.size=l4.w.heap.size:=fq.j1;exact Ì (Nat.le_of_eq h3.symm)<|Ì B z
 have B:∀b,l4.O b->K.O b:=λb q=>M.O b q;generalize jb ⟨#[59]⟩ (kT rs s)=ans at*;walk_nrm;apply fO (n:=20) UJ.r.r;repeat w_go ft
 u_in ft hF
 refine θ (t:=4) (u:=5) U U Ł U ⟨by u_nil,?_⟩;refine ï λ_ _=> ?_;refine .fy λpz z=>⟨UJ.C z,U,hJ _ (UJ.C z)<|asA C h g.r B (λb q=>(z.I b<|È<|B b q).trans<|hk6 b q)<|Ì hs6 z.r⟩
end
section
variable{l:e9}{s:List fH}
theorem asJ{e:e9}{c:Nat->Prop}{g:List PR}(B:ou l j n s v X)(C:gu l)(D:ou e j n s v X)(k:gL e)(W:RQ g z c e.w)(Y:∀b,c b->e.O b)(hok:∀r∈g,uW r)(E:g.length<=24)(F:∀b,c b->l.w.heap.size<=b)(H:∀b,l.O b->e.O b/\e.w.heap[b]?=l.w.heap[b]?)(I:l.w.heap.size<=e.w.heap.size)(J:iK (kT g s)+g.length<=140737488355328)(t:d.size=39)(u:d[0]?=Â (Ã<|Â ⟨j,0,Á⟩))(K:d[6]?=Â z) (M:∀h,gL h->Oq l h j n (wx g s) X->iL vQ h (G (f.at (y.put ((Q[i]?).bind (·.dst))<|ë #[Ä<|jb ⟨#[59]⟩<|kT g s,Å É 0])<|Ð Q jJ::L) qX)): iL vQ e (G ((base 17).at ⟨d,[]⟩<|ax (.region 4 oH Î)::[ax UH])<|f.at y (Ð Q (i::jJ)::L)::qX):=by
 refine asq (II oH d (kl j n v z)<|wA e (λb=>X b\/c b) g s) k (λa x=> ?_) (λm o a l i jJ p N P=> ?_) λm o a l p S T=> ?_
 .refine⟨(ĸ,ĸ),lI.G _ _ _,k.C x,λ_=>(gf.fU k.r.r).G x,λq=> ?_⟩;exact absurd q A
 .by_cases V:i=9
  .grind [asw]
  .exact asr (asu D t u K m o a l i jJ p N V) (λN h q=>by let⟨x,_,q⟩:=q;exact q.1) P
 .exact asF B C F H I E J t u M m o a l p S T
def ab8(p:gL l)(r:ou l j n s v X)(I:B.size<=ī)(J:(gK B).1=0->iK (kT (gK B).2.2 s)+(gK B).2.2.length<=140737488355328) (t:∀z,gL z->Oq l z j n (lR s B).2.2 X->iL vQ z (G (f.at (y.put ((Q[i]?).bind (·.dst))<|ë #[Ä (lR s B).1,Å É (lR s B).2.1])<|Ð Q jJ::L) qX)): iL vQ l (G (è À 17 #[Ã<|Â ⟨j,0,Á⟩,Ä B] Ą)<|f.at y (Ð Q (i::jJ)::L)::qX):=by
 have hF:=trivial;rw[wy [_,_] 37 Ł];simp only[ą,Đ,ę];conv in kY _ _=>whnf
 apply mA;apply fO (n:=20) p.r.r;iterate 8 w_go ft
 refine ï λ_ _=> ?_;refine wz (f:=36) (args:=#[Ä B]) U fM (by k_ne) p.r.r (λw=>by go_simp) (λw=>ô U ļ U U #[]) λw₁ m=> ?_;have C:=p.C m;refine fq.fg.lD ?_<|abY C.r C.q (Ì r.r.fv m.r) I Î _ _;rintro u g1 ⟨x,K,a,rfl,M⟩;have g:=jA.xF C x K;have h:∀b,l.O b->u.O b/\u.w.heap[b]?=l.w.heap[b]?:=λb q=>⟨x.O b q,(x.r.I b<|È q).trans<|m.I b<|È q⟩;have F:=Ì m.r x.r.r;rw[Ě];by_cases k:(gK B).1=0
 .have D:lR s B=(jb ⟨#[59]⟩<|kT (gK B).2.2 s,0,wx (gK B).2.2 s):=if_pos k;let⟨c,N,E⟩:=M k;have P:=J k;rw[D]at t;obtain⟨S,T⟩:=J7;rw[k];generalize(gK B).2.2=rs at*;generalize(gK B).2.1=UK at*;walk_nrm;apply fO (n:=40) g.r.r;repeat w_go ft
  refine ï λ_ _=> ?_;refine .fy λo d=>⟨g.C d,U,?_⟩;have V:=g.C d;have e:∀b,l.O b->({u with w:=o}:e9).O b/\o.heap[b]?=l.w.heap[b]?:=λb q=>⟨(h b q).1,(d.I b<|È (h b q).1).trans (h b q).2⟩;have H:=Ì F d.r;have W:=r.N (λb q=>(e b q).1) (λb q=>(e b q).2) H;have Y:=N.r λb q=>d.I b<|È (E b q).1;have hQ3:=λb q=>(E b q).1;have UI:=λb q=>Ì m.r (E b q).2;exact asJ r p.r W V Y hQ3 S T UI e H P U U U t
 .have D:lR s B=(⟨#[]⟩,(gK B).1,s):=if_neg k;rw[D]at t;have c:((gK B).1 !=0)=Î:=by rwa[bne_iff_ne]
  generalize(gK B).1=er at*;generalize(gK B).2.1=UK at*;walk_nrm;apply fO (n:=40) g.r.r;repeat w_go ft
  u_in ft hF
  refine θ U U Ł U ⟨by u_nil,?_⟩;refine ï λ_ _=> ?_;refine .fy λo d=>⟨g.C d,U,t _ (g.C d) ?_⟩;have e:∀b,l.O b->({u with w:=o}:e9).O b/\o.heap[b]?=l.w.heap[b]?:=λb q=>⟨(h b q).1,(d.I b<|È (h b q).1).trans (h b q).2⟩;exact⟨λb q _=>e b q,v,X,r.N (λb q=>(e b q).1) (λb q=>(e b q).2)<|Ì F d.r,λb q=>È q⟩
end
def Ow(a:ByteArray)(c:a.size=1):∀b:List ByteArray,(jb a b).size<=iK b+b.length
 |[]=>Ø _
 |x::r=>by
  show(x.data.toList++nL a r).toArray.size<=_;have d:iK (x::r)=x.size+iK r:=by simp[iK]
  have e:x.data.toList.length=x.size:=by rw[ě];rfl
  simp only[ř,Ù,NQ a c r,d,e,ď];omega
def UL{M:Nat}(a:∀z∈vX,z.size<=M)(b:M<=100)(c:vX.length<=400000):(DF vX).size<=100000000:=by
 unfold DF;split
 .decide
 .have d:=Ow ⟨#[44]⟩ U vX;have e:=Gf vX a;have:M*vX.length<=100*400000:=ű b c;omega
theorem GA(i:Nat):(nW i).size<=3:=by
 unfold nW oA;rw[ø];split
 .show 1+1<=3;decide
 .show 1+2<=3;decide
theorem ab9(s:gw.St)(x y:Nat)(k:Int):∀(m i:Nat),i+m<=1000->(oD s x y k i m).size<=20
 |0,i,_=>by unfold oD;decide
 |m+1,i,h=>by
  unfold oD;split
  .exact pN i Z
  .exact ab9 s x y k m (i+1) Z
theorem asK(s t:gw.St):(pO s t 8).length<=400000:=by
 unfold pO;have a:∀l:List Nat,(l.flatMap<|yd s t).length<=18*l.length:=λl=>by
  induction l with
  |nil=>simp
  |cons i l b=>
   rw[List.flatMap_cons,Ù,ď];have:(yd s t i).length<=18:=by unfold yd;grind [Ù,NM,aaJ]
   omega
 grind
theorem asL{i:List (Nat×fH)}{q:Qn}(n:lE (ku i))(ok:q.Ok):(rD i q).size<=100000000:=by
 unfold rD;split
 .grind [GA]
 .rename_i p o;let⟨b,f,v,w⟩:=n.r _<|Ú.2 ⟨p,JN o,U⟩;have j:∀u,u<18446744073709551616->(fI u).size<=100000000:=λu r=>by have:=pN u r;omega
  unfold DG;split
  .have c:=f.C q.x q.I;exact j _ (by have:=c.1;have:=c.2;omega)
  .split
   .have c:=f.fu q.x;exact j _ (by have:=c.1;have:=c.2;omega)
   .split
    .split
     .grind [GA]
     .rename_i B;have l:gd (q.k:Int):=⟨Z,by have:=ok.k;omega⟩;have e:=Ni p.2.s [] q.x q.y q.g q.k f ok.x ok.y l Z Z (by simp;omega);unfold DC;have C:=e.r;have m:=e.M;have t:=e.I;simp at t;have D:=Ow ⟨#[44]⟩ U<|[fI (gi p.2.s [] q.x q.y q.g q.k).C.toNat,fI (gi p.2.s [] q.x q.y q.g q.k).M.toNat,fI (gi p.2.s [] q.x q.y q.g q.k).r.toNat]++(gi p.2.s [] q.x q.y q.g q.k).I.map rC;have E:=Gf (M:=21) ([fI (gi p.2.s [] q.x q.y q.g q.k).C.toNat,fI (gi p.2.s [] q.x q.y q.g q.k).M.toNat,fI (gi p.2.s [] q.x q.y q.g q.k).r.toNat]++(gi p.2.s [] q.x q.y q.g q.k).I.map rC) λz d=>by
       rcases â.1 d with h|h
       .simp at h;rcases h with rfl|rfl|rfl
        .have:=pN (gi p.2.s [] q.x q.y q.g q.k).C.toNat (by cases(gi p.2.s [] q.x q.y q.g q.k).C<;>decide);omega
        .have:=pN (gi p.2.s [] q.x q.y q.g q.k).M.toNat (by have:=m.1;have:=m.2;omega);omega
        .grind [pN]
       .obtain⟨e,a,rfl⟩:=Ú.1 h;exact NU ((TN p.2.s [] q.x q.y q.g q.k f ok.x ok.y l Z Z (by simp;omega) λ_ q=>by cases q) e a).2
      grind
    .split
     .grind [ab9]
     .split
      .have:=aaY<|xZ p.2.s;have:=aaZ<|16-(nN<|xZ p.2.s).size;unfold Aa;rw[ø];omega
      .split
       .exact UL (λz d=>by obtain⟨e,a,rfl⟩:=Ú.1 d;exact NU (b.C e a).2) Z<|by rw[ù];exact b.I
       .split
        .exact UL (λz d=>by obtain⟨e,a,rfl⟩:=Ú.1 d;exact aaS (b.r e a).1 (b.r e a).2) Z (by rw[ù];have:=b.M;omega)
        .split
         .grind [GA]
         .exact UL (aa0 _ _) Z<|asK _ _
theorem asM(a:List (Nat×fH))(v:Int)(x:Nat)(gJ:List Tx):(rB a v x gJ).2.size<=3:=by
 unfold rB;split
 .exact GA 3
 .split
  .exact GA 4
  .split
   .exact GA 5
   .show(oA a.length).size<=3;unfold oA;split
    .show 1<=3;decide
    .show 2<=3;decide
def asN{s:List fH}{i:Int×Nat×List Tx}(h:lE s)(a:∀t∈i.2.2,t.Ok)(b:i.2.2.length<=1000):lE (DV s i):= lE.M (by rwa[JV]) a b
def acd{a:List PR}{s:List fH}(h:lE s)(b:∀r∈a,uW r):∀k,k<=(gY (kS a) a.length).length->lE (pT (wv a) (gY (kS a) a.length) s k)
 |0,_=>h
 |k+1,hk=>by
  have c:a.getD ((gY (kS a) a.length).getD k 0) pd∈a:=ç (i:=(gY (kS a) a.length).getD k 0) (by have q:=(I6<|vT (l:=gY (kS a) a.length)<|show k<_ from hk).1;generalize(gY (kS a) a.length).getD k 0=j at q;simp[Ğ,q]);have q:=b _ c;refine asN (acd h b k Z) (λt d=> ?_) ?_
  .obtain⟨x,t,rfl⟩:=Ú.1 d;exact toTx_ok<|q.C x t
  .show((a.getD _ pd).r.map toTx).length<=1000;rw[ù];have:=q.n;omega
def R6(kd:Nat->Int):∀{p R:Nat},p<=R->fJ kd p<=(gY kd R).length:=λ{p R} h=>by
 show(gY kd p).length<=(gY kd R).length
 induction h with
 |refl=>exact æ _
 |@step R _ ih=>
  by_cases q:kd R=1
  .rw[tx q];simp;omega
  .rwa[vN q]
theorem ace{a:List PR}{s:List fH}(h:lE s)(b:∀r∈a,uW r)(l:a.length<=24):iK (kT a s)+a.length<=2400000024:=by
 have d:=Gf (M:=100000000) (kT a s) λz c=>by
  unfold kT at c;obtain⟨p,e,rfl⟩:=Ú.1 c;have f:=Ŷ.1 e;have g:=acd h b (fJ (kS a) p)<|R6 _ Z;unfold wh;split
  .grind [Ì,asM]
  .rename_i j;have k:a.getD p pd∈a:=ç (i:=p) (by simp[Ğ,f]);exact asL (by rwa[JV])<|ab4 (b _ k) j
 rw[Ou]at d;omega
def acf{s:List fH}(h:lE s):iK (kT (gK B).2.2 s)+(gK B).2.2.length<=140737488355328:=Ì (ace h J7.1 J7.2) A
theorem asO{s:List fH}(h:lE s)(B:ByteArray):(lR s B).1.size<=10^12:=by
 unfold lR;split
 .have a:=Ow ⟨#[59]⟩ U<|kT (gK B).2.2 s;have b:=ace h (J7 (B:=B)).1 J7.2;rw[Ou]at a;grind
 .exact Ø _
def Kj(c:Int):Int:=if c<0 then(-(c+1))%8 else c%8
def asP(c:Int)(b:-9223372036854775808<=c)(d:c<=9223372036854775807)(w:Í):Ò À 30 #[Å É c,Å É 8] w λe a=>e=Æ (Å É<|Kj c)/\a=w:=by
 unfold Kj;by_cases h:c<0
 .rw[if_pos h];have e:-(c+1).tmod 8=(-(c+1))%8:=by rw[<-Int.neg_tmod,Int.tmod_eq_emod_of_nonneg Z]
  have H:=fc e.symm;clear e;go_enter ŧ,Ο;go_wp2;go_ret;exact⟨by rw[H.out];rfl,U⟩
 .rw[if_neg h];go_enter ŧ,Ο;go_wp2;go_ret;exact⟨U,U⟩
def Ox(a:ü)(w:Í):Sem.events À (binOp BinOp.eql 26 (Ã<|Â a)<|Ã Á) w #[]=#[]:=fp
theorem Kk{l:e9}(a:gL l)(p:nB<=l.w.heap.size){f:Ρ}{args:Array Ñ}{r:Ñ}(m:FK f=Î)(s:∀v∈args.toList,fh (qx (λ_=>False) À.globals.size) v v)(t:∀{Y v},fh Y r v->v=r)(x:∀w,Ò À f args w λe y=>e=Æ r/\y=w)(n:Bool)(c:Ē)(i:List Ē): fq.fg À n (λk o=>jA l k/\k.d=l.d/\o=G (c.finish r) i) l (G (è À f args Ą)<|c::i):=by
 let⟨E,F,z,B⟩:=zD f m;have C:∀T,Ò À f args (World.tp (ll (λj=>False/\¬(mg l).O j) l.w) T 0) fun|Æ v,j=>v=r/\ko j|_,_=>False:=λT=>by refine(x _).mono ?_;grind [Gl]
 refine((FF yv M1 zD (λv u T D h=>h) m z B (FG a.r) a.q (λb q=>q.elim) ⟨λb q=>q.elim,p⟩ (λg q=>by cases q) (pQ s) C n c i).mg a.r).fN ?_;rintro k o ⟨D,⟨Y,j,v,H,_,_,g,rfl,b,_,_,h⟩,rfl,u,_,_,_⟩;rw[t g]at b;exact⟨u,h,b⟩
def UM:ByteArray:=⟨#[98,48,58,97,59,98,48,58,104,59,117,48,59,98,49,58,97]⟩
def asQ:(lR [gw.jw] UM).1=⟨#[49,48,48,48,59,49,48,48,48,59,45,59,33,51]⟩:=fp
def asR:(lR [gw.jw] UM).2=(0,[gw.jw]):=fp
structure asS(l l':e9)(ab n:Nat)(sl:Ñ)(V:Nat->Prop):Prop where
 r:ou l' ab n [gw.jw] sl V
 C:∀b,l.O b->l'.O b/\l'.w.heap[b]?=l.w.heap[b]?
 I:l.w.heap.size<=ab
 M:∀b,V b->(b=1\/b=2\/b=3\/b=4)\/l.w.heap.size<=b
section
variable{l:e9}
def acg{J:Jd}{s:List fH}(c:gL l)(d:ou l j n s z X)(g:fq.fg À Î J l (G (f.at (y.put ((Q[i]?).bind (·.dst))<|Å É s.length)<|Ð Q jJ::L) qX)): fq.fg À Î J l (G (è À 22 #[Ã<|Â ⟨j,0,Á⟩] Ą)<|f.at y (Ð Q (i::jJ)::L)::qX):=by
 have hF:True:=trivial;obtain⟨a,b,rfl⟩:∃a b,z=Ç a s.length b:=by
  let⟨o,h,_,⟨a,k,b,e,_,m⟩,_⟩:=d.rd;have:k=s.length:=by rw[m.r,<-h];simp[ku]
  exact⟨a,b,by rw[e,this]⟩
 have o:s.length<=40:=by let⟨_,_,e,_⟩:=d.rd;exact e.C
 let⟨p,k,_⟩:=d.Y;have m:l.w.cell? ⟨j,1,Á⟩=Â (Ç a s.length b):=by simp[à,k]
 rw[wy [_] 7 Ũ];simp only[ą,Đ,ę];conv in kY _ _=>whnf
 refine fO (n:=20) c.r.r ?_;repeat w_go ft
 refine ï λ_ _=> ?_;refine pG (x:=⟨j,1,Á⟩) (v:=Ç a s.length b) U fM (by k_ne) c.r.r c.q (È<|È d.fj) m (λw h=>by go_simp) (λw h=>by simp[go_sem,h]) ?_;walk_nrm;refine fO (n:=20) c.r.r ?_;repeat w_go ft
 u_in ft hF
 refine Ŧ (t:=2) U U Ũ U ⟨by u_nil,?_⟩;refine ï λ_ _=> ?_;exact g
def asT(j:gL l)(p:mL l.w)(I:∀b,b=1\/b=2\/b=3\/b=4->l.O b)(c:Int)(ug:-9223372036854775808<=c)(Ag:c<=9223372036854775807) (hJ:∀J a n K V,gL J->asS l J a n K V->iL vQ J (G (f.at (y.put ((Q[i]?).bind (·.dst))<|Ã<|Â ⟨a,0,Á⟩)<|Ð Q jJ::L) qX)): iL vQ l (G (è À 15 #[Å É c] Ą)<|f.at y (Ð Q (i::jJ)::L)::qX):=by
 have hF:True:=trivial;rw[wy [_] 36 ι];simp only[ą,Đ,ę];conv in kY _ _=>whnf
 apply mA;apply fO (n:=20) j.r.r;repeat w_go ft
 refine ï λ_ _=> ?_;refine wz (f:=30) (args:=#[Å É c,Å É 8]) U fM (by k_ne) j.r.r (λw=>by go_simp) (λw=>ô U ŧ U U #[]) λw₁ r=> ?_;have T:=j.C r;refine fq.fg.lD ?_ (Kk T (Ì p.fv r.r) fM (λv h=>by simp at h;rcases h with rfl|rfl<;>exact .iC _ _) (λh=>by cases h;rfl) (asP c ug Ag) Î _ _);rintro s g1 ⟨u,hd,rfl⟩;obtain⟨z,hz,Jq,SF⟩:∃z,Kj c=z/\0<=z/\z<8:=⟨_,U,by unfold Kj;split<;>omega,by unfold Kj;split<;>omega⟩;rw[hz];have M:gL s:=jA.xF T u hd;have x:∀b,l.O b->s.O b/\s.w.heap[b]?=l.w.heap[b]?:=λb q=>⟨u.O b q,(u.r.I b<|È q).trans<|r.I b<|È q⟩;have B:l.w.heap.size<=s.w.heap.size:=Ì r.r u.r.r;rw[Ě];walk_nrm;refine fO (n:=20) M.r.r ?_;repeat w_go ft
 refine ï λ_ _=> ?_;have oS:É.wrap (1+z)=1+z:=Ļ _ ⟨Z,Z⟩;refine wz (f:=35) (args:=#[Å É<|1+z]) U fM (by k_ne) M.r.r (λw=>by go_simp) (λw=>ô U ζ U U #[]) λpz h=> ?_;have N:=M.C h;obtain⟨n,hn⟩:∃n:Nat,1+z=n:=⟨(1+z).toNat,Z⟩;rw[hn];refine fq.fg.lD ?_<|ar9 N.r N.q (Ì (Ì p.fv B) h.r) (n:=(n:Int)) Z Z Î _ _;rintro d g3 ⟨C,rZ,a,K,rfl,mG,Ov,hab,V,rn,hnV,W⟩;have g:gL d:=jA.xF N C rZ;have k:∀b,l.O b->d.O b/\d.w.heap[b]?=l.w.heap[b]?:=λb q=>⟨C.O b (x b q).1,(C.r.I b<|È (x b q).1).trans<|(h.I b<|È (x b q).1).trans (x b q).2⟩;have X:l.w.heap.size<=d.w.heap.size:=Ì B<|Ì h.r C.r.r;have asU:l.w.heap.size<=a:=Ì B<|Ì h.r hab;have asV:∀b,b=1\/b=2\/b=3\/b=4->b<l.w.heap.size:=λb q=>j.r.fv b<|È<|I b q;have hin:ou d a n [gw.jw] K V:=⟨p.r (Ì p.fv X) λb q=>(k b<|I b q).2,λb q=>(k b<|I b q).1,mG,Ov,rn,λb q=>(W b q).1,hnV,Z,Z,λq=>by have:=asV a q;omega⟩;have hVn:∀b,V b->l.w.heap.size<=b:=λb q=>Ì B<|Ì h.r (W b q).2;rw[Ě];walk_nrm;apply fO (n:=60) g.r.r;repeat w_go ft
 refine ï λ_ _=> ?_;apply nH (v:=õ Ë) U fM (by k_ne) g.r.r g.q (λw _=>by go_simp) (λw _ e m=>by simp[go_sem,Ox]at m);walk_nrm;apply fO (n:=60) g.r.r;repeat w_go ft
 refine ï λ_ _=> ?_;refine .fy λY m=>⟨g.C m,U,?_⟩;have rV:=g.C m;have asW:=hin.M m;have P:∀b,l.O b->({d with w:=Y}:e9).O b/\Y.heap[b]?=l.w.heap[b]?:=λb q=>⟨(k b q).1,(m.I b<|È (k b q).1).trans (k b q).2⟩;refine yl (f:=17) (args:=#[Ã<|Â ⟨a,0,Á⟩,Ä ⟨#[98,48,58,97,59,98,48,58,104,59,117,48,59,98,49,58,97]⟩]) rV U fM (by k_ne) (λw=>by go_simp) (λw=>ô U Ł U U #[]) λach D=> ?_;change iL vQ _ (G (è À 17 #[Ã<|Â ⟨a,0,Á⟩,Ä UM] Ą) _);refine ab8 (rV.C D) (asW.M D) A (λ_=>acf ab0) λl6 E aci=> ?_;rw[asR]at aci|-;rw[asQ];let⟨LC,sl6,V6,acj,hV6⟩:=aci;have lr:∀b,l.O b->b≠a:=λb q e=>by have:=j.r.fv b<|È q;omega
 have F:∀b,l.O b->l6.O b/\l6.w.heap[b]?=l.w.heap[b]?:=λb q=>by let⟨o,H⟩:=LC b (P b q).1<|lr b q;exact⟨o,H.trans<|(D.I b<|È (P b q).1).trans (P b q).2⟩
 have hV7:∀b,V6 b->(b=1\/b=2\/b=3\/b=4)\/l.w.heap.size<=b:=λb q=>by
  rcases hV6 b q with z|z|z
  .exact Ï<|hVn b z
  .exact È z
  .exact Ï<|Ì X<|Ì (Ì m.r D.r) z
 walk_nrm;apply mA;apply fO (n:=60) E.r.r;repeat w_go ft
 refine ï λ_ _=> ?_;refine wz (f:=22) (args:=#[Ã<|Â ⟨a,0,Á⟩]) U fM (by k_ne) E.r.r (λw=>by go_simp) (λw=>ô U Ũ U U #[]) λse o=> ?_;apply acg (E.C o) (acj.M o);have S:=E.C o;have asX:=acj.M o;walk_nrm;apply fO (n:=60) S.r.r;repeat w_go ft
 u_in ft hF
 refine Ŧ (t:=2) U U ι U ⟨by u_nil,?_⟩;refine ï λ_ _=> ?_;exact .fy λavk H=>⟨S.C H,U,hJ _ a n sl6 V6 (S.C H) ⟨asX.M H,λb q=>⟨(F b q).1,(H.I b<|È (F b q).1).trans<|(o.I b<|È (F b q).1).trans (F b q).2⟩,asU,hV7⟩⟩
end
def acn{t:Tmp}(d:f.kind=Ą)(e:y.defers=[])(g:P.funcs[f.fn]?=Â s)(c:s.results=#[.tmp t])(h:P.inits.idxOf? f.fn=Á):stepG P Î (G {f.at y L with mode:=.returning} []) w=.ended (.done<|y.tmps.getD t ĸ) w:=by have i:=results_tmp c y.tmps P w;have j:=events_results_tmp (P:=P) (w:=w) c y.tmps;simp[G,stepG,unwind,doReturn,Frame.at,d,e,g,i,j,h,seen,GStep.after]
def asY{l:e9}(e:iL vQ l g)(a:gL l)(c:g.status=.running):sK vQ #[g] l.w Á #[]:=e a c (λ_=>False) 0 _ _ _ _ Á _ ⟨λx q=>q.elim,λ_ _ _ _ q=>q,Ø _⟩ (asb (P:=À) (J:=λ_ _=>True) (T:=.fy) U a.d a.q a.rd a.I a.M a.k (λb q=>a.r.fv b<|È q) c λ_ _=>trivial) a.d U
def aco(W:Í):e9:={O:=λb=>b<W.heap.size,I:=λ_=>False,r:=λ_=>False,N:=λ_=>False,K:=λ_=>False,d:=0,q:=False,w:=W}
def acp(W:Í):gL (aco W):= ⟨⟨λ_ _=>id,λ_ q=>q.elim,λ_ q=>q.elim (λz=>z.elim) λz=>z.elim,λ_ q=>q.elim id λz=>z.elim,λ_ q=>q.elim (λz=>z.elim) λz=>z.elim,λ_ q=>q.elim⟩,U,id,λ_=>id,λ_=>id,λ_=>id,λ_=>id⟩
structure nT(W w':Í):Prop where
 rL:∀b,b<W.heap.size->w'.heap[b]?=W.heap[b]?
 EF:W.heap.size<=w'.heap.size
def asZ(g:mL W):∀b,b=1\/b=2\/b=3\/b=4->b<W.heap.size:=λb q=>by let⟨c,a,h,_⟩:=g.C;have:=(á.1 h).1;omega
end Go.Proofs.Y.kH
