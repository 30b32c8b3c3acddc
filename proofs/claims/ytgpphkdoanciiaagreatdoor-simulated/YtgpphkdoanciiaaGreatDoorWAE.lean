import Derived.Test.YtgpphkdoanciiaaGreatDoorWAD
import Derived.Lib.Bytealg
import Derived.WalkKit
import Derived.WalkSpells
import Derived.WalkLawsBesides
import Derived.Deep.Light
import Derived.WalkMore
import Derived.Deep.QuietTactic
import Derived.BigQuiet
import Derived.Conc.LeavingOf
import Derived.Conc.CrowdStepC
import Derived.Listen
import Derived.ProofKit
import Derived.Deep.Slices
set_option linter.all false
set_option maxRecDepth 1000000
set_option maxHeartbeats 8000000
open Go.Proofs.Tryz renaming prog->À,ntmps67->í,func67->ó,zeroCells292->ú,ntmps100->û,func100->Ā,func38->Ē,results45->Ģ,underlying25->ĩ,func36->ļ,results36->Ľ,func17->Ł,ntmps160->Ŋ,ntmps147->ŋ,ntmps38->Ŏ,func160->Œ,func147->Ŗ,ntmps95->ŗ,ntmps36->Ř,func95->ť,func30->ŧ,func22->Ũ,ntmps123->Ÿ,ntmps101->ż,func123->Δ,func101->Κ,ntmps96->Μ,ntmps45->Ν,ntmps30->Ο,func96->Ω,func45->ε,func35->ζ,func37->η,func15->ι,f38->ai
open Option renaming none->Á,some->Â,bind_eq_some_iff->Ü,bind_eq_bind->ê,map->ð,map_eq_some_iff->ò,isSome_none->ö,pure_def->ā,map_some->Ă,bind_some->ş
open Go.Value renaming pointer->Ã,string->Ä,int->Å,slice->Ç,tuple->ë,bool->õ,cells->Ĺ
open Go.Ending renaming returned->Æ
open Or renaming inl->È,inr->Ï
open Go.IntKind renaming i64->É,u64->ã,wrap_u64->Ć,wrap_i64->ŝ,u8->ū
open And renaming intro->Ê
open Bool renaming false->Ë,true->Î,false_eq_true->ì,eq_iff_iff->ė
open Nat renaming le_trans->Ì,zero_le->Ø,le_refl->æ,lt_of_lt_of_le->Ġ,eq_zero_or_pos->ģ,zero_add->œ,mul_le_mul->ű
open Go renaming World->Í,Value->Ñ,Calls->Ò,Addr->ü,bodyPost_ret->ÿ,Act->Ĉ,Goroutine->Ċ,TypeId->č,Frame->Ě,Oper->ĝ,TypeInfo->ħ,maxLen->ī,undef->ĸ,results->Ń,execOp->ś,runNT_fst->Ţ,run_underlying->Ů,info_parts->ů,heap_alloc_new->Ŵ,Tape->ŷ,Trace->Ž,runNT->ſ,mem_ready->Β,wp_loop->Γ,wpList_plain->Ε,yielded->Ι,cell_one_new->Λ,FuncId->Ρ,Code->Τ,storeCells->ν,resolve->ρ,builtin->ς,Program->ω,invoke->ar
open Go.Item renaming inRegion->Ð,code->ax
open List renaming getElem?_eq_getElem->Ó,getElem?_eq_some_iff->Õ,length_append->Ù,mem_map->Ú,eq_nil_of_length_eq_zero->Ý,mem_append->â,mem_of_getElem?->ç,setIfInBounds_toArray->é,length_map->ù,set_cons_zero->ý,set_cons_succ->þ,replicate->ą,length_cons->ď,cons_append->Đ,mem_cons_of_mem->ē,getElem?_of_mem->Ĕ,append_nil->ĕ,nil_append->Ę,getElem_of_mem->Ĝ,getD->Ğ,getElem?_append_right->ğ,getElem?_append_left->Ĥ,extract_eq_take_drop->ĥ,mem_or_eq_of_mem_set->Ħ,take_add_one->Ĩ,getElem?_map->Ī,all_eq_true->ĭ,range->ĳ,set_append_right->Ĵ,length_pos_iff->Ņ,map_cons->ŉ,mem_singleton->ō,map_nil->Ő,append_assoc->ő,ext_getElem?->Ŕ,size_toArray->ř,length_take->Ś,map_toArray->Ŝ,mem_flatMap->Ş,length_nil->ũ,mem_range->Ŷ
open Option.some renaming injEq->Ô,inj->ag
open Go.Lib renaming byteCells->Ö,indexByte->Þ,strCells->į,hasPrefix->ź,TabIs->χ
open Go.Obj renaming cells->Û
open Go.Code renaming wp->ß,wp_mono->İ,loop->ń,skip->aj
open Go.World renaming cell?->à,setCell->Ż,drew->ξ,var?->ο
open Array renaming getElem?_eq_some_iff->á,getElem?_eq_getElem->å,mem_toList_iff->î,getElem_mem->ă,length_toList->ě,size_setIfInBounds->Ĭ,getElem?_eq_none->ı,mem_of_getElem?->ĵ,getElem?_modify->Ķ,getElem?_toList->ķ,toList_extract->ĺ,replicate->Ū
open Go.Region renaming ready->ä,wanted->đ,Mode->Ŀ
open Go.Frame renaming enter->è,finish_at->ę
open Go.Conc.Goes renaming stop->ï
open Go.Ground renaming phase->ñ,data->ĉ
open Go.Conc renaming events_call_body->ô,crowd->Į,goes_leave1->Ŧ,Good->Ξ,goes_leave2->θ,listed->ay
open ByteArray renaming size_append->ø,getElem_eq_getElem_data->ċ,size_extract->Č,data_extract->Ĳ,size->ŭ,data->Ű,extract->σ,mk->aB
open Go.CallKind renaming normal->Ą
open Go.Region.linearise renaming go->ć
open Go.Great renaming wpList_runTo->Ď
open Go.Builtin renaming append_->Ė,firstCells->Ō,lenOf->Ź,append->κ,zeroCells->φ
open Go.RowKit.Below renaming heap_setCell->ġ,heap_alloc->Š
open Go.IntWalk renaming i64_in->Ļ,i64_left->š
open Go.Made renaming word->ł,reckonStruct->ŕ,infoAt->ţ,mostCells->Ų,reckon->Χ
open Int renaming toNat_of_nonneg->ņ,le_refl->Ť
open Go.Operand renaming tmp->ň
open Go.Result renaming andThen_ok->ŏ,andThen->ų
variable{i n j b k m J j9 j7 j6:Nat}{w u W jX:Í}{v x z jQ:Ñ}{g:Ċ}{a p:ü}{h c:Int}{e t T:č}{d q:Array Ñ}{P:ω}{y:Ĉ}{B:ByteArray}{X:Nat->Prop}{O:Option ü}{l:List Ñ}{yQ:Bool}{K H:Ĉ->Í->Prop}{o:ĝ}{D:Nat->Nat}{E:Array Ċ}{L:List Go.Item}{jJ:List Nat}{qX:List Ě}{qJ:Ž}{zX:Go.Loc->Prop}{zQ:List Int}{zJ:ħ}{xQ:ŷ}{xJ:Nat×Nat}{vX:List ByteArray}{vQ:Ñ->Í->Prop}{vJ:Go.Exit->Ĉ->Í->Prop}{Q:Array ĝ}{f:Ě}{F:Ρ}{s:Go.Func}
namespace Go.Proofs.Y.gA
open Go Go.Proofs Go.RowKit Go.Proofs.Y.Lift
def DC:Τ->Option Τ
 |ń c=>Â c
 |.seq a b=>match DC b with
  |some c=>Â c
  |none=>DC a
 |.block _ c=>DC c
 |.scope c=>DC c
 |.cond _ a b=>match DC b with
  |some c=>Â c
  |none=>DC a
 |_=>Á
noncomputable def NO:Τ:=(ai.body.bind ku).getD aj
noncomputable def NP:Τ:=(ai.body.bind DC).getD aj
def QE(k:Nat)(X:Ĉ->Í->Prop):Exit->Ĉ->Í->Prop
 |.exit i,a,w=>i=k/\X a w
 |_,_,_=>False
def nN(a:ByteArray)(b:List ByteArray):List UInt8:=b.flatMap λy=>a.data.toList++y.data.toList
def T5(a:ByteArray):List ByteArray->List UInt8
 |[]=>[]
 |x::r=>x.data.toList++nN a r
def iM(xs:List ByteArray):Nat:=(xs.map ŭ).sum
def T8(a b:List ByteArray):iM (a++b)=iM a+iM b:=by simp[iM]
def aaQ(a:List ByteArray)(j:Nat):iM (a.take j)<=iM a:=by have h:=T8 (a.take j)<|a.drop j;simp_all
def NQ(a:ByteArray)(c:a.size=1):∀b:List ByteArray,(nN a b).length=iM b+b.length
 |[]=>rfl
 |x::r=>by
  have e:nN a (x::r)=(a.data.toList++x.data.toList)++nN a r:=U;have d:a.data.toList.length=1:=by simpa using c
  have f:x.data.toList.length=x.size:=fi
  have g:iM (x::r)=x.size+iM r:=by simp[iM]
  rw[e,Ù,Ù,NQ a c r,d,f,g,ď];omega
def Gd(a:Option ü)(n b:Nat)(c:ByteArray)(m i:Int)(u:Nat->Ñ):Ĉ:=⟨#[Ç a n b,Ä c,u 2,u 3,u 4,Å É m,u 6,u 7,u 8,u 9,u 10,u 11,u 12,u 13,u 14,u 15,u 16,u 17,u 18,u 19,u 20,u 21,u 22,u 23,u 24,u 25,u 26,u 27,u 28,u 29,u 30,u 31,u 32,u 33,u 34,u 35,u 36,u 37,u 38,Ç a n b,Å É n,Å É i,u 42,u 43,u 44,u 45,u 46,u 47,u 48,u 49,u 50,u 51,u 52,u 53,u 54,u 55,u 56,u 57,u 58,u 59,u 60,u 61,u 62,u 63,u 64,u 65,u 66,u 67,u 68,u 69,u 70,u 71,u 72,u 73,u 74],[]⟩
def Ge(b:Option ü)(n c:Nat)(d:ByteArray)(m i:Int)(a:Ĉ):Prop:=∃u,a=Gd b n c d m i u
def qT(a:Option ü)(n c b:Nat)(d:ByteArray)(i:Int)(u:Nat->Ñ):Ĉ:=⟨#[u 0,Ä d,u 2,u 3,u 4,u 5,u 6,u 7,Ã<|Â ⟨b,0,Á⟩,u 9,u 10,u 11,u 12,u 13,u 14,u 15,u 16,u 17,u 18,u 19,u 20,u 21,u 22,u 23,u 24,u 25,u 26,u 27,u 28,u 29,u 30,u 31,u 32,u 33,u 34,u 35,u 36,u 37,u 38,u 39,u 40,u 41,u 42,u 43,u 44,u 45,u 46,u 47,u 48,u 49,u 50,u 51,u 52,u 53,u 54,u 55,u 56,u 57,u 58,u 59,u 60,u 61,u 62,Ç a n c,Å É n,Å É i,u 66,u 67,u 68,u 69,u 70,u 71,u 72,u 73,u 74],[]⟩
def Gf(c:Option ü)(n d b:Nat)(e:ByteArray)(i:Int)(a:Ĉ):Prop:=∃u,a=qT c n d b e i u
section
variable{X:Ĉ->Í->Prop}{sep:ByteArray}{xs:List ByteArray}
def aph(u:Nat->Ñ)(m:Int)(b:∀a,Ge O n i sep m n a->X a w): ß À NO (Exit.then K<|QE 1 X) (Gd O n i sep m n u) w:=by
 unfold Gd;conv=>arg 2;whnf
 go_wp2_with fail
 exact⟨U,b _ (gk _)⟩
def apj(u:Nat->Ñ)(m j:Nat)(f:j<n)(g:n<=1000000)(b c:Nat)(e:O=Â ⟨b,c,Á⟩)(x:ByteArray)(h:w.cell? ⟨b,c+j,Á⟩=Â (Ä x))(k:m+x.size<=140737488355328) (d:∀a,Ge O n i sep ((m+x.size:Nat):Int) ((j+1:Nat):Int) a->K a w): ß À NO (Exit.then K<|QE 1 X) (Gd O n i sep m j u) w:=by
 unfold Gd;conv=>arg 2;whnf
 subst e;have H:=fc d;clear d;go_wp2_with fail;exact H.out _ (gk _)
def J1(O:Option ü)(n i:Nat)(sep:ByteArray)(b:Nat)(xs:List ByteArray)(u:Í)(a:Ĉ)(w:Í):Prop:=
 ∃j:Nat,Ge O n i sep ((b+iM (xs.take j):Nat):Int) j a/\j<=n/\w=u
def J1E(O:Option ü)(n i:Nat)(sep:ByteArray)(b:Nat)(xs:List ByteArray)(u:Í)(a:Ĉ)(w:Í):Prop:=
 Ge O n i sep ((b+iM xs:Nat):Int) n a/\w=u
def NS(n:Nat)(a:Ĉ)(_:Í):Nat:=match a.tmps.getD 41 ĸ with
 |Å _ i=>n-i.toNat
 |_=>0
def aaR(b:Ge O n i sep h j y):NS n y w=n-j:=by obtain⟨u,rfl⟩:=b;show n-(j:Int).toNat=_;simp
theorem apk(r:n=xs.length)(f:n<=1000000)(g:nL O (ju xs) u)(s:j+iM xs<=140737488355328)(a:Ĉ)(w:Í)(h:J1 O n i sep j xs u a w): ß À NO (Exit.then (λb c=>J1 O n i sep j xs u b c/\NS n b c<NS n a w)<|QE 1<|J1E O n i sep j xs u) a w:=by
 obtain⟨b,d,t,rfl⟩:=h;rw[aaR d];obtain⟨c,rfl⟩:=d;by_cases k:b=n
 .subst k;refine aph c _ λa q=>⟨?_,U⟩;grind
 .obtain⟨x,e⟩:∃x,xs[b]?=Â x:=⟨_,Ó Z⟩;let⟨l,m,o,p⟩:=g b (Ä x) (by simp[ju,e]);have v:iM (xs.take<|b+1)=iM (xs.take b)+x.size:=by
   rw[Ĩ,e,T8];simp[iM]
  have y:=aaQ xs<|b+1;refine apj c _ b Z f l m o x p Z λa q=>⟨⟨b+1,?_,Z,U⟩,by rw[aaR q];omega⟩;grind
def apl(u:Nat->Ñ)(c:∀a,Gf O n i b sep n a->X a w): ß À NP (Exit.then K<|QE 3 X) (qT O n i b sep n u) w:=by
 unfold qT;conv=>arg 2;whnf
 go_wp2_with fail
 exact⟨U,c _ (gk _)⟩
def apm(c:Nat->Ñ)(j:Nat)(y:j<n)(z:n<=1000000)(d f:Nat)(o:O=Â ⟨d,f,Á⟩)(x:ByteArray)(p:u.cell? ⟨d,f+j,Á⟩=Â (Ä x))(l:List UInt8)(g:o6 u b (Ö l) w)(q:sep.size=1)(B:l.length+1+x.size<=140737488355328) (r:∀a h,Gf O n i b sep ((j+1:Nat):Int) a->o6 u b (Ö<|l++(sep.data.toList++x.data.toList)) h->K a h): ß À NP (Exit.then K<|QE 3 X) (qT O n i b sep j c) w:=by
 unfold qT;conv=>arg 2;whnf
 subst o;have C:=g.r.r p id;have k:=Lib.byteCells_length l;have s:(Ö l++į sep).length=l.length+1:=by rw[Ù,k,Lib.strCells_length,q]
 have E:Ö l++į sep++į x=Ö (l++(sep.data.toList++x.data.toList)):=by simp[Ö,į]
 have H:=fc<|Ê g<|Ê r<|Ê k<|Ê s E;go_wp2_with (first
  |(go_at_call 55;refine(T4 t.out x<|by rw[H.out.2.2.2.1];omega).mono ?_;rintro e D ⟨rfl,m⟩;have v:=fc m;clear m)
  |(go_at_call 55;refine(T4 H.out.1 sep (by rw[H.out.2.2.1];omega)).mono ?_;rintro e D ⟨rfl,m⟩;have t:=fc m;clear m))
 apply H.out.2.1 _ _ (gk _);rw[<-H.out.2.2.2.2];exact v.out
def J2(O:Option ü)(n i b:Nat)(sep:ByteArray)(c:List UInt8)(xs:List ByteArray)(u:Í)(a:Ĉ)(w:Í):Prop:=
 ∃j:Nat,Gf O n i b sep j a/\j<=n/\o6 u b (Ö<|c++nN sep (xs.take j)) w
def J2E(O:Option ü)(n i b:Nat)(sep:ByteArray)(c:List UInt8)(xs:List ByteArray)(u:Í)(a:Ĉ)(w:Í):Prop:=
 Gf O n i b sep n a/\o6 u b (Ö<|c++nN sep xs) w
def NT(n:Nat)(a:Ĉ)(_:Í):Nat:=match a.tmps.getD 65 ĸ with
 |Å _ i=>n-i.toNat
 |_=>0
def aaS(c:Gf O n i b sep j y):NT n y w=n-j:=by obtain⟨u,rfl⟩:=c;show n-(j:Int).toNat=_;simp
theorem apn{d:List UInt8}(z:n=xs.length)(h:n<=1000000)(k:sep.size=1)(l:nL O (ju xs) u)(B:d.length+iM xs+n<=140737488355328)(a:Ĉ)(w:Í)(m:J2 O n i b sep d xs u a w): ß À NP (Exit.then (λc e=>J2 O n i b sep d xs u c e/\NT n c e<NT n a w)<|QE 3<|J2E O n i b sep d xs u) a w:=by
 let⟨j,g,C,o⟩:=m;rw[aaS g];obtain⟨c,rfl⟩:=g;by_cases p:j=n
 .subst p;refine apl c λa q=>⟨q,?_⟩;grind
 .obtain⟨x,f⟩:∃x,xs[j]?=Â x:=⟨_,Ó Z⟩;let⟨r,s,t,v⟩:=l j (Ä x) (by simp[ju,f]);have D:iM (xs.take<|j+1)=iM (xs.take j)+x.size:=by
   rw[Ĩ,f,T8];simp[iM]
  have E:=aaQ xs<|j+1;have y:(d++nN sep (xs.take j)).length=d.length+iM (xs.take j)+j:=by grind [Ù,NQ,Ś]
  have F:nN sep (xs.take<|j+1)=nN sep (xs.take j)++(sep.data.toList++x.data.toList):=by rw[Ĩ,f];simp[nN]
  refine apm c j Z h r s t x v _ o k (by rw[y];omega) λa e q G=>⟨⟨j+1,q,Z,?_⟩,by rw[aaS q];omega⟩;grind
end
section
variable{sep:ByteArray}{xs:List ByteArray}
def jd(sep:ByteArray)(xs:List ByteArray):ByteArray:=⟨(T5 sep xs).toArray⟩
def apo:Ò À 38 #[Ç O 0 i,Ä sep] w λe a=>e=Æ (Ä ⟨#[]⟩)/\e8 (λ_=>False) w a:=by go_enter Ē,Ŏ;go_wp2_with fail;go_ret;exact⟨U,e8.fW _ _⟩
def apq(a b:Nat)(x:ByteArray)(d:w.cell? ⟨a,b,Á⟩=Â (Ä x)):Ò À 38 #[Ç (Â ⟨a,b,Á⟩) 1 i,Ä sep] w λe c=>e=Æ (Ä x)/\e8 (λ_=>False) w c:=by go_enter Ē,Ŏ;go_wp2_with fail;go_ret;exact⟨U,e8.fW _ _⟩
theorem apr(k:Nat)(K:1<=k)(L:k<1000000)(c d:Nat)(M:k+1<=i)(B:sep.size=1)(x:ByteArray)(g:k=xs.length)(f:nL (Â ⟨c,d,Á⟩) (ju<|x::xs) w)(C:iM (x::xs)+(k+1)<=140737488355328): Ò À 38 #[Ç (Â ⟨c,d,Á⟩) (k+1) i,Ä sep] w λe b=>e=Æ (Ä<|jd sep<|x::xs)/\e8 (λ_=>False) w b:=by
 have D:iM (x::xs)=x.size+iM xs:=by simp[iM]
 have m:∀a,Ge (Â ⟨c,d,Á⟩) (k+1) i sep ((k+iM ((x::xs).take 0):Nat):Int) (0:Nat) a->ß À (ń NO) (QE 1<|J1E (Â ⟨c,d,Á⟩) (k+1) i sep k (x::xs) w) a w:=λa h=>
  Γ (J1 (Â ⟨c,d,Á⟩) (k+1) i sep k (x::xs) w) (NS<|k+1) ⟨0,h,Ø _,U⟩<|apk (by simp[g]) Z f Z
 have n:nL (Â ⟨c,d+1,Á⟩) (ju xs) w:=λj u E=>by let⟨b,o,z,l⟩:=f (j+1) u (by simpa[ju]using E);grind
 have p:∀a W,Gf (Â ⟨c,d+1,Á⟩) k (i-1) w.heap.size sep (0:Nat) a->o6 w w.heap.size (Ö<|x.data.toList++nN sep (xs.take 0)) W->ß À (ń NP) (QE 3<|J2E (Â ⟨c,d+1,Á⟩) k (i-1) w.heap.size sep x.data.toList xs w) a W:=λa W h o=>
  Γ (J2 (Â ⟨c,d+1,Á⟩) k (i-1) w.heap.size sep x.data.toList xs w) (NT k) ⟨0,h,Ø _,o⟩<|apn g Z B n (by simp only[ě];have:x.data.size=x.size:=rfl;omega)
 let⟨_,_,F,q⟩:=f 0 (Ä x) U;cases F;have r:w.cell? ⟨c,d,Á⟩=Â (Ä x):=q;have s:x.data.toList++nN sep xs≠[]:=by grind [Ù,NQ,ũ]
 have N:(1:Int)<9223372036854775807/(k:Int):=by rw[Int.lt_iff_add_one_le,Int.le_ediv_iff_mul_le Z];omega
 have t:0<k+iM (x::xs)/\k+iM (x::xs)<=281474976710656:=Z
 have y:(Ö []).length+x.size<=140737488355328:=by simp[Ö];omega
 have H:=fc<|Ê m<|Ê p<|Ê t<|Ê y<|Ê s r;clear m p t y s q r f n g C D;generalize G:iM (x::xs)=S at*;go_enter Ē,Ŏ;go_wp2_with fail;refine İ ?_ (H.out.1 _ (gk _));rintro(_|_|_|_|_|_) a v hq;all_goals first|exact absurd hq id|skip
 obtain⟨rfl,b,rfl⟩:=hq;rw[G]at b;obtain⟨u,rfl⟩:=b;unfold Gd;go_wp2_with (first
  |(go_at_call 54;refine(apf ⟨æ _,e8.gG _ _ _ _,ff.N v [Ã Á,Ç Á 0 0] 109⟩ (k+S) H.out.2.2.1.1 H.out.2.2.1.2).mono ?_;rintro e I ⟨rfl,l⟩;have J:=l.r.r H.out.2.2.2.2.2 id;have z:=fc l;clear l)
  |(go_at_call 55;refine(T4 z.out x H.out.2.2.2.1).mono ?_;rintro e l ⟨rfl,z⟩;have I:=fc z;clear z))
 have J:o6 v v.heap.size (Ö<|x.data.toList++nN sep (xs.take 0)) l:=by have:=I.out;show o6 v v.heap.size (Ö<|x.data.toList++[]) l;rw[ĕ];exact this
 refine İ ?_ (H.out.2.1 _ _ (gk _) J);rintro(_|_|_|_|_|_) a w3 hq;all_goals first|exact absurd hq id|skip
 obtain⟨rfl,b,o⟩:=hq;obtain⟨v,rfl⟩:=b;unfold qT;go_wp2_with (go_at_call 56;refine(apg (fc o).out H.out.2.2.2.2.1).mono ?_;rintro e O ⟨rfl,z⟩;have I:=fc z;clear z);go_ret;exact⟨U,I.out⟩
def T9(a:n=xs.length)(f:n<=1000000)(g:n<=i)(h:sep.size=1)(b:nL O (ju xs) w)(j:iM xs+n<=140737488355328): Ò À 38 #[Ç O n i,Ä sep] w λe c=>e=Æ (Ä<|jd sep xs)/\e8 (λ_=>False) w c:=by
 cases xs with
 |nil=>subst a;exact apo
 |cons x r=>
  let⟨c,d,k,l⟩:=b 0 (Ä x) U;subst k;cases r with
  |nil=>
   subst a;have e:jd sep [x]=x:=by show aB ((x.data.toList++[]).toArray)=x;rw[ĕ]
   rw[e];exact apq c d x l
  |cons y r=>
   subst a;exact apr (r.length+1) Z (by simp at f;omega) c d g h x U b j
def aps(a:n=xs.length)(c:n<=1000000)(d:n<=i)(h:nL O (ju xs) w)(f:iM xs+n<=140737488355328): Ò À 123 #[Ç O n i] w λe b=>e=Æ (Ä<|if xs=[]then⟨#[45]⟩else jd ⟨#[44]⟩ xs)/\e8 (λ_=>False) w b:=by
 have H:=fc<|T9 (sep:=⟨#[44]⟩) a c d U h f;by_cases b:xs=[]
 .subst b;have e:=a;subst e;rw[if_pos U];clear a f H c d;go_enter Δ,Ÿ;go_wp2_with fail;go_ret;exact⟨U,e8.fW _ _⟩
 .rw[if_neg b];have k:0<n:=by rw[a];exact Ņ.2 b
  have l:((n:Int)==0)=Ë:=by simp;omega
  clear a;generalize jd ⟨#[44]⟩ xs=z at*;go_enter Δ,Ÿ;go_wp2_with (go_at_call 38;apply H.out.mono;rintro e m ⟨rfl,g⟩;have j:=fc g;clear g);go_ret;exact⟨U,j.out⟩
end
def Gi{M:Nat}:∀(a:List ByteArray),(∀z∈a,z.size<=M)->iM a<=M*a.length
 |[],_=>Ø _
 |x::r,h=>by
  have c:=Gi r λz b=>h z<|ē _ b;have d:=h x fi;have e:iM (x::r)=x.size+iM r:=by simp[iM]
  rw[e,ď,Nat.mul_add];omega
def NU{e:Nat×Int}(h:gh e.2):(rD e).size<=21:=by unfold rD;rw[ø];have:=yf e.1;have:=pO e.2.toNat (by have:=h.1;have:=h.2;omega);omega
def aaT{e:Int×Bool}(a:0<=e.1)(h:e.1<=400):(F9 e).size<=41:=by unfold F9;rw[ø,ø];have:=pO e.1.toNat Z;have:=pO e.2.toNat (by cases e.2<;>decide);have:ŭ ⟨#[58]⟩=1:=rfl;omega
section
variable{b:List ByteArray}
def aaU{ty:č}{base:Nat}(b:P.underlying t=Â (.slice e))(d:P.info? e=Â zJ)(h:w.ownsRow base e j v n l)(a:Option ü)(c:Nat): (Ė #[t,t] ty #[v,Ç a 0 c]).run P w=.ok v w:=by
 have f:(Ō zJ.size 0<|Ç a 0 c).run P w=.ok #[] w:=by cases a<;>simp[Ō,loadCells,loadCellsFrom]
 rcases h.2 with⟨rfl,rfl⟩|⟨g,m,o,rfl,_,_,k,_⟩
 .simp[Ė,Ů b,sizeOf,typeInfo,d,Ź,f,ν]
 .simp[Ė,Ů b,sizeOf,typeInfo,d,Ź,f,k,ν]
def apt{r:Array ĝ}{t:List ĝ}(l:o.guard=Á)(s c:Operand) (m:o.op=.call {callee:=.builtin κ,args:=#[s,c],argTypes:=#[25,25]}) (d:ik u v vX w) (n:y.eval s=v) {base:Nat} (B:w.ownsRow base 9 1 x b.length (ju b)) (e:y.eval c=x) (I:vX.length+b.length<=1000000) (h:∀j k,ik u j (vX++b) k->wpList À r vJ t (y.put o.dst j) k):wpList À r vJ (o::t) y w:=by
 let⟨J,p,D,E,F⟩:=ů zZ;rcases B.2 with⟨f,G⟩|⟨g,H,L,f,_⟩
 .have z:=Ý G;subst z;rw[f]at e;refine Ε l λK i=> ?_;have q:=aaU (ty:=o.type) ĩ p d.fj Á 0;unfold Oper.wp ś;simp only[m,ρ,ar,ς,Sem.run_bind,Sem.run_pure,ŏ,Ŝ,ŉ,Ő,n,e,q];exact i _ _<|h v w<|by rwa[ĕ]
 .by_cases C:b=[]
  .subst C;rw[f]at e;refine Ε l λK i=> ?_;have q:=aaU (ty:=o.type) ĩ p d.fj (Â ⟨g,0,Á⟩) H;unfold Oper.wp ś;simp only[m,ρ,ar,ς,Sem.run_bind,Sem.run_pure,ŏ,Ŝ,ŉ,Ő,n,e,q,ũ];exact i _ _<|h v w<|by rwa[ĕ]
  .have K:=Ņ.2 C;refine Dg l s c 25 m ĩ p D E F U n d.fj ⟨g,0,Á⟩ (ju b) (e.trans f) K (by simp[ju]) (B.cells<|by rw[f];rfl) (λi q=>by unfold ju at q;obtain⟨z,_,rfl⟩:=Ú.1 q;rfl) (by unfold ī;omega) Z d.r.M ?_;intro j k z;refine h j k ⟨?_,d.r.C z.r λi M q=> ?_⟩
   .have:=z.fj;rwa[show ju vX++ju b=ju (vX++b) by simp[ju],show vX.length+b.length=(vX++b).length by simp]at this
   .have:=(d.fj.lt i q).1;omega
end
def ik.I(h:ik u (Ç O n i) vX w):nL O (ju vX) w/\n=vX.length/\n<=i:=by
 rcases h.fj.2 with⟨b,d⟩|⟨g,f,k,b,_,_,d,_⟩
 .cases b;refine⟨λj x e=> ?_,d.symm,æ _⟩;rw[Ý d]at e;cases e
 .have e:n=vX.length:=by injection b
  subst e;injection b with _ _ h4;exact⟨nL.r h.fj,U,by rwa[h4]⟩
def DF(r:zI):ByteArray:=jd ⟨#[44]⟩<|[fI r.C.toNat,fI r.M.toNat,fI r.r.toNat]++r.I.map rD
theorem apu(x y:Nat)(g k:Int)(b c:Nat)(a:Bool)(f:List (Nat×Int))(L:b<18446744073709551616)(M:c<18446744073709551616)(S:f.length<=400000)(V:yc f)(W:lP w) (T:Ò À 158 #[Ã<|Â ⟨i,0,Á⟩,Å É x,Å É y,Å ã g,Å ã k] w λe j=>∃B,e=Æ (ë #[.agg #[Å ã b,õ a,Å ã c],B])/\j.ownsRow 0 257 2 B f.length (kt f)/\e8 (λ_=>False) w j): Ò À 119 #[Ã<|Â ⟨i,0,Á⟩,Å É x,Å É y,Å ã g,Å ã k] w λe j=>e=Æ (Ä<|jd ⟨#[44]⟩<|[fI a.toNat,fI c,fI b]++f.map rD)/\e8 (λ_=>False) w j:=by
 have N:a.toNat<18446744073709551616:=by cases a<;>decide
 have H:=fc<|Ê T<|Ê W V;go_enter Tryz.func119,Tryz.ntmps119;go_wp2_with (go_at_call 158;apply H.out.1.mono;rintro e l ⟨B,rfl,q,d⟩;obtain⟨v,Q,rfl⟩:=jl q;have C:=fc<|Ê d q;clear d q);change ß À _ _ _ (l.alloc<|Û #[Å ã b,õ a,Å ã c] 252);have D:=(e8.gG (λ_=>False) l #[Å ã b,õ a,Å ã c] 252).fe<|e8.fU _ _;have E:=(H.out.2.1.r C.out.1).r D;have o:=(ff.N l [Å ã b,õ a,Å ã c] 252).I (e8.fU (λ_=>False) _) id;have O:=C.out.1.fe D;have X:=ij C.out.2 D λ_ _=>id;refine mr (λj=>j.cell? ⟨l.heap.size,0,Á⟩=Â (Å ã b)/\j.cell? ⟨l.heap.size,1,Á⟩=Â (õ a)/\j.cell? ⟨l.heap.size,2,Á⟩=Â (Å ã c)) [] fp ?_;have h:=fc<|Ê (o.r 0 _ rfl)<|Ê (o.r 1 _ rfl)<|o.r 2 _ rfl;generalize l.heap.size=ob at*;generalize ξ (l.alloc<|Û #[Å ã b,õ a,Å ã c] 252)=w5 at*;apply tk 0 h.out;apply tk 1 h.out;apply tk 2 h.out;apply tk 5 h.out;apply tk 6 h.out;apply tk 8 h.out;apply tk 9 h.out;apply tk 10 h.out;apply gC 3;intro K d;go_simp;go_at_call 159;refine(Jj _ _).mono ?_;rintro e Y ⟨rfl,rn⟩;subst Y;rw[aaI];apply d.out _ _ λ_=>h.out;apply gC 4;intro K d;go_simp;go_at_call 118;refine(yd a.toNat N _ E).mono ?_;rintro e wa ⟨rfl,p⟩;have r:=o.I p id;have P:=E.r p;apply d.out _ _ λ_=>⟨r.r 0 _ U,r.r 1 _ U,r.r 2 _ U⟩;apply gC 7;intro K d;go_simp;go_at_call 118;refine(yd c M _ P).mono ?_;rintro e wb ⟨rfl,s⟩;have t:=r.I s id;have Pb:=P.r s;apply d.out _ _ λ_=>⟨t.r 0 _ U,t.r 1 _ U,t.r 2 _ U⟩;apply gC 11;intro K d;go_simp;go_at_call 118;refine(yd b L _ Pb).mono ?_;rintro e m ⟨rfl,F⟩;have u:=t.I F id;have n:=u.I (e8.gG (λ_=>False) m #[Ä<|fI a.toNat,Ä<|fI c,Ä<|fI b] 9) id;apply d.out _ _ λ_=>⟨u.r 0 _ U,u.r 1 _ U,u.r 2 _ U⟩;apply gC 12;intro K d;go_simp;apply d.out _ _ λ_=>⟨n.r 0 _ U,n.r 1 _ U,n.r 2 _ U⟩;apply gC 13;intro K d;go_simp;apply d.out _ _ λ_=>⟨n.r 0 _ U,n.r 1 _ U,n.r 2 _ U⟩;refine lZ fp ?_ _;have G:e8 (λ_=>False) w5 (m.alloc<|Û #[Ä<|fI a.toNat,Ä<|fI c,Ä<|fI b] 9):=((p.fe s).fe F).fe<|e8.gG _ _ _ _;have T6:ik w (Ç (Â ⟨m.heap.size,0,Á⟩) 3 3) [fI a.toNat,fI c,fI b] (m.alloc<|Û #[Ä<|fI a.toNat,Ä<|fI c,Ä<|fI b] 9):=⟨World.ownsRow_lit m #[Ä<|fI a.toNat,Ä<|fI c,Ä<|fI b] 3 (Ì O.M ((p.fe s).fe F).M) (by unfold ī;omega) U,O.fe G⟩;have L6:=ij X G λ_ _=>id;have P6:=E.r G;have I:=fc<|Ê T6<|Ê L6 P6;generalize m.alloc (Û #[Ä<|fI a.toNat,Ä<|fI c,Ä<|fI b] 9)=w6 at*;generalize m.heap.size=tb at*;have jk:∀z∈[fI a.toNat,fI c,fI b]++f.map rD,z.size<=21:=λz hz=>by
  rcases â.1 hz with q|q
  .have h1:=pO a.toNat N;have h2:=pO c M;have v:=pO b L;grind
  .obtain⟨e,v,rfl⟩:=Ú.1 q;exact NU (H.out.2.2 e v).2
 have s5:=Gi _ jk;have hlen:([fI a.toNat,fI c,fI b]++f.map rD).length=3+f.length:=by simp;omega
 have J:=fc<|Ê s5 hlen;go_wp2_with (first
  |(go_at_call 124;refine(aaH U S H.out.2.2 I.out.2.2<|nL.r I.out.2.1).mono ?_;rintro e v ⟨lt,rfl,q⟩;obtain⟨ta,tc,rfl⟩:=jl q.fj;rw[ù]at q;have Q:=fc q;clear q)
  |(at_builtin;refine apt U _ _ U (I.out.1.fK Q.out.r) U Q.out.fj U (by simp;omega) ?_;intro cv w8 v;obtain⟨ca,cc,rfl⟩:=jl v.fj;generalize([fI a.toNat,fI c,fI b]++f.map rD).length=cn at v|-;have q:=fc v;clear v)
  |(go_at_call 38;refine(T9 q.out.I.2.1 (by have:=q.out.I.2.1;rw[this,J.out.2];omega) q.out.I.2.2 U q.out.I.1 (by have:=q.out.I.2.1;have h1:=J.out.1;have h2:=J.out.2;omega)).mono ?_;rintro e w9 ⟨rfl,v⟩;have Q:=fc v;clear v))
 go_ret;exact⟨U,q.out.r.fe Q.out⟩
def apv{s:St}(v:mA i s h w)(b:gJ s)(z:iL w)(B:lP w)(x y:Nat)(g k:Int)(c:x<8)(d:y<8)(f:0<=g)(j:g<=100000)(l:gh k): Ò À 119 #[Ã<|Â ⟨i,0,Á⟩,Å É x,Å É y,Å ã g,Å ã k] w λe q=>e=Æ (Ä<|DF<|gl s [] x y g k)/\e8 (λ_=>False) w q:=by have T:=aaE v b z x y g k c d f j l _ U;have e:=Ni s [] x y g k b c d l f j (by simp;omega);have m:=TO s [] x y g k b c d l f j (by simp;omega) (λ_ q=>by cases q);obtain⟨q,o,a,t,p,C⟩:∃q o a t p,gl s [] x y g k=⟨q,o,a,t,p⟩:=⟨_,_,_,_,_,U⟩;rw[C]at T e m|-;have D:=e.C;have E:=e.r;have r:=e.M;have u:=e.I;simp only at D E r u m T;obtain⟨F,rfl⟩:∃n:Nat,q=n:=⟨q.toNat,Z⟩;obtain⟨G,rfl⟩:∃n:Nat,a=n:=⟨a.toNat,by have:=r.1;omega⟩;exact apu x y g k F G o p Z (by have:=r.2;omega) (by simp at u;omega) m B T
def qK(w:Í):Prop:=w.cell? ⟨4,15,Á⟩=Â (Å ū 4)
def qK.r(h:qK w)(k:e8 (λ_=>False) w u):qK u:=k.r h id
def apw(c:qK w):Ò À 207 #[Å ã 16] w λe a=>e=Æ (Å É 4)/\a=w:=by
 unfold qK at c;have b:ã.wrap (bits BinOp.and ã 16 (ã.wrap<|-16)*285870213051353865)/288230376151711744=15:=A
 go_enter Tryz.func207,Tryz.ntmps207;go_wp2;go_ret;exact⟨U,U⟩
def tz(c:qK w):Ò À 201 #[Å ã 16] w λe a=>e=Æ (Å É 4)/\a=w:=by go_enter Tryz.func201,Tryz.ntmps201;go_wp2_with (go_at_call 207;refine(apw c).mono ?_;rintro e a ⟨rfl,b⟩;subst a);go_ret;exact⟨U,U⟩
def apx:Ò À 200 #[Å É 16] w λe a=>e=Æ (õ Î)/\a=w:=by
 have b:bits BinOp.and É 16 15=0:=A
 go_enter Tryz.func200,Tryz.ntmps200;go_wp2;go_ret;simp_all
def o7(d:Nat):UInt8:=if h:d<36 then(⟨#[48,49,50,51,52,53,54,55,56,57,97,98,99,100,101,102,103,104,105,106,107,108,109,110,111,112,113,114,115,116,117,118,119,120,121,122]⟩:ByteArray)[d]'h else 0
def sD:Nat->Nat->List UInt8->List UInt8
 |0,_,acc=>acc
 |k+1,n,acc=>if n<16 then o7 n::acc else sD k (n/16) (o7 (n%16)::acc)
def aaV:∀k n a,(sD k n a).length<=k+a.length
 |0,_,a=>by simp[sD]
 |k+1,n,a=>by
  unfold sD;split
  .simp;omega
  .have:=aaV k (n/16)<|o7 (n%16)::a;simp at this;omega
noncomputable def NV:Τ:=(Tryz.f190.body.bind ku).getD aj
def Gj(a:Nat)(n i:Int)(u:Nat->Ñ):Ĉ:=⟨#[u 0,Å ã n,Å É 16,õ Ë,õ Ë,u 5,u 6,u 7,u 8,u 9,Ç Á 0 0,u 11,Ã<|Â ⟨a,0,Á⟩,Å É i,Å ã 4,Å ã 16,Å ã 15,u 17,u 18,u 19,u 20,u 21,u 22,u 23,u 24,u 25,u 26,u 27,u 28,u 29,u 30,u 31,u 32,u 33,u 34,u 35,u 36,u 37,u 38,u 39,u 40,u 41,u 42,u 43,u 44,u 45,u 46,u 47,u 48,u 49,u 50,u 51,u 52,u 53,u 54,u 55,u 56,u 57,u 58,u 59,u 60,u 61,u 62,u 63,u 64,u 65,u 66,u 67,u 68,u 69,u 70,u 71,u 72,u 73,u 74,u 75,u 76,u 77,u 78,u 79,u 80,u 81,u 82,u 83,u 84,u 85,u 86,u 87,u 88,u 89,u 90,u 91,u 92,u 93,u 94,u 95,u 96,u 97,u 98,u 99,u 100,u 101],[]⟩
def Gk(b:Nat)(n i:Int)(a:Ĉ):Prop:=∃u,a=Gj b n i u
def zc(i:Nat)(a:List UInt8):List Ñ:=ą i (Å ū 0)++Ö a
def aaW(i:Nat)(a:List UInt8):(zc i a).length=i+a.length:=by simp[zc,Ö]
def aaX(i:Nat)(a:List UInt8)(c:UInt8):(zc (i+1) a).set i (Å ū c.toNat)=zc i (c::a):=by unfold zc;rw[List.replicate_succ',ő,Ĵ _ _ fi];simp[Ö]
section
variable{X:Ĉ->Í->Prop}
def apy(u:Nat->Ñ)(n b:Nat)(d:n<16)(c:∀a,Gk i n b a->X a w): ß À NV (Exit.then K<|QE 0 X) (Gj i n b u) w:=by
 unfold Gj;conv=>arg 2;whnf
 go_wp2_with fail
 exact⟨U,c _ (gk _)⟩
def apz(u:Nat->Ñ)(n b:Nat)(g:16<=n)(h:n<18446744073709551616)(j:b<65)(v:Ñ)(c:w.cell? ⟨i,b,Á⟩=Â v)(k:w.frozen? ⟨i,b,Á⟩=Ë) (e:∀a,Gk i ((n/16:Nat):Int) b a->K a (w.setCell ⟨i,b,Á⟩<|Å ū (o7<|n%16).toNat)): ß À NV (Exit.then K<|QE 0 X) (Gj i n ((b+1:Nat):Int) u) w:=by
 unfold Gj;conv=>arg 2;whnf
 have l:bits BinOp.and ã (n:Int) 15=((n%16:Nat):Int):=by have:=(bits_nat ã 64 A (λn f H=>by rw[Ć];omega) n 15 Z A).1;rwa[show(15:Nat)=2^4-1 from rfl,Nat.and_two_pow_sub_one_eq_mod]at this
 have f:n%16<36:=Z
 have m:(⟨#[48,49,50,51,52,53,54,55,56,57,97,98,99,100,101,102,103,104,105,106,107,108,109,110,111,112,113,114,115,116,117,118,119,120,121,122]⟩:ByteArray)[n%16]'f=o7 (n%16):=by unfold o7;rw[dif_pos f]
 have H:=fc e;clear e;generalize o:n%16=d at*;go_wp2_with fail;exact H.out _ (gk _)
def XI(i:Nat)(u:Í)(d:List UInt8)(a:Ĉ)(w:Í):Prop:=
 ∃(n b:Nat) (c:List UInt8),Gk i n b a/\50<=b/\b+c.length=65/\n<16^(b-49)/\n<18446744073709551616/\e8 (λk=>k=i) u w/\ff i (zc b c) 292 w/\sD (b-49) n c=d
def XE(i:Nat)(u:Í)(d:List UInt8)(a:Ĉ)(w:Í):Prop:=
 ∃(n b:Nat) (c:List UInt8),Gk i n b a/\n<16/\50<=b/\b+c.length=65/\e8 (λk=>k=i) u w/\ff i (zc b c) 292 w/\o7 n::c=d
def NW(a:Ĉ)(_:Í):Nat:=match a.tmps.getD 1 ĸ with
 |Å _ i=>i.toNat
 |_=>0
def aaY(b:Gk i n j y):NW y w=n:=by obtain⟨u,rfl⟩:=b;show(n:Int).toNat=_;simp
theorem apA{h:List UInt8}(a:Ĉ)(w:Í)(o:XI i u h a w): ß À NV (Exit.then (λb c=>XI i u h b c/\NW b c<NW a w)<|QE 0<|XE i u h) a w:=by
 let⟨n,b,f,l,p,r,s,t,m,e,d⟩:=o;rw[aaY l];obtain⟨c,rfl⟩:=l;obtain⟨j,rfl⟩:∃j,b=j+1:=⟨b-1,Z⟩;have x:j+1-49=(j-49)+1:=Z
 rw[x]at d s;unfold sD at d;by_cases g:n<16
 .rw[if_pos g]at d;exact apy c n (j+1) g λa q=>⟨n,j+1,f,q,g,p,r,m,e,d⟩
 .rw[if_neg g]at d;have y:50<=j:=by
   grind
  have C:(zc (j+1) f).length=65:=by rw[aaW];omega
  obtain⟨v,z⟩:∃v,(zc (j+1) f)[j]?=Â v:=⟨_,Ó Z⟩;have B:n/16<16^(j-49):=by grind
  refine apz c n j Z t Z v (e.r j v z) (e.C j) λa q=>⟨⟨n/16,j,o7 (n%16)::f,q,y,by simp;omega,B,Z,m.fe (e8.I (X:=λk=>k=i) U _<|Ï e.G),?_,d⟩,by rw[aaY q];omega⟩;have:=e.fQ j<|Å ū (o7<|n%16).toNat;grind [aaX]
end
def apB:ú=(zc 65 []).toArray:=fp
def nO(n:Nat):ByteArray:=⟨(sD 16 n []).toArray⟩
theorem apC(n:Nat)(l:n<18446744073709551616)(o:qK w):Ò À 190 #[Ç Á 0 0,Å ã n,Å É 16,õ Ë,õ Ë] w λe p=>e=Æ (ë #[Ç Á 0 0,Ä<|nO n])/\e8 (λ_=>False) w p:=by
 have L:∀a,Gk w.heap.size n (65:Nat) a->ß À (ń NV) (QE 0<|XE w.heap.size (w.alloc<|Û ú 292)<|sD 16 n []) a (w.alloc<|Û ú 292):=λa r=>
  Γ (XI w.heap.size (w.alloc<|Û ú 292)<|sD 16 n []) NW ⟨n,65,[],r,Z,U,by show n<16^16;omega,l,e8.fW _ _,by rw[apB];exact ff.N w (zc 65 []) 292,U⟩ apA
 have H:=fc<|Ê o L;unfold nO;generalize sD 16 n []=res at*;go_enter Tryz.func190,Tryz.ntmps190;go_wp2_with (first
  |(go_at_call 200;refine apx.mono ?_;rintro e b ⟨rfl,c⟩;subst b)
  |(go_at_call 201;refine(tz (H.out.1.r kp)).mono ?_;rintro e b ⟨rfl,c⟩;subst b))
 refine İ (Q:=QE 0<|XE w.heap.size (w.alloc<|Û ú 292) res) ?_ (H.out.2 _ (gk _));rintro(_|_|_|_|_|_) a v hq;all_goals first|exact absurd hq id|skip
 obtain⟨rfl,m,i,c,s,E,F,G,x,b,d⟩:=hq;obtain⟨u,rfl⟩:=s;unfold Gj;obtain⟨j,rfl⟩:∃j,i=j+1:=⟨i-1,Z⟩;have I:(zc (j+1) c).length=65:=by rw[aaW];omega
 obtain⟨z,y⟩:∃z,(zc (j+1) c)[j]?=Â z:=⟨_,Ó Z⟩;have J:=b.r j z y;have K:=b.C j;have M:(0:Int)<=(j:Int):=Z
 have N:(j:Int)<65:=Z
 have O:(j:Int)<=65:=Z
 have S:(0:Int)<=(m:Int):=Z
 have T:(m:Int)<36:=Z
 have f:m<36:=Z
 have V:(⟨#[48,49,50,51,52,53,54,55,56,57,97,98,99,100,101,102,103,104,105,106,107,108,109,110,111,112,113,114,115,116,117,118,119,120,121,122]⟩:ByteArray)[m]'f=o7 m:=by unfold o7;rw[dif_pos f]
 have B:=(e8.gG (λ_=>False) w ú 292).C x λi C q=>by omega
 have g:=b.fQ j<|Å ū (o7 m).toNat;rw[aaX,d]at g;have D:e8 (λ_=>False) w (v.setCell ⟨w.heap.size,j,Á⟩<|Å ū (o7 m).toNat):=B.C (e8.I (X:=λk=>k=w.heap.size) U _<|Ï b.G) λi C q=>by omega
 have W:res.length=65-j:=by rw[<-d];simp;omega
 have Y:(convert 107 9<|Ç (Â ⟨w.heap.size,j,Á⟩) (65-j)<|65-j).run À (v.setCell ⟨w.heap.size,j,Á⟩<|Å ū (o7 m).toNat)=.ok (Ä ⟨res.toArray⟩) (v.setCell ⟨w.heap.size,j,Á⟩<|Å ū (o7 m).toNat):=by have h:=run_convert_bytes_back (P:=À) (v.setCell ⟨w.heap.size,j,Á⟩<|Å ū (o7 m).toNat) 107 9 5 ⟨w.heap.size,j,Á⟩ (65-j) res fp fp fp (λt k=>by rw[Addr.add_mid];apply g.r (j+t) _;unfold zc;rw[ğ fi];simp[Ö,Ó k]);grind
 have k:=fc D;go_wp2;go_ret2;simp_all
def apD(n:Nat)(b:n<18446744073709551616)(c:qK w):Ò À 172 #[Å ã n,Å É 16] w λe a=>e=Æ (Ä<|nO n)/\e8 (λ_=>False) w a:=by go_enter Tryz.func172,Tryz.ntmps172;go_wp2_with (go_at_call 190;refine(apC n b c).mono ?_;rintro e a ⟨rfl,d⟩);go_ret;exact⟨U,d⟩
def apE(n:Nat)(b:n<18446744073709551616)(c:qK w):Ò À 157 #[Å ã n,Å É 16] w λe a=>e=Æ (Ä<|nO n)/\e8 (λ_=>False) w a:=by go_enter Tryz.func157,Tryz.ntmps157;go_wp2_with (go_at_call 172;refine(apD n b c).mono ?_;rintro e a ⟨rfl,d⟩);go_ret;exact⟨U,d⟩
def apF(s:ByteArray)(w:Í)(h:s.data.toList.head?=Â 48):Ò À 175 #[Ä s,Ä ⟨#[48]⟩] w λe b=>e=Æ (õ Î)/\b=w:=by
 have H:=Tryz.strings_HasPrefix s ⟨#[48]⟩ w;have e:ź s.data.toList (Ű ⟨#[48]⟩).toList=Î:=by
  generalize s.data.toList=l at h;cases l with
  |nil=>cases h
  |cons a r=>cases h;rfl
 rwa[e]at H
def apG(s:ByteArray)(w:Í)(h:¬s.data.toList.head?=Â 48):Ò À 175 #[Ä s,Ä ⟨#[48]⟩] w λe b=>e=Æ (õ Ë)/\b=w:=by
 have H:=Tryz.strings_HasPrefix s ⟨#[48]⟩ w;have e:ź s.data.toList (Ű ⟨#[48]⟩).toList=Ë:=by
  generalize s.data.toList=l at h;cases l with
  |nil=>rfl
  |cons a r=>
   have c:¬a=48:=λq=>h (by rw[q];rfl);show((48:UInt8)==a&&List.isPrefixOf [] r)=Ë;have:((48:UInt8)==a)=Ë:=beq_eq_false_iff_ne.2 λq=>c q.symm;rw[this];rfl
 rwa[e]at H
def Aa(k:Nat):ByteArray:=σ ⟨#[48,48,48,48,48,48,48,48,48,48,48,48,48,48,48,48,48,48,48,48,48,48,48,48,48,48,48,48,48,48,48,48,48,48,48,48,48,48,48,48,48,48,48,48,48,48,48,48,48,48,48,48,48,48,48,48,48,48,48,48,48,48,48,48]⟩ 0 k
def apH(k:Nat)(d:2<=k)(f:k<=64):Ò À 160 #[Ä ⟨#[48]⟩,Å É k] w λe a=>e=Æ (Ä<|Aa k)/\a=w:=by
 have g:((k:Int)==0)=Ë:=by simp;omega
 have h:((k:Int)==1)=Ë:=by simp;omega
 have i:¬(k:Int)<0:=Z
 have j:(0:Int)<=(k:Int):=Z
 have l:(k:Int)<=64:=Z
 have m:ã.wrap (k:Int)=(k:Int):=by rw[Ć];omega
 have n:É.wrap (k:Int)=(k:Int):=by rw[ŝ];omega
 have M:=Tryz.bits_Mul 1 k A Z w;rw[show 1*k/18446744073709551616=0 by omega,show 1*k%18446744073709551616=k by omega]at M;have c:=fc M;go_enter Œ,Ŋ;go_wp2_with (first
  |(go_at_call 174;refine c.out.mono ?_;rintro e a ⟨rfl,b⟩;subst a)
  |(go_at_call 175;refine(apG _ _ A).mono ?_;rintro e a ⟨rfl,b⟩;subst a)
  |(go_at_call 175;refine(apF _ _ A).mono ?_;rintro e a ⟨rfl,b⟩;subst a))
 go_ret;exact⟨U,U⟩
def apI:Ò À 160 #[Ä ⟨#[48]⟩,Å É 0] w λe a=>e=Æ (Ä ⟨#[]⟩)/\a=w:=by go_enter Œ,Ŋ;go_wp2;go_ret;exact⟨U,U⟩
def apJ:Ò À 160 #[Ä ⟨#[48]⟩,Å É 1] w λe a=>e=Æ (Ä ⟨#[48]⟩)/\a=w:=by go_enter Œ,Ŋ;go_wp2;go_ret;exact⟨U,U⟩
def apK(k:Nat)(a:k<=64):Ò À 160 #[Ä ⟨#[48]⟩,Å É k] w λe b=>e=Æ (Ä<|Aa k)/\b=w:=by
 match k with
 |0=>exact apI
 |1=>exact apJ
 |k+2=>exact apH (k+2) Z a
def Ab(n:Nat):ByteArray:=Aa (16-(nO n).size)++nO n
def aaZ(n:Nat):(nO n).size<=16:=by show(sD 16 n []).toArray.size<=16;have:=aaV 16 n [];simpa using this
def aa0(k:Nat):(Aa k).size<=k:=by unfold Aa;rw[Č];omega
def apL(n:Nat)(c:n<18446744073709551616)(d:qK w):Ò À 121 #[Å ã n] w λe a=>e=Æ (Ä<|Ab n)/\e8 (λ_=>False) w a:=by
 have g:=aaZ n;have h:=aa0<|16-(nO n).size;have T:=apE n c d;have R:∀W:Í,Ò À 160 #[Ä ⟨#[48]⟩,Å É ((16-(nO n).size:Nat):Int)] W λe a=>e=Æ (Ä<|Aa<|16-(nO n).size)/\a=W:=λW=>apK _ Z;have i:É.wrap ((16:Int)-((nO n).size:Int))=((16-(nO n).size:Nat):Int):=by rw[ŝ];omega
 have j:(16:Int)-((nO n).size:Int)=((16-(nO n).size:Nat):Int):=Z
 have l:¬9223372036854775807<(Aa<|16-(nO n).size).size+(nO n).size:=Z
 unfold Ab;have H:=fc<|Ê T R;generalize m:Aa (16-(nO n).size)=zs at*;generalize o:16-(nO n).size=k at*;generalize nO n=fs at*;go_enter Tryz.func121,Tryz.ntmps121;go_wp2_with (first
  |(go_at_call 157;refine H.out.1.mono ?_;rintro e p ⟨rfl,b⟩;have f:=fc b;clear b)
  |(go_at_call 160;refine(H.out.2 _).mono ?_;rintro e b ⟨rfl,p⟩;subst b))
 go_ret;exact⟨U,f.out⟩
structure pQ(r:Nat)(x y g k:Nat)(kind v v2:Int)(slot:Nat)(w:Í):Prop where
 I:w.cell? ⟨r,0,Á⟩=Â (Å É x)
 S:w.cell? ⟨r,1,Á⟩=Â (Å É y)
 a:w.cell? ⟨r,2,Á⟩=Â (Å É g)
 Y:w.cell? ⟨r,3,Á⟩=Â (Å É k)
 N:w.cell? ⟨r,4,Á⟩=Â (Å É kind)
 M:w.cell? ⟨r,5,Á⟩=Â (Å É v)
 c:w.cell? ⟨r,6,Á⟩=Â (Å É v2)
 b:w.cell? ⟨r,7,Á⟩=Â (Å É slot)
def ik.N(h:ik u v vX W)(k:e8 (λ_=>False) w u):ik w v vX W:=by
 refine⟨⟨h.fj.1,?_⟩,k.fe h.r⟩;rcases h.fj.2 with q|⟨g,a,b,c,d,q⟩
 .exact È q
 .exact Ï ⟨g,a,b,c,Ì k.M d,q⟩
section
variable{cp r x y g slot:Nat}{v v2:Int}
def pQ.C{w:Í}(h:pQ r x y g k c v v2 slot w)(q:e8 (λ_=>False) w u):pQ r x y g k c v v2 slot u:= ⟨q.r h.I id,q.r h.S id,q.r h.a id,q.r h.Y id,q.r h.N id,q.r h.M id,q.r h.c id,q.r h.b id⟩
def apM(F:Ò À 113 #[Ç O n cp,Å É v] w λe c=>e=Æ (jY<|Â i)/\e8 (λ_=>False) w c)(j:pQ r x y g k 2 v v2 slot w)(p:x<8)(q:slot<16)(z:Nat)(l:w.cell? ⟨i,x*18+2+slot,Á⟩=Â (Å ã z)) (C:∀W,e8 (λ_=>False) w W->Ò À 118 #[Å ã z] W λe c=>e=Æ (Ä B)/\e8 (λ_=>False) W c): Ò À 67 #[Ç O n cp,Ã<|Â ⟨r,0,Á⟩] w λe c=>e=Æ (Ä B)/\e8 (λ_=>False) w c:=by
 have s:=j.M;have o:=j.N;have t:(0:Int)<=(x:Int):=Z
 have u:(x:Int)<8:=Z
 have D:(0:Int)<=(slot:Int):=Z
 have E:(slot:Int)<16:=Z
 have H:=fc<|Ê F C;have f:=fc j;clear F C j;go_enter ó,í;go_wp2_with (go_at_call 113;apply H.out.1.mono;rintro e d ⟨rfl,a⟩;dsimp only[jY,ð];have h:=a.r o id;have b:=fc a;clear a);refine mr (λc=>c.cell? ⟨r,0,Á⟩=Â (Å É x)/\c.cell? ⟨r,7,Á⟩=Â (Å É slot)/\c.cell? ⟨i,x*18+2+slot,Á⟩=Â (Å ã z)) [] fp ?_;have a:=fc (Ê ((f.out.C b.out).C<|e8.fU (λ_=>False) _).I<|Ê ((f.out.C b.out).C<|e8.fU (λ_=>False) _).b<|(b.out.fe<|e8.fU _ _).r l id);apply tk 0 a.out;apply tk 1 a.out;apply tk 2 a.out;apply tk 3 a.out;apply tk 4 a.out;apply tk 5 a.out;apply tk 6 a.out;apply tk 7 a.out;apply tk 8 a.out;apply tk 9 a.out;apply tk 10 a.out;apply tk 11 a.out;apply tk 12 a.out;apply tk 13 a.out;apply tk 14 a.out;apply tk 15 a.out;apply tk 16 a.out;apply gC 17;intro K h;go_simp;go_at_call 118;refine(H.out.2 _<|b.out.fe<|e8.fU _ _).mono ?_;rintro e G ⟨rfl,m⟩;have d:=fc m;clear m;dsimp only;apply h.out _ _ λ_=>⟨(f.out.C<|(b.out.fe<|e8.fU _ _).fe d.out).I,(f.out.C<|(b.out.fe<|e8.fU _ _).fe d.out).b,(((b.out.fe<|e8.fU _ _).fe d.out).r l id)⟩;clear h K;apply gC 18;intro K h;go_simp;apply h.out _ _ λ_=>⟨(f.out.C<|(b.out.fe<|e8.fU _ _).fe d.out).I,(f.out.C<|(b.out.fe<|e8.fU _ _).fe d.out).b,(((b.out.fe<|e8.fU _ _).fe d.out).r l id)⟩;clear h K;try simp only[Act.put,é,ý,þ]
 refine lZ fp ?_ _;go_wp2_with fail;go_ret;exact⟨U,(b.out.fe<|e8.fU _ _).fe d.out⟩
def apN(F:Ò À 113 #[Ç O n cp,Å É v] w λe b=>e=Æ (jY<|Â i)/\e8 (λ_=>False) w b)(h:pQ r x y g k 3 v v2 slot w)(p:x<8)(z:Nat)(j:w.cell? ⟨i,x*18,Á⟩=Â (Å ã z)) (C:∀W,e8 (λ_=>False) w W->Ò À 118 #[Å ã z] W λe b=>e=Æ (Ä B)/\e8 (λ_=>False) W b): Ò À 67 #[Ç O n cp,Ã<|Â ⟨r,0,Á⟩] w λe b=>e=Æ (Ä B)/\e8 (λ_=>False) w b:=by
 have q:=h.M;have o:=h.N;have s:(0:Int)<=(x:Int):=Z
 have t:(x:Int)<8:=Z
 have H:=fc<|Ê F C;have l:=fc h;clear F C h;go_enter ó,í;go_wp2_with (go_at_call 113;apply H.out.1.mono;rintro e d ⟨rfl,a⟩;dsimp only[jY,ð];have f:=a.r o id;have c:=fc a;clear a);refine mr (λb=>b.cell? ⟨r,0,Á⟩=Â (Å É x)/\b.cell? ⟨i,x*18,Á⟩=Â (Å ã z)) [] fp ?_;have a:=fc (Ê ((l.out.C c.out).C<|e8.fU (λ_=>False) _).I<|(c.out.fe<|e8.fU _ _).r j id);apply tk 0 a.out;apply tk 1 a.out;apply tk 2 a.out;apply tk 3 a.out;apply tk 4 a.out;apply tk 5 a.out;apply tk 6 a.out;apply tk 7 a.out;apply tk 8 a.out;apply tk 9 a.out;apply tk 10 a.out;apply tk 11 a.out;apply gC 12;intro K d;go_simp;go_at_call 118;refine(H.out.2 _<|c.out.fe<|e8.fU _ _).mono ?_;rintro e u ⟨rfl,m⟩;have f:=fc m;clear m;dsimp only;apply d.out _ _ λ_=>⟨(l.out.C<|(c.out.fe<|e8.fU _ _).fe f.out).I,(((c.out.fe<|e8.fU _ _).fe f.out).r j id)⟩;clear d K;apply gC 13;intro K d;go_simp;apply d.out _ _ λ_=>⟨(l.out.C<|(c.out.fe<|e8.fU _ _).fe f.out).I,(((c.out.fe<|e8.fU _ _).fe f.out).r j id)⟩;clear d K;try simp only[Act.put,é,ý,þ]
 refine lZ fp ?_ _;go_wp2_with fail;go_ret;exact⟨U,(c.out.fe<|e8.fU _ _).fe f.out⟩
def apO(F:Ò À 113 #[Ç O n cp,Å É v] w λe d=>e=Æ (jY<|Â i)/\e8 (λ_=>False) w d)(j:pQ r x y g k 4 v v2 slot w)(o:g<=400)(p:k<18446744073709551616) (C:∀W,e8 (λ_=>False) w W->Ò À 119 #[Ã<|Â ⟨i,0,Á⟩,Å É x,Å É y,Å ã g,Å ã k] W λe d=>e=Æ (Ä B)/\e8 (λ_=>False) W d): Ò À 67 #[Ç O n cp,Ã<|Â ⟨r,0,Á⟩] w λe d=>e=Æ (Ä B)/\e8 (λ_=>False) w d:=by
 have q:=j.M;have m:=j.N;have s:ã.wrap (k:Int)=(k:Int):=by rw[Ć];omega
 have t:ã.wrap (g:Int)=(g:Int):=by rw[Ć];omega
 have u:¬(400:Int)<(g:Int):=Z
 have z:(g:Int)<=400:=Z
 have H:=fc<|Ê F C;have c:=fc j;clear F C j;go_enter ó,í;go_wp2_with (go_at_call 113;apply H.out.1.mono;rintro e f ⟨rfl,a⟩;dsimp only[jY,ð];have h:=a.r m id;have l:=a.r c.out.a id;have b:=fc a;clear a);refine mr (λd=>d.cell? ⟨r,0,Á⟩=Â (Å É x)/\d.cell? ⟨r,1,Á⟩=Â (Å É y)/\d.cell? ⟨r,2,Á⟩=Â (Å É g)/\d.cell? ⟨r,3,Á⟩=Â (Å É k)) [] fp ?_;have a:=fc (Ê ((c.out.C b.out).C<|e8.fU (λ_=>False) _).I<|Ê ((c.out.C b.out).C<|e8.fU (λ_=>False) _).S<|Ê ((c.out.C b.out).C<|e8.fU (λ_=>False) _).a ((c.out.C b.out).C<|e8.fU (λ_=>False) _).Y);apply tk 0 a.out;apply tk 1 a.out;apply tk 2 a.out;apply tk 3 a.out;apply tk 4 a.out;apply tk 5 a.out;apply tk 6 a.out;apply tk 7 a.out;apply tk 8 a.out;apply tk 9 a.out;apply tk 10 a.out;apply tk 11 a.out;apply tk 12 a.out;apply tk 13 a.out;apply tk 14 a.out;apply tk 15 a.out;apply tk 16 a.out;apply tk 17 a.out;apply tk 18 a.out;apply tk 19 a.out;apply tk 20 a.out;apply tk 21 a.out;apply tk 22 a.out;apply gC 23;intro K h;go_simp;go_at_call 119;refine(H.out.2 _<|b.out.fe<|e8.fU _ _).mono ?_;rintro e D ⟨rfl,l⟩;have f:=fc l;clear l;dsimp only;apply h.out _ _ λ_=>⟨(c.out.C<|(b.out.fe<|e8.fU _ _).fe f.out).I,(c.out.C<|(b.out.fe<|e8.fU _ _).fe f.out).S,(c.out.C<|(b.out.fe<|e8.fU _ _).fe f.out).a,(c.out.C<|(b.out.fe<|e8.fU _ _).fe f.out).Y⟩;clear h K;apply gC 24;intro K h;go_simp;apply h.out _ _ λ_=>⟨(c.out.C<|(b.out.fe<|e8.fU _ _).fe f.out).I,(c.out.C<|(b.out.fe<|e8.fU _ _).fe f.out).S,(c.out.C<|(b.out.fe<|e8.fU _ _).fe f.out).a,(c.out.C<|(b.out.fe<|e8.fU _ _).fe f.out).Y⟩;clear h K;try simp only[Act.put,é,ý,þ]
 refine lZ fp ?_ _;go_wp2_with fail;go_ret;exact⟨U,(b.out.fe<|e8.fU _ _).fe f.out⟩
def apP(F:Ò À 113 #[Ç O n cp,Å É v] w λe c=>e=Æ (jY<|Â i)/\e8 (λ_=>False) w c)(j:pQ r x y g k 5 v v2 slot w)(o:k<18446744073709551616) (C:∀W,e8 (λ_=>False) w W->Ò À 120 #[Ã<|Â ⟨i,0,Á⟩,Å É x,Å É y,Å ã k] W λe c=>e=Æ (Ä B)/\e8 (λ_=>False) W c): Ò À 67 #[Ç O n cp,Ã<|Â ⟨r,0,Á⟩] w λe c=>e=Æ (Ä B)/\e8 (λ_=>False) w c:=by
 have p:=j.M;have m:=j.N;have q:ã.wrap (k:Int)=(k:Int):=by rw[Ć];omega
 have H:=fc<|Ê F C;have d:=fc j;clear F C j;go_enter ó,í;go_wp2_with (go_at_call 113;apply H.out.1.mono;rintro e f ⟨rfl,a⟩;dsimp only[jY,ð];have h:=a.r m id;have b:=fc a;clear a);refine mr (λc=>c.cell? ⟨r,0,Á⟩=Â (Å É x)/\c.cell? ⟨r,1,Á⟩=Â (Å É y)/\c.cell? ⟨r,3,Á⟩=Â (Å É k)) [] fp ?_;have a:=fc (Ê ((d.out.C b.out).C<|e8.fU (λ_=>False) _).I<|Ê ((d.out.C b.out).C<|e8.fU (λ_=>False) _).S ((d.out.C b.out).C<|e8.fU (λ_=>False) _).Y);apply tk 0 a.out;apply tk 1 a.out;apply tk 2 a.out;apply tk 3 a.out;apply tk 4 a.out;apply tk 5 a.out;apply tk 6 a.out;apply tk 7 a.out;apply tk 8 a.out;apply tk 9 a.out;apply tk 10 a.out;apply tk 11 a.out;apply tk 12 a.out;apply tk 13 a.out;apply tk 14 a.out;apply tk 15 a.out;apply tk 16 a.out;apply gC 17;intro K h;go_simp;go_at_call 120;refine(H.out.2 _<|b.out.fe<|e8.fU _ _).mono ?_;rintro e s ⟨rfl,l⟩;have f:=fc l;clear l;dsimp only;apply h.out _ _ λ_=>⟨(d.out.C<|(b.out.fe<|e8.fU _ _).fe f.out).I,(d.out.C<|(b.out.fe<|e8.fU _ _).fe f.out).S,(d.out.C<|(b.out.fe<|e8.fU _ _).fe f.out).Y⟩;clear h K;apply gC 18;intro K h;go_simp;apply h.out _ _ λ_=>⟨(d.out.C<|(b.out.fe<|e8.fU _ _).fe f.out).I,(d.out.C<|(b.out.fe<|e8.fU _ _).fe f.out).S,(d.out.C<|(b.out.fe<|e8.fU _ _).fe f.out).Y⟩;clear h K;try simp only[Act.put,é,ý,þ]
 refine lZ fp ?_ _;go_wp2_with fail;go_ret;exact⟨U,(b.out.fe<|e8.fU _ _).fe f.out⟩
def apQ(F:Ò À 113 #[Ç O n cp,Å É v] w λe a=>e=Æ (jY<|Â i)/\e8 (λ_=>False) w a)(b:pQ r x y g k 6 v v2 slot w)(z:Nat)(C:∀W,e8 (λ_=>False) w W->Ò À 122 #[Ã<|Â ⟨i,0,Á⟩] W λe a=>e=Æ (Å ã z)/\e8 (λ_=>False) W a)(d:∀W,e8 (λ_=>False) w W->Ò À 121 #[Å ã z] W λe a=>e=Æ (Ä B)/\e8 (λ_=>False) W a): Ò À 67 #[Ç O n cp,Ã<|Â ⟨r,0,Á⟩] w λe a=>e=Æ (Ä B)/\e8 (λ_=>False) w a:=by
 have m:=b.M;have j:=b.N;have l:=fc d;clear d;have H:=fc<|Ê F C;have o:=fc b;clear F C b;go_enter ó,í;go_wp2_with (first
  |(go_at_call 113;refine H.out.1.mono ?_;rintro e h ⟨rfl,c⟩;dsimp only[jY,ð];have p:=c.r j id;have f:=fc c;clear c)
  |(go_at_call 122;refine(H.out.2 _ f.out).mono ?_;rintro e p ⟨rfl,c⟩;have h:=fc<|f.out.fe c;clear c)
  |(go_at_call 121;refine(l.out _ h.out).mono ?_;rintro e p ⟨rfl,c⟩;have f:=fc (h.out.fe c);clear c))
 go_ret;exact⟨U,f.out⟩
def apR(F:Ò À 113 #[Ç O n cp,Å É v] w λe b=>e=Æ (jY<|Â i)/\e8 (λ_=>False) w b)(d:pQ r x y g k 7 v v2 slot w)(l:Option ü)(o p:Nat)(u:w.cell? ⟨i,144,Á⟩=Â (Ç l o p))(f:List ByteArray)(C:∀W,e8 (λ_=>False) w W->Ò À 124 #[Ç l o p] W λe b=>∃j,e=Æ j/\ik W j f b)(q:∀W a m c,ik w (Ç a m c) f W->Ò À 123 #[Ç a m c] W λe b=>e=Æ (Ä B)/\e8 (λ_=>False) W b): Ò À 67 #[Ç O n cp,Ã<|Â ⟨r,0,Á⟩] w λe b=>e=Æ (Ä B)/\e8 (λ_=>False) w b:=by
 have J:=d.M;have z:=d.N;have D:=fc q;clear q;have H:=fc<|Ê F C;have K:=fc d;clear F C d;go_enter ó,í;go_wp2_with (first
  |(go_at_call 113;refine H.out.1.mono ?_;rintro e t ⟨rfl,h⟩;dsimp only[jY,ð];have E:=h.r z id;have G:=h.r u id;have s:=fc h;clear h)
  |(go_at_call 124;refine(H.out.2 _ s.out).mono ?_;rintro e E ⟨j,rfl,h⟩;obtain⟨G,I,rfl⟩:=jl h.fj;generalize f.length=tn at h|-;have t:=fc (show ik w (Ç G tn I) f E from h.N s.out);clear h)
  |(go_at_call 123;refine(D.out _ _ _ _ t.out).mono ?_;rintro e E ⟨rfl,h⟩;have s:=fc (t.out.r.fe h);clear h))
 go_ret;exact⟨U,s.out⟩
def apS(F:Ò À 113 #[Ç O n cp,Å É v] w λe b=>e=Æ (jY<|Â i)/\e8 (λ_=>False) w b)(d:pQ r x y g k 8 v v2 slot w)(l:Option ü)(o p:Nat)(u:w.cell? ⟨i,146,Á⟩=Â (Ç l o p))(f:List ByteArray)(C:∀W,e8 (λ_=>False) w W->Ò À 125 #[Ç l o p] W λe b=>∃j,e=Æ j/\ik W j f b)(q:∀W a m c,ik w (Ç a m c) f W->Ò À 123 #[Ç a m c] W λe b=>e=Æ (Ä B)/\e8 (λ_=>False) W b): Ò À 67 #[Ç O n cp,Ã<|Â ⟨r,0,Á⟩] w λe b=>e=Æ (Ä B)/\e8 (λ_=>False) w b:=by
 have J:=d.M;have z:=d.N;have D:=fc q;clear q;have H:=fc<|Ê F C;have K:=fc d;clear F C d;go_enter ó,í;go_wp2_with (first
  |(go_at_call 113;refine H.out.1.mono ?_;rintro e t ⟨rfl,h⟩;dsimp only[jY,ð];have E:=h.r z id;have G:=h.r u id;have s:=fc h;clear h)
  |(go_at_call 125;refine(H.out.2 _ s.out).mono ?_;rintro e E ⟨j,rfl,h⟩;obtain⟨G,I,rfl⟩:=jl h.fj;generalize f.length=tn at h|-;have t:=fc (show ik w (Ç G tn I) f E from h.N s.out);clear h)
  |(go_at_call 123;refine(D.out _ _ _ _ t.out).mono ?_;rintro e E ⟨rfl,h⟩;have s:=fc (t.out.r.fe h);clear h))
 go_ret;exact⟨U,s.out⟩
def apT(F:Ò À 113 #[Ç O n cp,Å É v] w λe c=>e=Æ (jY<|Â i)/\e8 (λ_=>False) w c)(a:pQ r x y g k 4 v v2 slot w)(j:400<g)(C:B=nX 6): Ò À 67 #[Ç O n cp,Ã<|Â ⟨r,0,Á⟩] w λe c=>e=Æ (Ä B)/\e8 (λ_=>False) w c:=by
 have l:=a.M;have d:=a.N;have m:(400:Int)<(g:Int):=Z
 have H:=fc<|Ê F C;have f:=fc a;clear F C a;go_enter ó,í;go_wp2_with (first
  |(go_at_call 113;refine H.out.1.mono ?_;rintro e o ⟨rfl,b⟩;dsimp only[jY,ð];have p:=b.r d id;have q:=b.r f.out.a id;have h:=fc b;clear b)
  |(go_at_call 114;refine(FU 6 A _).mono ?_;rintro e b ⟨rfl,o⟩;subst b))
 go_ret;exact⟨by rw[H.out.2];rfl,h.out⟩
def apU(F:Ò À 113 #[Ç O n cp,Å É v] w λe a=>e=Æ (jY<|Â i)/\e8 (λ_=>False) w a)(b:pQ r x y g k 9 v v2 slot w)(C:B=nX 3)(d:∀W,e8 (λ_=>False) w W->Ò À 113 #[Ç O n cp,Å É v2] W λe a=>e=Æ (jY Á)/\e8 (λ_=>False) W a): Ò À 67 #[Ç O n cp,Ã<|Â ⟨r,0,Á⟩] w λe a=>e=Æ (Ä B)/\e8 (λ_=>False) w a:=by
 have p:=b.M;have j:=b.N;have l:=fc d;clear d;have H:=fc<|Ê F C;have m:=fc b;clear F C b;go_enter ó,í;go_wp2_with (first
  |(go_at_call 113;with_reducible refine H.out.1.mono ?_;rintro e h ⟨rfl,c⟩;dsimp only[jY,ð];have o:=c.r j id;have q:=c.r m.out.c id;have f:=fc c;clear c)
  |(go_at_call 113;refine(l.out _ f.out).mono ?_;rintro e c ⟨rfl,h⟩;dsimp only[jY,ð];have o:=fc<|f.out.fe h;clear h)
  |(go_at_call 114;refine(FU 3 A _).mono ?_;rintro e c ⟨rfl,h⟩;subst c))
 go_ret;exact⟨by rw[H.out.2];rfl,o.out⟩
def apV(F:Ò À 113 #[Ç O n cp,Å É v] w λe b=>e=Æ (jY<|Â i)/\e8 (λ_=>False) w b)(h:pQ r x y g k 9 v v2 slot w)(C:True)(q:∀W,e8 (λ_=>False) w W->Ò À 113 #[Ç O n cp,Å É v2] W λe b=>e=Æ (jY<|Â j)/\e8 (λ_=>False) W b)(o:List ByteArray)(s:∀W,e8 (λ_=>False) w W->Ò À 126 #[Ã<|Â ⟨i,0,Á⟩,Ã<|Â ⟨j,0,Á⟩] W λe b=>∃p,e=Æ p/\ik W p o b)(t:∀W a m c,ik w (Ç a m c) o W->Ò À 123 #[Ç a m c] W λe b=>e=Æ (Ä B)/\e8 (λ_=>False) W b): Ò À 67 #[Ç O n cp,Ã<|Â ⟨r,0,Á⟩] w λe b=>e=Æ (Ä B)/\e8 (λ_=>False) w b:=by
 have L:=h.M;have E:=h.N;have G:=fc q;have u:=fc<|Ê s t;clear q s t;have H:=fc<|Ê F C;have I:=fc h;clear F C h;go_enter ó,í;go_wp2_with (first
  |(go_at_call 113;with_reducible refine H.out.1.mono ?_;rintro e z ⟨rfl,d⟩;dsimp only[jY,ð];have l:=d.r E id;have D:=d.r I.out.c id;have f:=fc d;clear d)
  |(go_at_call 113;refine(G.out _ f.out).mono ?_;rintro e l ⟨rfl,d⟩;dsimp only[jY,ð];have z:=fc (f.out.fe d);clear d))
 apply mr (λb=>True/\True) [] fp;have d:=fc<|Ê trivial trivial;apply tk 0 d.out;apply tk 1 d.out;apply tk 2 d.out;apply tk 3 d.out;apply tk 4 d.out;apply tk 5 d.out;apply tk 6 d.out;apply tk 7 d.out;apply gC 8;intro K f;go_simp;go_at_call 126;refine(u.out.1 _<|z.out.fe<|e8.fU _ _).mono ?_;rintro e M ⟨p,rfl,l⟩;obtain⟨N,P,rfl⟩:=jl l.fj;generalize o.length=tn at l|-;have D:=fc<|l.N<|z.out.fe<|e8.fU _ _;clear l;dsimp only;apply f.out _ _ λ_=>⟨trivial,trivial⟩;clear f K;apply gC 9;intro K f;go_simp;go_at_call 123;refine(u.out.2 _ _ _ _ D.out).mono ?_;rintro e Q ⟨rfl,z⟩;have J:=fc<|D.out.r.fe z;clear z;dsimp only;apply f.out _ _ λ_=>⟨trivial,trivial⟩;clear f K;apply gC 10;intro K f;go_simp;apply f.out _ _ λ_=>⟨trivial,trivial⟩;clear f K;try simp only[Act.put,é,ý,þ]
 refine lZ fp ?_ _;go_wp2_with fail;go_ret;exact⟨U,J.out⟩
def apW(F:Ò À 113 #[Ç O n cp,Å É v] w λe a=>e=Æ (jY Á)/\e8 (λ_=>False) w a)(b:pQ r x y g k h v v2 slot w): Ò À 67 #[Ç O n cp,Ã<|Â ⟨r,0,Á⟩] w λe a=>e=Æ (Ä<|nX 3)/\e8 (λ_=>False) w a:=by
 have f:=b.M;have H:=fc F;clear F b;go_enter ó,í;go_wp2_with (first
  |(go_at_call 113;refine H.out.mono ?_;rintro e i ⟨rfl,c⟩;dsimp only[jY,ð];have d:=fc c;clear c)
  |(go_at_call 114;refine(FU 3 A _).mono ?_;rintro e c ⟨rfl,i⟩;subst c))
 go_ret;exact⟨U,d.out⟩
end
structure Qn where
 x:Nat
 y:Nat
 g:Nat
 k:Nat
 r:Int
 v:Int
 C:Int
 I:Nat
structure Qn.Ok(q:Qn):Prop where
 x:q.x<8
 y:q.y<8
 g:q.g<1000000
 k:q.k<18446744073709551616
 avh:2<=q.r
 avi:q.r<=9
 v:-1<=q.v
 v2:-1<=q.C
 avj:q.I<16
def DG(a:List ByteArray):ByteArray:=if a=[]then⟨#[45]⟩else jd ⟨#[44]⟩ a
def DL(a:List (Nat×fH))(p:fH)(q:Qn):ByteArray:=
 if q.r=2 then fI ((p.s q.x).C q.I).toNat
 else if q.r=3 then fI (p.s q.x).fu.toNat
 else if q.r=4 then if 400<q.g then nX 6 else DF (gl p.s [] q.x q.y q.g q.k)
 else if q.r=5 then oE p.s q.x q.y q.k 0 401
 else if q.r=6 then Ab (ya p.s)
 else if q.r=7 then DG (p.r.map rD)
 else if q.r=8 then DG (p.C.map F9)
 else match mb a q.C with
  |none=>nX 3
  |some b=>DG<|pP p.s b.2.s 8
def rE(a:List (Nat×fH))(q:Qn):ByteArray:=
 match mb a q.v with
 |none=>nX 3
 |some p=>DL a p.2 q
def Ua{M:Nat}(b:∀z∈vX,z.size<=M)(d:M<=100)(f:vX.length<=400000)(h:ik w (Ç O m i) vX W): Ò À 123 #[Ç O m i] W λe g=>e=Æ (Ä<|DG vX)/\e8 (λ_=>False) W g:=by obtain⟨e,g,j⟩:=h.I;have k:=Gi vX b;have:M*vX.length<=100*400000:=ű d f;exact aps g Z j e Z
def apX(s:St):ya s<18446744073709551616:=by unfold ya Nx;exact TF _ _<|aau λi=>aax _ _ _
theorem Ub{b:ByteArray}(c:B.size<=1)(d:b.size<=1):(B++b).size<=2:=by grind
def aa1(s t:St):∀z∈pP s t 8,z.size<=2:=λz a=>by
 unfold pP at a;obtain⟨i,_,h⟩:=Ş.1 a;unfold ye vY at h;rcases â.1 h with h|h
 .rcases â.1 h with h|h
  .split at h
   .cases h
   .simp at h;subst h;exact Ub (yf i)<|æ _
  .split at h
   .cases h
   .simp at h;subst h;exact Ub (yf i)<|æ _
 .unfold qI at h;obtain⟨j,_,h⟩:=Ş.1 h;unfold Dz at h;split at h
  .cases h
  .simp at h;subst h;exact Ub (yf i)<|aaM j
section
variable{cp:Nat}{vs:List (Nat×fH)}{q:Qn}
def apY(u:qH O n vs w)(S:n<=1000)(T:0<n)(hvo:∀p∈vs,TP p.2)(d:pQ i q.x q.y q.g q.k q.r q.v q.C q.I w)(ok:q.Ok)(V:iL w)(o:lP w)(hd:qK w): Ò À 67 #[Ç O n cp,Ã<|Â ⟨i,0,Á⟩] w λe G=>e=Æ (Ä<|rE vs q)/\e8 (λ_=>False) w G:=by
 have F:=NB (cp:=cp) u S T q.v ok.v;unfold rE;cases B:mb vs q.v with
 |none=>
  rw[B]at F;exact apW F d
 |some p=>
  rw[B]at F;have h:=F;have X:=JO B;have f:=u.M X;have j:=hvo p X;obtain⟨x,y,g,k,kind,v,C,Y⟩:=q;obtain⟨r,H,hg,I,uO,um,hv,NY,J⟩:=ok;simp only at r H hg I uO um hv NY J d h B|-;obtain⟨cb,_,cs⟩:=f.r.gV r;have HN:gh (k:Int):=⟨Z,Z⟩;unfold DL;simp only;split
  .rename_i e;subst e;have c:=cs Y J;have l:=f.C.C x Y;rw[<-ņ l.1]at c;exact apM h d r J _ c λW b=>yd _ (by have:=l.1;have:=l.2;omega) W<|o.r b
  .split
   .rename_i e;subst e;have l:=f.C.fu x;rw[<-ņ l.1]at cb;exact apN h d r _ cb λW b=>yd _ (by have:=l.1;have:=l.2;omega) W<|o.r b
   .split
    .rename_i e;subst e;split
     .rename_i hh;exact apT h d hh U
     .exact apO h d Z I λW b=>apv (f.r.r b id) f.C (V.r b id) (o.r b) x y g k r H Z Z HN
    .split
     .rename_i e;subst e;exact apP h d I λW b=>aoN (f.r.r b id) f.C (V.r b id) (o.r b) r H HN
     .split
      .rename_i e;subst e;exact apQ h d _ (λW b=>an6 (f.r.r b id) f.C) λW b=>apL _ (apX _)<|hd.r b
      .split
       .rename_i e;subst e;obtain⟨K,L,M,N⟩:=f.N;exact apR h d K _ L M _ (λW b=>aaH U j.I j.C (o.r b)<|nL.C N b) λW a m c t=>Ua (λz P=>by obtain⟨e,D,rfl⟩:=Ú.1 P;exact NU (j.C e D).2) Z (by rw[ù];exact j.I) t
       .split
        .rename_i e;subst e;obtain⟨K,L,M,N⟩:=f.S;exact apS h d K _ L M _ (λW b=>aoU U j.M j.r (o.r b)<|nL.C N b) λW a m c t=>Ua (λz P=>by obtain⟨e,D,rfl⟩:=Ú.1 P;exact aaT (j.r e D).1 (j.r e D).2) Z (by rw[ù];have:=j.M;omega) t
        .have e:kind=9:=Z
         subst e;have E:∀W,e8 (λ_=>False) w W->Ò À 113 #[Ç O n cp,Å É C] W λe G=>e=Æ (jY ((mb vs C).map (·.1)))/\e8 (λ_=>False) W G:=λW b=>NB (u.I b) S T C NY;cases Q:mb vs C with
         |none=>
          rw[Q]at E;exact apU h d U E
         |some p2=>
          rw[Q]at E;exact apV h d trivial E _ (λW b=>ao6 (f.r.r b id)<|(u.M<|JO Q).r.r b id) λW a m c t=>Ua (aa1 _ _) Z (by have:=TX p.2.s p2.2.s 8;omega) t
end
end Go.Proofs.Y.gA
namespace Go.Proofs.Y.kI
open Go Go.Proofs Go.RowKit Go.Proofs.Y.Lift Go.Proofs.Y.gA
def kv(a:List (Nat×fH)):List fH:=a.map (·.2)
def aa2(d:fH)(l:List fH):fH:=l.foldl (λa b=>if a.h<b.h then b else a) d
def aa3:∀(a:List (Nat×fH)) (d:Nat×fH),(tH d a).2=aa2 d.2 (kv a)
 |[],_=>rfl
 |x::r,d=>by show(tH (yb d x) r).2=aa2 (if d.2.h<x.2.h then x.2 else d.2) (kv r);rw[aa3 r];unfold yb;split<;>rfl
theorem Uc{a b:List (Nat×fH)}(h:kv a=kv b)(v:Int):(mb a v).map (·.2)=(mb b v).map (·.2):=by
 have c:∀i:Nat,(a[i]?).map (·.2)=(b[i]?).map (·.2):=λi=>by have:=congrArg (λl:List fH=>l[i]?) h;simpa[kv]using this
 unfold mb;grind [aa3]
def apZ{a b:List (Nat×fH)}(h:kv a=kv b):a.length=b.length:=by have:=congrArg List.length h;simpa[kv]using this
theorem aa4{a b:List (Nat×fH)}(h:kv a=kv b)(v:Int)(x:Nat)(gL:List Tx):rC a v x gL=rC b v x gL:=by have c:=Uc h v;unfold rC;grind [apZ]
theorem ap0{a b:List (Nat×fH)}(h:kv a=kv b)(q:Qn):rE a q=rE b q:=by
 have c:=Uc h q.v;have d:=Uc h q.C;have e:∀p:fH,DL a p q=DL b p q:=λp=>by unfold DL;grind
 unfold rE;grind
structure lF(s:List fH):Prop where
 I:0<s.length
 C:s.length<=40
 r:∀v∈s,TP v/\gJ v.s/\0<=v.h/\v.h<s.length
def sE(a:List (Nat×fH))(v:Int)(x:Nat)(gL:List Tx):List fH:=kv a++(rC a v x gL).1.toList
def lF.M{f:List (Nat×fH)}(h:lF (kv f)){gL:List Tx}(j:∀t∈gL,t.Ok)(l:gL.length<=1000):lF (sE f c i gL):=by
 unfold kI.sE;have z:(kv f).length=f.length:=by simp[kv]
 unfold rC;cases m:mb f c with
 |none=>simpa using h
 |some p=>
  have n:p.2∈kv f:=Ú.2 ⟨p,JO m,U⟩;let⟨B,k,C,D⟩:=h.r _ n;simp only;split
  .simpa using h
  .rename_i E;cases g:vW i p.2.s gL with
   |none=>simpa using h
   |some r=>
    simp only[Option.toList];have F:=h.C;have o:gJ r.1:=by unfold vW at g;obtain⟨G,w,rfl⟩:=ò.1 g;exact(TQ gL j k (λ_ q=>by cases q) (λ_ q=>by cases q) (by simp;omega) (by simp;omega) w).1.r i<|zK _
    refine⟨fi,by simp;omega,λu y=> ?_⟩;rcases â.1 y with q|q
    .let⟨a,b,e,d⟩:=h.r u q;refine⟨a,b,e,?_⟩;rw[Ù];simp;omega
    .simp at q;subst q;refine⟨aoB j k l g,o,by show 0<=p.2.h+1;omega,?_⟩;rw[Ù];show p.2.h+1<_;simp;omega
def iY(Y:fl)(u w:Í):Prop:=∀(i j o:Nat) (v:Ñ),Y i j->u.cell? ⟨i,o,Á⟩=Â v->∃a,w.cell? ⟨j,o,Á⟩=Â a/\fh Y v a
section
variable{Y:fl}
def ap1{k:IntKind}(h:fh Y (Å k c) v):v=Å k c:=by cases h;rfl
def ap2(h:fh Y (Ä B) v):v=Ä B:=by cases h;rfl
def NZ(h:fh Y (Ã<|Â a) v):∃b,v=Ã (Â b)/\ia Y a b:=by
 cases h with
 |j2 q=>exact⟨_,U,q⟩
def N0(h:fh Y (Ç O n i) v):∃b,v=Ç b n i/\∀a,O=Â a->∃d,b=Â d/\ia Y a d:=by
 cases h with
 |nS=>exact⟨Á,U,λa q=>by cases q⟩
 |kV q=>exact⟨_,U,λa e=>by cases e;exact⟨_,U,q⟩⟩
def ap3(a:kr v=Î)(h:fh Y v x):x=v:=by cases h<;>first|rfl|(simp[kr]at a;done)
theorem Ac(h:ia Y ⟨b,i,Á⟩ a):∃c,a=⟨c,i,Á⟩/\Y b c:=by let⟨d,e,f⟩:=h;let⟨c,g,j⟩:=a;grind
theorem iY.r(a:iY Y u w){k:IntKind}(h:Y i j)(d:u.cell? ⟨i,b,Á⟩=Â (Å k c)):w.cell? ⟨j,b,Á⟩=Â (Å k c):=by let⟨e,f,g⟩:=a i j b _ h d;grind [ap1]
theorem iY.C(a:iY Y u w)(h:Y i j)(b:u.cell? ⟨i,n,Á⟩=Â (Ä B)):w.cell? ⟨j,n,Á⟩=Â (Ä B):=by let⟨c,d,e⟩:=a i j n _ h b;grind [ap2]
theorem iY.ap4(a:iY Y u w)(c:kr v=Î)(h:Y i j)(b:u.cell? ⟨i,n,Á⟩=Â v):w.cell? ⟨j,n,Á⟩=Â v:=by let⟨d,e,f⟩:=a i j n _ h b;grind [ap3]
def Ud(s:gA.St):∀v∈iy s,(∃n,v=Å ã n)\/∃p,v=Ä p:=λv n=>by
 unfold iy at n;obtain⟨i,_,rfl⟩:=Ú.1 n;unfold qB qA;split
 .exact È ⟨_,U⟩
 .split
  .exact Ï ⟨_,U⟩
  .exact È ⟨_,U⟩
def ap5(a:iY Y u w){s:gA.St}(c:Y b i)(d:mA b s h u):mA i s h w:=by
 refine⟨λj v e=> ?_,a.r c d.h⟩;have f:=d.C j v e;rcases Ud s v (ç e)with⟨n,rfl⟩|⟨p,rfl⟩
 .exact a.r c f
 .exact a.C c f
def aa5(a:iY Y u w)(f:Y b i)(g:∀v∈l,kr v=Î)(h:zU ⟨b,j,Á⟩ n l u):zU ⟨i,j,Á⟩ n l w:=by let⟨p,c,k,m⟩:=h;let⟨G,q,r⟩:=a b i j _ f k;obtain⟨s,rfl,t⟩:=N0 r;refine⟨s,c,q,λd x e=> ?_⟩;let⟨H,y,z,B⟩:=m d x e;let⟨I,C,D⟩:=t _ z;obtain⟨E,rfl,F⟩:=Ac D;exact⟨E,y,C,a.ap4 (g x<|ç e) F B⟩
def ap6(a:iY Y u w){v:fH}(c:Y b i)(h:sB b v u):sB i v w:= ⟨ap5 a c h.r,h.C,h.I,h.M,aa5 a c (C_ _) h.N,aa5 a c (aae _) h.S⟩
def wI{α β:Type}{R:Nat->α->β->Prop}:∀(l:List α) (k:Nat),(∀j x,l[j]?=Â x->∃y,R (k+j) x y)->∃a:List β,a.length=l.length/\∀j y,a[j]?=Â y->∃x,l[j]?=Â x/\R (k+j) x y
 |[],_,_=>⟨[],U,λj y h=>by simp at h⟩
 |x::r,k,h=>by
  let⟨y,c⟩:=h 0 x U;obtain⟨a,d,e⟩:=wI r (k+1) λj z b=>by let⟨q,f⟩:=h (j+1) z b;exact⟨q,by rwa[show k+1+j=k+(j+1) by omega]⟩
  refine⟨y::a,by simp[d],λj z b=> ?_⟩;cases j with
  |zero=>cases b;exact⟨x,U,c⟩
  |succ j=>
   let⟨q,f,g⟩:=e j z b;exact⟨q,f,by rwa[show k+(j+1)=k+1+j by omega]⟩
theorem JR(a:iY Y u w){e:List (Nat×fH)}(i:fh Y z jQ)(h:NC z e u):∃c,kv c=kv e/\NC jQ c w:=by
 obtain⟨J,n,k,rfl,l,f⟩:=h;obtain⟨g,rfl,m⟩:=N0 i;let⟨c,o,K⟩:=wI (R:=λj (x y:Nat×fH)=>x.2=y.2/\∃q d,g=Â ⟨q,d,Á⟩/\w.cell? ⟨q,d+j,Á⟩=Â (Ã<|Â ⟨y.1,0,Á⟩)/\sB y.1 y.2 w) e 0 λj x p=>by let⟨b,v⟩:=x;let⟨q,d,r,s,t⟩:=f.C j b v p;let⟨L,B,C⟩:=m _ r;obtain⟨y,rfl,D⟩:=Ac C;let⟨M,E,F⟩:=a q y _ _ D s;obtain⟨N,rfl,G⟩:=NZ F;obtain⟨H,rfl,I⟩:=Ac G;exact⟨(H,v),U,y,d,B,by rwa[œ],ap6 a I t⟩
 refine⟨c,?_,g,n,k,U,l,⟨by rw[o];exact f.r,λj b v q=> ?_⟩⟩
 .refine Ŕ λj=> ?_;unfold kv;grind
 .grind
end
def lq(a:Nat->Prop)(B:Nat):fl:=⟨λi j=>i=j/\a i,B⟩
def ap7(a:Nat->Prop)(B:Nat):Bi (lq a B):= ⟨λ_ _ _ h k=>h.1.symm.trans k.1,λ_ _ _ h k=>h.1.trans k.1.symm,λi j h=>by rw[h.1]⟩
def Ad{V:Nat->Prop}{B:Nat}(h:∀i,X i->V i):(lq X B).r (lq V B):=⟨λ_ _ q=>⟨q.1,h _ q.2⟩,λ_=>ap7 V B,U⟩
def kJ(B:Nat)(a:Nat->Prop)(w:Í):Prop:=∀b,a b->∃c e d,w.heap[b]?=Â (Û c e d)/\d.2<=c.size/\fT (lq a B) c c/\0<c.size/\Ei c/\e≠304/\e≠305
section
variable{B:Nat}{V:Nat->Prop}
def kJ.I(h:kJ B X w)(k:kJ B V w):kJ B (λb=>X b\/V b) w:=by
 rintro b (q|q)
 .let⟨c,e,a,d,f,g,i⟩:=h b q;exact⟨c,e,a,d,f,g.I (Ad λ_=>È),i⟩
 .let⟨c,e,a,d,f,g,i⟩:=k b q;exact⟨c,e,a,d,f,g.I (Ad λ_=>Ï),i⟩
def kJ.C(h:kJ B X w)(k:∀b,X b->u.heap[b]?=w.heap[b]?):kJ B X u:=λb q=>by let⟨c,e,a,d,f⟩:=h b q;exact⟨c,e,a,by rwa[k b q],f⟩
theorem kJ.r(h:kJ B X w)(a:X b)(d:w.cell? ⟨b,i,Á⟩=Â v):fh (lq X B) v v:=by let⟨c,e,j,f,_,g,_⟩:=h b a;simp only[à,f,ö,ì,if_false]at d;rcases g.S i with⟨q,_⟩|⟨x,k,l,m,n⟩;all_goals grind
def DR(h:fh (lq X B) (Ã<|Â a) v):X a.block:=by
 cases h with
 |j2 q=>exact q.1.2
def DU(h:fh (lq X B) (Ç (Â a) n i) v):X a.block:=by
 cases h with
 |kV q=>exact q.1.2
def ap8{Y:fl}(h:kr v=Î):fh Y v v:=by cases v<;>first|exact .mD _|exact .iE _ _|(simp[kr]at h;done)
def pR{Y:fl}(h:∀v∈d.toList,fh Y v v):fT Y d d:=⟨U,λi a _=>h _<|î.2<|ă a⟩
def ap9(h:kr v=Î):yu v=Ë:=by
 cases v with
 |int k n=>cases k<;>first|rfl|(simp[kr]at h;done)
 |_=>rfl
def Ae(h:∀v∈d.toList,yu v=Ë):Ei d:=λk v a=>h v<|î.2<|ĵ a
def JS(v:Ñ)(i:Nat):Prop:=v.ownBlock=Â i
def JU(X:Nat->Prop)(g b:Nat)(a c:Ñ)(i:Nat):Prop:=X i\/i=g\/i=b\/JS a i\/JS c i
def aa6{G:Í}(a:ml T=Î)(h:tJ v T u)(o:∀j,v.ownBlock=Â j->G.heap.size<=j)(p:sk G.heap.size u):∀i,JS v i->∃c e f,u.heap[i]?=Â (Û c e f)/\f.2<=c.size/\fT (lq V B) c c/\0<c.size/\Ei c/\e≠304/\e≠305:=λi b=>by
 rcases h with rfl|⟨g,n,c,k,rfl,l⟩
 .cases b
 .have e:g=i:=by unfold JS at b;simpa[Value.ownBlock]using b
  subst e;let⟨r,m⟩:=p g k T (0,0) (o g U) l a;exact⟨k,T,(0,0),l,Ø _,pR λv d=>ap8<|m v d,r,Ae λv d=>ap9<|m v d,(λq=>by rw[q]at a;cases a),(λq=>by rw[q]at a;cases a)⟩
def aa7(h:tJ v T u)(a:∀i,JS v i->V i):fh (lq V B) v v:=by
 rcases h with rfl|⟨g,n,c,b,rfl,d⟩
 .exact .nS _ _
 .exact fh.kV (Y:=lq V B) ⟨⟨U,a g U⟩,U,U⟩ n c
theorem aqa{G:Í}(J:kJ B X G)(k:e8 (λ_=>False) G u)(K:∀i,X i->i<G.heap.size){l:List (Nat×fH)}{s:gA.St}(o:TL b s h G u)(r:TK l b G u m)(L:∀p∈l,X p.1): ∃e,(∀i,X i->e i)/\e m/\kJ B e u/\∀i,e i->X i\/G.heap.size<=i:=by
 have t:=k.Y _ λi c T w M y=>by rw[ı M]at y;cases y
 let⟨a,d,N,z,C,D,E⟩:=o.r;refine⟨JU X m b a d,λi q=>È q,Ï<|È U,?_,?_⟩
 .rintro i (q|rfl|rfl|q|q)
  .let⟨c,e,w,n,x,f,j⟩:=J i q;exact⟨c,e,w,by rwa[k.N i (K i q) id],x,f.I (Ad λ_=>È),j⟩
  .let⟨F,n,x,f⟩:=r.r;have H:∀v∈F.toList,v=Ã Á\/∃j,v=Ã (Â ⟨j,0,Á⟩)/\JU X i b a d j:=λv e=>by
    rcases f v e with q|q|q
    .unfold sC at q;obtain⟨p,I,rfl⟩:=Ú.1 q;exact Ï ⟨_,U,È<|L p I⟩
    .exact Ï ⟨_,q,Ï<|Ï<|È U⟩
    .exact È q
   refine⟨F,136,(0,0),n,Ø _,pR λv e=> ?_,x,Ae λv e=> ?_,A,A⟩
   .rcases H v e with rfl|⟨j,rfl,I⟩
    .exact .lT
    .exact .j2 ⟨⟨U,I⟩,U,U⟩
   .rcases H v e with rfl|⟨j,rfl,I⟩<;>rfl
  .have f:∀v∈jc s a++[Å É h,d],fh (lq (JU X m i a d) B) v v/\yu v=Ë:=λv e=>by
    rw[zP]at e;have I:=aa7 (B:=B) (V:=JU X m i a d) z λj q=>Ï<|Ï<|Ï<|È q;have F:=aa7 (B:=B) (V:=JU X m i a d) C λj q=>Ï<|Ï<|Ï<|Ï q;have H:∀{x:Ñ} {T:č},tJ x T u->yu x=Ë:=λ{x T} q=>by rcases q with rfl|⟨_,_,_,_,rfl,_⟩<;>rfl
    rcases â.1 e with q|q
    .rcases â.1 q with q|q
     .rcases Ud s v q with⟨n,rfl⟩|⟨p,rfl⟩
      .exact⟨.iE _ _,U⟩
      .exact⟨.kK _,U⟩
     .grind
    .simp at q;rcases q with rfl|rfl
     .exact⟨.iE _ _,U⟩
     .grind
   exact⟨_,147,(0,0),N,Ø _,pR λv e=>(f v<|by simpa using e).1,by simp[mL],Ae λv e=>(f v<|by simpa using e).2,A,A⟩
  .exact aa6 U z D t i q
  .exact aa6 U C E t i q
 .rintro i (q|rfl|rfl|q|q)
  .exact È q
  .exact Ï r.C
  .exact Ï o.C
  .exact Ï<|D i q
  .exact Ï<|E i q
def N4{Y:fl}(h:fh Y v x):fh (lq X B) v v->fh (lq (λj=>∃i,X i/\Y i j) B) x x:=by
 induction h with
 |mD b=>exact λ_=> .mD b
 |iE k n=>exact λ_=> .iE k n
 |kK s=>exact λ_=> .kK s
 |lT=>exact λ_=> .lT
 |@j2 a a' q=>exact λz=>fh.j2 (Y:=lq (λj=>∃i,X i/\Y i j) B) ⟨⟨U,_,DR z,q.1⟩,U,U⟩
 |nS n c=>exact λ_=> .nS n c
 |@kV a a' q n c=>exact λz=>fh.kV (Y:=lq (λj=>∃i,X i/\Y i j) B) ⟨⟨U,_,DU z,q.1⟩,U,U⟩ n c
 |ve=>exact λ_=> .ve
 |fn f=>exact λ_=> .fn f
 |vf=>exact λ_=> .vf
 |vg=>exact λ_=> .vg
 |vh=>exact λ_=> .vh
 |yq t _ b=>exact λz=> .yq t (b (by cases z with|yq _ y=>exact y))
 |oL f _ b=>exact λz=> .oL U λi c _=>b i (by rwa[f]) c (by cases z with|oL _ y=>exact y i _ _)
 |nT f _ b=>exact λz=> .nT U λi c _=>b i (by rwa[f]) c (by cases z with|nT _ y=>exact y i _ _)
def aqb{Y:fl}(h:fh Y v x):yu x=yu v:=by cases h<;>rfl
theorem Ue{Y:fl}{r:Nat->Prop}(h:jj Y r u w)(s:kJ B X u):kJ B (λj=>∃i,X i/\Y i j) w:=by
 rintro j ⟨i,t,x⟩;let⟨c,a,e,F,y,z,C,b,G,H,I⟩:=h.r i j x;let⟨d,J,qT,m,_,D,K,E,n,o⟩:=s i t;rw[z]at m;cases m;have L:=b.C.resolve_right λq=>q.2.1.elim n o;refine⟨a,e,y,C,?_,pR λv f=> ?_,Z,Ae λv f=> ?_,n,o⟩
 .grind
 .obtain⟨k,g,rfl⟩:=Ĝ f;have l:k<a.size:=by simpa using g
  have:=N4 (b.r k Z l)<|D.C k Z Z;simpa using this
 .obtain⟨k,g,rfl⟩:=Ĝ f;have l:k<a.size:=by simpa using g
  have p:=aqb<|b.r k Z l;rw[(E k c[k]<|å Z)]at p;simpa using p
def Af{Y:fl}(h:jj Y X u w):iY Y u w:=λi j o v b c=>h.gB (a:=⟨i,o,Á⟩) (a':=⟨j,o,Á⟩) ⟨b,U,U⟩ c
end
end Go.Proofs.Y.kI
namespace Go.Proofs.Y.Lift
open Go
def aa8{α β:Type}{c:α->β->Option (ForInStep β)}{I:β->Prop}(d:∀a b s,I b->c a b=Â s->I s.value): ∀(l:List α) (b r:β),I b->forIn l b c=Â r->I r
 |[],b,r,hi,h=>by simp at h;subst h;exact hi
 |a::l,b,r,hi,h=>by
  rw[List.forIn_cons]at h;cases e:c a b with
  |none=>rw[e]at h;simp at h
  |some s=>
   rw[e]at h;have:=d a b s hi e;cases s with
   |done x=>simp at h;subst h;exact this
   |yield x=>simp at h;exact aa8 d l x r this h
def jU.gV(h:jU v):∀x∈v.cells,jU x:=by
 intro x a;cases h with
 |oL h=>
  obtain⟨i,b,rfl⟩:=Array.mem_iff_getElem.1 a;exact h i b
 |nT h=>simp[Ĺ]at a;subst a;exact .nT h
 |_=>simp[Ĺ]at a;subst a;constructor
def ZP(a:č->Option ħ):Prop:=∀t i z,a t=Â i->i.zero=Â z->jU z
def Uf(h:∀x∈d,jU x):jU (.agg d):=.oL λ_ a=>h _<|ă a
theorem aqc{l:č->Option ħ}(h:ZP l){m:Array Field}(g:ŕ l m=Â zJ)(q:zJ.zero=Â z):jU z:=by
 unfold ŕ at g;simp only[<-Array.forIn_toList]at g;generalize t:(forIn m.toList _ _:Option _)=L at g;cases L with
 |none=>simp at g
 |some r=>
  have u:=aa8 (I:=λx=>∀a,x.2.2.2.2.2.2.2.1=Â a->∀v∈a,jU v) ?_ _ _ _ ?_ t
  .have:∃a,r.2.2.2.2.2.2.2.1=Â a/\z=.agg a:=by
    grind [ò]
   obtain⟨a,e,rfl⟩:=this;exact Uf<|u a e
  .intro f b s w d;have y:∀(e:Option Ñ) (k:Nat) (x:Option (Array Ñ)),(∀z,e=Â z->jU z)->x=(if k>Ų then Á else do pure ((<-b.2.2.2.2.2.2.2.1)++(<-e).cells))->∀a,x=Â a->∀v∈a,jU v:=by
    intro e k x B C a c v n;subst C;split at c
    .simp at c
    .cases j:b.2.2.2.2.2.2.2.1 with
     |none=>rw[j]at c;simp at c
     |some E=>
      cases o:e with
      |none=>rw[j,o]at c;simp at c
      |some D=>
       rw[j,o]at c;simp at c;subst c;rcases Array.mem_append.1 n with p|p
       .exact w _ j v p
       .exact(B D o).gV v p
   cases e:l f.type with
   |none=>rw[e]at d;simp at d
   |some j=>
    rw[e,ê,ş]at d;have k:=y j.zero (b.2.1+j.size) _ (λz q=>h _ _ _ e q) U;generalize(if b.2.1+j.size>Ų then Á else(do pure ((<-b.2.2.2.2.2.2.2.1)++(<-j.zero).cells):Option (Array Ñ)))=X at d k;generalize(if b.1.size+1<m.size then ";" else "")=Y at d;simp only[bind,pure,Option.bind]at d;repeat' split at d
    all_goals first
     |(simp only[Ô]at d;subst d;exact k)
     |(simp at d;done)
  .intro a c v n;simp at c;subst c;simp at n
def aqd{c:č->Option ħ}(h:ZP c){d:TypeDesc}(a:Χ c d=Â zJ)(b:zJ.zero=Â z):jU z:=by
 unfold Χ at a;cases d with
 |struct k=>exact aqc h a b
 |array n e=>
  simp only[ê,Ü,ā,Ô]at a;obtain⟨f,v,st,_,rfl⟩:=a;simp only at b;split at b
  .simp at b
  .split at b
   .simp at b;subst b;exact Uf fi
   .simp only[ò]at b;obtain⟨j,g,rfl⟩:=b;refine Uf λx k=> ?_;simp only[Array.mem_flatten,Array.mem_replicate]at k;obtain⟨l,⟨_,rfl⟩,k⟩:=k;exact(h _ _ _ v g).gV x k
 |pointer e=>
  simp only[ê,Ü,ā]at a;let⟨f,v,a⟩:=a;repeat' split at a
  all_goals first
   |(simp at a;done)
   |(simp only[Ü,Ô]at a;obtain⟨_,_,rfl⟩:=a;simp only[ł,Ô]at b;subst b;constructor)
 |slice e=>
  simp only[ê,Ü,ā,Ô]at a;obtain⟨_,_,_,_,rfl⟩:=a;simp only[ł,Ô]at b;subst b;constructor
 |map k e=>
  simp only[ê,Ü,ā,Ô]at a;obtain⟨_,_,_,_,_,_,_,_,rfl⟩:=a;simp only[ł,Ô]at b;subst b;constructor
 |chan k e=>
  simp only[ê,Ü,ā,Ô]at a;obtain⟨_,_,_,_,rfl⟩:=a;simp only[ł,Ô]at b;subst b;constructor
 |func k e v=>
  simp only[ê,Ü,ā,Ô]at a;obtain⟨_,_,rfl⟩:=a;simp only[ł,Ô]at b;subst b;constructor
 |_=>simp at a
def aa9{T:Tables}(a:∀(t:Nat) (i:ħ) (z:Ñ),T.types[t]?=Â i->i.zero=Â z->jU z):∀f,ZP<|ţ T f
 |0=>λt i z h=>by simp[ţ]at h
 |f+1=>λt i z h b=>by
  unfold ţ at h;split at h
  .exact a t i z h b
  .simp only[Ü]at h;let⟨d,_,c⟩:=h;exact aqd (aa9 a f) c b
def aqe(a:∀(t:Nat) (i:ħ) (z:Ñ),P.types[t]?=Â i->i.zero=Â z->jU z):nV P:=λt i z h b=>by
 have h:P.toTables.info? t=Â i:=h;unfold Tables.info? at h;split at h
 .exact a t i z h b
 .exact aa9 a _ t i z h b
end Go.Proofs.Y.Lift
namespace Go.Proofs.Y.fq
open Go Go.Conc Go.Proofs.Y.Lift Go.RowKit Go.Conc.Lib Go.ConcR.Gen
open Go.Proofs Go.Proofs.YtgpphkdoanciiaaGreatDoor
def Ug:Ñ->Bool
 |.agg a=>a.toList.all yB
 |v=>yB v
def abb(h:Ug v=Î):jU v:=by
 cases v with
 |agg b=>exact .oL λi a=>Hj<|(ĭ.1 h) _<|î.2<|ă a
 |_=>exact Hj h
def abd:Ñ->Bool
 |ë a=>a.toList.all Ug
 |v=>Ug v
def aqf(h:abd v=Î):jU v:=by
 cases v with
 |tuple b=>exact .nT λi a=>abb<|(ĭ.1 h) _<|î.2<|ă a
 |_=>exact abb h
def Gl(i:ħ):Bool:=match i.zero with
 |some z=>abd z
 |none=>Î
def aqg(h:P.types.toList.all Gl=Î):nV P:=aqe λt i z a b=>by have:=(ĭ.1 h) i<|î.2<|ĵ a;unfold Gl at this;rw[b]at this;exact aqf this
def yw:nV À:=aqg fN
end Go.Proofs.Y.fq
namespace Go.Proofs.Y.kI
open Go Go.Conc Go.Proofs Go.RowKit Go.Proofs.Y.Lift Go.Proofs.Y.gA Go.Proofs.Y.fq
noncomputable def nB:Nat:=À.globals.size
def pS(a:Nat->Prop)(b:Nat):Prop:=a b\/b=1\/b=2\/b=3\/b=4
def N5(b:Nat)(e:č)(w:Í):Prop:=∃c a,w.heap[b]?=Â (Û c e a)/\a.2<=c.size/\a.2<=16/\0<c.size/\∀v∈c.toList,∃k n,v=Å k n
structure mM(w:Í):Prop where
 fv:nB<=w.heap.size
 M:kJ nB (λb=>b=1\/b=2) w
 I:N5 3 304 w
 C:N5 4 305 w
 S:gA.lP w
 jb:iL w
 N:qK w
section
variable{V:Nat->Prop}
theorem mM.r{w':Í}(h:mM w)(f:nB<=w'.heap.size)(k:∀b,b=1\/b=2\/b=3\/b=4->w'.heap[b]?=w.heap[b]?):mM w':=by
 have d:∀b o,b=1\/b=2\/b=3\/b=4->w'.cell? ⟨b,o,Á⟩=w.cell? ⟨b,o,Á⟩:=λb o e=>by simp only[à,k b e]
 refine⟨f,h.M.C λb e=>k b<|e.imp id È,?_,?_,?_,?_,?_⟩
 .let⟨c,i,a,r⟩:=h.I;exact⟨c,i,by rwa[k 3 fi],r⟩
 .let⟨c,i,a,r⟩:=h.C;exact⟨c,i,by rwa[k 4 fi],r⟩
 .have c:=h.S;have i:À.globalNamed "internal/strconv.uint64pow10"=Â 1:=fp
  unfold gA.lP χ ο at*;grind
 .let⟨c,g,a⟩:=h.jb.M;refine⟨⟨c,g,by rwa[k 2 fi]⟩,λi r j=> ?_⟩;rw[d 2 _ fi,d 2 _ fi,d 2 _ fi];exact h.jb.I i r j
 .have:=h.N;unfold qK at*;grind
def abe(u:kJ nB X w)(x:∀b,X b->lB b=Ë)(g:mM w):MW (pS X) (pS X) nB w:=by
 have p:∀{a:Nat->Prop} {c:Array Ñ},(∀b,a b->pS X b)->fT (lq a nB) c c->fT (qy (pS X) nB) c c:=λ{a c} hX r=>r.I<|Ad hX;refine⟨?_,g.fv⟩;have s:∀b e,(e=304\/e=305)->lB b=Î->N5 b e w->∃c e d,w.heap[b]?=Â (Û c e d)/\d.2<=c.size/\fT (qy (pS X) nB) c c/\(pS X b->0<c.size/\(lB b=Î->(e=304\/e=305)/\d.2<=16)/\(lB b=Ë->Ei c)):=λb e y B h=>by let⟨c,d,f,j,l,m,o⟩:=h;exact⟨c,e,d,f,j,pR λv i=>by obtain⟨k,n,rfl⟩:=o v i;exact .iE _ _,λ_=>⟨m,λ_=>⟨y,l⟩,λq=>by rw[B]at q;cases q⟩⟩
 rintro b (q|q|q|rfl|rfl)
 .let⟨c,e,d,f,j,l,m,o,_⟩:=u b q;exact⟨c,e,d,f,j,p (λ_=>È) l,λ_=>⟨m,λt=>(by rw[x b q]at t;cases t),λ_=>o⟩⟩
 .let⟨c,e,d,f,j,l,m,o,_⟩:=g.M b<|È q;exact⟨c,e,d,f,j,p (λi k=>k.elim (λz=>Ï<|È z) λz=>Ï<|Ï<|È z) l,λ_=>⟨m,λt=>(by rw[q]at t;cases t),λ_=>o⟩⟩
 .let⟨c,e,d,f,j,l,m,o,_⟩:=g.M b<|Ï q;exact⟨c,e,d,f,j,p (λi k=>k.elim (λz=>Ï<|È z) λz=>Ï<|Ï<|È z) l,λ_=>⟨m,λt=>(by rw[q]at t;cases t),λ_=>o⟩⟩
 .exact s 3 304 (È U) U g.I
 .exact s 4 305 (Ï U) U g.C
def pT(a:lB b=Ë\/i<16)(h:w.cell? ⟨b,i,Á⟩=Â v):(World.tp (ln V w) xQ 0).cell? ⟨b,i,Á⟩=Â v:=by
 have j:(World.tp (ln V w) xQ 0).heap[b]?=(w.heap[b]?).map (pL V b):=FF b;simp only[à,j];simp only[à]at h;cases g:w.heap[b]? with
 |none=>rw[g]at h;cases h
 |some k=>
  rw[g]at h;cases k with
  |cells c e m=>
   simp only[Ă,pL,ö,ì,if_false]at h|-;split
   .rename_i d;split at d
    .split at d
     .rename_i l;cases d;rcases a with a|a
      .rw[l]at a;cases a
      .unfold uM;rw[Array.getElem?_extract];simp;exact⟨by have:=(á.1 h).1;omega,h⟩
     .cases d;exact h
    .cases d;exact h
   .rename_i f;split at f
    .split at f<;>exact absurd U<|f _ _ _
    .exact absurd U<|f _ _ _
  |_=>cases h
def abf{T:ŷ}(d:kJ nB X w)(e:∀b,X b->lB b=Ë):iY (lq X nB) w (World.tp (ln V w) T 0):=by rintro i j o v ⟨rfl,a⟩ c;exact⟨v,pT (È<|e i a) c,d.r a c⟩
end
def RD(s:List fH)(b:Ñ)(a:Nat->Prop)(w:Í):Prop:=∃c,kv c=s/\lF s/\NC b c w/\kJ nB a w/\fh (lq a nB) b b
section
variable{V:Nat->Prop}{s:List fH}
def abg(h:kJ nB X w)(k:∀b,X b->u.heap[b]?=w.heap[b]?):iY (lq X nB) w u:=by rintro i j o v ⟨rfl,a⟩ c;exact⟨v,by simp only[à,k i a];exact c,h.r a c⟩
def RD.r(h:RD s v X w)(k:∀b,X b->u.heap[b]?=w.heap[b]?):RD s v X u:=by let⟨l,d,e,f,a,c⟩:=h;let⟨g,i,j⟩:=JR (abg a k) c f;exact⟨g,i.trans d,e,j,a.C k,c⟩
def JV(r:Nat)(q:Qn)(w:Í):Prop:=pQ r q.x q.y q.g q.k q.r q.v q.C q.I w
def abh{Y:fl}(a:iY Y u w){r:Nat}{q:Qn}(b:Y r i)(h:JV r q u):JV i q w:= ⟨a.r b h.I,a.r b h.S,a.r b h.a,a.r b h.Y,a.r b h.N,a.r b h.M,a.r b h.c,a.r b h.b⟩
def aqh{T:ŷ}(g:mM w):gA.lP (World.tp (ln V w) T 0):=by
 have a:=g.S;have h:À.globalNamed "internal/strconv.uint64pow10"=Â 1:=fp
 unfold gA.lP χ ο at*;rw[h]at a|-;simp only[ş]at a|-;have i:(World.tp (ln V w) T 0).heap[1]?=(w.heap[1]?).map (pL V 1):=FF 1;rw[i];cases f:w.heap[1]? with
 |none=>rw[f]at a;cases a
 |some j=>
  rw[f]at a;cases j with
  |cells c e k=>
   simp only[Ă,pL,lB]at a|-;split
   .rename_i b;split at b<;>(simp at b;obtain⟨rfl,_⟩:=b;exact a)
   .rename_i d;split at d
    .exact absurd U<|d _ _ _
    .exact absurd U<|d _ _ _
  |_=>cases a
theorem abj{T:ŷ}(g:mM w):iL (World.tp (ln V w) T 0):=by
 let⟨f,h,d⟩:=g.jb.M;refine⟨?_,λi r e=> ?_⟩
 .have a:(World.tp (ln V w) T 0).heap[2]?=(w.heap[2]?).map (pL V 2):=FF 2;rw[a,d];simp only[Ă,pL,lB];grind
 .let⟨a,b,c⟩:=g.jb.I i r e;exact⟨pT (È U) a,pT (È U) b,pT (È U) c⟩
def aqi{T:ŷ}(g:mM w):qK (World.tp (ln V w) T 0):=pT (Ï A) g.N
def Gm{T:ŷ}:kq (World.tp (ln V w) T 0):=λi o h=>i_ (Sh:=V) (w:=w) i o h
theorem aqj{l:e9}{q:Qn}{r:Nat}(x:RD s v X l.w)(I:∀b,X b->l.M b)(y:kJ nB V l.w)(J:∀b,V b->l.M b)(h:V r)(z:JV r q l.w)(ok:q.Ok)(g:mM l.w)(K:∀b,b=1\/b=2\/b=3\/b=4->l.M b)(j:∀b,X b\/V b->lB b=Ë)(m:List (Nat×fH))(B:kv m=s): FI (λg=>xH g=Î) 67 #[v,Ã<|Â ⟨r,0,Á⟩] l (pS λb=>X b\/V b) λe _=>e=Ä (rE m q):=by
 let⟨L,c,d,D,E,o⟩:=x;have t:=E.I y;refine⟨?_,abe t j g,?_,?_,λT=> ?_⟩
 .rintro b (q|q);all_goals grind
 .intro b a;unfold xH at a;simp at a;exact Ï a
 .refine pR λe a=> ?_;simp at a;rcases a with rfl|rfl
  .exact o.fO<|Ad λi k=>È<|È k
  .exact fh.j2 (Y:=qy (pS λb=>X b\/V b) nB) ⟨⟨U,È<|Ï h⟩,U,U⟩
 .have a:=abf (V:=pS λb=>X b\/V b) (T:=T) t j;obtain⟨F,f,N,n,G,rfl,O,u⟩:=JR a (o.fO<|Ad λi k=>È k) D;have i:n=(kv F).length:=by rw[u.r];simp[kv]
  have P:=d.I;have Q:=d.C;rw[f,c]at i;have C:=apY (cp:=G) u Z Z (λp H=> ?_) (abh a ⟨U,Ï h⟩ z) ok (abj g) (aqh g)<|aqi g
  .apply C.mono;rintro e S ⟨rfl,k⟩;exact⟨by rw[ap0<|f.trans<|c.trans B.symm],k.gV Gm⟩
  .have:p.2∈s:=by rw[<-c,<-f];exact Ú.2 ⟨p,H,U⟩
   exact(d.r _ this).1
end
def DV(r:Nat)(v:Int)(x:Nat)(gL:List Tx)(w:Í):Prop:=∃a n c b,Dw r v x a n c w/\Dq a n b w/\lO b=gL/\n<=1000
section
variable{V:Nat->Prop}{s:List fH}
def abk(h:kJ nB X w):∀i,X i->i<w.heap.size:=λi a=>by let⟨c,e,d,b,_⟩:=h i a;exact(á.1 b).1
theorem abl{T:ŷ}(f:lB b=Ë)(h:w.heap[b]?=Â (Û d e xJ))(i:xJ.2<=d.size):∃a,(World.tp (ln V w) T 0).heap[b]?=Â (Û d e a)/\a.2<=d.size:=by have g:(World.tp (ln V w) T 0).heap[b]?=(w.heap[b]?).map (pL V b):=FF b;rw[g,h];simp only[Ă,pL,f,ì,if_false];grind
def aqk{T:ŷ}(h:kJ nB X w)(d:∀b,X b->lB b=Ë):kJ nB X (World.tp (ln V w) T 0):=λb a=>by let⟨c,e,m,f,g,i⟩:=h b a;let⟨j,k,l⟩:=abl (V:=V) (T:=T) (d b a) f g;exact⟨c,e,j,k,l,i⟩
def aql{T:ŷ}(k:kJ nB X w)(l:∀b,X b->lB b=Ë){r:Nat}{v:Int}{gL:List Tx}(o:X r)(h:DV r v i gL w):DV r v i gL (World.tp (ln V w) T 0):=by
 let⟨D,n,E,F,g,p,G,H⟩:=h;have m:=l r o;refine⟨D,n,E,F,⟨pT (È m) g.M,pT (È m) g.N,pT (È m) g.I⟩,⟨p.r,λj a t q=> ?_⟩,G,H⟩;let⟨tb,I,s,u,d,J⟩:=p.C j a t q;have y:X tb:=by have:=k.r o g.I;rw[s]at this;exact DU this
 have z:=DR<|k.r y u;have f:=l a z;let⟨K,O,B⟩:=d.b;let⟨c,e,P,C,L,_⟩:=k a z;rw[B]at C;cases C;obtain⟨M,N,_⟩:=abl f B L;exact⟨tb,I,s,pT (È<|l tb y) u,⟨⟨K,M,N⟩,pT (È f) d.r,pT (È f) d.C,pT (È f) d.I,pT (È f) d.M,pT (È f) d.Y,pT (È f) d.N⟩,J⟩
def Rg(s:List fH)(v:Ñ)(u:Í):Prop:=∃X,RD s v X u
def Rg.tp{T:ŷ}(h:Rg s v w):Rg s v (World.tp w T n):=by let⟨X,h⟩:=h;exact⟨X,h.r λ_ _=>rfl⟩
def aqm{Y:fl}{d:Nat->Prop}(h:rO Y d u w)(a:fh Y v x)(e:Rg s v u):∃c,RD s x c w/\∀b,c b->∃i,Y i b:=by let⟨X,f⟩:=e;have g:RD s v X {u with tape:=w.tape,drawn:=w.drawn}:=f.r λ_ _=>rfl;let⟨t,j,k,l,m,n⟩:=g;let⟨o,p,q⟩:=JR (Af h) a l;exact⟨_,⟨o,p.trans j,k,q,Ue h m,N4 a n⟩,λb ⟨i,_,r⟩=>⟨i,r⟩⟩
theorem aqn{l:e9}{r:Nat}{gL:List Tx}(hRD:RD s v X l.w)(hU:∀b,X b->l.M b)(L:kJ nB V l.w)(hV:∀b,V b->l.M b)(N:V r)(hq:DV r h m gL l.w)(hx:m<8)(o:-1<=h)(Uh:∀t∈gL,t.Ok)(hn:gL.length<=1000)(g:mM l.w)(hG:∀b,b=1\/b=2\/b=3\/b=4->l.M b)(y:∀b,X b\/V b->lB b=Ë)(B:List (Nat×fH))(H:kv B=s): FI (λg=>xH g=Î) 66 #[v,Ã<|Â ⟨r,0,Á⟩] l (pS λb=>X b\/V b) λz u=>∃p n c,z=ë #[Ç p n c,Ä (rC B h m gL).2]/\Rg (sE B h m gL) (Ç p n c) u:=by
 let⟨vs,h1,D,h3,O,d⟩:=hRD;have P:=O.I L;refine⟨?_,abe P y g,?_,?_,λT=> ?_⟩
 .rintro b (q|q);all_goals grind
 .intro b u;unfold xH at u;simp at u;exact Ï u
 .refine pR λh o=> ?_;simp at o;rcases o with rfl|rfl
  .exact d.fO<|Ad λi j=>È<|È j
  .exact fh.j2 (Y:=qy (pS λb=>X b\/V b) nB) ⟨⟨U,È<|Ï N⟩,U,U⟩
 .have f:=aqk (V:=pS λb=>X b\/V b) (T:=T) O λb q=>y b<|È q;obtain⟨z,k1,Q,n,S,rfl,W,E⟩:=JR (abf (V:=pS λb=>X b\/V b) (T:=T) P y) (d.fO<|Ad λi j=>È j) h3;obtain⟨tp,tn,tc,a,q1,q2,rfl,q4⟩:=(aql (V:=pS λb=>X b\/V b) (T:=T) L (λb q=>y b<|Ï q) N hq);have c:=k1.trans h1;have hlen:n=s.length:=by rw[E.r,<-c];simp[kv]
  have avk:=D.I;have hle:=D.C;have nJ:kq (World.tp (ln (pS λb=>X b\/V b) l.w) T 0):=Gm;have C:=aov E Z Z W (λp I=>by
   have:p.2∈s:=by rw[<-c];exact Ú.2 ⟨p,I,U⟩
   have:=(D.r _ this).2.2.2;omega) q1 q2 q4 (abj g) hx o
  have u:sE z h m (lO a)=sE B h m (lO a):=by unfold sE;rw[aa4<|c.trans H.symm,c,H]
  have F:lF (sE z h m<|lO a):=lF.M (by rwa[c]) Uh hn;have ha:=aa4 (c.trans H.symm) h m<|lO a;generalize World.tp (ln (pS λb=>X b\/V b) l.w) T 0=G at*;refine C.mono ?_;rintro e u' ⟨k,hA⟩;rcases hA with⟨J,rfl⟩|⟨nv,b,tB,J,rfl,e3,e4,gb,gn,gc,rfl,e6⟩
  .refine⟨⟨Q,n,S,by rw[ha],?_⟩,k.gV nJ⟩;rw[<-u];have K:sE z h m (lO a)=s:=by unfold sE;rw[J,c];simp
   rw[K]at F|-;exact⟨X,z,c,F,⟨Q,n,S,U,W,E.I k⟩,f.C λi j=>k.N i (abk f i j) id,d⟩
  .let⟨i,m1,m2,m3,_⟩:=aqa f k (abk f) e4 e6 λp I=>by
    let⟨j,hj⟩:=Ĕ I;let⟨sb,so,f1,f2,_⟩:=E.C j p.1 p.2 hj;have:X sb:=by rw[f1]at d;exact DU d
    exact DR<|f.r this f2
   refine⟨⟨Â ⟨gb,0,Á⟩,gn,gc,by rw[ha],?_⟩,k.gV nJ⟩;rw[<-u];have K:sE z h m (lO a)=kv (z++[(b,nv)]):=by unfold sE;rw[J];simp[kv]
   rw[K]at F|-;exact⟨i,_,U,F,e3,m3,fh.kV (Y:=lq i nB) ⟨⟨U,m2⟩,U,U⟩ gn gc⟩
end
structure wh where
 r:Nat->Int×Nat×List Tx
 C:Nat->Qn
def nh(s:List fH):List (Nat×fH):=s.map λv=>(0,v)
def JX(s:List fH):kv (nh s)=s:=by simp[kv,nh,Function.comp_def]
def DW(s:List fH)(i:Int×Nat×List Tx):List fH:=sE (nh s) i.1 i.2.1 i.2.2
def pU(a:wh)(I:List Nat)(b:List fH):Nat->List fH
 |0=>b
 |k+1=>DW (pU a I b k)<|a.r<|I.getD k 0
def wi(a:wh)(kd:Nat->Int)(p:Nat)(s:List fH):ByteArray:=if kd p=1 then(rC (nh s) (a.r p).1 (a.r p).2.1 (a.r p).2.2).2 else rE (nh s) (a.C p)
def iC(e:e9)(a:Nat->Prop)(c:wh)(kd:Nat->Int)(R:Nat)(d:List fH)(f:Nat->Prop):xF where
 γ:=List fH
 C:=d
 M:=λk s g=>g=DW s (c.r<|(hD kd R).getD k 0)
 RD:=λs h V w=>RD s h V w/\∀b,V b->a b\/e.w.heap.size<=b
 I:=λp=>wi c kd p<|pU c (hD kd R) d<|fJ kd p
 r:=f
def Ui{kd:Nat->Int}:∀(R k:Nat),k<(hD kd R).length->fJ kd ((hD kd R).getD k 0)=k
 |0,k,h=>by simp[hD]at h
 |R+1,k,h=>by
  by_cases q:kd R=1
  .rw[tA q]at h|-;rcases Nat.lt_or_ge k (hD kd R).length with z|z
   .have e:(hD kd R++[R]).getD k 0=(hD kd R).getD k 0:=by simp[Ğ,Ĥ z]
    rw[e];exact Ui R k z
   .have e:k=(hD kd R).length:=by simp at h;omega
    subst e;simp[Ğ,fJ]
  .rw[vO q]at h|-;exact Ui R k h
section
variable{y:Nat->Prop}
def N6(h:kJ nB y w)(g:mM w):∀b,y b->lB b=Ë:=λb i=>by
 let⟨c,e,m,f,_,_,_,_,j,k⟩:=h b i;cases d:lB b with
 |false=>rfl
 |true=>
  unfold lB at d;simp at d;rcases d with rfl|rfl
  .let⟨l,qT,a,_⟩:=g.I;rw[f]at a;cases a;exact absurd U j
  .let⟨l,qT,a,_⟩:=g.C;rw[f]at a;cases a;exact absurd U k
def aqo(p:kJ nB X w)(k:∀b,X b->u.heap[b]?=w.heap[b]?){r:Nat}{gL:List Tx}(g:X r)(h:DV r c i gL w):DV r c i gL u:=by
 have d:∀{b o:Nat} {z:Ñ},X b->w.cell? ⟨b,o,Á⟩=Â z->u.cell? ⟨b,o,Á⟩=Â z:=λ{b o z} l q=>by simp only[à,k b l];exact q
 let⟨C,n,D,E,m,s,F,G⟩:=h;refine⟨C,n,D,E,⟨d g m.M,d g m.N,d g m.I⟩,⟨s.r,λj a t q=> ?_⟩,F,G⟩;let⟨tb,H,y,B,e,I⟩:=s.C j a t q;have l:X tb:=by have:=p.r g m.I;rw[y]at this;exact DU this
 have f:=DR<|p.r l B;let⟨J,K,L⟩:=e.b;exact⟨tb,H,y,d l B,⟨⟨J,K,by rwa[k a f]⟩,d f e.r,d f e.C,d f e.I,d f e.M,d f e.Y,d f e.N⟩,I⟩
end
structure JY(l0:e9)(bt:wh)(kd:Nat->Int)(rq:Nat->Nat)(R:Nat)(Q:Nat->Prop):Prop where
 M:mM l0.w
 I:∀b,b=1\/b=2\/b=3\/b=4->l0.O b
 C:kJ nB Q l0.w
 fj:∀b,Q b->l0.O b
 r:∀p,p<R->Q (rq p)
 kO:∀p,p<R->kd p=1->DV (rq p) (bt.r p).1 (bt.r p).2.1 (bt.r p).2.2 l0.w/\(bt.r p).2.1<8/\-1<=(bt.r p).1/\(∀t∈(bt.r p).2.2,t.Ok)/\(bt.r p).2.2.length<=1000
 SA:∀p,p<R->kd p≠1->JV (rq p) (bt.C p) l0.w/\(bt.C p).Ok
def abm{V:Nat->Prop}{l:e9}{a:Ñ->Í->Prop}(h:FI X F d l V vQ)(b:∀v u,vQ v u->a v u):FI X F d l V a:= ⟨h.N,h.S,h.I,h.r,λT=>(h.C T).mono λe u q=>by
  cases e with
  |returned v=>exact⟨b v u q.1,q.2⟩
  |_=>exact q⟩
section
variable{l0:e9}{bt:wh}{kd:Nat->Int}{rq:Nat->Nat}{R:Nat}{Q C d:Nat->Prop}{B:List fH}{E F:Option ü}
def abn{s:List fH}(h:fq.nF ((kH (iC l0 d bt kd R B C) i n R kd rq D E F j9 j7 k m J j qX l0).r À) b s):s=pU bt (hD kd R) B b:=by
 have c:∀(b:Nat) (s:((kH (iC l0 d bt kd R B C) i n R kd rq D E F j9 j7 k m J j qX l0).r À).γ),fq.nF ((kH (iC l0 d bt kd R B C) i n R kd rq D E F j9 j7 k m J j qX l0).r À) b s->s=pU bt (hD kd R) B b:=λb s h=>by
  induction h with
  |vp=>rfl
  |EE _ a e=>
   rwa[e]at a
 exact c b s h
def aqp(h:JY l0 bt kd rq R Q)(N:l0.w.heap.size<=m):FD (kH (iC l0 d bt kd R B C) i n R kd rq D E F j9 j7 k m J j qX l0):=by
 apply ala yw o_ n_ U;intro a s O W l q t f x y P g G;let⟨f,S⟩:=f;have T:=y.fv m<|g m<|Ï U;have H:l0.w.heap.size<=l.w.heap.size:=Z
 have o:=G;have p:=h.M.r (Ì h.M.fv H) λb c=>o b<|h.I b c;have r:=h.C.C λb c=>o b<|h.fj b c;have e:=I8<|vU q;let⟨I,K⟩:=h.SA _ e.1 e.2;refine⟨_,abm (aqj f x r (λb c=>g b<|È<|h.fj b c) (h.r _ e.1) (abh (abg h.C λb c=>o b<|h.fj b c) ⟨U,h.r _ e.1⟩ I) K p (λb c=>g b<|È<|h.I b c) (λb c=>c.elim (N6 (by let⟨_,_,_,_,z,_⟩:=f;exact z) p b)<|N6 r p b) (nh s)<|JX s) λv u L=> ?_⟩;rw[L];have z:=abn t;have M:(kH (iC l0 d bt kd R B C) i n R kd rq D E F j9 j7 k m J j qX l0).a a=fJ kd ((jD kd R).getD a 0):=if_pos q;rw[M]at z;show _=Ä (wi bt kd ((jD kd R).getD a 0)<|pU bt (hD kd R) B<|fJ kd<|(jD kd R).getD a 0);rw[<-z];unfold wi;rw[if_neg e.2]
theorem aqr(h:JY l0 bt kd rq R Q)(hZ:(∀b,Q b->d b)/\∀b,b=1\/b=2\/b=3\/b=4->d b)(ZK:l0.w.heap.size<=m):FC (kH (iC l0 d bt kd R B C) i n R kd rq D E F j9 j7 k m J j qX l0):=by
 refine alb yw o_ n_ U (λs o u=>Rg s o u) (λs o u T n q=>Rg.tp q) ?_;intro T s o W l H I g K L hq r M;let⟨g,QL⟩:=g;have hs:=L.fv m<|r m<|Ï U;have N:l0.w.heap.size<=l.w.heap.size:=Z
 have t:=M;have x:=h.M.r (Ì h.M.fv N) λb a=>t b<|h.I b a;have y:=h.C.C λb a=>t b<|h.fj b a;have G:=H;have f:=I7<|vU G;let⟨O,P,S,V,X⟩:=h.kO _ f.1 f.2;refine⟨_,abm (aqn g K y (λb a=>r b<|È<|h.fj b a) (h.r _ f.1) (aqo h.C (λb a=>t b<|h.fj b a) (h.r _ f.1) O) P S V X x (λb a=>r b<|È<|h.I b a) (λb a=>a.elim (N6 (by let⟨_,_,_,_,z,_⟩:=g;exact z) x b)<|N6 y x b) (nh s)<|JX s) λv u hv=> ?_,?_⟩
 .obtain⟨p,z,c,rfl,Y⟩:=hv;refine⟨p,z,c,DW s<|bt.r<|(hD kd R).getD T 0,?_,U,Y⟩;have e:(kH (iC l0 d bt kd R B C) i n R kd rq D E F j9 j7 k m J j qX l0).d (T+1)=wi bt kd ((hD kd R).getD T 0) (pU bt (hD kd R) B<|fJ kd<|(hD kd R).getD T 0):=U;rw[e,Ui R T G,<-(abn I)];unfold wi;rw[if_pos f.2]
 .intro Y Sh u w s' c_ MP e p h3 h4;let⟨V',k1,c⟩:=aqm e p h3;refine⟨V',⟨k1,λb a=> ?_⟩,c⟩;let⟨z,hi⟩:=c b a;rcases h4 z b hi with((q|q)|q)|q;all_goals grind
end
section
variable{R:Nat}{kd:Nat->Int}{o:Nat->Nat}{r:List Ě}{l:e9}{u:Nat->e9}{bt:wh}{j f:Nat->Prop}{s0:List fH}
def aqs{s:List fH}(h:zz (iC l f bt kd R s0 j) k s):s=pU bt (hD kd R) s0 k:=by
 have b:∀(k:Nat) (s:(iC l f bt kd R s0 j).γ),zz (iC l f bt kd R s0 j) k s->s=pU bt (hD kd R) s0 k:=λk s h=>by
  induction h with
  |vp=>rfl
  |EE _ a c=>
   rwa[c]at a
 exact b k s h
structure Ag(f:Nat->Prop)(bt:wh)(R:Nat)(kd:Nat->Int)(s0:List fH)(l:e9)(an:Nat)(sl:Ñ)(l':e9):Prop where
 M:∀b,l.O b->l'.O b/\l'.w.heap[b]?=l.w.heap[b]?
 r:l'.O an/\∀p,p<R->l'.w.cell? ⟨an,p,Á⟩=Â (Ä<|wi bt kd p<|pU bt (hD kd R) s0<|fJ kd p)
 S:∃V,RD (pU bt (hD kd R) s0<|fJ kd R) sl V l'.w/\∀b,V b->l'.O b/\(f b\/l.w.heap.size<=b)
 d:l'.d=0
 q:¬l'.q
 rd:∀b,¬l'.I b
 C:(∀a,¬l'.r a)/\(∀a,¬l'.N a)/\∀a,¬l'.K a
 I:l'.w.cell? ⟨an,R,Á⟩=Á/\kX l'.w an=Â (0,0)
def aqt{a:e9}(h:Hh (iC l f bt kd R s0 j) R kd l i v a):Ag f bt R kd s0 l i v a:=by let⟨s,V,g,c,k⟩:=h.I9;have e:=aqs g;subst e;exact⟨h.vu,h.kE,⟨V,c.1,λb q=>⟨k b q,c.2 b q⟩⟩,h.d,h.q,h.rd,h.xG,h.El⟩
def aqu{J:(Loc->Prop)->Nat->Jd}{F:Ě}(P:qX=F.at y (Ð Q (j9::jJ)::L)::r)(c:fq.sj À zX i (MN kd o R n v l qX) .fy D u E w qJ)(C:Option (Nat×Nat))(s:gy l)(S:∀b,¬l.I b)(W:¬l.q)(Y:l.d=0)(N7:vV zX i l)(H:JY l bt kd o R X)(hZ:(∀b,X b->f b)/\∀b,b=1\/b=2\/b=3\/b=4->f b)(I:∀b,f b->l.O b)(K:∀b,j b->f b)(Dd:RD s0 v j l.w)(xD:w.os=l.w.os/\w.output=l.w.output)(hn:1<=n)(hs:n+R<1000) (hJ:∀t x z B p m c,vV t x z->gy z->Ag f bt R kd s0 l B (Ç p m c) z->fq.fg À Î (J t x) z (G (F.at (y.put ((Q[j9]?).bind (·.dst))<|ë #[Ç (Â ⟨B,0,Á⟩) R R,Ç p m c])<|Ð Q jJ::L) r)): ∃N t x T V Ja g e tB h,ſ À N (Į E w C) qJ=(.next<|Į g e tB,h)/\(e.os=l.w.os/\e.output=l.w.output)/\fq.sj À t x (J t x) T V Ja g e h:= ak3 (M:=iC l f bt kd R s0 j) P c C s S W Y N7 (λb q=>I b<|K b q) (λs C V w e h L=>⟨h.1.r L,h.2⟩) (λs C V w h=>⟨by let⟨_,_,_,⟨g,n,N,e,_⟩,_⟩:=h.1;exact⟨g,n,N,e⟩,λb q=>(h.2 b q).imp (I b) id⟩) ⟨Dd,λb h=>È<|K b h⟩ xD hn hs (λg N V T cq B ba bi all e=>⟨aqr H hZ e,aqp H e⟩) λt x z B p m c e g N=>hJ t x z B p m c e g<|aqt N
end
end Go.Proofs.Y.kI
namespace Go.Proofs.Y.ni
open Go Go.Proofs Go.RowKit Go.Proofs.Y.Lift Go.Proofs.Y.gA
def jm(c:Int):Bool:=decide (48<=c)&&decide (c<=57)
def sF(c:Int):Bool:=decide (97<=c)&&decide (c<=104)
def wj(c:Int):Int:=
 if c=105 then 1 else if c=103 then 2 else if c=98 then 3 else if c=99 then 4 else if c=109 then 5
 else if c=114 then 6 else if c=108 then 7 else if c=117 then 8 else if c=100 then 9 else 0
def N8(c:Int):Int:=if c=62 then 1 else if c=123 then 2 else if c=58 then 3 else 0
def abo(h:48<=c/\c<=57):jm c=Î:=by simp[jm,h]
def Gn(c:Int):jm c=Î↔(48<=c/\c<=57):=by simp[jm]
def aqv(c:Int):sF c=Î↔(97<=c/\c<=104):=by simp[sF]
def rF(k:Int):List Int:=
 if k=1 then[86,58,120,47,66]else if k=2 then[86,58,120,115]else if k=3 then[86,58,120]
 else if k=4 then[86,58,120,62,121,40,110,44,107,41]else if k=5 then[86,58,120,62,121,40,107,41]
 else if k=9 then[86,58,87]else[86]
def sG(k:Int):List Int:=
 if k=1 then[121,61,110]else if k=2 then[80]else[121,40,110,44,107,41]
def pb(a c:Int):Bool:=
 if a=86\/a=87 then c==104||jm c
 else if a=110\/a=107 then jm c
 else if a=120\/a=121 then sF c
 else if a=115 then jm c||(decide (97<=c)&&decide (c<=102))
 else c==a
def qL(a c:Int):Int:=
 if c=48\/jm c=Ë then 0
 else if a=86\/a=87 then 1
 else if a=110\/a=107 then 5
 else 0
def jZ(s:ByteArray):List Int:=s.data.toList.map λc=>((c.toNat:Nat):Int)
def aqw(B:ByteArray)(k:Nat)(h:k<B.size):(jZ B).drop k=((B[k].toNat:Nat):Int)::(jZ B).drop (k+1):=by
 have a:k<(jZ B).length:=by simpa[jZ]using h
 rw[List.drop_eq_getElem_cons a];congr 1;simp[jZ,ċ]
def Uj(B:ByteArray):(jZ B).length=B.size:=by unfold jZ;simp_all
theorem wm(s:ByteArray)(h:0<s.size):jZ s=((s[0].toNat:Nat):Int)::(jZ s).tail:=by have:=aqw s 0 h;grind
theorem abp(s:ByteArray)(h:s.size=0):jZ s=[]:=by grind [Ý,Uj]
def aqx(s:ByteArray):jZ (s.extract 1 s.size)=(jZ s).tail:=by unfold jZ;rw[Ĳ,ĺ,<-List.map_tail];congr 1;rw[ĥ,<-List.drop_one];apply List.take_of_length_le;simp_all
theorem aqy(s:ByteArray)(h:s.size<=10):(s.extract 1 s.size).size<=10:=by grind [Č]
theorem aqz(a c:Int):0<=qL a c/\qL a c<=5:=by unfold qL;grind
structure PT where
 c:List Int
 p:ByteArray
structure PR where
 c:List Int
 r:List PT
structure PD where
 S:List PR
 r:Bool
 I:PR
 M:Bool
 N:PT
structure PS where
 C:List Int
 r:Int
 I:Int
 M:Int
 d:PD
namespace PD
def Y(d:PD):List PT:=if d.M then d.I.r++[d.N]else d.I.r
def C(d:PD):List PR:=if d.r then d.S++[⟨d.I.c,d.Y⟩]else d.S
def ot(d:PD)(i:Nat)(z:Int):PD:={d with I:={d.I with c:=d.I.c.set i z}}
def oF(d:PD)(i:Nat)(z:Int):PD:={d with N:={d.N with c:=d.N.c.set i z}}
def iw(d:PD)(i:Nat)(z:Int):PD:=if d.M then d.oF i z else d.ot i z
def oG(d:PD)(p:ByteArray):PD:={d with N:={d.N with p:=p}}
def Gl:PT:=⟨[0,0,0,0,0],⟨#[]⟩⟩
def abq(k:Int):PR:=⟨[0,0,0,0,k,0,0,0],[]⟩
def nP(d:PD):PD:={d with I:=⟨d.I.c,d.Y⟩,M:=Î,N:=Gl}
def Gp(d:PD)(k:Int):PD:={S:=d.C,r:=Î,I:=abq k,M:=Ë,N:=d.N}
def fQ(d:PD)(want z:Int):PD:=
 if want=86 then d.ot 5 z else if want=87 then d.ot 6 z else if want=120 then d.iw 0 z else if want=121 then d.iw 1 z
 else if want=110 then d.iw 2 z else if want=107 then d.iw 3 z else if want=115 then d.ot 7 z else d
def tL(d:PD)(i:Nat):Int:=if d.M then d.N.c.getD i 0 else d.I.c.getD i 0
def G(d:PD)(a:Int):Int:=if a=86 then d.I.c.getD 5 0 else if a=87 then d.I.c.getD 6 0 else if a=110 then d.tL 2 else d.tL 3
end PD
def nj(a c:Int):Int:=
 if a=120\/a=121 then Þ [97,98,99,100,101,102,103,104] c.toNat.toUInt8
 else if a=115 then Þ [48,49,50,51,52,53,54,55,56,57,97,98,99,100,101,102] c.toNat.toUInt8
 else if c=104 then-1 else(c-48)%256
def pV(z c:Int):Int:=É.wrap<|É.wrap (z*10)+(c-48)%256
def pW(st:PS)(c:Int):Option PS:=
 if c=59/\st.d.S.length+1<24 then Â {st with C:=[82]}
 else if c=44/\0<st.d.Y.length/\st.d.Y.length<8 then Â {st with C:=[120,84],d:=st.d.nP}
 else Á
def yh(st:PS)(k:Int):Option PS:=if k=0 then Á else Â {st with C:=rF k,d:=st.d.Gp k}
def yi(st:PS)(k:Int):Option PS:=if k=0 then Á else Â {st with C:=sG k,I:=0,d:=st.d.oF 4 k}
def ou(st:PS)(a c:Int):PS:={st with r:=qL a c,M:=a,d:=st.d.fQ a (nj a c)}
def jS(B:ByteArray)(k:Nat)(st:PS)(c:Int):Option PS:=
 match st.C with
 |[]=>pW st c
 |want::tl=>
  if want=82 then yh st (wj c)
  else if want=66 then
   if sF c=Î then Â (ou {st with C:=[84],d:=st.d.nP} 120 c)else pW st c
  else if want=84 then yi st (N8 c)
  else if want=80 then
   if c=125 then Â {st with C:=tl,d:=st.d.oG (B.extract (k-st.I.toNat) k)}
   else if st.I=40\/lC c=0 then Á else Â {st with I:=st.I+1}
  else if pb want c=Î then Â {ou st want c with C:=tl}
  else Á
def DX(st:PS)(c:Int):PS:={st with r:=st.r-1,d:=st.d.fQ st.M (pV (st.d.G st.M) c)}
def kS(B:ByteArray)(k:Nat)(st:PS)(c:Int):Option PS:=
 if 0<st.r/\jm c=Î then Â (DX st c)else jS B k {st with r:=0} c
def jT(B:ByteArray):Nat->Nat->PS->Nat×PS
 |0,k,st=>(k,st)
 |f+1,k,st=>if h:k<B.size then match kS B k st (B[k].toNat:Int)with
  |none=>(k,st)
  |some a=>jT B f (k+1) a
  else(k,st)
def pd0:PD:=⟨[],Ë,⟨[],[]⟩,Ë,⟨[],⟨#[]⟩⟩⟩
def nQ:PS:=⟨[82],0,0,0,pd0⟩
def sH(c:Int)(w:Í): Ò À 94 #[Å ū c] w λe a=>e=Æ (õ<|jm c)/\a=w:=by
 go_enter Tryz.func94,Tryz.ntmps94;go_wp2;all_goals go_ret
 all_goals exact⟨t_ (by simp only[jm];first|(simp[*];done)|(rw[ė];simp;omega)),U⟩
def aqA(s:ByteArray)(c:Int)(w:Í): Ò À 167 #[Ä s,Å ū c] w λe a=>e=Æ (Å É<|Þ s.data.toList c.toNat.toUInt8)/\a=w:=by go_enter Tryz.func167,Tryz.ntmps167;go_wp2;rw[run_callFunc_extern Tryz.func185 fp fp fp fp,Lib.run_indexByteString];simp only[ų];rw[Oper.upon_value];go_wp2;go_ret;exact⟨U,U⟩
def JZ(s:ByteArray)(c:Int)(w:Í): Ò À 146 #[Ä s,Å ū c] w λe a=>e=Æ (Å É<|Þ s.data.toList c.toNat.toUInt8)/\a=w:=by go_enter Tryz.func146,Tryz.ntmps146;go_wp2_with (go_at_call 167;refine(aqA _ _ _).mono ?_;rintro e a ⟨rfl,rfl⟩);go_ret;exact⟨U,U⟩
def N9(c:Int):Bool:=jm c||(decide (97<=c)&&decide (c<=102))
def aqB:∀n:Fin 256,decide (0<=Þ [97,98,99,100,101,102,103,104] n.val.toUInt8)=sF (n.val:Int):=by decide+kernel
def aqC:∀n:Fin 256,decide (0<=Þ [48,49,50,51,52,53,54,55,56,57,97,98,99,100,101,102] n.val.toUInt8)=N9 (n.val:Int):=by decide+kernel
def aqD(a:0<=c)(b:c<256):decide (0<=Þ [97,98,99,100,101,102,103,104] c.toNat.toUInt8)=sF c:=by have:=aqB ⟨c.toNat,Z⟩;rwa[show((c.toNat:Nat):Int)=c from by omega]at this
def aqE(a:0<=c)(b:c<256):decide (0<=Þ [48,49,50,51,52,53,54,55,56,57,97,98,99,100,101,102] c.toNat.toUInt8)=N9 c:=by have:=aqC ⟨c.toNat,Z⟩;rwa[show((c.toNat:Nat):Int)=c from by omega]at this
def Uk(c:Int)(b:0<=c)(d:c<256)(w:Í): Ò À 98 #[Å ū c] w λe a=>e=Æ (õ<|sF c)/\a=w:=by
 have f:=aqD b d;go_enter Tryz.func98,Tryz.ntmps98;go_wp2_with (go_at_call 146;refine(JZ _ _ _).mono ?_;rintro e a ⟨rfl,rfl⟩);all_goals go_ret
 all_goals exact⟨U,U⟩
def aqF(c:Int)(b:0<=c)(d:c<256)(w:Í): Ò À 149 #[Å ū c] w λe a=>e=Æ (õ<|N9 c)/\a=w:=by
 have f:=aqE b d;go_enter Tryz.func149,Tryz.ntmps149;go_wp2_with (go_at_call 146;refine(JZ _ _ _).mono ?_;rintro e a ⟨rfl,rfl⟩);all_goals go_ret
 all_goals exact⟨U,U⟩
def aqG(c:Int)(w:Í): Ò À 102 #[Å ū c] w λe a=>e=Æ (Å É<|N8 c)/\a=w:=by
 go_enter Tryz.func102,Tryz.ntmps102;go_wp2;all_goals go_ret
 all_goals refine⟨FM ?_,U⟩
 all_goals simp only[beq_iff_eq,beq_eq_false_iff_ne,ne_eq]at*
 all_goals simp[N8, *]
def aqH(c:Int)(w:Í): Ò À 97 #[Å ū c] w λe a=>e=Æ (Å É<|wj c)/\a=w:=by
 go_enter Tryz.func97,Tryz.ntmps97;go_wp2;all_goals go_ret
 all_goals refine⟨FM ?_,U⟩
 all_goals simp only[beq_iff_eq,beq_eq_false_iff_ne,ne_eq]at*
 all_goals simp[wj, *]
def abr(b c:Int)(d:0<=c)(f:c<256)(w:Í): Ò À 104 #[Å ū b,Å ū c] w λe a=>e=Æ (õ<|pb b c)/\a=w:=by
 go_enter Tryz.func104,Tryz.ntmps104;go_wp2_with (first|(go_at_call 94;refine(sH _ _).mono ?_;rintro e a ⟨rfl,rfl⟩)|(go_at_call 98;refine(Uk _ d f _).mono ?_;rintro e a ⟨rfl,rfl⟩)|(go_at_call 149;refine(aqF _ d f _).mono ?_;rintro e a ⟨rfl,rfl⟩));all_goals go_ret
 all_goals refine⟨t_ ?_,U⟩
 all_goals try go_light
 all_goals simp only[beq_iff_eq,beq_eq_false_iff_ne,ne_eq]at*
 all_goals unfold pb
 all_goals first|(simp[N9, *];done)|(rw[ė];simp[*];done)|(rw[ė];simp[*];omega)
def aqI(k:Int)(w:Í): Ò À 145 #[Å É k] w λe a=>(∃b:ByteArray,e=Æ (Ä b)/\b.size<=10/\jZ b=rF k)/\a=w:=by
 go_enter Tryz.func145,Tryz.ntmps145;go_wp2;all_goals go_ret
 all_goals refine⟨⟨_,U,?_,?_⟩,U⟩
 all_goals try go_light
 all_goals simp only[beq_iff_eq,beq_eq_false_iff_ne,ne_eq]at*
 all_goals first|(simp[jZ,rF, *];done)|decide
def aqJ(k:Int)(w:Í): Ò À 148 #[Å É k] w λe a=>(∃b:ByteArray,e=Æ (Ä b)/\b.size<=10/\jZ b=sG k)/\a=w:=by
 go_enter Tryz.func148,Tryz.ntmps148;go_wp2;all_goals go_ret
 all_goals refine⟨⟨_,U,?_,?_⟩,U⟩
 all_goals try go_light
 all_goals simp only[beq_iff_eq,beq_eq_false_iff_ne,ne_eq]at*
 all_goals first|(simp[jZ,sG, *];done)|decide
def nk(m s:Nat):Ñ->Prop
 |Å ū _=>False
 |Å _ _=>True
 |õ _=>True
 |Ä _=>True
 |Ã Á=>True
 |Ã (Â a)=>m<=a.block/\a.block<s
 |Ç Á _ _=>True
 |Ç (Â a) _ _=>m<=a.block/\a.block<s
 |_=>False
def nk.r(h:nk m i v)(d:i<=n):nk m n v:=by
 cases v with
 |int k b=>cases k<;>exact h
 |pointer a=>cases a with
  |none=>trivial
  |some a=>exact⟨h.1,Ġ h.2 d⟩
 |slice a b c=>cases a with
  |none=>trivial
  |some a=>exact⟨h.1,Ġ h.2 d⟩
 |_=>exact h
def Oa(m s:Nat)(o:Obj):Prop:=∃c e a,o=Û c e a/\a.2<=c.size/\0<c.size/\e≠304/\e≠305/\∀v∈c.toList,nk m s v
def jG(m:Nat)(w:Í):Prop:=∀i o,m<=i->w.heap[i]?=Â o->Oa m w.heap.size o
def Oa.r{o:Obj}(h:Oa m i o)(a:i<=n):Oa m n o:=by let⟨c,e,b,d,f,g,j,k,l⟩:=h;exact⟨c,e,b,d,f,g,j,k,λv p=>(l v p).r a⟩
def jG.I(w:Í):jG w.heap.size w:=λi o a h=>by rw[ı a]at h;cases h
def jG.fU(h:jG m w):jG m w.drew:=h
def jG.iR(h:jG m w)(n:Nat):jG m (w.drewN n):=h
theorem jG.gG(h:jG m w)(cs:Array Ñ)(t:č)(c:0<cs.size)(b:t≠304/\t≠305)(d:∀v∈cs.toList,nk m w.heap.size v):jG m (w.alloc<|Û cs t):=by
 intro i o f a;have k:(w.alloc<|Û cs t).heap.size=w.heap.size+1:=fi
 by_cases e:i<w.heap.size
 .rw[Š _ _ _ e]at a;exact(h i o f a).r Z
 .by_cases g:i=w.heap.size
  .subst g;rw[Ŵ]at a;cases a;exact⟨cs,t,(0,0),U,Ø _,c,b.1,b.2,λv j=>(d v j).r Z⟩
  .grind
def jG.r(h:jG m w)(p:ü)(l:nk m w.heap.size v):jG m (w.setCell p v):=by
 intro i o f a;have n:(w.setCell p v).heap.size=w.heap.size:=fi
 rw[n];by_cases e:i=p.block
 .subst e;unfold Ż at a;simp only[Ķ,if_true]at a;cases d:w.heap[p.block]? with
  |none=>rw[d]at a;cases a
  |some x=>
   rw[d]at a;obtain⟨c,e,r,rfl,g,j,s,t,k⟩:=h _ _ f d;simp only[Ă,Ô]at a;subst a;refine⟨_,e,r,U,?_,?_,s,t,λu b=> ?_⟩
   .split
    .exact g
    .rwa[Ĭ]
   .split
    .exact j
    .rwa[Ĭ]
   .split at b
    .exact k u b
    .rw[Array.toList_setIfInBounds]at b;rcases Ħ b with q|q
     .exact k u q
     .rwa[q]
 .rw[ġ _ _ _ _ (by simpa using e)]at a;exact h i o f a
theorem aqK{ty:č}{bytes base:Nat}(y:P.underlying t=Â (.slice e))(B:P.info? e=Â zJ)(G:zJ.zero=Â (Ã Á)) (s:zJ.size=1) (H:zJ.bytes=bytes) (f:w.ownsRow base e 1 v n l) (a:ü) (c:Nat) (C:∀j M,[z][j]?=Â M->w.cell? (a.add j)=Â M) (N:z.oneCell'=Î) (O:n+1<=ī) (I:(n+1)*bytes<=140737488355328) (W:base<=w.heap.size) (X:ml e=Ë) (hm:m<=base) (D:jG m w) (hg:nk m w.heap.size z) (Y:e≠304/\e≠305): ∃h u,(Ė #[t,t] ty #[v,Ç (Â a) 1 c]).run P w=.ok h u/\qz w base e 1 v n l 1 [z] h u/\jG m u/\nk m u.heap.size h:=by
 obtain⟨h,u,J,E⟩:=SO y B G s H U f a c [z] Z U C (λx b=>by simp at b;subst b;exact N) O I W<|È X;have hgv:nk m u.heap.size h:=by
  obtain⟨p,o,rfl⟩:=jl E.fj;cases p with
  |none=>trivial
  |some p=>
   have k:=E.fj.lt p.block (by rcases E.fj.2 with⟨q,_⟩|⟨g,r,d,q,_⟩<;>(cases q;try rfl));exact⟨Z,k.2⟩
 refine⟨h,u,J,E,?_,hgv⟩;have q:[z].length=1*zJ.size:=by rw[s];rfl
 have hlx:l.length=n*zJ.size:=by rw[s];exact f.1
 have aly:n+1<=9223372036854775807:=by simp only[ī]at O;omega
 have uo:∀x∈l,nk m w.heap.size x:=λx b=>by
  rcases f.2 with⟨_,rfl⟩|⟨g,r,d,rfl,hbg,p,hnc,hcm,Q,htake⟩
  .grind
  .let⟨c2,e2,qT,S,_,_,_,_,q6⟩:=D g _ Z p;grind
 have gr:∀T,jG m (w.drew.alloc<|Û (l.toArray++[z].toArray++φ (Ĺ<|Ã Á) (grownCap w (n+1) T e-(n+1))) e):=λT=>by
  refine jG.gG D _ _ (by simp;omega) Y λx b=> ?_;simp only[Array.toList_append,â]at b;rcases b with(b|b)|b
  .exact uo x b
  .grind
  .have:=SN b;simp[Ĺ]at this;subst this;trivial
 rcases f.2 with⟨rfl,rfl⟩|⟨g,r,d,rfl,hbg,p,hnc,hcm,Q,htake⟩
 .have b:=Ý (by simpa using f.1);subst b;have K:=run_append_nil w t ty e zJ (Ã Á) y B G a 1 c [z] q C Z Z (by rw[H];have k:=I;simp only[œ]at k;omega);grind
 .by_cases aqL:n+1<=r
  .have SQ:n*zJ.size+[z].length<=d.size:=by rw[q,Q,s];omega
   have K:=run_append_room w t ty e zJ y B g n r d p a 1 c [z] q C (λx b=>by simp at b;subst b;exact N) aqL SQ;rw[K]at J;cases J;have aqM:=setRow_heap w g d (d.toList.take (n*zJ.size)++[z]++d.toList.drop (n*zJ.size+[z].length)).toArray e _ p;have aqN:=λk (L:k≠g)=>setRow_other w g k (d.toList.take (n*zJ.size)++[z]++d.toList.drop (n*zJ.size+[z].length)).toArray L;let⟨c2,e2,qT,S,q2,q3,q4,q5,q6⟩:=D g _ Z p;cases S;intro k o L F;have jk:(w.setRow g (d.toList.take (n*zJ.size)++[z]++d.toList.drop (n*zJ.size+[z].length)).toArray).heap.size=w.heap.size:=fi
   rw[jk];by_cases V:k=g
   .subst V;rw[aqM]at F;cases F;refine⟨_,_,_,U,fi,(by simp;omega),q4,q5,λx b=> ?_⟩;grind
   .rw[aqN k V]at F;exact D k o L F
  .have k:w.ownsRow base e zJ.size (Ç (Â ⟨g,0,Á⟩) n r) n l:=by rwa[s]
   have K:=run_append_grow w t ty e zJ (Ã Á) y B G ⟨g,0,Á⟩ n r l hlx (k.cells U) a 1 c [z] q C Z Z (by rw[H];exact growslice_fits Z I);grind
def abt{f:Array ĝ}{E:Prop}{base:Nat} (k:o.guard=Á) (s x:Operand) (t:č) (p:o.op=Op.call {callee:=Callee.builtin κ,args:=#[s,x],argTypes:=#[t,t]}) {bytes:Nat} (q:P.underlying t=Â (.slice e)) (r:P.info? e=Â zJ) (B:zJ.zero=Â (Ã Á)) (C:zJ.size=1) (D:zJ.bytes=bytes) (F:y.eval s=v) (G:w.ownsRow base e 1 v n l) (ad:ü) (H:y.eval x=Ç (Â ad) 1 b) (I:∀j g,[z][j]?=Â g->w.cell? (ad.add j)=Â g) (J:z.oneCell'=Î) (L:n+1<=ī) (M:(n+1)*bytes<=140737488355328) (N:base<=w.heap.size) (O:ml e=Ë) (S:m<=base) (T:jG m w) (V:nk m w.heap.size z) (W:e≠304/\e≠305) (h:∀d u,qz w base e 1 v n l 1 [z] d u->jG m u->nk m u.heap.size d->K (y.put o.dst d) u): if đ o (Ι f y.tmps)=Î then Oper.wp P o y w K vJ else E:=by
 have X:đ o (Ι f y.tmps)=Î:=by simp[đ,k]
 rw[if_pos X];let⟨d,u,Y,h2,h3,h4⟩:=aqK (ty:=o.type) q r B C D G ad b I J L M N O S T V W;unfold Oper.wp;simp[ś,p,ρ,ar,ς,F,H,Y,ų];exact h d u h2 h3 h4
def nR(l:List Nat):List Ñ:=l.map λa=>Ã<|Â ⟨a,0,Á⟩
def oH(l:List Int):List Ñ:=l.map λz=>Å É z
def Gq(p:PT):List Ñ:=oH p.c++[Ä p.p]
def DY(c:List Int)(a:Ñ):List Ñ:=oH c++[a]
structure pd(lo hi:Nat)(tb:List Nat)(l:List PT)(w:Í):Prop where
 r:tb.length=l.length
 I:∀(j a:Nat) (p:PT),tb[j]?=Â a->l[j]?=Â p->lo<=a/\a<hi/\p.c.length=5/\ff a (Gq p) 200 w
structure wo(B q:Nat)(r:PR)(w:Í):Prop where
 M:q<B
 C:r.c.length=8
 I:∃vb tb,ff q (DY r.c vb) 161 w/\w.ownsRow 0 149 1 vb tb.length (nR tb)/\(∀j,vb.ownBlock=Â j->j<B)/\pd 0 B tb r.r w
structure pX(B:Nat)(qs:List Nat)(rs:List PR)(w:Í):Prop where
 I:qs.length=rs.length
 M:∀(j q:Nat) (r:PR),qs[j]?=Â q->rs[j]?=Â r->wo B q r w
section
variable{w':Í}{lo hi B q:Nat}{tb qs:List Nat}{l:List PT}{r:PR}{rs:List PR}
def pd.C(h:pd lo hi tb l w)(k:e8 X w w')(f:∀a c g,lo<=a->a<hi->w.heap[a]?=Â (Û c 200 g)->¬X a):pd lo hi tb l w':= ⟨h.r,λj a p i m=>by let⟨b,d,n,e⟩:=h.I j a p i m;exact⟨b,d,n,e.I k<|f a _ _ b d e⟩⟩
def pd.M(h:pd lo hi tb l w)(f:i<=lo)(g:hi<=n):pd i n tb l w:= ⟨h.r,λj a p b c=>by let⟨k,m,d,e⟩:=h.I j a p b c;exact⟨Z,Z,d,e⟩⟩
def pd.N(lo hi:Nat)(w:Í):pd lo hi [] [] w:=⟨U,λj a p h=>by cases h⟩
theorem Gr{α:Type}{l:List α}{a x:α}(h:(l++[a])[j]?=Â x):l[j]?=Â x\/j=l.length/\x=a:=by grind
theorem pd.Ul{p:PT}(h:pd lo hi tb l w)(g:lo<=i)(k:i<hi)(m:p.c.length=5)(n:ff i (Gq p) 200 w):pd lo hi (tb++[i]) (l++[p]) w:=by
 refine⟨by simp[h.r],λj x y d b=> ?_⟩;rcases Gr d with e|⟨e,rfl⟩
 .rcases Gr b with f|⟨f,rfl⟩
  .exact h.I j x y e f
  .have:=(Õ.1 e).1;have:=h.r;omega
 .rcases Gr b with f|⟨f,rfl⟩
  .have:=(Õ.1 f).1;have:=h.r;omega
  .grind
def Um(B:Nat)(w:Í)(i:Nat):Prop:=B<=i\/∃c T a,w.heap[i]?=Â (Û c T a)/\(T=153\/T=148)
theorem Un(a:Um B w i)(hi:i<B)(h:w.heap[i]?=Â (Û d T xJ))(b:T≠153/\T≠148):False:=by rcases a with q|⟨e,f,qT,g,j⟩;all_goals grind
theorem wo.vu(h:wo B q r w)(k:e8 X w w')(d:∀i,i<w.heap.size->X i->Um B w i):wo B q r w':=by let⟨f,tb,b,g,l,m⟩:=h.I;refine⟨h.M,h.C,f,tb,b.I k λx=>Un (d q b.M x) h.M b A,ij g k λj o x=> ?_,l,m.C k λa c p _ n e x=>Un (d a (á.1 e).1 x) n e A⟩;grind [lY,Un]
def wo.fO(h:wo B q r w)(a:B<=i):wo i q r w:=by let⟨b,tb,c,d,e,f⟩:=h.I;exact⟨by have:=h.M;omega,h.C,b,tb,c,d,λj g=>by have:=e j g;omega,f.M (æ _) a⟩
def pX.C(h:pX B qs rs w)(k:e8 X w w')(a:∀i,i<w.heap.size->X i->Um B w i):pX B qs rs w':= ⟨h.I,λj q r b c=>(h.M j q r b c).vu k a⟩
def pX.Ul(h:pX B qs rs w)(b:B<=i)(c:wo i q r w):pX i (qs++[q]) (rs++[r]) w:=by
 refine⟨by simp[h.I],λj x y d a=> ?_⟩;rcases Gr d with e|⟨e,rfl⟩
 .rcases Gr a with f|⟨f,rfl⟩
  .exact(h.M j x y e f).fO b
  .have:=(Õ.1 e).1;have:=h.I;omega
 .rcases Gr a with f|⟨f,rfl⟩
  .have:=(Õ.1 f).1;have:=h.I;omega
  .exact c
def pX.N(B:Nat)(w:Í):pX B [] [] w:=⟨U,λj q r h=>by cases h⟩
end
structure Gh where
 a:List Nat
 q:Nat
 t:Nat
 B:Nat
 tb:List Nat
 N:Ñ
 r:Ñ
 b:Option ü
namespace Gh
def C(g:Gh)(d:PD):List Nat:=if d.r then g.a++[g.q]else g.a
def I(g:Gh)(d:PD):List Nat:=if d.M then g.tb++[g.t]else g.tb
def S(g:Gh)(d:PD):Option ü:=if d.r then Â ⟨g.q,0,Á⟩else Á
def Y(g:Gh)(d:PD):Option ü:=if d.M then Â ⟨g.t,0,Á⟩else g.b
def M(g:Gh)(d:PD):Nat:=if d.M then g.t else g.q
def G(g:Gh)(d:PD):Option ü:=if d.r then Â ⟨g.M d,0,Á⟩else Á
def DZ(g:Gh)(d:PD)(a:Int):ü:=if a=86 then⟨g.q,5,Á⟩else if a=87 then⟨g.q,6,Á⟩else if a=110 then⟨g.M d,2,Á⟩else⟨g.M d,3,Á⟩
end Gh
structure wq(m:Nat)(g:Gh)(d:PD)(w:Í):Prop where
 S:m<=g.B
 N:g.B<=g.q
 M:d.I.c.length=8
 r:ff g.q (DY d.I.c g.r) 161 w
 I:w.ownsRow g.B 149 1 g.r (g.I d).length (nR<|g.I d)
 Y:pd g.B g.t g.tb d.I.r w
 C:d.M=Î->g.B<=g.t/\d.N.c.length=5/\ff g.t (Gq d.N) 200 w
 a:d.M=Ë->g.tb=[]/\d.I.r=[]
structure k9(m:Nat)(g:Gh)(d:PD)(w:Í):Prop where
 C:w.ownsRow m 148 1 g.N (g.C d).length (nR<|g.C d)
 I:pX g.B g.a d.S w
 r:d.r=Î->wq m g d w
 N:d.r=Ë->d.M=Ë
def Uo(s:ByteArray)(g:Gh)(d:PD)(a:Option ü)(lr b:Int):List Ñ:=
 [Ä s,g.N,Ã<|g.S d,Ã<|g.Y d,Ã<|g.G d,Ã a,Å É lr,Å É b]
structure gS(m b:Nat)(g:Gh)(c:Option ü)(s:ByteArray)(st:PS)(w:Í):Prop where
 S:m<=b
 a:jG m w
 r:ff b (Uo s g st.d c st.r st.I) 153 w
 M:s.size<=10
 I:jZ s=st.C
 C:k9 m g st.d w
 c:0<st.r->st.d.r=Î/\c=Â (g.DZ st.d st.M)
 N:st.d.r=Î\/st.C=[82]
def sI(m b:Nat)(st:PS)(w a:Í):Prop:=e8 (λi=>m<=i) w a/\∃g i s,gS m b g i s st a
section
variable{w':Í}{g:Gh}{d:PD}{s:ByteArray}{st:PS}
theorem wq.vu(h:wq m g d w)(k:e8 X w w')(p:∀i c T b,w.heap[i]?=Â (Û c T b)->X i->T=153\/T=148):wq m g d w':=by
 have l:∀{i:Nat} {c:Array Ñ} {T:č} {b:Nat×Nat},w.heap[i]?=Â (Û c T b)->(T≠153/\T≠148)->¬X i:=λ{i c T b} n f x=>(p i c T b n x).elim f.1 f.2;refine⟨h.S,h.N,h.M,h.r.I k<|l h.r A,ij h.I k λj r=> ?_,h.Y.C k λa c b _ _ q=>l q A,λe=> ?_,h.a⟩
 .let⟨o,s⟩:=lY h.I r;grind
 .let⟨n,f,o⟩:=h.C e;exact⟨n,f,o.I k<|l o A⟩
theorem k9.rd(h:k9 m g d w)(k:e8 X w w')(b:∀i c T a,w.heap[i]?=Â (Û c T a)->X i->T=153)(f:∀i,i<w.heap.size->X i->∃c a,w.heap[i]?=Â (Û c 153 a)):k9 m g d w':=by
 refine⟨ij h.C k λj l x=> ?_,h.I.C k λi n x=> ?_,λe=>(h.r e).vu k λi c T a q x=>È<|b i c T a q x,h.N⟩
 .let⟨o,q⟩:=lY h.C l;grind
 .let⟨c,a,q⟩:=f i n x;exact Ï ⟨c,_,a,q,È U⟩
def k9.M(h:k9 m g d w)(a:ff b l 153 w)(k:e8 (λi=>i=b) w w'):k9 m g d w':= h.rd k (λi c T e q x=>by subst x;unfold ff at a;rw[a]at q;cases q;rfl) λi _ x=>⟨l.toArray,(0,0),by rwa[x]⟩
def pY{i:Nat}{v:Value}{j:Nat}{vs:List Value}{T:TypeId}(h:ff j vs T w)(hT:ml T=false:=by decide):e8 (λk=>k=j) w (w.setCell ⟨j,i,none⟩ v):=e8.I (X:=λk=>k=j) U v<|Ï<|h.G hT
def k9.G(h:k9 m g d w):(g.C d).length=d.C.length:=by unfold Gh.C PD.C;split<;>simp[h.I.I]
def wq.G(h:wq m g d w):(g.I d).length=d.Y.length:=by unfold Gh.I PD.Y;split<;>simp[h.Y.r]
def Up(h:i<zQ.length)(v:Ñ):(oH zQ++[v])[i]?=Â (Å É<|zQ.getD i 0):=by rw[Ĥ (by simpa[oH]using h)];simp[oH,Ğ,h]
def abu(l:List Int)(i:Nat)(z:Int)(v:Ñ)(h:i<l.length):(oH l++[v]).set i (Å É z)=oH (l.set i z)++[v]:=by rw[List.set_append_left _ _ (by simpa[oH]using h)];simp[oH,List.map_set]
def abv(l:List Int)(v u:Ñ):(oH l++[v]).set l.length u=oH l++[u]:=by rw[Ĵ _ _ (by simp[oH])];simp[oH]
def D1(l:List Int)(v:Ñ):(oH l++[v])[l.length]?=Â v:=by rw[ğ (by simp[oH])];simp[oH]
theorem k9.S(h:k9 m g d w)(on:d.r=Î)(n:i<8)(z:Int):k9 m g (d.ot i z) (w.setCell ⟨g.q,i,Á⟩<|Å É z):=by
 have l:=h.r on;have k:e8 (λk=>k=g.q) w (w.setCell ⟨g.q,i,Á⟩<|Å É z):=pY l.r;have r:=l.N;refine⟨ij h.C k λj b x=>jF h.C l.r A (by rw[b,x]),h.I.C k λi _ x=>È Z,λ_=>⟨l.S,l.N,by simp[PD.ot,l.M],?_,ij l.I k λj b x=>jF l.I l.r A (by rw[b,x]),l.Y.C k λa c s _ _ q x=> ?_,λe=> ?_,l.a⟩,h.N⟩
 .have:=l.r.fQ i<|Å É z;unfold DY at this;rw[abu _ _ _ _ (by rwa[l.M])]at this;exact this
 .have:=l.r;unfold ff at this;grind
 .let⟨o,p,f⟩:=l.C e;exact⟨o,p,f.I k λx=>(ff.S f l.r A) x⟩
theorem k9.iw(h:k9 m g d w)(on:d.r=Î)(f:d.M=Î){p:PT}(n:p.c.length=5)(r:(Gq d.N).set i v=Gq p):k9 m g {d with N:=p} (w.setCell ⟨g.t,i,Á⟩ v):=by have l:=h.r on;let⟨o,s,b⟩:=l.C f;have k:e8 (λk=>k=g.t) w (w.setCell ⟨g.t,i,Á⟩ v):=pY b;refine⟨ij h.C k λj e x=>jF h.C b A (by rw[e,x]),h.I.C k λi _ x=>È Z,λ_=>⟨l.S,l.N,l.M,l.r.I k λx=>(ff.S l.r b A) x,ij l.I k λj e x=>jF l.I b A (by rw[e,x]),l.Y.C k λa c u _ q _ x=>by omega,λ_=>⟨o,n,?_⟩,l.a⟩,h.N⟩;have:=b.fQ i v;grind
def k9.Y(h:k9 m g d w)(on:d.r=Î)(a:d.M=Î)(c:i<5)(z:Int):k9 m g (d.oF i z) (w.setCell ⟨g.t,i,Á⟩<|Å É z):=by let⟨e,b,f⟩:=(h.r on).C a;exact h.iw on a (by simp[b])<|abu _ _ _ _<|by rwa[b]
def k9.oG(h:k9 m g d w)(on:d.r=Î)(a:d.M=Î)(p:ByteArray):k9 m g (d.oG p) (w.setCell ⟨g.t,5,Á⟩<|Ä p):=by let⟨e,b,f⟩:=(h.r on).C a;refine h.iw on a b ?_;have:=abv d.N.c (Ä d.N.p)<|Ä p;rwa[b]at this
structure qM(m b:Nat)(g:Gh)(d:PD)(ab ao:Nat)(f:Int->PD)(x:Int)(w:Í):Prop where
 r:ab≠b
 N:m<=ab
 Y:ab<w.heap.size
 C:w.cell? ⟨ab,ao,Á⟩=Â (Å É x)
 I:w.frozen? ⟨ab,ao,Á⟩=Ë
 nf:NF ab w
 S:∀W,k9 m g d W->∀z,k9 m g (f z)<|W.setCell ⟨ab,ao,Á⟩<|Å É z
 M:∀z,g.S (f z)=g.S d/\g.Y (f z)=g.Y d/\g.G (f z)=g.G d/\(f z).r=d.r/\∀n,g.DZ (f z) n=g.DZ d n
def Gs(h:k9 m g d w)(f:ff b l 153 w)(on:d.r=Î)(e:i<8):qM m b g d g.q i (λz=>d.ot i z) (d.I.c.getD i 0) w:=by have a:=h.r on;exact⟨ff.S a.r f A,Ì a.S a.N,a.r.M,a.r.r i _ (Up (by rwa[a.M]) _),a.r.C i,a.r.G,λW j z=>j.S on e z,λz=>⟨U,U,U,U,λn=>rfl⟩⟩
def abw(h:k9 m g d w)(k:ff b l 153 w)(on:d.r=Î)(f:d.M=Î)(j:i<5):qM m b g d g.t i (λz=>d.oF i z) (d.N.c.getD i 0) w:=by have a:=h.r on;let⟨o,p,e⟩:=a.C f;exact⟨ff.S e k A,Ì a.S o,e.M,e.r i _ (Up (by rwa[p]) _),e.C i,e.G,λW q z=>q.Y on f j z,λz=>⟨U,U,U,U,λn=>rfl⟩⟩
theorem Gt(h:k9 m g d w)(a:ff b l 153 w)(on:d.r=Î)(c:i<4):qM m b g d (g.M d) i (λz=>d.iw i z) (d.tL i) w:=by unfold PD.iw PD.tL Gh.M;split;all_goals grind [abw,Gs]
theorem gS.G{f:Int->PD}(h:gS m b g O s st w)(n:qM m b g st.d i j f c w)(z:Int):gS m b g O s {st with d:=f z} (w.setCell ⟨i,j,Á⟩<|Å É z):=by
 let⟨e,l,o,a,p⟩:=n.M z;have k:e8 (λk=>k=i) w (w.setCell ⟨i,j,Á⟩<|Å É z):=e8.I (X:=λk=>k=i) U _<|È U;refine⟨h.S,h.a.r _ trivial,?_,h.M,h.I,n.S w h.C z,λq=> ?_,?_⟩
 .have:=h.r.I k λc=>n.r c.symm;unfold Uo at this|-;grind
 .let⟨r,t⟩:=h.c q;grind
 .simp only[a];exact h.N
def gS.Ob(h:gS m b g O s st w)(a:ByteArray)(r:List Int)(c:a.size<=10)(e:jZ a=r)(f:st.d.r=Î\/r=[82]):gS m b g O a {st with C:=r} (w.setCell ⟨b,0,Á⟩<|Ä a):= ⟨h.S,h.a.r _ trivial,h.r.fQ 0 _,c,e,h.C.M h.r<|pY h.r,h.c,f⟩
def gS.Y(h:gS m b g O s st w)(z:Int)(a:0<z->st.d.r=Î/\O=Â (g.DZ st.d st.M)):gS m b g O s {st with r:=z} (w.setCell ⟨b,6,Á⟩<|Å É z):= ⟨h.S,h.a.r _ trivial,h.r.fQ 6 _,h.M,h.I,h.C.M h.r<|pY h.r,a,h.N⟩
def gS.abx(h:gS m b g O s st w)(z:Int):gS m b g O s {st with I:=z} (w.setCell ⟨b,7,Á⟩<|Å É z):= ⟨h.S,h.a.r _ trivial,h.r.fQ 7 _,h.M,h.I,h.C.M h.r<|pY h.r,h.c,h.N⟩
def gS.aby(h:gS m b g O s st w)(a:ü)(n:Int)(d:st.r=0)(c:m<=a.block/\a.block<w.heap.size):gS m b g (Â a) s {st with M:=n} (w.setCell ⟨b,5,Á⟩<|Ã<|Â a):= ⟨h.S,h.a.r _ c,h.r.fQ 5 _,h.M,h.I,h.C.M h.r<|pY h.r,λq=>by have:0<st.r:=q;omega,h.N⟩
def gS.fU(h:gS m b g O s st w):gS m b g O s st w.drew:=by have k:=e8.fU (λ_=>False) w;exact⟨h.S,h.a,h.r.I k id,h.M,h.I,h.C.rd k (λ_ _ _ _ _ x=>x.elim) λ_ _ x=>x.elim,h.c,h.N⟩
end
section
variable{w':Í}{g:Gh}{st:PS}{f:Int->PD}{x:Int}
def qM.rd{d:PD}(h:qM m b g d n j f x w)(i:Nat)(v:Ñ):qM m b g d n j f x (w.setCell ⟨b,i,Á⟩ v):= ⟨h.r,h.N,by simpa using h.Y,by rw[Je<|Ne.symm h.r];exact h.C,by rw[World.frozen?_setCell];exact h.I,λc T a q=>h.nf c T a (by rwa[ġ _ _ _ _ (by simpa using h.r)]at q),h.S,h.M⟩
def gS.Uq(h:gS m b g O B st w)(n:Int)(a:st.r=0):gS m b g O B {st with M:=n} w:= ⟨h.S,h.a,h.r,h.M,h.I,h.C,λq=>by have:0<st.r:=q;omega,h.N⟩
def mN(h:gS m b g O B st w)(i:Nat)(v:Ñ):e8 (λi=>m<=i) w (w.setCell ⟨b,i,Á⟩ v):=e8.I (X:=λi=>m<=i) (p:=⟨b,i,Á⟩) h.S v<|Ï h.r.G
def Gu(h:qM m b g st.d n j f x w)(z:Int):e8 (λi=>m<=i) w (w.setCell ⟨n,j,Á⟩<|Å É z):=e8.I (X:=λi=>m<=i) (p:=⟨n,j,Á⟩) h.N _<|È U
def wv(c a:Int):Int:=if c=104\/c=48 then 0 else a-1
def jy(c:Int):Int:=if c=104 then-1 else(c-48)%256
def Ur{st:PS}(h:st.r=0)(n:Int)(d:PD):({st with r:=0,M:=n,d:=d}:PS)={st with M:=n,d:=d}:=by rw[<-h]
def Oc(h:gS m b g O B st w)(i:qM m b g st.d n j f x w)(k:st.r=0)(o:st.d.r=Î)(c l a:Int)(y:0<=l)(C:l<=6)(p:∀z,g.DZ (f z) a=⟨n,j,Á⟩): Ò À 147 #[Ã<|Â ⟨b,0,Á⟩,Ã<|Â ⟨n,j,Á⟩,Å ū c,Å É l] w λe w'=>
  e=Æ (ë #[])/\sI m b {st with r:=wv c l,M:=a,d:=f (jy c)} w w':=by
 have D:=h.r.r 5 _ U;have E:=h.r.r 6 _ U;have F:=h.r.C 5;have G:=h.r.C 6;have I:=i.C;have J:=i.I;have K:=i.r;have L:¬b=n:=λe=>i.r e.symm;have s:m<=n/\n<w.heap.size:=⟨i.N,i.Y⟩;have H:=fc<|Ê h<|Ê i<|Ê p<|Ê k o;by_cases r:c=104
 .subst r;go_enter Ŗ,ŋ;go_wp2;first|go_end0|refine ÿ (results_none U _ _ _) U ?_
  let⟨h,i,p,k,o⟩:=H.out;refine⟨U,Gu i _,g,O,B,?_⟩;have:=(h.G i<|-1).Uq a k;rw[show wv 104 l=0 from if_pos<|È U,Ur k];exact this
 .have M:(c==104)=Ë:=by rwa[beq_eq_false_iff_ne]
  have t:jy c=(c-48)%256:=if_neg r;by_cases v:c=48
  .subst v;go_enter Ŗ,ŋ;go_wp2;go_end0;let⟨h,i,p,k,o⟩:=H.out;have u:=h.aby ⟨n,j,Á⟩ a k s;have q:=i.rd 5<|Ã<|Â ⟨n,j,Á⟩;refine⟨U,(mN h 5 _).fe<|Gu q _,g,Â ⟨n,j,Á⟩,B,?_⟩;have:=u.G q 0;rw[show wv 48 l=0 from if_pos<|Ï U,Ur k,t];exact this
  .go_enter Ŗ,ŋ;go_wp2;go_end0;let⟨h,i,p,k,o⟩:=H.out;have q:=i.rd 5<|Ã<|Â ⟨n,j,Á⟩;have u:=(h.aby ⟨n,j,Á⟩ a k s).G q<|(c-48)%256;refine⟨U,((mN h 5 _).fe<|Gu q _).fe<|mN u 6 _,g,Â ⟨n,j,Á⟩,B,?_⟩;rw[show wv c l=l-1 from if_neg Z,t];exact(u.Y (l-1) λ_=>⟨by simp only;rwa[(i.M _).2.2.2.1],by simp only;rw[p]⟩)
theorem Od{b a:Int}(h:pb a c=Î)(d:(a=86\/a=87)/\b=2\/(a=110\/a=107)/\b=6):wv c b=qL a c:=by unfold wv qL;unfold pb at h;grind [Gn]
theorem Oe{a:Int}(h:¬(a=86\/a=87)/\¬(a=110\/a=107)):qL a c=0:=by unfold qL;grind
theorem Og{a:Int}(h:a=86\/a=87\/a=110\/a=107):nj a c=jy c:=by unfold nj jy;grind
def Us(h:gS m b g O B st w)(i:qM m b g st.d n j f x w)(k:st.r=0){a z:Int}(e:c=0)(l:w'=(w.setCell ⟨n,j,Á⟩<|Å É z).drew):sI m b {st with r:=c,M:=a,d:=f z} w w':=by subst l;subst e;rw[Ur k];exact⟨(Gu i z).fe<|e8.fU _ _,g,O,B,((h.G i z).Uq a k).fU⟩
end
section
variable{g:Gh}{st:PS}
def J0{d:PD}(a:d.M=Î):g.Y d=Â ⟨g.t,0,Á⟩:=if_pos a
def aqO:yi st 0=Á:=rfl
def aqP(h:gS m b g O B st w)(r:st.r=0)(on:st.d.r=Î)(f:st.d.M=Î)(k:Int): Ò À 101 #[Ã<|Â ⟨b,0,Á⟩,Å É k] w λe u=>match yi st k with
  |none=>e=Æ (õ Ë)/\u=w
  |some a=>e=Æ (õ Î)/\sI m b a w u:=by
 have s:=h.r.r 0 _ U;have o:=h.r.r 3 _ U;have v:=h.r.r 7 _ U;rw[J0 f]at o;have x:=h.r.C 0;have y:=h.r.C 7;have a:=abw h.C h.r on f (i:=4) A;have z:=a.C;have C:=a.I;have D:=a.r;have E:¬b=g.t:=λe=>a.r e.symm;have H:=fc<|Ê h a;by_cases c:k=0
 .subst c;rw[aqO];go_enter Κ,ż;go_wp2;go_ret;exact⟨U,U⟩
 .have F:(k==0)=Ë:=by rwa[beq_eq_false_iff_ne]
  have e:yi st k=Â {st with C:=sG k,I:=0,d:=st.d.oF 4 k}:=if_neg c;rw[e];go_enter Κ,ż;go_wp2_with (go_at_call 148;refine(aqJ _ _).mono ?_;rintro e u ⟨⟨j,rfl,p,q⟩,l⟩;subst u);go_ret;let⟨h,a⟩:=H.out;have l:=h.G a k;have n:=l.abx 0;exact⟨U,((Gu a k).fe<|mN l 7 _).fe<|mN n 0 _,g,O,j,n.Ob j _ p q<|È on⟩
end
def aqQ:(À.info? 149).map (λi=>(i.zero,i.size,i.bytes))=Â (Â<|Ã Á,1,8):=fp
def aqR:(À.info? 148).map (λi=>(i.zero,i.size,i.bytes))=Â (Â<|Ã Á,1,8):=fp
section
variable{g:Gh}{nm:Option ü}{s:ByteArray}{st:PS}{d:PD}{T:Nat}
structure uW(m:Nat)(g:Gh)(d:PD)(T:Nat)(w:Í):Prop where
 C:w.ownsRow m 148 1 g.N (g.C d).length (nR<|g.C d)
 I:pX g.B g.a d.S w
 N:pd g.B T (g.I d) d.Y w
 tb:ff T (Gq PD.Gl) 200 w
def J3(x:i=j)(h:ff j l t w):w.heap[i]?=Â (Û l.toArray t (0,0)):=by rwa[x]
theorem uW.r(h:uW m g d T w)(k:e8 X w u)(f:∀i,i<w.heap.size->X i->∃c t b,w.heap[i]?=Â (Û c t b)/\(t=153\/(t=161\/t=149)/\g.B<=i)):uW m g d T u:=by
 have e:∀{i:Nat} {c:Array Ñ} {t:č} {b:Nat×Nat},w.heap[i]?=Â (Û c t b)->(t≠153/\t≠161/\t≠149)->¬X i:=λ{i c t b} q1 q2 x=>by grind
 refine⟨ij h.C k λj l=> ?_,h.I.C k λi n x=> ?_,h.N.C k λa c b _ _ q=>e q A,h.tb.I k<|e h.tb A⟩
 .let⟨o,p⟩:=lY h.C l;grind
 .let⟨r,s,qT,o,p⟩:=f i n x;rcases p with rfl|⟨_,z⟩
  .exact Ï ⟨_,_,_,o,È U⟩
  .exact È z
def uW.fK(h:uW m g d T w)(k:e8 (λ_=>False) w u):uW m g d T u:=h.r k λ_ _ x=>x.elim
def uW.M(h:uW m g d T w)(a:ff b l 153 w):uW m g d T (w.setCell ⟨b,i,Á⟩ v):= h.r (pY a) λi _ x=>⟨_,_,_,J3 x a,È U⟩
theorem wq.abz(l:wq m g d w):pd g.B w.heap.size (g.I d) d.Y w:=by
 unfold Gh.I PD.Y;split
 .rename_i e;let⟨b,c,a⟩:=l.C e;have:=a.M;exact(l.Y.M (æ _) Z).Ul b a.M c a
 .rename_i e;let⟨b,c⟩:=l.a (by simpa using e);grind [pd.N]
theorem jG.C(n:jG m w)(g:ff b l e w)(C:m<=b)(p:e≠304/\e≠305)(d:Array Ñ)(t:č)(u:0<d.size)(r:t≠304/\t≠305)(h:∀v∈d.toList,nk m (w.heap.size+1) v):jG m ((w.setCell ⟨b,i,Á⟩<|Ã<|Â ⟨w.heap.size,0,Á⟩).alloc<|Û d t):=by
 have s:(w.setCell ⟨b,i,Á⟩<|Ã<|Â ⟨w.heap.size,0,Á⟩).heap.size=w.heap.size:=fi
 have D:=g.M;intro j o k c;have x:((w.setCell ⟨b,i,Á⟩<|Ã<|Â ⟨w.heap.size,0,Á⟩).alloc<|Û d t).heap.size=w.heap.size+1:=fi
 rw[x];by_cases a:j<w.heap.size
 .rw[Š _ _ _ (by rwa[s])]at c;by_cases f:j=b
  .subst f;have:=g.fQ i<|Ã<|Â ⟨w.heap.size,0,Á⟩;unfold ff at this;rw[this]at c;cases c;let⟨E,F,G,y,H,z,I,J,B⟩:=n j _ k g;cases y;refine⟨_,_,_,U,fi,by simpa using z,p.1,p.2,λv h=> ?_⟩;rcases Ħ (by simpa using h)with q|q
   .exact(B v<|by simpa using q).r Z
   .rw[q];exact⟨Ì k<|Nat.le_of_lt a,Nat.lt_succ_self _⟩
  .rw[ġ _ _ _ _ (by simpa using f)]at c;exact(n j o k c).r Z
 .by_cases f:j=w.heap.size
  .have:=Ŵ (w.setCell ⟨b,i,Á⟩<|Ã<|Â ⟨w.heap.size,0,Á⟩)<|Û d t;rw[s]at this;rw[f,this]at c;cases c;exact⟨_,_,_,U,Ø _,u,r.1,r.2,h⟩
  .grind
def Oh(b:Nat)(w:Í):Í:=(w.setCell ⟨b,3,Á⟩<|Ã<|Â ⟨w.heap.size,0,Á⟩).alloc<|Û #[Å É 0,Å É 0,Å É 0,Å É 0,Å É 0,Ä ⟨#[]⟩] 200
def rdM(s:ByteArray)(g:Gh)(d:PD)(a b nm:Option ü)(lr c:Int):List Ñ:=
 [Ä s,g.N,Ã<|g.S d,Ã a,Ã b,Ã nm,Å É lr,Å É c]
structure Gv(m b:Nat)(g:Gh)(d:PD)(T:Nat)(s:ByteArray)(tm nm:Option ü)(lr Ut:Int)(w0 w:Í):Prop where
 S:e8 (λi=>m<=i) w0 w
 N:jG m w
 r:ff b (rdM s g d (Â ⟨T,0,Á⟩) tm nm lr Ut) 153 w
 M:uW m g d T w
 I:ff g.q (DY d.I.c g.r) 161 w
 C:w.ownsRow g.B 149 1 g.r (g.I d).length (nR<|g.I d)
def Gv.fK{lr:Int}(h:Gv m b g d T s O nm lr c W w)(k:e8 (λ_=>False) w u)(a:jG m u):Gv m b g d T s O nm lr c W u:= ⟨h.S.C k λ_ _ x=>x.elim,a,h.r.I k id,h.M.fK k,h.I.I k id,ij h.C k λ_ _=>id⟩
theorem gS.aqS(h:gS m b g nm s st w)(on:st.d.r=Î):Gv m b g st.d w.heap.size s (g.G st.d) nm st.r st.I w (Oh b w):=by
 have l:=h.C.r on;have p:(w.setCell ⟨b,3,Á⟩<|Ã<|Â ⟨w.heap.size,0,Á⟩).heap.size=w.heap.size:=fi
 have n:e8 (λ_=>False) (w.setCell ⟨b,3,Á⟩<|Ã<|Â ⟨w.heap.size,0,Á⟩) (Oh b w):=e8.gG _ _ _ _;have r:e8 (λk=>k=b) w (w.setCell ⟨b,3,Á⟩<|Ã<|Â ⟨w.heap.size,0,Á⟩):=pY h.r;have e:=r.C n λ_ _ x=>x.elim;refine⟨e.S λk _ x=>by rw[x];exact h.S,?_,(h.r.fQ 3 _).I n id,⟨ij h.C.C e λj f x=>jF h.C.C h.r A (by rw[f,x]),h.C.I.C e λi _ x=>Ï ⟨_,_,_,J3 x h.r,È U⟩,l.abz.C e λa c t _ _ q x=> ?_,?_⟩,l.r.I e λx=>ff.S l.r h.r A x,ij l.I e λj f x=>jF l.I h.r A<|by rw[f,x]⟩
 .exact h.a.C h.r h.S A _ _ fi A λv o=>by simp at o;rcases o with rfl|rfl<;>trivial
 .have o:=h.r;unfold ff at o;grind
 .have:=ff.N (w.setCell ⟨b,3,Á⟩<|Ã<|Â ⟨w.heap.size,0,Á⟩) [Å É 0,Å É 0,Å É 0,Å É 0,Å É 0,Ä ⟨#[]⟩] 200;rwa[p]at this
def Uu(g:Gh)(d:PD)(T:Nat)(v:Ñ):Gh:={g with t:=T,tb:=g.I d,r:=v}
theorem Gv.jN(h:Gv m b g st.d T s O nm st.r st.I w u)(C:m<=b)(on:st.d.r=Î)(a:m<=g.B/\g.B<=g.q/\st.d.I.c.length=8)(D:g.B<=T)(hd:st.r=0) (l:qz u g.B 149 1 g.r (g.I st.d).length (nR<|g.I st.d) 1 [Ã<|Â ⟨T,0,Á⟩] v W) (K:jG m W) (L:nk m W.heap.size v) (n:jX=((W.setCell ⟨g.q,8,Á⟩ v).setCell ⟨b,4,Á⟩<|Ã<|Â ⟨T,0,Á⟩).setCell ⟨b,0,Á⟩ (Ä ⟨#[84]⟩)): e8 (λi=>m<=i) w jX/\gS m b (Uu g st.d T v) nm ⟨#[84]⟩ {st with C:=[84],d:=st.d.nP} jX:=by
 have E:∀{j:Nat} {M:List Ñ} {t:č},ff j M t u->149≠t->¬g.r.ownBlock=Â j:=λN f=>jF h.C N f;have F:=h.r.I l.r<|E h.r A;have f:=h.I.I l.r<|E h.I A;have P:=h.M.r l.r λi _ x=>by let⟨k,z⟩:=lY h.C x;exact⟨_,_,_,z,Ï ⟨Ï U,(h.C.lt i x).1⟩⟩
 have o:e8 (λk=>k=g.q) W (W.setCell ⟨g.q,8,Á⟩ v):=pY f;have G:ff g.q (DY st.d.I.c v) 161 (W.setCell ⟨g.q,8,Á⟩ v):=by have:=f.fQ 8 v;have e:=abv st.d.I.c g.r v;rw[a.2.2]at e;unfold DY at this|-;grind
 have z:=F.I o λx=>ff.S F f A x;have H:=P.r o λi _ x=>⟨_,_,_,J3 x f,Ï ⟨È U,by rw[x];exact a.2.1⟩⟩;have I:=ij l.fj o λj p x=>jF l.fj f A (by rw[p,x]);have Q:jG m (W.setCell ⟨g.q,8,Á⟩ v):=K.r _ L;have S:e8 (λk=>k=b) (W.setCell ⟨g.q,8,Á⟩ v) ((W.setCell ⟨g.q,8,Á⟩ v).setCell ⟨b,4,Á⟩<|Ã<|Â ⟨T,0,Á⟩):=pY z;have r:=z.fQ 4<|Ã<|Â ⟨T,0,Á⟩;have V:e8 (λk=>k=b) ((W.setCell ⟨g.q,8,Á⟩ v).setCell ⟨b,4,Á⟩<|Ã<|Â ⟨T,0,Á⟩) jX:=by rw[n];exact pY r
 have J:=r.fQ 0<|Ä ⟨#[84]⟩;rw[<-n]at J;have k:uW m g st.d T jX:=by rw[n];exact(H.M z).M r
 have y:=S.fe V;have X:=G.I y λx=>ff.S G z A x;have Y:=ij I y λj p x=>jF I z A (by rw[p,x]);have hTl:=H.tb.M;have c5:jG m jX:=by rw[n];refine(Q.r _ ?_).r _ trivial;exact⟨Ì a.1 D,hTl⟩
 have e1:(g.I st.d++[T]).length=(g.I st.d).length+1:=fi
 have e2:nR (g.I st.d++[T])=nR (g.I st.d)++[Ã<|Â ⟨T,0,Á⟩]:=by simp[nR]
 refine⟨((h.S.C l.r λi _ x=> ?_).C o λi _ x=> ?_).C y λi _ x=> ?_,C,c5,?_,A,U,⟨k.C,k.I,λ_=>⟨a.1,a.2.1,a.2.2,X,?_,k.N,λ_=>⟨D,U,k.tb⟩,λe=>by cases e⟩,λe=> ?_⟩,λe=> ?_,È on⟩
 .have:=(h.C.lt i x).1;have:=a.1;omega
 .grind
 .rwa[x]
 .have e:(Uu g st.d T v).S st.d.nP=g.S st.d:=U;unfold Uo;rw[e];have e4:(Uu g st.d T v).G st.d.nP=Â ⟨T,0,Á⟩:=if_pos on;rwa[e4]
 .show jX.ownsRow g.B 149 1 v (g.I st.d++[T]).length (nR<|g.I st.d++[T]);rwa[e1,e2]
 .have:st.d.r=Ë:=e;grind
 .grind
def abA(h:gS m b g nm s st w)(D:st.r=0)(p:st.d.r=Î)(E:st.d.Y.length<=100000): Ò À 99 #[Ã<|Â ⟨b,0,Á⟩] w λe u=>e=Æ (ë #[])/\sI m b {st with C:=[84],d:=st.d.nP} w u:=by
 have Y:=h.r.r 3 _ U;have f3:=h.r.C 3;have gK:=h.r.M;have l:=h.C.r p;have z:=h.aqS p;have F:=λv=>by have:=D1 st.d.I.c v;rwa[l.M]at this
 have G:m<=g.B/\g.B<=g.q/\st.d.I.c.length=8:=⟨l.S,l.N,l.M⟩;have I:g.B<=w.heap.size:=by have:=l.r.M;have:=l.N;omega
 have J:(g.I st.d).length<=100000:=by rwa[l.G]
 have L:=h.S;have H:=fc<|Ê G<|Ê I<|Ê J<|Ê L<|Ê D p;have k:=fc<|F g.r;have y:g.S st.d=Â ⟨g.q,0,Á⟩:=if_pos p;go_enter Tryz.func99,Tryz.ntmps99;go_wp2_with fail;change ß À _ _ _ (Oh b w);have n:=z.fK (e8.fU _ _) z.N.fU;generalize hT:w.heap.size=T at*;generalize M:(Oh b w).drew=w1 at*;let⟨i0,N,O,P,Q⟩:=ů aqQ;have r:=fc<|Ê N<|Ê O<|Ê P Q;refine mr (λu=>u.cell? ⟨b,2,Á⟩=Â (Ã<|g.S st.d)/\u.cell? ⟨b,3,Á⟩=Â (Ã<|Â ⟨T,0,Á⟩)/\u.cell? ⟨g.q,8,Á⟩=Â g.r) [19] fp ?_;rw[M];rw[y];have a:Hid (w1.cell? ⟨b,2,Á⟩=Â (Ã<|Â ⟨g.q,0,Á⟩)/\w1.cell? ⟨b,3,Á⟩=Â (Ã<|Â ⟨T,0,Á⟩)/\w1.cell? ⟨g.q,8,Á⟩=Â g.r):=fc ⟨by rw[<-y];exact n.r.r 2 _ U,n.r.r 3 _ U,n.I.r 8 _ k.out⟩;have t:=fc y;apply tk 0 a.out;apply tk 1 a.out;apply tk 2 a.out;apply tk 3 a.out;apply tk 4 a.out;apply tk 5 a.out;apply tk 6 a.out;apply tk 7 a.out;apply tk 8 a.out;apply tk 9 a.out;apply tk 10 a.out;apply tk 11 a.out;apply tk 12 a.out;apply tk 13 a.out;apply tk 14 a.out;have S:=n.M.tb.M;have f:=n.fK (e8.gG (λ_=>False) w1 #[Ã<|Â ⟨T,0,Á⟩] 149) (n.N.gG _ _ fi A λv i=>by simp at i;subst i;exact⟨Ì H.out.1.1 H.out.2.1,S⟩);apply gC 15;intro K j;go_simp;refine j.out _ _ (λ_=>⟨by rw[<-t.out];exact f.r.r 2 _ U,f.r.r 3 _ U,f.I.r 8 _ k.out⟩) ?_;apply gC 16;intro K j;refine abt fN _ _ 159 fN Tryz.underlying159 r.out.1 r.out.2.1 r.out.2.2.1 r.out.2.2.2 fN f.C ⟨w1.heap.size,0,Á⟩ fN (Λ w1 _ _) U (by have:=H.out.2.2.1;unfold ī;omega) (by have:=H.out.2.2.1;omega) (by have:=H.out.2.1;have:=f.M.tb.M;omega) A H.out.1.1 f.N ⟨Ì H.out.1.1 H.out.2.1,f.M.tb.M⟩ A ?_;intro v9 w9 x V W;obtain⟨a9,n9c,rfl⟩:=jl x.fj;have i:=f.r.I x.r<|jF f.C f.r A;have o:=f.I.I x.r<|jF f.C f.I A;refine j.out _ _ (λ_=>⟨by rw[<-t.out];exact i.r 2 _ U,i.r 3 _ U,o.r 8 _ k.out⟩) ?_;apply gC 17;intro K j;go_simp;refine j.out _ _ (λ_=>⟨by rw[<-t.out];exact i.r 2 _ U,i.r 3 _ U,o.r 8 _ k.out⟩) ?_;apply gC 18;intro K j;go_simp;refine j.out _ _ (λ_=>⟨by rw[<-t.out];exact i.r 2 _ U,i.r 3 _ U,o.r 8 _ k.out⟩) ?_;have cq8:=o.r 8 _ k.out;have fq8:=o.C 8;have cb4:=i.r 4 _ U;have fb4:=i.C 4;have cb0:=i.r 0 _ U;have fb0:=i.C 0;have cb3:=i.r 3 _ U;have X:=ff.S o i A;have hbq:¬b=g.q:=λe=>X e.symm;apply gC 19;intro K j;go_simp;apply j.out _ _ λC=>absurd A C;refine lZ fp ?_ _;have C:=fc<|f.jN H.out.2.2.2.1 p H.out.1 H.out.2.1 H.out.2.2.2.2.1 x V W U;go_wp2_with fail;go_end0;exact⟨U,C.out.1,_,_,_,C.out.2⟩
end
section
variable{g:Gh}{nm:Option ü}{s:ByteArray}{f:PS}{d:PD}{Q:Nat}{k:Int}
def aqT(h:w.ownsRow i e 1 v n l)(c:j<=i):w.ownsRow j e 1 v n l:= ⟨h.1,h.2.imp id λ⟨g,d,f,a,b,r⟩=>⟨g,d,f,a,Ì c b,r⟩⟩
def wq.gf(l:wq m g d w):wo w.heap.size g.q ⟨d.I.c,d.Y⟩ w:= ⟨l.r.M,l.M,g.r,g.I d,l.r,aqT l.I<|Ø _,λj a=>(l.I.lt j a).2,l.abz.M (Ø _)<|æ _⟩
theorem k9.abB(h:k9 m g d w)(a:d.r=Ë->d.S=[]):pX w.heap.size (g.C d) d.C w:=by
 unfold Gh.C PD.C;split
 .rename_i e;have l:=h.r e;have b:=l.r.M;have c:=l.N;exact h.I.Ul Z l.gf
 .rename_i e;have f:=a (by simpa using e);have:=h.I.I;grind [Ý,pX.N]
def Oi(b:Nat)(k:Int)(w:Í):Í:=(w.setCell ⟨b,2,Á⟩<|Ã<|Â ⟨w.heap.size,0,Á⟩).alloc<|Û #[Å É 0,Å É 0,Å É 0,Å É 0,Å É k,Å É 0,Å É 0,Å É 0,Ç Á 0 0] 161
def rdQ(s:ByteArray)(g:Gh)(d:PD)(Q:Nat)(nm:Option ü)(lr a:Int):List Ñ:=
 [Ä s,g.N,Ã<|Â ⟨Q,0,Á⟩,Ã<|g.Y d,Ã<|g.G d,Ã nm,Å É lr,Å É a]
structure Gw(m b:Nat)(g:Gh)(d:PD)(Q:Nat)(k:Int)(s:ByteArray)(nm:Option ü)(lr Ut:Int)(w0 w:Í):Prop where
 S:e8 (λi=>m<=i) w0 w
 M:jG m w
 r:ff b (rdQ s g d Q nm lr Ut) 153 w
 I:ff Q (DY (PD.abq k).c<|Ç Á 0 0) 161 w
 N:pX Q (g.C d) d.C w
 C:w.ownsRow m 148 1 g.N (g.C d).length (nR<|g.C d)
def Gw.fK{lr:Int}(h:Gw m b g d Q k s nm lr c W w)(a:e8 (λ_=>False) w u)(e:jG m u):Gw m b g d Q k s nm lr c W u:= ⟨h.S.C a λ_ _ x=>x.elim,e,h.r.I a id,h.I.I a id,h.N.C a λ_ _ x=>x.elim,ij h.C a λ_ _=>id⟩
def gS.aqU(h:gS m b g nm s f w)(k:Int)(l:f.d.r=Ë->f.d.S=[]):Gw m b g f.d w.heap.size k s nm f.r f.I w (Oi b k w):=by
 have n:(w.setCell ⟨b,2,Á⟩<|Ã<|Â ⟨w.heap.size,0,Á⟩).heap.size=w.heap.size:=fi
 have c:e8 (λ_=>False) (w.setCell ⟨b,2,Á⟩<|Ã<|Â ⟨w.heap.size,0,Á⟩) (Oi b k w):=e8.gG _ _ _ _;have o:e8 (λk=>k=b) w (w.setCell ⟨b,2,Á⟩<|Ã<|Â ⟨w.heap.size,0,Á⟩):=pY h.r;have a:=o.C c λ_ _ x=>x.elim;refine⟨a.S λk _ x=>by rw[x];exact h.S,?_,(h.r.fQ 2 _).I c id,?_,(h.C.abB l).C a λi _ x=>Ï ⟨_,_,_,J3 x h.r,È U⟩,ij h.C.C a λj p x=>jF h.C.C h.r A<|by rw[p,x]⟩
 .exact h.a.C h.r h.S A _ _ fi A λv e=>by simp at e;rcases e with rfl|rfl|rfl|rfl<;>trivial
 .have:=ff.N (w.setCell ⟨b,2,Á⟩<|Ã<|Â ⟨w.heap.size,0,Á⟩) [Å É 0,Å É 0,Å É 0,Å É 0,Å É k,Å É 0,Å É 0,Å É 0,Ç Á 0 0] 161;rwa[n]at this
def aqV(g:Gh)(d:PD)(Q:Nat)(v:Ñ):Gh:={a:=g.C d,q:=Q,t:=Q,B:=Q,tb:=[],N:=v,r:=Ç Á 0 0,b:=g.Y d}
theorem Gw.jN{sb:ByteArray}(h:Gw m b g f.d Q k s nm f.r f.I w u)(o:m<=b)(p:m<=Q)(S:f.r=0)(y:sb.size<=10)(B:jZ sb=rF k) (a:qz u m 148 1 g.N (g.C f.d).length (nR<|g.C f.d) 1 [Ã<|Â ⟨Q,0,Á⟩] v W) (C:jG m W) (D:nk m W.heap.size v) (l:jX=((W.setCell ⟨b,1,Á⟩ v).setCell ⟨b,4,Á⟩<|Ã<|Â ⟨Q,0,Á⟩).setCell ⟨b,0,Á⟩ (Ä sb)): e8 (λi=>m<=i) w jX/\gS m b (aqV g f.d Q v) nm sb {f with C:=rF k,d:=f.d.Gp k} jX:=by
 have c:=h.r.I a.r<|jF h.C h.r A;have n:=h.I.I a.r<|jF h.C h.I A;have E:=h.N.C a.r λi _ x=>by let⟨e,z⟩:=lY h.C x;exact Ï ⟨_,_,_,z,Ï U⟩
 have F:e8 (λk=>k=b) W (W.setCell ⟨b,1,Á⟩ v):=pY c;have q:=c.fQ 1 v;have G:e8 (λk=>k=b) (W.setCell ⟨b,1,Á⟩ v) ((W.setCell ⟨b,1,Á⟩ v).setCell ⟨b,4,Á⟩<|Ã<|Â ⟨Q,0,Á⟩):=pY q;have r:=q.fQ 4<|Ã<|Â ⟨Q,0,Á⟩;have H:e8 (λk=>k=b) ((W.setCell ⟨b,1,Á⟩ v).setCell ⟨b,4,Á⟩<|Ã<|Â ⟨Q,0,Á⟩) jX:=by rw[l];exact pY r
 have t:=r.fQ 0<|Ä sb;rw[<-l]at t;have z:=(F.fe G).fe H;have I:=n.I z λx=>ff.S n c A x;have J:=E.C z λi _ x=>Ï ⟨_,_,_,J3 x c,È U⟩;have K:=ij a.fj z λj L x=>jF a.fj c A (by rw[L,x]);have M:Q<(W.setCell ⟨b,1,Á⟩ v).heap.size:=by simpa using n.M
 have N:jG m jX:=by rw[l];refine((C.r _ D).r _ ?_).r _ trivial;exact⟨p,M⟩
 have O:(g.C f.d++[Q]).length=(g.C f.d).length+1:=fi
 have P:nR (g.C f.d++[Q])=nR (g.C f.d)++[Ã<|Â ⟨Q,0,Á⟩]:=by simp[nR]
 refine⟨(h.S.C a.r λi _ x=> ?_).C z λi _ x=> ?_,o,N,t,y,B,⟨?_,J,λ_=>⟨p,æ _,U,I,?_,pd.N _ _ _,(λe=>by cases e),λ_=>⟨rfl,rfl⟩⟩,(λe=>by cases e)⟩,λe=> ?_,È rfl⟩
 .exact(h.C.lt i x).1
 .rwa[x]
 .show jX.ownsRow m 148 1 v (g.C f.d++[Q]).length (nR<|g.C f.d++[Q]);rwa[O,P]
 .exact⟨U,È ⟨U,U⟩⟩
 .grind
def aqW:yh f 0=Á:=rfl
def aqX(h:gS m b g nm s f w)(t:f.r=0)(x:f.d.r=Ë->f.d.S=[])(y:f.d.C.length<=100000)(k:Int): Ò À 96 #[Ã<|Â ⟨b,0,Á⟩,Å É k] w λe u=>match yh f k with
  |none=>e=Æ (õ Ë)/\u=w
  |some i=>e=Æ (õ Î)/\sI m b i w u:=by
 by_cases n:k=0
 .subst n;rw[aqW];go_enter Ω,Μ;go_wp2;go_ret;exact⟨U,U⟩
 have Q:(k==0)=Ë:=by rwa[beq_eq_false_iff_ne]
 have e:yh f k=Â {f with C:=rF k,d:=f.d.Gp k}:=if_neg n;rw[e];have S:=h.r.r 2 _ U;have V:=h.r.C 2;have W:=h.r.M;have q:=h.aqU k x;have z:(g.C f.d).length<=100000:=by rwa[h.C.G]
 have B:=h.S;have C:m<=w.heap.size:=Z
 have H:=fc<|Ê B<|Ê C<|Ê z t;go_enter Ω,Μ;go_wp2_with fail;change ß À _ _ _ (Oi b k w);have j:=q.fK (e8.fU _ _) q.M.fU;generalize X:w.heap.size=T at*;generalize D:(Oi b k w).drew=w1 at*;let⟨Y,E,F,G,I⟩:=ů aqR;have l:=fc<|Ê E<|Ê F<|Ê G I;refine mr (λu=>u.cell? ⟨b,1,Á⟩=Â g.N/\u.cell? ⟨b,2,Á⟩=Â (Ã<|Â ⟨T,0,Á⟩)) [13] fp ?_;rw[D];have c:Hid (w1.cell? ⟨b,1,Á⟩=Â g.N/\w1.cell? ⟨b,2,Á⟩=Â (Ã<|Â ⟨T,0,Á⟩)):=fc ⟨j.r.r 1 _ U,j.r.r 2 _ U⟩;apply tk 0 c.out;apply tk 1 c.out;apply tk 2 c.out;apply tk 3 c.out;apply tk 4 c.out;apply tk 5 c.out;apply tk 6 c.out;apply tk 7 c.out;apply tk 8 c.out;have J:=j.I.M;have a:=j.fK (e8.gG (λ_=>False) w1 #[Ã<|Â ⟨T,0,Á⟩] 148) (j.M.gG _ _ fi A λv i=>by simp at i;subst i;exact⟨H.out.2.1,J⟩);apply gC 9;intro K i;go_simp;apply i.out _ _ λ_=>⟨a.r.r 1 _ U,a.r.r 2 _ U⟩;apply gC 10;intro K i;refine abt fN _ _ 61 fN Tryz.underlying61 l.out.1 l.out.2.1 l.out.2.2.1 l.out.2.2.2 fN a.C ⟨w1.heap.size,0,Á⟩ fN (Λ w1 _ _) U (by have:=H.out.2.2.1;unfold ī;omega) (by have:=H.out.2.2.1;omega) (by have:=H.out.2.1;have:=a.I.M;omega) A (æ _) a.M ⟨H.out.2.1,a.I.M⟩ A ?_;intro v9 w9 o L M;obtain⟨a9,n9c,rfl⟩:=jl o.fj;have v:=a.r.I o.r<|jF a.C a.r A;apply i.out _ _ λ_=>⟨v.r 1 _ U,v.r 2 _ U⟩;apply gC 11;intro K i;go_simp;apply i.out _ _ λ_=>⟨v.r 1 _ U,v.r 2 _ U⟩;apply gC 12;intro K i;go_simp;apply i.out _ _ λ_=>⟨v.r 1 _ U,v.r 2 _ U⟩;have cb1:=v.r 1 _ U;have fb1:=v.C 1;have cb4:=v.r 4 _ U;have fb4:=v.C 4;have cb0:=v.r 0 _ U;have fb0:=v.C 0;have cb2:=v.r 2 _ U;apply gC 13;intro K i;go_simp;apply i.out _ _ λp=>absurd A p;refine lZ fp ?_ _;have N:=fc λp r O=>a.jN (sb:=p) H.out.1 H.out.2.1 H.out.2.2.2 r O o L M U;go_wp2_with (go_at_call 145;refine(aqI _ _).mono ?_;rintro e u ⟨⟨p,rfl,O,P⟩,r⟩;subst u);go_ret;have r:=N.out p O P;exact⟨U,r.1,_,_,_,r.2⟩
end
def lQ(i:Nat)(z:Int):Prop:=match i with
 |0=>0<=z/\z<8
 |1=>0<=z/\z<8
 |2=>0<=z/\z<1000000
 |3=>0<=z/\z<1000000
 |4=>1<=z/\z<10
 |5=>-1<=z/\z<1000000
 |6=>-1<=z/\z<1000000
 |7=>0<=z/\z<16
 |_=>True
structure Gx(n m:Nat)(c:List Int):Prop where
 C:c.length=n
 r:∀i,i<m->lQ i (c.getD i 0)
theorem Gx.I(h:Gx n m zQ)(i:Nat)(z:Int)(b:i<m->lQ i z):Gx n m (zQ.set i z):=by refine⟨by simp[h.C],λj a=> ?_⟩;have:=h.r j a;grind
def abC(h:i<zQ.length)(z:Int):(zQ.set i z).getD i 0=z:=by simp[Ğ,h]
structure om(t:PT):Prop where
 c:Gx 5 4 t.c
 p:t.p.size<=40/\∀c∈t.p.data.toList,xP c=Î
structure uX(r:PR):Prop where
 c:Gx 8 8 r.c
 C:∀t∈r.r,om t
 n:r.r.length<=8
structure kx(d:PD):Prop where
 N:d.r=Ë->d.S=[]/\d.M=Ë
 b:d.M=Ë->d.I.r=[]
 C:d.C.length<=24
 I:d.Y.length<=8
 S:∀r∈d.S,uX r
 M:d.r=Î->Gx 8 8 d.I.c
 a:d.r=Î->∀t∈d.I.r,om t
 Y:d.M=Î->om d.N
structure jz(B:ByteArray)(k:Nat)(st:PS):Prop where
 M:0<=st.r
 r:st.r<=5
 C:0<=st.I
 I:st.I<=40
 e:0<st.r->(st.M=86\/st.M=87\/st.M=110\/st.M=107)/\st.d.r=Î/\0<=st.d.G st.M/\st.d.G st.M<10^(6-st.r.toNat)
 d:kx st.d
 c:st.d.r=Î\/st.C=[82]
 b:82∈st.C->st.d.C.length<24
 N:84∈st.C\/80∈st.C->st.d.M=Î
 a:66∈st.C->st.d.M=Ë
 S:80∈st.C->st.C=[80]/\st.r=0
 Y:80∈st.C->st.I.toNat<=k/\∀j (h:j<B.size),k-st.I.toNat<=j->j<k->xP B[j]=Î
section
variable{d:PD}{st o:PS}
def kx.abD(h:kx d)(on:d.r=Î):∀t∈d.Y,om t:=by
 unfold PD.Y;split
 .rename_i e;intro t a;rcases â.1 a with q|q
  .exact h.a on t q
  .rw[ō]at q;rw[q];exact h.Y e
 .exact h.a on
def kx.G(h:kx d):∀r∈d.C,uX r:=by
 unfold PD.C;split
 .rename_i e;intro r a;rcases â.1 a with q|q
  .exact h.S r q
  .rw[ō]at q;rw[q];exact⟨h.M e,h.abD e,h.I⟩
 .exact h.S
def yj(d:PD):d.C.length=d.S.length+(if d.r then 1 else 0):=by unfold PD.C;split<;>simp
def J4(d:PD):d.Y.length=d.I.r.length+(if d.M then 1 else 0):=by unfold PD.Y;split<;>simp
def kx.r(h:kx d)(i:Nat)(z:Int)(a:lQ i z):kx (d.ot i z):= ⟨h.N,h.b,by have:=h.C;rw[yj]at this|-;exact this,by have:=h.I;rw[J4]at this|-;exact this,h.S,λe=>(h.M e).I i z λ_=>a,h.a,h.Y⟩
def kx.oF(h:kx d)(i:Nat)(z:Int)(a:i<4->lQ i z):kx (d.oF i z):= ⟨h.N,h.b,by have:=h.C;rw[yj]at this|-;exact this,by have:=h.I;rw[J4]at this|-;exact this,h.S,h.M,h.a,λe=>⟨(h.Y e).c.I i z a,(h.Y e).p⟩⟩
def kx.iw(h:kx d)(i:Nat)(z:Int)(a:lQ i z):kx (d.iw i z):=by
 unfold PD.iw;split
 .exact h.oF i z λ_=>a
 .exact h.r i z a
def kx.oG(h:kx d)(p:ByteArray)(a:p.size<=40/\∀c∈p.data.toList,xP c=Î):kx (d.oG p):= ⟨h.N,h.b,by have:=h.C;rw[yj]at this|-;exact this,by have:=h.I;rw[J4]at this|-;exact this,h.S,h.M,h.a,λe=>⟨(h.Y e).c,a⟩⟩
def aqY:om PD.Gl:=⟨⟨U,λi a=>by
 match i,a with
 |0,_=>exact⟨A,A⟩
 |1,_=>exact⟨A,A⟩
 |2,_=>exact⟨A,A⟩
 |3,_=>exact⟨A,A⟩⟩,⟨A,λc b=>by cases b⟩⟩
def kx.nP(h:kx d)(on:d.r=Î)(a:d.Y.length<8):kx d.nP:= ⟨(λe=>by have:d.r=Ë:=e;rw[on]at this;cases this),(λe=>by cases e),by have:=h.C;rw[yj]at this|-;exact this,by rwa[J4],h.S,λe=>h.M e,λ_=>h.abD on,λ_=>aqY⟩
def kx.Gp(h:kx d)(q:Int)(a:1<=q/\q<10)(b:d.C.length<24):kx (d.Gp q):= ⟨(λe=>by cases e),λ_=>rfl,by rwa[yj],by show(0:Nat)<=8;decide,h.G,λ_=>⟨U,λi c=>by
   match i,c with
   |0,_=>exact⟨by show(0:Int)<=0;decide,by show(0:Int)<8;decide⟩
   |1,_=>exact⟨by show(0:Int)<=0;decide,by show(0:Int)<8;decide⟩
   |2,_=>exact⟨by show(0:Int)<=0;decide,by show(0:Int)<1000000;decide⟩
   |3,_=>exact⟨by show(0:Int)<=0;decide,by show(0:Int)<1000000;decide⟩
   |4,_=>exact a
   |5,_=>exact⟨by show(-1:Int)<=0;decide,by show(0:Int)<1000000;decide⟩
   |6,_=>exact⟨by show(-1:Int)<=0;decide,by show(0:Int)<1000000;decide⟩
   |7,_=>exact⟨by show(0:Int)<=0;decide,by show(0:Int)<16;decide⟩⟩,(λ_ t f=>by cases f),(λe=>by cases e)⟩
def kx.fQ(h:kx d)(want z:Int)(a:(want=86->lQ 5 z)/\(want=87->lQ 6 z)/\(want=120->lQ 0 z)/\(want=121->lQ 1 z)/\(want=110->lQ 2 z)/\(want=107->lQ 3 z)/\(want=115->lQ 7 z)):kx (d.fQ want z):=by
 let⟨b,c,e,f,g,i,j⟩:=a;unfold PD.fQ;repeat' split
 .exact h.r 5 z<|b ‹_›
 .exact h.r 6 z<|c ‹_›
 .exact h.iw 0 z<|e ‹_›
 .exact h.iw 1 z<|f ‹_›
 .exact h.iw 2 z<|g ‹_›
 .exact h.iw 3 z<|i ‹_›
 .exact h.r 7 z<|j ‹_›
 .exact h
def Uv(d:PD)(a z:Int):(d.fQ a z).r=d.r/\(d.fQ a z).M=d.M/\(d.fQ a z).C.length=d.C.length:=by
 unfold PD.fQ PD.iw;repeat' split
 all_goals exact⟨U,U,(yj _).trans (yj d).symm⟩
theorem Uw(h:kx d)(on:d.r=Î)(a z:Int)(f:a=86\/a=87\/a=110\/a=107):(d.fQ a z).G a=z:=by
 have g:=(h.M on).C;have b:∀i,i<4->(d.iw i z).tL i=z:=λi j=>by
  unfold PD.iw;split
  .rename_i e;have k:=(h.Y e).c.C;show(if d.M=Î then(d.N.c.set i z).getD i 0 else d.I.c.getD i 0)=z;grind
  .rename_i e;show(if d.M=Î then d.N.c.getD i 0 else(d.I.c.set i z).getD i 0)=z;grind
 rcases f with rfl|rfl|rfl|rfl
 .exact abC Z z
 .exact abC Z z
 .exact b 2 A
 .exact b 3 A
def Oj:∀(l:List UInt8) (c:UInt8),Þ l c<l.length
 |[],_=>by show(-1:Int)<0;decide
 |a::l,c=>by
  have:=Oj l c;unfold Þ;split
  .simp
  .split<;>(simp;omega)
def Ux:∀(l:List UInt8) (c:UInt8),c∈l->0<=Þ l c
 |[],_,h=>by cases h
 |a::l,c,h=>by
  unfold Þ;split
  .decide
  .rename_i e;rcases List.mem_cons.1 h with q|q
   .subst q;simp at e
   .have:=Ux l c q;split
    .rename_i b;rw[beq_iff_eq]at b;omega
    .omega
def abE{l:List UInt8}(h:c.toNat∈l.map UInt8.toNat):c.toNat.toUInt8∈l:=by let⟨x,a,b⟩:=Ú.1 h;rw[<-b];simpa using a
def abF(h:sF c=Î):0<=Þ [97,98,99,100,101,102,103,104] c.toNat.toUInt8:=by rw[aqv]at h;refine Ux _ _<|abE ?_;simp;omega
def aqZ(h:(jm c||(decide (97<=c)&&decide (c<=102)))=Î):0<=Þ [48,49,50,51,52,53,54,55,56,57,97,98,99,100,101,102] c.toNat.toUInt8:=by simp only[Bool.or_eq_true,Gn,Bool.and_eq_true,decide_eq_true_eq]at h;refine Ux _ _<|abE ?_;simp;omega
theorem aq0(a:pb h c=Î):(h=86->lQ 5 (nj h c))/\(h=87->lQ 6 (nj h c))/\(h=120->lQ 0 (nj h c))/\(h=121->lQ 1 (nj h c))/\(h=110->lQ 2 (nj h c))/\(h=107->lQ 3 (nj h c))/\(h=115->lQ 7 (nj h c)):=by
 unfold pb at a;have b:(c==104||jm c)=Î->-1<=(if c=104 then-1 else(c-48)%256)/\(if c=104 then(-1:Int)else(c-48)%256)<1000000:=λq=>by split<;>omega
 have d:jm c=Î->0<=(if c=104 then-1 else(c-48)%256)/\(if c=104 then(-1:Int)else(c-48)%256)<1000000:=λq=>by rw[Gn]at q;grind
 refine⟨?_,?_,?_,?_,?_,?_,?_⟩<;>rintro rfl
 .exact b a
 .exact b a
 .exact⟨abF a,Oj _ _⟩
 .exact⟨abF a,Oj _ _⟩
 .exact d a
 .exact d a
 .exact⟨aqZ a,Oj _ _⟩
theorem aq1{lr:Int}(a:jm c=Î)(b:0<=h)(d:0<lr)(e:lr<=5)(f:h<10^(6-lr.toNat)):0<=pV h c/\pV h c<10^(6-(lr-1).toNat)/\pV h c<1000000:=by
 rw[Gn]at a;have g:h<100000->pV h c=h*10+(c-48):=λq=>by unfold pV;rw[Ļ (h*10) ⟨Z,Z⟩,Ļ _ ⟨Z,Z⟩];omega
 have i:lr=1\/lr=2\/lr=3\/lr=4\/lr=5:=Z
 grind
def kx.lr(h:kx d)(a z:Int)(c:a=86\/a=87\/a=110\/a=107)(b:0<=z/\z<1000000):kx (d.fQ a z):= h.fQ a z ⟨λ_=>⟨Z,b.2⟩,λ_=>⟨Z,b.2⟩,λe=>by omega,λe=>by omega,λ_=>b,λ_=>b,λe=>by omega⟩
def jz.aq2(h:jz B k st)(e:0<st.r)(j:jm c=Î):jz B (k+1) (DX st c):=by
 let⟨a,b,l,m⟩:=h.e e;let⟨f,n,o⟩:=aq1 j l e h.r m;let⟨g,i,p⟩:=Uv st.d st.M<|pV (st.d.G st.M) c;refine⟨by show 0<=st.r-1;omega,by have:=h.r;show st.r-1<=5;omega,h.C,h.I,λ_=>⟨a,g.trans b,?_⟩,h.d.lr _ _ a ⟨f,o⟩,?_,λq=> ?_,λq=>i.trans<|h.N q,λq=>i.trans<|h.a q,λq=> ?_,λq=> ?_⟩
 .show 0<=(st.d.fQ st.M<|pV (st.d.G st.M) c).G st.M/\(st.d.fQ st.M<|pV (st.d.G st.M) c).G st.M<10^(6-(st.r-1).toNat);rw[Uw h.d b _ _ a];exact⟨f,n⟩
 .exact È<|g.trans b
 .show(st.d.fQ st.M<|pV (st.d.G st.M) c).C.length<24;rw[p];exact h.b q
 .have:=(h.S q).2;omega
 .have:=(h.S q).2;omega
def jz.vp(h:jz B k st):jz B k {st with r:=0}:= ⟨Ť _,by show(0:Int)<=5;decide,h.C,h.I,(λq=>by cases q),h.d,h.c,h.b,h.N,h.a,λq=>⟨(h.S q).1,rfl⟩,h.Y⟩
theorem jz.on(h:jz B k st)(a:82∉st.C):st.d.r=Î:=by rcases h.c with q|q;all_goals grind
def kx.aq3(h:kx d)(a:d.M=Î):d.r=Î:=by
 cases e:d.r with
 |true=>rfl
 |false=>have:=(h.N e).2;rw[a]at this;cases this
theorem abG(h:jz B k st)(b:st.r=0)(on:st.d.r=Î)(a:pW st c=Â o):jz B (k+1) o:=by
 unfold pW at a;split at a
 .rename_i e;cases a;refine⟨h.M,h.r,h.C,h.I,λq=> ?_,h.d,Ï U,λ_=> ?_,λq=> ?_,λq=> ?_,λq=> ?_,λq=> ?_⟩
  .grind
  .rw[yj,on];exact e.2
  .simp at q
  .simp at q
  .simp at q
  .simp at q
 .split at a
  .rename_i e;cases a;refine⟨h.M,h.r,h.C,h.I,λq=> ?_,h.d.nP on e.2.2,È on,λq=> ?_,λ_=>rfl,λq=> ?_,λq=> ?_,λq=> ?_⟩;all_goals grind
  .cases a
def aq4(q:Int):82∉rF q/\84∉rF q/\80∉rF q:=by
 unfold rF;repeat' split
 all_goals decide
theorem aq5(q:Int):82∉sG q/\84∉sG q/\66∉sG q/\(80∈sG q->sG q=[80]):=by unfold sG;grind
def aq6(c:Int):0<=wj c/\wj c<10:=by
 unfold wj;repeat' split
 all_goals decide
theorem aq7(h:jz B k st)(i:st.r=0)(f:82∈st.C)(a:yh st (wj c)=Â o):jz B (k+1) o:=by
 unfold yh at a;split at a
 .cases a
 .rename_i e;cases a;let⟨g,j,b⟩:=aq4<|wj c;have l:=aq6 c;refine⟨h.M,h.r,h.C,h.I,λq=> ?_,h.d.Gp _ Z<|h.b f,È U,λq=>absurd q g,λq=> ?_,λ_=>rfl,λq=>absurd q b,λq=>absurd q b⟩;all_goals grind
theorem aq8(h:jz B k st)(c:st.r=0)(q:Int)(f:84∈st.C)(a:yi st q=Â o):jz B (k+1) o:=by
 unfold yi at a;split at a
 .cases a
 .cases a;let⟨g,m,i,l⟩:=aq5 q;have b:=h.N<|È f;refine⟨h.M,h.r,Ť _,by show(0:Int)<=40;decide,λq=> ?_,h.d.oF 4 q λe=>by omega,È<|h.d.aq3 b,λq=>absurd q g,λ_=>b,λq=>absurd q i,λq=>⟨l q,c⟩,λ_=>⟨Ø _,λj _ n p=> ?_⟩⟩;all_goals grind
theorem aq9{a:Int}(h:0<qL a c):(a=86\/a=87)/\qL a c=1/\jm c=Î/\c≠48\/(a=110\/a=107)/\qL a c=5/\jm c=Î/\c≠48:=by unfold qL at h|-;grind
theorem abH(h:jz B k st)(on:st.d.r=Î){want:Int}(l:pb want c=Î)(r:List Int)(a:∀x∈r,x∈st.C)(g:80∉r):jz B (k+1) {ou st want c with C:=r}:=by
 let⟨m,i,n⟩:=Uv st.d want<|nj want c;have j:=aqz want c;refine⟨j.1,j.2,h.C,h.I,λq=> ?_,h.d.fQ _ _<|aq0 l,È<|m.trans on,λq=> ?_,λq=>i.trans<|h.N<|q.imp (a _)<|a _,λq=>i.trans<|h.a<|a _ q,λq=>absurd q g,λq=>absurd q g⟩
 .have q:=q;show(want=86\/want=87\/want=110\/want=107)/\(st.d.fQ want<|nj want c).r=Î/\0<=(st.d.fQ want<|nj want c).G want/\(st.d.fQ want<|nj want c).G want<10^(6-(qL want c).toNat);rcases aq9 q with⟨o,b,e,p⟩|⟨o,b,e,p⟩
  .have f:want=86\/want=87\/want=110\/want=107:=Z
   rw[Uw h.d on _ _ f,b];rw[Gn]at e;have:nj want c=(c-48)%256:=by unfold nj;grind
   grind
  .have f:want=86\/want=87\/want=110\/want=107:=Z
   rw[Uw h.d on _ _ f,b];rw[Gn]at e;have:nj want c=(c-48)%256:=by unfold nj;grind
   grind
 .show(st.d.fQ want<|nj want c).C.length<24;rw[n];exact h.b<|a _ q
def ara{x:UInt8}(h:x∈(B.extract i b).data.toList):∃j,∃e:j<B.size,i<=j/\j<b/\B[j]=x:=by rw[Ĳ,ĺ,ĥ]at h;obtain⟨c,d,rfl⟩:=Ĝ h;simp only[Ś,List.length_drop,ě]at d;have f:B.data.size=B.size:=rfl;exact⟨i+c,Z,Z,Z,by simp[ċ]⟩
theorem arb(h:jz B k st)(l:st.r=0)(F:k<B.size)(a:jS B k st (B[k].toNat:Int)=Â o):jz B (k+1) o:=by
 unfold jS at a;split at a
 .rename_i e;exact abG h l (h.on<|by rw[e];decide) a
 .rename_i t p e;have c:t∈st.C:=by rw[e];exact List.mem_cons_self ..
  split at a
  .rename_i f;subst f;exact aq7 h l c a
  rename_i G;have i:st.d.r=Î:=by rcases h.c with q|q;all_goals grind
  split at a
  .rename_i f;subst f;split at a
   .rename_i u;cases a;have n:=h.a c;have b:st.d.Y.length<8:=by rw[J4,h.d.b n,n];decide
    have v:jz B k {st with C:=[84],d:=st.d.nP}:=by refine⟨h.M,h.r,h.C,h.I,λq=> ?_,h.d.nP i b,È i,λq=> ?_,λ_=>rfl,λq=> ?_,λq=> ?_,λq=> ?_⟩;all_goals grind
    exact abH (want:=120) v i u [84] (λx b=>b) A
   .exact abG h l i a
  split at a
  .rename_i f;subst f;exact aq8 h l _ c a
  split at a
  .rename_i f;subst f;let⟨H,w⟩:=h.Y c;have n:=h.N<|Ï c;have y:=(h.S c).1;have I:=h.C;have J:=h.I;split at a
   .cases a;have z:p=[]:=by rw[y]at e;cases e;rfl
    subst z;refine⟨h.M,h.r,h.C,h.I,λq=> ?_,h.d.oG _ ⟨by rw[Č];omega,λx b=> ?_⟩,È i,λq=> ?_,λq=> ?_,λq=> ?_,λq=> ?_,λq=> ?_⟩
    .grind
    .obtain⟨j,r,m,s,rfl⟩:=ara b;exact w j r m s
    .cases q
    .grind
    .cases q
    .cases q
    .cases q
   .split at a
    .cases a
    .rename_i g;cases a;have K:=λq=>g<|È q;have C:=λq=>g<|Ï q;refine⟨h.M,h.r,by show 0<=st.I+1;omega,by show st.I+1<=40;omega,h.e,h.d,h.c,h.b,h.N,h.a,h.S,λ_=>⟨by show(st.I+1).toNat<=k+1;omega,λj r m s=> ?_⟩⟩;have m:k+1-(st.I+1).toNat<=j:=m;by_cases D:j=k
     .subst D;unfold xP;simpa using C
     .grind
  split at a
  .rename_i L M N E;cases a;refine abH h i E p (λx b=>by rw[e];exact ē _ b) λq=> ?_;have:=(h.S<|by rw[e];exact ē _ q).1;grind
  .cases a
def abI(h:jz B k st)(b:k<B.size)(a:kS B k st (B[k].toNat:Int)=Â o):jz B (k+1) o:=by
 unfold kS at a;split at a
 .rename_i e;cases a;exact h.aq2 e.1 e.2
 .exact arb h.vp U b a
def Uy(B:ByteArray):jz B 0 nQ:= ⟨A,A,A,A,(λq=>by cases q),⟨λ_=>⟨rfl,rfl⟩,λ_=>rfl,A,A,(λr e=>by cases e),(λe=>by cases e),(λe=>by cases e),(λe=>by cases e)⟩,Ï rfl,λ_=>by decide,(λq=>by rcases q with q|q<;>simp[nQ]at q),(λq=>by simp[nQ]at q),(λq=>by simp[nQ]at q),(λq=>by simp[nQ]at q)⟩
def Uz:∀(f k:Nat) (st:PS),jz B k st->k<=B.size->jz B (jT B f k st).1 (jT B f k st).2/\(jT B f k st).1<=B.size
 |0,k,st,h,hk=>⟨h,hk⟩
 |f+1,k,st,h,hk=>by
  unfold jT;split
  .rename_i a;split
   .exact⟨h,hk⟩
   .rename_i o e;exact Uz f (k+1) o (abI h a e) Z
  .exact⟨h,hk⟩
end
section
variable{g:Gh}{st:PS}
def abJ{d:PD}(i:Nat)(z:Int):g.M (d.iw i z)=g.M d:=by unfold PD.iw Gh.M;split<;>simp[PD.oF,PD.ot, *]
def abK{d:PD}(h:i=2\/i=3)(z:Int):g.DZ (d.iw i z) (if i=2 then 110 else 107)=⟨g.M d,i,Á⟩:=by
 rcases h with rfl|rfl
 .show(⟨g.M<|d.iw 2 z,2,Á⟩:ü)=_;rw[abJ]
 .show(⟨g.M<|d.iw 3 z,3,Á⟩:ü)=_;rw[abJ]
def abL{d:PD}(on:d.r=Î):g.S d=Â ⟨g.q,0,Á⟩:=if_pos on
def ard{d:PD}(on:d.r=Î):g.G d=Â ⟨g.M d,0,Á⟩:=if_pos on
def M8(h:gS m b g O B st w)(j:st.r=0)(on:st.d.r=Î)(a c:Int)(v:pb a c=Î): Ò À 100 #[Ã<|Â ⟨b,0,Á⟩,Å ū a,Å ū c] w λe u=>e=Æ (ë #[])/\sI m b (ou st a c) w u:=by
 have G:w.cell? ⟨b,2,Á⟩=Â (Ã<|g.S st.d):=h.r.r 2 _ U;have x:w.cell? ⟨b,4,Á⟩=Â (Ã<|g.G st.d):=h.r.r 4 _ U;rw[abL on]at G;rw[ard on]at x;have H:=fc<|Ê h v;clear h v;generalize y:g.M st.d=tm at x;have n:=fc y;clear y;by_cases o:a=86
 .subst o;have k:=fc (show ou st 86 c={st with r:=wv c 2,M:=86,d:=st.d.ot 5 (jy c)}from by unfold ou;rw[<-Od H.out.2 (È ⟨È U,U⟩),Og A];rfl);go_enter Ā,û;go_wp2_with (go_at_call 147;refine(Oc H.out.1 (Gs H.out.1.C H.out.1.r on (i:=5) A) j on _ _ 86 A A λz=>rfl).mono ?_;rintro e u ⟨rfl,l⟩);go_end0;exact⟨U,by rwa[k.out]⟩
 have I:(a==86)=Ë:=by rwa[beq_eq_false_iff_ne]
 by_cases p:a=87
 .subst p;have k:=fc (show ou st 87 c={st with r:=wv c 2,M:=87,d:=st.d.ot 6 (jy c)}from by unfold ou;rw[<-Od H.out.2 (È ⟨Ï U,U⟩),Og A];rfl);go_enter Ā,û;go_wp2_with (go_at_call 147;refine(Oc H.out.1 (Gs H.out.1.C H.out.1.r on (i:=6) A) j on _ _ 87 A A λz=>rfl).mono ?_;rintro e u ⟨rfl,l⟩);go_end0;exact⟨U,by rwa[k.out]⟩
 have J:(a==87)=Ë:=by rwa[beq_eq_false_iff_ne]
 by_cases q:a=120
 .subst q;have f:=fc ((by have:=Gt H.out.1.C H.out.1.r on (i:=0) A;rw[n.out]at this;exact this:qM m b g st.d tm 0 (λz=>st.d.iw 0 z) (st.d.tL 0) w));have C:=f.out.C;have D:=f.out.I;have E:=f.out.r;go_enter Ā,û;go_wp2_with fail;go_region_with (go_at_call 146;refine(JZ _ _ _).mono ?_;rintro e u ⟨rfl,F⟩;subst u);all_goals go_end0
  all_goals exact⟨U,Us H.out.1 f.out j (Oe A) U⟩
 have K:(a==120)=Ë:=by rwa[beq_eq_false_iff_ne]
 by_cases r:a=121
 .subst r;have f:=fc ((by have:=Gt H.out.1.C H.out.1.r on (i:=1) A;rw[n.out]at this;exact this:qM m b g st.d tm 1 (λz=>st.d.iw 1 z) (st.d.tL 1) w));have C:=f.out.C;have D:=f.out.I;have E:=f.out.r;go_enter Ā,û;go_wp2_with fail;go_region_with (go_at_call 146;refine(JZ _ _ _).mono ?_;rintro e u ⟨rfl,F⟩;subst u);all_goals go_end0
  all_goals exact⟨U,Us H.out.1 f.out j (Oe A) U⟩
 have L:(a==121)=Ë:=by rwa[beq_eq_false_iff_ne]
 by_cases s:a=110
 .subst s;have k:=fc (show ou st 110 c={st with r:=wv c 6,M:=110,d:=st.d.iw 2 (jy c)}from by unfold ou;rw[<-Od H.out.2 (Ï ⟨È U,U⟩),Og A];rfl);go_enter Ā,û;go_wp2_with (go_at_call 147;refine(Oc H.out.1 ((by have:=Gt H.out.1.C H.out.1.r on (i:=2) A;rw[n.out]at this;exact this:qM m b g st.d tm 2 (λz=>st.d.iw 2 z) (st.d.tL 2) w)) j on _ _ 110 A A λz=>(by have:=abK (g:=g) (d:=st.d) (i:=2) (È U) z;rwa[n.out]at this)).mono ?_;rintro e u ⟨rfl,l⟩);go_end0;exact⟨U,by rwa[k.out]⟩
 have M:(a==110)=Ë:=by rwa[beq_eq_false_iff_ne]
 by_cases t:a=107
 .subst t;have k:=fc (show ou st 107 c={st with r:=wv c 6,M:=107,d:=st.d.iw 3 (jy c)}from by unfold ou;rw[<-Od H.out.2 (Ï ⟨Ï U,U⟩),Og A];rfl);go_enter Ā,û;go_wp2_with (go_at_call 147;refine(Oc H.out.1 ((by have:=Gt H.out.1.C H.out.1.r on (i:=3) A;rw[n.out]at this;exact this:qM m b g st.d tm 3 (λz=>st.d.iw 3 z) (st.d.tL 3) w)) j on _ _ 107 A A λz=>(by have:=abK (g:=g) (d:=st.d) (i:=3) (Ï U) z;rwa[n.out]at this)).mono ?_;rintro e u ⟨rfl,l⟩);go_end0;exact⟨U,by rwa[k.out]⟩
 have l:(a==107)=Ë:=by rwa[beq_eq_false_iff_ne]
 by_cases k:a=115
 .subst k;have f:=fc<|Gs H.out.1.C H.out.1.r on (i:=7) A;have C:=f.out.C;have D:=f.out.I;have E:=f.out.r;go_enter Ā,û;go_wp2_with fail;go_region_with (go_at_call 146;refine(JZ _ _ _).mono ?_;rintro e u ⟨rfl,F⟩;subst u);all_goals go_end0
  all_goals exact⟨U,Us H.out.1 f.out j (Oe A) U⟩
 have f:(a==115)=Ë:=by rwa[beq_eq_false_iff_ne]
 go_enter Ā,û;go_wp2;go_end0;refine⟨U,e8.fW _ _,g,O,B,?_⟩;have e:ou st a c={st with M:=a}:=by unfold ou PD.fQ;rw[Oe ⟨Z,Z⟩,if_neg o,if_neg p,if_neg q,if_neg r,if_neg s,if_neg t,if_neg k,<-j]
 rw[e];exact H.out.1.Uq a j
end
section
variable{g:Gh}{s:ByteArray}{st:PS}{d:PD}
def Ol(m b:Nat)(o:Option PS)(e:Ending)(w u:Í):Prop:=
 (o=Á/\e=Æ (õ Ë)/\u=w)\/∃a,o=Â a/\e=Æ (õ Î)/\sI m b a w u
def abM{o:Option PS}{e:Ending}(h:match o with
 |none=>e=Æ (õ Ë)/\u=w
 |some a=>e=Æ (õ Î)/\sI m b a w u):Ol m b o e w u:=by
 cases o with
 |none=>exact È ⟨U,h⟩
 |some a=>exact Ï ⟨a,U,h⟩
def arf{d:PD}(on:d.r=Î):d.C.length=d.S.length+1:=by rw[yj,on];rfl
def abN(h:gS m b g O s st w)(j:st.r=0)(on:st.d.r=Î)(y:st.d.Y.length<=8)(z:st.d.C.length<=24)(c:Int): Ò À 95 #[Ã<|Â ⟨b,0,Á⟩,Å ū c] w λe u=>Ol m b (pW st c) e w u:=by
 have l:=h.C.r on;let⟨I,J,p⟩:=jl h.C.C;let⟨K,L,q⟩:=jl l.I;rw[h.C.G]at p;rw[l.G]at q;have M:=h.r.r 0 _ U;have r:=h.r.r 1 _ U;have B:=h.r.r 2 _ U;rw[abL on]at B;rw[p]at r;have t:=l.r.r 8 _ (by have:=D1 st.d.I.c g.r;rwa[l.M]at this);rw[q]at t;have N:=h.r.C 0;obtain⟨v,f⟩:∃n,st.d.C.length=n:=⟨_,U⟩;obtain⟨x,i⟩:∃n,st.d.Y.length=n:=⟨_,U⟩;rw[f]at r z;rw[i]at t y;have k:st.d.S.length+1=v:=by rw[<-f];exact(arf on).symm
 have H:=fc<|Ê h<|Ê f<|Ê i<|Ê k j;by_cases C:c=59/\v<24
 .obtain⟨rfl,a⟩:=C;go_enter ť,ŗ;go_wp2;go_ret;let⟨h,f,i,k,j⟩:=H.out;exact Ï ⟨_,by rw[pW,if_pos ⟨U,Z⟩],U,mN h 0 _,g,O,_,h.Ob _ [82] A A<|È on⟩
 by_cases D:c=44/\0<x/\x<8
 .obtain⟨rfl,P,Q⟩:=D;go_enter ť,ŗ;go_wp2_with (go_at_call 99;refine(abA H.out.1 H.out.2.2.2.2 on (by have:=H.out.2.2.1;omega)).mono ?_;rintro e u ⟨rfl,o,E,F,S,a⟩;have T:=a.r.r 0 _ U;have V:=a.r.C 0;have G:=fc<|Ê o a;clear o a);go_ret;let⟨h,f,i,k,j⟩:=H.out;let⟨o,a⟩:=G.out;exact Ï ⟨_,by rw[pW,if_neg Z,if_pos ⟨U,Z,Z⟩],U,o.fe<|mN a 0 _,E,F,_,a.Ob _ [120,84] A A<|È on⟩
 .have a:=fc (show pW st c=Á by
   let⟨h,f,i,k,j⟩:=H.out;rw[pW,if_neg Z,if_neg Z])
  go_enter ť,ŗ;go_wp2_with fail;all_goals first|(go_ret;exact È ⟨a.out,U,U⟩)|(exfalso;simp only[beq_iff_eq,decide_eq_true_eq]at*;omega)
def ku:Τ->Option Τ
 |ń c=>Â c
 |.seq a b=>match ku a with
  |some c=>Â c
  |none=>ku b
 |.block _ c=>ku c
 |.scope c=>ku c
 |.cond _ a b=>match ku a with
  |some c=>Â c
  |none=>ku b
 |_=>Á
noncomputable def qN:Τ:=(Tryz.f61.body.bind ku).getD aj
def pZ(b:Nat)(B:ByteArray)(i:Ñ)(u:Nat->Ñ):Ĉ:=⟨#[Ã<|Â ⟨b,0,Á⟩,Ä B,ĸ,ĸ,Å É 0,i,u 6,u 7,u 8,u 9,u 10,u 11,u 12,u 13,u 14,u 15,u 16,u 17,u 18,u 19,u 20,u 21,u 22,u 23,u 24,u 25,u 26,u 27,u 28,u 29,u 30,u 31,u 32,u 33,u 34,u 35,u 36,u 37,u 38,u 39,u 40,u 41,u 42,u 43,u 44,u 45,u 46,u 47,u 48,u 49,u 50,u 51,u 52,u 53,u 54,u 55,u 56,u 57,u 58,u 59,u 60,u 61,u 62,u 63,u 64,u 65,u 66,u 67,u 68,u 69,u 70,u 71,u 72,u 73,u 74,u 75,u 76,u 77,u 78,u 79,u 80,u 81,u 82,u 83,u 84,u 85,u 86,u 87,u 88,u 89,u 90,u 91,u 92,u 93,u 94,u 95,u 96,u 97,u 98,u 99,u 100,u 101,u 102,u 103,u 104,u 105,u 106,u 107,u 108,u 109,u 110,u 111,u 112,u 113,u 114,u 115,u 116,u 117,u 118,u 119,u 120,u 121,u 122,u 123,u 124,u 125,u 126,u 127,u 128,u 129,u 130,u 131,u 132,u 133,u 134,u 135,u 136,u 137,u 138,u 139,u 140,u 141,u 142,u 143,u 144,u 145,u 146],[]⟩
def Fr(b:Nat)(B:ByteArray)(i:Ñ)(a:Ĉ):Prop:=∃u,a=pZ b B i u
def gk{b:Nat}{B:ByteArray}{i:Value}{a:Act}(h:a=pZ b B i (λn=>a.tmps.getD n undef):=by rfl):Fr b B i a:=⟨_,h⟩
def QQ(X:Ĉ->Í->Prop):Exit->Ĉ->Í->Prop
 |.exit 0,a,w=>X a w
 |_,_,_=>False
def sJ(m b:Nat)(B:ByteArray)(k:Nat)(st:PS)(a u:Í):Prop:=∃(h:k<B.size) (h:PS),kS B k st (B[k].toNat:Int)=Â h/\sI m b h a u
def sK(m b:Nat)(B:ByteArray)(k:Nat)(st:PS)(a u:Í):Prop:=∃h:k<B.size,kS B k st (B[k].toNat:Int)=Á/\∃c,sI m b c a u
theorem uY{d:Int}(h:(0<d/\yQ=Ë)\/d<=0):¬(0<d/\yQ=Î):=by grind
def uZ(h:¬(0<st.r/\jm c=Î)):kS B k st c=jS B k {st with r:=0} c:=if_neg h
def arh(a:0<st.r)(b:jm c=Î):kS B k st c=Â (DX st c):=if_pos ⟨a,b⟩
section
variable{want:Int}
def ari(h:st.C=[]):jS B k st c=pW st c:=by rw[jS,h]
def arj(h:st.C=want::zQ)(a:want=82):jS B k st c=yh st (wj c):=by rw[jS,h];simp only;rw[if_pos a]
def ark(h:st.C=want::zQ)(a:want=66)(b:sF c=Î):jS B k st c=Â (ou {st with C:=[84],d:=st.d.nP} 120 c):=by rw[jS,h];simp only;rw[if_neg Z,if_pos a,if_pos b]
def arl(h:st.C=want::zQ)(a:want=66)(b:sF c=Ë):jS B k st c=pW st c:=by rw[jS,h];simp only;rw[if_neg Z,if_pos a,if_neg (by rw[b];decide)]
def arn(h:st.C=want::zQ)(a:want=84):jS B k st c=yi st (N8 c):=by rw[jS,h];simp only;rw[if_neg Z,if_neg Z,if_pos a]
def aro(h:st.C=want::zQ)(a:want=80)(b:c=125):jS B k st c=Â {st with C:=zQ,d:=st.d.oG (B.extract (k-st.I.toNat) k)}:=by rw[jS,h];simp only;rw[if_neg Z,if_neg Z,if_neg Z,if_pos a,if_pos b]
def abO(h:st.C=want::zQ)(a:want=80)(b:¬c=125)(d:st.I=40\/lC c=0):jS B k st c=Á:=by rw[jS,h];simp only;rw[if_neg Z,if_neg Z,if_neg Z,if_pos a,if_neg b,if_pos d]
def arp(h:st.C=want::zQ)(a:want=80)(b:¬c=125)(d:¬st.I=40)(e:¬lC c=0):jS B k st c=Â {st with I:=st.I+1}:=by rw[jS,h];simp only;rw[if_neg Z,if_neg Z,if_neg Z,if_pos a,if_neg b,if_neg Z]
def arq(h:st.C=want::zQ)(a:¬want=82)(b:¬want=66)(d:¬want=84)(e:¬want=80)(f:pb want c=Î):jS B k st c=Â {ou st want c with C:=zQ}:=by rw[jS,h];simp only;rw[if_neg a,if_neg b,if_neg d,if_neg e,if_pos f]
def ars(h:st.C=want::zQ)(a:¬want=82)(b:¬want=66)(d:¬want=84)(e:¬want=80)(f:pb want c=Ë):jS B k st c=Á:=by rw[jS,h];simp only;rw[if_neg a,if_neg b,if_neg d,if_neg e,if_neg (by rw[f];decide)]
end
def u5(c:UInt8):(0:Int)<=(c.toNat:Int)/\(c.toNat:Int)<256:=⟨Int.natCast_nonneg _,by have:=c.toNat_lt;omega⟩
def UA(s:ByteArray)(h:s.size=0):(s.toList==[])=Î:=by simp_all
theorem tM(s:ByteArray)(h:¬s.size=0):(s.toList==[])=Ë:=by
 rw[beq_eq_false_iff_ne];intro e;have:s.toList.length=s.size:=by rw[ByteArray.toList_eq];rfl
 grind
def gS.aru(h:gS m b g O s st w)(on:st.d.r=Î)(i:c=86\/c=87\/c=110\/c=107):∃a e f,g.DZ st.d c=⟨a,e,Á⟩/\qM m b g st.d a e f (st.d.G c) w/\∀z,f z=st.d.fQ c z:=by
 rcases i with rfl|rfl|rfl|rfl
 .exact⟨_,_,_,U,Gs h.C h.r on A,λz=>rfl⟩
 .exact⟨_,_,_,U,Gs h.C h.r on A,λz=>rfl⟩
 .exact⟨_,_,_,U,Gt h.C h.r on A,λz=>rfl⟩
 .exact⟨_,_,_,U,Gt h.C h.r on A,λz=>rfl⟩
def gS.oG(h:gS m b g O s st w)(on:st.d.r=Î)(a:st.d.M=Î)(p:ByteArray):gS m b g O s {st with d:=st.d.oG p} (w.setCell ⟨g.t,5,Á⟩<|Ä p)/\e8 (λi=>m<=i) w (w.setCell ⟨g.t,5,Á⟩<|Ä p):=by have l:=h.C.r on;let⟨f,j,c⟩:=l.C a;have e:e8 (λi=>i=g.t) w (w.setCell ⟨g.t,5,Á⟩<|Ä p):=pY c;exact⟨⟨h.S,h.a.r _ trivial,h.r.I e λx=>ff.S h.r c A x,h.M,h.I,h.C.oG on a p,h.c,h.N⟩,e.S λi _ x=>by have:=l.S;omega⟩
def gS.abP(h:gS m b g O s st w)(on:st.d.r=Î)(a:st.C=c::zQ):gS m b g O (s.extract 1 s.size) {st with C:=zQ} (w.setCell ⟨b,0,Á⟩<|Ä<|s.extract 1 s.size):= h.Ob _ zQ (aqy s h.M) (by rw[aqx,h.I,a];rfl)<|È on
def gS.arv(h:gS m b g O s st w)(a:st.C=c::zQ):0<s.size:=by have:=Uj s;rw[h.I,a]at this;simp at this;omega
end
section
variable{g:Gh}{s:ByteArray}{st:PS}{d:PD}
def arw(h:gS m b g O s st w)(a:st.r=0)(c:st.d.r=Ë->st.d.S=[])(f:st.d.C.length<=100000)(k:Int): Ò À 96 #[Ã<|Â ⟨b,0,Á⟩,Å É k] w λe u=>Ol m b (yh st k) e w u:=(aqX h a c f k).mono λ_ _ q=>abM q
def arx(h:gS m b g O s st w)(a:st.r=0)(on:st.d.r=Î)(c:st.d.M=Î)(k:Int): Ò À 101 #[Ã<|Â ⟨b,0,Á⟩,Å É k] w λe u=>Ol m b (yi st k) e w u:=(aqP h a on c k).mono λ_ _ q=>abM q
def arz{X:Ĉ->Í->Prop}{a:Ĉ}(G:Fr b B (Å É k) a) (h:gS m b g O s st w) (i:jz B k st) (Q:B.size<=1200) (H:k<B.size) (n:0<st.r) (I:jm (B[k].toNat:Int)=Î) (S:∀a u,Fr b B (Å É<|(k:Int)+1) a/\sJ m b B k st w u->K a u) (_hQ:∀a u,Fr b B (Å É k) a/\sK m b B k st w u->X a u): ß À qN (Exit.then K<|QQ X) a w:=by
 obtain⟨c,rfl⟩:=G;unfold pZ;conv=>arg 2;whnf
 have T:w.cell? ⟨b,0,Á⟩=Â (Ä s):=h.r.r 0 _ U;have V:w.cell? ⟨b,6,Á⟩=Â (Å É st.r):=h.r.r 6 _ U;have W:w.cell? ⟨b,7,Á⟩=Â (Å É st.I):=h.r.r 7 _ U;have Y:=h.r.C 0;have f6:=h.r.C 6;have f7:=h.r.C 7;have d0:=i.M;have d1:=i.r;have e0:=i.C;have e1:=i.I;let⟨q,on,_,_⟩:=i.e n;let⟨r,ao,f,t,j,v⟩:=h.aru on q;have J:w.cell? ⟨b,5,Á⟩=Â (Ã O):=h.r.r 5 _ U;rw[(h.c n).2,t]at J;obtain⟨x,o⟩:∃x,st.d.G st.M=x:=⟨_,U⟩;have L:=j.C;rw[o]at L;have fm:=j.I;obtain⟨M,N⟩:∃y,wrap64 (x*10)=y:=⟨_,U⟩;obtain⟨l,P⟩:∃y,wrap64 (M+((B[k].toNat:Int)-48)%256)=y:=⟨_,U⟩;have Om:¬r=b:=j.r;have On:¬b=r:=λe=>j.r e.symm;have z:=h.Y (st.r-1) λ_=>h.c n;have p:=j.rd 6<|Å É<|st.r-1;have C:=z.G p l;have D:pV (st.d.G st.M) (B[k].toNat:Int)=l:=by rw[pV,š,š,o,N,P]
 have E:DX st (B[k].toNat:Int)={st with r:=st.r-1,d:=f l}:=by rw[DX,D,v]
 have F:Hid (kS B k st (B[k].toNat:Int)=Â {st with r:=st.r-1,d:=f l}/\sI m b {st with r:=st.r-1,d:=f l} w (ξ _)):= fc ⟨by rw[arh n I,E],(((mN h 6 _).fe<|Gu (st:=st) p _).C (e8.fU (λ_=>False) _) λ_ _ x=>x.elim),g,O,s,C.fU⟩;clear z p C D E j v t h i o q;go_wp2_with (go_at_call 94;refine(sH _ _).mono ?_;rintro e u ⟨rfl,hw⟩;subst u);go_region;all_goals
  go_wp2;exact⟨gk,⟨H,_,F.out.1,F.out.2⟩⟩
def arA{X:Ĉ->Í->Prop}(z:Fr b B (Å É k) y) (i:gS m b g O s st w) (j:jz B k st) (Q:B.size<=1200) (l:k<B.size) (n:(0<st.r/\jm (B[k].toNat:Int)=Ë)\/st.r<=0) (o:s.size=0) (S:∀y u,Fr b B (Å É<|(k:Int)+1) y/\sJ m b B k st w u->K y u) (C:∀y u,Fr b B (Å É k) y/\sK m b B k st w u->X y u): ß À qN (Exit.then K<|QQ X) y w:=by
 obtain⟨f,rfl⟩:=z;unfold pZ;conv=>arg 2;whnf
 have T:w.cell? ⟨b,0,Á⟩=Â (Ä s):=i.r.r 0 _ U;have V:w.cell? ⟨b,6,Á⟩=Â (Å É st.r):=i.r.r 6 _ U;have W:w.cell? ⟨b,7,Á⟩=Â (Å É st.I):=i.r.r 7 _ U;have Y:=i.r.C 0;have f6:=i.r.C 6;have f7:=i.r.C 7;have d0:=j.M;have d1:=j.r;have e0:=j.C;have e1:=j.I;have p:=fc<|uZ (B:=B) (k:=k)<|uY n;have r:=i.Y 0 λh=>absurd h A;have t:=fc<|mN i 6<|Å É 0;have D:=j.d.C;have E:=j.d.I;have F:=fc r;let⟨uh,Ah⟩:=u5 B[k];have rv:=UA s o;have h:st.C=[]:=by rw[<-i.I];exact abp s o
 have G:st.d.r=Î:=by
  rcases i.N with q|q
  .exact q
  .rw[h]at q;cases q
 have v:=fc<|ari (B:=B) (k:=k) (c:=(B[k].toNat:Int)) (st:={st with r:=0}) h;clear h i j;rcases n with⟨H,ng⟩|H;all_goals
  go_wp2_with (first|(go_at_call 94;refine(sH _ _).mono ?_;rintro e u ⟨rfl,x⟩;subst u)|(go_at_call 95;refine(abN r U G E D _).mono ?_;rintro e u (⟨q,rfl,x⟩|⟨I,q,rfl,J,L,M,N,P⟩)))
  .subst x;exact C _ _ ⟨gk,⟨l,p.out.trans<|v.out.trans q,_,t.out,_,_,_,F.out⟩⟩
  .exact⟨gk,⟨l,I,p.out.trans<|v.out.trans q,t.out.fe J,L,M,N,P⟩⟩
def arB{X:Ĉ->Í->Prop}(z:Fr b B (Å É k) y) (i:gS m b g O s st w) (j:jz B k st) (P:B.size<=1200) (o:k<B.size) (p:(0<st.r/\jm (B[k].toNat:Int)=Ë)\/st.r<=0) (q:0<s.size) (l:((s[0]'q).toNat:Int)=82) (Q:∀y u,Fr b B (Å É<|(k:Int)+1) y/\sJ m b B k st w u->K y u) (C:∀y u,Fr b B (Å É k) y/\sK m b B k st w u->X y u): ß À qN (Exit.then K<|QQ X) y w:=by
 obtain⟨f,rfl⟩:=z;unfold pZ;conv=>arg 2;whnf
 have S:w.cell? ⟨b,0,Á⟩=Â (Ä s):=i.r.r 0 _ U;have T:w.cell? ⟨b,6,Á⟩=Â (Å É st.r):=i.r.r 6 _ U;have V:w.cell? ⟨b,7,Á⟩=Â (Å É st.I):=i.r.r 7 _ U;have W:=i.r.C 0;have Y:=i.r.C 6;have f7:=i.r.C 7;have d0:=j.M;have d1:=j.r;have e0:=j.C;have e1:=j.I;have r:=fc<|uZ (B:=B) (k:=k)<|uY p;have t:=i.Y 0 λh=>absurd h A;have v:=fc<|mN i 6<|Å É 0;have Ai:=j.d.C;have D2:=j.d.I;have D:=fc t;let⟨uh,Ah⟩:=u5 B[k];have rv:=tM s Z;have tN:s.size<=10:=i.M;have E:=fc (show st.C=(s[0].toNat:Int)::(jZ s).tail by rw[<-i.I];exact wm s q);have x:=fc<|arj (B:=B) (k:=k) (c:=(B[k].toNat:Int)) (st:={st with r:=0}) E.out l;have yk:((s[0].toNat:Int)==82)=Î:=by rw[l];rfl
 have F:=fc λe=>(j.d.N e).1;clear l i j;rcases p with⟨G,ng⟩|G;all_goals
  go_wp2_with (first|(go_at_call 94;refine(sH _ _).mono ?_;rintro e u ⟨rfl,h⟩;subst u)|(go_at_call 97;refine(aqH _ _).mono ?_;rintro e u ⟨rfl,h⟩;subst u)|(go_at_call 96;refine(arw t U F.out (by show st.d.C.length<=100000;omega) _).mono ?_;rintro e u (⟨n,rfl,h⟩|⟨H,n,rfl,I,J,L,M,N⟩)))
  .subst h;exact C _ _ ⟨gk,⟨o,r.out.trans<|x.out.trans n,_,v.out,_,_,_,D.out⟩⟩
  .exact⟨gk,⟨o,H,r.out.trans<|x.out.trans n,v.out.fe I,J,L,M,N⟩⟩
end
section
variable{g:Gh}{s:ByteArray}{st:PS}{d:PD}
def arC{X:Ĉ->Í->Prop}(t:Fr b B (Å É k) y) (f:gS m b g O s st w) (i:jz B k st) (M:B.size<=1200) (v:k<B.size) (l:(0<st.r/\jm (B[k].toNat:Int)=Ë)\/st.r<=0) (n:0<s.size) (j:((s[0]'n).toNat:Int)=66) (o:sF (B[k].toNat:Int)=Î) (N:∀y u,Fr b B (Å É<|(k:Int)+1) y/\sJ m b B k st w u->K y u) (_hQ:∀y u,Fr b B (Å É k) y/\sK m b B k st w u->X y u): ß À qN (Exit.then K<|QQ X) y w:=by
 obtain⟨c,rfl⟩:=t;unfold pZ;conv=>arg 2;whnf
 have P:w.cell? ⟨b,0,Á⟩=Â (Ä s):=f.r.r 0 _ U;have Q:w.cell? ⟨b,6,Á⟩=Â (Å É st.r):=f.r.r 6 _ U;have S:w.cell? ⟨b,7,Á⟩=Â (Å É st.I):=f.r.r 7 _ U;have T:=f.r.C 0;have V:=f.r.C 6;have W:=f.r.C 7;have Y:=i.M;have d1:=i.r;have e0:=i.C;have e1:=i.I;have x:=fc<|uZ (B:=B) (k:=k)<|uY l;have p:=f.Y 0 λh=>absurd h A;have z:=fc<|mN f 6<|Å É 0;have Ai:=i.d.C;have D2:=i.d.I;have HH1:=fc p;let⟨C,D⟩:=u5 B[k];have rv:=tM s Z;have tN:s.size<=10:=f.M;have h:=fc (show st.C=(s[0].toNat:Int)::(jZ s).tail by rw[<-f.I];exact wm s n);have r:st.d.r=Î:=by
  rcases f.N with q|q
  .exact q
  .rw[h.out]at q;injection q with q;omega
 have q:=fc<|ark (B:=B) (k:=k) (st:={st with r:=0}) h.out j o;have yk:((s[0].toNat:Int)==82)=Ë:=by rw[j];rfl
 have Gy:((s[0].toNat:Int)==66)=Î:=by rw[j];rfl
 clear j f i;rcases l with⟨E,ng⟩|E;all_goals
  go_wp2_with (first|(go_at_call 94;refine(sH _ _).mono ?_;rintro e u ⟨rfl,F⟩;subst u)|(go_at_call 98;refine(Uk _ C D _).mono ?_;rintro e u ⟨rfl,F⟩;subst u)|(go_at_call 99;refine(abA p U r<|by show st.d.Y.length<=100000;omega).mono ?_;rintro e u ⟨rfl,F,H,I,J,G⟩)|(go_at_call 100;refine(M8 G U r _ _<|show pb 120 _=Î from o).mono ?_;rintro e w'' ⟨rfl,G,H,I,J,L⟩))
  exact⟨gk,⟨v,_,x.out.trans q.out,z.out.fe<|F.fe G,H,I,J,L⟩⟩
def arD{X:Ĉ->Í->Prop}(z:Fr b B (Å É k) y) (f:gS m b g O s st w) (i:jz B k st) (V:B.size<=1200) (l:k<B.size) (n:(0<st.r/\jm (B[k].toNat:Int)=Ë)\/st.r<=0) (o:0<s.size) (j:((s[0]'o).toNat:Int)=66) (C:sF (B[k].toNat:Int)=Ë) (W:∀y u,Fr b B (Å É<|(k:Int)+1) y/\sJ m b B k st w u->K y u) (D:∀y u,Fr b B (Å É k) y/\sK m b B k st w u->X y u): ß À qN (Exit.then K<|QQ X) y w:=by
 obtain⟨c,rfl⟩:=z;unfold pZ;conv=>arg 2;whnf
 have Y:w.cell? ⟨b,0,Á⟩=Â (Ä s):=f.r.r 0 _ U;have c6:w.cell? ⟨b,6,Á⟩=Â (Å É st.r):=f.r.r 6 _ U;have c7:w.cell? ⟨b,7,Á⟩=Â (Å É st.I):=f.r.r 7 _ U;have f0:=f.r.C 0;have f6:=f.r.C 6;have f7:=f.r.C 7;have d0:=i.M;have d1:=i.r;have e0:=i.C;have e1:=i.I;have p:=fc<|uZ (B:=B) (k:=k)<|uY n;have r:=f.Y 0 λh=>absurd h A;have t:=fc<|mN f 6<|Å É 0;have E:=i.d.C;have F:=i.d.I;have G:=fc r;let⟨H,I⟩:=u5 B[k];have rv:=tM s Z;have tN:s.size<=10:=f.M;have v:=fc (show st.C=(s[0].toNat:Int)::(jZ s).tail by rw[<-f.I];exact wm s o);have J:st.d.r=Î:=by
  rcases f.N with q|q
  .exact q
  .rw[v.out]at q;injection q with q;omega
 have x:=fc<|arl (B:=B) (k:=k) (st:={st with r:=0}) v.out j C;have yk:((s[0].toNat:Int)==82)=Ë:=by rw[j];rfl
 have Gy:((s[0].toNat:Int)==66)=Î:=by rw[j];rfl
 clear j f i;rcases n with⟨L,ng⟩|L;all_goals
  go_wp2_with (first|(go_at_call 94;refine(sH _ _).mono ?_;rintro e u ⟨rfl,h⟩;subst u)|(go_at_call 98;refine(Uk _ H I _).mono ?_;rintro e u ⟨rfl,h⟩;subst u)|(go_at_call 95;refine(abN r U J F E _).mono ?_;rintro e u (⟨q,rfl,h⟩|⟨M,q,rfl,N,P,Q,S,T⟩)))
  .subst h;exact D _ _ ⟨gk,⟨l,p.out.trans<|x.out.trans q,_,t.out,_,_,_,G.out⟩⟩
  .exact⟨gk,⟨l,M,p.out.trans<|x.out.trans q,t.out.fe N,P,Q,S,T⟩⟩
def arE{X:Ĉ->Í->Prop}(C:Fr b B (Å É k) y) (i:gS m b g O s st w) (j:jz B k st) (Q:B.size<=1200) (o:k<B.size) (p:(0<st.r/\jm (B[k].toNat:Int)=Ë)\/st.r<=0) (r:0<s.size) (l:((s[0]'r).toNat:Int)=84) (S:∀y u,Fr b B (Å É<|(k:Int)+1) y/\sJ m b B k st w u->K y u) (D:∀y u,Fr b B (Å É k) y/\sK m b B k st w u->X y u): ß À qN (Exit.then K<|QQ X) y w:=by
 obtain⟨f,rfl⟩:=C;unfold pZ;conv=>arg 2;whnf
 have T:w.cell? ⟨b,0,Á⟩=Â (Ä s):=i.r.r 0 _ U;have V:w.cell? ⟨b,6,Á⟩=Â (Å É st.r):=i.r.r 6 _ U;have W:w.cell? ⟨b,7,Á⟩=Â (Å É st.I):=i.r.r 7 _ U;have Y:=i.r.C 0;have f6:=i.r.C 6;have f7:=i.r.C 7;have d0:=j.M;have d1:=j.r;have e0:=j.C;have e1:=j.I;have t:=fc<|uZ (B:=B) (k:=k)<|uY p;have v:=i.Y 0 λh=>absurd h A;have x:=fc<|mN i 6<|Å É 0;have Ai:=j.d.C;have D2:=j.d.I;have E:=fc v;let⟨uh,Ah⟩:=u5 B[k];have rv:=tM s Z;have tN:s.size<=10:=i.M;have h:=fc (show st.C=(s[0].toNat:Int)::(jZ s).tail by rw[<-i.I];exact wm s r);have F:st.d.r=Î:=by
  rcases i.N with q|q
  .exact q
  .rw[h.out]at q;injection q with q;omega
 have G:st.d.M=Î:=j.N (by rw[h.out,l];simp);have z:=fc<|arn (B:=B) (k:=k) (c:=(B[k].toNat:Int)) (st:={st with r:=0}) h.out l;have yk:((s[0].toNat:Int)==82)=Ë:=by rw[l];rfl
 have Gy:((s[0].toNat:Int)==66)=Ë:=by rw[l];rfl
 have Gz:((s[0].toNat:Int)==84)=Î:=by rw[l];rfl
 clear l i j;rcases p with⟨H,ng⟩|H;all_goals
  go_wp2_with (first|(go_at_call 94;refine(sH _ _).mono ?_;rintro e u ⟨rfl,q⟩;subst u)|(go_at_call 102;refine(aqG _ _).mono ?_;rintro e u ⟨rfl,q⟩;subst u)|(go_at_call 101;refine(arx v U F G _).mono ?_;rintro e u (⟨n,rfl,q⟩|⟨I,n,rfl,J,L,M,N,P⟩)))
  .subst q;exact D _ _ ⟨gk,⟨o,t.out.trans<|z.out.trans n,_,x.out,_,_,_,E.out⟩⟩
  .exact⟨gk,⟨o,I,t.out.trans<|z.out.trans n,x.out.fe J,L,M,N,P⟩⟩
end
section
variable{g:Gh}{s:ByteArray}{st:PS}{d:PD}
def arF{X:Ĉ->Í->Prop}(N:Fr b B (Å É k) y) (i:gS m b g O s st w) (j:jz B k st) (hB:B.size<=1200) (P:k<B.size) (E:(0<st.r/\jm (B[k].toNat:Int)=Ë)\/st.r<=0) (F:0<s.size) (l:((s[0]'F).toNat:Int)=80) (r:(B[k].toNat:Int)=125) (hK:∀y u,Fr b B (Å É<|(k:Int)+1) y/\sJ m b B k st w u->K y u) (_hQ:∀y u,Fr b B (Å É k) y/\sK m b B k st w u->X y u): ß À qN (Exit.then K<|QQ X) y w:=by
 obtain⟨f,rfl⟩:=N;unfold pZ;conv=>arg 2;whnf
 have c0:w.cell? ⟨b,0,Á⟩=Â (Ä s):=i.r.r 0 _ U;have c6:w.cell? ⟨b,6,Á⟩=Â (Å É st.r):=i.r.r 6 _ U;have Q:w.cell? ⟨b,7,Á⟩=Â (Å É st.I):=i.r.r 7 _ U;have f0:=i.r.C 0;have f6:=i.r.C 6;have f7:=i.r.C 7;have d0:=j.M;have d1:=j.r;have S:=j.C;have T:=j.I;have G:=fc<|uZ (B:=B) (k:=k)<|uY E;have v:=i.Y 0 λh=>absurd h A;have H:=fc<|mN i 6<|Å É 0;have Ai:=j.d.C;have D2:=j.d.I;have V:=fc v;let⟨uh,Ah⟩:=u5 B[k];have rv:=tM s Z;have tN:s.size<=10:=i.M;have h:=fc (show st.C=(s[0].toNat:Int)::(jZ s).tail by rw[<-i.I];exact wm s F);have z:st.d.r=Î:=by
  rcases i.N with q|q
  .exact q
  .rw[h.out]at q;injection q with q;omega
 have C:st.d.M=Î:=j.N (by rw[h.out,l];simp);have W:w.cell? ⟨b,3,Á⟩=Â (Ã<|g.Y st.d):=i.r.r 3 _ U;rw[J0 C]at W;let⟨Y,I,q⟩:=(i.C.r z).C C;have UB:w.cell? ⟨g.t,5,Á⟩=Â (Ä st.d.N.p):=q.r 5 _ (by have:=D1 st.d.N.c<|Ä st.d.N.p;rwa[I]at this);have UC:=q.C 5;have On:¬b=g.t:=λe=>ff.S q i.r A e.symm;have Om:¬g.t=b:=ff.S q i.r A;let⟨Oo,_⟩:=j.Y (by rw[h.out,l];simp);have yk:((s[0].toNat:Int)==82)=Ë:=by rw[l];rfl
 have Gy:((s[0].toNat:Int)==66)=Ë:=by rw[l];rfl
 have Gz:((s[0].toNat:Int)==84)=Ë:=by rw[l];rfl
 have J5:((s[0].toNat:Int)==80)=Î:=by rw[l];rfl
 clear Y I q;have J:=fc<|aro (B:=B) (k:=k) (st:={st with r:=0}) h.out l r;have UD:((B[k].toNat:Int) !=125)=Ë:=by rw[r];rfl
 obtain⟨n,L⟩:∃t:Nat,st.I=(t:Int):=⟨st.I.toNat,Z⟩;have o:=v.oG z C<|B.extract (k-n) k;have M:=o.1.abP z h.out;have D:=fc (Ê (show kS B k st (B[k].toNat:Int)=Â {({st with r:=0}:PS)with C:=(jZ s).tail,d:=st.d.oG (B.extract (k-n) k)} by rw[G.out,J.out,show({st with r:=0}:PS).I.toNat=n by show st.I.toNat=n;omega])<|Ê ((H.out.fe o.2).fe<|mN o.1 0<|Ä<|s.extract 1 s.size) M);rw[L]at Q S T Oo;clear r l i j o M L J G H V v;rcases E with⟨CY,ng⟩|CY;all_goals
  go_wp2_with (first|(go_at_call 94;refine(sH _ _).mono ?_;rintro e u ⟨rfl,x⟩;subst u))
  go_region
  all_goals
   go_wp2;exact⟨gk,⟨P,_,D.out.1,D.out.2.1.C (e8.fU (λ_=>False) _) λ_ _ x=>x.elim,_,_,_,D.out.2.2.fU⟩⟩
def arG{X:Ĉ->Í->Prop}(C:Fr b B (Å É k) y) (i:gS m b g O s st w) (j:jz B k st) (Q:B.size<=1200) (D:k<B.size) (v:(0<st.r/\jm (B[k].toNat:Int)=Ë)\/st.r<=0) (x:0<s.size) (l:((s[0]'x).toNat:Int)=80) (o:¬(B[k].toNat:Int)=125) (r:st.I=40) (_hK:∀y u,Fr b B (Å É<|(k:Int)+1) y/\sJ m b B k st w u->K y u) (E:∀y u,Fr b B (Å É k) y/\sK m b B k st w u->X y u): ß À qN (Exit.then K<|QQ X) y w:=by
 obtain⟨f,rfl⟩:=C;unfold pZ;conv=>arg 2;whnf
 have S:w.cell? ⟨b,0,Á⟩=Â (Ä s):=i.r.r 0 _ U;have T:w.cell? ⟨b,6,Á⟩=Â (Å É st.r):=i.r.r 6 _ U;have V:w.cell? ⟨b,7,Á⟩=Â (Å É st.I):=i.r.r 7 _ U;have W:=i.r.C 0;have Y:=i.r.C 6;have f7:=i.r.C 7;have d0:=j.M;have d1:=j.r;have e0:=j.C;have e1:=j.I;have F:=fc<|uZ (B:=B) (k:=k)<|uY v;have G:=i.Y 0 λh=>absurd h A;have H:=fc<|mN i 6<|Å É 0;have Ai:=j.d.C;have D2:=j.d.I;have I:=fc G;let⟨uh,Ah⟩:=u5 B[k];have rv:=tM s Z;have tN:s.size<=10:=i.M;have n:=fc (show st.C=(s[0].toNat:Int)::(jZ s).tail by rw[<-i.I];exact wm s x);have J:st.d.r=Î:=by
  rcases i.N with q|q
  .exact q
  .rw[n.out]at q;injection q with q;omega
 have q:st.d.M=Î:=j.N (by rw[n.out,l];simp);have L:w.cell? ⟨b,3,Á⟩=Â (Ã<|g.Y st.d):=i.r.r 3 _ U;rw[J0 q]at L;let⟨M,z,h⟩:=(i.C.r J).C q;have UB:w.cell? ⟨g.t,5,Á⟩=Â (Ä st.d.N.p):=h.r 5 _ (by have:=D1 st.d.N.c<|Ä st.d.N.p;rwa[z]at this);have UC:=h.C 5;have On:¬b=g.t:=λe=>ff.S h i.r A e.symm;have Om:¬g.t=b:=ff.S h i.r A;let⟨Oo,_⟩:=j.Y (by rw[n.out,l];simp);have yk:((s[0].toNat:Int)==82)=Ë:=by rw[l];rfl
 have Gy:((s[0].toNat:Int)==66)=Ë:=by rw[l];rfl
 have Gz:((s[0].toNat:Int)==84)=Ë:=by rw[l];rfl
 have J5:((s[0].toNat:Int)==80)=Î:=by rw[l];rfl
 clear M z h;have UD:((B[k].toNat:Int) !=125)=Î:=by rwa[bne_iff_ne]
 have N:=fc<|abO (B:=B) (k:=k) (st:={st with r:=0}) n.out l o<|È r;have abQ:(st.I==40)=Î:=by rw[r];rfl
 clear r o l i j;rcases v with⟨P,ng⟩|P;all_goals
  go_wp2_with (first|(go_at_call 94;refine(sH _ _).mono ?_;rintro e u ⟨rfl,hw⟩;subst u))
  exact E _ _ ⟨gk,⟨D,F.out.trans N.out,_,H.out,_,_,_,I.out⟩⟩
def arH{X:Ĉ->Í->Prop}(E:Fr b B (Å É k) y) (i:gS m b g O s st w) (j:jz B k st) (S:B.size<=1200) (F:k<B.size) (v:(0<st.r/\jm (B[k].toNat:Int)=Ë)\/st.r<=0) (x:0<s.size) (l:((s[0]'x).toNat:Int)=80) (o:¬(B[k].toNat:Int)=125) (r:¬st.I=40) (z:¬lC (B[k].toNat:Int)=0) (T:∀y u,Fr b B (Å É<|(k:Int)+1) y/\sJ m b B k st w u->K y u) (_hQ:∀y u,Fr b B (Å É k) y/\sK m b B k st w u->X y u): ß À qN (Exit.then K<|QQ X) y w:=by
 obtain⟨f,rfl⟩:=E;unfold pZ;conv=>arg 2;whnf
 have V:w.cell? ⟨b,0,Á⟩=Â (Ä s):=i.r.r 0 _ U;have W:w.cell? ⟨b,6,Á⟩=Â (Å É st.r):=i.r.r 6 _ U;have Y:w.cell? ⟨b,7,Á⟩=Â (Å É st.I):=i.r.r 7 _ U;have f0:=i.r.C 0;have f6:=i.r.C 6;have f7:=i.r.C 7;have d0:=j.M;have d1:=j.r;have e0:=j.C;have e1:=j.I;have G:=fc<|uZ (B:=B) (k:=k)<|uY v;have H:=i.Y 0 λh=>absurd h A;have I:=fc<|mN i 6<|Å É 0;have Ai:=j.d.C;have D2:=j.d.I;have C:=fc H;let⟨uh,Ah⟩:=u5 B[k];have rv:=tM s Z;have tN:s.size<=10:=i.M;have n:=fc (show st.C=(s[0].toNat:Int)::(jZ s).tail by rw[<-i.I];exact wm s x);have J:st.d.r=Î:=by
  rcases i.N with q|q
  .exact q
  .rw[n.out]at q;injection q with q;omega
 have q:st.d.M=Î:=j.N (by rw[n.out,l];simp);have L:w.cell? ⟨b,3,Á⟩=Â (Ã<|g.Y st.d):=i.r.r 3 _ U;rw[J0 q]at L;let⟨M,D,h⟩:=(i.C.r J).C q;have UB:w.cell? ⟨g.t,5,Á⟩=Â (Ä st.d.N.p):=h.r 5 _ (by have:=D1 st.d.N.c<|Ä st.d.N.p;rwa[D]at this);have UC:=h.C 5;have On:¬b=g.t:=λe=>ff.S h i.r A e.symm;have Om:¬g.t=b:=ff.S h i.r A;let⟨Oo,_⟩:=j.Y (by rw[n.out,l];simp);have yk:((s[0].toNat:Int)==82)=Ë:=by rw[l];rfl
 have Gy:((s[0].toNat:Int)==66)=Ë:=by rw[l];rfl
 have Gz:((s[0].toNat:Int)==84)=Ë:=by rw[l];rfl
 have J5:((s[0].toNat:Int)==80)=Î:=by rw[l];rfl
 clear M D h;have UD:((B[k].toNat:Int) !=125)=Î:=by rwa[bne_iff_ne]
 have N:=fc<|arp (B:=B) (k:=k) (st:={st with r:=0}) n.out l o r z;have abQ:(st.I==40)=Ë:=by rwa[beq_eq_false_iff_ne]
 have zo:((lC (B[k].toNat:Int):Int)==0)=Ë:=by rw[beq_eq_false_iff_ne];omega
 clear r o l i j z;rcases v with⟨P,ng⟩|P;all_goals
  go_wp2_with (first|(go_at_call 94;refine(sH _ _).mono ?_;rintro e u ⟨rfl,Q⟩;subst u)|(go_at_call 103;refine(qE _ _).mono ?_;rintro e u ⟨rfl,Q⟩;subst u))
  exact⟨gk,⟨F,_,G.out.trans N.out,I.out.fe<|mN C.out 7 _,_,_,_,C.out.abx _⟩⟩
def arI{X:Ĉ->Í->Prop}(D:Fr b B (Å É k) y) (i:gS m b g O s st w) (j:jz B k st) (T:B.size<=1200) (E:k<B.size) (v:(0<st.r/\jm (B[k].toNat:Int)=Ë)\/st.r<=0) (x:0<s.size) (l:((s[0]'x).toNat:Int)=80) (o:¬(B[k].toNat:Int)=125) (z:¬st.I=40) (r:lC (B[k].toNat:Int)=0) (_hK:∀y u,Fr b B (Å É<|(k:Int)+1) y/\sJ m b B k st w u->K y u) (F:∀y u,Fr b B (Å É k) y/\sK m b B k st w u->X y u): ß À qN (Exit.then K<|QQ X) y w:=by
 obtain⟨f,rfl⟩:=D;unfold pZ;conv=>arg 2;whnf
 have V:w.cell? ⟨b,0,Á⟩=Â (Ä s):=i.r.r 0 _ U;have W:w.cell? ⟨b,6,Á⟩=Â (Å É st.r):=i.r.r 6 _ U;have Y:w.cell? ⟨b,7,Á⟩=Â (Å É st.I):=i.r.r 7 _ U;have f0:=i.r.C 0;have f6:=i.r.C 6;have f7:=i.r.C 7;have d0:=j.M;have d1:=j.r;have e0:=j.C;have e1:=j.I;have G:=fc<|uZ (B:=B) (k:=k)<|uY v;have H:=i.Y 0 λh=>absurd h A;have I:=fc<|mN i 6<|Å É 0;have Ai:=j.d.C;have D2:=j.d.I;have J:=fc H;let⟨uh,Ah⟩:=u5 B[k];have rv:=tM s Z;have tN:s.size<=10:=i.M;have n:=fc (show st.C=(s[0].toNat:Int)::(jZ s).tail by rw[<-i.I];exact wm s x);have L:st.d.r=Î:=by
  rcases i.N with q|q
  .exact q
  .rw[n.out]at q;injection q with q;omega
 have q:st.d.M=Î:=j.N (by rw[n.out,l];simp);have M:w.cell? ⟨b,3,Á⟩=Â (Ã<|g.Y st.d):=i.r.r 3 _ U;rw[J0 q]at M;let⟨N,C,h⟩:=(i.C.r L).C q;have UB:w.cell? ⟨g.t,5,Á⟩=Â (Ä st.d.N.p):=h.r 5 _ (by have:=D1 st.d.N.c<|Ä st.d.N.p;rwa[C]at this);have UC:=h.C 5;have On:¬b=g.t:=λe=>ff.S h i.r A e.symm;have Om:¬g.t=b:=ff.S h i.r A;let⟨Oo,_⟩:=j.Y (by rw[n.out,l];simp);have yk:((s[0].toNat:Int)==82)=Ë:=by rw[l];rfl
 have Gy:((s[0].toNat:Int)==66)=Ë:=by rw[l];rfl
 have Gz:((s[0].toNat:Int)==84)=Ë:=by rw[l];rfl
 have J5:((s[0].toNat:Int)==80)=Î:=by rw[l];rfl
 clear N C h;have UD:((B[k].toNat:Int) !=125)=Î:=by rwa[bne_iff_ne]
 have P:=fc<|abO (B:=B) (k:=k) (st:={st with r:=0}) n.out l o<|Ï r;have abQ:(st.I==40)=Ë:=by rwa[beq_eq_false_iff_ne]
 have zo:((lC (B[k].toNat:Int):Int)==0)=Î:=by rw[r];rfl
 clear z o l i j r;rcases v with⟨Q,ng⟩|Q;all_goals
  go_wp2_with (first|(go_at_call 94;refine(sH _ _).mono ?_;rintro e u ⟨rfl,S⟩;subst u)|(go_at_call 103;refine(qE _ _).mono ?_;rintro e u ⟨rfl,S⟩;subst u))
  exact F _ _ ⟨gk,⟨E,G.out.trans P.out,_,I.out,_,_,_,J.out⟩⟩
end
section
variable{g:Gh}{s:ByteArray}{st:PS}{d:PD}
def arJ{X:Ĉ->Í->Prop}(D:Fr b B (Å É k) y) (f:gS m b g O s st w) (i:jz B k st) (Q:B.size<=1200) (E:k<B.size) (v:(0<st.r/\jm (B[k].toNat:Int)=Ë)\/st.r<=0) (j:0<s.size) (n:¬((s[0]'j).toNat:Int)=82) (o:¬((s[0]'j).toNat:Int)=66) (p:¬((s[0]'j).toNat:Int)=84) (r:¬((s[0]'j).toNat:Int)=80) (x:pb ((s[0]'j).toNat:Int) (B[k].toNat:Int)=Î) (S:∀y u,Fr b B (Å É<|(k:Int)+1) y/\sJ m b B k st w u->K y u) (_hQ:∀y u,Fr b B (Å É k) y/\sK m b B k st w u->X y u): ß À qN (Exit.then K<|QQ X) y w:=by
 obtain⟨c,rfl⟩:=D;unfold pZ;conv=>arg 2;whnf
 have T:w.cell? ⟨b,0,Á⟩=Â (Ä s):=f.r.r 0 _ U;have V:w.cell? ⟨b,6,Á⟩=Â (Å É st.r):=f.r.r 6 _ U;have W:w.cell? ⟨b,7,Á⟩=Â (Å É st.I):=f.r.r 7 _ U;have Y:=f.r.C 0;have f6:=f.r.C 6;have f7:=f.r.C 7;have d0:=i.M;have d1:=i.r;have e0:=i.C;have e1:=i.I;have F:=fc<|uZ (B:=B) (k:=k)<|uY v;have G:=f.Y 0 λh=>absurd h A;have H:=fc<|mN f 6<|Å É 0;have Ai:=i.d.C;let⟨I,J⟩:=u5 B[k];have rv:=tM s Z;have tN:s.size<=10:=f.M;have l:=fc (show st.C=(s[0].toNat:Int)::(jZ s).tail by rw[<-f.I];exact wm s j);have z:st.d.r=Î:=by
  rcases f.N with q|q
  .exact q
  .rw[l.out]at q;injection q with q;omega
 have yk:((s[0].toNat:Int)==82)=Ë:=by rwa[beq_eq_false_iff_ne]
 have arK:((s[0].toNat:Int)==66)=Ë:=by rwa[beq_eq_false_iff_ne]
 have Gz:((s[0].toNat:Int)==84)=Ë:=by rwa[beq_eq_false_iff_ne]
 have J5:((s[0].toNat:Int)==80)=Ë:=by rwa[beq_eq_false_iff_ne]
 have L:=fc<|arq (B:=B) (k:=k) (st:={st with r:=0}) l.out n o p r x;have M:=fc x;clear n o p r f i;rcases v with⟨N,ng⟩|N;all_goals
  go_wp2_with (first|(go_at_call 94;refine(sH _ _).mono ?_;rintro e u ⟨rfl,h⟩;subst u)|(go_at_call 104;refine(abr _ _ I J _).mono ?_;rintro e u ⟨rfl,h⟩;subst u)|(go_at_call 100;refine(M8 G U z _ _ M.out).mono ?_;rintro e P ⟨rfl,C,g',nm',q,h⟩;have k0:P.cell? ⟨b,0,Á⟩=Â (Ä q):=h.r.r 0 _ U;have kf0:=h.r.C 0;have ui:0<q.size:=h.arv l.out;have avl:q.size<=10:=h.M;have t:=fc<|Ê C h;clear C h))
  exact⟨gk,⟨E,_,F.out.trans L.out,H.out.fe<|t.out.1.fe<|mN t.out.2 0 _,_,_,_,t.out.2.abP ((Uv _ _ _).1.trans z) l.out⟩⟩
def arL{X:Ĉ->Í->Prop}(t:Fr b B (Å É k) y) (f:gS m b g O s st w) (i:jz B k st) (L:B.size<=1200) (v:k<B.size) (r:(0<st.r/\jm (B[k].toNat:Int)=Ë)\/st.r<=0) (j:0<s.size) (l:¬((s[0]'j).toNat:Int)=82) (n:¬((s[0]'j).toNat:Int)=66) (o:¬((s[0]'j).toNat:Int)=84) (p:¬((s[0]'j).toNat:Int)=80) (x:pb ((s[0]'j).toNat:Int) (B[k].toNat:Int)=Ë) (_hK:∀y u,Fr b B (Å É<|(k:Int)+1) y/\sJ m b B k st w u->K y u) (z:∀y u,Fr b B (Å É k) y/\sK m b B k st w u->X y u): ß À qN (Exit.then K<|QQ X) y w:=by
 obtain⟨c,rfl⟩:=t;unfold pZ;conv=>arg 2;whnf
 have M:w.cell? ⟨b,0,Á⟩=Â (Ä s):=f.r.r 0 _ U;have N:w.cell? ⟨b,6,Á⟩=Â (Å É st.r):=f.r.r 6 _ U;have P:w.cell? ⟨b,7,Á⟩=Â (Å É st.I):=f.r.r 7 _ U;have Q:=f.r.C 0;have S:=f.r.C 6;have T:=f.r.C 7;have V:=i.M;have W:=i.r;have Y:=i.C;have e1:=i.I;have C:=fc<|uZ (B:=B) (k:=k)<|uY r;have D:=f.Y 0 λh=>absurd h A;have E:=fc<|mN f 6<|Å É 0;have Ai:=i.d.C;have D2:=i.d.I;have F:=fc D;let⟨G,H⟩:=u5 B[k];have rv:=tM s Z;have tN:s.size<=10:=f.M;have h:=fc (show st.C=(s[0].toNat:Int)::(jZ s).tail by rw[<-f.I];exact wm s j);have on:st.d.r=Î:=by
  rcases f.N with q|q
  .exact q
  .rw[h.out]at q;injection q with q;omega
 have yk:((s[0].toNat:Int)==82)=Ë:=by rwa[beq_eq_false_iff_ne]
 have arK:((s[0].toNat:Int)==66)=Ë:=by rwa[beq_eq_false_iff_ne]
 have Gz:((s[0].toNat:Int)==84)=Ë:=by rwa[beq_eq_false_iff_ne]
 have J5:((s[0].toNat:Int)==80)=Ë:=by rwa[beq_eq_false_iff_ne]
 have q:=fc<|ars (B:=B) (k:=k) (st:={st with r:=0}) h.out l n o p x;clear l n o p f i;rcases r with⟨I,ng⟩|I;all_goals
  go_wp2_with (first|(go_at_call 94;refine(sH _ _).mono ?_;rintro e u ⟨rfl,J⟩;subst u)|(go_at_call 104;refine(abr _ _ G H _).mono ?_;rintro e u ⟨rfl,J⟩;subst u))
  exact z _ _ ⟨gk,⟨v,C.out.trans q.out,_,E.out,_,_,_,F.out⟩⟩
end
section
variable{g:Gh}{st:PS}{d:PD}
theorem arM{X:Ĉ->Í->Prop}{c:ByteArray}(d:Fr b c (Å É k) y) (e:gS m b g O B st w) (f:jz c k st) (h:c.size<=1200) (i:k<c.size) (j:∀y v,Fr b c (Å É<|(k:Int)+1) y/\sJ m b c k st w v->K y v) (l:∀y v,Fr b c (Å É k) y/\sK m b c k st w v->X y v): ß À qN (Exit.then K<|QQ X) y w:=by
 by_cases u:0<st.r/\jm (c[k].toNat:Int)=Î
 .grind [arz]
 have n:(0<st.r/\jm (c[k].toNat:Int)=Ë)\/st.r<=0:=by grind
 by_cases x:B.size=0
 .grind [arA]
 have o:0<B.size:=Z
 by_cases q:(B[0].toNat:Int)=82
 .grind [arB]
 by_cases p:(B[0].toNat:Int)=66
 .cases r:sF (c[k].toNat:Int)with
  |true=>exact arC d e f h i n o p r j l
  |false=>exact arD d e f h i n o p r j l
 by_cases r:(B[0].toNat:Int)=84
 .grind [arE]
 by_cases s:(B[0].toNat:Int)=80
 .grind [arF,arG,arI,arH]
 cases t:pb (B[0].toNat:Int) (c[k].toNat:Int)with
 |true=>exact arJ d e f h i n o q p r s t j l
 |false=>exact arL d e f h i n o q p r s t j l
def arN{X:Ĉ->Í->Prop}(c:Fr b B (Å É k) y)(_hB:B.size<=1200)(e:¬k<B.size)(_hk:k<=B.size) (d:∀y v,Fr b B (Å É k) y/\v=w->X y v): ß À qN (Exit.then K<|QQ X) y w:=by
 obtain⟨u,rfl⟩:=c;unfold pZ;conv=>arg 2;whnf
 go_wp2;exact d _ _ ⟨gk,U⟩
def lD(B:ByteArray):Nat×PS:=jT B B.size 0 nQ
def RI(m b:Nat)(c:ByteArray)(w:Í)(a:Ĉ)(d:Í):Prop:=
 ∃(k:Nat) (g:Gh) (O:Option ü) (B:ByteArray) (st:PS),k<=c.size/\Fr b c (Å É k) a/\gS m b g O B st d/\e8 (λi=>m<=i) w d/\jz c k st/\lD c=jT c (c.size-k) k st
def Rmu(B:ByteArray)(a:Ĉ)(_:Í):Nat:=B.size-(intOf<|a.tmps.getD 5 ĸ).toNat
def RX(m b:Nat)(B:ByteArray)(w:Í)(a:Ĉ)(d:Í):Prop:=
 ∃(k:Nat) (c:PS),k<=B.size/\Fr b B (Å É k) a/\sI m b c w d/\(lD B).1=k/\(k=B.size->(lD B).2=c)
def abR{w:Í}(h:Fr b B (Å É c) y):Rmu B y w=B.size-c.toNat:=by obtain⟨u,rfl⟩:=h;rfl
def arO{a:PS}(b:k<B.size)(c:kS B k st (B[k].toNat:Int)=Â a):jT B (B.size-k) k st=jT B (B.size-(k+1)) (k+1) a:=by rw[show B.size-k=(B.size-(k+1))+1 by omega,jT,dif_pos b,c]
def arP(a:k<B.size)(b:kS B k st (B[k].toNat:Int)=Á):jT B (B.size-k) k st=(k,st):=by rw[show B.size-k=(B.size-(k+1))+1 by omega,jT,dif_pos a,b]
def arQ{c:ByteArray}(f:Fr b c (Å É 0) y)(h:gS m b g O B nQ w)(q:c.size<=1200): ß À (ń qN) (QQ<|RX m b c w) y w:=by
 apply Γ (RI m b c w) (Rmu c) ⟨0,g,O,B,nQ,Ø _,f,h,e8.fW _ _,Uy c,U⟩;rintro y u ⟨k,g,O,B,st,l,f,r,n,s,o⟩;by_cases i:k<c.size
 .refine arM f r s q i ?_ ?_
  .rintro t v ⟨d,x,e,j,p,z,C,D,E⟩;refine⟨⟨k+1,z,C,D,e,Z,by simpa using d,E,n.fe p,abI s i j,o.trans<|arO i j⟩,?_⟩;rw[abR d,abR (w:=u) f];omega
  .rintro t v ⟨d,x,j,z,p,C⟩;have:=o.trans<|arP i j;exact⟨k,z,l,d,⟨n.fe p,C⟩,by rw[this],λe=>by omega⟩
 .apply arN f q i l;rintro t v ⟨d,rfl⟩;have:lD c=(k,st):=by rw[o,show c.size-k=0 by omega];rfl
  exact⟨k,st,l,d,⟨n,g,O,B,r⟩,by rw[this],λ_=>by rw[this]⟩
def arR{c:ByteArray}(h:gS m b g O B nQ w)(f:c.size<=1200): Ò À 61 #[Ã<|Â ⟨b,0,Á⟩,Ä c] w λe u=>
  ∃(k:Nat) (d:PS),k<=c.size/\e=Æ (Å É k)/\sI m b d w u/\(lD c).1=k/\(k=c.size->(lD c).2=d):=by
 go_enter Tryz.func61,Tryz.ntmps61;go_wp2;go_step3;go_wp2;go_step3;go_wp2;refine İ ?_ (arQ gk h f);rintro(_|(_|_)|_|_|_|_) a v hq;all_goals first|exact absurd hq id|skip
 let⟨k,d,i,j,l⟩:=hq;obtain⟨e,rfl⟩:=j;unfold pZ;go_wp2;(try rw[Exit.noGoto_ret]);go_ret;exact⟨k,d,i,U,(fc l).out⟩
end
def lR(B:ByteArray):Int×Bool×List PR:=
 if B.size=0 then(0,Î,[])else(((lD B).1:Int),decide ((lD B).1=B.size)&&(decide ((lD B).2.C=[])||decide ((lD B).2.C=[66])),(lD B).2.d.C)
def gM(B:ByteArray):Int×Int×List PR:=
 if 1200<B.size then(1,0,[])else if(lR B).2.1=Î then(0,0,(lR B).2.2)else(2,(lR B).1,[])
def D3(m:Nat)(v:Ñ)(b:List PR)(w:Í):Prop:=jG m w/\∃a,w.ownsRow m 148 1 v a.length (nR a)/\pX w.heap.size a b w
section
variable{g:Gh}{s:ByteArray}{st:PS}
def D3.po(w:Í):D3 w.heap.size (Ç Á 0 0) [] w:=⟨jG.I w,[],⟨U,È ⟨U,U⟩⟩,pX.N _ _⟩
def gS.iO(h:gS m b g O s st w)(a:st.d.r=Ë->st.d.S=[])(n:Nat):D3 m g.N st.d.C (w.drewN n):= ⟨h.a.iR n,g.C st.d,ij h.C.C (e8.iR (λ_=>False) w n) λ_ _=>id,(h.C.abB a).C (e8.iR (λ_=>False) w n) λ_ _ x=>x.elim⟩
def g0(m:Nat):Gh:={a:=[],q:=0,t:=0,B:=m,tb:=[],N:=Ç Á 0 0,r:=Ç Á 0 0,b:=Á}
def arS(w:Í):gS w.heap.size w.heap.size (g0 w.heap.size) Á ⟨#[82]⟩ nQ (w.alloc<|Û #[Ä ⟨#[82]⟩,Ç Á 0 0,Ã Á,Ã Á,Ã Á,Ã Á,Å É 0,Å É 0] 153):= ⟨æ _,(jG.I w).gG _ _ A A (λv e=>by simp at e;rcases e with rfl|rfl|rfl|rfl<;>trivial),ff.N w [Ä ⟨#[82]⟩,Ç Á 0 0,Ã Á,Ã Á,Ã Á,Ã Á,Å É 0,Å É 0] 153,A,A,⟨⟨U,È ⟨U,U⟩⟩,pX.N _ _,(λe=>by cases e),λ_=>rfl⟩,(λq=>by cases q),Ï rfl⟩
def arT(s:ByteArray):jZ s=[66]↔s.toList=[66]:=by
 unfold jZ;rw[ByteArray.toList_eq];constructor
 .intro h;match hl:s.data.toList with
  |[]=>rw[hl]at h;simp at h
  |[x]=>
   rw[hl]at h;simp only[ŉ,Ő,List.cons.injEq,and_true]at h;have:x=66:=UInt8.toNat_inj.1 (by have:x.toNat=66:=Z;rw[this];rfl);rw[this]
  |x::y::r=>rw[hl]at h;simp at h
 .intro h;rw[h];rfl
def UE(a:¬B.size=0):(lR B).1=((lD B).1:Int):=by rw[lR,if_neg a]
def abS(a:¬B.size=0):(lR B).2.2=(lD B).2.d.C:=by rw[lR,if_neg a]
def arU(a:¬B.size=0)(h:¬(lD B).1=B.size):(lR B).2.1=Ë:=by rw[lR,if_neg a];simp[h]
def abT(a:¬B.size=0)(h:(lD B).1=B.size){x:Bool}(b:x=(decide ((lD B).2.C=[])||decide ((lD B).2.C=[66]))):(lR B).2.1=x:=by rw[lR,if_neg a,b];simp[h]
def arV(B:ByteArray):(lD B).2.d.r=Ë->(lD B).2.d.S=[]:=λe=>((Uz B.size 0 nQ (Uy B)<|Ø _).1.d.N e).1
theorem abU(q:B.size<=1200): Ò À 45 #[Ä B] w λe u=>
  e8 (λ_=>False) w u/\∃v,e=Æ (ë #[v,Å É (lR B).1,õ (lR B).2.1])/\((lR B).2.1=Î->D3 w.heap.size v (lR B).2.2 u):=by
 by_cases a:B.size=0
 .have f:=UA B a;have n:=fc (show lR B=(0,Î,[])from if_pos a);go_enter ε,Ν;go_wp2;apply ÿ (v:=ë #[Ç Á 0 0,Å É 0,õ Î]) (by simp[Ń,Ģ,go_sem]) U;exact⟨e8.fW _ _,_,by rw[n.out],λ_=>by rw[n.out];exact D3.po w⟩
 .have f:=tM B a;have b:=fc a;go_enter ε,Ν;go_wp2_with (go_at_call 61;refine(arR (arS w) q).mono ?_;rintro e r ⟨k,d,i,rfl,⟨n,g,O,s,c⟩,h,t⟩);have l:e8 (λ_=>False) w r:=((e8.gG (λi=>w.heap.size<=i) w _ _).fe n).S λi D x=>by omega
  have E:=c.r.r 0 _ U;have F:=c.r.r 1 _ U;by_cases m:k=B.size
  .subst m;have y:=t U;subst y;have o:=fc c.I;have p:=fc λn=>c.iO (arV B) n;have n:=fc h;have d:=fc l;have z:((B.size:Int)==(B.size:Int))=Î:=fi
   by_cases a:s.size=0
   .have f:=UA s a;have j:=fc (abT b.out n.out (x:=Î)<|by rw[<-o.out,abp s a];rfl);go_quiet (fail);go_wp2;apply ÿ (v:=ë #[g.N,Å É B.size,õ Î]) (by simp[Ń,Ģ,go_sem]) U;exact⟨d.out.fe<|e8.iR _ _ _,_,by rw[UE b.out,n.out,j.out],λ_=>by rw[abS b.out];exact p.out _⟩
   .have f:=tM s a;have j:=fc (abT b.out n.out (x:=(s.toList==[66])) (by
     rw[<-o.out];have C:¬jZ s=[]:=λe=>by have:=Uj s;grind
     rw[decide_eq_false C,Bool.false_or,ė,beq_iff_eq,decide_eq_true_iff,arT]))
    go_quiet (fail)
    go_wp2;apply ÿ (v:=ë #[g.N,Å É B.size,õ<|s.toList==[66]]) (by simp[Ń,Ģ,go_sem]) U;exact⟨d.out.fe<|e8.iR _ _ _,_,by rw[UE b.out,n.out,j.out],λ_=>by rw[abS b.out];exact p.out _⟩
  .have z:((k:Int)==(B.size:Int))=Ë:=by rw[beq_eq_false_iff_ne];omega
   have n:=fc (Ê h<|arU b.out<|by rwa[h]);have d:=fc l;go_quiet (fail);go_wp2;apply ÿ (v:=ë #[g.N,Å É k,õ Ë]) (by simp[Ń,Ģ,go_sem]) U;exact⟨d.out.fe<|e8.iR _ _ _,_,by rw[UE b.out,n.out.1,n.out.2],λe=>by rw[n.out.2]at e;cases e⟩
def arW(h:B.size<=ī): Ò À 36 #[Ä B] w λe u=>
  e8 (λ_=>False) w u/\∃v,e=Æ (ë #[v,Å É (gM B).1,Å É (gM B).2.1])/\((gM B).1=0->D3 w.heap.size v (gM B).2.2 u)/\((gM B).1≠0->v=Ç Á 0 0):=by
 unfold ī at h;by_cases b:1200<B.size
 .have a:=fc (show gM B=(1,0,[]) by rw[gM,if_pos b]);go_enter ļ,Ř;go_wp2;apply ÿ (v:=ë #[Ç Á 0 0,Å É 1,Å É 0]) (by simp[Ń,Ľ,go_sem]) U;exact⟨e8.fW _ _,_,by rw[a.out],(λe=>by rw[a.out]at e;cases e),λ_=>rfl⟩
 .have f:B.size<=1200:=Z
  cases c:(lR B).2.1 with
  |true=>
   have a:=fc (show gM B=(0,0,(lR B).2.2) by rw[gM,if_neg b,if_pos c]);go_enter ļ,Ř;go_wp2_with (go_at_call 45;refine(abU f).mono ?_;rintro e i ⟨d,v,rfl,g⟩);apply ÿ (v:=ë #[v,Å É 0,Å É 0]) (by simp[Ń,Ľ,go_sem]) U;exact⟨d,_,by rw[a.out],(λ_=>by rw[a.out];exact g c),λe=>by rw[a.out]at e;exact absurd U e⟩
  |false=>
   have a:=fc (show gM B=(2,(lR B).1,[]) by rw[gM,if_neg b,if_neg (by rw[c];exact Bool.false_ne_true)]);go_enter ļ,Ř;go_wp2_with (go_at_call 45;refine(abU f).mono ?_;rintro e i ⟨d,v,rfl,g⟩);apply ÿ (v:=ë #[Ç Á 0 0,Å É 2,Å É (lR B).1]) (by simp[Ń,Ľ,go_sem]) U;exact⟨d,_,by rw[a.out],(λe=>by rw[a.out]at e;cases e),λ_=>rfl⟩
end
end Go.Proofs.Y.ni
namespace Go.Proofs.Y.kI
open Go Go.Conc Go.Proofs Go.RowKit Go.Proofs.Y.Lift Go.Proofs.Y.gA Go.Proofs.Y.fq Go.Proofs.Y.ni
structure J6(a:Nat)(t:PT)(w:Í):Prop where
 r:∃cs fz,w.heap[a]?=Â (Û cs 200 fz)
 c:∀i,i<5->w.cell? ⟨a,i,Á⟩=Â (Å É<|t.c.getD i 0)
 p:w.cell? ⟨a,5,Á⟩=Â (Ä t.p)
structure yl(r:Nat)(p:PR)(w:Í):Prop where
 c:∀i,i<8->w.cell? ⟨r,i,Á⟩=Â (Å É<|p.c.getD i 0)
 b:∃bp n cp,w.cell? ⟨r,8,Á⟩=Â (Ç bp n cp)/\n=p.r.length/\∀(j:Nat) (t:PT),p.r[j]?=Â t->∃tb a,bp=Â ⟨tb,0,Á⟩/\w.cell? ⟨tb,j,Á⟩=Â (Ã<|Â ⟨a,0,Á⟩)/\J6 a t w
structure RQ(rs:List PR)(v:Ñ)(U:Nat->Prop)(w:Í):Prop where
 C:kJ nB U w
 I:fh (lq U nB) v v
 M:∃bp cp,v=Ç bp rs.length cp/\∀(j:Nat) (p:PR),rs[j]?=Â p->∃sb r,bp=Â ⟨sb,0,Á⟩/\w.cell? ⟨sb,j,Á⟩=Â (Ã<|Â ⟨r,0,Á⟩)/\yl r p w
section
variable{f:Nat->Prop}{rs:List PR}{Y:fl}
theorem arX(h:jj Y X u w){t:PT}(d:Y i n)(k:J6 i t u):J6 n t w:=by refine⟨?_,λb f=>(Af h).r d<|k.c b f,(Af h).C d k.p⟩;let⟨c,g,e,j,l,m,o,_⟩:=h.r i n d;let⟨r,s,q⟩:=k.r;grind
theorem arY(h:jj Y X u w){r:Nat}{p:PR}(e:Y r i)(k:yl r p u):yl i p w:=by refine⟨λd f=>(Af h).r e<|k.c d f,?_⟩;let⟨G,n,g,l,m,o⟩:=k.b;let⟨x,q,s⟩:=Af h r i 8 _ e l;obtain⟨v,rfl,y⟩:=N0 s;refine⟨v,n,g,q,m,λj t z=> ?_⟩;let⟨tb,a,B,C,H⟩:=o j t z;let⟨I,J,D⟩:=y _ B;obtain⟨E,rfl,F⟩:=Ac D;let⟨K,L,M⟩:=Af h tb E j _ F C;grind [NZ,Ac,arX]
theorem arZ(h:jj Y X u w)(b:fh Y v x)(a:RQ rs v f u):RQ rs x (λj=>∃i,f i/\Y i j) w:=by refine⟨Ue h a.C,N4 b a.I,?_⟩;obtain⟨s,i,rfl,c⟩:=a.M;obtain⟨d,rfl,e⟩:=N0 b;refine⟨d,i,U,λj p g=> ?_⟩;let⟨k,r,l,m,t⟩:=c j p g;let⟨y,z,n⟩:=e _ l;obtain⟨o,rfl,q⟩:=Ac n;let⟨B,C,D⟩:=Af h k o j _ q m;grind [NZ,Ac,arY]
def D4(k:W.heap[b]?=w.heap[b]?)(h:w.cell? ⟨b,i,Á⟩=Â z):W.cell? ⟨b,i,Á⟩=Â z:=by simp only[à,k];exact h
def ar0(l:kJ nB X w)(k:∀b,X b->W.heap[b]?=w.heap[b]?){r:Nat}{p:PR}(d:X r)(h:yl r p w):yl r p W:=by
 refine⟨λi e=>D4 (k r d)<|h.c i e,?_⟩;let⟨u,n,v,m,x,y⟩:=h.b;refine⟨u,n,v,D4 (k r d) m,x,λj t z=> ?_⟩;let⟨tb,a,o,q,f⟩:=y j t z;have s:X tb:=by have:=l.r d m;rw[o]at this;exact DU this
 have g:=DR<|l.r s q;exact⟨tb,a,o,D4 (k tb s) q,⟨by rw[k a g];exact f.r,λi e=>D4 (k a g)<|f.c i e,D4 (k a g) f.p⟩⟩
def RQ.r(h:RQ rs v f w)(k:∀b,f b->W.heap[b]?=w.heap[b]?):RQ rs v f W:=by
 refine⟨h.C.C k,h.I,?_⟩;obtain⟨g,i,rfl,l⟩:=h.M;refine⟨g,i,U,λj p m=> ?_⟩;let⟨a,r,c,d,n⟩:=l j p m;have e:f a:=by have:=h.I;rw[c]at this;exact DU this
 exact⟨a,r,c,D4 (k a e) d,ar0 h.C k (DR<|h.C.r e d) n⟩
def abV{v:Ñ}(h:nk m i v):fh (lq (λd=>m<=d/\d<i) nB) v v:=by
 cases v with
 |int k n=>exact .iE k n
 |bool b=>exact .mD b
 |string i=>exact .kK i
 |pointer a=>cases a with
  |none=>exact .lT
  |some a=>exact fh.j2 (Y:=lq (λd=>m<=d/\d<i) nB) ⟨⟨U,h⟩,U,U⟩
 |slice a n c=>cases a with
  |none=>exact .nS n c
  |some a=>exact fh.kV (Y:=lq (λd=>m<=d/\d<i) nB) ⟨⟨U,h⟩,U,U⟩ n c
 |_=>exact absurd h<|by simp[nk]
def ar1{v:Ñ}(h:nk m i v):yu v=Ë:=by
 cases v with
 |int k n=>cases k<;>first|rfl|exact absurd h<|by simp[nk]
 |_=>rfl
def ar2(h:jG m w):kJ nB (λi=>m<=i/\i<w.heap.size) w:=λb i=>by let⟨c,e,f,g,j,k,l,n,d⟩:=h b _ i.1<|å i.2;exact⟨c,e,f,by rw[å i.2,g],j,pR λv a=>abV<|d v a,k,Ae λv a=>ar1<|d v a,l,n⟩
theorem M7{base:Nat}(h:w.ownsRow base e 1 v jJ.length (nR jJ)):∃b f,v=Ç b jJ.length f/\∀(j r:Nat),jJ[j]?=Â r->∃a,b=Â ⟨a,0,Á⟩/\base<=a/\w.cell? ⟨a,j,Á⟩=Â (Ã<|Â ⟨r,0,Á⟩):=by
 obtain⟨m,⟨n,o⟩|⟨g,p,q,rfl,i,k,s,t,u,l⟩⟩:=h
 .grind
 .refine⟨_,_,U,λj r c=>⟨g,U,i,?_⟩⟩;have x:=(Õ.1 c).1;have d:(nR jJ)[j]?=Â (Ã<|Â ⟨r,0,Á⟩):=by simp[nR,c]
  rw[<-l,List.getElem?_take_of_lt Z]at d;simp only[à,k,ö,ì,if_false];simpa using d
def abW(h:ff n (oH zQ++[z]) T w)(a:i<zQ.length):w.cell? ⟨n,i,Á⟩=Â (Å É<|zQ.getD i 0):=h.r i _<|Up a z
def abX(h:ff i (oH zQ++[z]) T w)(a:zQ.length=n):w.cell? ⟨i,n,Á⟩=Â z:=h.r n _<|by rw[<-a];exact D1 zQ z
def ar3{r:PR}(h:wo i n r w):yl n r w:=by
 let⟨x,tb,e,l,y,b⟩:=h.I;refine⟨λa c=>abW e (by rwa[h.C]),?_⟩;obtain⟨m,o,rfl,p⟩:=M7 l;refine⟨m,_,o,abX e h.C,b.r,λj t f=> ?_⟩;have g:j<tb.length:=by rw[b.r];exact(Õ.1 f).1
 let⟨s,u,z,v⟩:=p j tb[j]<|Ó g;let⟨_,_,k,d⟩:=b.I j tb[j] t (Ó g) f;exact⟨s,tb[j],u,v,⟨_,_,d⟩,λa c=>abW d (by rwa[k]),abX d k⟩
def ar4(h:D3 m v rs w):RQ rs v (λi=>m<=i/\i<w.heap.size) w:=by
 let⟨f,i,b,c⟩:=h;obtain⟨d,k,rfl,l⟩:=M7 b;refine⟨ar2 f,?_,d,k,by rw[c.I],λj p e=> ?_⟩
 .cases d with
  |none=>exact .nS _ _
  |some a=>
   have:=b.lt a.block (by rcases b.2 with⟨q,_⟩|⟨g,n,o,q,_⟩<;>(cases q;try rfl));exact abV this
 .have a:j<i.length:=by rw[c.I];exact(Õ.1 e).1
  let⟨g,q,o,n⟩:=l j i[j]<|Ó a;exact⟨g,i[j],q,n,ar3<|c.M j i[j] p (Ó a) e⟩
end
def abY(B:ByteArray)(z:Ñ)(u:Í):Prop:=∃v,z=ë #[v,Å É (gM B).1,Å É (gM B).2.1]/\((gM B).1=0->∃a,RQ (gM B).2.2 v a u)
def ar5(B:ByteArray):wW (abY B):=λv u T D h=>by let⟨x,a,b⟩:=h;refine⟨x,a,λe=> ?_⟩;let⟨U,c⟩:=b e;exact⟨U,c.r λ_ _=>rfl⟩
def abZ{l:e9}(f:gy l)(s:¬l.q)(t:nB<=l.w.heap.size)(u:B.size<=ī)(m:Bool)(h:Ě)(k:List Ě): fq.fg À m (λa n=>jC l a/\a.d=l.d/\∃v,n=G (h.finish<|ë #[v,Å É (gM B).1,Å É (gM B).2.1]) k/\((gM B).1=0->∃V,RQ (gM B).2.2 v V a.w/\∀b,V b->a.O b/\l.w.heap.size<=b)) l (G (è À 36 #[Ä B] Ą)<|h::k):=by
 let⟨X,c,C,V⟩:=zE 36 fN;have D:∀T,Ò À 36 #[Ä B] (World.tp (ln (λj=>False/\¬(mh l).O j) l.w) T 0) fun|Æ v,j=>abY B v j/\kq j|_,_=>False:=λT=>by refine(arW u).mono ?_;rintro e p ⟨g,v,rfl,i,o⟩;exact⟨⟨v,U,λe=>⟨_,ar4<|i e⟩⟩,g.gV Gm⟩
 refine((FG yw M1 zE (ar5 B) fN C V (FH f) s (λb q=>q.elim) ⟨λb q=>q.elim,t⟩ (λg q=>by cases q) (pR λv g=>by simp at g;subst g;exact .kK B) D m h k).mh f).fO ?_;rintro a n ⟨x',⟨Y,j,v,v',_,E,F,⟨v0,rfl,o⟩,H,I,_,J⟩,rfl,K,L,_,_⟩;cases F with
 |@nT _ cs'' hs mH=>
  let⟨M⟩:=cs'';match M,hs with
  |[x,y,z],_=>
   have g:=mH 0 fi fi;have p:=mH 1 fi fi;have r:=mH 2 fi fi;simp at g p r;cases p;cases r;refine⟨K,J,x,H,λe=> ?_⟩;let⟨U,N⟩:=o e;refine⟨_,arZ E g (N.r λ_ _=>rfl),λb V=> ?_⟩;let⟨i,_,P⟩:=V;let⟨Q,S⟩:=I i b P;have W:l.w.heap.size<=b:=S.elim (λq=>q.elim) λq=>q.elim (λq=>q.elim) id;refine⟨È (Q.resolve_right λq=> ?_),W⟩;rw[L]at q;have:=f.fv b q;omega
end Go.Proofs.Y.kI
namespace Go.Proofs.Y.gA
open Go Go.Proofs Go.RowKit Go.Proofs.Y.Lift
def D5:List Ñ:=iy (kl 8)++[Ç Á 0 0,Å É 0,Ç Á 0 0]
def ar6(w:Í):Ò À 44 #[] w λe a=>∃c B,e=Æ (Ç (Â ⟨c,0,Á⟩) 1 1)/\ff B D5 147 a/\ff c [Ã<|Â ⟨B,0,Á⟩] 136 a/\e8 (λ_=>False) w a:=by
 have d:(iy<|kl 8).length=144:=sw _;have i:(iy (kl 8)++[Ç Á 0 0]).length=145:=by rw[Ù,d];rfl
 have f:=fc<|Ê d i;unfold D5;have j:=fc λW=>aof W;generalize kl 8=s at*;go_enter Tryz.func44,Tryz.ntmps44;go_wp2_with (first
  |(go_at_call 60;refine(j.out _).mono ?_;rintro e W ⟨rfl,b⟩;have k:=fc b;clear b)
  |(with_reducible refine Ď U (Â 2) U _ _ (Tw U U f.out.1) ?_)
  |(with_reducible refine Ď U (Â 3) U _ _ (aox U U f.out.2) ?_)
  |(with_reducible refine Ď U (Â 4) U _ _ (aac U U) ?_))
 have g:=ff.N (W.alloc<|Û (iy s++[Ç Á 0 0,Å É 0,Ç Á 0 0]).toArray 147) [Ã<|Â ⟨W.heap.size,0,Á⟩] 136;have h:=e8.gG (λ_=>False) (W.alloc<|Û (iy s++[Ç Á 0 0,Å É 0,Ç Á 0 0]).toArray 147) #[Ã<|Â ⟨W.heap.size,0,Á⟩] 136;have l:(W.alloc<|Û (iy s++[Ç Á 0 0,Å É 0,Ç Á 0 0]).toArray 147).heap.size=W.heap.size+1:=fi
 rw[l]at g;have b:=fc (Ê ((ff.N W (iy s++[Ç Á 0 0,Å É 0,Ç Á 0 0]) 147).I h id)<|Ê g<|(k.out.fe<|e8.gG (λ_=>False) W (iy s++[Ç Á 0 0,Å É 0,Ç Á 0 0]).toArray 147).fe h);go_ret;exact⟨W.heap.size+1,W.heap.size,U,b.out.1,b.out.2.1,b.out.2.2⟩
def ar7(n:Int)(j:1<=n)(k:n<=8)(w:Í):Ò À 35 #[Å É n] w λe b=>∃g a B,e=Æ (ë #[Ã<|Â ⟨g,0,Á⟩,Å É 0])/\ff g [Å É n,Ç (Â ⟨a,0,Á⟩) 1 1] 68 b/\ff B D5 147 b/\ff a [Ã<|Â ⟨B,0,Á⟩] 136 b/\e8 (λ_=>False) w b:=by go_enter ζ,Tryz.ntmps35;go_wp2_with (go_at_call 44;refine(ar6 _).mono ?_;rintro e c ⟨a,B,rfl,f,h,i⟩;have d:=fc<|Ê f<|Ê h i;clear f h i);go_ret2;have f:=e8.gG (λ_=>False) c #[Å É n,Ç (Â ⟨a,0,Á⟩) 1 1] 68;exact⟨c.heap.size,a,B,U,ff.N c [Å É n,Ç (Â ⟨a,0,Á⟩) 1 1] 68,d.out.1.I f id,d.out.2.1.I f id,d.out.2.2.fe f⟩
end Go.Proofs.Y.gA
namespace Go.Proofs.Y.kI
open Go Go.Conc Go.Proofs Go.RowKit Go.Proofs.Y.Lift Go.Proofs.Y.gA Go.Proofs.Y.fq Go.Proofs.Y.ni
section
variable{Y:fl}{a:Nat->Prop}
def ab0:∀v∈D5,(∃k n,v=Å k n/\k≠ū)\/(∃p,v=Ä p)\/v=Ç Á 0 0:=λv k=>by
 unfold D5 at k;rcases â.1 k with q|q
 .rcases Ud _ v q with⟨n,rfl⟩|⟨p,rfl⟩
  .exact È ⟨_,_,U,A⟩
  .exact Ï<|È ⟨p,U⟩
 .simp at q;rcases q with rfl|rfl|rfl
  .exact Ï<|Ï U
  .exact È ⟨_,_,U,A⟩
  .exact Ï<|Ï U
def ab1:lF [gA.jy]:=⟨A,A,λv b=>by simp at b;subst b;exact⟨⟨(λp a=>by cases a),(λp a=>by cases a),Ø _,Ø _⟩,aaB,Ť _,show(0:Int)<1 by decide⟩⟩
def ar8(d:gA.ff n D5 147 w)(f:gA.ff i [Ã<|Â ⟨n,0,Á⟩] 136 w):RD [gA.jy] (Ç (Â ⟨i,0,Á⟩) 1 1) (λk=>k=i\/k=n) w:=by
 refine⟨[(n,gA.jy)],U,ab1,⟨_,1,1,U,æ _,⟨U,λj b v e=> ?_⟩⟩,?_,fh.kV (Y:=lq (λk=>k=i\/k=n) nB) ⟨⟨U,È U⟩,U,U⟩ 1 1⟩
 .cases j with
  |zero=>
   cases e;exact⟨_,0,U,f.r 0 _ U,(aoy aaB<|by rwa[ő])⟩
  |succ j=>simp at e
 .rintro b (rfl|rfl)
  .refine⟨_,_,_,f,fi,pR λv c=> ?_,fi,Ae λv c=> ?_,A,A⟩
   .simp at c;subst c;exact fh.j2 (Y:=lq (λk=>k=b\/k=n) nB) ⟨⟨U,Ï U⟩,U,U⟩
   .simp at c;subst c;rfl
  .refine⟨_,_,_,d,fi,pR λv c=> ?_,by simp[D5],Ae λv c=> ?_,A,A⟩
   .rcases ab0 v (by simpa using c)with⟨k,a,rfl,_⟩|⟨p,rfl⟩|rfl
    .exact .iE k a
    .exact .kK p
    .exact .nS 0 0
   .rcases ab0 v (by simpa using c)with⟨k,a,rfl,g⟩|⟨p,rfl⟩|rfl
    .cases k<;>first|rfl|exact absurd U g
    .rfl
    .rfl
def GA(b:Nat)(n:Int)(c:Ñ)(w:Í):Prop:=∃a,w.heap[b]?=Â (Û #[Å É n,c] 68 a)/\a=(0,0)
def GA.r(h:GA i c v w)(k:W.heap[i]?=w.heap[i]?):GA i c v W:=by let⟨a,b,d⟩:=h;exact⟨a,k.trans b,d⟩
def ar9(h:jj Y a u w)(g:∀b,¬a b)(q:Y i j)(k:gA.ff i [Å É c,v] 68 u):∃l,fh Y v l/\GA j c l w:=by
 let⟨d,r,e,D,s,m,t,z,_,B,_⟩:=h.r i j q;unfold gA.ff at k;rw[k]at m;cases m;have f:=z.N<|g j;let⟨C⟩:=r;match C,f.r with
 |[x,y],_=>
  have o:=f.C 0 fi fi;have p:=f.C 1 fi fi;simp at o p;cases o;exact⟨y,p,s,t,(B<|g j).symm⟩
end
def ab2(n:Int)(z:Ñ)(u:Í):Prop:=∃a b B,z=ë #[Ã<|Â ⟨a,0,Á⟩,Å É 0]/\gA.ff a [Å É n,Ç (Â ⟨b,0,Á⟩) 1 1] 68 u/\RD [gA.jy] (Ç (Â ⟨b,0,Á⟩) 1 1) (λi=>i=b\/i=B) u/\a≠b/\a≠B
def asa(n:Int):wW (ab2 n):=λv u T D h=>by let⟨b,c,B,d,e,a⟩:=h;exact⟨b,c,B,d,e,a.1.r λ_ _=>rfl,a.2⟩
def asb{l:e9}(p:gy l)(K:¬l.q)(L:nB<=l.w.heap.size){n:Int}(M:1<=n)(N:n<=8)(C:Bool)(r:Ě)(s:List Ě): fq.fg À C (λf D=>jC l f/\f.d=l.d/\∃a e,D=G (r.finish<|ë #[Ã<|Â ⟨a,0,Á⟩,Å É 0]) s/\GA a n e f.w/\f.O a/\l.w.heap.size<=a/\∃V,RD [gA.jy] e V f.w/\¬V a/\∀b,V b->f.O b/\l.w.heap.size<=b) l (G (è À 35 #[Å É n] Ą)<|r::s):=by
 let⟨fn,c,P,t⟩:=zE 35 fN;have Q:∀T,Ò À 35 #[Å É n] (World.tp (ln (λj=>False/\¬(mh l).O j) l.w) T 0) fun|Æ v,h=>ab2 n v h/\kq h|_,_=>False:=λT=>by refine(ar7 n M N _).mono ?_;rintro e z ⟨a,k,B,rfl,V,m,o,g⟩;exact⟨⟨a,k,B,U,V,ar8 m o,gA.ff.S V o A,gA.ff.S V m A⟩,g.gV Gm⟩
 refine((FG yw M1 zE (asa n) fN P t (FH p) K (λb q=>q.elim) ⟨λb q=>q.elim,L⟩ (λg q=>by cases q) (pR λv e=>by simp at e;subst e;exact .iE _ _) Q C r s).mh p).fO ?_;rintro f D ⟨u,⟨Y,h,v,v',_,g,S,⟨a,k,B,rfl,V,m,o,W⟩,X,q7,_,q6⟩,rfl,ha,hR,_,_⟩;have E:∀i j,Y i j->(rf l u).O j/\l.w.heap.size<=j:=λi j e=>by let⟨z,F⟩:=q7 i j e;have H:l.w.heap.size<=j:=F.elim (λq=>q.elim) λq=>q.elim (λq=>q.elim) id;refine⟨È (z.resolve_right λq=> ?_),H⟩;rw[hR]at q;have:=p.fv j q;omega
 cases S with
 |@nT _ cs'' hs mH=>
  let⟨ls⟩:=cs'';match ls,hs with
  |[x,y],_=>
   have F:=mH 0 fi fi;have H:=mH 1 fi fi;simp at F H;cases H;obtain⟨a2,rfl,m3⟩:=NZ F;obtain⟨I,rfl,z⟩:=Ac m3;have h2':RD [gA.jy] (Ç (Â ⟨k,0,Á⟩) 1 1) (λi=>i=k\/i=B) {h with tape:=u.w.tape,drawn:=u.w.drawn}:=m.r λ_ _=>rfl;let⟨tB,J,e2⟩:=ar9 g (λj q=>q.1) z V;let⟨vs,k1,k2,k3,k4,k5⟩:=h2';let⟨vs',n1,n2⟩:=JR (Af g) J k3;let⟨p1,p2⟩:=E a I z;refine⟨ha,q6,I,tB,X,e2,p1,p2,_,⟨vs',n1.trans k1,k2,n2,Ue g k4,N4 J k5⟩,?_,λb t=> ?_⟩
   .rintro⟨i,hi,e⟩;have:=g.C.2.1 _ _ _ z e;subst this;exact hi.elim o W
   .let⟨i,_,e⟩:=t;exact E i b e
end Go.Proofs.Y.kI
namespace Go.Proofs.Y.kI
open Go Go.Conc Go.Proofs Go.RowKit Go.Proofs.Y.Lift Go.Proofs.Y.gA Go.Proofs.Y.fq Go.Proofs.Y.ni
structure u7(an:Nat)(xs:List ByteArray)(w:Í):Prop where
 r:∀(p:Nat) (x:ByteArray),xs[p]?=Â x->w.cell? ⟨an,p,Á⟩=Â (Ä x)
 C:w.cell? ⟨an,xs.length,Á⟩=Á
section
variable{an:Nat}{xs:List ByteArray}
theorem u7.rM(h:u7 an xs w)(j:0<xs.length):∃c e d,w.heap[an]?=Â (Û c e d)/\c.size=xs.length/\∀v∈c.toList,∃x,v=Ä x:=by
 have i:∀p,p<xs.length->w.cell? ⟨an,p,Á⟩=Â (Ä xs[p]!):=λp a=>h.r p _ (by simp[a]);have b:=i 0 j;have f:=h.C;simp only[à]at b f;cases g:w.heap[an]? with
 |none=>rw[g]at b;cases b
 |some o=>
  cases o<;>rw[g]at b f<;>simp only[ö,ì,if_false]at b f<;>first|cases b|skip
  rename_i c e d;have k:c.size<=xs.length:=by grind
  have l:=λp a=>by have:=i p a;simp only[à,g,ö,ì,if_false]at this;exact this
  have m:xs.length<=c.size:=by grind
  refine⟨c,e,d,U,Nat.le_antisymm k m,λv n=> ?_⟩;let⟨p,a⟩:=Ĕ n;have q:p<c.size:=by have:=(Õ.1 a).1;simpa using this
  have:=l p Z;rw[ķ]at a;rw[this]at a;cases a;exact⟨_,U⟩
end
def asc{l:e9}(o:gy l)(F:¬l.q)(H:nB<=l.w.heap.size)(h:u7 i vX l.w)(I:0<vX.length)(J:l.M i)(p:lB i=Ë)(f:kX l.w i=Â (0,0))(hn:vX.length<=1000)(K:B.size=1)(L:iM vX+vX.length<=140737488355328)(r:Bool)(k:Ě)(m:List Ě): fq.fg À r (λn s=>jC l n/\n.d=l.d/\s=G (k.finish<|Ä<|jd B vX) m) l (G (è À 38 #[Ç (Â ⟨i,0,Á⟩) vX.length vX.length,Ä B] Ą)<|k::m):=by
 let⟨fn,c,N,P⟩:=zE 38 fN;let⟨t,e,Q,y,b2,z⟩:=h.rM I;have C:(λj=>j=i/\¬(mh l).O j)=λj=>j=i:=by funext j;exact propext ⟨λq=>q.1,λq=>⟨q,id⟩⟩
 have S:∀T,Ò À 38 #[Ç (Â ⟨i,0,Á⟩) vX.length vX.length,Ä B] (World.tp (ln (λj=>j=i) l.w) T 0) fun|Æ v,E=>v=Ä (jd B vX)/\kq E|_,_=>False:=λT=>by
  refine(T9 U Z (æ _) K (λj v a=> ?_) L).mono ?_
  .unfold ju at a;rw[Ī]at a;obtain⟨x,b,rfl⟩:=ò.1 a;exact⟨i,0,U,by rw[œ];exact pT (È p)<|h.r j x b⟩
  .rintro e g ⟨rfl,b⟩;exact⟨U,b.gV Gm⟩
 have V:∀v∈t.toList,fh (qy (λj=>j=i) À.globals.size) v v:=λv a=>by obtain⟨x,rfl⟩:=z v a;exact .kK x
 have X:fT (qy (λj=>j=i) À.globals.size) #[Ç (Â ⟨i,0,Á⟩) vX.length vX.length,Ä B] #[Ç (Â ⟨i,0,Á⟩) vX.length vX.length,Ä B]:=pR λv a=>by
  have b:v=Ç (Â ⟨i,0,Á⟩) vX.length vX.length\/v=Ä B:=by simpa using a
  rcases b with rfl|rfl
  .exact fh.kV (Y:=qy (λj=>j=i) À.globals.size) ⟨⟨U,U⟩,U,U⟩ _ _
  .exact .kK B
 have W:=FG yw M1 zE (λv u T D h=>h) fN N P (FH o) F (λb q=>Ï<|by rwa[q]) (by rw[C];refine⟨λb q=> ?_,H⟩;subst q;exact⟨t,e,Q,y,(by unfold kX at f;rw[y]at f;cases f;exact Ø _),pR V,λ_=>⟨Z,(λq=>by rw[p]at q;cases q),λ_=>Ae λv a=>by obtain⟨x,rfl⟩:=z v a;rfl⟩⟩) (λg q=>by cases q) X (by rwa[C]) r k m;refine(W.mh o).fO ?_;rintro n s ⟨D,⟨Y,E,v,v',_,_,b,rfl,g,_,_,u⟩,rfl,x,_,_,_⟩;cases b;exact⟨x,u,g⟩
end Go.Proofs.Y.kI
namespace Go.Proofs.Y.fq
open Go Go.Conc Go.Proofs.Y.Lift
open Go.ConcN (sumTo sumTo_congr)
def UF(P:ω)(a:Ñ->Í->Prop):Jd:=λl g=>g.status=.running/\∃v,(∀w,stepG P Î g w=.ended (.done v) w)/\a v l.w
section
variable{Y:Nat->Prop}{e:Nat->e9}
def kG.nk{J:Jd}{T:gw}(c:kG P Y zX i J T D e E w qJ){sl:Option (Nat×Nat)}(k:vQ v u):Ξ P vQ (Į E w sl) (.done v) u qJ:=by
 have C:=c.r.r;have f:∀a g,E[a]?=Â g->a≠0->QuitsD P (D a) (Deaf qJ a) g:=λa g b d=>by
  let⟨g0,j,h,_,_⟩:=c.r.C a g b;obtain rfl:g=g0:=by cases h;rfl
  simp only[d,if_false]at j;rw[C.f a<|(á.1 b).1];exact j _<|fF.fW _ _
 refine⟨v,U,k,C.l,c.N,⟨λg l=> ?_,U⟩,λa g b d=>⟨D a,(f a g b d).hears _⟩⟩;let⟨j,h⟩:=Ĕ l;rw[List.getElem?_drop]at h;exact⟨_,(f (1+j) g (by rwa[<-ķ]) Z).leaves⟩
theorem ase{J:Jd}{T:gw}{l:e9}(u:l.w=W)(v:l.d=0)(m:¬l.q)(n:∀b,¬l.I b)(r:∀a,¬l.r a)(o:∀a,¬l.N a)(y:∀a,¬l.K a)(z:∀b,l.O b->b<W.heap.size)(B:g.status=.running)(C:lj P Î J T l g):sj P (λ_=>False) 0 J T (λ_=>0) (λ_=>l) #[g] W #[]:=by
 have f:∀(p:Nat) a,touchAt #[] p=Â a->False:=λp a h=>by unfold touchAt Trace.act? at h;simp at h
 refine⟨fi,⟨⟨λi j s D E=> ?_,λi j s D E=> ?_,λi _ b _=>n b,λi _ a _=>o a,λ_ _ _ _=>id,λi _ a e=>e.elim (λq=>absurd q<|r a) λq=>absurd q<|o a,λi _ b F=>F.elim (z b) λq=>absurd q<|n b,λ_ h=>h.elim,λi _=>by rw[u];exact fF.fW _ _,λi _=>⟨λa e p x k=>(f p x k).elim,λa e=>(n _ e).elim,λa e=>(r a e).elim,λa e=>(o a e).elim⟩,λi _=>by rw[v];rfl,λH q=> ?_,λI G=>by simp at G,λp a c h=>(f p a h).elim,λi _ a e=>absurd e<|y a⟩,λi x k=> ?_,λj _=>rfl⟩,λi L s=> ?_,m,λp a h=>(f p a h).elim,λp a x h=>(f p a h).elim,λa _ q m=> ?_,?_⟩
 .grind
 .grind
 .let⟨i,j,_,⟨a,b,e,_⟩,_⟩:=q;simp[Trace.act?]at e
 .have t:i<1:=(á.1 k).1;obtain rfl:i=0:=Z
  obtain rfl:g=x:=by simpa using k
  exact⟨g,C,.gl,È B,È U⟩
 .grind
 .simp[Trace.act?]at m
 .intro i g t;simp[Trace.g?]at t
end
end Go.Proofs.Y.fq
namespace Go.Proofs.Y.kI
open Go Go.Conc Go.Proofs Go.RowKit Go.Proofs.Y.Lift Go.Proofs.Y.gA Go.Proofs.Y.fq Go.Proofs.Y.ni
open Go.ConcN (sumTo)
def Aj(f:Ñ->Í->Prop)(c:Array Ċ)(w:Í)(d:Option (Nat×Nat))(t:Ž):Prop:=
 ∃N a v b e,ſ À (N+1) (Į c w d) t=(.ended (.done v) b,e)/\runN À N (Į c w d)=.next a/\step À a=.ended (.done v) b/\Ξ À f a (.done v) b e
section
variable{gs gs':Array Ċ}{w':Í}{sl e:Option (Nat×Nat)}{t:Ž}{l:e9}
def Aj.fO{a:Ñ->Í->Prop}(h:Aj vQ gs w sl t)(b:∀v u,vQ v u->a v u):Aj a gs w sl t:=by let⟨M,c,v,x,d,e,f,g,i⟩:=h;exact⟨M,c,v,x,d,e,f,g,i.mono λv q=>b v x q⟩
def Aj.rf{N:Nat}(r:ſ À N (Į gs w sl) t=(.next<|Į gs' w' e,qJ))(h:Aj vQ gs' w' e qJ):Aj vQ gs w sl t:=by
 let⟨M,a,v,x,b,c,d,f,g⟩:=h;refine⟨N+M,a,v,x,b,?_,?_,f,g⟩
 .rwa[Nat.add_assoc,runNT_add,r]
 .rw[<-Ţ À (N+M) (Į gs w sl) t,runNT_add,r];rwa[Ţ]
def sL(vQ:Ñ->Í->Prop)(gs:Array Ċ)(w:Í)(sl:Option (Nat×Nat))(t:Ž):Prop:=Aj (λv u=>vQ v u/\u.os=w.os/\u.output=w.output) gs w sl t
def sL.r{N:Nat}(r:ſ À N (Į gs w sl) t=(.next<|Į gs' w' e,qJ))(a:w'.os=w.os/\w'.output=w.output)(h:sL vQ gs' w' e qJ):sL vQ gs w sl t:= Aj.rf r<|h.fO λ_ _ q=>⟨q.1,q.2.1.trans a.1,q.2.2.trans a.2⟩
def kG.asf{Y:Nat->Prop}:∀(s:Nat) (f:Nat->Nat) (h:Nat->e9) (gs:Array Ċ) (w:Í) (sl:Option (Nat×Nat)) (t:Ž),sumTo gs.size f=s->kG À Y zX n (UF À vQ) .fy f h gs w t->sL vQ gs w sl t:=by
 intro s
 induction s using Nat.strongRecOn with
 |_ s q=>
  intro f h gs w sl t F c;have G:=c.C;obtain⟨g0,a⟩:∃g,gs[0]?=Â g:=⟨_,å Z⟩;have m:∀d,UF À vQ {h 0 with w:=w.at d} g0:=λd=>by
   let⟨u,b,j,_,_⟩:=(c.I d).r.C 0 g0 a;obtain rfl:g0=u:=by cases j;rfl
   exact b (w.at d)<|(c.I d).r.r.r 0 Z
  obtain⟨i,g,d,e,k,r,l⟩:=crowd_pick c.LJ ⟨0,g0,a,(m 0).1⟩;by_cases o:i=0
  .subst o;rw[a]at k;obtain rfl:=ag k;let⟨_,v,p,x⟩:=m d;have u:stepT À (Į gs w sl)=(.ended (.done v)<|w.at d,#[]):=by
    rw[l,ConcN.runT_crowd_ended a<|p<|w.at d];rfl
   refine⟨0,Į gs w sl,v,w.at d,t,?_,U,?_,c.nk ⟨x,U,U⟩⟩
   .simp[ſ,u]
   .have:=stepT_fst À (Į gs w sl) Î;rw[<-this];rw[u]
  .let⟨p,x,gs',u,b,j,I,J,y⟩:=(c.I d).Z1 (sl:=e) k o r;let⟨N,z,v,w',qJ,B,C,D,E⟩:=q (sumTo gs'.size p) (by rw[j];omega) p x gs' (w.at d) e (t++u) U y;refine⟨N+1,z,v,w',qJ,by simp only[ſ,l,b];exact B,?_,D,E⟩;have:=Ţ À (N+1) (Į gs w sl) t;rw[<-this];simp only[ſ,l,b];rwa[Ţ]
structure gN(l:e9):Prop where
 fR:gy l
 d:l.d=0
 q:¬l.q
 rd:∀b,¬l.I b
 r:∀a,¬l.r a
 C:∀a,¬l.N a
 k:∀a,¬l.K a
def gN.fM(h:gN l){w₁:Í}(r:fF l l.w w₁):gN {l with w:=w₁}:= ⟨⟨h.fR.Y,h.fR.S,h.fR.I,λb q=>Ġ (h.fR.fv b q) r.r,λa q=>q.elim (λz=>(h.r a z).elim) λz=>(h.C a z).elim,λa q=>(h.k a q).elim⟩,h.d,h.q,h.rd,h.r,h.C,h.k⟩
def iN(vQ:Ñ->Í->Prop)(l:e9)(g:Ċ):Prop:=
 gN l->g.status=.running->∀(a:Loc->Prop) (H:Nat) (J:Jd) (c:Nat->Nat) (b:Nat->e9) (gs:Array Ċ) (sl:Option (Nat×Nat)) (t:Ž),vV a H l->fq.sj À a H J .fy c b gs l.w t->(b 0).d=0->gs[0]?=Â g->sL vQ gs l.w sl t
def asg{a:e9}(h:vV zX i l)(k:ru l a l.w a.w):vV zX i a:= ⟨h.r,λb c x d q=>by
  rcases k.N b c with z|z
  .exact h.fj b z x d q
  .have:=h.r x q;have:=h.C;omega,Ì h.C k.r⟩
def UG{J f:Jd}{e:Nat->e9}(a:gN l)(h:g.status=.running)(j:vV zX i l)(c:fq.sj À zX i J .fy D e gs l.w t)(m:(e 0).d=0)(n:gs[0]?=Â g)(W:fq.fg À Î f l g):∃T,fq.sj À zX i f T D (fq.vq e l) gs l.w t:=by let⟨T,o⟩:=jo W;exact⟨T,kG.Y c m n h U a.d a.q a.rd a.r a.C a.k (λb q=>⟨a.fR.fv b<|È q,j.fj b q⟩) o⟩
def ab3{Y:Nat->Prop}{J:Jd}{a:Nat->e9}(c:kG À Y zX i J .fy D a gs w t):∃g,gs[0]?=Â g/\J {a 0 with w:=w} g:=by
 obtain⟨g0,b⟩:∃g,gs[0]?=Â g:=⟨_,å c.C⟩;let⟨d,e,f,_,_⟩:=c.r.C 0 g0 b;obtain rfl:g0=d:=by cases f;rfl
 exact⟨g0,b,e w<|c.r.r.r 0 c.C⟩
def J7(vQ:Ñ->Í->Prop):Jd:=λl g=>gN l/\g.status=.running/\iN vQ l g
def ash{b:Nat->e9}{T:gw}(j:(b 0).w=w)(m:vV zX i (b 0))(c:fq.sj À zX i (J7 vQ) T D b gs w t):sL vQ gs w sl t:=by let⟨N,n,o,gs',w',e,qJ,r,_,a,f⟩:=kG.G (λl g h=>È h.2.1) T _ D b gs w sl t U c;let⟨u,p,h,q,s⟩:=ab3 f;refine sL.r r ⟨a.C,a.I⟩<|s h q zX i (J7 vQ) n o gs' e qJ ?_ f h.d p;apply asg m;rw[j];exact⟨a.r,a.N,a.rd,a.S,a.b,a.k,a.jV,a.M,a.Y,a.C,a.I,a.c⟩
def mC(W:fq.fg À Î (J7 vQ) l g):iN vQ l g:=by intro b d i H J j k gs sl t a c e f;let⟨T,h⟩:=UG b d a c e f W;exact ash (by rw[fq.Sx]) (by rwa[fq.Sx]) h
def ab4(W:fq.fg À Î (UF À vQ) l g):iN vQ l g:=by intro b d q H J f s gs sl t i c j k;let⟨T,m⟩:=UG b d i c j k W;let⟨N,n,o,gs',w',e,qJ,r,_,a,p⟩:=kG.G (λl g h=>È h.1) T _ f _ gs l.w sl t U m;exact sL.r r ⟨a.C,a.I⟩<|kG.asf _ n o gs' w' e qJ U p
def Ag.N{e:wh}{R:Nat}{kd:Nat->Int}{f:List fH}{c:e9}(h:Ag X e R kd f l i v c)(r:fF c c.w u):Ag X e R kd f l i v {c with w:=u}:=by have a:=λb q=>r.I b<|È q;let⟨V,j,g⟩:=h.S;exact⟨λb q=>⟨(h.M b q).1,(a b (h.M b q).1).trans (h.M b q).2⟩,⟨h.r.1,λp k=>(gO<|a i h.r.1).trans<|h.r.2 p k⟩,⟨V,j.r λb q=>a b (g b q).1,g⟩,h.d,h.q,h.rd,h.C,(gO<|a i h.r.1).trans h.I.1,(wZ<|a i h.r.1).trans h.I.2⟩
def asi{kd:Nat->Int}{V:wh}{Y h:Nat->Prop}{s0:List fH}{B:Option ü}{E:Option ü}{R:Nat}{z:Array ĝ} (IV:0<R->E=Â ⟨j7,0,Á⟩) (C0:0<R->l.M j7) (IW:∀i,i<R->l.w.cell? ⟨j7,i,Á⟩=Â (Ã<|Â ⟨D i,0,Á⟩)) (IX:∀i,i<R->l.w.cell? ⟨D i,4,Á⟩=Â (Å É<|kd i)) (F:JY l V kd D R X) (hZ:(∀b,X b->h b)/\∀b,b=1\/b=2\/b=3\/b=4->h b) (hZO:∀b,h b->l.O b) (hVZ:∀b,Y b->h b) (Dd:RD s0 (Ç B j j9) Y l.w) (hn:1<=n) (hs:n+R<1000) (hJ:∀o v p m c,gN o->Ag h V R kd s0 l v (Ç p m c) o->iN vQ o (G (f.at (y.put ((z[i]?).bind (·.dst))<|ë #[Ç (Â ⟨v,0,Á⟩) R R,Ç p m c])<|Ð z jJ::L) qX)): iN vQ l (Fz (Ç B j j9) (Ç E R j6) n<|f.at y (Ð z (i::jJ)::L)::qX):=by
 intro s hr jq H J lv lot gs sl t N7 c hd I;have W:fq.fg À Î (MN kd D R n (Ç B j j9) l<|f.at y (Ð z (i::jJ)::L)::qX) l (Fz (Ç B j j9) (Ç E R j6) n<|f.at y (Ð z (i::jJ)::L)::qX):= ajT s.fR s.q s.d Z IV C0 IW (λi I=>È<|F.fj _<|F.r i I) IX λg K o u x C v P S T bw bf v1 h1 h2=>⟨g,K,u,x,C,v,P,S,T,bw,bf,v1,h1,h2,U⟩;let⟨T,c'⟩:=UG s hr N7 c hd I W;let⟨N,jE,Ja,gs',w',e,qJ,r,_,x,c''⟩:=kG.G (λlx gx K=>by obtain⟨_,_,_,_,_,_,_,_,_,_,_,_,_,_,rfl⟩:=K;exact È U) T _ lv _ gs l.w sl t U c';apply sL.r r ⟨x.C,x.I⟩;let⟨N2,asj,P,T2,MO,SF,gs2,w2,MP,t2,r2,io2,c2⟩:=aqu (J:=λu P o C=>vV u P o/\J7 vQ o C) U c'' e s.fR s.rd s.q s.d N7 F hZ hZO hVZ Dd ⟨x.C,x.I⟩ hn hs λFE H' o v p m c S z2 u=> .fy λw₁ C=>by have ll:gN o:=⟨z2,u.d,u.q,u.rd,u.C.1,u.C.2.1,u.C.2.2⟩;exact⟨⟨S.r,S.fj,Ì S.C C.r⟩,ll.fM C,U,hJ _ v p m c (ll.fM C)<|u.N C⟩
 apply sL.r r2 ⟨io2.1.trans x.C.symm,io2.2.trans x.I.symm⟩;let⟨N3,Nh,asl,gs3,w3,sl3,t3,r3,_,wn3,c3⟩:=kG.G (λlx gx K=>È K.2.2.1) T2 _ MO SF gs2 w2 MP t2 U c2;apply sL.r r3 ⟨wn3.C,wn3.I⟩;let⟨g3,UH,p8,K,hr3,hs3⟩:=ab3 c3;exact hs3 K hr3 asj P _ Nh asl gs3 sl3 t3 p8 c3 K.d UH
end
end Go.Proofs.Y.kI
namespace Go.Proofs.Y.kI
open Go Go.Conc Go.Proofs Go.RowKit Go.Proofs.Y.Lift Go.Proofs.Y.gA Go.Proofs.Y.fq Go.Proofs.Y.ni
open Go.Conc.Lib Go.ConcR.Gen Go.Proofs.YtgpphkdoanciiaaGreatDoor
def toTx(t:PT):Tx:=⟨(t.c.getD 0 0).toNat,(t.c.getD 1 0).toNat,t.c.getD 2 0,t.c.getD 3 0,t.c.getD 4 0,t.p⟩
def toQn(r:PR):Qn:=⟨(r.c.getD 0 0).toNat,(r.c.getD 1 0).toNat,(r.c.getD 2 0).toNat,(r.c.getD 3 0).toNat,r.c.getD 4 0,r.c.getD 5 0,r.c.getD 6 0,(r.c.getD 7 0).toNat⟩
def pe:PR:=⟨[],[]⟩
def wx(a:List PR):wh where
 r:=λp=>((a.getD p pe).c.getD 5 0,((a.getD p pe).c.getD 0 0).toNat,(a.getD p pe).r.map toTx)
 C:=λp=>toQn<|a.getD p pe
def kT(a:List PR)(p:Nat):Int:=(a.getD p pe).c.getD 4 0
section
variable{p:PR}{t:PT}{a:Nat}{rs:List PR}{l:e9}
def toTx_ok(h:om t):(toTx t).Ok:=by have d:=h.c.r 0 A;have e:=h.c.r 1 A;have a:=h.c.r 2 A;have b:=h.c.r 3 A;simp only[lQ]at d e a b;exact⟨by show(t.c.getD 0 0).toNat<8;omega,by show(t.c.getD 1 0).toNat<8;omega,a.1,a.2,b.1,b.2,h.p⟩
theorem Ak(a:0<=c)(h:w.cell? ⟨b,i,Á⟩=Â (Å É c)):w.cell? ⟨b,i,Á⟩=Â (Å É (c.toNat:Nat)):=by grind
def asn(h:om t)(k:J6 a t w):ma a (toTx t) w:=by have b:=h.c.r 0 A;have d:=h.c.r 1 A;simp only[lQ]at b d;exact⟨k.r,Ak b.1<|k.c 0 A,Ak d.1<|k.c 1 A,k.c 2 A,k.c 3 A,k.c 4 A,k.p⟩
theorem aso(h:uX p)(k:yl i p w):DV i (p.c.getD 5 0) (p.c.getD 0 0).toNat (p.r.map toTx) w:=by
 have e:=h.c.r 0 A;simp only[lQ]at e;let⟨f,n,g,l,m,o⟩:=k.b;let⟨r,s,u⟩:=wI (R:=λj t (y:Nat×Tx)=>y.2=toTx t/\∃d,f=Â ⟨d,0,Á⟩/\w.cell? ⟨d,j,Á⟩=Â (Ã<|Â ⟨y.1,0,Á⟩)/\J6 y.1 t w) p.r 0 λj t v=>by let⟨d,a,y,q,x⟩:=o j t v;simp_all
 refine⟨f,n,g,r,⟨Ak e.1<|k.c 0 A,k.c 5 A,l⟩,⟨by rw[m,s],λj a t q=> ?_⟩,?_,by have:=h.n;omega⟩
 .let⟨x,z,y,d,D,B,C⟩:=u j (a,t) q;simp only at y B C;subst y;have E:=h.C x<|ç z;grind [asn,toTx_ok]
 .refine Ŕ λj=> ?_;unfold lO;grind
def asq(h:uX p)(k:yl i p w):JV i (toQn p) w:=by have a:=h.c.r 0 A;have b:=h.c.r 1 A;have d:=h.c.r 2 A;have e:=h.c.r 3 A;have f:=h.c.r 7 A;simp only[lQ]at a b d e f;exact⟨Ak a.1<|k.c 0 A,Ak b.1<|k.c 1 A,Ak d.1<|k.c 2 A,Ak e.1<|k.c 3 A,k.c 4 A,k.c 5 A,k.c 6 A,Ak f.1<|k.c 7 A⟩
def ab5(h:uX p)(k:p.c.getD 4 0≠1):(toQn p).Ok:=by
 have d:=h.c.r 0 A;have e:=h.c.r 1 A;have f:=h.c.r 2 A;have g:=h.c.r 3 A;have i:=h.c.r 4 A;have a:=h.c.r 5 A;have b:=h.c.r 6 A;have j:=h.c.r 7 A;simp only[lQ]at d e f g i a b j;refine⟨?_,?_,?_,?_,?_,?_,a.1,b.1,?_⟩
 .show(p.c.getD 0 0).toNat<8;omega
 .show(p.c.getD 1 0).toNat<8;omega
 .show(p.c.getD 2 0).toNat<1000000;omega
 .show(p.c.getD 3 0).toNat<18446744073709551616;omega
 .show 2<=p.c.getD 4 0;omega
 .show p.c.getD 4 0<=9;omega
 .show(p.c.getD 7 0).toNat<16;omega
theorem asr(h:RQ rs v X l.w)(k:∀i∈rs,uX i)(B:mM l.w)(C:∀b,b=1\/b=2\/b=3\/b=4->l.O b)(m:∀b,X b->l.O b): ∃d e f g,v=Ç d rs.length e/\(0<rs.length->d=Â ⟨f,0,Á⟩)/\(0<rs.length->l.O f)/\(∀a,a<rs.length->l.w.cell? ⟨f,a,Á⟩=Â (Ã<|Â ⟨g a,0,Á⟩))/\(∀a,a<rs.length->l.w.cell? ⟨g a,4,Á⟩=Â (Å É<|kT rs a))/\JY l (wx rs) (kT rs) g rs.length X:=by
 obtain⟨o,D,rfl,E⟩:=h.M;have p:∀a,a<rs.length->rs[a]?=Â (rs.getD a pe):=λa d=>by simp[Ğ,d]
 have r:=λa d=>ç<|p a d;obtain⟨f,s⟩:∃f,∀a,a<rs.length->o=Â ⟨f,0,Á⟩:=by
  by_cases e:0<rs.length
  .let⟨j,i,q,_⟩:=E 0 _<|p 0 e;exact⟨j,λ_ _=>q⟩
  .simp_all
 have F:∀a,∃i,a<rs.length->l.w.cell? ⟨f,a,Á⟩=Â (Ã<|Â ⟨i,0,Á⟩)/\yl i (rs.getD a pe) l.w:=λa=>by grind
 let⟨g,j⟩:=Classical.axiomOfChoice F;have u:=λe=>by have:=h.I;rw[s 0 e]at this;exact DU this
 refine⟨o,D,f,g,U,λe=>s 0 e,λe=>m _<|u e,λa d=>(j a d).1,λa d=>(j a d).2.c 4 A,B,C,h.C,m,λa d=>(DR<|h.C.r (u Z) (j a d).1),λa d y=> ?_,λa d y=> ?_⟩
 .have q:=k _<|r a d;have e:=q.c.r 0 A;have z:=q.c.r 5 A;simp only[lQ]at e z;refine⟨aso q (j a d).2,?_,z.1,λt G=> ?_,?_⟩
  .show((rs.getD a pe).c.getD 0 0).toNat<8;omega
  .obtain⟨x,H,rfl⟩:=Ú.1 G;exact toTx_ok<|q.C x H
  .show((rs.getD a pe).r.map toTx).length<=1000;rw[ù];have:=q.n;omega
 .have q:=k _<|r a d;exact⟨asq q (j a d).2,ab5 q y⟩
end
theorem J8:(∀r∈(gM B).2.2,uX r)/\(gM B).2.2.length<=24:=by
 unfold gM;split
 .grind
 .split
  .unfold lR;split
   .grind
   .have:=(Uz B.size 0 nQ (Uy B)<|Ø _).1.d;exact⟨this.G,this.C⟩
  .grind
def kU(rs:List PR)(s:List fH):List ByteArray:=(ĳ rs.length).map λp=>wi (wx rs) (kT rs) p<|pU (wx rs) (hD (kT rs) rs.length) s<|fJ (kT rs) p
def wy(rs:List PR)(s:List fH):List fH:=pU (wx rs) (hD (kT rs) rs.length) s<|fJ (kT rs) rs.length
def lS(s:List fH)(B:ByteArray):ByteArray×Int×List fH:=
 if(gM B).1=0 then(jd ⟨#[59]⟩<|kU (gM B).2.2 s,0,wy (gM B).2.2 s)else(⟨#[]⟩,(gM B).1,s)
section
variable{b:Ě}{l:e9}{a:Ĉ}
def ab6{md:Ŀ}(I:Array Bool->Ĉ->e9->Prop) (o:∀c a l i k,I c a l->i∈ä md Q c->(∀f g,I (c.setIfInBounds i Î) f g->iN vQ g (G (b.at f<|Ð Q k::L) qX))->iN vQ l (G (b.at a<|Ð Q (i::k)::L) qX)) (m:∀c a l,I c a l->c.size=Q.size->ä md Q c=[]->iN vQ l (G (b.at a<|Ð Q []::L) qX)): ∀(d t:Nat) (c:Array Bool) (a:Ĉ) (l:e9),c.size=Q.size->jw c<=d->I c a l->iN vQ l (G (b.at a<|Ð Q (ć md Q d t c [])::L) qX):=by
 intro d
 induction d with
 |zero=>
  intro t c a l e p h;simpa[ć]using m c a l h e<|Rh e Z
 |succ d q=>
  intro t c a l e p h;simp only[ć];change iN vQ l (G (b.at a (Ð Q (match(ä md Q c)[t%(ä md Q c).length]? with
   |some i=>ć md Q d (t/(ä md Q c).length) (c.setIfInBounds i Î) [i]
   |none=>[].reverse)::L)) qX)
  cases j:(ä md Q c)[t%(ä md Q c).length]? with
  |none=>
   have r:ä md Q c=[]:=by
    cases s:ä md Q c with
    |nil=>rfl
    |cons x n=>
     rw[s]at j;have u:t%(x::n).length<(x::n).length:=Nat.mod_lt _ fi;simp at j;simp at u;omega
   simpa using m c a l h e r
  |some i=>
   simp only[];rw[linearise_go_acc,List.reverse_singleton,List.singleton_append];have n:=ç j;refine o c a l i _ h n λf g r=>(q _ _ f g (by simpa using e) (by have:=LP (Β.1 n).1;omega) r)
def asu{id:Nat}(I:Array Bool->Ĉ->e9->Prop)(e:gN l) (j:∀f,fF l l.w f->I (Ū Q.size Ë) a {l with w:=f}) (k:∀g c a l i m,I c a l->i∈ä g Q c->(∀n o,I (c.setIfInBounds i Î) n o->iN vQ o (G (b.at n<|Ð Q m::L) qX))->iN vQ l (G (b.at a<|Ð Q (i::m)::L) qX)) (p:∀g c a l,I c a l->c.size=Q.size->ä g Q c=[]->iN vQ l (G (b.at a<|Ð Q []::L) qX)): iN vQ l (G (b.at a<|ax (.region id Q Î)::L) qX):=by
 refine mC (.mk U λf r=>⟨_,_,_,_,stepG_region_draw,Rf (lI e.fR.lw r) e.q,.fy λs d=> ?_⟩);have h:=r.fe ⟨d.r,d.I,d.N,d.Y,d.S⟩;refine⟨e.fM h,U,?_⟩;unfold Region.schedule;split
 .exact ab6 I (k _) (p _) _ _ _ _ _ fi (by rw[E5];exact æ _)<|j s h
 .exact ab6 I (k _) (p _) _ _ _ _ _ fi (by rw[E5];exact æ _)<|j s h
def asv{I:Ĉ->e9->Prop}(W:fq.fg À Î (λa d=>∃c,d=G (b.at c<|Ð Q jJ::L) qX/\I c a) l g)(f:∀c a,I c a->gN a)(i:∀c a,I c a->iN vQ a (G (b.at c<|Ð Q jJ::L) qX)):iN vQ l g:= mC (W.fO λa d h=>by obtain⟨c,rfl,e⟩:=h;exact⟨f c a e,U,i c a e⟩)
def wz{f:FuncId}{fn:Func}(xs:List Value)(n:Nat)(hf:Tryz.prog.funcs[f]?=some fn)(hb:fn.body=some (kZ fn []):=by kernel_rfl)(hn:fn.ntmps=xs.length+n:=by kernel_rfl):Frame.enter Tryz.prog f xs.toArray .normal=(base f).at ⟨(xs++List.replicate n undef).toArray,[]⟩ [.code<|kZ fn []]:=by rw[enter_at _ hf hb,hn,ř,Nat.add_sub_cancel_left,show xs.toArray++Ū n ĸ=(xs++ą n ĸ).toArray from Array.ext' fi]
def wA{J:Jd}{f:Ρ}{args:Array Ñ}(d:Q[i]?=Â o)(e:đ o (Ι Q a.tmps)=Î)(g:b.kind≠.early)(h:jW l) (j:∀w,(ś a.eval o).run À w=.ok (.enter f args) w) (k:∀w,(ś a.eval o).events À w #[]=#[]) (m:∀c,fF l l.w c->fq.fg À Î J {l with w:=c} (G (è À f args Ą)<|b.at a (Ð Q (i::jJ)::L)::qX)): fq.fg À Î J l (G (b.at a<|Ð Q (i::jJ)::L) qX):=by refine .mk U λc r=>⟨G (è À f args Ą)<|b.at a (Ð Q (i::jJ)::L)::qX,c,#[],{l with w:=c},?_,LK c<|lI h r,m c r⟩;rw[stepG_enter d e g<|j c];unfold ay;rw[k c,seen_none]
def ym{f:Ρ}{args:Array Ñ}(e:gN l)(j:Q[i]?=Â o)(k:đ o (Ι Q a.tmps)=Î)(m:b.kind≠.early) (n:∀w,(ś a.eval o).run À w=.ok (.enter f args) w) (p:∀w,(ś a.eval o).events À w #[]=#[]) (q:∀d,fF l l.w d->iN vQ {l with w:=d} (G (è À f args Ą)<|b.at a (Ð Q (i::jJ)::L)::qX)): iN vQ l (G (b.at a<|Ð Q (i::jJ)::L) qX):= mC (wA j k m e.fR.lw n p λd r=> .fy λg c=>by have h:fF l l.w g:=r.fe ⟨c.r,c.I,c.N,c.Y,c.S⟩;exact⟨e.fM h,U,q g h⟩)
def jC.xG{c:e9}(e:gN l)(h:jC l c)(k:c.d=l.d):gN c:=by
 have g:∀b,¬c.I b:=by rw[h.I];exact e.rd
 have f:∀a,¬c.r a:=by rw[h.N];exact e.r
 have i:∀a,¬c.N a:=by rw[h.Y];exact e.C
 have j:∀a,¬c.K a:=by rw[h.K];exact e.k
 exact⟨⟨λb _=>g b,λa q=>(f a q).elim,λa q=>q.elim (λz=>(f a z).elim) λz=>(i a z).elim,λb q=>q.elim (λz=>h.fv b z) λz=>(g b z).elim,λa q=>q.elim (λz=>(f a z).elim) λz=>(i a z).elim,λa q=>(j a q).elim⟩,k.trans e.d,by rw[h.q];exact e.q,g,f,i,j⟩
end
def J9:ĝ:=⟨Â 21,.move<|ň 0,26, "attic.go:46",#[],Á⟩
def Ka:ĝ:=⟨Â 22,.nilCheck<|ň 21,0, "attic.go:46",#[⟨0,ĉ⟩],Á⟩
def Kb:ĝ:=⟨Â 23,.fieldAddr 68 (ň 22) 1,0, "attic.go:46",#[⟨1,ĉ⟩],Á⟩
def Ke:ĝ:=⟨Â 24,.load 65<|ň 23,65, "attic.go:46",#[⟨2,ĉ⟩],Á⟩
def Kf:ĝ:=⟨Â 25,.move<|ň 6,61, "attic.go:46",#[],Á⟩
def Kg:ĝ:=⟨Â 26,.move<|ň 0,26, "attic.go:46",#[],Á⟩
def Kh:ĝ:=⟨Â 27,.nilCheck<|ň 26,0, "attic.go:46",#[⟨5,ĉ⟩],Á⟩
def Ki:ĝ:=⟨Â 28,.fieldAddr 68 (ň 27) 0,0, "attic.go:46",#[⟨6,ĉ⟩],Á⟩
def Kj:ĝ:=⟨Â 29,.load 3<|ň 28,3, "attic.go:46",#[⟨7,ĉ⟩],Á⟩
def yn:ĝ:=⟨Â 30,.call {callee:=.value<|.func 37,args:=#[ň 24,ň 25,ň 29],argTypes:=#[65,61,3]},66, "attic.go:46",#[⟨3,ĉ⟩,⟨4,ĉ⟩,⟨8,ĉ⟩],Á⟩
def Al:ĝ:=⟨Â 20,.move<|ň 30,66, "attic.go:46",#[⟨9,ĉ⟩],Á⟩
def D6:ĝ:=⟨Â 31,.extract (ň 20) 0,25, "attic.go:46",#[⟨10,ĉ⟩],Á⟩
def D7:ĝ:=⟨Â 32,.extract (ň 20) 1,65, "attic.go:46",#[⟨10,ĉ⟩,{on:=13,ground:=Ground.gcOnly Departure.lateStores}],Á⟩
def D8:ĝ:=⟨Â 9,.assign<|ň 31,25, "attic.go:46",#[⟨11,ĉ⟩,⟨9,.chain⟩,⟨0,ñ⟩,⟨1,ñ⟩,⟨2,ñ⟩,⟨3,ñ⟩,⟨4,ñ⟩,⟨5,ñ⟩,⟨6,ñ⟩,⟨7,ñ⟩,⟨8,ñ⟩,⟨9,ñ⟩,⟨10,ñ⟩,⟨11,ñ⟩,{on:=12,ground:=Ground.textOnly Departure.lateStores}],Á⟩
def D9:ĝ:=⟨Â 10,.assign<|ň 32,65, "attic.go:46",#[⟨12,ĉ⟩,⟨13,.chain⟩,⟨0,ñ⟩,⟨1,ñ⟩,⟨2,ñ⟩,⟨3,ñ⟩,⟨4,ñ⟩,⟨5,ñ⟩,⟨6,ñ⟩,⟨7,ñ⟩,⟨8,ñ⟩,⟨9,ñ⟩,⟨10,ñ⟩,⟨11,ñ⟩,⟨12,ñ⟩,⟨13,ñ⟩],Á⟩
def oI:Array ĝ:=#[J9,Ka,Kb,Ke,Kf,Kg,Kh,Ki,Kj,yn,Al,D6,D7,D8,D9]
noncomputable def UI:Τ:=kZ Tryz.f17 [1,1,1,1]
structure ov(l:e9)(ab n:Nat)(s:List fH)(sl:Ñ)(V:Nat->Prop):Prop where
 r:mM l.w
 C:∀b,b=1\/b=2\/b=3\/b=4->l.O b
 Y:GA ab n sl l.w
 fj:l.O ab
 rd:RD s sl V l.w
 S:∀b,V b->l.O b
 d:¬V ab
 a:1<=n
 c:n<=8
 I:¬(ab=1\/ab=2\/ab=3\/ab=4)
structure Oq(l l':e9)(ab n:Nat)(s':List fH)(V:Nat->Prop):Prop where
 vu:∀b,l.O b->b≠ab->l'.O b/\l'.w.heap[b]?=l.w.heap[b]?
 att:∃tB V',ov l' ab n s' tB V'/\∀b,V' b->V b\/(b=1\/b=2\/b=3\/b=4)\/l.w.heap.size<=b
section
variable{l d:e9}{ab:Nat}{s:List fH}{sl:Ñ}{V:Nat->Prop}
def ov.N{a:e9}(h:ov l ab n s sl V)(c:∀b,l.O b->a.O b)(d:∀b,l.O b->a.w.heap[b]?=l.w.heap[b]?)(e:l.w.heap.size<=a.w.heap.size):ov a ab n s sl V:= ⟨h.r.r (Ì h.r.fv e) λb q=>d b<|h.C b q,λb q=>c b<|h.C b q,h.Y.r<|d ab h.fj,c ab h.fj,h.rd.r λb q=>d b<|h.S b q,λb q=>c b<|h.S b q,h.d,h.a,h.c,h.I⟩
def ov.M(h:ov l ab n s sl V)(r:fF l l.w u):ov {l with w:=u} ab n s sl V:=h.N (λ_ q=>q) (λb q=>r.I b<|È q) r.r
def km(ab:Nat)(n:Nat)(sl rs:Ñ)(x:Value×Value):Nat->Ñ
 |0=>Ã<|Â ⟨ab,0,Á⟩
 |1=>Ã<|Â ⟨ab,0,Á⟩
 |2=>Ã<|Â ⟨ab,1,Á⟩
 |3=>sl
 |4=>rs
 |5=>Ã<|Â ⟨ab,0,Á⟩
 |6=>Ã<|Â ⟨ab,0,Á⟩
 |7=>Ã<|Â ⟨ab,0,Á⟩
 |8=>Å É n
 |9=>ë #[x.1,x.2]
 |10=>ë #[x.1,x.2]
 |11=>x.1
 |12=>x.2
 |13=>x.1
 |14=>x.2
 |_=>ĸ
def wB(d:e9)(V:Nat->Prop)(rs:List PR)(s:List fH)(listed:Array Bool)(x:Value×Value)(l:e9):Prop:=
 gN l/\(listed.getD 9 Ë=Ë->gi (λ_=>False) d l)/\(listed.getD 9 Ë=Î->∃a e p m c,gi (λ_=>False) d a/\x=(Ç (Â ⟨e,0,Á⟩) rs.length rs.length,Ç p m c)/\Ag (λb=>V b\/b=1\/b=2\/b=3\/b=4) (wx rs) rs.length (kT rs) s a e (Ç p m c) l)
def wB.fM{V:Nat->Prop}{rs:List PR}{s:List fH}{listed:Array Bool}{x:Value×Value}(h:wB d V rs s listed x l)(a:i≠9){w₁:Í}(r:fF l l.w w₁):wB d V rs s (listed.setIfInBounds i Î) x {l with w:=w₁}:=by
 have e:(listed.setIfInBounds i Î).getD 9 Ë=listed.getD 9 Ë:=by simp[Array.getD_eq_getD_getElem?,Array.getElem?_setIfInBounds_ne a]
 refine⟨h.1.fM r,λq=> ?_,λq=> ?_⟩
 .rw[e]at q;exact(h.2.1 q).G r
 .rw[e]at q;let⟨b,f,p,m,c,g,j,k⟩:=h.2.2 q;exact⟨b,f,p,m,c,g,j,k.N r⟩
theorem asw{D:Array Ñ}{I:List PR}(J:ov d ab n s sl V)(T:D.size=39)(W:D[0]?=Â (Ã<|Â ⟨ab,0,Á⟩))(Y:D[6]?=Â z) (md:Ŀ) (listed:Array Bool) (a:Ĉ) (l:e9) (i:Nat) (O:List Nat) (hI:II oI D (km ab n sl z) (wB d X I s) listed a l) (p:i∈ä md oI listed) (F:i≠9): fq.fg À Î (λc e=>∃b,e=G ((base 17).at b<|Ð oI O::L) qX/\II oI D (km ab n sl z) (wB d X I s) (listed.setIfInBounds i Î) b c) l (G ((base 17).at a<|Ð oI (i::O)::L) qX):=by
 let⟨x,g,H⟩:=hI;have t:re oI D.size=Î:=by rw[T];decide
 have K:=zi p;have u:=H.1.fR.lw;have y:=H.1.q;have P:=(g.C A).trans W;have Ot:=(g.C A).trans Y;have B:∀c,fF l l.w c->wB d X I s (listed.setIfInBounds i Î) x {l with w:=c}:=λc r=>H.fM F r;let⟨fr,mH,_⟩:=J.Y;have early:∀m,m<15->listed.getD m Ë=Ë->(∃e,e∈yn.after/\e.on=m/\vC e=Î)->listed.getD 9 Ë=Ë:=λm _ hm ⟨e,h1,h2,h3⟩=>by
  cases q:listed.getD 9 Ë with
  |false=>rfl
  |true=>
   have:=g.Y 9 yn e U q h1 h3;rw[h2,hm]at this;cases this
 have jk:oI.size=15:=A
 rw[jk]at K;have Ex:listed.getD i Ë=Ë:=by have:=(Β.1 p).1;grind
 have S:∀{j v},(∃e,e∈yn.after/\e.on=i/\vC e=Î)->#[Å É n,sl][j]?=Â v->gZ l ⟨ab,j,Á⟩/\l.w.cell? ⟨ab,j,Á⟩=Â v:=λq h=>by have b:=H.2.1<|early i K Ex q;exact⟨È<|b.M<|È J.fj,(gO<|b.r ab (È J.fj) id).trans<|by simp[à,mH,h]⟩
 match i,K,F with
 |9,_,F=>exact absurd U F
 |0,_,_=>
  exact im (o:=J9) t g U U p (by k_ne) u y (λc r=>by simp only[km,J9];go_simp) (λc r e f=>by simp[go_sem,J9,P]at f) B
 |1,_,_=>
  have b:=g.r 0 J9 21 U (ig p U U) U;simp only[km]at b;exact im (o:=Ka) t g U U p (by k_ne) u y (λc r=>by simp only[km,Ka];go_simp) (λc r e f=>by simp[go_sem,Ka,b]at f) B
 |2,_,_=>
  have b:=g.r 1 Ka 22 U (ig p U U) U;simp only[km]at b;exact im (o:=Kb) t g U U p (by k_ne) u y (λc r=>by simp only[km,Kb];go_simp) (λc r e f=>by simp[go_sem,Kb,b]at f) B
 |3,_,_=>
  have b:=g.r 2 Kb 23 U (ig p U U) U;simp only[km]at b;let⟨C,E⟩:=S (j:=1) ⟨⟨3,ĉ⟩,by simp[yn],U,U⟩ U;refine im (o:=Ke) t g U U p (by k_ne) u y (λc r=> ?_) (λc r e f=> ?_) B
  .have N:=(C.r r).trans E;simp only[km,Ke];go_simp
  .have N:=(C.r r).trans E;simp[go_sem,Ke,b,N]at f;subst f;exact C.rd
 |4,_,_=>
  exact im (o:=Kf) t g U U p (by k_ne) u y (λc r=>by simp only[km,Kf];go_simp) (λc r e f=>by simp[go_sem,Kf,Ot]at f) B
 |5,_,_=>
  exact im (o:=Kg) t g U U p (by k_ne) u y (λc r=>by simp only[km,Kg];go_simp) (λc r e f=>by simp[go_sem,Kg,P]at f) B
 |6,_,_=>
  have b:=g.r 5 Kg 26 U (ig p U U) U;simp only[km]at b;exact im (o:=Kh) t g U U p (by k_ne) u y (λc r=>by simp only[km,Kh];go_simp) (λc r e f=>by simp[go_sem,Kh,b]at f) B
 |7,_,_=>
  have b:=g.r 6 Kh 27 U (ig p U U) U;simp only[km]at b;exact im (o:=Ki) t g U U p (by k_ne) u y (λc r=>by simp only[km,Ki];go_simp) (λc r e f=>by simp[go_sem,Ki,b]at f) B
 |8,_,_=>
  have b:=g.r 7 Ki 28 U (ig p U U) U;simp only[km]at b;let⟨C,E⟩:=S (j:=0) ⟨⟨8,ĉ⟩,by simp[yn],U,U⟩ U;refine im (o:=Kj) t g U U p (by k_ne) u y (λc r=> ?_) (λc r e f=> ?_) B
  .have N:=(C.r r).trans E;simp only[km,Kj];go_simp
  .simp[go_sem,Kj,b,(C.r r).trans E]at f;subst f;exact C.rd
 |10,_,_=>
  have b:=g.r 9 yn 30 U (ig p U U) U;simp only[km]at b;exact im (o:=Al) t g U U p (by k_ne) u y (λc r=>by simp only[km,Al];go_simp) (λc r e f=>by simp[go_sem,Al,b]at f) B
 |11,_,_=>
  have b:=g.r 10 Al 20 U (ig p U U) U;simp only[km]at b;exact im (o:=D6) t g U U p (by k_ne) u y (λc r=>by simp only[km,D6];go_simp) (λc r e f=>by simp[go_sem,D6,b]at f) B
 |12,_,_=>
  have b:=g.r 10 Al 20 U (ig p U U) U;simp only[km]at b;exact im (o:=D7) t g U U p (by k_ne) u y (λc r=>by simp only[km,D7];go_simp) (λc r e f=>by simp[go_sem,D7,b]at f) B
 |13,_,_=>
  have b:=g.r 11 D6 31 U (ig p U U) U;simp only[km]at b;exact im (o:=D8) t g U U p (by k_ne) u y (λc r=>by simp only[km,D8];go_simp) (λc r e f=>by simp[go_sem,D8,b]at f) B
 |14,_,_=>
  have b:=g.r 12 D7 32 U (ig p U U) U;simp only[km]at b;exact im (o:=D9) t g U U p (by k_ne) u y (λc r=>by simp only[km,D9];go_simp) (λc r e f=>by simp[go_sem,D9,b]at f) B
end
def asx(x y:Ñ)(n:Nat)(a:List Ě):G (è À 37 #[x,y,Å É n] Ą) a=Fz x y n a:=by unfold Fz;rw[enter_at #[x,y,Å É n] η (c:=kZ Tryz.f37 []) fp];kernel_rfl
section
variable{l g:e9}{s:List fH}{V:Nat->Prop}{d:List PR}
theorem asy{F:Array Ñ}(D:ov g i n s x V)(W:RQ d v X g.w)(M:∀b,X b->g.O b)(Y:∀r∈d,uX r)(LX:d.length<=24)(ht:F.size=39) (md:Ŀ) (listed:Array Bool) (a:Ĉ) (l:e9) (N:List Nat) (hI:II oI F (km i n x v) (wB g (λb=>V b\/X b) d s) listed a l) (B:9∈ä md oI listed) (hn:∀P E,II oI F (km i n x v) (wB g (λb=>V b\/X b) d s) (listed.setIfInBounds 9 Î) P E->iN vQ E (G ((base 17).at P<|Ð oI N::L) qX)): iN vQ l (G ((base 17).at a<|Ð oI (9::N)::L) qX):=by
 let⟨t,y,Q⟩:=hI;have Ex:=(Β.1 B).1;have h9s:9<listed.size:=by grind
 have H:listed.getD 9 Ë=Ë:=by grind
 have e24:a.tmps[24]?=Â x:=y.r 3 Ke 24 U (ig B U U) U;have e25:a.tmps[25]?=Â v:=y.r 4 Kf 25 U (ig B U U) U;have e29:a.tmps[29]?=Â (Å É n):=y.r 8 Kj 29 U (ig B U U) U;have late:∀(S:Value×Value) j,listed.getD j Ë=Î->km i n x v S j=km i n x v t j:=λS j u=>by
  have c:listed.getD 10 Ë=Ë:=by
   cases q:listed.getD 10 Ë with
   |false=>rfl
   |true=>exact absurd (y.Y 10 Al ⟨9,ĉ⟩ U q (by simp[Al]) U)<|by rw[H];decide
  have e:listed.getD 11 Ë=Ë:=by
   cases q:listed.getD 11 Ë with
   |false=>rfl
   |true=>exact absurd (y.Y 11 D6 ⟨10,ĉ⟩ U q (by simp[D6]) U)<|by rw[c];decide
  have h:listed.getD 12 Ë=Ë:=by
   cases q:listed.getD 12 Ë with
   |false=>rfl
   |true=>exact absurd (y.Y 12 D7 ⟨10,ĉ⟩ U q (by simp[D7]) U)<|by rw[c];decide
  have m:listed.getD 13 Ë=Ë:=by
   cases q:listed.getD 13 Ë with
   |false=>rfl
   |true=>exact absurd (y.Y 13 D8 ⟨11,ĉ⟩ U q (by simp[D8]) U)<|by rw[e];decide
  have p:listed.getD 14 Ë=Ë:=by
   cases q:listed.getD 14 Ë with
   |false=>rfl
   |true=>exact absurd (y.Y 14 D9 ⟨12,ĉ⟩ U q (by simp[D9]) U)<|by rw[h];decide
  match j with
  |9=>rw[H]at u;cases u
  |10=>rw[c]at u;cases u
  |11=>rw[e]at u;cases u
  |12=>rw[h]at u;cases u
  |13=>rw[m]at u;cases u
  |14=>rw[p]at u;cases u
  |0|1|2|3|4|5|6|7|8=>rfl
  |j+15=>rfl
 refine ym (f:=37) (args:=#[x,v,Å É n]) Q.1 (o:=yn) U (LW U _) (by k_ne) (λw=> ?_) (λw=> ?_) λw₁ r=> ?_
 .simp only[yn];go_simp
 .exact ô U η U U #[]
 have z:=(Q.2.1 H).G r;have C:=D.N (λb q=>z.O b q) (λb q=>z.r b (È q) id) z.I;have T:=λb q=>z.O b<|M b q;obtain⟨ra,cr,rb,rq,rfl,IV,C0,IW,IX,ready⟩:=asr (W.r λb q=>z.r b (È<|M b q) id) Y C.r C.C T;obtain⟨I,J,K,rfl⟩:∃I J K,x=Ç I J K:=by let⟨_,_,_,⟨I,J,K,e,_⟩,_⟩:=D.rd;grind
 rw[asx];refine asi IV (λh=>È<|C0 h) IW IX ready ⟨λb q=>È<|Ï q,λb q=>Ï q⟩ (λb q=>q.elim (λq=>q.elim (C.S b)<|T b)<|C.C b) (λb q=>È<|È q) C.rd D.a (by have:=D.c;omega) λE e p m c h hT=> ?_;refine hn _ E ⟨(Ç (Â ⟨e,0,Á⟩) d.length d.length,Ç p m c),(y.Y1<|late _).fQ (by rw[ht];decide) U B λ_=>rfl,h,λq=> ?_,λ_=>⟨_,e,p,m,c,z,U,hT⟩⟩;simp_all
end
section
variable{l o l4:e9}{ab:Nat}{s:List fH}{sl:Ñ}{V:Nat->Prop}{rs:List PR}
structure ab7(l l4:e9)(ab n:Nat)(s:List fH)(sl:Ñ)(V:Nat->Prop)(rs:List PR)(an:Nat)(tB:Ñ):Prop where
 r:∀b,l.O b->l4.O b/\l4.w.heap[b]?=l.w.heap[b]?
 fv:nB<=l4.w.heap.size
 C:l4.O an/\u7 an (kU rs s) l4.w/\kX l4.w an=Â (0,0)
 I9:∃V',RD (wy rs s) tB V' l4.w/\(∀b,V' b->l4.O b)/\¬V' ab/\∀b,V' b->V b\/(b=1\/b=2\/b=3\/b=4)\/l.w.heap.size<=b
def asz{kd:Nat->Int}(h:∀p,p<rs.length->w.cell? ⟨i,p,Á⟩=Â (Ä<|wi (wx rs) (kT rs) p<|pU (wx rs) (hD (kT rs) rs.length) s<|fJ (kT rs) p))(d:w.cell? ⟨i,rs.length,Á⟩=Á):u7 i (kU rs s) w:=by refine⟨λp x a=> ?_,by unfold kU;simpa using d⟩;unfold kU at a;rw[Ī]at a;obtain⟨q,e,rfl⟩:=ò.1 a;let⟨b,c⟩:=Õ.1 e;simp at b c;subst c;exact h p b
def Ou:(kU rs s).length=rs.length:=by simp[kU]
def asA:nB<=5:=by show À.globals.size<=5;decide+kernel
def asB{f:e9}{p:Option ü}(d:ov l ab n s sl V)(t:gy l)(u:∀b,X b->l.w.heap.size<=b)(v:∀b,l.O b->o.O b/\o.w.heap[b]?=l.w.heap[b]?)(x:l.w.heap.size<=o.w.heap.size)(y:gy l4)(e:gi (λ_=>False) o f)(a:Ag (λb=>(V b\/X b)\/b=1\/b=2\/b=3\/b=4) (wx rs) rs.length (kT rs) s f i (Ç p m j) l4):ab7 l l4 ab n s sl V rs i (Ç p m j):=by
 have g:∀b,l.O b->l4.O b/\l4.w.heap[b]?=l.w.heap[b]?:=λb q=>by let⟨z,h⟩:=v b q;let⟨k,r⟩:=a.M b<|e.O b z;exact⟨k,r.trans<|(e.r b (È z) id).trans h⟩
 refine⟨g,?_,⟨a.r.1,asz (kd:=kT rs) a.r.2 a.I.1,a.I.2⟩,?_⟩
 .have:=y.fv 4<|È (g 4<|d.C 4 A).1;have:=asA;omega
 .let⟨h,B,k⟩:=a.S;have r:∀b,h b->V b\/(b=1\/b=2\/b=3\/b=4)\/l.w.heap.size<=b:=λb q=>by
   rcases(k b q).2 with((z|z)|z)|z
   .exact È z
   .exact Ï<|Ï<|u b z
   .exact Ï<|È z
   .exact Ï<|Ï<|Ì (Ì x e.I) z
  refine⟨h,B,λb q=>(k b q).1,λq=> ?_,r⟩;rcases r ab q with z|z|z
  .exact d.d z
  .exact d.I z
  .have:=t.fv ab<|È d.fj;omega
def asC{f:e9}{p:Option ü}(d:ov l ab n s sl V)(h:ab7 l l4 ab n s sl V rs i (Ç p m j))(E:gy l4)(g:∀b,l4.O b->f.O b)(r:∀b,l4.O b->f.w.heap[b]?=(l4.w.setCell ⟨ab,1,Á⟩<|Ç p m j).heap[b]?)(v:l4.w.heap.size<=f.w.heap.size):Oq l f ab n (wy rs s) V:=by
 let⟨x,y,t,u,z⟩:=h.I9;have k:∀b,l4.O b->b≠ab->f.w.heap[b]?=l4.w.heap[b]?:=λb q e=>(r b q).trans<|ly (a:=⟨ab,1,Á⟩) e;have o:=h.r ab d.fj;refine⟨λb q e=>⟨g b (h.r b q).1,(k b (h.r b q).1 e).trans (h.r b q).2⟩,Ç p m j,x,⟨?_,λb q=>g b (h.r b<|d.C b q).1,?_,g ab o.1,y.r λb q=>k b (t b q) λe=>u<|e▸q,λb q=>g b<|t b q,u,d.a,d.c,d.I⟩,z⟩
 .exact d.r.r (Ì h.fv v) λb q=>(k b (h.r b<|d.C b q).1 λe=>d.I<|e▸q).trans (h.r b<|d.C b q).2
 .let⟨B,C,D⟩:=d.Y;refine⟨B,?_,D⟩;rw[r ab o.1];unfold Ż;simp[Ķ,o.2,C]
def asD{J:Jd}(b:jW l)(d:fq.fg À Î J l (G (f.at (y.put ((Q[i]?).bind (·.dst))<|Ä ⟨#[]⟩)<|Ð Q jJ::L) qX)): fq.fg À Î J l (G (è À 38 #[Ç O 0 j,Ä B] Ą)<|f.at y (Ð Q (i::jJ)::L)::qX):=by
 have hF:True:=trivial;rw[wz [_,_] 73 Ē];simp only[ą,Đ,Ę];conv in kZ _ _=>whnf
 apply fP (n:=60) b;repeat w_go ft
 u_in ft hF
 refine Ŧ (t:=4) U U Ē U ⟨by u_nil,?_⟩;refine ï λ_ _=> ?_;exact d
def u7.I{w':Í}{xs:List ByteArray}(h:u7 i xs w)(k:w'.heap[i]?=w.heap[i]?):u7 i xs w':= ⟨λp x a=>D4 k<|h.r p x a,by have:=h.C;simp only[à,k]at this|-;exact this⟩
def asE{xs:List ByteArray}(g:mM w)(h:u7 i xs w):lB i=Ë:=by
 have b:∀e,N5 i e w->False:=λe ⟨c,o,j,_,_,d,l⟩=>by
  have f:w.cell? ⟨i,0,Á⟩=Â c[0]:=by simp only[à,j,ö,ì,if_false];exact å d
  rcases ģ xs.length with q|q
  .have a:=h.C;rw[q,f]at a;cases a
  .have a:=h.r 0 _<|Ó q;let⟨k,n,m⟩:=l c[0]<|î.2<|ă d;rw[f,m]at a;cases a
 cases q:lB i with
 |false=>rfl
 |true=>
  unfold lB at q;simp at q;rcases q with rfl|rfl
  .exact(b _ g.I).elim
  .exact(b _ g.C).elim
def jC.asF(a:jW l)(r:fF l l.w u):jC l {l with w:=u}:=⟨λ_ q=>q,λ_ q=>È q,U,U,U,U,U,r,lI a r⟩
def asG{a:Ĉ}{xs:List ByteArray}(b:gN l)(j:nB<=l.w.heap.size)(h:u7 n xs l.w)(m:l.O n)(o:lB n=Ë)(p:kX l.w n=Â (0,0))(s:xs.length<=1000){N:Nat}(t:xs.length=N)(u:B.size=1)(v:iM xs+xs.length<=140737488355328): fq.fg À Î (λc g=>jC l c/\c.d=l.d/\g=G (f.at (a.put ((Q[i]?).bind (·.dst))<|Ä<|jd B xs)<|Ð Q jJ::L) qX) l (G (è À 38 #[Ç (Â ⟨n,0,Á⟩) N N,Ä B] Ą)<|f.at a (Ð Q (i::jJ)::L)::qX):=by
 subst t;rcases ģ xs.length with e|e
 .have x:=Ý e;subst x;exact asD b.fR.lw<|.fy λy r=>⟨jC.asF b.fR.lw r,U,U⟩
 .refine(asc b.fR b.q j h e (È m) o p s u v Î _ qX).fO ?_;rintro c g ⟨r,x,rfl⟩;exact⟨r,x,by rw[ę]⟩
def asH{N:Array Ñ}{cf:Ě}(C:ov l ab n s sl V)(FA:gy l)(UJ:∀b,X b->l.w.heap.size<=b)(hl:∀b,l.O b->o.O b/\o.w.heap[b]?=l.w.heap[b]?)(jk:l.w.heap.size<=o.w.heap.size)(LX:rs.length<=24)(s5:iM (kU rs s)+rs.length<=140737488355328)(ht:N.size=39)(ht0:N[0]?=Â (Ã<|Â ⟨ab,0,Á⟩)) (hJ:∀P,gN P->Oq l P ab n (wy rs s) V->iN vQ P (G (cf.at (y.put ((Q[i]?).bind (·.dst))<|ë #[Ä<|jd ⟨#[59]⟩<|kU rs s,Å É 0])<|Ð Q jJ::L) qX)) (md:Ŀ) (listed:Array Bool) (a:Ĉ) (l4:e9) (hI:II oI N (km ab n sl v) (wB o (λb=>V b\/X b) rs s) listed a l4) (H:listed.size=oI.size) (I:ä md oI listed=[]): iN vQ l4 (G ((base 17).at a<|Ð oI []::[ax UI])<|cf.at y (Ð Q (i::jJ)::L)::qX):=by
 have hF:True:=trivial;let⟨x,D,g,_,hS⟩:=hI;have J:∀i∈ĳ 15,listed.getD i Ë=Î:=by
  cases md
  .exact pI I H (ĳ 15) [] fN λi c=>by cases c
  .exact λi c=>pI I H [0,1,2,3,4,5,6,7,8,9,10,11,13,12,14] [] fN (λi c=>by cases c) i (by have:=Ŷ.1 c;revert i;decide)
  .exact pI I H (ĳ 15) [] fN λi c=>by cases c
 obtain⟨l1,r,p,m,c,k1,rfl,hT⟩:=hS<|J 9 A;have h:=asB (rs:=rs) C FA UJ hl jk g.fR k1 hT;let⟨F,ds⟩:=a;obtain rfl:ds=[]:=D.M;have S:F[0]?=Â (Ã<|Â ⟨ab,0,Á⟩):=(D.C A).trans ht0;have T:F[9]?=Â (Ç (Â ⟨r,0,Á⟩) rs.length rs.length):=D.r 13 D8 9 U (J 13 A) U;have W:F[10]?=Â (Ç p m c):=D.r 14 D9 10 U (J 14 A) U;have I2:F.size=39:=D.S.trans ht;clear D J hS hT k1 I H;obtain⟨u,rfl⟩:=xn F I2;simp only[List.getElem?_toArray,Ī,List.getElem?_range,Nat.reduceLT,Ă,Ô]at S T W;simp only[ĳ,List.range.loop,List.map,S,T,W];clear S T W I2;let⟨fr,mH,hfr⟩:=C.Y;let⟨Ov,hab⟩:=h.r ab C.fj;have Y:l4.w.heap[ab]?=Â (Û #[Å É n,sl] 68 (0,0)):=by rw[hab,mH,hfr]
 have c1:l4.w.cell? ⟨ab,1,Á⟩=Â sl:=by simp[à,Y]
 have z1:l4.w.frozen? ⟨ab,1,Á⟩=Ë:=by simp[World.frozen?,Y]
 have CP:=g.q;apply mC;apply fP (n:=20) g.fR.lw;conv in UI=>whnf
 iterate 7 w_go ft
 refine ï λ_ _=> ?_;apply Iu (p:=ab) (off:=1) (v:=Ç p m c) (u:=sl) U U (by k_ne) g.fR.lw CP Ov c1 z1 U (λw z B=>by go_simp) (λw z B=>by simp[go_sem,events_store _ _ _ _ _ _ (show Value.oneCell' (Ç p m c)=Î from rfl),z,B]);have k5:=L8 (X:=λb=>b=ab) (p:=ab) (w':=l4.w.setCell ⟨ab,1,Á⟩<|Ç p m c) g.fR (fF.fW _ _) Ov U fq.j4 λj hj=>fq.ly hj;have si:=k5.N g.fR;have avm:(l4.w.setCell ⟨ab,1,Á⟩<|Ç p m c).heap.size=l4.w.heap.size:=fq.j4;have rW:gN ({l4 with w:=l4.w.setCell ⟨ab,1,Á⟩ (Ç p m c)}:e9):=⟨si,g.d,g.q,g.rd,g.r,g.C,g.k⟩;have c0:l4.w.cell? ⟨ab,0,Á⟩=Â (Å É n):=by simp[à,Y]
 have asI:r≠ab:=λe=>by
  rcases ģ (kU rs s).length with q|q
  .have z:=h.C.2.1.C;rw[q,e,c0]at z;cases z
  .have B:=h.C.2.1.r 0 _<|Ó q;rw[e,c0]at B;cases B
 have ab8:(l4.w.setCell ⟨ab,1,Á⟩<|Ç p m c).heap[r]?=l4.w.heap[r]?:=fq.ly (a:=⟨ab,1,Á⟩) asI;have Uh:=h.C.2.1.I ab8;have Cy:kX (l4.w.setCell ⟨ab,1,Á⟩<|Ç p m c) r=Â (0,0):=(wZ ab8).trans h.C.2.2;have asJ:lB r=Ë:=asE (C.r.r h.fv λb q=>(h.r b<|C.C b q).2) h.C.2.1;have hlen:(kU rs s).length=rs.length:=Ou;apply fP (n:=20) si.lw;iterate 4 w_go ft
 refine ï λ_ _=> ?_;refine wA (f:=38) (args:=#[Ç (Â ⟨r,0,Á⟩) rs.length rs.length,Ä ⟨#[59]⟩]) U fN (by k_ne) si.lw (λw=>by go_simp) (λw=>ô U Ē U U #[]) λw₁ E=> ?_;have Ot:=rW.fM E;have asK:u7 r (kU rs s) w₁:=Uh.I<|E.I r<|È h.C.1;refine fq.fg.lE ?_ (asG (xs:=kU rs s) Ot (Ì (by rw[fq.j4];exact h.fv) E.r) asK h.C.1 asJ ((wZ<|E.I r<|È h.C.1).trans Cy) Z hlen U Z);rintro K g6 ⟨M,hd,rfl⟩;have UK:gN K:=jC.xG Ot M hd;have hk6:∀b,l4.O b->K.w.heap[b]?=(l4.w.setCell ⟨ab,1,Á⟩<|Ç p m c).heap[b]?:=λb q=>(M.r.I b<|È q).trans<|E.I b<|È q;have hs6:l4.w.heap.size<=K.w.heap.size:=by have z:=M.r.r;have B:=E.r;have h3:(l4.w.setCell ⟨ab,1,Á⟩<|Ç p m c).heap.size=l4.w.heap.size:=fq.j4;exact Ì (Nat.le_of_eq h3.symm)<|Ì B z
 have B:∀b,l4.O b->K.O b:=λb q=>M.O b q;generalize jd ⟨#[59]⟩ (kU rs s)=ans at*;walk_nrm;apply fP (n:=20) UK.fR.lw;repeat w_go ft
 u_in ft hF
 refine θ (t:=4) (u:=5) U U Ł U ⟨by u_nil,?_⟩;refine ï λ_ _=> ?_;refine .fy λpA z=>⟨UK.fM z,U,hJ _ (UK.fM z)<|asC C h g.fR B (λb q=>(z.I b<|È<|B b q).trans<|hk6 b q)<|Ì hs6 z.r⟩
end
section
variable{l:e9}{s:List fH}
theorem asL{e:e9}{c:Nat->Prop}{g:List PR}(B:ov l j n s v X)(C:gy l)(D:ov e j n s v X)(k:gN e)(W:RQ g z c e.w)(Y:∀b,c b->e.O b)(hok:∀r∈g,uX r)(E:g.length<=24)(F:∀b,c b->l.w.heap.size<=b)(H:∀b,l.O b->e.O b/\e.w.heap[b]?=l.w.heap[b]?)(I:l.w.heap.size<=e.w.heap.size)(J:iM (kU g s)+g.length<=140737488355328)(t:d.size=39)(u:d[0]?=Â (Ã<|Â ⟨j,0,Á⟩))(K:d[6]?=Â z) (M:∀h,gN h->Oq l h j n (wy g s) X->iN vQ h (G (f.at (y.put ((Q[i]?).bind (·.dst))<|ë #[Ä<|jd ⟨#[59]⟩<|kU g s,Å É 0])<|Ð Q jJ::L) qX)): iN vQ e (G ((base 17).at ⟨d,[]⟩<|ax (.region 4 oI Î)::[ax UI])<|f.at y (Ð Q (i::jJ)::L)::qX):=by
 refine asu (II oI d (km j n v z)<|wB e (λb=>X b\/c b) g s) k (λa x=> ?_) (λm o a l i jJ p N P=> ?_) λm o a l p S T=> ?_
 .refine⟨(ĸ,ĸ),lJ.G _ _ _,k.fM x,λ_=>(gi.fW k.fR.lw).G x,λq=> ?_⟩;exact absurd q A
 .by_cases V:i=9
  .grind [asy]
  .exact asv (asw D t u K m o a l i jJ p N V) (λN h q=>by let⟨x,_,q⟩:=q;exact q.1) P
 .exact asH B C F H I E J t u M m o a l p S T
def ab9(p:gN l)(r:ov l j n s v X)(I:B.size<=ī)(J:(gM B).1=0->iM (kU (gM B).2.2 s)+(gM B).2.2.length<=140737488355328) (t:∀z,gN z->Oq l z j n (lS s B).2.2 X->iN vQ z (G (f.at (y.put ((Q[i]?).bind (·.dst))<|ë #[Ä (lS s B).1,Å É (lS s B).2.1])<|Ð Q jJ::L) qX)): iN vQ l (G (è À 17 #[Ã<|Â ⟨j,0,Á⟩,Ä B] Ą)<|f.at y (Ð Q (i::jJ)::L)::qX):=by
 have hF:=trivial;rw[wz [_,_] 37 Ł];simp only[ą,Đ,Ę];conv in kZ _ _=>whnf
 apply mC;apply fP (n:=20) p.fR.lw;iterate 8 w_go ft
 refine ï λ_ _=> ?_;refine wA (f:=36) (args:=#[Ä B]) U fN (by k_ne) p.fR.lw (λw=>by go_simp) (λw=>ô U ļ U U #[]) λw₁ m=> ?_;have C:=p.fM m;refine fq.fg.lE ?_<|abZ C.fR C.q (Ì r.r.fv m.r) I Î _ _;rintro u g1 ⟨x,K,a,rfl,M⟩;have g:=jC.xG C x K;have h:∀b,l.O b->u.O b/\u.w.heap[b]?=l.w.heap[b]?:=λb q=>⟨x.O b q,(x.r.I b<|È q).trans<|m.I b<|È q⟩;have F:=Ì m.r x.r.r;rw[ę];by_cases k:(gM B).1=0
 .have D:lS s B=(jd ⟨#[59]⟩<|kU (gM B).2.2 s,0,wy (gM B).2.2 s):=if_pos k;let⟨c,N,E⟩:=M k;have P:=J k;rw[D]at t;obtain⟨S,T⟩:=J8;rw[k];generalize(gM B).2.2=rs at*;generalize(gM B).2.1=UL at*;walk_nrm;apply fP (n:=40) g.fR.lw;repeat w_go ft
  refine ï λ_ _=> ?_;refine .fy λo d=>⟨g.fM d,U,?_⟩;have V:=g.fM d;have e:∀b,l.O b->({u with w:=o}:e9).O b/\o.heap[b]?=l.w.heap[b]?:=λb q=>⟨(h b q).1,(d.I b<|È (h b q).1).trans (h b q).2⟩;have H:=Ì F d.r;have W:=r.N (λb q=>(e b q).1) (λb q=>(e b q).2) H;have Y:=N.r λb q=>d.I b<|È (E b q).1;have hQ3:=λb q=>(E b q).1;have UJ:=λb q=>Ì m.r (E b q).2;exact asL r p.fR W V Y hQ3 S T UJ e H P U U U t
 .have D:lS s B=(⟨#[]⟩,(gM B).1,s):=if_neg k;rw[D]at t;have c:((gM B).1 !=0)=Î:=by rwa[bne_iff_ne]
  generalize(gM B).1=er at*;generalize(gM B).2.1=UL at*;walk_nrm;apply fP (n:=40) g.fR.lw;repeat w_go ft
  u_in ft hF
  refine θ U U Ł U ⟨by u_nil,?_⟩;refine ï λ_ _=> ?_;refine .fy λo d=>⟨g.fM d,U,t _ (g.fM d) ?_⟩;have e:∀b,l.O b->({u with w:=o}:e9).O b/\o.heap[b]?=l.w.heap[b]?:=λb q=>⟨(h b q).1,(d.I b<|È (h b q).1).trans (h b q).2⟩;exact⟨λb q _=>e b q,v,X,r.N (λb q=>(e b q).1) (λb q=>(e b q).2)<|Ì F d.r,λb q=>È q⟩
end
def Ow(a:ByteArray)(c:a.size=1):∀b:List ByteArray,(jd a b).size<=iM b+b.length
 |[]=>Ø _
 |x::r=>by
  show(x.data.toList++nN a r).toArray.size<=_;have d:iM (x::r)=x.size+iM r:=by simp[iM]
  have e:x.data.toList.length=x.size:=by rw[ě];rfl
  simp only[ř,Ù,NQ a c r,d,e,ď];omega
def UM{M:Nat}(a:∀z∈vX,z.size<=M)(b:M<=100)(c:vX.length<=400000):(DG vX).size<=100000000:=by
 unfold DG;split
 .decide
 .have d:=Ow ⟨#[44]⟩ U vX;have e:=Gi vX a;have:M*vX.length<=100*400000:=ű b c;omega
def GB(i:Nat):(nX i).size<=3:=by
 unfold nX oB;rw[ø];split
 .show 1+1<=3;decide
 .show 1+2<=3;decide
def acd(s:gA.St)(x y:Nat)(k:Int):∀(m i:Nat),i+m<=1000->(oE s x y k i m).size<=20
 |0,i,_=>by unfold oE;decide
 |m+1,i,h=>by
  unfold oE;split
  .exact pO i Z
  .exact acd s x y k m (i+1) Z
theorem asM(s t:gA.St):(pP s t 8).length<=400000:=by
 unfold pP;have a:∀l:List Nat,(l.flatMap<|ye s t).length<=18*l.length:=λl=>by
  induction l with
  |nil=>simp
  |cons i l b=>
   rw[List.flatMap_cons,Ù,ď];have:(ye s t i).length<=18:=by unfold ye;grind [Ù,NM,aaK]
   omega
 grind
theorem asN{i:List (Nat×fH)}{q:Qn}(n:lF (kv i))(ok:q.Ok):(rE i q).size<=100000000:=by
 unfold rE;split
 .grind [GB]
 .rename_i p o;let⟨b,f,v,w⟩:=n.r _<|Ú.2 ⟨p,JO o,U⟩;have j:∀u,u<18446744073709551616->(fI u).size<=100000000:=λu r=>by have:=pO u r;omega
  unfold DL;split
  .have c:=f.C q.x q.I;exact j _ (by have:=c.1;have:=c.2;omega)
  .split
   .have c:=f.fu q.x;exact j _ (by have:=c.1;have:=c.2;omega)
   .split
    .split
     .grind [GB]
     .rename_i B;have l:gh (q.k:Int):=⟨Z,by have:=ok.k;omega⟩;have e:=Ni p.2.s [] q.x q.y q.g q.k f ok.x ok.y l Z Z (by simp;omega);unfold DF;have C:=e.r;have m:=e.M;have t:=e.I;simp at t;have D:=Ow ⟨#[44]⟩ U<|[fI (gl p.2.s [] q.x q.y q.g q.k).C.toNat,fI (gl p.2.s [] q.x q.y q.g q.k).M.toNat,fI (gl p.2.s [] q.x q.y q.g q.k).r.toNat]++(gl p.2.s [] q.x q.y q.g q.k).I.map rD;have E:=Gi (M:=21) ([fI (gl p.2.s [] q.x q.y q.g q.k).C.toNat,fI (gl p.2.s [] q.x q.y q.g q.k).M.toNat,fI (gl p.2.s [] q.x q.y q.g q.k).r.toNat]++(gl p.2.s [] q.x q.y q.g q.k).I.map rD) λz d=>by
       rcases â.1 d with h|h
       .simp at h;rcases h with rfl|rfl|rfl
        .have:=pO (gl p.2.s [] q.x q.y q.g q.k).C.toNat (by cases(gl p.2.s [] q.x q.y q.g q.k).C<;>decide);omega
        .have:=pO (gl p.2.s [] q.x q.y q.g q.k).M.toNat (by have:=m.1;have:=m.2;omega);omega
        .grind [pO]
       .obtain⟨e,a,rfl⟩:=Ú.1 h;exact NU ((TO p.2.s [] q.x q.y q.g q.k f ok.x ok.y l Z Z (by simp;omega) λ_ q=>by cases q) e a).2
      grind
    .split
     .grind [acd]
     .split
      .have:=aaZ<|ya p.2.s;have:=aa0<|16-(nO<|ya p.2.s).size;unfold Ab;rw[ø];omega
      .split
       .exact UM (λz d=>by obtain⟨e,a,rfl⟩:=Ú.1 d;exact NU (b.C e a).2) Z<|by rw[ù];exact b.I
       .split
        .exact UM (λz d=>by obtain⟨e,a,rfl⟩:=Ú.1 d;exact aaT (b.r e a).1 (b.r e a).2) Z (by rw[ù];have:=b.M;omega)
        .split
         .grind [GB]
         .exact UM (aa1 _ _) Z<|asM _ _
def asO(a:List (Nat×fH))(v:Int)(x:Nat)(gL:List Tx):(rC a v x gL).2.size<=3:=by
 unfold rC;split
 .exact GB 3
 .split
  .exact GB 4
  .split
   .exact GB 5
   .show(oB a.length).size<=3;unfold oB;split
    .show 1<=3;decide
    .show 2<=3;decide
def asP{s:List fH}{i:Int×Nat×List Tx}(h:lF s)(a:∀t∈i.2.2,t.Ok)(b:i.2.2.length<=1000):lF (DW s i):= lF.M (by rwa[JX]) a b
def ace{a:List PR}{s:List fH}(h:lF s)(b:∀r∈a,uX r):∀k,k<=(hD (kT a) a.length).length->lF (pU (wx a) (hD (kT a) a.length) s k)
 |0,_=>h
 |k+1,hk=>by
  have c:a.getD ((hD (kT a) a.length).getD k 0) pe∈a:=ç (i:=(hD (kT a) a.length).getD k 0) (by have q:=(I7<|vU (l:=hD (kT a) a.length)<|show k<_ from hk).1;generalize(hD (kT a) a.length).getD k 0=j at q;simp[Ğ,q]);have q:=b _ c;refine asP (ace h b k Z) (λt d=> ?_) ?_
  .obtain⟨x,t,rfl⟩:=Ú.1 d;exact toTx_ok<|q.C x t
  .show((a.getD _ pe).r.map toTx).length<=1000;rw[ù];have:=q.n;omega
def R7(kd:Nat->Int):∀{p R:Nat},p<=R->fJ kd p<=(hD kd R).length:=λ{p R} h=>by
 show(hD kd p).length<=(hD kd R).length
 induction h with
 |refl=>exact æ _
 |@step R _ ih=>
  by_cases q:kd R=1
  .rw[tA q];simp;omega
  .rwa[vO q]
theorem acf{a:List PR}{s:List fH}(h:lF s)(b:∀r∈a,uX r)(l:a.length<=24):iM (kU a s)+a.length<=2400000024:=by
 have d:=Gi (M:=100000000) (kU a s) λz c=>by
  unfold kU at c;obtain⟨p,e,rfl⟩:=Ú.1 c;have f:=Ŷ.1 e;have g:=ace h b (fJ (kT a) p)<|R7 _ Z;unfold wi;split
  .grind [Ì,asO]
  .rename_i j;have k:a.getD p pe∈a:=ç (i:=p) (by simp[Ğ,f]);exact asN (by rwa[JX])<|ab5 (b _ k) j
 rw[Ou]at d;omega
def acg{s:List fH}(h:lF s):iM (kU (gM B).2.2 s)+(gM B).2.2.length<=140737488355328:=Ì (acf h J8.1 J8.2) A
theorem asQ{s:List fH}(h:lF s)(B:ByteArray):(lS s B).1.size<=10^12:=by
 unfold lS;split
 .have a:=Ow ⟨#[59]⟩ U<|kU (gM B).2.2 s;have b:=acf h (J8 (B:=B)).1 J8.2;rw[Ou]at a;grind
 .exact Ø _
def Kk(c:Int):Int:=if c<0 then(-(c+1))%8 else c%8
def asR(c:Int)(b:-9223372036854775808<=c)(d:c<=9223372036854775807)(w:Í):Ò À 30 #[Å É c,Å É 8] w λe a=>e=Æ (Å É<|Kk c)/\a=w:=by
 unfold Kk;by_cases h:c<0
 .rw[if_pos h];have e:-(c+1).tmod 8=(-(c+1))%8:=by rw[<-Int.neg_tmod,Int.tmod_eq_emod_of_nonneg Z]
  have H:=fc e.symm;clear e;go_enter ŧ,Ο;go_wp2;go_ret;exact⟨by rw[H.out];rfl,U⟩
 .rw[if_neg h];go_enter ŧ,Ο;go_wp2;go_ret;exact⟨U,U⟩
def Ox(a:ü)(w:Í):Sem.events À (binOp BinOp.eql 26 (Ã<|Â a)<|Ã Á) w #[]=#[]:=fp
theorem Kl{l:e9}(a:gN l)(p:nB<=l.w.heap.size){f:Ρ}{args:Array Ñ}{r:Ñ}(m:FL f=Î)(s:∀v∈args.toList,fh (qy (λ_=>False) À.globals.size) v v)(t:∀{Y v},fh Y r v->v=r)(x:∀w,Ò À f args w λe y=>e=Æ r/\y=w)(n:Bool)(c:Ě)(i:List Ě): fq.fg À n (λk o=>jC l k/\k.d=l.d/\o=G (c.finish r) i) l (G (è À f args Ą)<|c::i):=by
 let⟨E,F,z,B⟩:=zE f m;have C:∀T,Ò À f args (World.tp (ln (λj=>False/\¬(mh l).O j) l.w) T 0) fun|Æ v,j=>v=r/\kq j|_,_=>False:=λT=>by refine(x _).mono ?_;grind [Gm]
 refine((FG yw M1 zE (λv u T D h=>h) m z B (FH a.fR) a.q (λb q=>q.elim) ⟨λb q=>q.elim,p⟩ (λg q=>by cases q) (pR s) C n c i).mh a.fR).fO ?_;rintro k o ⟨D,⟨Y,j,v,H,_,_,g,rfl,b,_,_,h⟩,rfl,u,_,_,_⟩;rw[t g]at b;exact⟨u,h,b⟩
def UN:ByteArray:=⟨#[98,48,58,97,59,98,48,58,104,59,117,48,59,98,49,58,97]⟩
def asS:(lS [gA.jy] UN).1=⟨#[49,48,48,48,59,49,48,48,48,59,45,59,33,51]⟩:=fp
def asT:(lS [gA.jy] UN).2=(0,[gA.jy]):=fp
structure asU(l l':e9)(ab n:Nat)(sl:Ñ)(V:Nat->Prop):Prop where
 r:ov l' ab n [gA.jy] sl V
 C:∀b,l.O b->l'.O b/\l'.w.heap[b]?=l.w.heap[b]?
 I:l.w.heap.size<=ab
 M:∀b,V b->(b=1\/b=2\/b=3\/b=4)\/l.w.heap.size<=b
section
variable{l:e9}
def ach{J:Jd}{s:List fH}(c:gN l)(d:ov l j n s z X)(g:fq.fg À Î J l (G (f.at (y.put ((Q[i]?).bind (·.dst))<|Å É s.length)<|Ð Q jJ::L) qX)): fq.fg À Î J l (G (è À 22 #[Ã<|Â ⟨j,0,Á⟩] Ą)<|f.at y (Ð Q (i::jJ)::L)::qX):=by
 have hF:True:=trivial;obtain⟨a,b,rfl⟩:∃a b,z=Ç a s.length b:=by
  let⟨o,h,_,⟨a,k,b,e,_,m⟩,_⟩:=d.rd;have:k=s.length:=by rw[m.r,<-h];simp[kv]
  exact⟨a,b,by rw[e,this]⟩
 have o:s.length<=40:=by let⟨_,_,e,_⟩:=d.rd;exact e.C
 let⟨p,k,_⟩:=d.Y;have m:l.w.cell? ⟨j,1,Á⟩=Â (Ç a s.length b):=by simp[à,k]
 rw[wz [_] 7 Ũ];simp only[ą,Đ,Ę];conv in kZ _ _=>whnf
 refine fP (n:=20) c.fR.lw ?_;repeat w_go ft
 refine ï λ_ _=> ?_;refine pH (x:=⟨j,1,Á⟩) (v:=Ç a s.length b) U fN (by k_ne) c.fR.lw c.q (È<|È d.fj) m (λw h=>by go_simp) (λw h=>by simp[go_sem,h]) ?_;walk_nrm;refine fP (n:=20) c.fR.lw ?_;repeat w_go ft
 u_in ft hF
 refine Ŧ (t:=2) U U Ũ U ⟨by u_nil,?_⟩;refine ï λ_ _=> ?_;exact g
def asV(j:gN l)(p:mM l.w)(I:∀b,b=1\/b=2\/b=3\/b=4->l.O b)(c:Int)(uh:-9223372036854775808<=c)(Ah:c<=9223372036854775807) (hJ:∀J a n K V,gN J->asU l J a n K V->iN vQ J (G (f.at (y.put ((Q[i]?).bind (·.dst))<|Ã<|Â ⟨a,0,Á⟩)<|Ð Q jJ::L) qX)): iN vQ l (G (è À 15 #[Å É c] Ą)<|f.at y (Ð Q (i::jJ)::L)::qX):=by
 have hF:True:=trivial;rw[wz [_] 36 ι];simp only[ą,Đ,Ę];conv in kZ _ _=>whnf
 apply mC;apply fP (n:=20) j.fR.lw;repeat w_go ft
 refine ï λ_ _=> ?_;refine wA (f:=30) (args:=#[Å É c,Å É 8]) U fN (by k_ne) j.fR.lw (λw=>by go_simp) (λw=>ô U ŧ U U #[]) λw₁ r=> ?_;have T:=j.fM r;refine fq.fg.lE ?_ (Kl T (Ì p.fv r.r) fN (λv h=>by simp at h;rcases h with rfl|rfl<;>exact .iE _ _) (λh=>by cases h;rfl) (asR c uh Ah) Î _ _);rintro s g1 ⟨u,hd,rfl⟩;obtain⟨z,hz,Jr,SG⟩:∃z,Kk c=z/\0<=z/\z<8:=⟨_,U,by unfold Kk;split<;>omega,by unfold Kk;split<;>omega⟩;rw[hz];have M:gN s:=jC.xG T u hd;have x:∀b,l.O b->s.O b/\s.w.heap[b]?=l.w.heap[b]?:=λb q=>⟨u.O b q,(u.r.I b<|È q).trans<|r.I b<|È q⟩;have B:l.w.heap.size<=s.w.heap.size:=Ì r.r u.r.r;rw[ę];walk_nrm;refine fP (n:=20) M.fR.lw ?_;repeat w_go ft
 refine ï λ_ _=> ?_;have oT:É.wrap (1+z)=1+z:=Ļ _ ⟨Z,Z⟩;refine wA (f:=35) (args:=#[Å É<|1+z]) U fN (by k_ne) M.fR.lw (λw=>by go_simp) (λw=>ô U ζ U U #[]) λpA h=> ?_;have N:=M.fM h;obtain⟨n,hn⟩:∃n:Nat,1+z=n:=⟨(1+z).toNat,Z⟩;rw[hn];refine fq.fg.lE ?_<|asb N.fR N.q (Ì (Ì p.fv B) h.r) (n:=(n:Int)) Z Z Î _ _;rintro d g3 ⟨C,sd,a,K,rfl,mH,Ov,hab,V,rp,hnV,W⟩;have g:gN d:=jC.xG N C sd;have k:∀b,l.O b->d.O b/\d.w.heap[b]?=l.w.heap[b]?:=λb q=>⟨C.O b (x b q).1,(C.r.I b<|È (x b q).1).trans<|(h.I b<|È (x b q).1).trans (x b q).2⟩;have X:l.w.heap.size<=d.w.heap.size:=Ì B<|Ì h.r C.r.r;have asW:l.w.heap.size<=a:=Ì B<|Ì h.r hab;have asX:∀b,b=1\/b=2\/b=3\/b=4->b<l.w.heap.size:=λb q=>j.fR.fv b<|È<|I b q;have hin:ov d a n [gA.jy] K V:=⟨p.r (Ì p.fv X) λb q=>(k b<|I b q).2,λb q=>(k b<|I b q).1,mH,Ov,rp,λb q=>(W b q).1,hnV,Z,Z,λq=>by have:=asX a q;omega⟩;have hVn:∀b,V b->l.w.heap.size<=b:=λb q=>Ì B<|Ì h.r (W b q).2;rw[ę];walk_nrm;apply fP (n:=60) g.fR.lw;repeat w_go ft
 refine ï λ_ _=> ?_;apply nI (v:=õ Ë) U fN (by k_ne) g.fR.lw g.q (λw _=>by go_simp) (λw _ e m=>by simp[go_sem,Ox]at m);walk_nrm;apply fP (n:=60) g.fR.lw;repeat w_go ft
 refine ï λ_ _=> ?_;refine .fy λY m=>⟨g.fM m,U,?_⟩;have rW:=g.fM m;have asY:=hin.M m;have P:∀b,l.O b->({d with w:=Y}:e9).O b/\Y.heap[b]?=l.w.heap[b]?:=λb q=>⟨(k b q).1,(m.I b<|È (k b q).1).trans (k b q).2⟩;refine ym (f:=17) (args:=#[Ã<|Â ⟨a,0,Á⟩,Ä ⟨#[98,48,58,97,59,98,48,58,104,59,117,48,59,98,49,58,97]⟩]) rW U fN (by k_ne) (λw=>by go_simp) (λw=>ô U Ł U U #[]) λaci D=> ?_;change iN vQ _ (G (è À 17 #[Ã<|Â ⟨a,0,Á⟩,Ä UN] Ą) _);refine ab9 (rW.fM D) (asY.M D) A (λ_=>acg ab1) λl6 E acj=> ?_;rw[asT]at acj|-;rw[asS];let⟨LC,sl6,V6,acn,hV6⟩:=acj;have lu:∀b,l.O b->b≠a:=λb q e=>by have:=j.fR.fv b<|È q;omega
 have F:∀b,l.O b->l6.O b/\l6.w.heap[b]?=l.w.heap[b]?:=λb q=>by let⟨o,H⟩:=LC b (P b q).1<|lu b q;exact⟨o,H.trans<|(D.I b<|È (P b q).1).trans (P b q).2⟩
 have hV7:∀b,V6 b->(b=1\/b=2\/b=3\/b=4)\/l.w.heap.size<=b:=λb q=>by
  rcases hV6 b q with z|z|z
  .exact Ï<|hVn b z
  .exact È z
  .exact Ï<|Ì X<|Ì (Ì m.r D.r) z
 walk_nrm;apply mC;apply fP (n:=60) E.fR.lw;repeat w_go ft
 refine ï λ_ _=> ?_;refine wA (f:=22) (args:=#[Ã<|Â ⟨a,0,Á⟩]) U fN (by k_ne) E.fR.lw (λw=>by go_simp) (λw=>ô U Ũ U U #[]) λsf o=> ?_;apply ach (E.fM o) (acn.M o);have S:=E.fM o;have asZ:=acn.M o;walk_nrm;apply fP (n:=60) S.fR.lw;repeat w_go ft
 u_in ft hF
 refine Ŧ (t:=2) U U ι U ⟨by u_nil,?_⟩;refine ï λ_ _=> ?_;exact .fy λavn H=>⟨S.fM H,U,hJ _ a n sl6 V6 (S.fM H) ⟨asZ.M H,λb q=>⟨(F b q).1,(H.I b<|È (F b q).1).trans<|(o.I b<|È (F b q).1).trans (F b q).2⟩,asW,hV7⟩⟩
end
def aco{t:Tmp}(d:f.kind=Ą)(e:y.defers=[])(g:P.funcs[f.fn]?=Â s)(c:s.results=#[.tmp t])(h:P.inits.idxOf? f.fn=Á):stepG P Î (G {f.at y L with mode:=.returning} []) w=.ended (.done<|y.tmps.getD t ĸ) w:=by have i:=results_tmp c y.tmps P w;have j:=events_results_tmp (P:=P) (w:=w) c y.tmps;simp[G,stepG,unwind,doReturn,Frame.at,d,e,g,i,j,h,seen,GStep.after]
def as0{l:e9}(e:iN vQ l g)(a:gN l)(c:g.status=.running):sL vQ #[g] l.w Á #[]:=e a c (λ_=>False) 0 _ _ _ _ Á _ ⟨λx q=>q.elim,λ_ _ _ _ q=>q,Ø _⟩ (ase (P:=À) (J:=λ_ _=>True) (T:=.fy) U a.d a.q a.rd a.r a.C a.k (λb q=>a.fR.fv b<|È q) c λ_ _=>trivial) a.d U
def acp(W:Í):e9:={O:=λb=>b<W.heap.size,I:=λ_=>False,r:=λ_=>False,N:=λ_=>False,K:=λ_=>False,d:=0,q:=False,w:=W}
def acr(W:Í):gN (acp W):= ⟨⟨λ_ _=>id,λ_ q=>q.elim,λ_ q=>q.elim (λz=>z.elim) λz=>z.elim,λ_ q=>q.elim id λz=>z.elim,λ_ q=>q.elim (λz=>z.elim) λz=>z.elim,λ_ q=>q.elim⟩,U,id,λ_=>id,λ_=>id,λ_=>id,λ_=>id⟩
structure nU(W w':Í):Prop where
 rM:∀b,b<W.heap.size->w'.heap[b]?=W.heap[b]?
 EG:W.heap.size<=w'.heap.size
def as1(g:mM W):∀b,b=1\/b=2\/b=3\/b=4->b<W.heap.size:=λb q=>by let⟨c,a,h,_⟩:=g.C;have:=(á.1 h).1;omega
end Go.Proofs.Y.kI
