import Derived.Test.YtgpphkdoanciiaaGreatDoorWAD
import Derived.Lib.Bytealg
import Derived.WalkKit
import Derived.WalkSpells
import Derived.WalkLawsBesides
import Derived.Deep.Light
import Derived.WalkMore
import Derived.Deep.QuietTactic
import Derived.BigQuiet
import Derived.Conc.LeavingOf
import Derived.Conc.CrowdStepC
import Derived.Listen
import Derived.ProofKit
import Derived.Deep.Slices
set_option linter.all false
set_option maxRecDepth 1000000
set_option maxHeartbeats 8000000
open Go.Proofs.Tryz renaming prog->À,ntmps67->í,func67->ó,zeroCells292->ú,ntmps100->û,func100->Ā,func38->ē,results45->Ģ,underlying25->ĩ,func36->ļ,results36->Ľ,func17->Ł,ntmps160->Ŋ,ntmps147->ŋ,ntmps38->Ŏ,func160->Œ,func147->Ŗ,ntmps95->ŗ,ntmps36->Ř,func95->ť,func30->ŧ,func22->Ũ,ntmps123->Ÿ,ntmps101->ż,func123->Δ,func101->Κ,ntmps96->Μ,ntmps45->Ν,ntmps30->Ο,func96->Ω,func45->ε,func35->ζ,func37->η,func15->ι,f38->ai
open Option renaming none->Á,some->Â,bind_eq_some_iff->Ü,bind_eq_bind->ê,map->ð,map_eq_some_iff->ò,isSome_none->ö,pure_def->ā,map_some->Ă,bind_some->ş
open Go.Value renaming pointer->Ã,string->Ä,int->Å,slice->Ç,tuple->ë,bool->õ,cells->Ĺ
open Go.Ending renaming returned->Æ
open Or renaming inl->È,inr->Ï
open Go.IntKind renaming i64->É,u64->ã,wrap_u64->Ć,wrap_i64->ŝ,u8->ū
open And renaming intro->Ê
open Bool renaming false->Ë,true->Î,false_eq_true->ì,eq_iff_iff->Ę
open Nat renaming le_trans->Ì,zero_le->Ø,le_refl->æ,lt_of_lt_of_le->Ġ,eq_zero_or_pos->ģ,zero_add->œ,mul_le_mul->ű
open Go renaming World->Í,Value->Ñ,Calls->Ò,Addr->ü,bodyPost_ret->ÿ,Act->Ĉ,Goroutine->Ċ,TypeId->č,Frame->Ē,Oper->ĝ,TypeInfo->ħ,maxLen->ī,undef->ĸ,results->Ń,execOp->ś,runNT_fst->Ţ,run_underlying->Ů,info_parts->ů,heap_alloc_new->Ŵ,Tape->ŷ,Trace->Ž,runNT->ſ,mem_ready->Β,wp_loop->Γ,wpList_plain->Ε,yielded->Ι,cell_one_new->Λ,FuncId->Ρ,Code->Τ,storeCells->ν,resolve->ρ,builtin->ς,Program->ω,invoke->ar
open Go.Item renaming inRegion->Ð,code->ax
open List renaming getElem?_eq_getElem->Ó,getElem?_eq_some_iff->Õ,length_append->Ù,mem_map->Ú,eq_nil_of_length_eq_zero->Ý,mem_append->â,mem_of_getElem?->ç,setIfInBounds_toArray->é,length_map->ù,set_cons_zero->ý,set_cons_succ->þ,replicate->ą,length_cons->ď,cons_append->Đ,mem_cons_of_mem->Ĕ,getElem?_of_mem->ĕ,append_nil->Ė,nil_append->ę,getElem_of_mem->Ĝ,getD->Ğ,getElem?_append_right->ğ,getElem?_append_left->Ĥ,extract_eq_take_drop->ĥ,mem_or_eq_of_mem_set->Ħ,take_add_one->Ĩ,getElem?_map->Ī,all_eq_true->ĭ,range->ĳ,set_append_right->Ĵ,length_pos_iff->Ņ,map_cons->ŉ,mem_singleton->ō,map_nil->Ő,append_assoc->ő,ext_getElem?->Ŕ,size_toArray->ř,length_take->Ś,map_toArray->Ŝ,mem_flatMap->Ş,length_nil->ũ,mem_range->Ŷ
open Option.some renaming injEq->Ô,inj->ag
open Go.Lib renaming byteCells->Ö,indexByte->Þ,strCells->į,hasPrefix->ź,TabIs->χ
open Go.Obj renaming cells->Û
open Go.Code renaming wp->ß,wp_mono->İ,loop->ń,skip->aj
open Go.World renaming cell?->à,setCell->Ż,drew->ξ,var?->ο
open Array renaming getElem?_eq_some_iff->á,getElem?_eq_getElem->å,mem_toList_iff->î,getElem_mem->ă,length_toList->ě,size_setIfInBounds->Ĭ,getElem?_eq_none->ı,mem_of_getElem?->ĵ,getElem?_modify->Ķ,getElem?_toList->ķ,toList_extract->ĺ,replicate->Ū
open Go.Region renaming ready->ä,wanted->đ,Mode->Ŀ
open Go.Frame renaming enter->è,finish_at->Ě
open Go.Conc.Goes renaming stop->ï
open Go.Ground renaming phase->ñ,data->ĉ
open Go.Conc renaming events_call_body->ô,crowd->Į,goes_leave1->Ŧ,Good->Ξ,goes_leave2->θ,listed->ay
open ByteArray renaming size_append->ø,getElem_eq_getElem_data->ċ,size_extract->Č,data_extract->Ĳ,size->ŭ,data->Ű,extract->σ,mk->aB
open Go.CallKind renaming normal->Ą
open Go.Region.linearise renaming go->ć
open Go.Great renaming wpList_runTo->Ď
open Go.Builtin renaming append_->ė,firstCells->Ō,lenOf->Ź,append->κ,zeroCells->φ
open Go.RowKit.Below renaming heap_setCell->ġ,heap_alloc->Š
open Go.IntWalk renaming i64_in->Ļ,i64_left->š
open Go.Made renaming word->ł,reckonStruct->ŕ,infoAt->ţ,mostCells->Ų,reckon->Χ
open Int renaming toNat_of_nonneg->ņ,le_refl->Ť
open Go.Operand renaming tmp->ň
open Go.Result renaming andThen_ok->ŏ,andThen->ų
variable{i n j b k m J j9 j7 j6:Nat}{w u W jX:Í}{v x z jQ:Ñ}{g:Ċ}{a p:ü}{h c:Int}{e t T:č}{d q:Array Ñ}{P:ω}{y:Ĉ}{B:ByteArray}{X:Nat->Prop}{O:Option ü}{l:List Ñ}{yQ:Bool}{K H:Ĉ->Í->Prop}{o:ĝ}{D:Nat->Nat}{E:Array Ċ}{L:List Go.Item}{jJ:List Nat}{qX:List Ē}{qJ:Ž}{zX:Go.Loc->Prop}{zQ:List Int}{zJ:ħ}{xQ:ŷ}{xJ:Nat×Nat}{vX:List ByteArray}{vQ:Ñ->Í->Prop}{vJ:Go.Exit->Ĉ->Í->Prop}{Q:Array ĝ}{f:Ē}{F:Ρ}{s:Go.Func}
namespace Go.Proofs.Y.gy
open Go Go.Proofs Go.RowKit Go.Proofs.Y.Lift
def Cn:Τ->Option Τ
 |ń c=>Â c
 |.seq a b=>match Cn b with
  |some c=>Â c
  |none=>Cn a
 |.block _ c=>Cn c
 |.scope c=>Cn c
 |.cond _ a b=>match Cn b with
  |some c=>Â c
  |none=>Cn a
 |_=>Á
noncomputable def Mx:Τ:=(ai.body.bind kt).getD aj
noncomputable def My:Τ:=(ai.body.bind Cn).getD aj
def QE(k:Nat)(X:Ĉ->Í->Prop):Exit->Ĉ->Í->Prop
 |.exit i,a,w=>i=k/\X a w
 |_,_,_=>False
def nK(a:ByteArray)(b:List ByteArray):List UInt8:=b.flatMap λy=>a.data.toList++y.data.toList
def T0(a:ByteArray):List ByteArray->List UInt8
 |[]=>[]
 |x::r=>x.data.toList++nK a r
def iL(xs:List ByteArray):Nat:=(xs.map ŭ).sum
def T1(a b:List ByteArray):iL (a++b)=iL a+iL b:=by simp[iL]
def aaM(a:List ByteArray)(j:Nat):iL (a.take j)<=iL a:=by have h:=T1 (a.take j)<|a.drop j;simp_all
theorem Mz(a:ByteArray)(c:a.size=1):∀b:List ByteArray,(nK a b).length=iL b+b.length
 |[]=>rfl
 |x::r=>by
  have e:nK a (x::r)=(a.data.toList++x.data.toList)++nK a r:=U;have d:a.data.toList.length=1:=by simpa using c
  have f:x.data.toList.length=x.size:=fj
  have g:iL (x::r)=x.size+iL r:=by simp[iL]
  rw[e,Ù,Ù,Mz a c r,d,f,g,ď];omega
def E0(a:Option ü)(n b:Nat)(c:ByteArray)(m i:Int)(u:Nat->Ñ):Ĉ:=⟨#[Ç a n b,Ä c,u 2,u 3,u 4,Å É m,u 6,u 7,u 8,u 9,u 10,u 11,u 12,u 13,u 14,u 15,u 16,u 17,u 18,u 19,u 20,u 21,u 22,u 23,u 24,u 25,u 26,u 27,u 28,u 29,u 30,u 31,u 32,u 33,u 34,u 35,u 36,u 37,u 38,Ç a n b,Å É n,Å É i,u 42,u 43,u 44,u 45,u 46,u 47,u 48,u 49,u 50,u 51,u 52,u 53,u 54,u 55,u 56,u 57,u 58,u 59,u 60,u 61,u 62,u 63,u 64,u 65,u 66,u 67,u 68,u 69,u 70,u 71,u 72,u 73,u 74],[]⟩
def E1(b:Option ü)(n c:Nat)(d:ByteArray)(m i:Int)(a:Ĉ):Prop:=∃u,a=E0 b n c d m i u
def qD(a:Option ü)(n c b:Nat)(d:ByteArray)(i:Int)(u:Nat->Ñ):Ĉ:=⟨#[u 0,Ä d,u 2,u 3,u 4,u 5,u 6,u 7,Ã<|Â ⟨b,0,Á⟩,u 9,u 10,u 11,u 12,u 13,u 14,u 15,u 16,u 17,u 18,u 19,u 20,u 21,u 22,u 23,u 24,u 25,u 26,u 27,u 28,u 29,u 30,u 31,u 32,u 33,u 34,u 35,u 36,u 37,u 38,u 39,u 40,u 41,u 42,u 43,u 44,u 45,u 46,u 47,u 48,u 49,u 50,u 51,u 52,u 53,u 54,u 55,u 56,u 57,u 58,u 59,u 60,u 61,u 62,Ç a n c,Å É n,Å É i,u 66,u 67,u 68,u 69,u 70,u 71,u 72,u 73,u 74],[]⟩
def E2(c:Option ü)(n d b:Nat)(e:ByteArray)(i:Int)(a:Ĉ):Prop:=∃u,a=qD c n d b e i u
section
variable{X:Ĉ->Í->Prop}{sep:ByteArray}{xs:List ByteArray}
def ape(u:Nat->Ñ)(m:Int)(b:∀a,E1 O n i sep m n a->X a w): ß À Mx (Exit.then K<|QE 1 X) (E0 O n i sep m n u) w:=by
 unfold E0;conv=>arg 2;whnf
 go_wp2_with fail
 exact⟨U,b _ (gi _)⟩
def apf(u:Nat->Ñ)(m j:Nat)(f:j<n)(g:n<=1000000)(b c:Nat)(e:O=Â ⟨b,c,Á⟩)(x:ByteArray)(h:w.cell? ⟨b,c+j,Á⟩=Â (Ä x))(k:m+x.size<=140737488355328) (d:∀a,E1 O n i sep ((m+x.size:Nat):Int) ((j+1:Nat):Int) a->K a w): ß À Mx (Exit.then K<|QE 1 X) (E0 O n i sep m j u) w:=by
 unfold E0;conv=>arg 2;whnf
 subst e;have H:=fc d;clear d;go_wp2_with fail;exact H.out _ (gi _)
def J1(O:Option ü)(n i:Nat)(sep:ByteArray)(b:Nat)(xs:List ByteArray)(u:Í)(a:Ĉ)(w:Í):Prop:=
 ∃j:Nat,E1 O n i sep ((b+iL (xs.take j):Nat):Int) j a/\j<=n/\w=u
def J1E(O:Option ü)(n i:Nat)(sep:ByteArray)(b:Nat)(xs:List ByteArray)(u:Í)(a:Ĉ)(w:Í):Prop:=
 E1 O n i sep ((b+iL xs:Nat):Int) n a/\w=u
def MA(n:Nat)(a:Ĉ)(_:Í):Nat:=match a.tmps.getD 41 ĸ with
 |Å _ i=>n-i.toNat
 |_=>0
def aaN(b:E1 O n i sep h j y):MA n y w=n-j:=by obtain⟨u,rfl⟩:=b;show n-(j:Int).toNat=_;simp
theorem apg(r:n=xs.length)(f:n<=1000000)(g:nJ O (jo xs) u)(s:j+iL xs<=140737488355328)(a:Ĉ)(w:Í)(h:J1 O n i sep j xs u a w): ß À Mx (Exit.then (λb c=>J1 O n i sep j xs u b c/\MA n b c<MA n a w)<|QE 1<|J1E O n i sep j xs u) a w:=by
 obtain⟨b,d,t,rfl⟩:=h;rw[aaN d];obtain⟨c,rfl⟩:=d;by_cases k:b=n
 .subst k;refine ape c _ λa q=>⟨?_,U⟩;grind
 .obtain⟨x,e⟩:∃x,xs[b]?=Â x:=⟨_,Ó Z⟩;let⟨l,m,o,p⟩:=g b (Ä x) (by simp[jo,e]);have v:iL (xs.take<|b+1)=iL (xs.take b)+x.size:=by
   rw[Ĩ,e,T1];simp[iL]
  have y:=aaM xs<|b+1;refine apf c _ b Z f l m o x p Z λa q=>⟨⟨b+1,?_,Z,U⟩,by rw[aaN q];omega⟩;grind
def aph(u:Nat->Ñ)(c:∀a,E2 O n i b sep n a->X a w): ß À My (Exit.then K<|QE 3 X) (qD O n i b sep n u) w:=by
 unfold qD;conv=>arg 2;whnf
 go_wp2_with fail
 exact⟨U,c _ (gi _)⟩
def apj(c:Nat->Ñ)(j:Nat)(y:j<n)(z:n<=1000000)(d f:Nat)(o:O=Â ⟨d,f,Á⟩)(x:ByteArray)(p:u.cell? ⟨d,f+j,Á⟩=Â (Ä x))(l:List UInt8)(g:oX u b (Ö l) w)(q:sep.size=1)(B:l.length+1+x.size<=140737488355328) (r:∀a h,E2 O n i b sep ((j+1:Nat):Int) a->oX u b (Ö<|l++(sep.data.toList++x.data.toList)) h->K a h): ß À My (Exit.then K<|QE 3 X) (qD O n i b sep j c) w:=by
 unfold qD;conv=>arg 2;whnf
 subst o;have C:=g.r.r p id;have k:=Lib.byteCells_length l;have s:(Ö l++į sep).length=l.length+1:=by rw[Ù,k,Lib.strCells_length,q]
 have E:Ö l++į sep++į x=Ö (l++(sep.data.toList++x.data.toList)):=by simp[Ö,į]
 have H:=fc<|Ê g<|Ê r<|Ê k<|Ê s E;go_wp2_with (first
  |(go_at_call 55;refine(TY t.out x<|by rw[H.out.2.2.2.1];omega).mono ?_;rintro e D ⟨rfl,m⟩;have v:=fc m;clear m)
  |(go_at_call 55;refine(TY H.out.1 sep (by rw[H.out.2.2.1];omega)).mono ?_;rintro e D ⟨rfl,m⟩;have t:=fc m;clear m))
 apply H.out.2.1 _ _ (gi _);rw[<-H.out.2.2.2.2];exact v.out
def J2(O:Option ü)(n i b:Nat)(sep:ByteArray)(c:List UInt8)(xs:List ByteArray)(u:Í)(a:Ĉ)(w:Í):Prop:=
 ∃j:Nat,E2 O n i b sep j a/\j<=n/\oX u b (Ö<|c++nK sep (xs.take j)) w
def J2E(O:Option ü)(n i b:Nat)(sep:ByteArray)(c:List UInt8)(xs:List ByteArray)(u:Í)(a:Ĉ)(w:Í):Prop:=
 E2 O n i b sep n a/\oX u b (Ö<|c++nK sep xs) w
def MB(n:Nat)(a:Ĉ)(_:Í):Nat:=match a.tmps.getD 65 ĸ with
 |Å _ i=>n-i.toNat
 |_=>0
def aaO(c:E2 O n i b sep j y):MB n y w=n-j:=by obtain⟨u,rfl⟩:=c;show n-(j:Int).toNat=_;simp
theorem apk{d:List UInt8}(z:n=xs.length)(h:n<=1000000)(k:sep.size=1)(l:nJ O (jo xs) u)(B:d.length+iL xs+n<=140737488355328)(a:Ĉ)(w:Í)(m:J2 O n i b sep d xs u a w): ß À My (Exit.then (λc e=>J2 O n i b sep d xs u c e/\MB n c e<MB n a w)<|QE 3<|J2E O n i b sep d xs u) a w:=by
 let⟨j,g,C,o⟩:=m;rw[aaO g];obtain⟨c,rfl⟩:=g;by_cases p:j=n
 .subst p;refine aph c λa q=>⟨q,?_⟩;grind
 .obtain⟨x,f⟩:∃x,xs[j]?=Â x:=⟨_,Ó Z⟩;let⟨r,s,t,v⟩:=l j (Ä x) (by simp[jo,f]);have D:iL (xs.take<|j+1)=iL (xs.take j)+x.size:=by
   rw[Ĩ,f,T1];simp[iL]
  have E:=aaM xs<|j+1;have y:(d++nK sep (xs.take j)).length=d.length+iL (xs.take j)+j:=by grind [Ù,Mz,Ś]
  have F:nK sep (xs.take<|j+1)=nK sep (xs.take j)++(sep.data.toList++x.data.toList):=by rw[Ĩ,f];simp[nK]
  refine apj c j Z h r s t x v _ o k (by rw[y];omega) λa e q G=>⟨⟨j+1,q,Z,?_⟩,by rw[aaO q];omega⟩;grind
end
section
variable{sep:ByteArray}{xs:List ByteArray}
def jb(sep:ByteArray)(xs:List ByteArray):ByteArray:=⟨(T0 sep xs).toArray⟩
def apl:Ò À 38 #[Ç O 0 i,Ä sep] w λe a=>e=Æ (Ä ⟨#[]⟩)/\e8 ff w a:=by go_enter ē,Ŏ;go_wp2_with fail;go_ret;exact⟨U,e8.fV _ _⟩
def apm(a b:Nat)(x:ByteArray)(d:w.cell? ⟨a,b,Á⟩=Â (Ä x)):Ò À 38 #[Ç (Â ⟨a,b,Á⟩) 1 i,Ä sep] w λe c=>e=Æ (Ä x)/\e8 ff w c:=by go_enter ē,Ŏ;go_wp2_with fail;go_ret;exact⟨U,e8.fV _ _⟩
theorem apn(k:Nat)(K:1<=k)(L:k<1000000)(c d:Nat)(M:k+1<=i)(B:sep.size=1)(x:ByteArray)(g:k=xs.length)(f:nJ (Â ⟨c,d,Á⟩) (jo<|x::xs) w)(C:iL (x::xs)+(k+1)<=140737488355328): Ò À 38 #[Ç (Â ⟨c,d,Á⟩) (k+1) i,Ä sep] w λe b=>e=Æ (Ä<|jb sep<|x::xs)/\e8 ff w b:=by
 have D:iL (x::xs)=x.size+iL xs:=by simp[iL]
 have m:∀a,E1 (Â ⟨c,d,Á⟩) (k+1) i sep ((k+iL ((x::xs).take 0):Nat):Int) (0:Nat) a->ß À (ń Mx) (QE 1<|J1E (Â ⟨c,d,Á⟩) (k+1) i sep k (x::xs) w) a w:=λa h=>
  Γ (J1 (Â ⟨c,d,Á⟩) (k+1) i sep k (x::xs) w) (MA<|k+1) ⟨0,h,Ø _,U⟩<|apg (by simp[g]) Z f Z
 have n:nJ (Â ⟨c,d+1,Á⟩) (jo xs) w:=λj u E=>by let⟨b,o,z,l⟩:=f (j+1) u (by simpa[jo]using E);grind
 have p:∀a W,E2 (Â ⟨c,d+1,Á⟩) k (i-1) w.heap.size sep (0:Nat) a->oX w w.heap.size (Ö<|x.data.toList++nK sep (xs.take 0)) W->ß À (ń My) (QE 3<|J2E (Â ⟨c,d+1,Á⟩) k (i-1) w.heap.size sep x.data.toList xs w) a W:=λa W h o=>
  Γ (J2 (Â ⟨c,d+1,Á⟩) k (i-1) w.heap.size sep x.data.toList xs w) (MB k) ⟨0,h,Ø _,o⟩<|apk g Z B n (by simp only[ě];have:x.data.size=x.size:=rfl;omega)
 let⟨_,_,F,q⟩:=f 0 (Ä x) U;cases F;have r:w.cell? ⟨c,d,Á⟩=Â (Ä x):=q;have s:x.data.toList++nK sep xs≠[]:=by grind [Ù,Mz,ũ]
 have N:(1:Int)<9223372036854775807/(k:Int):=by rw[Int.lt_iff_add_one_le,Int.le_ediv_iff_mul_le Z];omega
 have t:0<k+iL (x::xs)/\k+iL (x::xs)<=281474976710656:=Z
 have y:(Ö []).length+x.size<=140737488355328:=by simp[Ö];omega
 have H:=fc<|Ê m<|Ê p<|Ê t<|Ê y<|Ê s r;clear m p t y s q r f n g C D;generalize G:iL (x::xs)=S at*;go_enter ē,Ŏ;go_wp2_with fail;refine İ ?_ (H.out.1 _ (gi _));rintro(_|_|_|_|_|_) a v hq;all_goals first|exact absurd hq id|skip
 obtain⟨rfl,b,rfl⟩:=hq;rw[G]at b;obtain⟨u,rfl⟩:=b;unfold E0;go_wp2_with (first
  |(go_at_call 54;refine(apc ⟨æ _,e8.gH _ _ _ _,fg.N v [Ã Á,Ç Á 0 0] 109⟩ (k+S) H.out.2.2.1.1 H.out.2.2.1.2).mono ?_;rintro e I ⟨rfl,l⟩;have J:=l.r.r H.out.2.2.2.2.2 id;have z:=fc l;clear l)
  |(go_at_call 55;refine(TY z.out x H.out.2.2.2.1).mono ?_;rintro e l ⟨rfl,z⟩;have I:=fc z;clear z))
 have J:oX v v.heap.size (Ö<|x.data.toList++nK sep (xs.take 0)) l:=by have:=I.out;show oX v v.heap.size (Ö<|x.data.toList++[]) l;rw[Ė];exact this
 refine İ ?_ (H.out.2.1 _ _ (gi _) J);rintro(_|_|_|_|_|_) a w3 hq;all_goals first|exact absurd hq id|skip
 obtain⟨rfl,b,o⟩:=hq;obtain⟨v,rfl⟩:=b;unfold qD;go_wp2_with (go_at_call 56;refine(apd (fc o).out H.out.2.2.2.2.1).mono ?_;rintro e O ⟨rfl,z⟩;have I:=fc z;clear z);go_ret;exact⟨U,I.out⟩
def T3(a:n=xs.length)(f:n<=1000000)(g:n<=i)(h:sep.size=1)(b:nJ O (jo xs) w)(j:iL xs+n<=140737488355328): Ò À 38 #[Ç O n i,Ä sep] w λe c=>e=Æ (Ä<|jb sep xs)/\e8 ff w c:=by
 cases xs with
 |nil=>subst a;exact apl
 |cons x r=>
  let⟨c,d,k,l⟩:=b 0 (Ä x) U;subst k;cases r with
  |nil=>
   subst a;have e:jb sep [x]=x:=by show aB ((x.data.toList++[]).toArray)=x;rw[Ė]
   rw[e];exact apm c d x l
  |cons y r=>
   subst a;exact apn (r.length+1) Z (by simp at f;omega) c d g h x U b j
def apo(a:n=xs.length)(c:n<=1000000)(d:n<=i)(h:nJ O (jo xs) w)(f:iL xs+n<=140737488355328): Ò À 123 #[Ç O n i] w λe b=>e=Æ (Ä<|if xs=[]then⟨#[45]⟩else jb ⟨#[44]⟩ xs)/\e8 ff w b:=by
 have H:=fc<|T3 (sep:=⟨#[44]⟩) a c d U h f;by_cases b:xs=[]
 .subst b;have e:=a;subst e;rw[if_pos U];clear a f H c d;go_enter Δ,Ÿ;go_wp2_with fail;go_ret;exact⟨U,e8.fV _ _⟩
 .rw[if_neg b];have k:0<n:=by rw[a];exact Ņ.2 b
  have l:((n:Int)==0)=Ë:=by simp;omega
  clear a;generalize jb ⟨#[44]⟩ xs=z at*;go_enter Δ,Ÿ;go_wp2_with (go_at_call 38;apply H.out.mono;rintro e m ⟨rfl,g⟩;have j:=fc g;clear g);go_ret;exact⟨U,j.out⟩
end
def E3{M:Nat}:∀(a:List ByteArray),(∀z∈a,z.size<=M)->iL a<=M*a.length
 |[],_=>Ø _
 |x::r,h=>by
  have c:=E3 r λz b=>h z<|Ĕ _ b;have d:=h x fj;have e:iL (x::r)=x.size+iL r:=by simp[iL]
  rw[e,ď,Nat.mul_add];omega
def MC{e:Nat×Int}(h:gf e.2):(qZ e).size<=21:=by unfold qZ;rw[ø];have:=yf e.1;have:=pI e.2.toNat (by have:=h.1;have:=h.2;omega);omega
def aaP{e:Int×Bool}(a:0<=e.1)(h:e.1<=400):(EX e).size<=41:=by unfold EX;rw[ø,ø];have:=pI e.1.toNat Z;have:=pI e.2.toNat (by cases e.2<;>decide);have:ŭ ⟨#[58]⟩=1:=rfl;omega
section
variable{b:List ByteArray}
def aaQ{ty:č}{base:Nat}(b:P.underlying t=Â (.slice e))(d:P.info? e=Â zJ)(h:w.ownsRow base e j v n l)(a:Option ü)(c:Nat): (ė #[t,t] ty #[v,Ç a 0 c]).run P w=.ok v w:=by
 have f:(Ō zJ.size 0<|Ç a 0 c).run P w=.ok #[] w:=by cases a<;>simp[Ō,loadCells,loadCellsFrom]
 rcases h.2 with⟨rfl,rfl⟩|⟨g,m,o,rfl,_,_,k,_⟩
 .simp[ė,Ů b,sizeOf,typeInfo,d,Ź,f,ν]
 .simp[ė,Ů b,sizeOf,typeInfo,d,Ź,f,k,ν]
def apq{r:Array ĝ}{t:List ĝ}(l:o.guard=Á)(s c:Operand) (m:o.op=.call {callee:=.builtin κ,args:=#[s,c],argTypes:=#[25,25]}) (d:ij u v vX w) (n:y.eval s=v) {base:Nat} (B:w.ownsRow base 9 1 x b.length (jo b)) (e:y.eval c=x) (I:vX.length+b.length<=1000000) (h:∀j k,ij u j (vX++b) k->wpList À r vJ t (y.put o.dst j) k):wpList À r vJ (o::t) y w:=by
 let⟨J,p,D,E,F⟩:=ů zZ;rcases B.2 with⟨f,G⟩|⟨g,H,L,f,_⟩
 .have z:=Ý G;subst z;rw[f]at e;refine Ε l λK i=> ?_;have q:=aaQ (ty:=o.type) ĩ p d.fl Á 0;unfold Oper.wp ś;simp only[m,ρ,ar,ς,Sem.run_bind,Sem.run_pure,ŏ,Ŝ,ŉ,Ő,n,e,q];exact i _ _<|h v w<|by rwa[Ė]
 .by_cases C:b=[]
  .subst C;rw[f]at e;refine Ε l λK i=> ?_;have q:=aaQ (ty:=o.type) ĩ p d.fl (Â ⟨g,0,Á⟩) H;unfold Oper.wp ś;simp only[m,ρ,ar,ς,Sem.run_bind,Sem.run_pure,ŏ,Ŝ,ŉ,Ő,n,e,q,ũ];exact i _ _<|h v w<|by rwa[Ė]
  .have K:=Ņ.2 C;refine B4 l s c 25 m ĩ p D E F U n d.fl ⟨g,0,Á⟩ (jo b) (e.trans f) K (by simp[jo]) (B.cells<|by rw[f];rfl) (λi q=>by unfold jo at q;obtain⟨z,_,rfl⟩:=Ú.1 q;rfl) (by unfold ī;omega) Z d.r.M ?_;intro j k z;refine h j k ⟨?_,d.r.C z.r λi M q=> ?_⟩
   .have:=z.fl;rwa[show jo vX++jo b=jo (vX++b) by simp[jo],show vX.length+b.length=(vX++b).length by simp]at this
   .have:=(d.fl.lt i q).1;omega
end
def ij.I(h:ij u (Ç O n i) vX w):nJ O (jo vX) w/\n=vX.length/\n<=i:=by
 rcases h.fl.2 with⟨b,d⟩|⟨g,f,k,b,_,_,d,_⟩
 .cases b;refine⟨λj x e=> ?_,d.symm,æ _⟩;rw[Ý d]at e;cases e
 .have e:n=vX.length:=by injection b
  subst e;injection b with _ _ h4;exact⟨nJ.r h.fl,U,by rwa[h4]⟩
def Co(r:zI):ByteArray:=jb ⟨#[44]⟩<|[fJ r.C.toNat,fJ r.M.toNat,fJ r.r.toNat]++r.I.map qZ
theorem apr(x y:Nat)(g k:Int)(b c:Nat)(a:Bool)(f:List (Nat×Int))(L:b<18446744073709551616)(M:c<18446744073709551616)(S:f.length<=400000)(V:yc f)(W:lO w) (T:Ò À 158 #[Ã<|Â ⟨i,0,Á⟩,Å É x,Å É y,Å ã g,Å ã k] w λe h=>∃B,e=Æ (ë #[.agg #[Å ã b,õ a,Å ã c],B])/\h.ownsRow 0 257 2 B f.length (kr f)/\e8 ff w h): Ò À 119 #[Ã<|Â ⟨i,0,Á⟩,Å É x,Å É y,Å ã g,Å ã k] w λe h=>e=Æ (Ä<|jb ⟨#[44]⟩<|[fJ a.toNat,fJ c,fJ b]++f.map qZ)/\e8 ff w h:=by
 have N:a.toNat<18446744073709551616:=by cases a<;>decide
 have H:=fc<|Ê T<|Ê W V;go_enter Tryz.func119,Tryz.ntmps119;go_wp2_with (go_at_call 158;apply H.out.1.mono;rintro e j ⟨B,rfl,q,d⟩;obtain⟨v,Q,rfl⟩:=jh q;have C:=fc<|Ê d q;clear d q);change ß À _ _ _ (j.alloc<|Û #[Å ã b,õ a,Å ã c] 252);have D:=(e8.gH ff j #[Å ã b,õ a,Å ã c] 252).fe<|e8.fT _ _;have E:=(H.out.2.1.r C.out.1).r D;have o:=(fg.N j [Å ã b,õ a,Å ã c] 252).I (e8.fT ff _) id;have O:=C.out.1.fe D;have X:=ig C.out.2 D λ_ _=>id;refine mq (λh=>h.cell? ⟨j.heap.size,0,Á⟩=Â (Å ã b)/\h.cell? ⟨j.heap.size,1,Á⟩=Â (õ a)/\h.cell? ⟨j.heap.size,2,Á⟩=Â (Å ã c)) [] fp ?_;have l:=fc<|Ê (o.r 0 _ rfl)<|Ê (o.r 1 _ rfl)<|o.r 2 _ rfl;generalize j.heap.size=ob at*;generalize ξ (j.alloc<|Û #[Å ã b,õ a,Å ã c] 252)=w5 at*;iterate 3 apply tk l.out
 apply tk l.out 5;apply tk l.out 6;apply tk l.out 8;apply tk l.out 9;apply tk l.out 10;apply gB 3;intro K d;go_simp;go_at_call 159;refine(HY _ _).mono ?_;rintro e Y ⟨rfl,qP⟩;subst Y;rw[aaE];apply d.out _ _ λ_=>l.out;apply gB 4;intro K d;go_simp;go_at_call 118;refine(yd a.toNat N _ E).mono ?_;rintro e wa ⟨rfl,p⟩;have r:=o.I p id;have P:=E.r p;apply d.out _ _ λ_=>⟨r.r 0 _ U,r.r 1 _ U,r.r 2 _ U⟩;apply gB 7;intro K d;go_simp;go_at_call 118;refine(yd c M _ P).mono ?_;rintro e wb ⟨rfl,s⟩;have t:=r.I s id;have Pb:=P.r s;apply d.out _ _ λ_=>⟨t.r 0 _ U,t.r 1 _ U,t.r 2 _ U⟩;apply gB 11;intro K d;go_simp;go_at_call 118;refine(yd b L _ Pb).mono ?_;rintro e m ⟨rfl,F⟩;have u:=t.I F id;have n:=u.I (e8.gH ff m #[Ä<|fJ a.toNat,Ä<|fJ c,Ä<|fJ b] 9) id;apply d.out _ _ λ_=>⟨u.r 0 _ U,u.r 1 _ U,u.r 2 _ U⟩;apply gB 12;intro K d;go_simp;apply d.out _ _ λ_=>⟨n.r 0 _ U,n.r 1 _ U,n.r 2 _ U⟩;apply gB 13;intro K d;go_simp;apply d.out _ _ λ_=>⟨n.r 0 _ U,n.r 1 _ U,n.r 2 _ U⟩;refine lY fp ?_ _;have G:e8 ff w5 (m.alloc<|Û #[Ä<|fJ a.toNat,Ä<|fJ c,Ä<|fJ b] 9):=((p.fe s).fe F).fe<|e8.gH _ _ _ _;have T6:ij w (Ç (Â ⟨m.heap.size,0,Á⟩) 3 3) [fJ a.toNat,fJ c,fJ b] (m.alloc<|Û #[Ä<|fJ a.toNat,Ä<|fJ c,Ä<|fJ b] 9):=⟨World.ownsRow_lit m #[Ä<|fJ a.toNat,Ä<|fJ c,Ä<|fJ b] 3 (Ì O.M ((p.fe s).fe F).M) (by unfold ī;omega) U,O.fe G⟩;have L6:=ig X G λ_ _=>id;have P6:=E.r G;have I:=fc<|Ê T6<|Ê L6 P6;generalize m.alloc (Û #[Ä<|fJ a.toNat,Ä<|fJ c,Ä<|fJ b] 9)=w6 at*;generalize m.heap.size=tb at*;have jH:∀z∈[fJ a.toNat,fJ c,fJ b]++f.map qZ,z.size<=21:=λz hz=>by
  rcases â.1 hz with q|q
  .have h1:=pI a.toNat N;have h2:=pI c M;have v:=pI b L;grind
  .obtain⟨e,v,rfl⟩:=Ú.1 q;exact MC (H.out.2.2 e v).2
 have sN:=E3 _ jH;have hlen:([fJ a.toNat,fJ c,fJ b]++f.map qZ).length=3+f.length:=by simp;omega
 have J:=fc<|Ê sN hlen;go_wp2_with (first
  |(go_at_call 124;refine(aaD U S H.out.2.2 I.out.2.2<|nJ.r I.out.2.1).mono ?_;rintro e v ⟨lt,rfl,q⟩;obtain⟨ta,tc,rfl⟩:=jh q.fl;rw[ù]at q;have Q:=fc q;clear q)
  |(at_builtin;refine apq U _ _ U (I.out.1.fL Q.out.r) U Q.out.fl U (by simp;omega) ?_;intro cv w8 v;obtain⟨ca,cc,rfl⟩:=jh v.fl;generalize([fJ a.toNat,fJ c,fJ b]++f.map qZ).length=cn at v|-;have q:=fc v;clear v)
  |(go_at_call 38;refine(T3 q.out.I.2.1 (by have:=q.out.I.2.1;rw[this,J.out.2];omega) q.out.I.2.2 U q.out.I.1 (by have:=q.out.I.2.1;have h1:=J.out.1;have h2:=J.out.2;omega)).mono ?_;rintro e w9 ⟨rfl,v⟩;have Q:=fc v;clear v))
 go_ret;exact⟨U,q.out.r.fe Q.out⟩
def aps{s:St}(v:my i s h w)(b:gI s)(z:iK w)(B:lO w)(x y:Nat)(g k:Int)(c:x<8)(d:y<8)(f:0<=g)(j:g<=100000)(l:gf k): Ò À 119 #[Ã<|Â ⟨i,0,Á⟩,Å É x,Å É y,Å ã g,Å ã k] w λe q=>e=Æ (Ä<|Co<|gk s [] x y g k)/\e8 ff w q:=by have T:=aaA v b z x y g k c d f j l _ U;have e:=L0 s [] x y g k b c d l f j (by simp;omega);have m:=TK s [] x y g k b c d l f j (by simp;omega) (λ_ q=>by cases q);obtain⟨q,o,a,t,p,C⟩:∃q o a t p,gk s [] x y g k=⟨q,o,a,t,p⟩:=⟨_,_,_,_,_,U⟩;rw[C]at T e m|-;have D:=e.C;have E:=e.r;have r:=e.M;have u:=e.I;simp only at D E r u m T;obtain⟨F,rfl⟩:∃n:Nat,q=n:=⟨q.toNat,Z⟩;obtain⟨G,rfl⟩:∃n:Nat,a=n:=⟨a.toNat,by have:=r.1;omega⟩;exact apr x y g k F G o p Z (by have:=r.2;omega) (by simp at u;omega) m B T
def qu(w:Í):Prop:=w.cell? ⟨4,15,Á⟩=Â (Å ū 4)
def qu.r(h:qu w)(k:e8 ff w u):qu u:=k.r h id
def apt(c:qu w):Ò À 207 #[Å ã 16] w λe a=>e=Æ (Å É 4)/\a=w:=by
 unfold qu at c;have b:ã.wrap (bits BinOp.and ã 16 (ã.wrap<|-16)*285870213051353865)/288230376151711744=15:=A
 go_enter Tryz.func207,Tryz.ntmps207;go_wp2;go_ret;exact⟨U,U⟩
def tz(c:qu w):Ò À 201 #[Å ã 16] w λe a=>e=Æ (Å É 4)/\a=w:=by go_enter Tryz.func201,Tryz.ntmps201;go_wp2_with (go_at_call 207;refine(apt c).mono ?_;rintro e a ⟨rfl,b⟩;subst a);go_ret;exact⟨U,U⟩
def apu:Ò À 200 #[Å É 16] w λe a=>e=Æ (õ Î)/\a=w:=by
 have b:bits BinOp.and É 16 15=0:=A
 go_enter Tryz.func200,Tryz.ntmps200;go_wp2;go_ret;simp_all
def oY(d:Nat):UInt8:=if h:d<36 then(⟨#[48,49,50,51,52,53,54,55,56,57,97,98,99,100,101,102,103,104,105,106,107,108,109,110,111,112,113,114,115,116,117,118,119,120,121,122]⟩:ByteArray)[d]'h else 0
def se:Nat->Nat->List UInt8->List UInt8
 |0,_,acc=>acc
 |k+1,n,acc=>if n<16 then oY n::acc else se k (n/16) (oY (n%16)::acc)
def aaR:∀k n a,(se k n a).length<=k+a.length
 |0,_,a=>by simp[se]
 |k+1,n,a=>by
  unfold se;split
  .simp;omega
  .have:=aaR k (n/16)<|oY (n%16)::a;simp at this;omega
noncomputable def MD:Τ:=(Tryz.f190.body.bind kt).getD aj
def E4(a:Nat)(n i:Int)(u:Nat->Ñ):Ĉ:=⟨#[u 0,Å ã n,Å É 16,õ Ë,õ Ë,u 5,u 6,u 7,u 8,u 9,Ç Á 0 0,u 11,Ã<|Â ⟨a,0,Á⟩,Å É i,Å ã 4,Å ã 16,Å ã 15,u 17,u 18,u 19,u 20,u 21,u 22,u 23,u 24,u 25,u 26,u 27,u 28,u 29,u 30,u 31,u 32,u 33,u 34,u 35,u 36,u 37,u 38,u 39,u 40,u 41,u 42,u 43,u 44,u 45,u 46,u 47,u 48,u 49,u 50,u 51,u 52,u 53,u 54,u 55,u 56,u 57,u 58,u 59,u 60,u 61,u 62,u 63,u 64,u 65,u 66,u 67,u 68,u 69,u 70,u 71,u 72,u 73,u 74,u 75,u 76,u 77,u 78,u 79,u 80,u 81,u 82,u 83,u 84,u 85,u 86,u 87,u 88,u 89,u 90,u 91,u 92,u 93,u 94,u 95,u 96,u 97,u 98,u 99,u 100,u 101],[]⟩
def E5(b:Nat)(n i:Int)(a:Ĉ):Prop:=∃u,a=E4 b n i u
def zc(i:Nat)(a:List UInt8):List Ñ:=ą i (Å ū 0)++Ö a
def aaS(i:Nat)(a:List UInt8):(zc i a).length=i+a.length:=by simp[zc,Ö]
theorem aaT(i:Nat)(a:List UInt8)(c:UInt8):(zc (i+1) a).set i (Å ū c.toNat)=zc i (c::a):=by unfold zc;rw[List.replicate_succ',ő,Ĵ _ _ fj];simp[Ö]
section
variable{X:Ĉ->Í->Prop}
def apv(u:Nat->Ñ)(n b:Nat)(d:n<16)(c:∀a,E5 i n b a->X a w): ß À MD (Exit.then K<|QE 0 X) (E4 i n b u) w:=by
 unfold E4;conv=>arg 2;whnf
 go_wp2_with fail
 exact⟨U,c _ (gi _)⟩
def apw(u:Nat->Ñ)(n b:Nat)(g:16<=n)(h:n<18446744073709551616)(j:b<65)(v:Ñ)(c:w.cell? ⟨i,b,Á⟩=Â v)(k:w.frozen? ⟨i,b,Á⟩=Ë) (e:∀a,E5 i ((n/16:Nat):Int) b a->K a (w.setCell ⟨i,b,Á⟩<|Å ū (oY<|n%16).toNat)): ß À MD (Exit.then K<|QE 0 X) (E4 i n ((b+1:Nat):Int) u) w:=by
 unfold E4;conv=>arg 2;whnf
 have l:bits BinOp.and ã (n:Int) 15=((n%16:Nat):Int):=by have:=(bits_nat ã 64 A (λn f H=>by rw[Ć];omega) n 15 Z A).1;rwa[show(15:Nat)=2^4-1 from rfl,Nat.and_two_pow_sub_one_eq_mod]at this
 have f:n%16<36:=Z
 have m:(⟨#[48,49,50,51,52,53,54,55,56,57,97,98,99,100,101,102,103,104,105,106,107,108,109,110,111,112,113,114,115,116,117,118,119,120,121,122]⟩:ByteArray)[n%16]'f=oY (n%16):=by unfold oY;rw[dif_pos f]
 have H:=fc e;clear e;generalize o:n%16=d at*;go_wp2_with fail;exact H.out _ (gi _)
def XI(i:Nat)(u:Í)(d:List UInt8)(a:Ĉ)(w:Í):Prop:=
 ∃(n b:Nat) (c:List UInt8),E5 i n b a/\50<=b/\b+c.length=65/\n<16^(b-49)/\n<18446744073709551616/\e8 (λk=>k=i) u w/\fg i (zc b c) 292 w/\se (b-49) n c=d
def XE(i:Nat)(u:Í)(d:List UInt8)(a:Ĉ)(w:Í):Prop:=
 ∃(n b:Nat) (c:List UInt8),E5 i n b a/\n<16/\50<=b/\b+c.length=65/\e8 (λk=>k=i) u w/\fg i (zc b c) 292 w/\oY n::c=d
def ME(a:Ĉ)(_:Í):Nat:=match a.tmps.getD 1 ĸ with
 |Å _ i=>i.toNat
 |_=>0
def aaU(b:E5 i n j y):ME y w=n:=by obtain⟨u,rfl⟩:=b;show(n:Int).toNat=_;simp
theorem apx{h:List UInt8}(a:Ĉ)(w:Í)(o:XI i u h a w): ß À MD (Exit.then (λb c=>XI i u h b c/\ME b c<ME a w)<|QE 0<|XE i u h) a w:=by
 let⟨n,b,f,l,p,r,s,t,m,e,d⟩:=o;rw[aaU l];obtain⟨c,rfl⟩:=l;obtain⟨j,rfl⟩:∃j,b=j+1:=⟨b-1,Z⟩;have x:j+1-49=(j-49)+1:=Z
 rw[x]at d s;unfold se at d;by_cases g:n<16
 .rw[if_pos g]at d;exact apv c n (j+1) g λa q=>⟨n,j+1,f,q,g,p,r,m,e,d⟩
 .rw[if_neg g]at d;have y:50<=j:=by
   grind
  have C:(zc (j+1) f).length=65:=by rw[aaS];omega
  obtain⟨v,z⟩:∃v,(zc (j+1) f)[j]?=Â v:=⟨_,Ó Z⟩;have B:n/16<16^(j-49):=by grind
  refine apw c n j Z t Z v (e.r j v z) (e.C j) λa q=>⟨⟨n/16,j,oY (n%16)::f,q,y,by simp;omega,B,Z,m.fe (e8.I (X:=λk=>k=i) U _<|Ï e.G),?_,d⟩,by rw[aaU q];omega⟩;have:=e.fQ j<|Å ū (oY<|n%16).toNat;grind [aaT]
end
def apy:ú=(zc 65 []).toArray:=fp
def nL(n:Nat):ByteArray:=⟨(se 16 n []).toArray⟩
theorem apz(n:Nat)(l:n<18446744073709551616)(o:qu w):Ò À 190 #[Ç Á 0 0,Å ã n,Å É 16,õ Ë,õ Ë] w λe p=>e=Æ (ë #[Ç Á 0 0,Ä<|nL n])/\e8 ff w p:=by
 have L:∀a,E5 w.heap.size n (65:Nat) a->ß À (ń MD) (QE 0<|XE w.heap.size (w.alloc<|Û ú 292)<|se 16 n []) a (w.alloc<|Û ú 292):=λa r=>
  Γ (XI w.heap.size (w.alloc<|Û ú 292)<|se 16 n []) ME ⟨n,65,[],r,Z,U,by show n<16^16;omega,l,e8.fV _ _,by rw[apy];exact fg.N w (zc 65 []) 292,U⟩ apx
 have H:=fc<|Ê o L;unfold nL;generalize se 16 n []=res at*;go_enter Tryz.func190,Tryz.ntmps190;go_wp2_with (first
  |(go_at_call 200;refine apu.mono ?_;rintro e b ⟨rfl,c⟩;subst b)
  |(go_at_call 201;refine(tz (H.out.1.r kp)).mono ?_;rintro e b ⟨rfl,c⟩;subst b))
 refine İ (Q:=QE 0<|XE w.heap.size (w.alloc<|Û ú 292) res) ?_ (H.out.2 _ (gi _));rintro(_|_|_|_|_|_) a v hq;all_goals first|exact absurd hq id|skip
 obtain⟨rfl,m,i,c,s,E,F,G,x,b,d⟩:=hq;obtain⟨u,rfl⟩:=s;unfold E4;obtain⟨j,rfl⟩:∃j,i=j+1:=⟨i-1,Z⟩;have I:(zc (j+1) c).length=65:=by rw[aaS];omega
 obtain⟨z,y⟩:∃z,(zc (j+1) c)[j]?=Â z:=⟨_,Ó Z⟩;have J:=b.r j z y;have K:=b.C j;have M:(0:Int)<=(j:Int):=Z
 have N:(j:Int)<65:=Z
 have O:(j:Int)<=65:=Z
 have S:(0:Int)<=(m:Int):=Z
 have T:(m:Int)<36:=Z
 have f:m<36:=Z
 have V:(⟨#[48,49,50,51,52,53,54,55,56,57,97,98,99,100,101,102,103,104,105,106,107,108,109,110,111,112,113,114,115,116,117,118,119,120,121,122]⟩:ByteArray)[m]'f=oY m:=by unfold oY;rw[dif_pos f]
 have B:=(e8.gH ff w ú 292).C x λi C q=>by omega
 have g:=b.fQ j<|Å ū (oY m).toNat;rw[aaT,d]at g;have D:e8 ff w (v.setCell ⟨w.heap.size,j,Á⟩<|Å ū (oY m).toNat):=B.C (e8.I (X:=λk=>k=w.heap.size) U _<|Ï b.G) λi C q=>by omega
 have W:res.length=65-j:=by rw[<-d];simp;omega
 have Y:(convert 107 9<|Ç (Â ⟨w.heap.size,j,Á⟩) (65-j)<|65-j).run À (v.setCell ⟨w.heap.size,j,Á⟩<|Å ū (oY m).toNat)=.ok (Ä ⟨res.toArray⟩) (v.setCell ⟨w.heap.size,j,Á⟩<|Å ū (oY m).toNat):=by have h:=run_convert_bytes_back (P:=À) (v.setCell ⟨w.heap.size,j,Á⟩<|Å ū (oY m).toNat) 107 9 5 ⟨w.heap.size,j,Á⟩ (65-j) res fp fp fp (λt k=>by rw[Addr.add_mid];apply g.r (j+t) _;unfold zc;rw[ğ fj];simp[Ö,Ó k]);grind
 have k:=fc D;go_wp2;go_ret2;simp_all
def apA(n:Nat)(b:n<18446744073709551616)(c:qu w):Ò À 172 #[Å ã n,Å É 16] w λe a=>e=Æ (Ä<|nL n)/\e8 ff w a:=by go_enter Tryz.func172,Tryz.ntmps172;go_wp2_with (go_at_call 190;refine(apz n b c).mono ?_;rintro e a ⟨rfl,d⟩);go_ret;exact⟨U,d⟩
def apB(n:Nat)(b:n<18446744073709551616)(c:qu w):Ò À 157 #[Å ã n,Å É 16] w λe a=>e=Æ (Ä<|nL n)/\e8 ff w a:=by go_enter Tryz.func157,Tryz.ntmps157;go_wp2_with (go_at_call 172;refine(apA n b c).mono ?_;rintro e a ⟨rfl,d⟩);go_ret;exact⟨U,d⟩
def apC(s:ByteArray)(w:Í)(h:s.data.toList.head?=Â 48):Ò À 175 #[Ä s,Ä ⟨#[48]⟩] w λe b=>e=Æ (õ Î)/\b=w:=by
 have H:=Tryz.strings_HasPrefix s ⟨#[48]⟩ w;have e:ź s.data.toList (Ű ⟨#[48]⟩).toList=Î:=by
  generalize s.data.toList=l at h;cases l with
  |nil=>cases h
  |cons a r=>cases h;rfl
 rwa[e]at H
def apD(s:ByteArray)(w:Í)(h:¬s.data.toList.head?=Â 48):Ò À 175 #[Ä s,Ä ⟨#[48]⟩] w λe b=>e=Æ (õ Ë)/\b=w:=by
 have H:=Tryz.strings_HasPrefix s ⟨#[48]⟩ w;have e:ź s.data.toList (Ű ⟨#[48]⟩).toList=Ë:=by
  generalize s.data.toList=l at h;cases l with
  |nil=>rfl
  |cons a r=>
   have c:¬a=48:=λq=>h (by rw[q];rfl);show((48:UInt8)==a&&List.isPrefixOf [] r)=Ë;have:((48:UInt8)==a)=Ë:=beq_eq_false_iff_ne.2 λq=>c q.symm;rw[this];rfl
 rwa[e]at H
def Aa(k:Nat):ByteArray:=σ ⟨#[48,48,48,48,48,48,48,48,48,48,48,48,48,48,48,48,48,48,48,48,48,48,48,48,48,48,48,48,48,48,48,48,48,48,48,48,48,48,48,48,48,48,48,48,48,48,48,48,48,48,48,48,48,48,48,48,48,48,48,48,48,48,48,48]⟩ 0 k
def apE(k:Nat)(d:2<=k)(f:k<=64):Ò À 160 #[Ä ⟨#[48]⟩,Å É k] w λe a=>e=Æ (Ä<|Aa k)/\a=w:=by
 have g:((k:Int)==0)=Ë:=by simp;omega
 have h:((k:Int)==1)=Ë:=by simp;omega
 have i:¬(k:Int)<0:=Z
 have j:(0:Int)<=(k:Int):=Z
 have l:(k:Int)<=64:=Z
 have m:ã.wrap (k:Int)=(k:Int):=by rw[Ć];omega
 have n:É.wrap (k:Int)=(k:Int):=by rw[ŝ];omega
 have M:=Tryz.bits_Mul 1 k A Z w;rw[show 1*k/18446744073709551616=0 by omega,show 1*k%18446744073709551616=k by omega]at M;have c:=fc M;go_enter Œ,Ŋ;go_wp2_with (first
  |(go_at_call 174;refine c.out.mono ?_;rintro e a ⟨rfl,b⟩;subst a)
  |(go_at_call 175;refine(apD _ _ A).mono ?_;rintro e a ⟨rfl,b⟩;subst a)
  |(go_at_call 175;refine(apC _ _ A).mono ?_;rintro e a ⟨rfl,b⟩;subst a))
 go_ret;exact⟨U,U⟩
def apF:Ò À 160 #[Ä ⟨#[48]⟩,Å É 0] w λe a=>e=Æ (Ä ⟨#[]⟩)/\a=w:=by go_enter Œ,Ŋ;go_wp2;go_ret;exact⟨U,U⟩
def apG:Ò À 160 #[Ä ⟨#[48]⟩,Å É 1] w λe a=>e=Æ (Ä ⟨#[48]⟩)/\a=w:=by go_enter Œ,Ŋ;go_wp2;go_ret;exact⟨U,U⟩
def apH(k:Nat)(a:k<=64):Ò À 160 #[Ä ⟨#[48]⟩,Å É k] w λe b=>e=Æ (Ä<|Aa k)/\b=w:=by
 match k with
 |0=>exact apF
 |1=>exact apG
 |k+2=>exact apE (k+2) Z a
def Ab(n:Nat):ByteArray:=Aa (16-(nL n).size)++nL n
def aaV(n:Nat):(nL n).size<=16:=by show(se 16 n []).toArray.size<=16;have:=aaR 16 n [];simpa using this
def aaW(k:Nat):(Aa k).size<=k:=by unfold Aa;rw[Č];omega
def apI(n:Nat)(c:n<18446744073709551616)(d:qu w):Ò À 121 #[Å ã n] w λe a=>e=Æ (Ä<|Ab n)/\e8 ff w a:=by
 have g:=aaV n;have h:=aaW<|16-(nL n).size;have T:=apB n c d;have R:∀W:Í,Ò À 160 #[Ä ⟨#[48]⟩,Å É ((16-(nL n).size:Nat):Int)] W λe a=>e=Æ (Ä<|Aa<|16-(nL n).size)/\a=W:=λW=>apH _ Z;have i:É.wrap ((16:Int)-((nL n).size:Int))=((16-(nL n).size:Nat):Int):=by rw[ŝ];omega
 have j:(16:Int)-((nL n).size:Int)=((16-(nL n).size:Nat):Int):=Z
 have l:¬9223372036854775807<(Aa<|16-(nL n).size).size+(nL n).size:=Z
 unfold Ab;have H:=fc<|Ê T R;generalize m:Aa (16-(nL n).size)=zs at*;generalize o:16-(nL n).size=k at*;generalize nL n=fs at*;go_enter Tryz.func121,Tryz.ntmps121;go_wp2_with (first
  |(go_at_call 157;refine H.out.1.mono ?_;rintro e p ⟨rfl,b⟩;have f:=fc b;clear b)
  |(go_at_call 160;refine(H.out.2 _).mono ?_;rintro e b ⟨rfl,p⟩;subst b))
 go_ret;exact⟨U,f.out⟩
structure pK(r:Nat)(x y g k:Nat)(kind v v2:Int)(slot:Nat)(w:Í):Prop where
 I:w.cell? ⟨r,0,Á⟩=Â (Å É x)
 S:w.cell? ⟨r,1,Á⟩=Â (Å É y)
 a:w.cell? ⟨r,2,Á⟩=Â (Å É g)
 Y:w.cell? ⟨r,3,Á⟩=Â (Å É k)
 N:w.cell? ⟨r,4,Á⟩=Â (Å É kind)
 M:w.cell? ⟨r,5,Á⟩=Â (Å É v)
 c:w.cell? ⟨r,6,Á⟩=Â (Å É v2)
 b:w.cell? ⟨r,7,Á⟩=Â (Å É slot)
def ij.N(h:ij u v vX W)(k:e8 ff w u):ij w v vX W:=by
 refine⟨⟨h.fl.1,?_⟩,k.fe h.r⟩;rcases h.fl.2 with q|⟨g,a,b,c,d,q⟩
 .exact È q
 .exact Ï ⟨g,a,b,c,Ì k.M d,q⟩
section
variable{cp r x y g slot:Nat}{v v2:Int}
def pK.C{w:Í}(h:pK r x y g k c v v2 slot w)(q:e8 ff w u):pK r x y g k c v v2 slot u:= ⟨q.r h.I id,q.r h.S id,q.r h.a id,q.r h.Y id,q.r h.N id,q.r h.M id,q.r h.c id,q.r h.b id⟩
def apJ(F:Ò À 113 #[Ç O n cp,Å É v] w λe b=>e=Æ (jY<|Â i)/\e8 ff w b)(h:pK r x y g k 2 v v2 slot w)(p:x<8)(q:slot<16)(z:Nat)(j:w.cell? ⟨i,x*18+2+slot,Á⟩=Â (Å ã z)) (C:∀W,e8 ff w W->Ò À 118 #[Å ã z] W λe b=>e=Æ (Ä B)/\e8 ff W b): Ò À 67 #[Ç O n cp,Ã<|Â ⟨r,0,Á⟩] w λe b=>e=Æ (Ä B)/\e8 ff w b:=by
 have s:=h.M;have m:=h.N;have t:(0:Int)<=(x:Int):=Z
 have u:(x:Int)<8:=Z
 have D:(0:Int)<=(slot:Int):=Z
 have E:(slot:Int)<16:=Z
 have H:=fc<|Ê F C;have d:=fc h;clear F C h;go_enter ó,í;go_wp2_with (go_at_call 113;apply H.out.1.mono;rintro e f ⟨rfl,c⟩;dsimp only[jY,ð];have l:=c.r m id;have a:=fc c;clear c);refine mq (λb=>b.cell? ⟨r,0,Á⟩=Â (Å É x)/\b.cell? ⟨r,7,Á⟩=Â (Å É slot)/\b.cell? ⟨i,x*18+2+slot,Á⟩=Â (Å ã z)) [] fp ?_;have o:=fc<|Ê ((d.out.C a.out).C<|e8.fT ff _).I<|Ê ((d.out.C a.out).C<|e8.fT ff _).b<|(a.out.fe<|e8.fT _ _).r j id;iterate 17 apply tk o.out
 apply gB 17;intro K f;go_simp;go_at_call 118;refine(H.out.2 _<|a.out.fe<|e8.fT _ _).mono ?_;rintro e G ⟨rfl,l⟩;have c:=fc l;clear l;dsimp only;apply f.out _ _ λ_=>⟨(d.out.C<|(a.out.fe<|e8.fT _ _).fe c.out).I,(d.out.C<|(a.out.fe<|e8.fT _ _).fe c.out).b,(((a.out.fe<|e8.fT _ _).fe c.out).r j id)⟩;clear f K;apply gB 18;intro K f;go_simp;apply f.out _ _ λ_=>⟨(d.out.C<|(a.out.fe<|e8.fT _ _).fe c.out).I,(d.out.C<|(a.out.fe<|e8.fT _ _).fe c.out).b,(((a.out.fe<|e8.fT _ _).fe c.out).r j id)⟩;clear f K;try simp only[Act.put,é,ý,þ]
 refine lY fp ?_ _;go_wp2_with fail;go_ret;exact⟨U,(a.out.fe<|e8.fT _ _).fe c.out⟩
def apK(F:Ò À 113 #[Ç O n cp,Å É v] w λe a=>e=Æ (jY<|Â i)/\e8 ff w a)(f:pK r x y g k 3 v v2 slot w)(p:x<8)(z:Nat)(h:w.cell? ⟨i,x*18,Á⟩=Â (Å ã z)) (C:∀W,e8 ff w W->Ò À 118 #[Å ã z] W λe a=>e=Æ (Ä B)/\e8 ff W a): Ò À 67 #[Ç O n cp,Ã<|Â ⟨r,0,Á⟩] w λe a=>e=Æ (Ä B)/\e8 ff w a:=by
 have q:=f.M;have m:=f.N;have s:(0:Int)<=(x:Int):=Z
 have t:(x:Int)<8:=Z
 have H:=fc<|Ê F C;have j:=fc f;clear F C f;go_enter ó,í;go_wp2_with (go_at_call 113;apply H.out.1.mono;rintro e d ⟨rfl,c⟩;dsimp only[jY,ð];have l:=c.r m id;have b:=fc c;clear c);refine mq (λa=>a.cell? ⟨r,0,Á⟩=Â (Å É x)/\a.cell? ⟨i,x*18,Á⟩=Â (Å ã z)) [] fp ?_;have o:=fc<|Ê ((j.out.C b.out).C<|e8.fT ff _).I<|(b.out.fe<|e8.fT _ _).r h id;iterate 12 apply tk o.out
 apply gB 12;intro K c;go_simp;go_at_call 118;refine(H.out.2 _<|b.out.fe<|e8.fT _ _).mono ?_;rintro e u ⟨rfl,l⟩;have d:=fc l;clear l;dsimp only;apply c.out _ _ λ_=>⟨(j.out.C<|(b.out.fe<|e8.fT _ _).fe d.out).I,(((b.out.fe<|e8.fT _ _).fe d.out).r h id)⟩;clear c K;apply gB 13;intro K c;go_simp;apply c.out _ _ λ_=>⟨(j.out.C<|(b.out.fe<|e8.fT _ _).fe d.out).I,(((b.out.fe<|e8.fT _ _).fe d.out).r h id)⟩;clear c K;try simp only[Act.put,é,ý,þ]
 refine lY fp ?_ _;go_wp2_with fail;go_ret;exact⟨U,(b.out.fe<|e8.fT _ _).fe d.out⟩
def apL(F:Ò À 113 #[Ç O n cp,Å É v] w λe c=>e=Æ (jY<|Â i)/\e8 ff w c)(h:pK r x y g k 4 v v2 slot w)(o:g<=400)(p:k<18446744073709551616) (C:∀W,e8 ff w W->Ò À 119 #[Ã<|Â ⟨i,0,Á⟩,Å É x,Å É y,Å ã g,Å ã k] W λe c=>e=Æ (Ä B)/\e8 ff W c): Ò À 67 #[Ç O n cp,Ã<|Â ⟨r,0,Á⟩] w λe c=>e=Æ (Ä B)/\e8 ff w c:=by
 have q:=h.M;have l:=h.N;have s:ã.wrap (k:Int)=(k:Int):=by rw[Ć];omega
 have t:ã.wrap (g:Int)=(g:Int):=by rw[Ć];omega
 have u:¬(400:Int)<(g:Int):=Z
 have z:(g:Int)<=400:=Z
 have H:=fc<|Ê F C;have b:=fc h;clear F C h;go_enter ó,í;go_wp2_with (go_at_call 113;apply H.out.1.mono;rintro e f ⟨rfl,d⟩;dsimp only[jY,ð];have j:=d.r l id;have m:=d.r b.out.a id;have a:=fc d;clear d);refine mq (λc=>c.cell? ⟨r,0,Á⟩=Â (Å É x)/\c.cell? ⟨r,1,Á⟩=Â (Å É y)/\c.cell? ⟨r,2,Á⟩=Â (Å É g)/\c.cell? ⟨r,3,Á⟩=Â (Å É k)) [] fp ?_;have m:=fc<|Ê ((b.out.C a.out).C<|e8.fT ff _).I<|Ê ((b.out.C a.out).C<|e8.fT ff _).S<|Ê ((b.out.C a.out).C<|e8.fT ff _).a ((b.out.C a.out).C<|e8.fT ff _).Y;iterate 23 apply tk m.out
 apply gB 23;intro K f;go_simp;go_at_call 119;refine(H.out.2 _<|a.out.fe<|e8.fT _ _).mono ?_;rintro e D ⟨rfl,j⟩;have d:=fc j;clear j;dsimp only;apply f.out _ _ λ_=>⟨(b.out.C<|(a.out.fe<|e8.fT _ _).fe d.out).I,(b.out.C<|(a.out.fe<|e8.fT _ _).fe d.out).S,(b.out.C<|(a.out.fe<|e8.fT _ _).fe d.out).a,(b.out.C<|(a.out.fe<|e8.fT _ _).fe d.out).Y⟩;clear f K;apply gB 24;intro K f;go_simp;apply f.out _ _ λ_=>⟨(b.out.C<|(a.out.fe<|e8.fT _ _).fe d.out).I,(b.out.C<|(a.out.fe<|e8.fT _ _).fe d.out).S,(b.out.C<|(a.out.fe<|e8.fT _ _).fe d.out).a,(b.out.C<|(a.out.fe<|e8.fT _ _).fe d.out).Y⟩;clear f K;try simp only[Act.put,é,ý,þ]
 refine lY fp ?_ _;go_wp2_with fail;go_ret;exact⟨U,(a.out.fe<|e8.fT _ _).fe d.out⟩
def apM(F:Ò À 113 #[Ç O n cp,Å É v] w λe b=>e=Æ (jY<|Â i)/\e8 ff w b)(h:pK r x y g k 5 v v2 slot w)(o:k<18446744073709551616) (C:∀W,e8 ff w W->Ò À 120 #[Ã<|Â ⟨i,0,Á⟩,Å É x,Å É y,Å ã k] W λe b=>e=Æ (Ä B)/\e8 ff W b): Ò À 67 #[Ç O n cp,Ã<|Â ⟨r,0,Á⟩] w λe b=>e=Æ (Ä B)/\e8 ff w b:=by
 have p:=h.M;have l:=h.N;have q:ã.wrap (k:Int)=(k:Int):=by rw[Ć];omega
 have H:=fc<|Ê F C;have c:=fc h;clear F C h;go_enter ó,í;go_wp2_with (go_at_call 113;apply H.out.1.mono;rintro e f ⟨rfl,d⟩;dsimp only[jY,ð];have j:=d.r l id;have a:=fc d;clear d);refine mq (λb=>b.cell? ⟨r,0,Á⟩=Â (Å É x)/\b.cell? ⟨r,1,Á⟩=Â (Å É y)/\b.cell? ⟨r,3,Á⟩=Â (Å É k)) [] fp ?_;have m:=fc<|Ê ((c.out.C a.out).C<|e8.fT ff _).I<|Ê ((c.out.C a.out).C<|e8.fT ff _).S ((c.out.C a.out).C<|e8.fT ff _).Y;iterate 17 apply tk m.out
 apply gB 17;intro K f;go_simp;go_at_call 120;refine(H.out.2 _<|a.out.fe<|e8.fT _ _).mono ?_;rintro e s ⟨rfl,j⟩;have d:=fc j;clear j;dsimp only;apply f.out _ _ λ_=>⟨(c.out.C<|(a.out.fe<|e8.fT _ _).fe d.out).I,(c.out.C<|(a.out.fe<|e8.fT _ _).fe d.out).S,(c.out.C<|(a.out.fe<|e8.fT _ _).fe d.out).Y⟩;clear f K;apply gB 18;intro K f;go_simp;apply f.out _ _ λ_=>⟨(c.out.C<|(a.out.fe<|e8.fT _ _).fe d.out).I,(c.out.C<|(a.out.fe<|e8.fT _ _).fe d.out).S,(c.out.C<|(a.out.fe<|e8.fT _ _).fe d.out).Y⟩;clear f K;try simp only[Act.put,é,ý,þ]
 refine lY fp ?_ _;go_wp2_with fail;go_ret;exact⟨U,(a.out.fe<|e8.fT _ _).fe d.out⟩
def apN(F:Ò À 113 #[Ç O n cp,Å É v] w λe a=>e=Æ (jY<|Â i)/\e8 ff w a)(b:pK r x y g k 6 v v2 slot w)(z:Nat)(C:∀W,e8 ff w W->Ò À 122 #[Ã<|Â ⟨i,0,Á⟩] W λe a=>e=Æ (Å ã z)/\e8 ff W a)(d:∀W,e8 ff w W->Ò À 121 #[Å ã z] W λe a=>e=Æ (Ä B)/\e8 ff W a): Ò À 67 #[Ç O n cp,Ã<|Â ⟨r,0,Á⟩] w λe a=>e=Æ (Ä B)/\e8 ff w a:=by
 have m:=b.M;have j:=b.N;have l:=fc d;clear d;have H:=fc<|Ê F C;have o:=fc b;clear F C b;go_enter ó,í;go_wp2_with (first
  |(go_at_call 113;refine H.out.1.mono ?_;rintro e h ⟨rfl,c⟩;dsimp only[jY,ð];have p:=c.r j id;have f:=fc c;clear c)
  |(go_at_call 122;refine(H.out.2 _ f.out).mono ?_;rintro e p ⟨rfl,c⟩;have h:=fc<|f.out.fe c;clear c)
  |(go_at_call 121;refine(l.out _ h.out).mono ?_;rintro e p ⟨rfl,c⟩;have f:=fc (h.out.fe c);clear c))
 go_ret;exact⟨U,f.out⟩
def apO(F:Ò À 113 #[Ç O n cp,Å É v] w λe b=>e=Æ (jY<|Â i)/\e8 ff w b)(d:pK r x y g k 7 v v2 slot w)(l:Option ü)(o p:Nat)(u:w.cell? ⟨i,144,Á⟩=Â (Ç l o p))(f:List ByteArray)(C:∀W,e8 ff w W->Ò À 124 #[Ç l o p] W λe b=>∃j,e=Æ j/\ij W j f b)(q:∀W a m c,ij w (Ç a m c) f W->Ò À 123 #[Ç a m c] W λe b=>e=Æ (Ä B)/\e8 ff W b): Ò À 67 #[Ç O n cp,Ã<|Â ⟨r,0,Á⟩] w λe b=>e=Æ (Ä B)/\e8 ff w b:=by
 have J:=d.M;have z:=d.N;have D:=fc q;clear q;have H:=fc<|Ê F C;have K:=fc d;clear F C d;go_enter ó,í;go_wp2_with (first
  |(go_at_call 113;refine H.out.1.mono ?_;rintro e t ⟨rfl,h⟩;dsimp only[jY,ð];have E:=h.r z id;have G:=h.r u id;have s:=fc h;clear h)
  |(go_at_call 124;refine(H.out.2 _ s.out).mono ?_;rintro e E ⟨j,rfl,h⟩;obtain⟨G,I,rfl⟩:=jh h.fl;generalize f.length=tn at h|-;have t:=fc (show ij w (Ç G tn I) f E from h.N s.out);clear h)
  |(go_at_call 123;refine(D.out _ _ _ _ t.out).mono ?_;rintro e E ⟨rfl,h⟩;have s:=fc (t.out.r.fe h);clear h))
 go_ret;exact⟨U,s.out⟩
def apP(F:Ò À 113 #[Ç O n cp,Å É v] w λe b=>e=Æ (jY<|Â i)/\e8 ff w b)(d:pK r x y g k 8 v v2 slot w)(l:Option ü)(o p:Nat)(u:w.cell? ⟨i,146,Á⟩=Â (Ç l o p))(f:List ByteArray)(C:∀W,e8 ff w W->Ò À 125 #[Ç l o p] W λe b=>∃j,e=Æ j/\ij W j f b)(q:∀W a m c,ij w (Ç a m c) f W->Ò À 123 #[Ç a m c] W λe b=>e=Æ (Ä B)/\e8 ff W b): Ò À 67 #[Ç O n cp,Ã<|Â ⟨r,0,Á⟩] w λe b=>e=Æ (Ä B)/\e8 ff w b:=by
 have J:=d.M;have z:=d.N;have D:=fc q;clear q;have H:=fc<|Ê F C;have K:=fc d;clear F C d;go_enter ó,í;go_wp2_with (first
  |(go_at_call 113;refine H.out.1.mono ?_;rintro e t ⟨rfl,h⟩;dsimp only[jY,ð];have E:=h.r z id;have G:=h.r u id;have s:=fc h;clear h)
  |(go_at_call 125;refine(H.out.2 _ s.out).mono ?_;rintro e E ⟨j,rfl,h⟩;obtain⟨G,I,rfl⟩:=jh h.fl;generalize f.length=tn at h|-;have t:=fc (show ij w (Ç G tn I) f E from h.N s.out);clear h)
  |(go_at_call 123;refine(D.out _ _ _ _ t.out).mono ?_;rintro e E ⟨rfl,h⟩;have s:=fc (t.out.r.fe h);clear h))
 go_ret;exact⟨U,s.out⟩
def apQ(F:Ò À 113 #[Ç O n cp,Å É v] w λe c=>e=Æ (jY<|Â i)/\e8 ff w c)(a:pK r x y g k 4 v v2 slot w)(j:400<g)(C:B=nU 6): Ò À 67 #[Ç O n cp,Ã<|Â ⟨r,0,Á⟩] w λe c=>e=Æ (Ä B)/\e8 ff w c:=by
 have l:=a.M;have d:=a.N;have m:(400:Int)<(g:Int):=Z
 have H:=fc<|Ê F C;have f:=fc a;clear F C a;go_enter ó,í;go_wp2_with (first
  |(go_at_call 113;refine H.out.1.mono ?_;rintro e o ⟨rfl,b⟩;dsimp only[jY,ð];have p:=b.r d id;have q:=b.r f.out.a id;have h:=fc b;clear b)
  |(go_at_call 114;refine(EG 6 A _).mono ?_;rintro e b ⟨rfl,o⟩;subst b))
 go_ret;exact⟨by rw[H.out.2];rfl,h.out⟩
def apR(F:Ò À 113 #[Ç O n cp,Å É v] w λe a=>e=Æ (jY<|Â i)/\e8 ff w a)(b:pK r x y g k 9 v v2 slot w)(C:B=nU 3)(d:∀W,e8 ff w W->Ò À 113 #[Ç O n cp,Å É v2] W λe a=>e=Æ (jY Á)/\e8 ff W a): Ò À 67 #[Ç O n cp,Ã<|Â ⟨r,0,Á⟩] w λe a=>e=Æ (Ä B)/\e8 ff w a:=by
 have p:=b.M;have j:=b.N;have l:=fc d;clear d;have H:=fc<|Ê F C;have m:=fc b;clear F C b;go_enter ó,í;go_wp2_with (first
  |(go_at_call 113;with_reducible refine H.out.1.mono ?_;rintro e h ⟨rfl,c⟩;dsimp only[jY,ð];have o:=c.r j id;have q:=c.r m.out.c id;have f:=fc c;clear c)
  |(go_at_call 113;refine(l.out _ f.out).mono ?_;rintro e c ⟨rfl,h⟩;dsimp only[jY,ð];have o:=fc<|f.out.fe h;clear h)
  |(go_at_call 114;refine(EG 3 A _).mono ?_;rintro e c ⟨rfl,h⟩;subst c))
 go_ret;exact⟨by rw[H.out.2];rfl,o.out⟩
def apS(F:Ò À 113 #[Ç O n cp,Å É v] w λe b=>e=Æ (jY<|Â i)/\e8 ff w b)(f:pK r x y g k 9 v v2 slot w)(C:True)(p:∀W,e8 ff w W->Ò À 113 #[Ç O n cp,Å É v2] W λe b=>e=Æ (jY<|Â j)/\e8 ff W b)(l:List ByteArray)(q:∀W,e8 ff w W->Ò À 126 #[Ã<|Â ⟨i,0,Á⟩,Ã<|Â ⟨j,0,Á⟩] W λe b=>∃o,e=Æ o/\ij W o l b)(s:∀W a m c,ij w (Ç a m c) l W->Ò À 123 #[Ç a m c] W λe b=>e=Æ (Ä B)/\e8 ff W b): Ò À 67 #[Ç O n cp,Ã<|Â ⟨r,0,Á⟩] w λe b=>e=Æ (Ä B)/\e8 ff w b:=by
 have L:=f.M;have D:=f.N;have E:=fc p;have t:=fc<|Ê q s;clear p q s;have H:=fc<|Ê F C;have G:=fc f;clear F C f;go_enter ó,í;go_wp2_with (first
  |(go_at_call 113;with_reducible refine H.out.1.mono ?_;rintro e u ⟨rfl,d⟩;dsimp only[jY,ð];have z:=d.r D id;have I:=d.r G.out.c id;have h:=fc d;clear d)
  |(go_at_call 113;refine(E.out _ h.out).mono ?_;rintro e z ⟨rfl,d⟩;dsimp only[jY,ð];have u:=fc (h.out.fe d);clear d))
 apply mq (λb=>True/\True) [] fp;have I:=fc<|Ê trivial trivial;iterate 8 apply tk I.out
 apply gB 8;intro K d;go_simp;go_at_call 126;refine(t.out.1 _<|u.out.fe<|e8.fT _ _).mono ?_;rintro e M ⟨o,rfl,h⟩;obtain⟨N,P,rfl⟩:=jh h.fl;generalize l.length=tn at h|-;have z:=fc<|h.N<|u.out.fe<|e8.fT _ _;clear h;dsimp only;apply d.out _ _ λ_=>⟨trivial,trivial⟩;clear d K;apply gB 9;intro K d;go_simp;go_at_call 123;refine(t.out.2 _ _ _ _ z.out).mono ?_;rintro e Q ⟨rfl,u⟩;have J:=fc<|z.out.r.fe u;clear u;dsimp only;apply d.out _ _ λ_=>⟨trivial,trivial⟩;clear d K;apply gB 10;intro K d;go_simp;apply d.out _ _ λ_=>⟨trivial,trivial⟩;clear d K;try simp only[Act.put,é,ý,þ]
 refine lY fp ?_ _;go_wp2_with fail;go_ret;exact⟨U,J.out⟩
def apT(F:Ò À 113 #[Ç O n cp,Å É v] w λe a=>e=Æ (jY Á)/\e8 ff w a)(b:pK r x y g k h v v2 slot w): Ò À 67 #[Ç O n cp,Ã<|Â ⟨r,0,Á⟩] w λe a=>e=Æ (Ä<|nU 3)/\e8 ff w a:=by
 have f:=b.M;have H:=fc F;clear F b;go_enter ó,í;go_wp2_with (first
  |(go_at_call 113;refine H.out.mono ?_;rintro e i ⟨rfl,c⟩;dsimp only[jY,ð];have d:=fc c;clear c)
  |(go_at_call 114;refine(EG 3 A _).mono ?_;rintro e c ⟨rfl,i⟩;subst c))
 go_ret;exact⟨U,d.out⟩
end
structure Qn where
 x:Nat
 y:Nat
 g:Nat
 k:Nat
 r:Int
 v:Int
 C:Int
 I:Nat
structure Qn.Ok(q:Qn):Prop where
 x:q.x<8
 y:q.y<8
 g:q.g<1000000
 k:q.k<18446744073709551616
 avd:2<=q.r
 ave:q.r<=9
 v:-1<=q.v
 v2:-1<=q.C
 avf:q.I<16
def Cp(a:List ByteArray):ByteArray:=if a=[]then⟨#[45]⟩else jb ⟨#[44]⟩ a
def Cq(a:List (Nat×fI))(p:fI)(q:Qn):ByteArray:=
 if q.r=2 then fJ ((p.s q.x).C q.I).toNat
 else if q.r=3 then fJ (p.s q.x).fv.toNat
 else if q.r=4 then if 400<q.g then nU 6 else Co (gk p.s [] q.x q.y q.g q.k)
 else if q.r=5 then oC p.s q.x q.y q.k 0 401
 else if q.r=6 then Ab (ya p.s)
 else if q.r=7 then Cp (p.r.map qZ)
 else if q.r=8 then Cp (p.C.map EX)
 else match ma a q.C with
  |none=>nU 3
  |some b=>Cp<|pJ p.s b.2.s 8
def re(a:List (Nat×fI))(q:Qn):ByteArray:=
 match ma a q.v with
 |none=>nU 3
 |some p=>Cq a p.2 q
def T4{M:Nat}(b:∀z∈vX,z.size<=M)(d:M<=100)(f:vX.length<=400000)(h:ij w (Ç O m i) vX W): Ò À 123 #[Ç O m i] W λe g=>e=Æ (Ä<|Cp vX)/\e8 ff W g:=by obtain⟨e,g,j⟩:=h.I;have k:=E3 vX b;have:M*vX.length<=100*400000:=ű d f;exact apo g Z j e Z
def apU(s:St):ya s<18446744073709551616:=by unfold ya Mh;exact TA _ _<|aaq λi=>aat _ _ _
theorem T5{b:ByteArray}(c:B.size<=1)(d:b.size<=1):(B++b).size<=2:=by grind
def aaX(s t:St):∀z∈pJ s t 8,z.size<=2:=λz a=>by
 unfold pJ at a;obtain⟨i,_,h⟩:=Ş.1 a;unfold ye vV at h;rcases â.1 h with h|h
 .rcases â.1 h with h|h
  .split at h
   .cases h
   .simp at h;subst h;exact T5 (yf i)<|æ _
  .split at h
   .cases h
   .simp at h;subst h;exact T5 (yf i)<|æ _
 .unfold qt at h;obtain⟨j,_,h⟩:=Ş.1 h;unfold Cm at h;split at h
  .cases h
  .simp at h;subst h;exact T5 (yf i)<|aaI j
section
variable{cp:Nat}{vs:List (Nat×fI)}{q:Qn}
def apV(u:qp O n vs w)(S:n<=1000)(T:0<n)(hvo:∀p∈vs,TL p.2)(d:pK i q.x q.y q.g q.k q.r q.v q.C q.I w)(ok:q.Ok)(V:iK w)(o:lO w)(hd:qu w): Ò À 67 #[Ç O n cp,Ã<|Â ⟨i,0,Á⟩] w λe G=>e=Æ (Ä<|re vs q)/\e8 ff w G:=by
 have F:=Ml (cp:=cp) u S T q.v ok.v;unfold re;cases B:ma vs q.v with
 |none=>
  rw[B]at F;exact apT F d
 |some p=>
  rw[B]at F;have h:=F;have X:=Is B;have f:=u.M X;have j:=hvo p X;obtain⟨x,y,g,k,kind,v,C,Y⟩:=q;obtain⟨r,H,hg,I,uL,tY,hv,MG,J⟩:=ok;simp only at r H hg I uL tY hv MG J d h B|-;obtain⟨cb,_,cs⟩:=f.r.gT r;have Gr:gf (k:Int):=⟨Z,Z⟩;unfold Cq;simp only;split
  .rename_i e;subst e;have c:=cs Y J;have l:=f.C.C x Y;rw[<-ņ l.1]at c;exact apJ h d r J _ c λW b=>yd _ (by have:=l.1;have:=l.2;omega) W<|o.r b
  .split
   .rename_i e;subst e;have l:=f.C.fv x;rw[<-ņ l.1]at cb;exact apK h d r _ cb λW b=>yd _ (by have:=l.1;have:=l.2;omega) W<|o.r b
   .split
    .rename_i e;subst e;split
     .rename_i hh;exact apQ h d hh U
     .exact apL h d Z I λW b=>aps (f.r.r b id) f.C (V.r b id) (o.r b) x y g k r H Z Z Gr
    .split
     .rename_i e;subst e;exact apM h d I λW b=>aoK (f.r.r b id) f.C (V.r b id) (o.r b) r H Gr
     .split
      .rename_i e;subst e;exact apN h d _ (λW b=>an4 (f.r.r b id) f.C) λW b=>apI _ (apU _)<|hd.r b
      .split
       .rename_i e;subst e;obtain⟨K,L,M,N⟩:=f.N;exact apO h d K _ L M _ (λW b=>aaD U j.I j.C (o.r b)<|nJ.C N b) λW a m c t=>T4 (λz P=>by obtain⟨e,D,rfl⟩:=Ú.1 P;exact MC (j.C e D).2) Z (by rw[ù];exact j.I) t
       .split
        .rename_i e;subst e;obtain⟨K,L,M,N⟩:=f.S;exact apP h d K _ L M _ (λW b=>aoR U j.M j.r (o.r b)<|nJ.C N b) λW a m c t=>T4 (λz P=>by obtain⟨e,D,rfl⟩:=Ú.1 P;exact aaP (j.r e D).1 (j.r e D).2) Z (by rw[ù];have:=j.M;omega) t
        .have e:kind=9:=Z
         subst e;have E:∀W,e8 ff w W->Ò À 113 #[Ç O n cp,Å É C] W λe G=>e=Æ (jY ((ma vs C).map (·.1)))/\e8 ff W G:=λW b=>Ml (u.I b) S T C MG;cases Q:ma vs C with
         |none=>
          rw[Q]at E;exact apR h d U E
         |some p2=>
          rw[Q]at E;exact apS h d trivial E _ (λW b=>ao3 (f.r.r b id)<|(u.M<|Is Q).r.r b id) λW a m c t=>T4 (aaX _ _) Z (by have:=TT p.2.s p2.2.s 8;omega) t
end
end Go.Proofs.Y.gy
namespace Go.Proofs.Y.kH
open Go Go.Proofs Go.RowKit Go.Proofs.Y.Lift Go.Proofs.Y.gy
def ku(a:List (Nat×fI)):List fI:=a.map (·.2)
def aaY(d:fI)(l:List fI):fI:=l.foldl (λa b=>if a.h<b.h then b else a) d
theorem aaZ:∀(a:List (Nat×fI)) (d:Nat×fI),(tq d a).2=aaY d.2 (ku a)
 |[],_=>rfl
 |x::r,d=>by show(tq (yb d x) r).2=aaY (if d.2.h<x.2.h then x.2 else d.2) (ku r);rw[aaZ r];unfold yb;split<;>rfl
theorem T8{a b:List (Nat×fI)}(h:ku a=ku b)(v:Int):(ma a v).map (·.2)=(ma b v).map (·.2):=by
 have c:∀i:Nat,(a[i]?).map (·.2)=(b[i]?).map (·.2):=λi=>by have:=congrArg (λl:List fI=>l[i]?) h;simpa[ku]using this
 unfold ma;grind [aaZ]
theorem apW{a b:List (Nat×fI)}(h:ku a=ku b):a.length=b.length:=by have:=congrArg List.length h;simpa[ku]using this
theorem aa0{a b:List (Nat×fI)}(h:ku a=ku b)(v:Int)(x:Nat)(gJ:List Tx):qY a v x gJ=qY b v x gJ:=by have c:=T8 h v;unfold qY;grind [apW]
theorem apX{a b:List (Nat×fI)}(h:ku a=ku b)(q:Qn):re a q=re b q:=by
 have c:=T8 h q.v;have d:=T8 h q.C;have e:∀p:fI,Cq a p q=Cq b p q:=λp=>by unfold Cq;grind
 unfold re;grind
structure lE(s:List fI):Prop where
 I:0<s.length
 C:s.length<=40
 r:∀v∈s,TL v/\gI v.s/\0<=v.h/\v.h<s.length
def sf(a:List (Nat×fI))(v:Int)(x:Nat)(gJ:List Tx):List fI:=ku a++(qY a v x gJ).1.toList
def lE.M{f:List (Nat×fI)}(h:lE (ku f)){gJ:List Tx}(j:∀t∈gJ,t.Ok)(l:gJ.length<=1000):lE (sf f c i gJ):=by
 unfold kH.sf;have z:(ku f).length=f.length:=by simp[ku]
 unfold qY;cases m:ma f c with
 |none=>simpa using h
 |some p=>
  have n:p.2∈ku f:=Ú.2 ⟨p,Is m,U⟩;let⟨B,k,C,D⟩:=h.r _ n;simp only;split
  .simpa using h
  .rename_i E;cases g:vU i p.2.s gJ with
   |none=>simpa using h
   |some r=>
    simp only[Option.toList];have F:=h.C;have o:gI r.1:=by unfold vU at g;obtain⟨G,w,rfl⟩:=ò.1 g;exact(TM gJ j k (λ_ q=>by cases q) (λ_ q=>by cases q) (by simp;omega) (by simp;omega) w).1.r i<|zK _
    refine⟨fj,by simp;omega,λu y=> ?_⟩;rcases â.1 y with q|q
    .let⟨a,b,e,d⟩:=h.r u q;refine⟨a,b,e,?_⟩;rw[Ù];simp;omega
    .simp at q;subst q;refine⟨aoy j k l g,o,by show 0<=p.2.h+1;omega,?_⟩;rw[Ù];show p.2.h+1<_;simp;omega
def iX(Y:fq)(u w:Í):Prop:=∀(i j o:Nat) (v:Ñ),Y i j->u.cell? ⟨i,o,Á⟩=Â v->∃a,w.cell? ⟨j,o,Á⟩=Â a/\fi Y v a
section
variable{Y:fq}
theorem apY{k:IntKind}(h:fi Y (Å k c) v):v=Å k c:=by cases h;rfl
theorem apZ(h:fi Y (Ä B) v):v=Ä B:=by cases h;rfl
theorem MH(h:fi Y (Ã<|Â a) v):∃b,v=Ã (Â b)/\hD Y a b:=by
 cases h with
 |jS q=>exact⟨_,U,q⟩
def MI(h:fi Y (Ç O n i) v):∃b,v=Ç b n i/\∀a,O=Â a->∃d,b=Â d/\hD Y a d:=by
 cases h with
 |om=>exact⟨Á,U,λa q=>by cases q⟩
 |kK q=>exact⟨_,U,λa e=>by cases e;exact⟨_,U,q⟩⟩
theorem ap0(a:kq v=Î)(h:fi Y v x):x=v:=by cases h<;>first|rfl|(simp[kq]at a;done)
theorem Ac(h:hD Y ⟨b,i,Á⟩ a):∃c,a=⟨c,i,Á⟩/\Y b c:=by let⟨d,e,f⟩:=h;let⟨c,g,j⟩:=a;grind
theorem iX.r(a:iX Y u w){k:IntKind}(h:Y i j)(d:u.cell? ⟨i,b,Á⟩=Â (Å k c)):w.cell? ⟨j,b,Á⟩=Â (Å k c):=by let⟨e,f,g⟩:=a i j b _ h d;grind [apY]
theorem iX.C(a:iX Y u w)(h:Y i j)(b:u.cell? ⟨i,n,Á⟩=Â (Ä B)):w.cell? ⟨j,n,Á⟩=Â (Ä B):=by let⟨c,d,e⟩:=a i j n _ h b;grind [apZ]
theorem iX.ap1(a:iX Y u w)(c:kq v=Î)(h:Y i j)(b:u.cell? ⟨i,n,Á⟩=Â v):w.cell? ⟨j,n,Á⟩=Â v:=by let⟨d,e,f⟩:=a i j n _ h b;grind [ap0]
def T9(s:gy.St):∀v∈iw s,(∃n,v=Å ã n)\/∃p,v=Ä p:=λv n=>by
 unfold iw at n;obtain⟨i,_,rfl⟩:=Ú.1 n;unfold qi qh;split
 .exact È ⟨_,U⟩
 .split
  .exact Ï ⟨_,U⟩
  .exact È ⟨_,U⟩
def ap2(a:iX Y u w){s:gy.St}(c:Y b i)(d:my b s h u):my i s h w:=by
 refine⟨λj v e=> ?_,a.r c d.h⟩;have f:=d.C j v e;rcases T9 s v (ç e)with⟨n,rfl⟩|⟨p,rfl⟩
 .exact a.r c f
 .exact a.C c f
def aa1(a:iX Y u w)(f:Y b i)(g:∀v∈l,kq v=Î)(h:zU ⟨b,j,Á⟩ n l u):zU ⟨i,j,Á⟩ n l w:=by let⟨p,c,k,m⟩:=h;let⟨G,q,r⟩:=a b i j _ f k;obtain⟨s,rfl,t⟩:=MI r;refine⟨s,c,q,λd x e=> ?_⟩;let⟨H,y,z,B⟩:=m d x e;let⟨I,C,D⟩:=t _ z;obtain⟨E,rfl,F⟩:=Ac D;exact⟨E,y,C,a.ap1 (g x<|ç e) F B⟩
def ap3(a:iX Y u w){v:fI}(c:Y b i)(h:rZ b v u):rZ i v w:= ⟨ap2 a c h.r,h.C,h.I,h.M,aa1 a c (y_ _) h.N,aa1 a c (Y_ _) h.S⟩
def wG{α β:Type}{R:Nat->α->β->Prop}:∀(l:List α) (k:Nat),(∀j x,l[j]?=Â x->∃y,R (k+j) x y)->∃a:List β,a.length=l.length/\∀j y,a[j]?=Â y->∃x,l[j]?=Â x/\R (k+j) x y
 |[],_,_=>⟨[],U,λj y h=>by simp at h⟩
 |x::r,k,h=>by
  let⟨y,c⟩:=h 0 x U;obtain⟨a,d,e⟩:=wG r (k+1) λj z b=>by let⟨q,f⟩:=h (j+1) z b;exact⟨q,by rwa[show k+1+j=k+(j+1) by omega]⟩
  refine⟨y::a,by simp[d],λj z b=> ?_⟩;cases j with
  |zero=>cases b;exact⟨x,U,c⟩
  |succ j=>
   let⟨q,f,g⟩:=e j z b;exact⟨q,f,by rwa[show k+(j+1)=k+1+j by omega]⟩
theorem Iw(a:iX Y u w){e:List (Nat×fI)}(i:fi Y z jQ)(h:Mm z e u):∃c,ku c=ku e/\Mm jQ c w:=by
 obtain⟨J,n,k,rfl,l,f⟩:=h;obtain⟨g,rfl,m⟩:=MI i;let⟨c,o,K⟩:=wG (R:=λj (x y:Nat×fI)=>x.2=y.2/\∃q d,g=Â ⟨q,d,Á⟩/\w.cell? ⟨q,d+j,Á⟩=Â (Ã<|Â ⟨y.1,0,Á⟩)/\rZ y.1 y.2 w) e 0 λj x p=>by let⟨b,v⟩:=x;let⟨q,d,r,s,t⟩:=f.C j b v p;let⟨L,B,C⟩:=m _ r;obtain⟨y,rfl,D⟩:=Ac C;let⟨M,E,F⟩:=a q y _ _ D s;obtain⟨N,rfl,G⟩:=MH F;obtain⟨H,rfl,I⟩:=Ac G;exact⟨(H,v),U,y,d,B,by rwa[œ],ap3 a I t⟩
 refine⟨c,?_,g,n,k,U,l,⟨by rw[o];exact f.r,λj b v q=> ?_⟩⟩
 .refine Ŕ λj=> ?_;unfold ku;grind
 .grind
end
def ln(a:Nat->Prop)(B:Nat):fq:=⟨λi j=>i=j/\a i,B⟩
def ap4(a:Nat->Prop)(B:Nat):Bi (ln a B):= ⟨λ_ _ _ h k=>h.1.symm.trans k.1,λ_ _ _ h k=>h.1.trans k.1.symm,λi j h=>by rw[h.1]⟩
def Ad{V:Nat->Prop}{B:Nat}(h:∀i,X i->V i):(ln X B).r (ln V B):=⟨λ_ _ q=>⟨q.1,h _ q.2⟩,λ_=>ap4 V B,U⟩
def kI(B:Nat)(a:Nat->Prop)(w:Í):Prop:=∀b,a b->∃c e d,w.heap[b]?=Â (Û c e d)/\d.2<=c.size/\fS (ln a B) c c/\0<c.size/\CS c/\e≠304/\e≠305
section
variable{B:Nat}{V:Nat->Prop}
def kI.I(h:kI B X w)(k:kI B V w):kI B (λb=>X b\/V b) w:=by
 rintro b (q|q)
 .let⟨c,e,a,d,f,g,i⟩:=h b q;exact⟨c,e,a,d,f,g.I (Ad λ_=>È),i⟩
 .let⟨c,e,a,d,f,g,i⟩:=k b q;exact⟨c,e,a,d,f,g.I (Ad λ_=>Ï),i⟩
def kI.C(h:kI B X w)(k:∀b,X b->u.heap[b]?=w.heap[b]?):kI B X u:=λb q=>by let⟨c,e,a,d,f⟩:=h b q;exact⟨c,e,a,by rwa[k b q],f⟩
theorem kI.r(h:kI B X w)(a:X b)(d:w.cell? ⟨b,i,Á⟩=Â v):fi (ln X B) v v:=by let⟨c,e,j,f,_,g,_⟩:=h b a;simp only[à,f,ö,ì,if_false]at d;rcases g.S i with⟨q,_⟩|⟨x,k,l,m,n⟩;all_goals grind
def Cr(h:fi (ln X B) (Ã<|Â a) v):X a.block:=by
 cases h with
 |jS q=>exact q.1.2
def Cs(h:fi (ln X B) (Ç (Â a) n i) v):X a.block:=by
 cases h with
 |kK q=>exact q.1.2
def ap5{Y:fq}(h:kq v=Î):fi Y v v:=by cases v<;>first|exact .mC _|exact .iD _ _|(simp[kq]at h;done)
def pL{Y:fq}(h:∀v∈d.toList,fi Y v v):fS Y d d:=⟨U,λi a _=>h _<|î.2<|ă a⟩
def ap6(h:kq v=Î):yu v=Ë:=by
 cases v with
 |int k n=>cases k<;>first|rfl|(simp[kq]at h;done)
 |_=>rfl
def Ae(h:∀v∈d.toList,yu v=Ë):CS d:=λk v a=>h v<|î.2<|ĵ a
def Ix(v:Ñ)(i:Nat):Prop:=v.ownBlock=Â i
def Iy(X:Nat->Prop)(g b:Nat)(a c:Ñ)(i:Nat):Prop:=X i\/i=g\/i=b\/Ix a i\/Ix c i
def aa2{G:Í}(a:mj T=Î)(h:tu v T u)(o:∀j,v.ownBlock=Â j->G.heap.size<=j)(p:rS G.heap.size u):∀i,Ix v i->∃c e f,u.heap[i]?=Â (Û c e f)/\f.2<=c.size/\fS (ln V B) c c/\0<c.size/\CS c/\e≠304/\e≠305:=λi b=>by
 rcases h with rfl|⟨g,n,c,k,rfl,l⟩
 .cases b
 .have e:g=i:=by unfold Ix at b;simpa[Value.ownBlock]using b
  subst e;let⟨r,m⟩:=p g k T (0,0) (o g U) l a;exact⟨k,T,(0,0),l,Ø _,pL λv d=>ap5<|m v d,r,Ae λv d=>ap6<|m v d,(λq=>by rw[q]at a;cases a),(λq=>by rw[q]at a;cases a)⟩
def aa3(h:tu v T u)(a:∀i,Ix v i->V i):fi (ln V B) v v:=by
 rcases h with rfl|⟨g,n,c,b,rfl,d⟩
 .exact .om _ _
 .exact fi.kK (Y:=ln V B) ⟨⟨U,a g U⟩,U,U⟩ n c
theorem ap7{G:Í}(J:kI B X G)(k:e8 ff G u)(K:∀i,X i->i<G.heap.size){l:List (Nat×fI)}{s:gy.St}(o:TG b s h G u)(r:TF l b G u m)(L:∀p∈l,X p.1): ∃e,(∀i,X i->e i)/\e m/\kI B e u/\∀i,e i->X i\/G.heap.size<=i:=by
 have t:=k.Y _ λi c T w M y=>by rw[ı M]at y;cases y
 let⟨a,d,N,z,C,D,E⟩:=o.r;refine⟨Iy X m b a d,λi q=>È q,Ï<|È U,?_,?_⟩
 .rintro i (q|rfl|rfl|q|q)
  .let⟨c,e,w,n,x,f,j⟩:=J i q;exact⟨c,e,w,by rwa[k.N i (K i q) id],x,f.I (Ad λ_=>È),j⟩
  .let⟨F,n,x,f⟩:=r.r;have H:∀v∈F.toList,v=Ã Á\/∃j,v=Ã (Â ⟨j,0,Á⟩)/\Iy X i b a d j:=λv e=>by
    rcases f v e with q|q|q
    .unfold sd at q;obtain⟨p,I,rfl⟩:=Ú.1 q;exact Ï ⟨_,U,È<|L p I⟩
    .exact Ï ⟨_,q,Ï<|Ï<|È U⟩
    .exact È q
   refine⟨F,136,(0,0),n,Ø _,pL λv e=> ?_,x,Ae λv e=> ?_,A,A⟩
   .rcases H v e with rfl|⟨j,rfl,I⟩
    .exact .lS
    .exact .jS ⟨⟨U,I⟩,U,U⟩
   .rcases H v e with rfl|⟨j,rfl,I⟩<;>rfl
  .have f:∀v∈ji s a++[Å É h,d],fi (ln (Iy X m i a d) B) v v/\yu v=Ë:=λv e=>by
    rw[zP]at e;have I:=aa3 (B:=B) (V:=Iy X m i a d) z λj q=>Ï<|Ï<|Ï<|È q;have F:=aa3 (B:=B) (V:=Iy X m i a d) C λj q=>Ï<|Ï<|Ï<|Ï q;have H:∀{x:Ñ} {T:č},tu x T u->yu x=Ë:=λ{x T} q=>by rcases q with rfl|⟨_,_,_,_,rfl,_⟩<;>rfl
    rcases â.1 e with q|q
    .rcases â.1 q with q|q
     .rcases T9 s v q with⟨n,rfl⟩|⟨p,rfl⟩
      .exact⟨.iD _ _,U⟩
      .exact⟨.kJ _,U⟩
     .grind
    .simp at q;rcases q with rfl|rfl
     .exact⟨.iD _ _,U⟩
     .grind
   exact⟨_,147,(0,0),N,Ø _,pL λv e=>(f v<|by simpa using e).1,by simp[mJ],Ae λv e=>(f v<|by simpa using e).2,A,A⟩
  .exact aa2 U z D t i q
  .exact aa2 U C E t i q
 .rintro i (q|rfl|rfl|q|q)
  .exact È q
  .exact Ï r.C
  .exact Ï o.C
  .exact Ï<|D i q
  .exact Ï<|E i q
def MJ{Y:fq}(h:fi Y v x):fi (ln X B) v v->fi (ln (λj=>∃i,X i/\Y i j) B) x x:=by
 induction h with
 |mC b=>exact λ_=> .mC b
 |iD k n=>exact λ_=> .iD k n
 |kJ s=>exact λ_=> .kJ s
 |lS=>exact λ_=> .lS
 |@jS a a' q=>exact λz=>fi.jS (Y:=ln (λj=>∃i,X i/\Y i j) B) ⟨⟨U,_,Cr z,q.1⟩,U,U⟩
 |om n c=>exact λ_=> .om n c
 |@kK a a' q n c=>exact λz=>fi.kK (Y:=ln (λj=>∃i,X i/\Y i j) B) ⟨⟨U,_,Cs z,q.1⟩,U,U⟩ n c
 |u9=>exact λ_=> .u9
 |fn f=>exact λ_=> .fn f
 |va=>exact λ_=> .va
 |vd=>exact λ_=> .vd
 |ve=>exact λ_=> .ve
 |yq t _ b=>exact λz=> .yq t (b (by cases z with|yq _ y=>exact y))
 |oJ f _ b=>exact λz=> .oJ U λi c _=>b i (by rwa[f]) c (by cases z with|oJ _ y=>exact y i _ _)
 |nQ f _ b=>exact λz=> .nQ U λi c _=>b i (by rwa[f]) c (by cases z with|nQ _ y=>exact y i _ _)
def ap8{Y:fq}(h:fi Y v x):yu x=yu v:=by cases h<;>rfl
theorem Ua{Y:fq}{r:Nat->Prop}(h:jg Y r u w)(s:kI B X u):kI B (λj=>∃i,X i/\Y i j) w:=by
 rintro j ⟨i,t,x⟩;let⟨c,a,e,F,y,z,C,b,G,H,I⟩:=h.r i j x;let⟨d,J,qD,m,_,D,K,E,n,o⟩:=s i t;rw[z]at m;cases m;have L:=b.C.resolve_right λq=>q.2.1.elim n o;refine⟨a,e,y,C,?_,pL λv f=> ?_,Z,Ae λv f=> ?_,n,o⟩
 .grind
 .obtain⟨k,g,rfl⟩:=Ĝ f;have l:k<a.size:=by simpa using g
  have:=MJ (b.r k Z l)<|D.C k Z Z;simpa using this
 .obtain⟨k,g,rfl⟩:=Ĝ f;have l:k<a.size:=by simpa using g
  have p:=ap8<|b.r k Z l;rw[(E k c[k]<|å Z)]at p;simpa using p
def Af{Y:fq}(h:jg Y X u w):iX Y u w:=λi j o v b c=>h.gA (a:=⟨i,o,Á⟩) (a':=⟨j,o,Á⟩) ⟨b,U,U⟩ c
end
end Go.Proofs.Y.kH
namespace Go.Proofs.Y.Lift
open Go
def aa4{α β:Type}{c:α->β->Option (ForInStep β)}{I:β->Prop}(d:∀a b s,I b->c a b=Â s->I s.value): ∀(l:List α) (b r:β),I b->forIn l b c=Â r->I r
 |[],b,r,hi,h=>by simp at h;subst h;exact hi
 |a::l,b,r,hi,h=>by
  rw[List.forIn_cons]at h;cases e:c a b with
  |none=>rw[e]at h;simp at h
  |some s=>
   rw[e]at h;have:=d a b s hi e;cases s with
   |done x=>simp at h;subst h;exact this
   |yield x=>simp at h;exact aa4 d l x r this h
def jT.gT(h:jT v):∀x∈v.cells,jT x:=by
 intro x a;cases h with
 |oJ h=>
  obtain⟨i,b,rfl⟩:=Array.mem_iff_getElem.1 a;exact h i b
 |nQ h=>simp[Ĺ]at a;subst a;exact .nQ h
 |_=>simp[Ĺ]at a;subst a;constructor
def ZP(a:č->Option ħ):Prop:=∀t i z,a t=Â i->i.zero=Â z->jT z
def Ub(h:∀x∈d,jT x):jT (.agg d):=.oJ λ_ a=>h _<|ă a
theorem ap9{l:č->Option ħ}(h:ZP l){m:Array Field}(g:ŕ l m=Â zJ)(q:zJ.zero=Â z):jT z:=by
 unfold ŕ at g;simp only[<-Array.forIn_toList]at g;generalize t:(forIn m.toList _ _:Option _)=L at g;cases L with
 |none=>simp at g
 |some r=>
  have u:=aa4 (I:=λx=>∀a,x.2.2.2.2.2.2.2.1=Â a->∀v∈a,jT v) ?_ _ _ _ ?_ t
  .have:∃a,r.2.2.2.2.2.2.2.1=Â a/\z=.agg a:=by
    grind [ò]
   obtain⟨a,e,rfl⟩:=this;exact Ub<|u a e
  .intro f b s w d;have y:∀(e:Option Ñ) (k:Nat) (x:Option (Array Ñ)),(∀z,e=Â z->jT z)->x=(if k>Ų then Á else do pure ((<-b.2.2.2.2.2.2.2.1)++(<-e).cells))->∀a,x=Â a->∀v∈a,jT v:=by
    intro e k x B C a c v n;subst C;split at c
    .simp at c
    .cases j:b.2.2.2.2.2.2.2.1 with
     |none=>rw[j]at c;simp at c
     |some E=>
      cases o:e with
      |none=>rw[j,o]at c;simp at c
      |some D=>
       rw[j,o]at c;simp at c;subst c;rcases Array.mem_append.1 n with p|p
       .exact w _ j v p
       .exact(B D o).gT v p
   cases e:l f.type with
   |none=>rw[e]at d;simp at d
   |some j=>
    rw[e,ê,ş]at d;have k:=y j.zero (b.2.1+j.size) _ (λz q=>h _ _ _ e q) U;generalize(if b.2.1+j.size>Ų then Á else(do pure ((<-b.2.2.2.2.2.2.2.1)++(<-j.zero).cells):Option (Array Ñ)))=X at d k;generalize(if b.1.size+1<m.size then ";" else "")=Y at d;simp only[bind,pure,Option.bind]at d;repeat' split at d
    all_goals first
     |(simp only[Ô]at d;subst d;exact k)
     |(simp at d;done)
  .intro a c v n;simp at c;subst c;simp at n
def aqa{c:č->Option ħ}(h:ZP c){d:TypeDesc}(a:Χ c d=Â zJ)(b:zJ.zero=Â z):jT z:=by
 unfold Χ at a;cases d with
 |struct k=>exact ap9 h a b
 |array n e=>
  simp only[ê,Ü,ā,Ô]at a;obtain⟨f,v,st,_,rfl⟩:=a;simp only at b;split at b
  .simp at b
  .split at b
   .simp at b;subst b;exact Ub fj
   .simp only[ò]at b;obtain⟨j,g,rfl⟩:=b;refine Ub λx k=> ?_;simp only[Array.mem_flatten,Array.mem_replicate]at k;obtain⟨l,⟨_,rfl⟩,k⟩:=k;exact(h _ _ _ v g).gT x k
 |pointer e=>
  simp only[ê,Ü,ā]at a;let⟨f,v,a⟩:=a;repeat' split at a
  all_goals first
   |(simp at a;done)
   |(simp only[Ü,Ô]at a;obtain⟨_,_,rfl⟩:=a;simp only[ł,Ô]at b;subst b;constructor)
 |slice e=>
  simp only[ê,Ü,ā,Ô]at a;obtain⟨_,_,_,_,rfl⟩:=a;simp only[ł,Ô]at b;subst b;constructor
 |map k e=>
  simp only[ê,Ü,ā,Ô]at a;obtain⟨_,_,_,_,_,_,_,_,rfl⟩:=a;simp only[ł,Ô]at b;subst b;constructor
 |chan k e=>
  simp only[ê,Ü,ā,Ô]at a;obtain⟨_,_,_,_,rfl⟩:=a;simp only[ł,Ô]at b;subst b;constructor
 |func k e v=>
  simp only[ê,Ü,ā,Ô]at a;obtain⟨_,_,rfl⟩:=a;simp only[ł,Ô]at b;subst b;constructor
 |_=>simp at a
def aa5{T:Tables}(a:∀(t:Nat) (i:ħ) (z:Ñ),T.types[t]?=Â i->i.zero=Â z->jT z):∀f,ZP<|ţ T f
 |0=>λt i z h=>by simp[ţ]at h
 |f+1=>λt i z h b=>by
  unfold ţ at h;split at h
  .exact a t i z h b
  .simp only[Ü]at h;let⟨d,_,c⟩:=h;exact aqa (aa5 a f) c b
def aqb(a:∀(t:Nat) (i:ħ) (z:Ñ),P.types[t]?=Â i->i.zero=Â z->jT z):nS P:=λt i z h b=>by
 have h:P.toTables.info? t=Â i:=h;unfold Tables.info? at h;split at h
 .exact a t i z h b
 .exact aa5 a _ t i z h b
end Go.Proofs.Y.Lift
namespace Go.Proofs.Y.ft
open Go Go.Conc Go.Proofs.Y.Lift Go.RowKit Go.Conc.Lib Go.ConcR.Gen
open Go.Proofs Go.Proofs.YtgpphkdoanciiaaGreatDoor
def Uc:Ñ->Bool
 |.agg a=>a.toList.all yB
 |v=>yB v
def aa6(h:Uc v=Î):jT v:=by
 cases v with
 |agg b=>exact .oJ λi a=>F0<|(ĭ.1 h) _<|î.2<|ă a
 |_=>exact F0 h
def aa7:Ñ->Bool
 |ë a=>a.toList.all Uc
 |v=>Uc v
def aqc(h:aa7 v=Î):jT v:=by
 cases v with
 |tuple b=>exact .nQ λi a=>aa6<|(ĭ.1 h) _<|î.2<|ă a
 |_=>exact aa6 h
def E6(i:ħ):Bool:=match i.zero with
 |some z=>aa7 z
 |none=>Î
def aqd(h:P.types.toList.all E6=Î):nS P:=aqb λt i z a b=>by have:=(ĭ.1 h) i<|î.2<|ĵ a;unfold E6 at this;rw[b]at this;exact aqc this
def yw:nS À:=aqd fN
end Go.Proofs.Y.ft
namespace Go.Proofs.Y.kH
open Go Go.Conc Go.Proofs Go.RowKit Go.Proofs.Y.Lift Go.Proofs.Y.gy Go.Proofs.Y.ft
noncomputable def nB:Nat:=À.globals.size
def pM(a:Nat->Prop)(b:Nat):Prop:=a b\/b=1\/b=2\/b=3\/b=4
def MK(b:Nat)(e:č)(w:Í):Prop:=∃c a,w.heap[b]?=Â (Û c e a)/\a.2<=c.size/\a.2<=16/\0<c.size/\∀v∈c.toList,∃k n,v=Å k n
structure mK(w:Í):Prop where
 fw:nB<=w.heap.size
 M:kI nB (λb=>b=1\/b=2) w
 I:MK 3 304 w
 C:MK 4 305 w
 S:gy.lO w
 iZ:iK w
 N:qu w
section
variable{V:Nat->Prop}
theorem mK.r{w':Í}(h:mK w)(f:nB<=w'.heap.size)(k:∀b,b=1\/b=2\/b=3\/b=4->w'.heap[b]?=w.heap[b]?):mK w':=by
 have d:∀b o,b=1\/b=2\/b=3\/b=4->w'.cell? ⟨b,o,Á⟩=w.cell? ⟨b,o,Á⟩:=λb o e=>by simp only[à,k b e]
 refine⟨f,h.M.C λb e=>k b<|e.imp id È,?_,?_,?_,?_,?_⟩
 .let⟨c,i,a,r⟩:=h.I;exact⟨c,i,by rwa[k 3 fj],r⟩
 .let⟨c,i,a,r⟩:=h.C;exact⟨c,i,by rwa[k 4 fj],r⟩
 .have c:=h.S;have i:À.globalNamed "internal/strconv.uint64pow10"=Â 1:=fp
  unfold gy.lO χ ο at*;grind
 .let⟨c,g,a⟩:=h.iZ.M;refine⟨⟨c,g,by rwa[k 2 fj]⟩,λi r j=> ?_⟩;rw[d 2 _ fj,d 2 _ fj,d 2 _ fj];exact h.iZ.I i r j
 .have:=h.N;unfold qu at*;grind
def aa8(u:kI nB X w)(x:∀b,X b->lA b=Ë)(g:mK w):LB (pM X) (pM X) nB w:=by
 have p:∀{a:Nat->Prop} {c:Array Ñ},(∀b,a b->pM X b)->fS (ln a nB) c c->fS (qf (pM X) nB) c c:=λ{a c} hX r=>r.I<|Ad hX;refine⟨?_,g.fw⟩;have s:∀b e,(e=304\/e=305)->lA b=Î->MK b e w->∃c e d,w.heap[b]?=Â (Û c e d)/\d.2<=c.size/\fS (qf (pM X) nB) c c/\(pM X b->0<c.size/\(lA b=Î->(e=304\/e=305)/\d.2<=16)/\(lA b=Ë->CS c)):=λb e y B h=>by let⟨c,d,f,j,l,m,o⟩:=h;exact⟨c,e,d,f,j,pL λv i=>by obtain⟨k,n,rfl⟩:=o v i;exact .iD _ _,λ_=>⟨m,λ_=>⟨y,l⟩,λq=>by rw[B]at q;cases q⟩⟩
 rintro b (q|q|q|rfl|rfl)
 .let⟨c,e,d,f,j,l,m,o,_⟩:=u b q;exact⟨c,e,d,f,j,p (λ_=>È) l,λ_=>⟨m,λt=>(by rw[x b q]at t;cases t),λ_=>o⟩⟩
 .let⟨c,e,d,f,j,l,m,o,_⟩:=g.M b<|È q;exact⟨c,e,d,f,j,p (λi k=>k.elim (λz=>Ï<|È z) λz=>Ï<|Ï<|È z) l,λ_=>⟨m,λt=>(by rw[q]at t;cases t),λ_=>o⟩⟩
 .let⟨c,e,d,f,j,l,m,o,_⟩:=g.M b<|Ï q;exact⟨c,e,d,f,j,p (λi k=>k.elim (λz=>Ï<|È z) λz=>Ï<|Ï<|È z) l,λ_=>⟨m,λt=>(by rw[q]at t;cases t),λ_=>o⟩⟩
 .exact s 3 304 (È U) U g.I
 .exact s 4 305 (Ï U) U g.C
def pN(a:lA b=Ë\/i<16)(h:w.cell? ⟨b,i,Á⟩=Â v):(World.tp (ll V w) xQ 0).cell? ⟨b,i,Á⟩=Â v:=by
 have j:(World.tp (ll V w) xQ 0).heap[b]?=(w.heap[b]?).map (pF V b):=Es b;simp only[à,j];simp only[à]at h;cases g:w.heap[b]? with
 |none=>rw[g]at h;cases h
 |some k=>
  rw[g]at h;cases k with
  |cells c e m=>
   simp only[Ă,pF,ö,ì,if_false]at h|-;split
   .rename_i d;split at d
    .split at d
     .rename_i l;cases d;rcases a with a|a
      .rw[l]at a;cases a
      .unfold uK;rw[Array.getElem?_extract];simp;exact⟨by have:=(á.1 h).1;omega,h⟩
     .cases d;exact h
    .cases d;exact h
   .rename_i f;split at f
    .split at f<;>exact absurd U<|f _ _ _
    .exact absurd U<|f _ _ _
  |_=>cases h
def aa9{T:ŷ}(d:kI nB X w)(e:∀b,X b->lA b=Ë):iX (ln X nB) w (World.tp (ll V w) T 0):=by rintro i j o v ⟨rfl,a⟩ c;exact⟨v,pN (È<|e i a) c,d.r a c⟩
end
def RD(s:List fI)(b:Ñ)(a:Nat->Prop)(w:Í):Prop:=∃c,ku c=s/\lE s/\Mm b c w/\kI nB a w/\fi (ln a nB) b b
section
variable{V:Nat->Prop}{s:List fI}
def abb(h:kI nB X w)(k:∀b,X b->u.heap[b]?=w.heap[b]?):iX (ln X nB) w u:=by rintro i j o v ⟨rfl,a⟩ c;exact⟨v,by simp only[à,k i a];exact c,h.r a c⟩
def RD.r(h:RD s v X w)(k:∀b,X b->u.heap[b]?=w.heap[b]?):RD s v X u:=by let⟨l,d,e,f,a,c⟩:=h;let⟨g,i,j⟩:=Iw (abb a k) c f;exact⟨g,i.trans d,e,j,a.C k,c⟩
def Iz(r:Nat)(q:Qn)(w:Í):Prop:=pK r q.x q.y q.g q.k q.r q.v q.C q.I w
def abd{Y:fq}(a:iX Y u w){r:Nat}{q:Qn}(b:Y r i)(h:Iz r q u):Iz i q w:= ⟨a.r b h.I,a.r b h.S,a.r b h.a,a.r b h.Y,a.r b h.N,a.r b h.M,a.r b h.c,a.r b h.b⟩
def aqe{T:ŷ}(g:mK w):gy.lO (World.tp (ll V w) T 0):=by
 have a:=g.S;have h:À.globalNamed "internal/strconv.uint64pow10"=Â 1:=fp
 unfold gy.lO χ ο at*;rw[h]at a|-;simp only[ş]at a|-;have i:(World.tp (ll V w) T 0).heap[1]?=(w.heap[1]?).map (pF V 1):=Es 1;rw[i];cases f:w.heap[1]? with
 |none=>rw[f]at a;cases a
 |some j=>
  rw[f]at a;cases j with
  |cells c e k=>
   simp only[Ă,pF,lA]at a|-;split
   .rename_i b;split at b<;>(simp at b;obtain⟨rfl,_⟩:=b;exact a)
   .rename_i d;split at d
    .exact absurd U<|d _ _ _
    .exact absurd U<|d _ _ _
  |_=>cases a
theorem abe{T:ŷ}(g:mK w):iK (World.tp (ll V w) T 0):=by
 let⟨f,h,d⟩:=g.iZ.M;refine⟨?_,λi r e=> ?_⟩
 .have a:(World.tp (ll V w) T 0).heap[2]?=(w.heap[2]?).map (pF V 2):=Es 2;rw[a,d];simp only[Ă,pF,lA];grind
 .let⟨a,b,c⟩:=g.iZ.I i r e;exact⟨pN (È U) a,pN (È U) b,pN (È U) c⟩
def aqf{T:ŷ}(g:mK w):qu (World.tp (ll V w) T 0):=pN (Ï A) g.N
theorem E7{T:ŷ}:ko (World.tp (ll V w) T 0):=λi o h=>c_ (Sh:=V) (w:=w) i o h
theorem aqg{l:e9}{q:Qn}{r:Nat}(x:RD s v X l.w)(I:∀b,X b->l.M b)(y:kI nB V l.w)(J:∀b,V b->l.M b)(h:V r)(z:Iz r q l.w)(ok:q.Ok)(g:mK l.w)(K:∀b,b=1\/b=2\/b=3\/b=4->l.M b)(j:∀b,X b\/V b->lA b=Ë)(m:List (Nat×fI))(B:ku m=s): Ev (λg=>xI g=Î) 67 #[v,Ã<|Â ⟨r,0,Á⟩] l (pM λb=>X b\/V b) λe _=>e=Ä (re m q):=by
 let⟨L,c,d,D,E,o⟩:=x;have t:=E.I y;refine⟨?_,aa8 t j g,?_,?_,λT=> ?_⟩
 .rintro b (q|q);all_goals grind
 .intro b a;unfold xI at a;simp at a;exact Ï a
 .refine pL λe a=> ?_;simp at a;rcases a with rfl|rfl
  .exact o.fO<|Ad λi k=>È<|È k
  .exact fi.jS (Y:=qf (pM λb=>X b\/V b) nB) ⟨⟨U,È<|Ï h⟩,U,U⟩
 .have a:=aa9 (V:=pM λb=>X b\/V b) (T:=T) t j;obtain⟨F,f,N,n,G,rfl,O,u⟩:=Iw a (o.fO<|Ad λi k=>È k) D;have i:n=(ku F).length:=by rw[u.r];simp[ku]
  have P:=d.I;have Q:=d.C;rw[f,c]at i;have C:=apV (cp:=G) u Z Z (λp H=> ?_) (abd a ⟨U,Ï h⟩ z) ok (abe g) (aqe g)<|aqf g
  .apply C.mono;rintro e S ⟨rfl,k⟩;exact⟨by rw[apX<|f.trans<|c.trans B.symm],k.gT E7⟩
  .have:p.2∈s:=by rw[<-c,<-f];exact Ú.2 ⟨p,H,U⟩
   exact(d.r _ this).1
end
def Ct(r:Nat)(v:Int)(x:Nat)(gJ:List Tx)(w:Í):Prop:=∃a n c b,Cj r v x a n c w/\Cd a n b w/\lN b=gJ/\n<=1000
section
variable{V:Nat->Prop}{s:List fI}
def abf(h:kI nB X w):∀i,X i->i<w.heap.size:=λi a=>by let⟨c,e,d,b,_⟩:=h i a;exact(á.1 b).1
theorem abg{T:ŷ}(f:lA b=Ë)(h:w.heap[b]?=Â (Û d e xJ))(i:xJ.2<=d.size):∃a,(World.tp (ll V w) T 0).heap[b]?=Â (Û d e a)/\a.2<=d.size:=by have g:(World.tp (ll V w) T 0).heap[b]?=(w.heap[b]?).map (pF V b):=Es b;rw[g,h];simp only[Ă,pF,f,ì,if_false];grind
def aqh{T:ŷ}(h:kI nB X w)(d:∀b,X b->lA b=Ë):kI nB X (World.tp (ll V w) T 0):=λb a=>by let⟨c,e,m,f,g,i⟩:=h b a;let⟨j,k,l⟩:=abg (V:=V) (T:=T) (d b a) f g;exact⟨c,e,j,k,l,i⟩
def aqi{T:ŷ}(k:kI nB X w)(l:∀b,X b->lA b=Ë){r:Nat}{v:Int}{gJ:List Tx}(o:X r)(h:Ct r v i gJ w):Ct r v i gJ (World.tp (ll V w) T 0):=by
 let⟨D,n,E,F,g,p,G,H⟩:=h;have m:=l r o;refine⟨D,n,E,F,⟨pN (È m) g.M,pN (È m) g.N,pN (È m) g.I⟩,⟨p.r,λj a t q=> ?_⟩,G,H⟩;let⟨tb,I,s,u,d,J⟩:=p.C j a t q;have y:X tb:=by have:=k.r o g.I;rw[s]at this;exact Cs this
 have z:=Cr<|k.r y u;have f:=l a z;let⟨K,O,B⟩:=d.b;let⟨c,e,P,C,L,_⟩:=k a z;rw[B]at C;cases C;obtain⟨M,N,_⟩:=abg f B L;exact⟨tb,I,s,pN (È<|l tb y) u,⟨⟨K,M,N⟩,pN (È f) d.r,pN (È f) d.C,pN (È f) d.I,pN (È f) d.M,pN (È f) d.Y,pN (È f) d.N⟩,J⟩
def Rg(s:List fI)(v:Ñ)(u:Í):Prop:=∃X,RD s v X u
def Rg.tp{T:ŷ}(h:Rg s v w):Rg s v (World.tp w T n):=by let⟨X,h⟩:=h;exact⟨X,h.r λ_ _=>rfl⟩
def aqj{Y:fq}{d:Nat->Prop}(h:rz Y d u w)(a:fi Y v x)(e:Rg s v u):∃c,RD s x c w/\∀b,c b->∃i,Y i b:=by let⟨X,f⟩:=e;have g:RD s v X {u with tape:=w.tape,drawn:=w.drawn}:=f.r λ_ _=>rfl;let⟨t,j,k,l,m,n⟩:=g;let⟨o,p,q⟩:=Iw (Af h) a l;exact⟨_,⟨o,p.trans j,k,q,Ua h m,MJ a n⟩,λb ⟨i,_,r⟩=>⟨i,r⟩⟩
theorem aqk{l:e9}{r:Nat}{gJ:List Tx}(hRD:RD s v X l.w)(hU:∀b,X b->l.M b)(L:kI nB V l.w)(hV:∀b,V b->l.M b)(N:V r)(hq:Ct r h m gJ l.w)(hx:m<8)(o:-1<=h)(Ud:∀t∈gJ,t.Ok)(hn:gJ.length<=1000)(g:mK l.w)(hG:∀b,b=1\/b=2\/b=3\/b=4->l.M b)(y:∀b,X b\/V b->lA b=Ë)(B:List (Nat×fI))(H:ku B=s): Ev (λg=>xI g=Î) 66 #[v,Ã<|Â ⟨r,0,Á⟩] l (pM λb=>X b\/V b) λz u=>∃p n c,z=ë #[Ç p n c,Ä (qY B h m gJ).2]/\Rg (sf B h m gJ) (Ç p n c) u:=by
 let⟨vs,h1,D,h3,O,d⟩:=hRD;have P:=O.I L;refine⟨?_,aa8 P y g,?_,?_,λT=> ?_⟩
 .rintro b (q|q);all_goals grind
 .intro b u;unfold xI at u;simp at u;exact Ï u
 .refine pL λh o=> ?_;simp at o;rcases o with rfl|rfl
  .exact d.fO<|Ad λi j=>È<|È j
  .exact fi.jS (Y:=qf (pM λb=>X b\/V b) nB) ⟨⟨U,È<|Ï N⟩,U,U⟩
 .have f:=aqh (V:=pM λb=>X b\/V b) (T:=T) O λb q=>y b<|È q;obtain⟨z,k1,Q,n,S,rfl,W,E⟩:=Iw (aa9 (V:=pM λb=>X b\/V b) (T:=T) P y) (d.fO<|Ad λi j=>È j) h3;obtain⟨tp,tn,tc,a,q1,q2,rfl,q4⟩:=(aqi (V:=pM λb=>X b\/V b) (T:=T) L (λb q=>y b<|Ï q) N hq);have c:=k1.trans h1;have hlen:n=s.length:=by rw[E.r,<-c];simp[ku]
  have avg:=D.I;have hle:=D.C;have nH:ko (World.tp (ll (pM λb=>X b\/V b) l.w) T 0):=E7;have C:=aos E Z Z W (λp I=>by
   have:p.2∈s:=by rw[<-c];exact Ú.2 ⟨p,I,U⟩
   have:=(D.r _ this).2.2.2;omega) q1 q2 q4 (abe g) hx o
  have u:sf z h m (lN a)=sf B h m (lN a):=by unfold sf;rw[aa0<|c.trans H.symm,c,H]
  have F:lE (sf z h m<|lN a):=lE.M (by rwa[c]) Ud hn;have ha:=aa0 (c.trans H.symm) h m<|lN a;generalize World.tp (ll (pM λb=>X b\/V b) l.w) T 0=G at*;refine C.mono ?_;rintro e u' ⟨k,hA⟩;rcases hA with⟨J,rfl⟩|⟨nv,b,s9,J,rfl,e3,e4,gb,gn,gc,rfl,e6⟩
  .refine⟨⟨Q,n,S,by rw[ha],?_⟩,k.gT nH⟩;rw[<-u];have K:sf z h m (lN a)=s:=by unfold sf;rw[J,c];simp
   rw[K]at F|-;exact⟨X,z,c,F,⟨Q,n,S,U,W,E.I k⟩,f.C λi j=>k.N i (abf f i j) id,d⟩
  .let⟨i,m1,m2,m3,_⟩:=ap7 f k (abf f) e4 e6 λp I=>by
    let⟨j,hj⟩:=ĕ I;let⟨sb,so,f1,f2,_⟩:=E.C j p.1 p.2 hj;have:X sb:=by rw[f1]at d;exact Cs d
    exact Cr<|f.r this f2
   refine⟨⟨Â ⟨gb,0,Á⟩,gn,gc,by rw[ha],?_⟩,k.gT nH⟩;rw[<-u];have K:sf z h m (lN a)=ku (z++[(b,nv)]):=by unfold sf;rw[J];simp[ku]
   rw[K]at F|-;exact⟨i,_,U,F,e3,m3,fi.kK (Y:=ln i nB) ⟨⟨U,m2⟩,U,U⟩ gn gc⟩
end
structure vZ where
 r:Nat->Int×Nat×List Tx
 C:Nat->Qn
def mY(s:List fI):List (Nat×fI):=s.map λv=>(0,v)
theorem IA(s:List fI):ku (mY s)=s:=by simp[ku,mY,Function.comp_def]
def Cu(s:List fI)(i:Int×Nat×List Tx):List fI:=sf (mY s) i.1 i.2.1 i.2.2
def pO(a:vZ)(I:List Nat)(b:List fI):Nat->List fI
 |0=>b
 |k+1=>Cu (pO a I b k)<|a.r<|I.getD k 0
def we(a:vZ)(kd:Nat->Int)(p:Nat)(s:List fI):ByteArray:=if kd p=1 then(qY (mY s) (a.r p).1 (a.r p).2.1 (a.r p).2.2).2 else re (mY s) (a.C p)
def iB(e:e9)(a:Nat->Prop)(c:vZ)(kd:Nat->Int)(R:Nat)(d:List fI)(f:Nat->Prop):xG where
 γ:=List fI
 C:=d
 M:=λk s g=>g=Cu s (c.r<|(gZ kd R).getD k 0)
 RD:=λs h V w=>RD s h V w/\∀b,V b->a b\/e.w.heap.size<=b
 I:=λp=>we c kd p<|pO c (gZ kd R) d<|fK kd p
 r:=f
def Ue{kd:Nat->Int}:∀(R k:Nat),k<(gZ kd R).length->fK kd ((gZ kd R).getD k 0)=k
 |0,k,h=>by simp[gZ]at h
 |R+1,k,h=>by
  by_cases q:kd R=1
  .rw[s8 q]at h|-;rcases Nat.lt_or_ge k (gZ kd R).length with z|z
   .have e:(gZ kd R++[R]).getD k 0=(gZ kd R).getD k 0:=by simp[Ğ,Ĥ z]
    rw[e];exact Ue R k z
   .have e:k=(gZ kd R).length:=by simp at h;omega
    subst e;simp[Ğ,fK]
  .rw[vK q]at h|-;exact Ue R k h
section
variable{y:Nat->Prop}
def ML(h:kI nB y w)(g:mK w):∀b,y b->lA b=Ë:=λb i=>by
 let⟨c,e,m,f,_,_,_,_,j,k⟩:=h b i;cases d:lA b with
 |false=>rfl
 |true=>
  unfold lA at d;simp at d;rcases d with rfl|rfl
  .let⟨l,qD,a,_⟩:=g.I;rw[f]at a;cases a;exact absurd U j
  .let⟨l,qD,a,_⟩:=g.C;rw[f]at a;cases a;exact absurd U k
def aql(p:kI nB X w)(k:∀b,X b->u.heap[b]?=w.heap[b]?){r:Nat}{gJ:List Tx}(g:X r)(h:Ct r c i gJ w):Ct r c i gJ u:=by
 have d:∀{b o:Nat} {z:Ñ},X b->w.cell? ⟨b,o,Á⟩=Â z->u.cell? ⟨b,o,Á⟩=Â z:=λ{b o z} l q=>by simp only[à,k b l];exact q
 let⟨C,n,D,E,m,s,F,G⟩:=h;refine⟨C,n,D,E,⟨d g m.M,d g m.N,d g m.I⟩,⟨s.r,λj a t q=> ?_⟩,F,G⟩;let⟨tb,H,y,B,e,I⟩:=s.C j a t q;have l:X tb:=by have:=p.r g m.I;rw[y]at this;exact Cs this
 have f:=Cr<|p.r l B;let⟨J,K,L⟩:=e.b;exact⟨tb,H,y,d l B,⟨⟨J,K,by rwa[k a f]⟩,d f e.r,d f e.C,d f e.I,d f e.M,d f e.Y,d f e.N⟩,I⟩
end
structure IB(l0:e9)(bt:vZ)(kd:Nat->Int)(rq:Nat->Nat)(R:Nat)(Q:Nat->Prop):Prop where
 M:mK l0.w
 I:∀b,b=1\/b=2\/b=3\/b=4->l0.O b
 C:kI nB Q l0.w
 fl:∀b,Q b->l0.O b
 r:∀p,p<R->Q (rq p)
 kO:∀p,p<R->kd p=1->Ct (rq p) (bt.r p).1 (bt.r p).2.1 (bt.r p).2.2 l0.w/\(bt.r p).2.1<8/\-1<=(bt.r p).1/\(∀t∈(bt.r p).2.2,t.Ok)/\(bt.r p).2.2.length<=1000
 Sx:∀p,p<R->kd p≠1->Iz (rq p) (bt.C p) l0.w/\(bt.C p).Ok
def abh{V:Nat->Prop}{l:e9}{a:Ñ->Í->Prop}(h:Ev X F d l V vQ)(b:∀v u,vQ v u->a v u):Ev X F d l V a:= ⟨h.N,h.S,h.I,h.r,λT=>(h.C T).mono λe u q=>by
  cases e with
  |returned v=>exact⟨b v u q.1,q.2⟩
  |_=>exact q⟩
section
variable{l0:e9}{bt:vZ}{kd:Nat->Int}{rq:Nat->Nat}{R:Nat}{Q C d:Nat->Prop}{B:List fI}{E F:Option ü}
def abj{s:List fI}(h:ft.ny ((kG (iB l0 d bt kd R B C) i n R kd rq D E F j9 j7 k m J j qX l0).r À) b s):s=pO bt (gZ kd R) B b:=by
 have c:∀(b:Nat) (s:((kG (iB l0 d bt kd R B C) i n R kd rq D E F j9 j7 k m J j qX l0).r À).γ),ft.ny ((kG (iB l0 d bt kd R B C) i n R kd rq D E F j9 j7 k m J j qX l0).r À) b s->s=pO bt (gZ kd R) B b:=λb s h=>by
  induction h with
  |vm=>rfl
  |Dh _ a e=>
   rwa[e]at a
 exact c b s h
def aqm(h:IB l0 bt kd rq R Q)(N:l0.w.heap.size<=m):Eo (kG (iB l0 d bt kd R B C) i n R kd rq D E F j9 j7 k m J j qX l0):=by
 apply ak6 yw h' h_ U;intro a s O W l q t f x y P g G;let⟨f,S⟩:=f;have T:=y.fw m<|g m<|Ï U;have H:l0.w.heap.size<=l.w.heap.size:=Z
 have o:=G;have p:=h.M.r (Ì h.M.fw H) λb c=>o b<|h.I b c;have r:=h.C.C λb c=>o b<|h.fl b c;have e:=HF<|vR q;let⟨I,K⟩:=h.Sx _ e.1 e.2;refine⟨_,abh (aqg f x r (λb c=>g b<|È<|h.fl b c) (h.r _ e.1) (abd (abb h.C λb c=>o b<|h.fl b c) ⟨U,h.r _ e.1⟩ I) K p (λb c=>g b<|È<|h.I b c) (λb c=>c.elim (ML (by let⟨_,_,_,_,z,_⟩:=f;exact z) p b)<|ML r p b) (mY s)<|IA s) λv u L=> ?_⟩;rw[L];have z:=abj t;have M:(kG (iB l0 d bt kd R B C) i n R kd rq D E F j9 j7 k m J j qX l0).b a=fK kd ((jz kd R).getD a 0):=if_pos q;rw[M]at z;show _=Ä (we bt kd ((jz kd R).getD a 0)<|pO bt (gZ kd R) B<|fK kd<|(jz kd R).getD a 0);rw[<-z];unfold we;rw[if_neg e.2]
theorem aqn(h:IB l0 bt kd rq R Q)(hZ:(∀b,Q b->d b)/\∀b,b=1\/b=2\/b=3\/b=4->d b)(ZE:l0.w.heap.size<=m):En (kG (iB l0 d bt kd R B C) i n R kd rq D E F j9 j7 k m J j qX l0):=by
 refine ak7 yw h' h_ U (λs o u=>Rg s o u) (λs o u T n q=>Rg.tp q) ?_;intro T s o W l H I g K L hq r M;let⟨g,Pl⟩:=g;have hs:=L.fw m<|r m<|Ï U;have N:l0.w.heap.size<=l.w.heap.size:=Z
 have t:=M;have x:=h.M.r (Ì h.M.fw N) λb a=>t b<|h.I b a;have y:=h.C.C λb a=>t b<|h.fl b a;have G:=H;have f:=HC<|vR G;let⟨O,P,S,V,X⟩:=h.kO _ f.1 f.2;refine⟨_,abh (aqk g K y (λb a=>r b<|È<|h.fl b a) (h.r _ f.1) (aql h.C (λb a=>t b<|h.fl b a) (h.r _ f.1) O) P S V X x (λb a=>r b<|È<|h.I b a) (λb a=>a.elim (ML (by let⟨_,_,_,_,z,_⟩:=g;exact z) x b)<|ML y x b) (mY s)<|IA s) λv u hv=> ?_,?_⟩
 .obtain⟨p,z,c,rfl,Y⟩:=hv;refine⟨p,z,c,Cu s<|bt.r<|(gZ kd R).getD T 0,?_,U,Y⟩;have e:(kG (iB l0 d bt kd R B C) i n R kd rq D E F j9 j7 k m J j qX l0).e (T+1)=we bt kd ((gZ kd R).getD T 0) (pO bt (gZ kd R) B<|fK kd<|(gZ kd R).getD T 0):=U;rw[e,Ue R T G,<-(abj I)];unfold we;rw[if_pos f.2]
 .intro Y Sh u w s' Z6 Lv e p h3 h4;let⟨V',k1,c⟩:=aqj e p h3;refine⟨V',⟨k1,λb a=> ?_⟩,c⟩;let⟨z,hi⟩:=c b a;rcases h4 z b hi with((q|q)|q)|q;all_goals grind
end
section
variable{R:Nat}{kd:Nat->Int}{o:Nat->Nat}{r:List Ē}{l:e9}{u:Nat->e9}{bt:vZ}{j f:Nat->Prop}{s0:List fI}
def aqo{s:List fI}(h:zz (iB l f bt kd R s0 j) k s):s=pO bt (gZ kd R) s0 k:=by
 have b:∀(k:Nat) (s:(iB l f bt kd R s0 j).γ),zz (iB l f bt kd R s0 j) k s->s=pO bt (gZ kd R) s0 k:=λk s h=>by
  induction h with
  |vm=>rfl
  |Dh _ a c=>
   rwa[c]at a
 exact b k s h
structure Ag(f:Nat->Prop)(bt:vZ)(R:Nat)(kd:Nat->Int)(s0:List fI)(l:e9)(an:Nat)(sl:Ñ)(l':e9):Prop where
 M:∀b,l.O b->l'.O b/\l'.w.heap[b]?=l.w.heap[b]?
 r:l'.O an/\∀p,p<R->l'.w.cell? ⟨an,p,Á⟩=Â (Ä<|we bt kd p<|pO bt (gZ kd R) s0<|fK kd p)
 S:∃V,RD (pO bt (gZ kd R) s0<|fK kd R) sl V l'.w/\∀b,V b->l'.O b/\(f b\/l.w.heap.size<=b)
 d:l'.d=0
 q:¬l'.q
 rd:∀b,¬l'.I b
 C:(∀a,¬l'.r a)/\(∀a,¬l'.N a)/\∀a,¬l'.K a
 I:l'.w.cell? ⟨an,R,Á⟩=Á/\kV l'.w an=Â (0,0)
def aqp{a:e9}(h:FY (iB l f bt kd R s0 j) R kd l i v a):Ag f bt R kd s0 l i v a:=by let⟨s,V,g,c,k⟩:=h.HG;have e:=aqo g;subst e;exact⟨h.vq,h.kD,⟨V,c.1,λb q=>⟨k b q,c.2 b q⟩⟩,h.d,h.q,h.rd,h.xH,h.CX⟩
def aqr{J:(Loc->Prop)->Nat->Jd}{F:Ē}(P:qX=F.at y (Ð Q (j9::jJ)::L)::r)(c:ft.rR À zX i (Lt kd o R n v l qX) .fA D u E w qJ)(C:Option (Nat×Nat))(s:gw l)(S:∀b,¬l.I b)(W:¬l.q)(Y:l.d=0)(MN:vS zX i l)(H:IB l bt kd o R X)(hZ:(∀b,X b->f b)/\∀b,b=1\/b=2\/b=3\/b=4->f b)(I:∀b,f b->l.O b)(K:∀b,j b->f b)(B1:RD s0 v j l.w)(xE:w.os=l.w.os/\w.output=l.w.output)(hn:1<=n)(hs:n+R<1000) (hJ:∀t x z B p m c,vS t x z->gw z->Ag f bt R kd s0 l B (Ç p m c) z->ft.fh À Î (J t x) z (G (F.at (y.put ((Q[j9]?).bind (·.dst))<|ë #[Ç (Â ⟨B,0,Á⟩) R R,Ç p m c])<|Ð Q jJ::L) r)): ∃N t x T V HJ g e s9 h,ſ À N (Į E w C) qJ=(.next<|Į g e s9,h)/\(e.os=l.w.os/\e.output=l.w.output)/\ft.rR À t x (J t x) T V HJ g e h:= akZ (M:=iB l f bt kd R s0 j) P c C s S W Y MN (λb q=>I b<|K b q) (λs C V w e h L=>⟨h.1.r L,h.2⟩) (λs C V w h=>⟨by let⟨_,_,_,⟨g,n,N,e,_⟩,_⟩:=h.1;exact⟨g,n,N,e⟩,λb q=>(h.2 b q).imp (I b) id⟩) ⟨B1,λb h=>È<|K b h⟩ xE hn hs (λg N V T cq B ba bi all e=>⟨aqn H hZ e,aqm H e⟩) λt x z B p m c e g N=>hJ t x z B p m c e g<|aqp N
end
end Go.Proofs.Y.kH
namespace Go.Proofs.Y.mZ
open Go Go.Proofs Go.RowKit Go.Proofs.Y.Lift Go.Proofs.Y.gy
def jj(c:Int):Bool:=decide (48<=c)&&decide (c<=57)
def si(c:Int):Bool:=decide (97<=c)&&decide (c<=104)
def wh(c:Int):Int:=
 if c=105 then 1 else if c=103 then 2 else if c=98 then 3 else if c=99 then 4 else if c=109 then 5
 else if c=114 then 6 else if c=108 then 7 else if c=117 then 8 else if c=100 then 9 else 0
def MO(c:Int):Int:=if c=62 then 1 else if c=123 then 2 else if c=58 then 3 else 0
def abk(h:48<=c/\c<=57):jj c=Î:=by simp[jj,h]
theorem E8(c:Int):jj c=Î↔(48<=c/\c<=57):=by simp[jj]
def aqs(c:Int):si c=Î↔(97<=c/\c<=104):=by simp[si]
def rf(k:Int):List Int:=
 if k=1 then[86,58,120,47,66]else if k=2 then[86,58,120,115]else if k=3 then[86,58,120]
 else if k=4 then[86,58,120,62,121,40,110,44,107,41]else if k=5 then[86,58,120,62,121,40,107,41]
 else if k=9 then[86,58,87]else[86]
def sj(k:Int):List Int:=
 if k=1 then[121,61,110]else if k=2 then[80]else[121,40,110,44,107,41]
def oZ(a c:Int):Bool:=
 if a=86\/a=87 then c==104||jj c
 else if a=110\/a=107 then jj c
 else if a=120\/a=121 then si c
 else if a=115 then jj c||(decide (97<=c)&&decide (c<=102))
 else c==a
def qw(a c:Int):Int:=
 if c=48\/jj c=Ë then 0
 else if a=86\/a=87 then 1
 else if a=110\/a=107 then 5
 else 0
def jZ(s:ByteArray):List Int:=s.data.toList.map λc=>((c.toNat:Nat):Int)
def aqt(B:ByteArray)(k:Nat)(h:k<B.size):(jZ B).drop k=((B[k].toNat:Nat):Int)::(jZ B).drop (k+1):=by
 have a:k<(jZ B).length:=by simpa[jZ]using h
 rw[List.drop_eq_getElem_cons a];congr 1;simp[jZ,ċ]
theorem Uf(B:ByteArray):(jZ B).length=B.size:=by unfold jZ;simp_all
theorem wi(s:ByteArray)(h:0<s.size):jZ s=((s[0].toNat:Nat):Int)::(jZ s).tail:=by have:=aqt s 0 h;grind
theorem abl(s:ByteArray)(h:s.size=0):jZ s=[]:=by grind [Ý,Uf]
def aqu(s:ByteArray):jZ (s.extract 1 s.size)=(jZ s).tail:=by unfold jZ;rw[Ĳ,ĺ,<-List.map_tail];congr 1;rw[ĥ,<-List.drop_one];apply List.take_of_length_le;simp_all
theorem aqv(s:ByteArray)(h:s.size<=10):(s.extract 1 s.size).size<=10:=by grind [Č]
theorem aqw(a c:Int):0<=qw a c/\qw a c<=5:=by unfold qw;grind
structure PT where
 c:List Int
 p:ByteArray
structure PR where
 c:List Int
 r:List PT
structure PD where
 S:List PR
 r:Bool
 I:PR
 M:Bool
 N:PT
structure PS where
 C:List Int
 r:Int
 I:Int
 M:Int
 d:PD
namespace PD
def Y(d:PD):List PT:=if d.M then d.I.r++[d.N]else d.I.r
def C(d:PD):List PR:=if d.r then d.S++[⟨d.I.c,d.Y⟩]else d.S
def oc(d:PD)(i:Nat)(z:Int):PD:={d with I:={d.I with c:=d.I.c.set i z}}
def oD(d:PD)(i:Nat)(z:Int):PD:={d with N:={d.N with c:=d.N.c.set i z}}
def iu(d:PD)(i:Nat)(z:Int):PD:=if d.M then d.oD i z else d.oc i z
def oE(d:PD)(p:ByteArray):PD:={d with N:={d.N with p:=p}}
def E6:PT:=⟨[0,0,0,0,0],⟨#[]⟩⟩
def abm(k:Int):PR:=⟨[0,0,0,0,k,0,0,0],[]⟩
def nN(d:PD):PD:={d with I:=⟨d.I.c,d.Y⟩,M:=Î,N:=E6}
def E9(d:PD)(k:Int):PD:={S:=d.C,r:=Î,I:=abm k,M:=Ë,N:=d.N}
def fQ(d:PD)(want z:Int):PD:=
 if want=86 then d.oc 5 z else if want=87 then d.oc 6 z else if want=120 then d.iu 0 z else if want=121 then d.iu 1 z
 else if want=110 then d.iu 2 z else if want=107 then d.iu 3 z else if want=115 then d.oc 7 z else d
def tx(d:PD)(i:Nat):Int:=if d.M then d.N.c.getD i 0 else d.I.c.getD i 0
def G(d:PD)(a:Int):Int:=if a=86 then d.I.c.getD 5 0 else if a=87 then d.I.c.getD 6 0 else if a=110 then d.tx 2 else d.tx 3
end PD
def na(a c:Int):Int:=
 if a=120\/a=121 then Þ [97,98,99,100,101,102,103,104] c.toNat.toUInt8
 else if a=115 then Þ [48,49,50,51,52,53,54,55,56,57,97,98,99,100,101,102] c.toNat.toUInt8
 else if c=104 then-1 else(c-48)%256
def pP(z c:Int):Int:=É.wrap<|É.wrap (z*10)+(c-48)%256
def pQ(st:PS)(c:Int):Option PS:=
 if c=59/\st.d.S.length+1<24 then Â {st with C:=[82]}
 else if c=44/\0<st.d.Y.length/\st.d.Y.length<8 then Â {st with C:=[120,84],d:=st.d.nN}
 else Á
def yh(st:PS)(k:Int):Option PS:=if k=0 then Á else Â {st with C:=rf k,d:=st.d.E9 k}
def yi(st:PS)(k:Int):Option PS:=if k=0 then Á else Â {st with C:=sj k,I:=0,d:=st.d.oD 4 k}
def oe(st:PS)(a c:Int):PS:={st with r:=qw a c,M:=a,d:=st.d.fQ a (na a c)}
def jP(B:ByteArray)(k:Nat)(st:PS)(c:Int):Option PS:=
 match st.C with
 |[]=>pQ st c
 |want::tl=>
  if want=82 then yh st (wh c)
  else if want=66 then
   if si c=Î then Â (oe {st with C:=[84],d:=st.d.nN} 120 c)else pQ st c
  else if want=84 then yi st (MO c)
  else if want=80 then
   if c=125 then Â {st with C:=tl,d:=st.d.oE (B.extract (k-st.I.toNat) k)}
   else if st.I=40\/lB c=0 then Á else Â {st with I:=st.I+1}
  else if oZ want c=Î then Â {oe st want c with C:=tl}
  else Á
def Cv(st:PS)(c:Int):PS:={st with r:=st.r-1,d:=st.d.fQ st.M (pP (st.d.G st.M) c)}
def kS(B:ByteArray)(k:Nat)(st:PS)(c:Int):Option PS:=
 if 0<st.r/\jj c=Î then Â (Cv st c)else jP B k {st with r:=0} c
def jR(B:ByteArray):Nat->Nat->PS->Nat×PS
 |0,k,st=>(k,st)
 |f+1,k,st=>if h:k<B.size then match kS B k st (B[k].toNat:Int)with
  |none=>(k,st)
  |some a=>jR B f (k+1) a
  else(k,st)
def pd0:PD:=⟨[],Ë,⟨[],[]⟩,Ë,⟨[],⟨#[]⟩⟩⟩
def nO:PS:=⟨[82],0,0,0,pd0⟩
def sk(c:Int)(w:Í): Ò À 94 #[Å ū c] w λe a=>e=Æ (õ<|jj c)/\a=w:=by
 go_enter Tryz.func94,Tryz.ntmps94;go_wp2;all_goals go_ret
 all_goals exact⟨n_ (by simp only[jj];first|(simp[*];done)|(rw[Ę];simp;omega)),U⟩
def aqx(s:ByteArray)(c:Int)(w:Í): Ò À 167 #[Ä s,Å ū c] w λe a=>e=Æ (Å É<|Þ s.data.toList c.toNat.toUInt8)/\a=w:=by go_enter Tryz.func167,Tryz.ntmps167;go_wp2;rw[run_callFunc_extern Tryz.func185 fp fp fp fp,Lib.run_indexByteString];simp only[ų];rw[Oper.upon_value];go_wp2;go_ret;exact⟨U,U⟩
def IC(s:ByteArray)(c:Int)(w:Í): Ò À 146 #[Ä s,Å ū c] w λe a=>e=Æ (Å É<|Þ s.data.toList c.toNat.toUInt8)/\a=w:=by go_enter Tryz.func146,Tryz.ntmps146;go_wp2_with (go_at_call 167;refine(aqx _ _ _).mono ?_;rintro e a ⟨rfl,rfl⟩);go_ret;exact⟨U,U⟩
def MP(c:Int):Bool:=jj c||(decide (97<=c)&&decide (c<=102))
def aqy:∀n:Fin 256,decide (0<=Þ [97,98,99,100,101,102,103,104] n.val.toUInt8)=si (n.val:Int):=by decide+kernel
def aqz:∀n:Fin 256,decide (0<=Þ [48,49,50,51,52,53,54,55,56,57,97,98,99,100,101,102] n.val.toUInt8)=MP (n.val:Int):=by decide+kernel
def aqA(a:0<=c)(b:c<256):decide (0<=Þ [97,98,99,100,101,102,103,104] c.toNat.toUInt8)=si c:=by have:=aqy ⟨c.toNat,Z⟩;rwa[show((c.toNat:Nat):Int)=c from by omega]at this
def aqB(a:0<=c)(b:c<256):decide (0<=Þ [48,49,50,51,52,53,54,55,56,57,97,98,99,100,101,102] c.toNat.toUInt8)=MP c:=by have:=aqz ⟨c.toNat,Z⟩;rwa[show((c.toNat:Nat):Int)=c from by omega]at this
def Ug(c:Int)(b:0<=c)(d:c<256)(w:Í): Ò À 98 #[Å ū c] w λe a=>e=Æ (õ<|si c)/\a=w:=by
 have f:=aqA b d;go_enter Tryz.func98,Tryz.ntmps98;go_wp2_with (go_at_call 146;refine(IC _ _ _).mono ?_;rintro e a ⟨rfl,rfl⟩);all_goals go_ret
 all_goals exact⟨U,U⟩
def aqC(c:Int)(b:0<=c)(d:c<256)(w:Í): Ò À 149 #[Å ū c] w λe a=>e=Æ (õ<|MP c)/\a=w:=by
 have f:=aqB b d;go_enter Tryz.func149,Tryz.ntmps149;go_wp2_with (go_at_call 146;refine(IC _ _ _).mono ?_;rintro e a ⟨rfl,rfl⟩);all_goals go_ret
 all_goals exact⟨U,U⟩
def aqD(c:Int)(w:Í): Ò À 102 #[Å ū c] w λe a=>e=Æ (Å É<|MO c)/\a=w:=by
 go_enter Tryz.func102,Tryz.ntmps102;go_wp2;all_goals go_ret
 all_goals refine⟨Ez ?_,U⟩
 all_goals simp only[beq_iff_eq,beq_eq_false_iff_ne,ne_eq]at*
 all_goals simp[MO, *]
def aqE(c:Int)(w:Í): Ò À 97 #[Å ū c] w λe a=>e=Æ (Å É<|wh c)/\a=w:=by
 go_enter Tryz.func97,Tryz.ntmps97;go_wp2;all_goals go_ret
 all_goals refine⟨Ez ?_,U⟩
 all_goals simp only[beq_iff_eq,beq_eq_false_iff_ne,ne_eq]at*
 all_goals simp[wh, *]
def abn(b c:Int)(d:0<=c)(f:c<256)(w:Í): Ò À 104 #[Å ū b,Å ū c] w λe a=>e=Æ (õ<|oZ b c)/\a=w:=by
 go_enter Tryz.func104,Tryz.ntmps104;go_wp2_with (first|(go_at_call 94;refine(sk _ _).mono ?_;rintro e a ⟨rfl,rfl⟩)|(go_at_call 98;refine(Ug _ d f _).mono ?_;rintro e a ⟨rfl,rfl⟩)|(go_at_call 149;refine(aqC _ d f _).mono ?_;rintro e a ⟨rfl,rfl⟩));all_goals go_ret
 all_goals refine⟨n_ ?_,U⟩
 all_goals try go_light
 all_goals simp only[beq_iff_eq,beq_eq_false_iff_ne,ne_eq]at*
 all_goals unfold oZ
 all_goals first|(simp[MP, *];done)|(rw[Ę];simp[*];done)|(rw[Ę];simp[*];omega)
def aqF(k:Int)(w:Í): Ò À 145 #[Å É k] w λe a=>(∃b:ByteArray,e=Æ (Ä b)/\b.size<=10/\jZ b=rf k)/\a=w:=by
 go_enter Tryz.func145,Tryz.ntmps145;go_wp2;all_goals go_ret
 all_goals refine⟨⟨_,U,?_,?_⟩,U⟩
 all_goals try go_light
 all_goals simp only[beq_iff_eq,beq_eq_false_iff_ne,ne_eq]at*
 all_goals first|(simp[jZ,rf, *];done)|decide
def aqG(k:Int)(w:Í): Ò À 148 #[Å É k] w λe a=>(∃b:ByteArray,e=Æ (Ä b)/\b.size<=10/\jZ b=sj k)/\a=w:=by
 go_enter Tryz.func148,Tryz.ntmps148;go_wp2;all_goals go_ret
 all_goals refine⟨⟨_,U,?_,?_⟩,U⟩
 all_goals try go_light
 all_goals simp only[beq_iff_eq,beq_eq_false_iff_ne,ne_eq]at*
 all_goals first|(simp[jZ,sj, *];done)|decide
def ng(m s:Nat):Ñ->Prop
 |Å ū _=>False
 |Å _ _=>True
 |õ _=>True
 |Ä _=>True
 |Ã Á=>True
 |Ã (Â a)=>m<=a.block/\a.block<s
 |Ç Á _ _=>True
 |Ç (Â a) _ _=>m<=a.block/\a.block<s
 |_=>False
def ng.r(h:ng m i v)(d:i<=n):ng m n v:=by
 cases v with
 |int k b=>cases k<;>exact h
 |pointer a=>cases a with
  |none=>trivial
  |some a=>exact⟨h.1,Ġ h.2 d⟩
 |slice a b c=>cases a with
  |none=>trivial
  |some a=>exact⟨h.1,Ġ h.2 d⟩
 |_=>exact h
def MQ(m s:Nat)(o:Obj):Prop:=∃c e a,o=Û c e a/\a.2<=c.size/\0<c.size/\e≠304/\e≠305/\∀v∈c.toList,ng m s v
def jC(m:Nat)(w:Í):Prop:=∀i o,m<=i->w.heap[i]?=Â o->MQ m w.heap.size o
def MQ.r{o:Obj}(h:MQ m i o)(a:i<=n):MQ m n o:=by let⟨c,e,b,d,f,g,j,k,l⟩:=h;exact⟨c,e,b,d,f,g,j,k,λv p=>(l v p).r a⟩
def jC.I(w:Í):jC w.heap.size w:=λi o a h=>by rw[ı a]at h;cases h
def jC.fT(h:jC m w):jC m w.drew:=h
def jC.iQ(h:jC m w)(n:Nat):jC m (w.drewN n):=h
theorem jC.gH(h:jC m w)(cs:Array Ñ)(t:č)(c:0<cs.size)(b:t≠304/\t≠305)(d:∀v∈cs.toList,ng m w.heap.size v):jC m (w.alloc<|Û cs t):=by
 intro i o f a;have k:(w.alloc<|Û cs t).heap.size=w.heap.size+1:=fj
 by_cases e:i<w.heap.size
 .rw[Š _ _ _ e]at a;exact(h i o f a).r Z
 .by_cases g:i=w.heap.size
  .subst g;rw[Ŵ]at a;cases a;exact⟨cs,t,(0,0),U,Ø _,c,b.1,b.2,λv j=>(d v j).r Z⟩
  .grind
def jC.r(h:jC m w)(p:ü)(l:ng m w.heap.size v):jC m (w.setCell p v):=by
 intro i o f a;have n:(w.setCell p v).heap.size=w.heap.size:=fj
 rw[n];by_cases e:i=p.block
 .subst e;unfold Ż at a;simp only[Ķ,if_true]at a;cases d:w.heap[p.block]? with
  |none=>rw[d]at a;cases a
  |some x=>
   rw[d]at a;obtain⟨c,e,r,rfl,g,j,s,t,k⟩:=h _ _ f d;simp only[Ă,Ô]at a;subst a;refine⟨_,e,r,U,?_,?_,s,t,λu b=> ?_⟩
   .split
    .exact g
    .rwa[Ĭ]
   .split
    .exact j
    .rwa[Ĭ]
   .split at b
    .exact k u b
    .rw[Array.toList_setIfInBounds]at b;rcases Ħ b with q|q
     .exact k u q
     .rwa[q]
 .rw[ġ _ _ _ _ (by simpa using e)]at a;exact h i o f a
theorem aqH{ty:č}{bytes base:Nat}(y:P.underlying t=Â (.slice e))(B:P.info? e=Â zJ)(G:zJ.zero=Â (Ã Á)) (s:zJ.size=1) (H:zJ.bytes=bytes) (f:w.ownsRow base e 1 v n l) (a:ü) (c:Nat) (C:∀j M,[z][j]?=Â M->w.cell? (a.add j)=Â M) (N:z.oneCell'=Î) (O:n+1<=ī) (I:(n+1)*bytes<=140737488355328) (W:base<=w.heap.size) (X:mj e=Ë) (hm:m<=base) (D:jC m w) (hg:ng m w.heap.size z) (Y:e≠304/\e≠305): ∃h u,(ė #[t,t] ty #[v,Ç (Â a) 1 c]).run P w=.ok h u/\qg w base e 1 v n l 1 [z] h u/\jC m u/\ng m u.heap.size h:=by
 obtain⟨h,u,J,E⟩:=SJ y B G s H U f a c [z] Z U C (λx b=>by simp at b;subst b;exact N) O I W<|È X;have hgv:ng m u.heap.size h:=by
  obtain⟨p,o,rfl⟩:=jh E.fl;cases p with
  |none=>trivial
  |some p=>
   have k:=E.fl.lt p.block (by rcases E.fl.2 with⟨q,_⟩|⟨g,r,d,q,_⟩<;>(cases q;try rfl));exact⟨Z,k.2⟩
 refine⟨h,u,J,E,?_,hgv⟩;have q:[z].length=1*zJ.size:=by rw[s];rfl
 have hlx:l.length=n*zJ.size:=by rw[s];exact f.1
 have als:n+1<=9223372036854775807:=by simp only[ī]at O;omega
 have tZ:∀x∈l,ng m w.heap.size x:=λx b=>by
  rcases f.2 with⟨_,rfl⟩|⟨g,r,d,rfl,hbg,p,hnc,hcm,Q,htake⟩
  .grind
  .let⟨c2,e2,qD,S,_,_,_,_,q6⟩:=D g _ Z p;grind
 have gr:∀T,jC m (w.drew.alloc<|Û (l.toArray++[z].toArray++φ (Ĺ<|Ã Á) (grownCap w (n+1) T e-(n+1))) e):=λT=>by
  refine jC.gH D _ _ (by simp;omega) Y λx b=> ?_;simp only[Array.toList_append,â]at b;rcases b with(b|b)|b
  .exact tZ x b
  .grind
  .have:=SH b;simp[Ĺ]at this;subst this;trivial
 rcases f.2 with⟨rfl,rfl⟩|⟨g,r,d,rfl,hbg,p,hnc,hcm,Q,htake⟩
 .have b:=Ý (by simpa using f.1);subst b;have K:=run_append_nil w t ty e zJ (Ã Á) y B G a 1 c [z] q C Z Z (by rw[H];have k:=I;simp only[œ]at k;omega);grind
 .by_cases aqI:n+1<=r
  .have SK:n*zJ.size+[z].length<=d.size:=by rw[q,Q,s];omega
   have K:=run_append_room w t ty e zJ y B g n r d p a 1 c [z] q C (λx b=>by simp at b;subst b;exact N) aqI SK;rw[K]at J;cases J;have aqJ:=setRow_heap w g d (d.toList.take (n*zJ.size)++[z]++d.toList.drop (n*zJ.size+[z].length)).toArray e _ p;have aqK:=λk (L:k≠g)=>setRow_other w g k (d.toList.take (n*zJ.size)++[z]++d.toList.drop (n*zJ.size+[z].length)).toArray L;let⟨c2,e2,qD,S,q2,q3,q4,q5,q6⟩:=D g _ Z p;cases S;intro k o L F;have jH:(w.setRow g (d.toList.take (n*zJ.size)++[z]++d.toList.drop (n*zJ.size+[z].length)).toArray).heap.size=w.heap.size:=fj
   rw[jH];by_cases V:k=g
   .subst V;rw[aqJ]at F;cases F;refine⟨_,_,_,U,fj,(by simp;omega),q4,q5,λx b=> ?_⟩;grind
   .rw[aqK k V]at F;exact D k o L F
  .have k:w.ownsRow base e zJ.size (Ç (Â ⟨g,0,Á⟩) n r) n l:=by rwa[s]
   have K:=run_append_grow w t ty e zJ (Ã Á) y B G ⟨g,0,Á⟩ n r l hlx (k.cells U) a 1 c [z] q C Z Z (by rw[H];exact growslice_fits Z I);grind
def abo{f:Array ĝ}{E:Prop}{base:Nat} (k:o.guard=Á) (s x:Operand) (t:č) (p:o.op=Op.call {callee:=Callee.builtin κ,args:=#[s,x],argTypes:=#[t,t]}) {bytes:Nat} (q:P.underlying t=Â (.slice e)) (r:P.info? e=Â zJ) (B:zJ.zero=Â (Ã Á)) (C:zJ.size=1) (D:zJ.bytes=bytes) (F:y.eval s=v) (G:w.ownsRow base e 1 v n l) (ad:ü) (H:y.eval x=Ç (Â ad) 1 b) (I:∀j g,[z][j]?=Â g->w.cell? (ad.add j)=Â g) (J:z.oneCell'=Î) (L:n+1<=ī) (M:(n+1)*bytes<=140737488355328) (N:base<=w.heap.size) (O:mj e=Ë) (S:m<=base) (T:jC m w) (V:ng m w.heap.size z) (W:e≠304/\e≠305) (h:∀d u,qg w base e 1 v n l 1 [z] d u->jC m u->ng m u.heap.size d->K (y.put o.dst d) u): if đ o (Ι f y.tmps)=Î then Oper.wp P o y w K vJ else E:=by
 have X:đ o (Ι f y.tmps)=Î:=by simp[đ,k]
 rw[if_pos X];let⟨d,u,Y,h2,h3,h4⟩:=aqH (ty:=o.type) q r B C D G ad b I J L M N O S T V W;unfold Oper.wp;simp[ś,p,ρ,ar,ς,F,H,Y,ų];exact h d u h2 h3 h4
def nP(l:List Nat):List Ñ:=l.map λa=>Ã<|Â ⟨a,0,Á⟩
def oF(l:List Int):List Ñ:=l.map λz=>Å É z
def Fa(p:PT):List Ñ:=oF p.c++[Ä p.p]
def Cw(c:List Int)(a:Ñ):List Ñ:=oF c++[a]
structure o0(lo hi:Nat)(tb:List Nat)(l:List PT)(w:Í):Prop where
 r:tb.length=l.length
 I:∀(j a:Nat) (p:PT),tb[j]?=Â a->l[j]?=Â p->lo<=a/\a<hi/\p.c.length=5/\fg a (Fa p) 200 w
structure wj(B q:Nat)(r:PR)(w:Í):Prop where
 M:q<B
 C:r.c.length=8
 I:∃vb tb,fg q (Cw r.c vb) 161 w/\w.ownsRow 0 149 1 vb tb.length (nP tb)/\(∀j,vb.ownBlock=Â j->j<B)/\o0 0 B tb r.r w
structure pR(B:Nat)(qs:List Nat)(rs:List PR)(w:Í):Prop where
 I:qs.length=rs.length
 M:∀(j q:Nat) (r:PR),qs[j]?=Â q->rs[j]?=Â r->wj B q r w
section
variable{w':Í}{lo hi B q:Nat}{tb qs:List Nat}{l:List PT}{r:PR}{rs:List PR}
def o0.C(h:o0 lo hi tb l w)(k:e8 X w w')(f:∀a c g,lo<=a->a<hi->w.heap[a]?=Â (Û c 200 g)->¬X a):o0 lo hi tb l w':= ⟨h.r,λj a p i m=>by let⟨b,d,n,e⟩:=h.I j a p i m;exact⟨b,d,n,e.I k<|f a _ _ b d e⟩⟩
def o0.M(h:o0 lo hi tb l w)(f:i<=lo)(g:hi<=n):o0 i n tb l w:= ⟨h.r,λj a p b c=>by let⟨k,m,d,e⟩:=h.I j a p b c;exact⟨Z,Z,d,e⟩⟩
theorem o0.N(lo hi:Nat)(w:Í):o0 lo hi [] [] w:=⟨U,λj a p h=>by cases h⟩
theorem Fb{α:Type}{l:List α}{a x:α}(h:(l++[a])[j]?=Â x):l[j]?=Â x\/j=l.length/\x=a:=by grind
theorem o0.Uh{p:PT}(h:o0 lo hi tb l w)(g:lo<=i)(k:i<hi)(m:p.c.length=5)(n:fg i (Fa p) 200 w):o0 lo hi (tb++[i]) (l++[p]) w:=by
 refine⟨by simp[h.r],λj x y d b=> ?_⟩;rcases Fb d with e|⟨e,rfl⟩
 .rcases Fb b with f|⟨f,rfl⟩
  .exact h.I j x y e f
  .have:=(Õ.1 e).1;have:=h.r;omega
 .rcases Fb b with f|⟨f,rfl⟩
  .have:=(Õ.1 f).1;have:=h.r;omega
  .grind
def Ui(B:Nat)(w:Í)(i:Nat):Prop:=B<=i\/∃c T a,w.heap[i]?=Â (Û c T a)/\(T=153\/T=148)
theorem Uj(a:Ui B w i)(hi:i<B)(h:w.heap[i]?=Â (Û d T xJ))(b:T≠153/\T≠148):False:=by rcases a with q|⟨e,f,qD,g,j⟩;all_goals grind
theorem wj.vq(h:wj B q r w)(k:e8 X w w')(d:∀i,i<w.heap.size->X i->Ui B w i):wj B q r w':=by let⟨f,tb,b,g,l,m⟩:=h.I;refine⟨h.M,h.C,f,tb,b.I k λx=>Uj (d q b.M x) h.M b A,ig g k λj o x=> ?_,l,m.C k λa c p _ n e x=>Uj (d a (á.1 e).1 x) n e A⟩;grind [lX,Uj]
def wj.fO(h:wj B q r w)(a:B<=i):wj i q r w:=by let⟨b,tb,c,d,e,f⟩:=h.I;exact⟨by have:=h.M;omega,h.C,b,tb,c,d,λj g=>by have:=e j g;omega,f.M (æ _) a⟩
def pR.C(h:pR B qs rs w)(k:e8 X w w')(a:∀i,i<w.heap.size->X i->Ui B w i):pR B qs rs w':= ⟨h.I,λj q r b c=>(h.M j q r b c).vq k a⟩
def pR.Uh(h:pR B qs rs w)(b:B<=i)(c:wj i q r w):pR i (qs++[q]) (rs++[r]) w:=by
 refine⟨by simp[h.I],λj x y d a=> ?_⟩;rcases Fb d with e|⟨e,rfl⟩
 .rcases Fb a with f|⟨f,rfl⟩
  .exact(h.M j x y e f).fO b
  .have:=(Õ.1 e).1;have:=h.I;omega
 .rcases Fb a with f|⟨f,rfl⟩
  .have:=(Õ.1 f).1;have:=h.I;omega
  .exact c
theorem pR.N(B:Nat)(w:Í):pR B [] [] w:=⟨U,λj q r h=>by cases h⟩
end
structure Gh where
 a:List Nat
 q:Nat
 t:Nat
 B:Nat
 tb:List Nat
 N:Ñ
 r:Ñ
 b:Option ü
namespace Gh
def C(g:Gh)(d:PD):List Nat:=if d.r then g.a++[g.q]else g.a
def I(g:Gh)(d:PD):List Nat:=if d.M then g.tb++[g.t]else g.tb
def S(g:Gh)(d:PD):Option ü:=if d.r then Â ⟨g.q,0,Á⟩else Á
def Y(g:Gh)(d:PD):Option ü:=if d.M then Â ⟨g.t,0,Á⟩else g.b
def M(g:Gh)(d:PD):Nat:=if d.M then g.t else g.q
def G(g:Gh)(d:PD):Option ü:=if d.r then Â ⟨g.M d,0,Á⟩else Á
def Cx(g:Gh)(d:PD)(a:Int):ü:=if a=86 then⟨g.q,5,Á⟩else if a=87 then⟨g.q,6,Á⟩else if a=110 then⟨g.M d,2,Á⟩else⟨g.M d,3,Á⟩
end Gh
structure wm(m:Nat)(g:Gh)(d:PD)(w:Í):Prop where
 S:m<=g.B
 N:g.B<=g.q
 M:d.I.c.length=8
 r:fg g.q (Cw d.I.c g.r) 161 w
 I:w.ownsRow g.B 149 1 g.r (g.I d).length (nP<|g.I d)
 Y:o0 g.B g.t g.tb d.I.r w
 C:d.M=Î->g.B<=g.t/\d.N.c.length=5/\fg g.t (Fa d.N) 200 w
 a:d.M=Ë->g.tb=[]/\d.I.r=[]
structure kZ(m:Nat)(g:Gh)(d:PD)(w:Í):Prop where
 C:w.ownsRow m 148 1 g.N (g.C d).length (nP<|g.C d)
 I:pR g.B g.a d.S w
 r:d.r=Î->wm m g d w
 N:d.r=Ë->d.M=Ë
def Uk(s:ByteArray)(g:Gh)(d:PD)(a:Option ü)(lq b:Int):List Ñ:=
 [Ä s,g.N,Ã<|g.S d,Ã<|g.Y d,Ã<|g.G d,Ã a,Å É lq,Å É b]
structure gQ(m b:Nat)(g:Gh)(c:Option ü)(s:ByteArray)(st:PS)(w:Í):Prop where
 S:m<=b
 a:jC m w
 r:fg b (Uk s g st.d c st.r st.I) 153 w
 M:s.size<=10
 I:jZ s=st.C
 C:kZ m g st.d w
 c:0<st.r->st.d.r=Î/\c=Â (g.Cx st.d st.M)
 N:st.d.r=Î\/st.C=[82]
def sr(m b:Nat)(st:PS)(w a:Í):Prop:=e8 (λi=>m<=i) w a/\∃g i s,gQ m b g i s st a
section
variable{w':Í}{g:Gh}{d:PD}{s:ByteArray}{st:PS}
theorem wm.vq(h:wm m g d w)(k:e8 X w w')(p:∀i c T b,w.heap[i]?=Â (Û c T b)->X i->T=153\/T=148):wm m g d w':=by
 have l:∀{i:Nat} {c:Array Ñ} {T:č} {b:Nat×Nat},w.heap[i]?=Â (Û c T b)->(T≠153/\T≠148)->¬X i:=λ{i c T b} n f x=>(p i c T b n x).elim f.1 f.2;refine⟨h.S,h.N,h.M,h.r.I k<|l h.r A,ig h.I k λj r=> ?_,h.Y.C k λa c b _ _ q=>l q A,λe=> ?_,h.a⟩
 .let⟨o,s⟩:=lX h.I r;grind
 .let⟨n,f,o⟩:=h.C e;exact⟨n,f,o.I k<|l o A⟩
theorem kZ.rd(h:kZ m g d w)(k:e8 X w w')(b:∀i c T a,w.heap[i]?=Â (Û c T a)->X i->T=153)(f:∀i,i<w.heap.size->X i->∃c a,w.heap[i]?=Â (Û c 153 a)):kZ m g d w':=by
 refine⟨ig h.C k λj l x=> ?_,h.I.C k λi n x=> ?_,λe=>(h.r e).vq k λi c T a q x=>È<|b i c T a q x,h.N⟩
 .let⟨o,q⟩:=lX h.C l;grind
 .let⟨c,a,q⟩:=f i n x;exact Ï ⟨c,_,a,q,È U⟩
def kZ.M(h:kZ m g d w)(a:fg b l 153 w)(k:e8 (λi=>i=b) w w'):kZ m g d w':= h.rd k (λi c T e q x=>by subst x;unfold fg at a;rw[a]at q;cases q;rfl) λi _ x=>⟨l.toArray,(0,0),by rwa[x]⟩
def pS{i:Nat}{v:Value}{j:Nat}{vs:List Value}{T:TypeId}(h:fg j vs T w)(hT:mj T=false:=by decide):e8 (λk=>k=j) w (w.setCell ⟨j,i,none⟩ v):=e8.I (X:=λk=>k=j) U v<|Ï<|h.G hT
def kZ.G(h:kZ m g d w):(g.C d).length=d.C.length:=by unfold Gh.C PD.C;split<;>simp[h.I.I]
def wm.G(h:wm m g d w):(g.I d).length=d.Y.length:=by unfold Gh.I PD.Y;split<;>simp[h.Y.r]
def Ul(h:i<zQ.length)(v:Ñ):(oF zQ++[v])[i]?=Â (Å É<|zQ.getD i 0):=by rw[Ĥ (by simpa[oF]using h)];simp[oF,Ğ,h]
def abp(l:List Int)(i:Nat)(z:Int)(v:Ñ)(h:i<l.length):(oF l++[v]).set i (Å É z)=oF (l.set i z)++[v]:=by rw[List.set_append_left _ _ (by simpa[oF]using h)];simp[oF,List.map_set]
def abq(l:List Int)(v u:Ñ):(oF l++[v]).set l.length u=oF l++[u]:=by rw[Ĵ _ _ (by simp[oF])];simp[oF]
def Cy(l:List Int)(v:Ñ):(oF l++[v])[l.length]?=Â v:=by rw[ğ (by simp[oF])];simp[oF]
theorem kZ.S(h:kZ m g d w)(on:d.r=Î)(n:i<8)(z:Int):kZ m g (d.oc i z) (w.setCell ⟨g.q,i,Á⟩<|Å É z):=by
 have l:=h.r on;have k:e8 (λk=>k=g.q) w (w.setCell ⟨g.q,i,Á⟩<|Å É z):=pS l.r;have r:=l.N;refine⟨ig h.C k λj b x=>jB h.C l.r A (by rw[b,x]),h.I.C k λi _ x=>È Z,λ_=>⟨l.S,l.N,by simp[PD.oc,l.M],?_,ig l.I k λj b x=>jB l.I l.r A (by rw[b,x]),l.Y.C k λa c s _ _ q x=> ?_,λe=> ?_,l.a⟩,h.N⟩
 .have:=l.r.fQ i<|Å É z;unfold Cw at this;rw[abp _ _ _ _ (by rwa[l.M])]at this;exact this
 .have:=l.r;unfold fg at this;grind
 .let⟨o,p,f⟩:=l.C e;exact⟨o,p,f.I k λx=>(fg.S f l.r A) x⟩
theorem kZ.iu(h:kZ m g d w)(on:d.r=Î)(f:d.M=Î){p:PT}(n:p.c.length=5)(r:(Fa d.N).set i v=Fa p):kZ m g {d with N:=p} (w.setCell ⟨g.t,i,Á⟩ v):=by have l:=h.r on;let⟨o,s,b⟩:=l.C f;have k:e8 (λk=>k=g.t) w (w.setCell ⟨g.t,i,Á⟩ v):=pS b;refine⟨ig h.C k λj e x=>jB h.C b A (by rw[e,x]),h.I.C k λi _ x=>È Z,λ_=>⟨l.S,l.N,l.M,l.r.I k λx=>(fg.S l.r b A) x,ig l.I k λj e x=>jB l.I b A (by rw[e,x]),l.Y.C k λa c u _ q _ x=>by omega,λ_=>⟨o,n,?_⟩,l.a⟩,h.N⟩;have:=b.fQ i v;grind
def kZ.Y(h:kZ m g d w)(on:d.r=Î)(a:d.M=Î)(c:i<5)(z:Int):kZ m g (d.oD i z) (w.setCell ⟨g.t,i,Á⟩<|Å É z):=by let⟨e,b,f⟩:=(h.r on).C a;exact h.iu on a (by simp[b])<|abp _ _ _ _<|by rwa[b]
def kZ.oE(h:kZ m g d w)(on:d.r=Î)(a:d.M=Î)(p:ByteArray):kZ m g (d.oE p) (w.setCell ⟨g.t,5,Á⟩<|Ä p):=by let⟨e,b,f⟩:=(h.r on).C a;refine h.iu on a b ?_;have:=abq d.N.c (Ä d.N.p)<|Ä p;rwa[b]at this
structure qx(m b:Nat)(g:Gh)(d:PD)(ab ao:Nat)(f:Int->PD)(x:Int)(w:Í):Prop where
 r:ab≠b
 N:m<=ab
 Y:ab<w.heap.size
 C:w.cell? ⟨ab,ao,Á⟩=Â (Å É x)
 I:w.frozen? ⟨ab,ao,Á⟩=Ë
 nf:NF ab w
 S:∀W,kZ m g d W->∀z,kZ m g (f z)<|W.setCell ⟨ab,ao,Á⟩<|Å É z
 M:∀z,g.S (f z)=g.S d/\g.Y (f z)=g.Y d/\g.G (f z)=g.G d/\(f z).r=d.r/\∀n,g.Cx (f z) n=g.Cx d n
theorem Fc(h:kZ m g d w)(f:fg b l 153 w)(on:d.r=Î)(e:i<8):qx m b g d g.q i (λz=>d.oc i z) (d.I.c.getD i 0) w:=by have a:=h.r on;exact⟨fg.S a.r f A,Ì a.S a.N,a.r.M,a.r.r i _ (Ul (by rwa[a.M]) _),a.r.C i,a.r.G,λW j z=>j.S on e z,λz=>⟨U,U,U,U,λn=>rfl⟩⟩
theorem abr(h:kZ m g d w)(k:fg b l 153 w)(on:d.r=Î)(f:d.M=Î)(j:i<5):qx m b g d g.t i (λz=>d.oD i z) (d.N.c.getD i 0) w:=by have a:=h.r on;let⟨o,p,e⟩:=a.C f;exact⟨fg.S e k A,Ì a.S o,e.M,e.r i _ (Ul (by rwa[p]) _),e.C i,e.G,λW q z=>q.Y on f j z,λz=>⟨U,U,U,U,λn=>rfl⟩⟩
theorem Fe(h:kZ m g d w)(a:fg b l 153 w)(on:d.r=Î)(c:i<4):qx m b g d (g.M d) i (λz=>d.iu i z) (d.tx i) w:=by unfold PD.iu PD.tx Gh.M;split;all_goals grind [abr,Fc]
theorem gQ.G{f:Int->PD}(h:gQ m b g O s st w)(n:qx m b g st.d i j f c w)(z:Int):gQ m b g O s {st with d:=f z} (w.setCell ⟨i,j,Á⟩<|Å É z):=by
 let⟨e,l,o,a,p⟩:=n.M z;have k:e8 (λk=>k=i) w (w.setCell ⟨i,j,Á⟩<|Å É z):=e8.I (X:=λk=>k=i) U _<|È U;refine⟨h.S,h.a.r _ trivial,?_,h.M,h.I,n.S w h.C z,λq=> ?_,?_⟩
 .have:=h.r.I k λc=>n.r c.symm;unfold Uk at this|-;grind
 .let⟨r,t⟩:=h.c q;grind
 .simp only[a];exact h.N
def gQ.MR(h:gQ m b g O s st w)(a:ByteArray)(r:List Int)(c:a.size<=10)(e:jZ a=r)(f:st.d.r=Î\/r=[82]):gQ m b g O a {st with C:=r} (w.setCell ⟨b,0,Á⟩<|Ä a):= ⟨h.S,h.a.r _ trivial,h.r.fQ 0 _,c,e,h.C.M h.r<|pS h.r,h.c,f⟩
def gQ.Y(h:gQ m b g O s st w)(z:Int)(a:0<z->st.d.r=Î/\O=Â (g.Cx st.d st.M)):gQ m b g O s {st with r:=z} (w.setCell ⟨b,6,Á⟩<|Å É z):= ⟨h.S,h.a.r _ trivial,h.r.fQ 6 _,h.M,h.I,h.C.M h.r<|pS h.r,a,h.N⟩
def gQ.abt(h:gQ m b g O s st w)(z:Int):gQ m b g O s {st with I:=z} (w.setCell ⟨b,7,Á⟩<|Å É z):= ⟨h.S,h.a.r _ trivial,h.r.fQ 7 _,h.M,h.I,h.C.M h.r<|pS h.r,h.c,h.N⟩
def gQ.abu(h:gQ m b g O s st w)(a:ü)(n:Int)(d:st.r=0)(c:m<=a.block/\a.block<w.heap.size):gQ m b g (Â a) s {st with M:=n} (w.setCell ⟨b,5,Á⟩<|Ã<|Â a):= ⟨h.S,h.a.r _ c,h.r.fQ 5 _,h.M,h.I,h.C.M h.r<|pS h.r,λq=>by have:0<st.r:=q;omega,h.N⟩
def gQ.fT(h:gQ m b g O s st w):gQ m b g O s st w.drew:=by have k:=e8.fT ff w;exact⟨h.S,h.a,h.r.I k id,h.M,h.I,h.C.rd k (λ_ _ _ _ _ x=>x.elim) λ_ _ x=>x.elim,h.c,h.N⟩
end
section
variable{w':Í}{g:Gh}{st:PS}{f:Int->PD}{x:Int}
def qx.rd{d:PD}(h:qx m b g d n j f x w)(i:Nat)(v:Ñ):qx m b g d n j f x (w.setCell ⟨b,i,Á⟩ v):= ⟨h.r,h.N,by simpa using h.Y,by rw[HN<|Ne.symm h.r];exact h.C,by rw[World.frozen?_setCell];exact h.I,λc T a q=>h.nf c T a (by rwa[ġ _ _ _ _ (by simpa using h.r)]at q),h.S,h.M⟩
def gQ.Um(h:gQ m b g O B st w)(n:Int)(a:st.r=0):gQ m b g O B {st with M:=n} w:= ⟨h.S,h.a,h.r,h.M,h.I,h.C,λq=>by have:0<st.r:=q;omega,h.N⟩
def mL(h:gQ m b g O B st w)(i:Nat)(v:Ñ):e8 (λi=>m<=i) w (w.setCell ⟨b,i,Á⟩ v):=e8.I (X:=λi=>m<=i) (p:=⟨b,i,Á⟩) h.S v<|Ï h.r.G
def Ff(h:qx m b g st.d n j f x w)(z:Int):e8 (λi=>m<=i) w (w.setCell ⟨n,j,Á⟩<|Å É z):=e8.I (X:=λi=>m<=i) (p:=⟨n,j,Á⟩) h.N _<|È U
def wo(c a:Int):Int:=if c=104\/c=48 then 0 else a-1
def jv(c:Int):Int:=if c=104 then-1 else(c-48)%256
def Un{st:PS}(h:st.r=0)(n:Int)(d:PD):({st with r:=0,M:=n,d:=d}:PS)={st with M:=n,d:=d}:=by rw[<-h]
def MS(h:gQ m b g O B st w)(i:qx m b g st.d n j f x w)(k:st.r=0)(o:st.d.r=Î)(c l a:Int)(y:0<=l)(C:l<=6)(p:∀z,g.Cx (f z) a=⟨n,j,Á⟩): Ò À 147 #[Ã<|Â ⟨b,0,Á⟩,Ã<|Â ⟨n,j,Á⟩,Å ū c,Å É l] w λe w'=>
  e=Æ (ë #[])/\sr m b {st with r:=wo c l,M:=a,d:=f (jv c)} w w':=by
 have D:=h.r.r 5 _ U;have E:=h.r.r 6 _ U;have F:=h.r.C 5;have G:=h.r.C 6;have I:=i.C;have J:=i.I;have K:=i.r;have L:¬b=n:=λe=>i.r e.symm;have s:m<=n/\n<w.heap.size:=⟨i.N,i.Y⟩;have H:=fc<|Ê h<|Ê i<|Ê p<|Ê k o;by_cases r:c=104
 .subst r;go_enter Ŗ,ŋ;go_wp2;first|go_end0|refine ÿ (results_none U _ _ _) U ?_
  let⟨h,i,p,k,o⟩:=H.out;refine⟨U,Ff i _,g,O,B,?_⟩;have:=(h.G i<|-1).Um a k;rw[show wo 104 l=0 from if_pos<|È U,Un k];exact this
 .have M:(c==104)=Ë:=by rwa[beq_eq_false_iff_ne]
  have t:jv c=(c-48)%256:=if_neg r;by_cases v:c=48
  .subst v;go_enter Ŗ,ŋ;go_wp2;go_end0;let⟨h,i,p,k,o⟩:=H.out;have u:=h.abu ⟨n,j,Á⟩ a k s;have q:=i.rd 5<|Ã<|Â ⟨n,j,Á⟩;refine⟨U,(mL h 5 _).fe<|Ff q _,g,Â ⟨n,j,Á⟩,B,?_⟩;have:=u.G q 0;rw[show wo 48 l=0 from if_pos<|Ï U,Un k,t];exact this
  .go_enter Ŗ,ŋ;go_wp2;go_end0;let⟨h,i,p,k,o⟩:=H.out;have q:=i.rd 5<|Ã<|Â ⟨n,j,Á⟩;have u:=(h.abu ⟨n,j,Á⟩ a k s).G q<|(c-48)%256;refine⟨U,((mL h 5 _).fe<|Ff q _).fe<|mL u 6 _,g,Â ⟨n,j,Á⟩,B,?_⟩;rw[show wo c l=l-1 from if_neg Z,t];exact(u.Y (l-1) λ_=>⟨by simp only;rwa[(i.M _).2.2.2.1],by simp only;rw[p]⟩)
theorem MU{b a:Int}(h:oZ a c=Î)(d:(a=86\/a=87)/\b=2\/(a=110\/a=107)/\b=6):wo c b=qw a c:=by unfold wo qw;unfold oZ at h;grind [E8]
theorem MV{a:Int}(h:¬(a=86\/a=87)/\¬(a=110\/a=107)):qw a c=0:=by unfold qw;grind
theorem MW{a:Int}(h:a=86\/a=87\/a=110\/a=107):na a c=jv c:=by unfold na jv;grind
def Uo(h:gQ m b g O B st w)(i:qx m b g st.d n j f x w)(k:st.r=0){a z:Int}(e:c=0)(l:w'=(w.setCell ⟨n,j,Á⟩<|Å É z).drew):sr m b {st with r:=c,M:=a,d:=f z} w w':=by subst l;subst e;rw[Un k];exact⟨(Ff i z).fe<|e8.fT _ _,g,O,B,((h.G i z).Um a k).fT⟩
end
section
variable{g:Gh}{st:PS}
def IF{d:PD}(a:d.M=Î):g.Y d=Â ⟨g.t,0,Á⟩:=if_pos a
def aqL:yi st 0=Á:=rfl
def aqM(h:gQ m b g O B st w)(r:st.r=0)(on:st.d.r=Î)(f:st.d.M=Î)(k:Int): Ò À 101 #[Ã<|Â ⟨b,0,Á⟩,Å É k] w λe u=>match yi st k with
  |none=>e=Æ (õ Ë)/\u=w
  |some a=>e=Æ (õ Î)/\sr m b a w u:=by
 have s:=h.r.r 0 _ U;have o:=h.r.r 3 _ U;have v:=h.r.r 7 _ U;rw[IF f]at o;have x:=h.r.C 0;have y:=h.r.C 7;have a:=abr h.C h.r on f (i:=4) A;have z:=a.C;have C:=a.I;have D:=a.r;have E:¬b=g.t:=λe=>a.r e.symm;have H:=fc<|Ê h a;by_cases c:k=0
 .subst c;rw[aqL];go_enter Κ,ż;go_wp2;go_ret;exact⟨U,U⟩
 .have F:(k==0)=Ë:=by rwa[beq_eq_false_iff_ne]
  have e:yi st k=Â {st with C:=sj k,I:=0,d:=st.d.oD 4 k}:=if_neg c;rw[e];go_enter Κ,ż;go_wp2_with (go_at_call 148;refine(aqG _ _).mono ?_;rintro e u ⟨⟨j,rfl,p,q⟩,l⟩;subst u);go_ret;let⟨h,a⟩:=H.out;have l:=h.G a k;have n:=l.abt 0;exact⟨U,((Ff a k).fe<|mL l 7 _).fe<|mL n 0 _,g,O,j,n.MR j _ p q<|È on⟩
end
def aqN:(À.info? 149).map (λi=>(i.zero,i.size,i.bytes))=Â (Â<|Ã Á,1,8):=fp
def aqO:(À.info? 148).map (λi=>(i.zero,i.size,i.bytes))=Â (Â<|Ã Á,1,8):=fp
section
variable{g:Gh}{nm:Option ü}{s:ByteArray}{st:PS}{d:PD}{T:Nat}
structure uT(m:Nat)(g:Gh)(d:PD)(T:Nat)(w:Í):Prop where
 C:w.ownsRow m 148 1 g.N (g.C d).length (nP<|g.C d)
 I:pR g.B g.a d.S w
 N:o0 g.B T (g.I d) d.Y w
 tb:fg T (Fa PD.E6) 200 w
def IG(x:i=j)(h:fg j l t w):w.heap[i]?=Â (Û l.toArray t (0,0)):=by rwa[x]
theorem uT.r(h:uT m g d T w)(k:e8 X w u)(f:∀i,i<w.heap.size->X i->∃c t b,w.heap[i]?=Â (Û c t b)/\(t=153\/(t=161\/t=149)/\g.B<=i)):uT m g d T u:=by
 have e:∀{i:Nat} {c:Array Ñ} {t:č} {b:Nat×Nat},w.heap[i]?=Â (Û c t b)->(t≠153/\t≠161/\t≠149)->¬X i:=λ{i c t b} q1 q2 x=>by grind
 refine⟨ig h.C k λj l=> ?_,h.I.C k λi n x=> ?_,h.N.C k λa c b _ _ q=>e q A,h.tb.I k<|e h.tb A⟩
 .let⟨o,p⟩:=lX h.C l;grind
 .let⟨r,s,qD,o,p⟩:=f i n x;rcases p with rfl|⟨_,z⟩
  .exact Ï ⟨_,_,_,o,È U⟩
  .exact È z
def uT.fL(h:uT m g d T w)(k:e8 ff w u):uT m g d T u:=h.r k λ_ _ x=>x.elim
def uT.M(h:uT m g d T w)(a:fg b l 153 w):uT m g d T (w.setCell ⟨b,i,Á⟩ v):= h.r (pS a) λi _ x=>⟨_,_,_,IG x a,È U⟩
theorem wm.abv(l:wm m g d w):o0 g.B w.heap.size (g.I d) d.Y w:=by
 unfold Gh.I PD.Y;split
 .rename_i e;let⟨b,c,a⟩:=l.C e;have:=a.M;exact(l.Y.M (æ _) Z).Uh b a.M c a
 .rename_i e;let⟨b,c⟩:=l.a (by simpa using e);grind [o0.N]
theorem jC.C(n:jC m w)(g:fg b l e w)(C:m<=b)(p:e≠304/\e≠305)(d:Array Ñ)(t:č)(u:0<d.size)(r:t≠304/\t≠305)(h:∀v∈d.toList,ng m (w.heap.size+1) v):jC m ((w.setCell ⟨b,i,Á⟩<|Ã<|Â ⟨w.heap.size,0,Á⟩).alloc<|Û d t):=by
 have s:(w.setCell ⟨b,i,Á⟩<|Ã<|Â ⟨w.heap.size,0,Á⟩).heap.size=w.heap.size:=fj
 have D:=g.M;intro j o k c;have x:((w.setCell ⟨b,i,Á⟩<|Ã<|Â ⟨w.heap.size,0,Á⟩).alloc<|Û d t).heap.size=w.heap.size+1:=fj
 rw[x];by_cases a:j<w.heap.size
 .rw[Š _ _ _ (by rwa[s])]at c;by_cases f:j=b
  .subst f;have:=g.fQ i<|Ã<|Â ⟨w.heap.size,0,Á⟩;unfold fg at this;rw[this]at c;cases c;let⟨E,F,G,y,H,z,I,J,B⟩:=n j _ k g;cases y;refine⟨_,_,_,U,fj,by simpa using z,p.1,p.2,λv h=> ?_⟩;rcases Ħ (by simpa using h)with q|q
   .exact(B v<|by simpa using q).r Z
   .rw[q];exact⟨Ì k<|Nat.le_of_lt a,Nat.lt_succ_self _⟩
  .rw[ġ _ _ _ _ (by simpa using f)]at c;exact(n j o k c).r Z
 .by_cases f:j=w.heap.size
  .have:=Ŵ (w.setCell ⟨b,i,Á⟩<|Ã<|Â ⟨w.heap.size,0,Á⟩)<|Û d t;rw[s]at this;rw[f,this]at c;cases c;exact⟨_,_,_,U,Ø _,u,r.1,r.2,h⟩
  .grind
def MX(b:Nat)(w:Í):Í:=(w.setCell ⟨b,3,Á⟩<|Ã<|Â ⟨w.heap.size,0,Á⟩).alloc<|Û #[Å É 0,Å É 0,Å É 0,Å É 0,Å É 0,Ä ⟨#[]⟩] 200
def rdM(s:ByteArray)(g:Gh)(d:PD)(a b nm:Option ü)(lq c:Int):List Ñ:=
 [Ä s,g.N,Ã<|g.S d,Ã a,Ã b,Ã nm,Å É lq,Å É c]
structure Fg(m b:Nat)(g:Gh)(d:PD)(T:Nat)(s:ByteArray)(tm nm:Option ü)(lq Up:Int)(w0 w:Í):Prop where
 S:e8 (λi=>m<=i) w0 w
 N:jC m w
 r:fg b (rdM s g d (Â ⟨T,0,Á⟩) tm nm lq Up) 153 w
 M:uT m g d T w
 I:fg g.q (Cw d.I.c g.r) 161 w
 C:w.ownsRow g.B 149 1 g.r (g.I d).length (nP<|g.I d)
def Fg.fL{lq:Int}(h:Fg m b g d T s O nm lq c W w)(k:e8 ff w u)(a:jC m u):Fg m b g d T s O nm lq c W u:= ⟨h.S.C k λ_ _ x=>x.elim,a,h.r.I k id,h.M.fL k,h.I.I k id,ig h.C k λ_ _=>id⟩
theorem gQ.aqP(h:gQ m b g nm s st w)(on:st.d.r=Î):Fg m b g st.d w.heap.size s (g.G st.d) nm st.r st.I w (MX b w):=by
 have l:=h.C.r on;have p:(w.setCell ⟨b,3,Á⟩<|Ã<|Â ⟨w.heap.size,0,Á⟩).heap.size=w.heap.size:=fj
 have n:e8 ff (w.setCell ⟨b,3,Á⟩<|Ã<|Â ⟨w.heap.size,0,Á⟩) (MX b w):=e8.gH _ _ _ _;have r:e8 (λk=>k=b) w (w.setCell ⟨b,3,Á⟩<|Ã<|Â ⟨w.heap.size,0,Á⟩):=pS h.r;have e:=r.C n λ_ _ x=>x.elim;refine⟨e.S λk _ x=>by rw[x];exact h.S,?_,(h.r.fQ 3 _).I n id,⟨ig h.C.C e λj f x=>jB h.C.C h.r A (by rw[f,x]),h.C.I.C e λi _ x=>Ï ⟨_,_,_,IG x h.r,È U⟩,l.abv.C e λa c t _ _ q x=> ?_,?_⟩,l.r.I e λx=>fg.S l.r h.r A x,ig l.I e λj f x=>jB l.I h.r A<|by rw[f,x]⟩
 .exact h.a.C h.r h.S A _ _ fj A λv o=>by simp at o;rcases o with rfl|rfl<;>trivial
 .have o:=h.r;unfold fg at o;grind
 .have:=fg.N (w.setCell ⟨b,3,Á⟩<|Ã<|Â ⟨w.heap.size,0,Á⟩) [Å É 0,Å É 0,Å É 0,Å É 0,Å É 0,Ä ⟨#[]⟩] 200;rwa[p]at this
def Uq(g:Gh)(d:PD)(T:Nat)(v:Ñ):Gh:={g with t:=T,tb:=g.I d,r:=v}
theorem Fg.jL(h:Fg m b g st.d T s O nm st.r st.I w u)(C:m<=b)(on:st.d.r=Î)(a:m<=g.B/\g.B<=g.q/\st.d.I.c.length=8)(D:g.B<=T)(hd:st.r=0) (l:qg u g.B 149 1 g.r (g.I st.d).length (nP<|g.I st.d) 1 [Ã<|Â ⟨T,0,Á⟩] v W) (K:jC m W) (L:ng m W.heap.size v) (n:jX=((W.setCell ⟨g.q,8,Á⟩ v).setCell ⟨b,4,Á⟩<|Ã<|Â ⟨T,0,Á⟩).setCell ⟨b,0,Á⟩ (Ä ⟨#[84]⟩)): e8 (λi=>m<=i) w jX/\gQ m b (Uq g st.d T v) nm ⟨#[84]⟩ {st with C:=[84],d:=st.d.nN} jX:=by
 have E:∀{j:Nat} {M:List Ñ} {t:č},fg j M t u->149≠t->¬g.r.ownBlock=Â j:=λN f=>jB h.C N f;have F:=h.r.I l.r<|E h.r A;have f:=h.I.I l.r<|E h.I A;have P:=h.M.r l.r λi _ x=>by let⟨k,z⟩:=lX h.C x;exact⟨_,_,_,z,Ï ⟨Ï U,(h.C.lt i x).1⟩⟩
 have o:e8 (λk=>k=g.q) W (W.setCell ⟨g.q,8,Á⟩ v):=pS f;have G:fg g.q (Cw st.d.I.c v) 161 (W.setCell ⟨g.q,8,Á⟩ v):=by have:=f.fQ 8 v;have e:=abq st.d.I.c g.r v;rw[a.2.2]at e;unfold Cw at this|-;grind
 have z:=F.I o λx=>fg.S F f A x;have H:=P.r o λi _ x=>⟨_,_,_,IG x f,Ï ⟨È U,by rw[x];exact a.2.1⟩⟩;have I:=ig l.fl o λj p x=>jB l.fl f A (by rw[p,x]);have Q:jC m (W.setCell ⟨g.q,8,Á⟩ v):=K.r _ L;have S:e8 (λk=>k=b) (W.setCell ⟨g.q,8,Á⟩ v) ((W.setCell ⟨g.q,8,Á⟩ v).setCell ⟨b,4,Á⟩<|Ã<|Â ⟨T,0,Á⟩):=pS z;have r:=z.fQ 4<|Ã<|Â ⟨T,0,Á⟩;have V:e8 (λk=>k=b) ((W.setCell ⟨g.q,8,Á⟩ v).setCell ⟨b,4,Á⟩<|Ã<|Â ⟨T,0,Á⟩) jX:=by rw[n];exact pS r
 have J:=r.fQ 0<|Ä ⟨#[84]⟩;rw[<-n]at J;have k:uT m g st.d T jX:=by rw[n];exact(H.M z).M r
 have y:=S.fe V;have X:=G.I y λx=>fg.S G z A x;have Y:=ig I y λj p x=>jB I z A (by rw[p,x]);have hTl:=H.tb.M;have c5:jC m jX:=by rw[n];refine(Q.r _ ?_).r _ trivial;exact⟨Ì a.1 D,hTl⟩
 have e1:(g.I st.d++[T]).length=(g.I st.d).length+1:=fj
 have e2:nP (g.I st.d++[T])=nP (g.I st.d)++[Ã<|Â ⟨T,0,Á⟩]:=by simp[nP]
 refine⟨((h.S.C l.r λi _ x=> ?_).C o λi _ x=> ?_).C y λi _ x=> ?_,C,c5,?_,A,U,⟨k.C,k.I,λ_=>⟨a.1,a.2.1,a.2.2,X,?_,k.N,λ_=>⟨D,U,k.tb⟩,λe=>by cases e⟩,λe=> ?_⟩,λe=> ?_,È on⟩
 .have:=(h.C.lt i x).1;have:=a.1;omega
 .grind
 .rwa[x]
 .have e:(Uq g st.d T v).S st.d.nN=g.S st.d:=U;unfold Uk;rw[e];have e4:(Uq g st.d T v).G st.d.nN=Â ⟨T,0,Á⟩:=if_pos on;rwa[e4]
 .show jX.ownsRow g.B 149 1 v (g.I st.d++[T]).length (nP<|g.I st.d++[T]);rwa[e1,e2]
 .have:st.d.r=Ë:=e;grind
 .grind
def abw(h:gQ m b g nm s st w)(C:st.r=0)(o:st.d.r=Î)(D:st.d.Y.length<=100000): Ò À 99 #[Ã<|Â ⟨b,0,Á⟩] w λe u=>e=Æ (ë #[])/\sr m b {st with C:=[84],d:=st.d.nN} w u:=by
 have Y:=h.r.r 3 _ U;have f3:=h.r.C 3;have gS:=h.r.M;have l:=h.C.r o;have y:=h.aqP o;have E:=λv=>by have:=Cy st.d.I.c v;rwa[l.M]at this
 have F:m<=g.B/\g.B<=g.q/\st.d.I.c.length=8:=⟨l.S,l.N,l.M⟩;have G:g.B<=w.heap.size:=by have:=l.r.M;have:=l.N;omega
 have I:(g.I st.d).length<=100000:=by rwa[l.G]
 have J:=h.S;have H:=fc<|Ê F<|Ê G<|Ê I<|Ê J<|Ê C o;have j:=fc<|E g.r;have x:g.S st.d=Â ⟨g.q,0,Á⟩:=if_pos o;go_enter Tryz.func99,Tryz.ntmps99;go_wp2_with fail;change ß À _ _ _ (MX b w);have k:=y.fL (e8.fT _ _) y.N.fT;generalize hT:w.heap.size=T at*;generalize L:(MX b w).drew=w1 at*;let⟨i0,M,N,O,P⟩:=ů aqN;have p:=fc<|Ê M<|Ê N<|Ê O P;refine mq (λu=>u.cell? ⟨b,2,Á⟩=Â (Ã<|g.S st.d)/\u.cell? ⟨b,3,Á⟩=Â (Ã<|Â ⟨T,0,Á⟩)/\u.cell? ⟨g.q,8,Á⟩=Â g.r) [19] fp ?_;rw[L];rw[x];have Q:Hid (w1.cell? ⟨b,2,Á⟩=Â (Ã<|Â ⟨g.q,0,Á⟩)/\w1.cell? ⟨b,3,Á⟩=Â (Ã<|Â ⟨T,0,Á⟩)/\w1.cell? ⟨g.q,8,Á⟩=Â g.r):=fc ⟨by rw[<-x];exact k.r.r 2 _ U,k.r.r 3 _ U,k.I.r 8 _ j.out⟩;have r:=fc x;iterate 15 apply tk Q.out
 have S:=k.M.tb.M;have a:=k.fL (e8.gH ff w1 #[Ã<|Â ⟨T,0,Á⟩] 149) (k.N.gH _ _ fj A λv f=>by simp at f;subst f;exact⟨Ì H.out.1.1 H.out.2.1,S⟩);apply gB 15;intro K i;go_simp;refine i.out _ _ (λ_=>⟨by rw[<-r.out];exact a.r.r 2 _ U,a.r.r 3 _ U,a.I.r 8 _ j.out⟩) ?_;apply gB 16;intro K i;refine abo fN _ _ 159 fN Tryz.underlying159 p.out.1 p.out.2.1 p.out.2.2.1 p.out.2.2.2 fN a.C ⟨w1.heap.size,0,Á⟩ fN (Λ w1 _ _) U (by have:=H.out.2.2.1;unfold ī;omega) (by have:=H.out.2.2.1;omega) (by have:=H.out.2.1;have:=a.M.tb.M;omega) A H.out.1.1 a.N ⟨Ì H.out.1.1 H.out.2.1,a.M.tb.M⟩ A ?_;intro v9 w9 t V W;obtain⟨a9,n9c,rfl⟩:=jh t.fl;have f:=a.r.I t.r<|jB a.C a.r A;have n:=a.I.I t.r<|jB a.C a.I A;refine i.out _ _ (λ_=>⟨by rw[<-r.out];exact f.r 2 _ U,f.r 3 _ U,n.r 8 _ j.out⟩) ?_;apply gB 17;intro K i;go_simp;refine i.out _ _ (λ_=>⟨by rw[<-r.out];exact f.r 2 _ U,f.r 3 _ U,n.r 8 _ j.out⟩) ?_;apply gB 18;intro K i;go_simp;refine i.out _ _ (λ_=>⟨by rw[<-r.out];exact f.r 2 _ U,f.r 3 _ U,n.r 8 _ j.out⟩) ?_;have cq8:=n.r 8 _ j.out;have fq8:=n.C 8;have cb4:=f.r 4 _ U;have fb4:=f.C 4;have cb0:=f.r 0 _ U;have fb0:=f.C 0;have cb3:=f.r 3 _ U;have X:=fg.S n f A;have hbq:¬b=g.q:=λe=>X e.symm;apply gB 19;intro K i;go_simp;apply i.out _ _ λz=>absurd A z;refine lY fp ?_ _;have z:=fc<|a.jL H.out.2.2.2.1 o H.out.1 H.out.2.1 H.out.2.2.2.2.1 t V W U;go_wp2_with fail;go_end0;exact⟨U,z.out.1,_,_,_,z.out.2⟩
end
section
variable{g:Gh}{nm:Option ü}{s:ByteArray}{f:PS}{d:PD}{Q:Nat}{k:Int}
def aqQ(h:w.ownsRow i e 1 v n l)(c:j<=i):w.ownsRow j e 1 v n l:= ⟨h.1,h.2.imp id λ⟨g,d,f,a,b,r⟩=>⟨g,d,f,a,Ì c b,r⟩⟩
def wm.gd(l:wm m g d w):wj w.heap.size g.q ⟨d.I.c,d.Y⟩ w:= ⟨l.r.M,l.M,g.r,g.I d,l.r,aqQ l.I<|Ø _,λj a=>(l.I.lt j a).2,l.abv.M (Ø _)<|æ _⟩
theorem kZ.abx(h:kZ m g d w)(a:d.r=Ë->d.S=[]):pR w.heap.size (g.C d) d.C w:=by
 unfold Gh.C PD.C;split
 .rename_i e;have l:=h.r e;have b:=l.r.M;have c:=l.N;exact h.I.Uh Z l.gd
 .rename_i e;have f:=a (by simpa using e);have:=h.I.I;grind [Ý,pR.N]
def MY(b:Nat)(k:Int)(w:Í):Í:=(w.setCell ⟨b,2,Á⟩<|Ã<|Â ⟨w.heap.size,0,Á⟩).alloc<|Û #[Å É 0,Å É 0,Å É 0,Å É 0,Å É k,Å É 0,Å É 0,Å É 0,Ç Á 0 0] 161
def rdQ(s:ByteArray)(g:Gh)(d:PD)(Q:Nat)(nm:Option ü)(lq a:Int):List Ñ:=
 [Ä s,g.N,Ã<|Â ⟨Q,0,Á⟩,Ã<|g.Y d,Ã<|g.G d,Ã nm,Å É lq,Å É a]
structure Fh(m b:Nat)(g:Gh)(d:PD)(Q:Nat)(k:Int)(s:ByteArray)(nm:Option ü)(lq Up:Int)(w0 w:Í):Prop where
 S:e8 (λi=>m<=i) w0 w
 M:jC m w
 r:fg b (rdQ s g d Q nm lq Up) 153 w
 I:fg Q (Cw (PD.abm k).c<|Ç Á 0 0) 161 w
 N:pR Q (g.C d) d.C w
 C:w.ownsRow m 148 1 g.N (g.C d).length (nP<|g.C d)
def Fh.fL{lq:Int}(h:Fh m b g d Q k s nm lq c W w)(a:e8 ff w u)(e:jC m u):Fh m b g d Q k s nm lq c W u:= ⟨h.S.C a λ_ _ x=>x.elim,e,h.r.I a id,h.I.I a id,h.N.C a λ_ _ x=>x.elim,ig h.C a λ_ _=>id⟩
def gQ.aqR(h:gQ m b g nm s f w)(k:Int)(l:f.d.r=Ë->f.d.S=[]):Fh m b g f.d w.heap.size k s nm f.r f.I w (MY b k w):=by
 have n:(w.setCell ⟨b,2,Á⟩<|Ã<|Â ⟨w.heap.size,0,Á⟩).heap.size=w.heap.size:=fj
 have c:e8 ff (w.setCell ⟨b,2,Á⟩<|Ã<|Â ⟨w.heap.size,0,Á⟩) (MY b k w):=e8.gH _ _ _ _;have o:e8 (λk=>k=b) w (w.setCell ⟨b,2,Á⟩<|Ã<|Â ⟨w.heap.size,0,Á⟩):=pS h.r;have a:=o.C c λ_ _ x=>x.elim;refine⟨a.S λk _ x=>by rw[x];exact h.S,?_,(h.r.fQ 2 _).I c id,?_,(h.C.abx l).C a λi _ x=>Ï ⟨_,_,_,IG x h.r,È U⟩,ig h.C.C a λj p x=>jB h.C.C h.r A<|by rw[p,x]⟩
 .exact h.a.C h.r h.S A _ _ fj A λv e=>by simp at e;rcases e with rfl|rfl|rfl|rfl<;>trivial
 .have:=fg.N (w.setCell ⟨b,2,Á⟩<|Ã<|Â ⟨w.heap.size,0,Á⟩) [Å É 0,Å É 0,Å É 0,Å É 0,Å É k,Å É 0,Å É 0,Å É 0,Ç Á 0 0] 161;rwa[n]at this
def aqS(g:Gh)(d:PD)(Q:Nat)(v:Ñ):Gh:={a:=g.C d,q:=Q,t:=Q,B:=Q,tb:=[],N:=v,r:=Ç Á 0 0,b:=g.Y d}
theorem Fh.jL{sb:ByteArray}(h:Fh m b g f.d Q k s nm f.r f.I w u)(o:m<=b)(p:m<=Q)(S:f.r=0)(y:sb.size<=10)(B:jZ sb=rf k) (a:qg u m 148 1 g.N (g.C f.d).length (nP<|g.C f.d) 1 [Ã<|Â ⟨Q,0,Á⟩] v W) (C:jC m W) (D:ng m W.heap.size v) (l:jX=((W.setCell ⟨b,1,Á⟩ v).setCell ⟨b,4,Á⟩<|Ã<|Â ⟨Q,0,Á⟩).setCell ⟨b,0,Á⟩ (Ä sb)): e8 (λi=>m<=i) w jX/\gQ m b (aqS g f.d Q v) nm sb {f with C:=rf k,d:=f.d.E9 k} jX:=by
 have c:=h.r.I a.r<|jB h.C h.r A;have n:=h.I.I a.r<|jB h.C h.I A;have E:=h.N.C a.r λi _ x=>by let⟨e,z⟩:=lX h.C x;exact Ï ⟨_,_,_,z,Ï U⟩
 have F:e8 (λk=>k=b) W (W.setCell ⟨b,1,Á⟩ v):=pS c;have q:=c.fQ 1 v;have G:e8 (λk=>k=b) (W.setCell ⟨b,1,Á⟩ v) ((W.setCell ⟨b,1,Á⟩ v).setCell ⟨b,4,Á⟩<|Ã<|Â ⟨Q,0,Á⟩):=pS q;have r:=q.fQ 4<|Ã<|Â ⟨Q,0,Á⟩;have H:e8 (λk=>k=b) ((W.setCell ⟨b,1,Á⟩ v).setCell ⟨b,4,Á⟩<|Ã<|Â ⟨Q,0,Á⟩) jX:=by rw[l];exact pS r
 have t:=r.fQ 0<|Ä sb;rw[<-l]at t;have z:=(F.fe G).fe H;have I:=n.I z λx=>fg.S n c A x;have J:=E.C z λi _ x=>Ï ⟨_,_,_,IG x c,È U⟩;have K:=ig a.fl z λj L x=>jB a.fl c A (by rw[L,x]);have M:Q<(W.setCell ⟨b,1,Á⟩ v).heap.size:=by simpa using n.M
 have N:jC m jX:=by rw[l];refine((C.r _ D).r _ ?_).r _ trivial;exact⟨p,M⟩
 have O:(g.C f.d++[Q]).length=(g.C f.d).length+1:=fj
 have P:nP (g.C f.d++[Q])=nP (g.C f.d)++[Ã<|Â ⟨Q,0,Á⟩]:=by simp[nP]
 refine⟨(h.S.C a.r λi _ x=> ?_).C z λi _ x=> ?_,o,N,t,y,B,⟨?_,J,λ_=>⟨p,æ _,U,I,?_,o0.N _ _ _,(λe=>by cases e),λ_=>⟨rfl,rfl⟩⟩,(λe=>by cases e)⟩,λe=> ?_,È rfl⟩
 .exact(h.C.lt i x).1
 .rwa[x]
 .show jX.ownsRow m 148 1 v (g.C f.d++[Q]).length (nP<|g.C f.d++[Q]);rwa[O,P]
 .exact⟨U,È ⟨U,U⟩⟩
 .grind
def aqT:yh f 0=Á:=rfl
def aqU(h:gQ m b g nm s f w)(r:f.r=0)(t:f.d.r=Ë->f.d.S=[])(x:f.d.C.length<=100000)(k:Int): Ò À 96 #[Ã<|Â ⟨b,0,Á⟩,Å É k] w λe u=>match yh f k with
  |none=>e=Æ (õ Ë)/\u=w
  |some c=>e=Æ (õ Î)/\sr m b c w u:=by
 by_cases l:k=0
 .subst l;rw[aqT];go_enter Ω,Μ;go_wp2;go_ret;exact⟨U,U⟩
 have Q:(k==0)=Ë:=by rwa[beq_eq_false_iff_ne]
 have e:yh f k=Â {f with C:=rf k,d:=f.d.E9 k}:=if_neg l;rw[e];have S:=h.r.r 2 _ U;have V:=h.r.C 2;have W:=h.r.M;have p:=h.aqR k t;have y:(g.C f.d).length<=100000:=by rwa[h.C.G]
 have z:=h.S;have B:m<=w.heap.size:=Z
 have H:=fc<|Ê z<|Ê B<|Ê y r;go_enter Ω,Μ;go_wp2_with fail;change ß À _ _ _ (MY b k w);have i:=p.fL (e8.fT _ _) p.M.fT;generalize X:w.heap.size=T at*;generalize C:(MY b k w).drew=w1 at*;let⟨Y,D,E,F,G⟩:=ů aqO;have j:=fc<|Ê D<|Ê E<|Ê F G;refine mq (λu=>u.cell? ⟨b,1,Á⟩=Â g.N/\u.cell? ⟨b,2,Á⟩=Â (Ã<|Â ⟨T,0,Á⟩)) [13] fp ?_;rw[C];have I:Hid (w1.cell? ⟨b,1,Á⟩=Â g.N/\w1.cell? ⟨b,2,Á⟩=Â (Ã<|Â ⟨T,0,Á⟩)):=fc ⟨i.r.r 1 _ U,i.r.r 2 _ U⟩;iterate 9 apply tk I.out
 have J:=i.I.M;have a:=i.fL (e8.gH ff w1 #[Ã<|Â ⟨T,0,Á⟩] 148) (i.M.gH _ _ fj A λv c=>by simp at c;subst c;exact⟨H.out.2.1,J⟩);apply gB 9;intro K c;go_simp;apply c.out _ _ λ_=>⟨a.r.r 1 _ U,a.r.r 2 _ U⟩;apply gB 10;intro K c;refine abo fN _ _ 61 fN Tryz.underlying61 j.out.1 j.out.2.1 j.out.2.2.1 j.out.2.2.2 fN a.C ⟨w1.heap.size,0,Á⟩ fN (Λ w1 _ _) U (by have:=H.out.2.2.1;unfold ī;omega) (by have:=H.out.2.2.1;omega) (by have:=H.out.2.1;have:=a.I.M;omega) A (æ _) a.M ⟨H.out.2.1,a.I.M⟩ A ?_;intro v9 w9 n L M;obtain⟨a9,n9c,rfl⟩:=jh n.fl;have v:=a.r.I n.r<|jB a.C a.r A;apply c.out _ _ λ_=>⟨v.r 1 _ U,v.r 2 _ U⟩;apply gB 11;intro K c;go_simp;apply c.out _ _ λ_=>⟨v.r 1 _ U,v.r 2 _ U⟩;apply gB 12;intro K c;go_simp;apply c.out _ _ λ_=>⟨v.r 1 _ U,v.r 2 _ U⟩;have cb1:=v.r 1 _ U;have fb1:=v.C 1;have cb4:=v.r 4 _ U;have fb4:=v.C 4;have cb0:=v.r 0 _ U;have fb0:=v.C 0;have cb2:=v.r 2 _ U;apply gB 13;intro K c;go_simp;apply c.out _ _ λo=>absurd A o;refine lY fp ?_ _;have N:=fc λo q O=>a.jL (sb:=o) H.out.1 H.out.2.1 H.out.2.2.2 q O n L M U;go_wp2_with (go_at_call 145;refine(aqF _ _).mono ?_;rintro e u ⟨⟨o,rfl,O,P⟩,q⟩;subst u);go_ret;have q:=N.out o O P;exact⟨U,q.1,_,_,_,q.2⟩
end
def lP(i:Nat)(z:Int):Prop:=match i with
 |0=>0<=z/\z<8
 |1=>0<=z/\z<8
 |2=>0<=z/\z<1000000
 |3=>0<=z/\z<1000000
 |4=>1<=z/\z<10
 |5=>-1<=z/\z<1000000
 |6=>-1<=z/\z<1000000
 |7=>0<=z/\z<16
 |_=>True
structure Fi(n m:Nat)(c:List Int):Prop where
 C:c.length=n
 r:∀i,i<m->lP i (c.getD i 0)
theorem Fi.I(h:Fi n m zQ)(i:Nat)(z:Int)(b:i<m->lP i z):Fi n m (zQ.set i z):=by refine⟨by simp[h.C],λj a=> ?_⟩;have:=h.r j a;grind
def aby(h:i<zQ.length)(z:Int):(zQ.set i z).getD i 0=z:=by simp[Ğ,h]
structure oa(t:PT):Prop where
 c:Fi 5 4 t.c
 p:t.p.size<=40/\∀c∈t.p.data.toList,xR c=Î
structure uU(r:PR):Prop where
 c:Fi 8 8 r.c
 C:∀t∈r.r,oa t
 n:r.r.length<=8
structure kv(d:PD):Prop where
 N:d.r=Ë->d.S=[]/\d.M=Ë
 b:d.M=Ë->d.I.r=[]
 C:d.C.length<=24
 I:d.Y.length<=8
 S:∀r∈d.S,uU r
 M:d.r=Î->Fi 8 8 d.I.c
 a:d.r=Î->∀t∈d.I.r,oa t
 Y:d.M=Î->oa d.N
structure jw(B:ByteArray)(k:Nat)(st:PS):Prop where
 M:0<=st.r
 r:st.r<=5
 C:0<=st.I
 I:st.I<=40
 e:0<st.r->(st.M=86\/st.M=87\/st.M=110\/st.M=107)/\st.d.r=Î/\0<=st.d.G st.M/\st.d.G st.M<10^(6-st.r.toNat)
 d:kv st.d
 c:st.d.r=Î\/st.C=[82]
 b:82∈st.C->st.d.C.length<24
 N:84∈st.C\/80∈st.C->st.d.M=Î
 a:66∈st.C->st.d.M=Ë
 S:80∈st.C->st.C=[80]/\st.r=0
 Y:80∈st.C->st.I.toNat<=k/\∀j (h:j<B.size),k-st.I.toNat<=j->j<k->xR B[j]=Î
section
variable{d:PD}{st o:PS}
def kv.abz(h:kv d)(on:d.r=Î):∀t∈d.Y,oa t:=by
 unfold PD.Y;split
 .rename_i e;intro t a;rcases â.1 a with q|q
  .exact h.a on t q
  .rw[ō]at q;rw[q];exact h.Y e
 .exact h.a on
def kv.G(h:kv d):∀r∈d.C,uU r:=by
 unfold PD.C;split
 .rename_i e;intro r a;rcases â.1 a with q|q
  .exact h.S r q
  .rw[ō]at q;rw[q];exact⟨h.M e,h.abz e,h.I⟩
 .exact h.S
def yj(d:PD):d.C.length=d.S.length+(if d.r then 1 else 0):=by unfold PD.C;split<;>simp
def IH(d:PD):d.Y.length=d.I.r.length+(if d.M then 1 else 0):=by unfold PD.Y;split<;>simp
def kv.r(h:kv d)(i:Nat)(z:Int)(a:lP i z):kv (d.oc i z):= ⟨h.N,h.b,by have:=h.C;rw[yj]at this|-;exact this,by have:=h.I;rw[IH]at this|-;exact this,h.S,λe=>(h.M e).I i z λ_=>a,h.a,h.Y⟩
def kv.oD(h:kv d)(i:Nat)(z:Int)(a:i<4->lP i z):kv (d.oD i z):= ⟨h.N,h.b,by have:=h.C;rw[yj]at this|-;exact this,by have:=h.I;rw[IH]at this|-;exact this,h.S,h.M,h.a,λe=>⟨(h.Y e).c.I i z a,(h.Y e).p⟩⟩
def kv.iu(h:kv d)(i:Nat)(z:Int)(a:lP i z):kv (d.iu i z):=by
 unfold PD.iu;split
 .exact h.oD i z λ_=>a
 .exact h.r i z a
def kv.oE(h:kv d)(p:ByteArray)(a:p.size<=40/\∀c∈p.data.toList,xR c=Î):kv (d.oE p):= ⟨h.N,h.b,by have:=h.C;rw[yj]at this|-;exact this,by have:=h.I;rw[IH]at this|-;exact this,h.S,h.M,h.a,λe=>⟨(h.Y e).c,a⟩⟩
def aqV:oa PD.E6:=⟨⟨U,λi a=>by
 match i,a with
 |0,_=>exact⟨A,A⟩
 |1,_=>exact⟨A,A⟩
 |2,_=>exact⟨A,A⟩
 |3,_=>exact⟨A,A⟩⟩,⟨A,λc b=>by cases b⟩⟩
def kv.nN(h:kv d)(on:d.r=Î)(a:d.Y.length<8):kv d.nN:= ⟨(λe=>by have:d.r=Ë:=e;rw[on]at this;cases this),(λe=>by cases e),by have:=h.C;rw[yj]at this|-;exact this,by rwa[IH],h.S,λe=>h.M e,λ_=>h.abz on,λ_=>aqV⟩
def kv.E9(h:kv d)(q:Int)(a:1<=q/\q<10)(b:d.C.length<24):kv (d.E9 q):= ⟨(λe=>by cases e),λ_=>rfl,by rwa[yj],by show(0:Nat)<=8;decide,h.G,λ_=>⟨U,λi c=>by
   match i,c with
   |0,_=>exact⟨by show(0:Int)<=0;decide,by show(0:Int)<8;decide⟩
   |1,_=>exact⟨by show(0:Int)<=0;decide,by show(0:Int)<8;decide⟩
   |2,_=>exact⟨by show(0:Int)<=0;decide,by show(0:Int)<1000000;decide⟩
   |3,_=>exact⟨by show(0:Int)<=0;decide,by show(0:Int)<1000000;decide⟩
   |4,_=>exact a
   |5,_=>exact⟨by show(-1:Int)<=0;decide,by show(0:Int)<1000000;decide⟩
   |6,_=>exact⟨by show(-1:Int)<=0;decide,by show(0:Int)<1000000;decide⟩
   |7,_=>exact⟨by show(0:Int)<=0;decide,by show(0:Int)<16;decide⟩⟩,(λ_ t f=>by cases f),(λe=>by cases e)⟩
def kv.fQ(h:kv d)(want z:Int)(a:(want=86->lP 5 z)/\(want=87->lP 6 z)/\(want=120->lP 0 z)/\(want=121->lP 1 z)/\(want=110->lP 2 z)/\(want=107->lP 3 z)/\(want=115->lP 7 z)):kv (d.fQ want z):=by
 let⟨b,c,e,f,g,i,j⟩:=a;unfold PD.fQ;repeat' split
 .exact h.r 5 z<|b ‹_›
 .exact h.r 6 z<|c ‹_›
 .exact h.iu 0 z<|e ‹_›
 .exact h.iu 1 z<|f ‹_›
 .exact h.iu 2 z<|g ‹_›
 .exact h.iu 3 z<|i ‹_›
 .exact h.r 7 z<|j ‹_›
 .exact h
def Ur(d:PD)(a z:Int):(d.fQ a z).r=d.r/\(d.fQ a z).M=d.M/\(d.fQ a z).C.length=d.C.length:=by
 unfold PD.fQ PD.iu;repeat' split
 all_goals exact⟨U,U,(yj _).trans (yj d).symm⟩
theorem Us(h:kv d)(on:d.r=Î)(a z:Int)(f:a=86\/a=87\/a=110\/a=107):(d.fQ a z).G a=z:=by
 have g:=(h.M on).C;have b:∀i,i<4->(d.iu i z).tx i=z:=λi j=>by
  unfold PD.iu;split
  .rename_i e;have k:=(h.Y e).c.C;show(if d.M=Î then(d.N.c.set i z).getD i 0 else d.I.c.getD i 0)=z;grind
  .rename_i e;show(if d.M=Î then d.N.c.getD i 0 else(d.I.c.set i z).getD i 0)=z;grind
 rcases f with rfl|rfl|rfl|rfl
 .exact aby Z z
 .exact aby Z z
 .exact b 2 A
 .exact b 3 A
def MZ:∀(l:List UInt8) (c:UInt8),Þ l c<l.length
 |[],_=>by show(-1:Int)<0;decide
 |a::l,c=>by
  have:=MZ l c;unfold Þ;split
  .simp
  .split<;>(simp;omega)
def Ut:∀(l:List UInt8) (c:UInt8),c∈l->0<=Þ l c
 |[],_,h=>by cases h
 |a::l,c,h=>by
  unfold Þ;split
  .decide
  .rename_i e;rcases List.mem_cons.1 h with q|q
   .subst q;simp at e
   .have:=Ut l c q;split
    .rename_i b;rw[beq_iff_eq]at b;omega
    .omega
def abA{l:List UInt8}(h:c.toNat∈l.map UInt8.toNat):c.toNat.toUInt8∈l:=by let⟨x,a,b⟩:=Ú.1 h;rw[<-b];simpa using a
def abB(h:si c=Î):0<=Þ [97,98,99,100,101,102,103,104] c.toNat.toUInt8:=by rw[aqs]at h;refine Ut _ _<|abA ?_;simp;omega
def aqW(h:(jj c||(decide (97<=c)&&decide (c<=102)))=Î):0<=Þ [48,49,50,51,52,53,54,55,56,57,97,98,99,100,101,102] c.toNat.toUInt8:=by simp only[Bool.or_eq_true,E8,Bool.and_eq_true,decide_eq_true_eq]at h;refine Ut _ _<|abA ?_;simp;omega
theorem aqX(a:oZ h c=Î):(h=86->lP 5 (na h c))/\(h=87->lP 6 (na h c))/\(h=120->lP 0 (na h c))/\(h=121->lP 1 (na h c))/\(h=110->lP 2 (na h c))/\(h=107->lP 3 (na h c))/\(h=115->lP 7 (na h c)):=by
 unfold oZ at a;have b:(c==104||jj c)=Î->-1<=(if c=104 then-1 else(c-48)%256)/\(if c=104 then(-1:Int)else(c-48)%256)<1000000:=λq=>by split<;>omega
 have d:jj c=Î->0<=(if c=104 then-1 else(c-48)%256)/\(if c=104 then(-1:Int)else(c-48)%256)<1000000:=λq=>by rw[E8]at q;grind
 refine⟨?_,?_,?_,?_,?_,?_,?_⟩<;>rintro rfl
 .exact b a
 .exact b a
 .exact⟨abB a,MZ _ _⟩
 .exact⟨abB a,MZ _ _⟩
 .exact d a
 .exact d a
 .exact⟨aqW a,MZ _ _⟩
theorem aqY{lq:Int}(a:jj c=Î)(b:0<=h)(d:0<lq)(e:lq<=5)(f:h<10^(6-lq.toNat)):0<=pP h c/\pP h c<10^(6-(lq-1).toNat)/\pP h c<1000000:=by
 rw[E8]at a;have g:h<100000->pP h c=h*10+(c-48):=λq=>by unfold pP;rw[Ļ (h*10) ⟨Z,Z⟩,Ļ _ ⟨Z,Z⟩];omega
 have i:lq=1\/lq=2\/lq=3\/lq=4\/lq=5:=Z
 grind
def kv.lq(h:kv d)(a z:Int)(c:a=86\/a=87\/a=110\/a=107)(b:0<=z/\z<1000000):kv (d.fQ a z):= h.fQ a z ⟨λ_=>⟨Z,b.2⟩,λ_=>⟨Z,b.2⟩,λe=>by omega,λe=>by omega,λ_=>b,λ_=>b,λe=>by omega⟩
def jw.aqZ(h:jw B k st)(e:0<st.r)(j:jj c=Î):jw B (k+1) (Cv st c):=by
 let⟨a,b,l,m⟩:=h.e e;let⟨f,n,o⟩:=aqY j l e h.r m;let⟨g,i,p⟩:=Ur st.d st.M<|pP (st.d.G st.M) c;refine⟨by show 0<=st.r-1;omega,by have:=h.r;show st.r-1<=5;omega,h.C,h.I,λ_=>⟨a,g.trans b,?_⟩,h.d.lq _ _ a ⟨f,o⟩,?_,λq=> ?_,λq=>i.trans<|h.N q,λq=>i.trans<|h.a q,λq=> ?_,λq=> ?_⟩
 .show 0<=(st.d.fQ st.M<|pP (st.d.G st.M) c).G st.M/\(st.d.fQ st.M<|pP (st.d.G st.M) c).G st.M<10^(6-(st.r-1).toNat);rw[Us h.d b _ _ a];exact⟨f,n⟩
 .exact È<|g.trans b
 .show(st.d.fQ st.M<|pP (st.d.G st.M) c).C.length<24;rw[p];exact h.b q
 .have:=(h.S q).2;omega
 .have:=(h.S q).2;omega
def jw.vm(h:jw B k st):jw B k {st with r:=0}:= ⟨Ť _,by show(0:Int)<=5;decide,h.C,h.I,(λq=>by cases q),h.d,h.c,h.b,h.N,h.a,λq=>⟨(h.S q).1,rfl⟩,h.Y⟩
theorem jw.on(h:jw B k st)(a:82∉st.C):st.d.r=Î:=by rcases h.c with q|q;all_goals grind
def kv.aq0(h:kv d)(a:d.M=Î):d.r=Î:=by
 cases e:d.r with
 |true=>rfl
 |false=>have:=(h.N e).2;rw[a]at this;cases this
theorem abC(h:jw B k st)(b:st.r=0)(on:st.d.r=Î)(a:pQ st c=Â o):jw B (k+1) o:=by
 unfold pQ at a;split at a
 .rename_i e;cases a;refine⟨h.M,h.r,h.C,h.I,λq=> ?_,h.d,Ï U,λ_=> ?_,λq=> ?_,λq=> ?_,λq=> ?_,λq=> ?_⟩
  .grind
  .rw[yj,on];exact e.2
  .simp at q
  .simp at q
  .simp at q
  .simp at q
 .split at a
  .rename_i e;cases a;refine⟨h.M,h.r,h.C,h.I,λq=> ?_,h.d.nN on e.2.2,È on,λq=> ?_,λ_=>rfl,λq=> ?_,λq=> ?_,λq=> ?_⟩;all_goals grind
  .cases a
def aq1(q:Int):82∉rf q/\84∉rf q/\80∉rf q:=by
 unfold rf;repeat' split
 all_goals decide
theorem aq2(q:Int):82∉sj q/\84∉sj q/\66∉sj q/\(80∈sj q->sj q=[80]):=by unfold sj;grind
def aq3(c:Int):0<=wh c/\wh c<10:=by
 unfold wh;repeat' split
 all_goals decide
theorem aq4(h:jw B k st)(i:st.r=0)(f:82∈st.C)(a:yh st (wh c)=Â o):jw B (k+1) o:=by
 unfold yh at a;split at a
 .cases a
 .rename_i e;cases a;let⟨g,j,b⟩:=aq1<|wh c;have l:=aq3 c;refine⟨h.M,h.r,h.C,h.I,λq=> ?_,h.d.E9 _ Z<|h.b f,È U,λq=>absurd q g,λq=> ?_,λ_=>rfl,λq=>absurd q b,λq=>absurd q b⟩;all_goals grind
theorem aq5(h:jw B k st)(c:st.r=0)(q:Int)(f:84∈st.C)(a:yi st q=Â o):jw B (k+1) o:=by
 unfold yi at a;split at a
 .cases a
 .cases a;let⟨g,m,i,l⟩:=aq2 q;have b:=h.N<|È f;refine⟨h.M,h.r,Ť _,by show(0:Int)<=40;decide,λq=> ?_,h.d.oD 4 q λe=>by omega,È<|h.d.aq0 b,λq=>absurd q g,λ_=>b,λq=>absurd q i,λq=>⟨l q,c⟩,λ_=>⟨Ø _,λj _ n p=> ?_⟩⟩;all_goals grind
theorem aq6{a:Int}(h:0<qw a c):(a=86\/a=87)/\qw a c=1/\jj c=Î/\c≠48\/(a=110\/a=107)/\qw a c=5/\jj c=Î/\c≠48:=by unfold qw at h|-;grind
theorem abD(h:jw B k st)(on:st.d.r=Î){want:Int}(l:oZ want c=Î)(r:List Int)(a:∀x∈r,x∈st.C)(g:80∉r):jw B (k+1) {oe st want c with C:=r}:=by
 let⟨m,i,n⟩:=Ur st.d want<|na want c;have j:=aqw want c;refine⟨j.1,j.2,h.C,h.I,λq=> ?_,h.d.fQ _ _<|aqX l,È<|m.trans on,λq=> ?_,λq=>i.trans<|h.N<|q.imp (a _)<|a _,λq=>i.trans<|h.a<|a _ q,λq=>absurd q g,λq=>absurd q g⟩
 .have q:=q;show(want=86\/want=87\/want=110\/want=107)/\(st.d.fQ want<|na want c).r=Î/\0<=(st.d.fQ want<|na want c).G want/\(st.d.fQ want<|na want c).G want<10^(6-(qw want c).toNat);rcases aq6 q with⟨o,b,e,p⟩|⟨o,b,e,p⟩
  .have f:want=86\/want=87\/want=110\/want=107:=Z
   rw[Us h.d on _ _ f,b];rw[E8]at e;have:na want c=(c-48)%256:=by unfold na;grind
   grind
  .have f:want=86\/want=87\/want=110\/want=107:=Z
   rw[Us h.d on _ _ f,b];rw[E8]at e;have:na want c=(c-48)%256:=by unfold na;grind
   grind
 .show(st.d.fQ want<|na want c).C.length<24;rw[n];exact h.b<|a _ q
def aq7{x:UInt8}(h:x∈(B.extract i b).data.toList):∃j,∃e:j<B.size,i<=j/\j<b/\B[j]=x:=by rw[Ĳ,ĺ,ĥ]at h;obtain⟨c,d,rfl⟩:=Ĝ h;simp only[Ś,List.length_drop,ě]at d;have f:B.data.size=B.size:=rfl;exact⟨i+c,Z,Z,Z,by simp[ċ]⟩
theorem aq8(h:jw B k st)(l:st.r=0)(F:k<B.size)(a:jP B k st (B[k].toNat:Int)=Â o):jw B (k+1) o:=by
 unfold jP at a;split at a
 .rename_i e;exact abC h l (h.on<|by rw[e];decide) a
 .rename_i t p e;have c:t∈st.C:=by rw[e];exact List.mem_cons_self ..
  split at a
  .rename_i f;subst f;exact aq4 h l c a
  rename_i G;have i:st.d.r=Î:=by rcases h.c with q|q;all_goals grind
  split at a
  .rename_i f;subst f;split at a
   .rename_i u;cases a;have n:=h.a c;have b:st.d.Y.length<8:=by rw[IH,h.d.b n,n];decide
    have v:jw B k {st with C:=[84],d:=st.d.nN}:=by refine⟨h.M,h.r,h.C,h.I,λq=> ?_,h.d.nN i b,È i,λq=> ?_,λ_=>rfl,λq=> ?_,λq=> ?_,λq=> ?_⟩;all_goals grind
    exact abD (want:=120) v i u [84] (λx b=>b) A
   .exact abC h l i a
  split at a
  .rename_i f;subst f;exact aq5 h l _ c a
  split at a
  .rename_i f;subst f;let⟨H,w⟩:=h.Y c;have n:=h.N<|Ï c;have y:=(h.S c).1;have I:=h.C;have J:=h.I;split at a
   .cases a;have z:p=[]:=by rw[y]at e;cases e;rfl
    subst z;refine⟨h.M,h.r,h.C,h.I,λq=> ?_,h.d.oE _ ⟨by rw[Č];omega,λx b=> ?_⟩,È i,λq=> ?_,λq=> ?_,λq=> ?_,λq=> ?_,λq=> ?_⟩
    .grind
    .obtain⟨j,r,m,s,rfl⟩:=aq7 b;exact w j r m s
    .cases q
    .grind
    .cases q
    .cases q
    .cases q
   .split at a
    .cases a
    .rename_i g;cases a;have K:=λq=>g<|È q;have C:=λq=>g<|Ï q;refine⟨h.M,h.r,by show 0<=st.I+1;omega,by show st.I+1<=40;omega,h.e,h.d,h.c,h.b,h.N,h.a,h.S,λ_=>⟨by show(st.I+1).toNat<=k+1;omega,λj r m s=> ?_⟩⟩;have m:k+1-(st.I+1).toNat<=j:=m;by_cases D:j=k
     .subst D;unfold xR;simpa using C
     .grind
  split at a
  .rename_i L M N E;cases a;refine abD h i E p (λx b=>by rw[e];exact Ĕ _ b) λq=> ?_;have:=(h.S<|by rw[e];exact Ĕ _ q).1;grind
  .cases a
def abE(h:jw B k st)(b:k<B.size)(a:kS B k st (B[k].toNat:Int)=Â o):jw B (k+1) o:=by
 unfold kS at a;split at a
 .rename_i e;cases a;exact h.aqZ e.1 e.2
 .exact aq8 h.vm U b a
def Uu(B:ByteArray):jw B 0 nO:= ⟨A,A,A,A,(λq=>by cases q),⟨λ_=>⟨rfl,rfl⟩,λ_=>rfl,A,A,(λr e=>by cases e),(λe=>by cases e),(λe=>by cases e),(λe=>by cases e)⟩,Ï rfl,λ_=>by decide,(λq=>by rcases q with q|q<;>simp[nO]at q),(λq=>by simp[nO]at q),(λq=>by simp[nO]at q),(λq=>by simp[nO]at q)⟩
def Uv:∀(f k:Nat) (st:PS),jw B k st->k<=B.size->jw B (jR B f k st).1 (jR B f k st).2/\(jR B f k st).1<=B.size
 |0,k,st,h,hk=>⟨h,hk⟩
 |f+1,k,st,h,hk=>by
  unfold jR;split
  .rename_i a;split
   .exact⟨h,hk⟩
   .rename_i o e;exact Uv f (k+1) o (abE h a e) Z
  .exact⟨h,hk⟩
end
section
variable{g:Gh}{st:PS}
def abF{d:PD}(i:Nat)(z:Int):g.M (d.iu i z)=g.M d:=by unfold PD.iu Gh.M;split<;>simp[PD.oD,PD.oc, *]
def abG{d:PD}(h:i=2\/i=3)(z:Int):g.Cx (d.iu i z) (if i=2 then 110 else 107)=⟨g.M d,i,Á⟩:=by
 rcases h with rfl|rfl
 .show(⟨g.M<|d.iu 2 z,2,Á⟩:ü)=_;rw[abF]
 .show(⟨g.M<|d.iu 3 z,3,Á⟩:ü)=_;rw[abF]
def abH{d:PD}(on:d.r=Î):g.S d=Â ⟨g.q,0,Á⟩:=if_pos on
def aq9{d:PD}(on:d.r=Î):g.G d=Â ⟨g.M d,0,Á⟩:=if_pos on
def LP(h:gQ m b g O B st w)(j:st.r=0)(on:st.d.r=Î)(a c:Int)(v:oZ a c=Î): Ò À 100 #[Ã<|Â ⟨b,0,Á⟩,Å ū a,Å ū c] w λe u=>e=Æ (ë #[])/\sr m b (oe st a c) w u:=by
 have G:w.cell? ⟨b,2,Á⟩=Â (Ã<|g.S st.d):=h.r.r 2 _ U;have x:w.cell? ⟨b,4,Á⟩=Â (Ã<|g.G st.d):=h.r.r 4 _ U;rw[abH on]at G;rw[aq9 on]at x;have H:=fc<|Ê h v;clear h v;generalize y:g.M st.d=tm at x;have n:=fc y;clear y;by_cases o:a=86
 .subst o;have k:=fc (show oe st 86 c={st with r:=wo c 2,M:=86,d:=st.d.oc 5 (jv c)}from by unfold oe;rw[<-MU H.out.2 (È ⟨È U,U⟩),MW A];rfl);go_enter Ā,û;go_wp2_with (go_at_call 147;refine(MS H.out.1 (Fc H.out.1.C H.out.1.r on (i:=5) A) j on _ _ 86 A A λz=>rfl).mono ?_;rintro e u ⟨rfl,l⟩);go_end0;exact⟨U,by rwa[k.out]⟩
 have I:(a==86)=Ë:=by rwa[beq_eq_false_iff_ne]
 by_cases p:a=87
 .subst p;have k:=fc (show oe st 87 c={st with r:=wo c 2,M:=87,d:=st.d.oc 6 (jv c)}from by unfold oe;rw[<-MU H.out.2 (È ⟨Ï U,U⟩),MW A];rfl);go_enter Ā,û;go_wp2_with (go_at_call 147;refine(MS H.out.1 (Fc H.out.1.C H.out.1.r on (i:=6) A) j on _ _ 87 A A λz=>rfl).mono ?_;rintro e u ⟨rfl,l⟩);go_end0;exact⟨U,by rwa[k.out]⟩
 have J:(a==87)=Ë:=by rwa[beq_eq_false_iff_ne]
 by_cases q:a=120
 .subst q;have f:=fc ((by have:=Fe H.out.1.C H.out.1.r on (i:=0) A;rw[n.out]at this;exact this:qx m b g st.d tm 0 (λz=>st.d.iu 0 z) (st.d.tx 0) w));have C:=f.out.C;have D:=f.out.I;have E:=f.out.r;go_enter Ā,û;go_wp2_with fail;go_region_with (go_at_call 146;refine(IC _ _ _).mono ?_;rintro e u ⟨rfl,F⟩;subst u);all_goals go_end0
  all_goals exact⟨U,Uo H.out.1 f.out j (MV A) U⟩
 have K:(a==120)=Ë:=by rwa[beq_eq_false_iff_ne]
 by_cases r:a=121
 .subst r;have f:=fc ((by have:=Fe H.out.1.C H.out.1.r on (i:=1) A;rw[n.out]at this;exact this:qx m b g st.d tm 1 (λz=>st.d.iu 1 z) (st.d.tx 1) w));have C:=f.out.C;have D:=f.out.I;have E:=f.out.r;go_enter Ā,û;go_wp2_with fail;go_region_with (go_at_call 146;refine(IC _ _ _).mono ?_;rintro e u ⟨rfl,F⟩;subst u);all_goals go_end0
  all_goals exact⟨U,Uo H.out.1 f.out j (MV A) U⟩
 have L:(a==121)=Ë:=by rwa[beq_eq_false_iff_ne]
 by_cases s:a=110
 .subst s;have k:=fc (show oe st 110 c={st with r:=wo c 6,M:=110,d:=st.d.iu 2 (jv c)}from by unfold oe;rw[<-MU H.out.2 (Ï ⟨È U,U⟩),MW A];rfl);go_enter Ā,û;go_wp2_with (go_at_call 147;refine(MS H.out.1 ((by have:=Fe H.out.1.C H.out.1.r on (i:=2) A;rw[n.out]at this;exact this:qx m b g st.d tm 2 (λz=>st.d.iu 2 z) (st.d.tx 2) w)) j on _ _ 110 A A λz=>(by have:=abG (g:=g) (d:=st.d) (i:=2) (È U) z;rwa[n.out]at this)).mono ?_;rintro e u ⟨rfl,l⟩);go_end0;exact⟨U,by rwa[k.out]⟩
 have M:(a==110)=Ë:=by rwa[beq_eq_false_iff_ne]
 by_cases t:a=107
 .subst t;have k:=fc (show oe st 107 c={st with r:=wo c 6,M:=107,d:=st.d.iu 3 (jv c)}from by unfold oe;rw[<-MU H.out.2 (Ï ⟨Ï U,U⟩),MW A];rfl);go_enter Ā,û;go_wp2_with (go_at_call 147;refine(MS H.out.1 ((by have:=Fe H.out.1.C H.out.1.r on (i:=3) A;rw[n.out]at this;exact this:qx m b g st.d tm 3 (λz=>st.d.iu 3 z) (st.d.tx 3) w)) j on _ _ 107 A A λz=>(by have:=abG (g:=g) (d:=st.d) (i:=3) (Ï U) z;rwa[n.out]at this)).mono ?_;rintro e u ⟨rfl,l⟩);go_end0;exact⟨U,by rwa[k.out]⟩
 have l:(a==107)=Ë:=by rwa[beq_eq_false_iff_ne]
 by_cases k:a=115
 .subst k;have f:=fc<|Fc H.out.1.C H.out.1.r on (i:=7) A;have C:=f.out.C;have D:=f.out.I;have E:=f.out.r;go_enter Ā,û;go_wp2_with fail;go_region_with (go_at_call 146;refine(IC _ _ _).mono ?_;rintro e u ⟨rfl,F⟩;subst u);all_goals go_end0
  all_goals exact⟨U,Uo H.out.1 f.out j (MV A) U⟩
 have f:(a==115)=Ë:=by rwa[beq_eq_false_iff_ne]
 go_enter Ā,û;go_wp2;go_end0;refine⟨U,e8.fV _ _,g,O,B,?_⟩;have e:oe st a c={st with M:=a}:=by unfold oe PD.fQ;rw[MV ⟨Z,Z⟩,if_neg o,if_neg p,if_neg q,if_neg r,if_neg s,if_neg t,if_neg k,<-j]
 rw[e];exact H.out.1.Um a j
end
section
variable{g:Gh}{s:ByteArray}{st:PS}{d:PD}
def M0(m b:Nat)(o:Option PS)(e:Ending)(w u:Í):Prop:=
 (o=Á/\e=Æ (õ Ë)/\u=w)\/∃a,o=Â a/\e=Æ (õ Î)/\sr m b a w u
def abI{o:Option PS}{e:Ending}(h:match o with
 |none=>e=Æ (õ Ë)/\u=w
 |some a=>e=Æ (õ Î)/\sr m b a w u):M0 m b o e w u:=by
 cases o with
 |none=>exact È ⟨U,h⟩
 |some a=>exact Ï ⟨a,U,h⟩
def ara{d:PD}(on:d.r=Î):d.C.length=d.S.length+1:=by rw[yj,on];rfl
def abJ(h:gQ m b g O s st w)(j:st.r=0)(on:st.d.r=Î)(y:st.d.Y.length<=8)(z:st.d.C.length<=24)(c:Int): Ò À 95 #[Ã<|Â ⟨b,0,Á⟩,Å ū c] w λe u=>M0 m b (pQ st c) e w u:=by
 have l:=h.C.r on;let⟨I,J,p⟩:=jh h.C.C;let⟨K,L,q⟩:=jh l.I;rw[h.C.G]at p;rw[l.G]at q;have M:=h.r.r 0 _ U;have r:=h.r.r 1 _ U;have B:=h.r.r 2 _ U;rw[abH on]at B;rw[p]at r;have t:=l.r.r 8 _ (by have:=Cy st.d.I.c g.r;rwa[l.M]at this);rw[q]at t;have N:=h.r.C 0;obtain⟨v,f⟩:∃n,st.d.C.length=n:=⟨_,U⟩;obtain⟨x,i⟩:∃n,st.d.Y.length=n:=⟨_,U⟩;rw[f]at r z;rw[i]at t y;have k:st.d.S.length+1=v:=by rw[<-f];exact(ara on).symm
 have H:=fc<|Ê h<|Ê f<|Ê i<|Ê k j;by_cases C:c=59/\v<24
 .obtain⟨rfl,a⟩:=C;go_enter ť,ŗ;go_wp2;go_ret;let⟨h,f,i,k,j⟩:=H.out;exact Ï ⟨_,by rw[pQ,if_pos ⟨U,Z⟩],U,mL h 0 _,g,O,_,h.MR _ [82] A A<|È on⟩
 by_cases D:c=44/\0<x/\x<8
 .obtain⟨rfl,P,Q⟩:=D;go_enter ť,ŗ;go_wp2_with (go_at_call 99;refine(abw H.out.1 H.out.2.2.2.2 on (by have:=H.out.2.2.1;omega)).mono ?_;rintro e u ⟨rfl,o,E,F,S,a⟩;have T:=a.r.r 0 _ U;have V:=a.r.C 0;have G:=fc<|Ê o a;clear o a);go_ret;let⟨h,f,i,k,j⟩:=H.out;let⟨o,a⟩:=G.out;exact Ï ⟨_,by rw[pQ,if_neg Z,if_pos ⟨U,Z,Z⟩],U,o.fe<|mL a 0 _,E,F,_,a.MR _ [120,84] A A<|È on⟩
 .have a:=fc (show pQ st c=Á by
   let⟨h,f,i,k,j⟩:=H.out;rw[pQ,if_neg Z,if_neg Z])
  go_enter ť,ŗ;go_wp2_with fail;all_goals first|(go_ret;exact È ⟨a.out,U,U⟩)|(exfalso;simp only[beq_iff_eq,decide_eq_true_eq]at*;omega)
def kt:Τ->Option Τ
 |ń c=>Â c
 |.seq a b=>match kt a with
  |some c=>Â c
  |none=>kt b
 |.block _ c=>kt c
 |.scope c=>kt c
 |.cond _ a b=>match kt a with
  |some c=>Â c
  |none=>kt b
 |_=>Á
noncomputable def qy:Τ:=(Tryz.f61.body.bind kt).getD aj
def pT(b:Nat)(B:ByteArray)(i:Ñ)(u:Nat->Ñ):Ĉ:=⟨#[Ã<|Â ⟨b,0,Á⟩,Ä B,ĸ,ĸ,Å É 0,i,u 6,u 7,u 8,u 9,u 10,u 11,u 12,u 13,u 14,u 15,u 16,u 17,u 18,u 19,u 20,u 21,u 22,u 23,u 24,u 25,u 26,u 27,u 28,u 29,u 30,u 31,u 32,u 33,u 34,u 35,u 36,u 37,u 38,u 39,u 40,u 41,u 42,u 43,u 44,u 45,u 46,u 47,u 48,u 49,u 50,u 51,u 52,u 53,u 54,u 55,u 56,u 57,u 58,u 59,u 60,u 61,u 62,u 63,u 64,u 65,u 66,u 67,u 68,u 69,u 70,u 71,u 72,u 73,u 74,u 75,u 76,u 77,u 78,u 79,u 80,u 81,u 82,u 83,u 84,u 85,u 86,u 87,u 88,u 89,u 90,u 91,u 92,u 93,u 94,u 95,u 96,u 97,u 98,u 99,u 100,u 101,u 102,u 103,u 104,u 105,u 106,u 107,u 108,u 109,u 110,u 111,u 112,u 113,u 114,u 115,u 116,u 117,u 118,u 119,u 120,u 121,u 122,u 123,u 124,u 125,u 126,u 127,u 128,u 129,u 130,u 131,u 132,u 133,u 134,u 135,u 136,u 137,u 138,u 139,u 140,u 141,u 142,u 143,u 144,u 145,u 146],[]⟩
def Fr(b:Nat)(B:ByteArray)(i:Ñ)(a:Ĉ):Prop:=∃u,a=pT b B i u
def gi{b:Nat}{B:ByteArray}{i:Value}{a:Act}(h:a=pT b B i (λn=>a.tmps.getD n undef):=by rfl):Fr b B i a:=⟨_,h⟩
def QQ(X:Ĉ->Í->Prop):Exit->Ĉ->Í->Prop
 |.exit 0,a,w=>X a w
 |_,_,_=>False
def su(m b:Nat)(B:ByteArray)(k:Nat)(st:PS)(a u:Í):Prop:=∃(h:k<B.size) (h:PS),kS B k st (B[k].toNat:Int)=Â h/\sr m b h a u
def sw(m b:Nat)(B:ByteArray)(k:Nat)(st:PS)(a u:Í):Prop:=∃h:k<B.size,kS B k st (B[k].toNat:Int)=Á/\∃c,sr m b c a u
theorem uV{d:Int}(h:(0<d/\yQ=Ë)\/d<=0):¬(0<d/\yQ=Î):=by grind
def uW(h:¬(0<st.r/\jj c=Î)):kS B k st c=jP B k {st with r:=0} c:=if_neg h
def arb(a:0<st.r)(b:jj c=Î):kS B k st c=Â (Cv st c):=if_pos ⟨a,b⟩
section
variable{want:Int}
def ard(h:st.C=[]):jP B k st c=pQ st c:=by rw[jP,h]
def arf(h:st.C=want::zQ)(a:want=82):jP B k st c=yh st (wh c):=by rw[jP,h];simp only;rw[if_pos a]
def arh(h:st.C=want::zQ)(a:want=66)(b:si c=Î):jP B k st c=Â (oe {st with C:=[84],d:=st.d.nN} 120 c):=by rw[jP,h];simp only;rw[if_neg Z,if_pos a,if_pos b]
def ari(h:st.C=want::zQ)(a:want=66)(b:si c=Ë):jP B k st c=pQ st c:=by rw[jP,h];simp only;rw[if_neg Z,if_pos a,if_neg (by rw[b];decide)]
def arj(h:st.C=want::zQ)(a:want=84):jP B k st c=yi st (MO c):=by rw[jP,h];simp only;rw[if_neg Z,if_neg Z,if_pos a]
def ark(h:st.C=want::zQ)(a:want=80)(b:c=125):jP B k st c=Â {st with C:=zQ,d:=st.d.oE (B.extract (k-st.I.toNat) k)}:=by rw[jP,h];simp only;rw[if_neg Z,if_neg Z,if_neg Z,if_pos a,if_pos b]
def abK(h:st.C=want::zQ)(a:want=80)(b:¬c=125)(d:st.I=40\/lB c=0):jP B k st c=Á:=by rw[jP,h];simp only;rw[if_neg Z,if_neg Z,if_neg Z,if_pos a,if_neg b,if_pos d]
def arl(h:st.C=want::zQ)(a:want=80)(b:¬c=125)(d:¬st.I=40)(e:¬lB c=0):jP B k st c=Â {st with I:=st.I+1}:=by rw[jP,h];simp only;rw[if_neg Z,if_neg Z,if_neg Z,if_pos a,if_neg b,if_neg Z]
def arn(h:st.C=want::zQ)(a:¬want=82)(b:¬want=66)(d:¬want=84)(e:¬want=80)(f:oZ want c=Î):jP B k st c=Â {oe st want c with C:=zQ}:=by rw[jP,h];simp only;rw[if_neg a,if_neg b,if_neg d,if_neg e,if_pos f]
def aro(h:st.C=want::zQ)(a:¬want=82)(b:¬want=66)(d:¬want=84)(e:¬want=80)(f:oZ want c=Ë):jP B k st c=Á:=by rw[jP,h];simp only;rw[if_neg a,if_neg b,if_neg d,if_neg e,if_neg (by rw[f];decide)]
end
def uX(c:UInt8):(0:Int)<=(c.toNat:Int)/\(c.toNat:Int)<256:=⟨Int.natCast_nonneg _,by have:=c.toNat_lt;omega⟩
def Uw(s:ByteArray)(h:s.size=0):(s.toList==[])=Î:=by simp_all
theorem tA(s:ByteArray)(h:¬s.size=0):(s.toList==[])=Ë:=by
 rw[beq_eq_false_iff_ne];intro e;have:s.toList.length=s.size:=by rw[ByteArray.toList_eq];rfl
 grind
def gQ.arp(h:gQ m b g O s st w)(on:st.d.r=Î)(i:c=86\/c=87\/c=110\/c=107):∃a e f,g.Cx st.d c=⟨a,e,Á⟩/\qx m b g st.d a e f (st.d.G c) w/\∀z,f z=st.d.fQ c z:=by
 rcases i with rfl|rfl|rfl|rfl
 .exact⟨_,_,_,U,Fc h.C h.r on A,λz=>rfl⟩
 .exact⟨_,_,_,U,Fc h.C h.r on A,λz=>rfl⟩
 .exact⟨_,_,_,U,Fe h.C h.r on A,λz=>rfl⟩
 .exact⟨_,_,_,U,Fe h.C h.r on A,λz=>rfl⟩
def gQ.oE(h:gQ m b g O s st w)(on:st.d.r=Î)(a:st.d.M=Î)(p:ByteArray):gQ m b g O s {st with d:=st.d.oE p} (w.setCell ⟨g.t,5,Á⟩<|Ä p)/\e8 (λi=>m<=i) w (w.setCell ⟨g.t,5,Á⟩<|Ä p):=by have l:=h.C.r on;let⟨f,j,c⟩:=l.C a;have e:e8 (λi=>i=g.t) w (w.setCell ⟨g.t,5,Á⟩<|Ä p):=pS c;exact⟨⟨h.S,h.a.r _ trivial,h.r.I e λx=>fg.S h.r c A x,h.M,h.I,h.C.oE on a p,h.c,h.N⟩,e.S λi _ x=>by have:=l.S;omega⟩
def gQ.abL(h:gQ m b g O s st w)(on:st.d.r=Î)(a:st.C=c::zQ):gQ m b g O (s.extract 1 s.size) {st with C:=zQ} (w.setCell ⟨b,0,Á⟩<|Ä<|s.extract 1 s.size):= h.MR _ zQ (aqv s h.M) (by rw[aqu,h.I,a];rfl)<|È on
def gQ.arq(h:gQ m b g O s st w)(a:st.C=c::zQ):0<s.size:=by have:=Uf s;rw[h.I,a]at this;simp at this;omega
end
section
variable{g:Gh}{s:ByteArray}{st:PS}{d:PD}
def ars(h:gQ m b g O s st w)(a:st.r=0)(c:st.d.r=Ë->st.d.S=[])(f:st.d.C.length<=100000)(k:Int): Ò À 96 #[Ã<|Â ⟨b,0,Á⟩,Å É k] w λe u=>M0 m b (yh st k) e w u:=(aqU h a c f k).mono λ_ _ q=>abI q
def aru(h:gQ m b g O s st w)(a:st.r=0)(on:st.d.r=Î)(c:st.d.M=Î)(k:Int): Ò À 101 #[Ã<|Â ⟨b,0,Á⟩,Å É k] w λe u=>M0 m b (yi st k) e w u:=(aqM h a on c k).mono λ_ _ q=>abI q
theorem arv{X:Ĉ->Í->Prop}{a:Ĉ}(G:Fr b B (Å É k) a) (h:gQ m b g O s st w) (i:jw B k st) (Q:B.size<=1200) (H:k<B.size) (n:0<st.r) (I:jj (B[k].toNat:Int)=Î) (S:∀a u,Fr b B (Å É<|(k:Int)+1) a/\su m b B k st w u->K a u) (_hQ:∀a u,Fr b B (Å É k) a/\sw m b B k st w u->X a u): ß À qy (Exit.then K<|QQ X) a w:=by
 obtain⟨c,rfl⟩:=G;unfold pT;conv=>arg 2;whnf
 have T:w.cell? ⟨b,0,Á⟩=Â (Ä s):=h.r.r 0 _ U;have V:w.cell? ⟨b,6,Á⟩=Â (Å É st.r):=h.r.r 6 _ U;have W:w.cell? ⟨b,7,Á⟩=Â (Å É st.I):=h.r.r 7 _ U;have Y:=h.r.C 0;have f6:=h.r.C 6;have f7:=h.r.C 7;have d0:=i.M;have d1:=i.r;have e0:=i.C;have e1:=i.I;let⟨q,on,_,_⟩:=i.e n;let⟨r,ao,f,t,j,v⟩:=h.arp on q;have J:w.cell? ⟨b,5,Á⟩=Â (Ã O):=h.r.r 5 _ U;rw[(h.c n).2,t]at J;obtain⟨x,o⟩:∃x,st.d.G st.M=x:=⟨_,U⟩;have L:=j.C;rw[o]at L;have fm:=j.I;obtain⟨M,N⟩:∃y,wrap64 (x*10)=y:=⟨_,U⟩;obtain⟨l,P⟩:∃y,wrap64 (M+((B[k].toNat:Int)-48)%256)=y:=⟨_,U⟩;have M1:¬r=b:=j.r;have M3:¬b=r:=λe=>j.r e.symm;have z:=h.Y (st.r-1) λ_=>h.c n;have p:=j.rd 6<|Å É<|st.r-1;have C:=z.G p l;have D:pP (st.d.G st.M) (B[k].toNat:Int)=l:=by rw[pP,š,š,o,N,P]
 have E:Cv st (B[k].toNat:Int)={st with r:=st.r-1,d:=f l}:=by rw[Cv,D,v]
 have F:Hid (kS B k st (B[k].toNat:Int)=Â {st with r:=st.r-1,d:=f l}/\sr m b {st with r:=st.r-1,d:=f l} w (ξ _)):= fc ⟨by rw[arb n I,E],(((mL h 6 _).fe<|Ff (st:=st) p _).C (e8.fT ff _) λ_ _ x=>x.elim),g,O,s,C.fT⟩;clear z p C D E j v t h i o q;go_wp2_with (go_at_call 94;refine(sk _ _).mono ?_;rintro e u ⟨rfl,hw⟩;subst u);go_region;all_goals
  go_wp2;exact⟨gi,⟨H,_,F.out.1,F.out.2⟩⟩
theorem arw{X:Ĉ->Í->Prop}(z:Fr b B (Å É k) y) (i:gQ m b g O s st w) (j:jw B k st) (Q:B.size<=1200) (l:k<B.size) (n:(0<st.r/\jj (B[k].toNat:Int)=Ë)\/st.r<=0) (o:s.size=0) (S:∀y u,Fr b B (Å É<|(k:Int)+1) y/\su m b B k st w u->K y u) (C:∀y u,Fr b B (Å É k) y/\sw m b B k st w u->X y u): ß À qy (Exit.then K<|QQ X) y w:=by
 obtain⟨f,rfl⟩:=z;unfold pT;conv=>arg 2;whnf
 have T:w.cell? ⟨b,0,Á⟩=Â (Ä s):=i.r.r 0 _ U;have V:w.cell? ⟨b,6,Á⟩=Â (Å É st.r):=i.r.r 6 _ U;have W:w.cell? ⟨b,7,Á⟩=Â (Å É st.I):=i.r.r 7 _ U;have Y:=i.r.C 0;have f6:=i.r.C 6;have f7:=i.r.C 7;have d0:=j.M;have d1:=j.r;have e0:=j.C;have e1:=j.I;have p:=fc<|uW (B:=B) (k:=k)<|uV n;have r:=i.Y 0 λh=>absurd h A;have t:=fc<|mL i 6<|Å É 0;have D:=j.d.C;have E:=j.d.I;have F:=fc r;let⟨tU,Ah⟩:=uX B[k];have qT:=Uw s o;have h:st.C=[]:=by rw[<-i.I];exact abl s o
 have G:st.d.r=Î:=by
  rcases i.N with q|q
  .exact q
  .rw[h]at q;cases q
 have v:=fc<|ard (B:=B) (k:=k) (c:=(B[k].toNat:Int)) (st:={st with r:=0}) h;clear h i j;rcases n with⟨H,oU⟩|H;all_goals
  go_wp2_with (first|(go_at_call 94;refine(sk _ _).mono ?_;rintro e u ⟨rfl,x⟩;subst u)|(go_at_call 95;refine(abJ r U G E D _).mono ?_;rintro e u (⟨q,rfl,x⟩|⟨I,q,rfl,J,L,M,N,P⟩)))
  .subst x;exact C _ _ ⟨gi,⟨l,p.out.trans<|v.out.trans q,_,t.out,_,_,_,F.out⟩⟩
  .exact⟨gi,⟨l,I,p.out.trans<|v.out.trans q,t.out.fe J,L,M,N,P⟩⟩
theorem arx{X:Ĉ->Í->Prop}(z:Fr b B (Å É k) y) (i:gQ m b g O s st w) (j:jw B k st) (P:B.size<=1200) (o:k<B.size) (p:(0<st.r/\jj (B[k].toNat:Int)=Ë)\/st.r<=0) (q:0<s.size) (l:((s[0]'q).toNat:Int)=82) (Q:∀y u,Fr b B (Å É<|(k:Int)+1) y/\su m b B k st w u->K y u) (C:∀y u,Fr b B (Å É k) y/\sw m b B k st w u->X y u): ß À qy (Exit.then K<|QQ X) y w:=by
 obtain⟨f,rfl⟩:=z;unfold pT;conv=>arg 2;whnf
 have S:w.cell? ⟨b,0,Á⟩=Â (Ä s):=i.r.r 0 _ U;have T:w.cell? ⟨b,6,Á⟩=Â (Å É st.r):=i.r.r 6 _ U;have V:w.cell? ⟨b,7,Á⟩=Â (Å É st.I):=i.r.r 7 _ U;have W:=i.r.C 0;have Y:=i.r.C 6;have f7:=i.r.C 7;have d0:=j.M;have d1:=j.r;have e0:=j.C;have e1:=j.I;have r:=fc<|uW (B:=B) (k:=k)<|uV p;have t:=i.Y 0 λh=>absurd h A;have v:=fc<|mL i 6<|Å É 0;have Ai:=j.d.C;have Cz:=j.d.I;have D:=fc t;let⟨tU,Ah⟩:=uX B[k];have qT:=tA s Z;have tB:s.size<=10:=i.M;have E:=fc (show st.C=(s[0].toNat:Int)::(jZ s).tail by rw[<-i.I];exact wi s q);have x:=fc<|arf (B:=B) (k:=k) (c:=(B[k].toNat:Int)) (st:={st with r:=0}) E.out l;have yk:((s[0].toNat:Int)==82)=Î:=by rw[l];rfl
 have F:=fc λe=>(j.d.N e).1;clear l i j;rcases p with⟨G,oU⟩|G;all_goals
  go_wp2_with (first|(go_at_call 94;refine(sk _ _).mono ?_;rintro e u ⟨rfl,h⟩;subst u)|(go_at_call 97;refine(aqE _ _).mono ?_;rintro e u ⟨rfl,h⟩;subst u)|(go_at_call 96;refine(ars t U F.out (by show st.d.C.length<=100000;omega) _).mono ?_;rintro e u (⟨n,rfl,h⟩|⟨H,n,rfl,I,J,L,M,N⟩)))
  .subst h;exact C _ _ ⟨gi,⟨o,r.out.trans<|x.out.trans n,_,v.out,_,_,_,D.out⟩⟩
  .exact⟨gi,⟨o,H,r.out.trans<|x.out.trans n,v.out.fe I,J,L,M,N⟩⟩
end
section
variable{g:Gh}{s:ByteArray}{st:PS}{d:PD}
def arz{X:Ĉ->Í->Prop}(t:Fr b B (Å É k) y) (f:gQ m b g O s st w) (i:jw B k st) (M:B.size<=1200) (v:k<B.size) (l:(0<st.r/\jj (B[k].toNat:Int)=Ë)\/st.r<=0) (n:0<s.size) (j:((s[0]'n).toNat:Int)=66) (o:si (B[k].toNat:Int)=Î) (N:∀y u,Fr b B (Å É<|(k:Int)+1) y/\su m b B k st w u->K y u) (_hQ:∀y u,Fr b B (Å É k) y/\sw m b B k st w u->X y u): ß À qy (Exit.then K<|QQ X) y w:=by
 obtain⟨c,rfl⟩:=t;unfold pT;conv=>arg 2;whnf
 have P:w.cell? ⟨b,0,Á⟩=Â (Ä s):=f.r.r 0 _ U;have Q:w.cell? ⟨b,6,Á⟩=Â (Å É st.r):=f.r.r 6 _ U;have S:w.cell? ⟨b,7,Á⟩=Â (Å É st.I):=f.r.r 7 _ U;have T:=f.r.C 0;have V:=f.r.C 6;have W:=f.r.C 7;have Y:=i.M;have d1:=i.r;have e0:=i.C;have e1:=i.I;have x:=fc<|uW (B:=B) (k:=k)<|uV l;have p:=f.Y 0 λh=>absurd h A;have z:=fc<|mL f 6<|Å É 0;have Ai:=i.d.C;have Cz:=i.d.I;have HH1:=fc p;let⟨C,D⟩:=uX B[k];have qT:=tA s Z;have tB:s.size<=10:=f.M;have h:=fc (show st.C=(s[0].toNat:Int)::(jZ s).tail by rw[<-f.I];exact wi s n);have r:st.d.r=Î:=by
  rcases f.N with q|q
  .exact q
  .rw[h.out]at q;injection q with q;omega
 have q:=fc<|arh (B:=B) (k:=k) (st:={st with r:=0}) h.out j o;have yk:((s[0].toNat:Int)==82)=Ë:=by rw[j];rfl
 have Fj:((s[0].toNat:Int)==66)=Î:=by rw[j];rfl
 clear j f i;rcases l with⟨E,oU⟩|E;all_goals
  go_wp2_with (first|(go_at_call 94;refine(sk _ _).mono ?_;rintro e u ⟨rfl,F⟩;subst u)|(go_at_call 98;refine(Ug _ C D _).mono ?_;rintro e u ⟨rfl,F⟩;subst u)|(go_at_call 99;refine(abw p U r<|by show st.d.Y.length<=100000;omega).mono ?_;rintro e u ⟨rfl,F,H,I,J,G⟩)|(go_at_call 100;refine(LP G U r _ _<|show oZ 120 _=Î from o).mono ?_;rintro e w'' ⟨rfl,G,H,I,J,L⟩))
  exact⟨gi,⟨v,_,x.out.trans q.out,z.out.fe<|F.fe G,H,I,J,L⟩⟩
def arA{X:Ĉ->Í->Prop}(z:Fr b B (Å É k) y) (f:gQ m b g O s st w) (i:jw B k st) (V:B.size<=1200) (l:k<B.size) (n:(0<st.r/\jj (B[k].toNat:Int)=Ë)\/st.r<=0) (o:0<s.size) (j:((s[0]'o).toNat:Int)=66) (C:si (B[k].toNat:Int)=Ë) (W:∀y u,Fr b B (Å É<|(k:Int)+1) y/\su m b B k st w u->K y u) (D:∀y u,Fr b B (Å É k) y/\sw m b B k st w u->X y u): ß À qy (Exit.then K<|QQ X) y w:=by
 obtain⟨c,rfl⟩:=z;unfold pT;conv=>arg 2;whnf
 have Y:w.cell? ⟨b,0,Á⟩=Â (Ä s):=f.r.r 0 _ U;have c6:w.cell? ⟨b,6,Á⟩=Â (Å É st.r):=f.r.r 6 _ U;have c7:w.cell? ⟨b,7,Á⟩=Â (Å É st.I):=f.r.r 7 _ U;have f0:=f.r.C 0;have f6:=f.r.C 6;have f7:=f.r.C 7;have d0:=i.M;have d1:=i.r;have e0:=i.C;have e1:=i.I;have p:=fc<|uW (B:=B) (k:=k)<|uV n;have r:=f.Y 0 λh=>absurd h A;have t:=fc<|mL f 6<|Å É 0;have E:=i.d.C;have F:=i.d.I;have G:=fc r;let⟨H,I⟩:=uX B[k];have qT:=tA s Z;have tB:s.size<=10:=f.M;have v:=fc (show st.C=(s[0].toNat:Int)::(jZ s).tail by rw[<-f.I];exact wi s o);have J:st.d.r=Î:=by
  rcases f.N with q|q
  .exact q
  .rw[v.out]at q;injection q with q;omega
 have x:=fc<|ari (B:=B) (k:=k) (st:={st with r:=0}) v.out j C;have yk:((s[0].toNat:Int)==82)=Ë:=by rw[j];rfl
 have Fj:((s[0].toNat:Int)==66)=Î:=by rw[j];rfl
 clear j f i;rcases n with⟨L,oU⟩|L;all_goals
  go_wp2_with (first|(go_at_call 94;refine(sk _ _).mono ?_;rintro e u ⟨rfl,h⟩;subst u)|(go_at_call 98;refine(Ug _ H I _).mono ?_;rintro e u ⟨rfl,h⟩;subst u)|(go_at_call 95;refine(abJ r U J F E _).mono ?_;rintro e u (⟨q,rfl,h⟩|⟨M,q,rfl,N,P,Q,S,T⟩)))
  .subst h;exact D _ _ ⟨gi,⟨l,p.out.trans<|x.out.trans q,_,t.out,_,_,_,G.out⟩⟩
  .exact⟨gi,⟨l,M,p.out.trans<|x.out.trans q,t.out.fe N,P,Q,S,T⟩⟩
theorem arB{X:Ĉ->Í->Prop}(C:Fr b B (Å É k) y) (i:gQ m b g O s st w) (j:jw B k st) (Q:B.size<=1200) (o:k<B.size) (p:(0<st.r/\jj (B[k].toNat:Int)=Ë)\/st.r<=0) (r:0<s.size) (l:((s[0]'r).toNat:Int)=84) (S:∀y u,Fr b B (Å É<|(k:Int)+1) y/\su m b B k st w u->K y u) (D:∀y u,Fr b B (Å É k) y/\sw m b B k st w u->X y u): ß À qy (Exit.then K<|QQ X) y w:=by
 obtain⟨f,rfl⟩:=C;unfold pT;conv=>arg 2;whnf
 have T:w.cell? ⟨b,0,Á⟩=Â (Ä s):=i.r.r 0 _ U;have V:w.cell? ⟨b,6,Á⟩=Â (Å É st.r):=i.r.r 6 _ U;have W:w.cell? ⟨b,7,Á⟩=Â (Å É st.I):=i.r.r 7 _ U;have Y:=i.r.C 0;have f6:=i.r.C 6;have f7:=i.r.C 7;have d0:=j.M;have d1:=j.r;have e0:=j.C;have e1:=j.I;have t:=fc<|uW (B:=B) (k:=k)<|uV p;have v:=i.Y 0 λh=>absurd h A;have x:=fc<|mL i 6<|Å É 0;have Ai:=j.d.C;have Cz:=j.d.I;have E:=fc v;let⟨tU,Ah⟩:=uX B[k];have qT:=tA s Z;have tB:s.size<=10:=i.M;have h:=fc (show st.C=(s[0].toNat:Int)::(jZ s).tail by rw[<-i.I];exact wi s r);have F:st.d.r=Î:=by
  rcases i.N with q|q
  .exact q
  .rw[h.out]at q;injection q with q;omega
 have G:st.d.M=Î:=j.N (by rw[h.out,l];simp);have z:=fc<|arj (B:=B) (k:=k) (c:=(B[k].toNat:Int)) (st:={st with r:=0}) h.out l;have yk:((s[0].toNat:Int)==82)=Ë:=by rw[l];rfl
 have Fj:((s[0].toNat:Int)==66)=Ë:=by rw[l];rfl
 have Fl:((s[0].toNat:Int)==84)=Î:=by rw[l];rfl
 clear l i j;rcases p with⟨H,oU⟩|H;all_goals
  go_wp2_with (first|(go_at_call 94;refine(sk _ _).mono ?_;rintro e u ⟨rfl,q⟩;subst u)|(go_at_call 102;refine(aqD _ _).mono ?_;rintro e u ⟨rfl,q⟩;subst u)|(go_at_call 101;refine(aru v U F G _).mono ?_;rintro e u (⟨n,rfl,q⟩|⟨I,n,rfl,J,L,M,N,P⟩)))
  .subst q;exact D _ _ ⟨gi,⟨o,t.out.trans<|z.out.trans n,_,x.out,_,_,_,E.out⟩⟩
  .exact⟨gi,⟨o,I,t.out.trans<|z.out.trans n,x.out.fe J,L,M,N,P⟩⟩
end
section
variable{g:Gh}{s:ByteArray}{st:PS}{d:PD}
theorem arC{X:Ĉ->Í->Prop}(N:Fr b B (Å É k) y) (i:gQ m b g O s st w) (j:jw B k st) (hB:B.size<=1200) (P:k<B.size) (E:(0<st.r/\jj (B[k].toNat:Int)=Ë)\/st.r<=0) (F:0<s.size) (l:((s[0]'F).toNat:Int)=80) (r:(B[k].toNat:Int)=125) (hK:∀y u,Fr b B (Å É<|(k:Int)+1) y/\su m b B k st w u->K y u) (_hQ:∀y u,Fr b B (Å É k) y/\sw m b B k st w u->X y u): ß À qy (Exit.then K<|QQ X) y w:=by
 obtain⟨f,rfl⟩:=N;unfold pT;conv=>arg 2;whnf
 have c0:w.cell? ⟨b,0,Á⟩=Â (Ä s):=i.r.r 0 _ U;have c6:w.cell? ⟨b,6,Á⟩=Â (Å É st.r):=i.r.r 6 _ U;have Q:w.cell? ⟨b,7,Á⟩=Â (Å É st.I):=i.r.r 7 _ U;have f0:=i.r.C 0;have f6:=i.r.C 6;have f7:=i.r.C 7;have d0:=j.M;have d1:=j.r;have S:=j.C;have T:=j.I;have G:=fc<|uW (B:=B) (k:=k)<|uV E;have v:=i.Y 0 λh=>absurd h A;have H:=fc<|mL i 6<|Å É 0;have Ai:=j.d.C;have Cz:=j.d.I;have V:=fc v;let⟨tU,Ah⟩:=uX B[k];have qT:=tA s Z;have tB:s.size<=10:=i.M;have h:=fc (show st.C=(s[0].toNat:Int)::(jZ s).tail by rw[<-i.I];exact wi s F);have z:st.d.r=Î:=by
  rcases i.N with q|q
  .exact q
  .rw[h.out]at q;injection q with q;omega
 have C:st.d.M=Î:=j.N (by rw[h.out,l];simp);have W:w.cell? ⟨b,3,Á⟩=Â (Ã<|g.Y st.d):=i.r.r 3 _ U;rw[IF C]at W;let⟨Y,I,q⟩:=(i.C.r z).C C;have Ux:w.cell? ⟨g.t,5,Á⟩=Â (Ä st.d.N.p):=q.r 5 _ (by have:=Cy st.d.N.c<|Ä st.d.N.p;rwa[I]at this);have Uy:=q.C 5;have M3:¬b=g.t:=λe=>fg.S q i.r A e.symm;have M1:¬g.t=b:=fg.S q i.r A;let⟨M4,_⟩:=j.Y (by rw[h.out,l];simp);have yk:((s[0].toNat:Int)==82)=Ë:=by rw[l];rfl
 have Fj:((s[0].toNat:Int)==66)=Ë:=by rw[l];rfl
 have Fl:((s[0].toNat:Int)==84)=Ë:=by rw[l];rfl
 have IJ:((s[0].toNat:Int)==80)=Î:=by rw[l];rfl
 clear Y I q;have J:=fc<|ark (B:=B) (k:=k) (st:={st with r:=0}) h.out l r;have Uz:((B[k].toNat:Int) !=125)=Ë:=by rw[r];rfl
 obtain⟨n,L⟩:∃t:Nat,st.I=(t:Int):=⟨st.I.toNat,Z⟩;have o:=v.oE z C<|B.extract (k-n) k;have M:=o.1.abL z h.out;have D:=fc (Ê (show kS B k st (B[k].toNat:Int)=Â {({st with r:=0}:PS)with C:=(jZ s).tail,d:=st.d.oE (B.extract (k-n) k)} by rw[G.out,J.out,show({st with r:=0}:PS).I.toNat=n by show st.I.toNat=n;omega])<|Ê ((H.out.fe o.2).fe<|mL o.1 0<|Ä<|s.extract 1 s.size) M);rw[L]at Q S T M4;clear r l i j o M L J G H V v;rcases E with⟨BP,oU⟩|BP;all_goals
  go_wp2_with (first|(go_at_call 94;refine(sk _ _).mono ?_;rintro e u ⟨rfl,x⟩;subst u))
  go_region
  all_goals
   go_wp2;exact⟨gi,⟨P,_,D.out.1,D.out.2.1.C (e8.fT ff _) λ_ _ x=>x.elim,_,_,_,D.out.2.2.fT⟩⟩
theorem arD{X:Ĉ->Í->Prop}(C:Fr b B (Å É k) y) (i:gQ m b g O s st w) (j:jw B k st) (Q:B.size<=1200) (D:k<B.size) (v:(0<st.r/\jj (B[k].toNat:Int)=Ë)\/st.r<=0) (x:0<s.size) (l:((s[0]'x).toNat:Int)=80) (o:¬(B[k].toNat:Int)=125) (r:st.I=40) (_hK:∀y u,Fr b B (Å É<|(k:Int)+1) y/\su m b B k st w u->K y u) (E:∀y u,Fr b B (Å É k) y/\sw m b B k st w u->X y u): ß À qy (Exit.then K<|QQ X) y w:=by
 obtain⟨f,rfl⟩:=C;unfold pT;conv=>arg 2;whnf
 have S:w.cell? ⟨b,0,Á⟩=Â (Ä s):=i.r.r 0 _ U;have T:w.cell? ⟨b,6,Á⟩=Â (Å É st.r):=i.r.r 6 _ U;have V:w.cell? ⟨b,7,Á⟩=Â (Å É st.I):=i.r.r 7 _ U;have W:=i.r.C 0;have Y:=i.r.C 6;have f7:=i.r.C 7;have d0:=j.M;have d1:=j.r;have e0:=j.C;have e1:=j.I;have F:=fc<|uW (B:=B) (k:=k)<|uV v;have G:=i.Y 0 λh=>absurd h A;have H:=fc<|mL i 6<|Å É 0;have Ai:=j.d.C;have Cz:=j.d.I;have I:=fc G;let⟨tU,Ah⟩:=uX B[k];have qT:=tA s Z;have tB:s.size<=10:=i.M;have n:=fc (show st.C=(s[0].toNat:Int)::(jZ s).tail by rw[<-i.I];exact wi s x);have J:st.d.r=Î:=by
  rcases i.N with q|q
  .exact q
  .rw[n.out]at q;injection q with q;omega
 have q:st.d.M=Î:=j.N (by rw[n.out,l];simp);have L:w.cell? ⟨b,3,Á⟩=Â (Ã<|g.Y st.d):=i.r.r 3 _ U;rw[IF q]at L;let⟨M,z,h⟩:=(i.C.r J).C q;have Ux:w.cell? ⟨g.t,5,Á⟩=Â (Ä st.d.N.p):=h.r 5 _ (by have:=Cy st.d.N.c<|Ä st.d.N.p;rwa[z]at this);have Uy:=h.C 5;have M3:¬b=g.t:=λe=>fg.S h i.r A e.symm;have M1:¬g.t=b:=fg.S h i.r A;let⟨M4,_⟩:=j.Y (by rw[n.out,l];simp);have yk:((s[0].toNat:Int)==82)=Ë:=by rw[l];rfl
 have Fj:((s[0].toNat:Int)==66)=Ë:=by rw[l];rfl
 have Fl:((s[0].toNat:Int)==84)=Ë:=by rw[l];rfl
 have IJ:((s[0].toNat:Int)==80)=Î:=by rw[l];rfl
 clear M z h;have Uz:((B[k].toNat:Int) !=125)=Î:=by rwa[bne_iff_ne]
 have N:=fc<|abK (B:=B) (k:=k) (st:={st with r:=0}) n.out l o<|È r;have abM:(st.I==40)=Î:=by rw[r];rfl
 clear r o l i j;rcases v with⟨P,oU⟩|P;all_goals
  go_wp2_with (first|(go_at_call 94;refine(sk _ _).mono ?_;rintro e u ⟨rfl,hw⟩;subst u))
  exact E _ _ ⟨gi,⟨D,F.out.trans N.out,_,H.out,_,_,_,I.out⟩⟩
theorem arE{X:Ĉ->Í->Prop}(E:Fr b B (Å É k) y) (i:gQ m b g O s st w) (j:jw B k st) (S:B.size<=1200) (F:k<B.size) (v:(0<st.r/\jj (B[k].toNat:Int)=Ë)\/st.r<=0) (x:0<s.size) (l:((s[0]'x).toNat:Int)=80) (o:¬(B[k].toNat:Int)=125) (r:¬st.I=40) (z:¬lB (B[k].toNat:Int)=0) (T:∀y u,Fr b B (Å É<|(k:Int)+1) y/\su m b B k st w u->K y u) (_hQ:∀y u,Fr b B (Å É k) y/\sw m b B k st w u->X y u): ß À qy (Exit.then K<|QQ X) y w:=by
 obtain⟨f,rfl⟩:=E;unfold pT;conv=>arg 2;whnf
 have V:w.cell? ⟨b,0,Á⟩=Â (Ä s):=i.r.r 0 _ U;have W:w.cell? ⟨b,6,Á⟩=Â (Å É st.r):=i.r.r 6 _ U;have Y:w.cell? ⟨b,7,Á⟩=Â (Å É st.I):=i.r.r 7 _ U;have f0:=i.r.C 0;have f6:=i.r.C 6;have f7:=i.r.C 7;have d0:=j.M;have d1:=j.r;have e0:=j.C;have e1:=j.I;have G:=fc<|uW (B:=B) (k:=k)<|uV v;have H:=i.Y 0 λh=>absurd h A;have I:=fc<|mL i 6<|Å É 0;have Ai:=j.d.C;have Cz:=j.d.I;have C:=fc H;let⟨tU,Ah⟩:=uX B[k];have qT:=tA s Z;have tB:s.size<=10:=i.M;have n:=fc (show st.C=(s[0].toNat:Int)::(jZ s).tail by rw[<-i.I];exact wi s x);have J:st.d.r=Î:=by
  rcases i.N with q|q
  .exact q
  .rw[n.out]at q;injection q with q;omega
 have q:st.d.M=Î:=j.N (by rw[n.out,l];simp);have L:w.cell? ⟨b,3,Á⟩=Â (Ã<|g.Y st.d):=i.r.r 3 _ U;rw[IF q]at L;let⟨M,D,h⟩:=(i.C.r J).C q;have Ux:w.cell? ⟨g.t,5,Á⟩=Â (Ä st.d.N.p):=h.r 5 _ (by have:=Cy st.d.N.c<|Ä st.d.N.p;rwa[D]at this);have Uy:=h.C 5;have M3:¬b=g.t:=λe=>fg.S h i.r A e.symm;have M1:¬g.t=b:=fg.S h i.r A;let⟨M4,_⟩:=j.Y (by rw[n.out,l];simp);have yk:((s[0].toNat:Int)==82)=Ë:=by rw[l];rfl
 have Fj:((s[0].toNat:Int)==66)=Ë:=by rw[l];rfl
 have Fl:((s[0].toNat:Int)==84)=Ë:=by rw[l];rfl
 have IJ:((s[0].toNat:Int)==80)=Î:=by rw[l];rfl
 clear M D h;have Uz:((B[k].toNat:Int) !=125)=Î:=by rwa[bne_iff_ne]
 have N:=fc<|arl (B:=B) (k:=k) (st:={st with r:=0}) n.out l o r z;have abM:(st.I==40)=Ë:=by rwa[beq_eq_false_iff_ne]
 have zo:((lB (B[k].toNat:Int):Int)==0)=Ë:=by rw[beq_eq_false_iff_ne];omega
 clear r o l i j z;rcases v with⟨P,oU⟩|P;all_goals
  go_wp2_with (first|(go_at_call 94;refine(sk _ _).mono ?_;rintro e u ⟨rfl,Q⟩;subst u)|(go_at_call 103;refine(qm _ _).mono ?_;rintro e u ⟨rfl,Q⟩;subst u))
  exact⟨gi,⟨F,_,G.out.trans N.out,I.out.fe<|mL C.out 7 _,_,_,_,C.out.abt _⟩⟩
theorem arF{X:Ĉ->Í->Prop}(D:Fr b B (Å É k) y) (i:gQ m b g O s st w) (j:jw B k st) (T:B.size<=1200) (E:k<B.size) (v:(0<st.r/\jj (B[k].toNat:Int)=Ë)\/st.r<=0) (x:0<s.size) (l:((s[0]'x).toNat:Int)=80) (o:¬(B[k].toNat:Int)=125) (z:¬st.I=40) (r:lB (B[k].toNat:Int)=0) (_hK:∀y u,Fr b B (Å É<|(k:Int)+1) y/\su m b B k st w u->K y u) (F:∀y u,Fr b B (Å É k) y/\sw m b B k st w u->X y u): ß À qy (Exit.then K<|QQ X) y w:=by
 obtain⟨f,rfl⟩:=D;unfold pT;conv=>arg 2;whnf
 have V:w.cell? ⟨b,0,Á⟩=Â (Ä s):=i.r.r 0 _ U;have W:w.cell? ⟨b,6,Á⟩=Â (Å É st.r):=i.r.r 6 _ U;have Y:w.cell? ⟨b,7,Á⟩=Â (Å É st.I):=i.r.r 7 _ U;have f0:=i.r.C 0;have f6:=i.r.C 6;have f7:=i.r.C 7;have d0:=j.M;have d1:=j.r;have e0:=j.C;have e1:=j.I;have G:=fc<|uW (B:=B) (k:=k)<|uV v;have H:=i.Y 0 λh=>absurd h A;have I:=fc<|mL i 6<|Å É 0;have Ai:=j.d.C;have Cz:=j.d.I;have J:=fc H;let⟨tU,Ah⟩:=uX B[k];have qT:=tA s Z;have tB:s.size<=10:=i.M;have n:=fc (show st.C=(s[0].toNat:Int)::(jZ s).tail by rw[<-i.I];exact wi s x);have L:st.d.r=Î:=by
  rcases i.N with q|q
  .exact q
  .rw[n.out]at q;injection q with q;omega
 have q:st.d.M=Î:=j.N (by rw[n.out,l];simp);have M:w.cell? ⟨b,3,Á⟩=Â (Ã<|g.Y st.d):=i.r.r 3 _ U;rw[IF q]at M;let⟨N,C,h⟩:=(i.C.r L).C q;have Ux:w.cell? ⟨g.t,5,Á⟩=Â (Ä st.d.N.p):=h.r 5 _ (by have:=Cy st.d.N.c<|Ä st.d.N.p;rwa[C]at this);have Uy:=h.C 5;have M3:¬b=g.t:=λe=>fg.S h i.r A e.symm;have M1:¬g.t=b:=fg.S h i.r A;let⟨M4,_⟩:=j.Y (by rw[n.out,l];simp);have yk:((s[0].toNat:Int)==82)=Ë:=by rw[l];rfl
 have Fj:((s[0].toNat:Int)==66)=Ë:=by rw[l];rfl
 have Fl:((s[0].toNat:Int)==84)=Ë:=by rw[l];rfl
 have IJ:((s[0].toNat:Int)==80)=Î:=by rw[l];rfl
 clear N C h;have Uz:((B[k].toNat:Int) !=125)=Î:=by rwa[bne_iff_ne]
 have P:=fc<|abK (B:=B) (k:=k) (st:={st with r:=0}) n.out l o<|Ï r;have abM:(st.I==40)=Ë:=by rwa[beq_eq_false_iff_ne]
 have zo:((lB (B[k].toNat:Int):Int)==0)=Î:=by rw[r];rfl
 clear z o l i j r;rcases v with⟨Q,oU⟩|Q;all_goals
  go_wp2_with (first|(go_at_call 94;refine(sk _ _).mono ?_;rintro e u ⟨rfl,S⟩;subst u)|(go_at_call 103;refine(qm _ _).mono ?_;rintro e u ⟨rfl,S⟩;subst u))
  exact F _ _ ⟨gi,⟨E,G.out.trans P.out,_,I.out,_,_,_,J.out⟩⟩
end
section
variable{g:Gh}{s:ByteArray}{st:PS}{d:PD}
def arG{X:Ĉ->Í->Prop}(D:Fr b B (Å É k) y) (f:gQ m b g O s st w) (i:jw B k st) (Q:B.size<=1200) (E:k<B.size) (v:(0<st.r/\jj (B[k].toNat:Int)=Ë)\/st.r<=0) (j:0<s.size) (n:¬((s[0]'j).toNat:Int)=82) (o:¬((s[0]'j).toNat:Int)=66) (p:¬((s[0]'j).toNat:Int)=84) (r:¬((s[0]'j).toNat:Int)=80) (x:oZ ((s[0]'j).toNat:Int) (B[k].toNat:Int)=Î) (S:∀y u,Fr b B (Å É<|(k:Int)+1) y/\su m b B k st w u->K y u) (_hQ:∀y u,Fr b B (Å É k) y/\sw m b B k st w u->X y u): ß À qy (Exit.then K<|QQ X) y w:=by
 obtain⟨c,rfl⟩:=D;unfold pT;conv=>arg 2;whnf
 have T:w.cell? ⟨b,0,Á⟩=Â (Ä s):=f.r.r 0 _ U;have V:w.cell? ⟨b,6,Á⟩=Â (Å É st.r):=f.r.r 6 _ U;have W:w.cell? ⟨b,7,Á⟩=Â (Å É st.I):=f.r.r 7 _ U;have Y:=f.r.C 0;have f6:=f.r.C 6;have f7:=f.r.C 7;have d0:=i.M;have d1:=i.r;have e0:=i.C;have e1:=i.I;have F:=fc<|uW (B:=B) (k:=k)<|uV v;have G:=f.Y 0 λh=>absurd h A;have H:=fc<|mL f 6<|Å É 0;have Ai:=i.d.C;let⟨I,J⟩:=uX B[k];have qT:=tA s Z;have tB:s.size<=10:=f.M;have l:=fc (show st.C=(s[0].toNat:Int)::(jZ s).tail by rw[<-f.I];exact wi s j);have z:st.d.r=Î:=by
  rcases f.N with q|q
  .exact q
  .rw[l.out]at q;injection q with q;omega
 have yk:((s[0].toNat:Int)==82)=Ë:=by rwa[beq_eq_false_iff_ne]
 have arH:((s[0].toNat:Int)==66)=Ë:=by rwa[beq_eq_false_iff_ne]
 have Fl:((s[0].toNat:Int)==84)=Ë:=by rwa[beq_eq_false_iff_ne]
 have IJ:((s[0].toNat:Int)==80)=Ë:=by rwa[beq_eq_false_iff_ne]
 have L:=fc<|arn (B:=B) (k:=k) (st:={st with r:=0}) l.out n o p r x;have M:=fc x;clear n o p r f i;rcases v with⟨N,oU⟩|N;all_goals
  go_wp2_with (first|(go_at_call 94;refine(sk _ _).mono ?_;rintro e u ⟨rfl,h⟩;subst u)|(go_at_call 104;refine(abn _ _ I J _).mono ?_;rintro e u ⟨rfl,h⟩;subst u)|(go_at_call 100;refine(LP G U z _ _ M.out).mono ?_;rintro e P ⟨rfl,C,g',nm',q,h⟩;have k0:P.cell? ⟨b,0,Á⟩=Â (Ä q):=h.r.r 0 _ U;have kf0:=h.r.C 0;have tV:0<q.size:=h.arq l.out;have avh:q.size<=10:=h.M;have t:=fc<|Ê C h;clear C h))
  exact⟨gi,⟨E,_,F.out.trans L.out,H.out.fe<|t.out.1.fe<|mL t.out.2 0 _,_,_,_,t.out.2.abL ((Ur _ _ _).1.trans z) l.out⟩⟩
def arI{X:Ĉ->Í->Prop}(t:Fr b B (Å É k) y) (f:gQ m b g O s st w) (i:jw B k st) (L:B.size<=1200) (v:k<B.size) (r:(0<st.r/\jj (B[k].toNat:Int)=Ë)\/st.r<=0) (j:0<s.size) (l:¬((s[0]'j).toNat:Int)=82) (n:¬((s[0]'j).toNat:Int)=66) (o:¬((s[0]'j).toNat:Int)=84) (p:¬((s[0]'j).toNat:Int)=80) (x:oZ ((s[0]'j).toNat:Int) (B[k].toNat:Int)=Ë) (_hK:∀y u,Fr b B (Å É<|(k:Int)+1) y/\su m b B k st w u->K y u) (z:∀y u,Fr b B (Å É k) y/\sw m b B k st w u->X y u): ß À qy (Exit.then K<|QQ X) y w:=by
 obtain⟨c,rfl⟩:=t;unfold pT;conv=>arg 2;whnf
 have M:w.cell? ⟨b,0,Á⟩=Â (Ä s):=f.r.r 0 _ U;have N:w.cell? ⟨b,6,Á⟩=Â (Å É st.r):=f.r.r 6 _ U;have P:w.cell? ⟨b,7,Á⟩=Â (Å É st.I):=f.r.r 7 _ U;have Q:=f.r.C 0;have S:=f.r.C 6;have T:=f.r.C 7;have V:=i.M;have W:=i.r;have Y:=i.C;have e1:=i.I;have C:=fc<|uW (B:=B) (k:=k)<|uV r;have D:=f.Y 0 λh=>absurd h A;have E:=fc<|mL f 6<|Å É 0;have Ai:=i.d.C;have Cz:=i.d.I;have F:=fc D;let⟨G,H⟩:=uX B[k];have qT:=tA s Z;have tB:s.size<=10:=f.M;have h:=fc (show st.C=(s[0].toNat:Int)::(jZ s).tail by rw[<-f.I];exact wi s j);have on:st.d.r=Î:=by
  rcases f.N with q|q
  .exact q
  .rw[h.out]at q;injection q with q;omega
 have yk:((s[0].toNat:Int)==82)=Ë:=by rwa[beq_eq_false_iff_ne]
 have arH:((s[0].toNat:Int)==66)=Ë:=by rwa[beq_eq_false_iff_ne]
 have Fl:((s[0].toNat:Int)==84)=Ë:=by rwa[beq_eq_false_iff_ne]
 have IJ:((s[0].toNat:Int)==80)=Ë:=by rwa[beq_eq_false_iff_ne]
 have q:=fc<|aro (B:=B) (k:=k) (st:={st with r:=0}) h.out l n o p x;clear l n o p f i;rcases r with⟨I,oU⟩|I;all_goals
  go_wp2_with (first|(go_at_call 94;refine(sk _ _).mono ?_;rintro e u ⟨rfl,J⟩;subst u)|(go_at_call 104;refine(abn _ _ G H _).mono ?_;rintro e u ⟨rfl,J⟩;subst u))
  exact z _ _ ⟨gi,⟨v,C.out.trans q.out,_,E.out,_,_,_,F.out⟩⟩
end
section
variable{g:Gh}{st:PS}{d:PD}
theorem arJ{X:Ĉ->Í->Prop}{c:ByteArray}(d:Fr b c (Å É k) y) (e:gQ m b g O B st w) (f:jw c k st) (h:c.size<=1200) (i:k<c.size) (j:∀y v,Fr b c (Å É<|(k:Int)+1) y/\su m b c k st w v->K y v) (l:∀y v,Fr b c (Å É k) y/\sw m b c k st w v->X y v): ß À qy (Exit.then K<|QQ X) y w:=by
 by_cases u:0<st.r/\jj (c[k].toNat:Int)=Î
 .grind [arv]
 have n:(0<st.r/\jj (c[k].toNat:Int)=Ë)\/st.r<=0:=by grind
 by_cases x:B.size=0
 .grind [arw]
 have o:0<B.size:=Z
 by_cases q:(B[0].toNat:Int)=82
 .grind [arx]
 by_cases p:(B[0].toNat:Int)=66
 .cases r:si (c[k].toNat:Int)with
  |true=>exact arz d e f h i n o p r j l
  |false=>exact arA d e f h i n o p r j l
 by_cases r:(B[0].toNat:Int)=84
 .grind [arB]
 by_cases s:(B[0].toNat:Int)=80
 .grind [arC,arD,arF,arE]
 cases t:oZ (B[0].toNat:Int) (c[k].toNat:Int)with
 |true=>exact arG d e f h i n o q p r s t j l
 |false=>exact arI d e f h i n o q p r s t j l
def arK{X:Ĉ->Í->Prop}(c:Fr b B (Å É k) y)(_hB:B.size<=1200)(e:¬k<B.size)(_hk:k<=B.size) (d:∀y v,Fr b B (Å É k) y/\v=w->X y v): ß À qy (Exit.then K<|QQ X) y w:=by
 obtain⟨u,rfl⟩:=c;unfold pT;conv=>arg 2;whnf
 go_wp2;exact d _ _ ⟨gi,U⟩
def lC(B:ByteArray):Nat×PS:=jR B B.size 0 nO
def RI(m b:Nat)(c:ByteArray)(w:Í)(a:Ĉ)(d:Í):Prop:=
 ∃(k:Nat) (g:Gh) (O:Option ü) (B:ByteArray) (st:PS),k<=c.size/\Fr b c (Å É k) a/\gQ m b g O B st d/\e8 (λi=>m<=i) w d/\jw c k st/\lC c=jR c (c.size-k) k st
def Rmu(B:ByteArray)(a:Ĉ)(_:Í):Nat:=B.size-(intOf<|a.tmps.getD 5 ĸ).toNat
def RX(m b:Nat)(B:ByteArray)(w:Í)(a:Ĉ)(d:Í):Prop:=
 ∃(k:Nat) (c:PS),k<=B.size/\Fr b B (Å É k) a/\sr m b c w d/\(lC B).1=k/\(k=B.size->(lC B).2=c)
def abN{w:Í}(h:Fr b B (Å É c) y):Rmu B y w=B.size-c.toNat:=by obtain⟨u,rfl⟩:=h;rfl
def arL{a:PS}(b:k<B.size)(c:kS B k st (B[k].toNat:Int)=Â a):jR B (B.size-k) k st=jR B (B.size-(k+1)) (k+1) a:=by rw[show B.size-k=(B.size-(k+1))+1 by omega,jR,dif_pos b,c]
def arM(a:k<B.size)(b:kS B k st (B[k].toNat:Int)=Á):jR B (B.size-k) k st=(k,st):=by rw[show B.size-k=(B.size-(k+1))+1 by omega,jR,dif_pos a,b]
def arN{c:ByteArray}(f:Fr b c (Å É 0) y)(h:gQ m b g O B nO w)(q:c.size<=1200): ß À (ń qy) (QQ<|RX m b c w) y w:=by
 apply Γ (RI m b c w) (Rmu c) ⟨0,g,O,B,nO,Ø _,f,h,e8.fV _ _,Uu c,U⟩;rintro y u ⟨k,g,O,B,st,l,f,r,n,s,o⟩;by_cases i:k<c.size
 .refine arJ f r s q i ?_ ?_
  .rintro t v ⟨d,x,e,j,p,z,C,D,E⟩;refine⟨⟨k+1,z,C,D,e,Z,by simpa using d,E,n.fe p,abE s i j,o.trans<|arL i j⟩,?_⟩;rw[abN d,abN (w:=u) f];omega
  .rintro t v ⟨d,x,j,z,p,C⟩;have:=o.trans<|arM i j;exact⟨k,z,l,d,⟨n.fe p,C⟩,by rw[this],λe=>by omega⟩
 .apply arK f q i l;rintro t v ⟨d,rfl⟩;have:lC c=(k,st):=by rw[o,show c.size-k=0 by omega];rfl
  exact⟨k,st,l,d,⟨n,g,O,B,r⟩,by rw[this],λ_=>by rw[this]⟩
def arO{c:ByteArray}(h:gQ m b g O B nO w)(f:c.size<=1200): Ò À 61 #[Ã<|Â ⟨b,0,Á⟩,Ä c] w λe u=>
  ∃(k:Nat) (d:PS),k<=c.size/\e=Æ (Å É k)/\sr m b d w u/\(lC c).1=k/\(k=c.size->(lC c).2=d):=by
 go_enter Tryz.func61,Tryz.ntmps61;go_wp2;go_step3;go_wp2;go_step3;go_wp2;refine İ ?_ (arN gi h f);rintro(_|(_|_)|_|_|_|_) a v hq;all_goals first|exact absurd hq id|skip
 let⟨k,d,i,j,l⟩:=hq;obtain⟨e,rfl⟩:=j;unfold pT;go_wp2;(try rw[Exit.noGoto_ret]);go_ret;exact⟨k,d,i,U,(fc l).out⟩
end
def lQ(B:ByteArray):Int×Bool×List PR:=
 if B.size=0 then(0,Î,[])else(((lC B).1:Int),decide ((lC B).1=B.size)&&(decide ((lC B).2.C=[])||decide ((lC B).2.C=[66])),(lC B).2.d.C)
def gK(B:ByteArray):Int×Int×List PR:=
 if 1200<B.size then(1,0,[])else if(lQ B).2.1=Î then(0,0,(lQ B).2.2)else(2,(lQ B).1,[])
def CB(m:Nat)(v:Ñ)(b:List PR)(w:Í):Prop:=jC m w/\∃a,w.ownsRow m 148 1 v a.length (nP a)/\pR w.heap.size a b w
section
variable{g:Gh}{s:ByteArray}{st:PS}
def CB.pe(w:Í):CB w.heap.size (Ç Á 0 0) [] w:=⟨jC.I w,[],⟨U,È ⟨U,U⟩⟩,pR.N _ _⟩
def gQ.iN(h:gQ m b g O s st w)(a:st.d.r=Ë->st.d.S=[])(n:Nat):CB m g.N st.d.C (w.drewN n):= ⟨h.a.iQ n,g.C st.d,ig h.C.C (e8.iQ ff w n) λ_ _=>id,(h.C.abx a).C (e8.iQ ff w n) λ_ _ x=>x.elim⟩
def g0(m:Nat):Gh:={a:=[],q:=0,t:=0,B:=m,tb:=[],N:=Ç Á 0 0,r:=Ç Á 0 0,b:=Á}
def arP(w:Í):gQ w.heap.size w.heap.size (g0 w.heap.size) Á ⟨#[82]⟩ nO (w.alloc<|Û #[Ä ⟨#[82]⟩,Ç Á 0 0,Ã Á,Ã Á,Ã Á,Ã Á,Å É 0,Å É 0] 153):= ⟨æ _,(jC.I w).gH _ _ A A (λv e=>by simp at e;rcases e with rfl|rfl|rfl|rfl<;>trivial),fg.N w [Ä ⟨#[82]⟩,Ç Á 0 0,Ã Á,Ã Á,Ã Á,Ã Á,Å É 0,Å É 0] 153,A,A,⟨⟨U,È ⟨U,U⟩⟩,pR.N _ _,(λe=>by cases e),λ_=>rfl⟩,(λq=>by cases q),Ï rfl⟩
def arQ(s:ByteArray):jZ s=[66]↔s.toList=[66]:=by
 unfold jZ;rw[ByteArray.toList_eq];constructor
 .intro h;match hl:s.data.toList with
  |[]=>rw[hl]at h;simp at h
  |[x]=>
   rw[hl]at h;simp only[ŉ,Ő,List.cons.injEq,and_true]at h;have:x=66:=UInt8.toNat_inj.1 (by have:x.toNat=66:=Z;rw[this];rfl);rw[this]
  |x::y::r=>rw[hl]at h;simp at h
 .intro h;rw[h];rfl
def UA(a:¬B.size=0):(lQ B).1=((lC B).1:Int):=by rw[lQ,if_neg a]
def abO(a:¬B.size=0):(lQ B).2.2=(lC B).2.d.C:=by rw[lQ,if_neg a]
def arR(a:¬B.size=0)(h:¬(lC B).1=B.size):(lQ B).2.1=Ë:=by rw[lQ,if_neg a];simp[h]
def abP(a:¬B.size=0)(h:(lC B).1=B.size){x:Bool}(b:x=(decide ((lC B).2.C=[])||decide ((lC B).2.C=[66]))):(lQ B).2.1=x:=by rw[lQ,if_neg a,b];simp[h]
def arS(B:ByteArray):(lC B).2.d.r=Ë->(lC B).2.d.S=[]:=λe=>((Uv B.size 0 nO (Uu B)<|Ø _).1.d.N e).1
theorem abQ(q:B.size<=1200): Ò À 45 #[Ä B] w λe u=>
  e8 ff w u/\∃v,e=Æ (ë #[v,Å É (lQ B).1,õ (lQ B).2.1])/\((lQ B).2.1=Î->CB w.heap.size v (lQ B).2.2 u):=by
 by_cases a:B.size=0
 .have f:=Uw B a;have n:=fc (show lQ B=(0,Î,[])from if_pos a);go_enter ε,Ν;go_wp2;apply ÿ (v:=ë #[Ç Á 0 0,Å É 0,õ Î]) (by simp[Ń,Ģ,go_sem]) U;exact⟨e8.fV _ _,_,by rw[n.out],λ_=>by rw[n.out];exact CB.pe w⟩
 .have f:=tA B a;have b:=fc a;go_enter ε,Ν;go_wp2_with (go_at_call 61;refine(arO (arP w) q).mono ?_;rintro e r ⟨k,d,i,rfl,⟨n,g,O,s,c⟩,h,t⟩);have l:e8 ff w r:=((e8.gH (λi=>w.heap.size<=i) w _ _).fe n).S λi D x=>by omega
  have E:=c.r.r 0 _ U;have F:=c.r.r 1 _ U;by_cases m:k=B.size
  .subst m;have y:=t U;subst y;have o:=fc c.I;have p:=fc λn=>c.iN (arS B) n;have n:=fc h;have d:=fc l;have z:((B.size:Int)==(B.size:Int))=Î:=fj
   by_cases a:s.size=0
   .have f:=Uw s a;have j:=fc (abP b.out n.out (x:=Î)<|by rw[<-o.out,abl s a];rfl);go_quiet (fail);go_wp2;apply ÿ (v:=ë #[g.N,Å É B.size,õ Î]) (by simp[Ń,Ģ,go_sem]) U;exact⟨d.out.fe<|e8.iQ _ _ _,_,by rw[UA b.out,n.out,j.out],λ_=>by rw[abO b.out];exact p.out _⟩
   .have f:=tA s a;have j:=fc (abP b.out n.out (x:=(s.toList==[66])) (by
     rw[<-o.out];have C:¬jZ s=[]:=λe=>by have:=Uf s;grind
     rw[decide_eq_false C,Bool.false_or,Ę,beq_iff_eq,decide_eq_true_iff,arQ]))
    go_quiet (fail)
    go_wp2;apply ÿ (v:=ë #[g.N,Å É B.size,õ<|s.toList==[66]]) (by simp[Ń,Ģ,go_sem]) U;exact⟨d.out.fe<|e8.iQ _ _ _,_,by rw[UA b.out,n.out,j.out],λ_=>by rw[abO b.out];exact p.out _⟩
  .have z:((k:Int)==(B.size:Int))=Ë:=by rw[beq_eq_false_iff_ne];omega
   have n:=fc (Ê h<|arR b.out<|by rwa[h]);have d:=fc l;go_quiet (fail);go_wp2;apply ÿ (v:=ë #[g.N,Å É k,õ Ë]) (by simp[Ń,Ģ,go_sem]) U;exact⟨d.out.fe<|e8.iQ _ _ _,_,by rw[UA b.out,n.out.1,n.out.2],λe=>by rw[n.out.2]at e;cases e⟩
def arT(h:B.size<=ī): Ò À 36 #[Ä B] w λe u=>
  e8 ff w u/\∃v,e=Æ (ë #[v,Å É (gK B).1,Å É (gK B).2.1])/\((gK B).1=0->CB w.heap.size v (gK B).2.2 u)/\((gK B).1≠0->v=Ç Á 0 0):=by
 unfold ī at h;by_cases b:1200<B.size
 .have a:=fc (show gK B=(1,0,[]) by rw[gK,if_pos b]);go_enter ļ,Ř;go_wp2;apply ÿ (v:=ë #[Ç Á 0 0,Å É 1,Å É 0]) (by simp[Ń,Ľ,go_sem]) U;exact⟨e8.fV _ _,_,by rw[a.out],(λe=>by rw[a.out]at e;cases e),λ_=>rfl⟩
 .have f:B.size<=1200:=Z
  cases c:(lQ B).2.1 with
  |true=>
   have a:=fc (show gK B=(0,0,(lQ B).2.2) by rw[gK,if_neg b,if_pos c]);go_enter ļ,Ř;go_wp2_with (go_at_call 45;refine(abQ f).mono ?_;rintro e i ⟨d,v,rfl,g⟩);apply ÿ (v:=ë #[v,Å É 0,Å É 0]) (by simp[Ń,Ľ,go_sem]) U;exact⟨d,_,by rw[a.out],(λ_=>by rw[a.out];exact g c),λe=>by rw[a.out]at e;exact absurd U e⟩
  |false=>
   have a:=fc (show gK B=(2,(lQ B).1,[]) by rw[gK,if_neg b,if_neg (by rw[c];exact Bool.false_ne_true)]);go_enter ļ,Ř;go_wp2_with (go_at_call 45;refine(abQ f).mono ?_;rintro e i ⟨d,v,rfl,g⟩);apply ÿ (v:=ë #[Ç Á 0 0,Å É 2,Å É (lQ B).1]) (by simp[Ń,Ľ,go_sem]) U;exact⟨d,_,by rw[a.out],(λe=>by rw[a.out]at e;cases e),λ_=>rfl⟩
end
end Go.Proofs.Y.mZ
namespace Go.Proofs.Y.kH
open Go Go.Conc Go.Proofs Go.RowKit Go.Proofs.Y.Lift Go.Proofs.Y.gy Go.Proofs.Y.ft Go.Proofs.Y.mZ
structure IK(a:Nat)(t:PT)(w:Í):Prop where
 r:∃cs fz,w.heap[a]?=Â (Û cs 200 fz)
 c:∀i,i<5->w.cell? ⟨a,i,Á⟩=Â (Å É<|t.c.getD i 0)
 p:w.cell? ⟨a,5,Á⟩=Â (Ä t.p)
structure yl(r:Nat)(p:PR)(w:Í):Prop where
 c:∀i,i<8->w.cell? ⟨r,i,Á⟩=Â (Å É<|p.c.getD i 0)
 b:∃bp n cp,w.cell? ⟨r,8,Á⟩=Â (Ç bp n cp)/\n=p.r.length/\∀(j:Nat) (t:PT),p.r[j]?=Â t->∃tb a,bp=Â ⟨tb,0,Á⟩/\w.cell? ⟨tb,j,Á⟩=Â (Ã<|Â ⟨a,0,Á⟩)/\IK a t w
structure RQ(rs:List PR)(v:Ñ)(U:Nat->Prop)(w:Í):Prop where
 C:kI nB U w
 I:fi (ln U nB) v v
 M:∃bp cp,v=Ç bp rs.length cp/\∀(j:Nat) (p:PR),rs[j]?=Â p->∃sb r,bp=Â ⟨sb,0,Á⟩/\w.cell? ⟨sb,j,Á⟩=Â (Ã<|Â ⟨r,0,Á⟩)/\yl r p w
section
variable{f:Nat->Prop}{rs:List PR}{Y:fq}
theorem arU(h:jg Y X u w){t:PT}(d:Y i n)(k:IK i t u):IK n t w:=by refine⟨?_,λb f=>(Af h).r d<|k.c b f,(Af h).C d k.p⟩;let⟨c,g,e,j,l,m,o,_⟩:=h.r i n d;let⟨r,s,q⟩:=k.r;grind
theorem arV(h:jg Y X u w){r:Nat}{p:PR}(e:Y r i)(k:yl r p u):yl i p w:=by refine⟨λd f=>(Af h).r e<|k.c d f,?_⟩;let⟨G,n,g,l,m,o⟩:=k.b;let⟨x,q,s⟩:=Af h r i 8 _ e l;obtain⟨v,rfl,y⟩:=MI s;refine⟨v,n,g,q,m,λj t z=> ?_⟩;let⟨tb,a,B,C,H⟩:=o j t z;let⟨I,J,D⟩:=y _ B;obtain⟨E,rfl,F⟩:=Ac D;let⟨K,L,M⟩:=Af h tb E j _ F C;grind [MH,Ac,arU]
theorem arW(h:jg Y X u w)(b:fi Y v x)(a:RQ rs v f u):RQ rs x (λj=>∃i,f i/\Y i j) w:=by refine⟨Ua h a.C,MJ b a.I,?_⟩;obtain⟨s,i,rfl,c⟩:=a.M;obtain⟨d,rfl,e⟩:=MI b;refine⟨d,i,U,λj p g=> ?_⟩;let⟨k,r,l,m,t⟩:=c j p g;let⟨y,z,n⟩:=e _ l;obtain⟨o,rfl,q⟩:=Ac n;let⟨B,C,D⟩:=Af h k o j _ q m;grind [MH,Ac,arV]
def CC(k:W.heap[b]?=w.heap[b]?)(h:w.cell? ⟨b,i,Á⟩=Â z):W.cell? ⟨b,i,Á⟩=Â z:=by simp only[à,k];exact h
def arX(l:kI nB X w)(k:∀b,X b->W.heap[b]?=w.heap[b]?){r:Nat}{p:PR}(d:X r)(h:yl r p w):yl r p W:=by
 refine⟨λi e=>CC (k r d)<|h.c i e,?_⟩;let⟨u,n,v,m,x,y⟩:=h.b;refine⟨u,n,v,CC (k r d) m,x,λj t z=> ?_⟩;let⟨tb,a,o,q,f⟩:=y j t z;have s:X tb:=by have:=l.r d m;rw[o]at this;exact Cs this
 have g:=Cr<|l.r s q;exact⟨tb,a,o,CC (k tb s) q,⟨by rw[k a g];exact f.r,λi e=>CC (k a g)<|f.c i e,CC (k a g) f.p⟩⟩
def RQ.r(h:RQ rs v f w)(k:∀b,f b->W.heap[b]?=w.heap[b]?):RQ rs v f W:=by
 refine⟨h.C.C k,h.I,?_⟩;obtain⟨g,i,rfl,l⟩:=h.M;refine⟨g,i,U,λj p m=> ?_⟩;let⟨a,r,c,d,n⟩:=l j p m;have e:f a:=by have:=h.I;rw[c]at this;exact Cs this
 exact⟨a,r,c,CC (k a e) d,arX h.C k (Cr<|h.C.r e d) n⟩
def abR{v:Ñ}(h:ng m i v):fi (ln (λd=>m<=d/\d<i) nB) v v:=by
 cases v with
 |int k n=>exact .iD k n
 |bool b=>exact .mC b
 |string i=>exact .kJ i
 |pointer a=>cases a with
  |none=>exact .lS
  |some a=>exact fi.jS (Y:=ln (λd=>m<=d/\d<i) nB) ⟨⟨U,h⟩,U,U⟩
 |slice a n c=>cases a with
  |none=>exact .om n c
  |some a=>exact fi.kK (Y:=ln (λd=>m<=d/\d<i) nB) ⟨⟨U,h⟩,U,U⟩ n c
 |_=>exact absurd h<|by simp[ng]
def arY{v:Ñ}(h:ng m i v):yu v=Ë:=by
 cases v with
 |int k n=>cases k<;>first|rfl|exact absurd h<|by simp[ng]
 |_=>rfl
def arZ(h:jC m w):kI nB (λi=>m<=i/\i<w.heap.size) w:=λb i=>by let⟨c,e,f,g,j,k,l,n,d⟩:=h b _ i.1<|å i.2;exact⟨c,e,f,by rw[å i.2,g],j,pL λv a=>abR<|d v a,k,Ae λv a=>arY<|d v a,l,n⟩
theorem LO{base:Nat}(h:w.ownsRow base e 1 v jJ.length (nP jJ)):∃b f,v=Ç b jJ.length f/\∀(j r:Nat),jJ[j]?=Â r->∃a,b=Â ⟨a,0,Á⟩/\base<=a/\w.cell? ⟨a,j,Á⟩=Â (Ã<|Â ⟨r,0,Á⟩):=by
 obtain⟨m,⟨n,o⟩|⟨g,p,q,rfl,i,k,s,t,u,l⟩⟩:=h
 .grind
 .refine⟨_,_,U,λj r c=>⟨g,U,i,?_⟩⟩;have x:=(Õ.1 c).1;have d:(nP jJ)[j]?=Â (Ã<|Â ⟨r,0,Á⟩):=by simp[nP,c]
  rw[<-l,List.getElem?_take_of_lt Z]at d;simp only[à,k,ö,ì,if_false];simpa using d
def abS(h:fg n (oF zQ++[z]) T w)(a:i<zQ.length):w.cell? ⟨n,i,Á⟩=Â (Å É<|zQ.getD i 0):=h.r i _<|Ul a z
def abT(h:fg i (oF zQ++[z]) T w)(a:zQ.length=n):w.cell? ⟨i,n,Á⟩=Â z:=h.r n _<|by rw[<-a];exact Cy zQ z
def ar0{r:PR}(h:wj i n r w):yl n r w:=by
 let⟨x,tb,e,l,y,b⟩:=h.I;refine⟨λa c=>abS e (by rwa[h.C]),?_⟩;obtain⟨m,o,rfl,p⟩:=LO l;refine⟨m,_,o,abT e h.C,b.r,λj t f=> ?_⟩;have g:j<tb.length:=by rw[b.r];exact(Õ.1 f).1
 let⟨s,u,z,v⟩:=p j tb[j]<|Ó g;let⟨_,_,k,d⟩:=b.I j tb[j] t (Ó g) f;exact⟨s,tb[j],u,v,⟨_,_,d⟩,λa c=>abS d (by rwa[k]),abT d k⟩
def ar1(h:CB m v rs w):RQ rs v (λi=>m<=i/\i<w.heap.size) w:=by
 let⟨f,i,b,c⟩:=h;obtain⟨d,k,rfl,l⟩:=LO b;refine⟨arZ f,?_,d,k,by rw[c.I],λj p e=> ?_⟩
 .cases d with
  |none=>exact .om _ _
  |some a=>
   have:=b.lt a.block (by rcases b.2 with⟨q,_⟩|⟨g,n,o,q,_⟩<;>(cases q;try rfl));exact abR this
 .have a:j<i.length:=by rw[c.I];exact(Õ.1 e).1
  let⟨g,q,o,n⟩:=l j i[j]<|Ó a;exact⟨g,i[j],q,n,ar0<|c.M j i[j] p (Ó a) e⟩
end
def abU(B:ByteArray)(z:Ñ)(u:Í):Prop:=∃v,z=ë #[v,Å É (gK B).1,Å É (gK B).2.1]/\((gK B).1=0->∃a,RQ (gK B).2.2 v a u)
def ar2(B:ByteArray):wV (abU B):=λv u T D h=>by let⟨x,a,b⟩:=h;refine⟨x,a,λe=> ?_⟩;let⟨U,c⟩:=b e;exact⟨U,c.r λ_ _=>rfl⟩
def abV{l:e9}(f:gw l)(s:¬l.q)(t:nB<=l.w.heap.size)(u:B.size<=ī)(m:Bool)(h:Ē)(k:List Ē): ft.fh À m (λa n=>jy l a/\a.d=l.d/\∃v,n=G (h.finish<|ë #[v,Å É (gK B).1,Å É (gK B).2.1]) k/\((gK B).1=0->∃V,RQ (gK B).2.2 v V a.w/\∀b,V b->a.O b/\l.w.heap.size<=b)) l (G (è À 36 #[Ä B] Ą)<|h::k):=by
 let⟨X,c,C,V⟩:=zE 36 fN;have D:∀T,Ò À 36 #[Ä B] (World.tp (ll (λj=>False/\¬(mg l).O j) l.w) T 0) fun|Æ v,j=>abU B v j/\ko j|_,_=>False:=λT=>by refine(arT u).mono ?_;rintro e p ⟨g,v,rfl,i,o⟩;exact⟨⟨v,U,λe=>⟨_,ar1<|i e⟩⟩,g.gT E7⟩
 refine((Et yw LH zE (ar2 B) fN C V (Eu f) s (λb q=>q.elim) ⟨λb q=>q.elim,t⟩ (λg q=>by cases q) (pL λv g=>by simp at g;subst g;exact .kJ B) D m h k).mg f).fO ?_;rintro a n ⟨x',⟨Y,j,v,v',_,E,F,⟨v0,rfl,o⟩,H,I,_,J⟩,rfl,K,L,_,_⟩;cases F with
 |@nQ _ cs'' hs mG=>
  let⟨M⟩:=cs'';match M,hs with
  |[x,y,z],_=>
   have g:=mG 0 fj fj;have p:=mG 1 fj fj;have r:=mG 2 fj fj;simp at g p r;cases p;cases r;refine⟨K,J,x,H,λe=> ?_⟩;let⟨U,N⟩:=o e;refine⟨_,arW E g (N.r λ_ _=>rfl),λb V=> ?_⟩;let⟨i,_,P⟩:=V;let⟨Q,S⟩:=I i b P;have W:l.w.heap.size<=b:=S.elim (λq=>q.elim) λq=>q.elim (λq=>q.elim) id;refine⟨È (Q.resolve_right λq=> ?_),W⟩;rw[L]at q;have:=f.fw b q;omega
end Go.Proofs.Y.kH
namespace Go.Proofs.Y.gy
open Go Go.Proofs Go.RowKit Go.Proofs.Y.Lift
def CF:List Ñ:=iw (kj 8)++[Ç Á 0 0,Å É 0,Ç Á 0 0]
def ar3(w:Í):Ò À 44 #[] w λe a=>∃c B,e=Æ (Ç (Â ⟨c,0,Á⟩) 1 1)/\fg B CF 147 a/\fg c [Ã<|Â ⟨B,0,Á⟩] 136 a/\e8 ff w a:=by
 have d:(iw<|kj 8).length=144:=rW _;have i:(iw (kj 8)++[Ç Á 0 0]).length=145:=by rw[Ù,d];rfl
 have f:=fc<|Ê d i;unfold CF;have j:=fc λW=>aod W;generalize kj 8=s at*;go_enter Tryz.func44,Tryz.ntmps44;go_wp2_with (first
  |(go_at_call 60;refine(j.out _).mono ?_;rintro e W ⟨rfl,b⟩;have k:=fc b;clear b)
  |(with_reducible refine Ď U (Â 2) U _ _ (Tq U U f.out.1) ?_)
  |(with_reducible refine Ď U (Â 3) U _ _ (aou U U f.out.2) ?_)
  |(with_reducible refine Ď U (Â 4) U _ _ (X_ U U) ?_))
 have g:=fg.N (W.alloc<|Û (iw s++[Ç Á 0 0,Å É 0,Ç Á 0 0]).toArray 147) [Ã<|Â ⟨W.heap.size,0,Á⟩] 136;have h:=e8.gH ff (W.alloc<|Û (iw s++[Ç Á 0 0,Å É 0,Ç Á 0 0]).toArray 147) #[Ã<|Â ⟨W.heap.size,0,Á⟩] 136;have l:(W.alloc<|Û (iw s++[Ç Á 0 0,Å É 0,Ç Á 0 0]).toArray 147).heap.size=W.heap.size+1:=fj
 rw[l]at g;have b:=fc<|Ê ((fg.N W (iw s++[Ç Á 0 0,Å É 0,Ç Á 0 0]) 147).I h id)<|Ê g<|(k.out.fe<|e8.gH ff W (iw s++[Ç Á 0 0,Å É 0,Ç Á 0 0]).toArray 147).fe h;go_ret;exact⟨W.heap.size+1,W.heap.size,U,b.out.1,b.out.2.1,b.out.2.2⟩
def ar4(n:Int)(j:1<=n)(k:n<=8)(w:Í):Ò À 35 #[Å É n] w λe b=>∃g a B,e=Æ (ë #[Ã<|Â ⟨g,0,Á⟩,Å É 0])/\fg g [Å É n,Ç (Â ⟨a,0,Á⟩) 1 1] 68 b/\fg B CF 147 b/\fg a [Ã<|Â ⟨B,0,Á⟩] 136 b/\e8 ff w b:=by go_enter ζ,Tryz.ntmps35;go_wp2_with (go_at_call 44;refine(ar3 _).mono ?_;rintro e c ⟨a,B,rfl,f,h,i⟩;have d:=fc<|Ê f<|Ê h i;clear f h i);go_ret2;have f:=e8.gH ff c #[Å É n,Ç (Â ⟨a,0,Á⟩) 1 1] 68;exact⟨c.heap.size,a,B,U,fg.N c [Å É n,Ç (Â ⟨a,0,Á⟩) 1 1] 68,d.out.1.I f id,d.out.2.1.I f id,d.out.2.2.fe f⟩
end Go.Proofs.Y.gy
namespace Go.Proofs.Y.kH
open Go Go.Conc Go.Proofs Go.RowKit Go.Proofs.Y.Lift Go.Proofs.Y.gy Go.Proofs.Y.ft Go.Proofs.Y.mZ
section
variable{Y:fq}{a:Nat->Prop}
def abW:∀v∈CF,(∃k n,v=Å k n/\k≠ū)\/(∃p,v=Ä p)\/v=Ç Á 0 0:=λv k=>by
 unfold CF at k;rcases â.1 k with q|q
 .rcases T9 _ v q with⟨n,rfl⟩|⟨p,rfl⟩
  .exact È ⟨_,_,U,A⟩
  .exact Ï<|È ⟨p,U⟩
 .simp at q;rcases q with rfl|rfl|rfl
  .exact Ï<|Ï U
  .exact È ⟨_,_,U,A⟩
  .exact Ï<|Ï U
def abX:lE [gy.jv]:=⟨A,A,λv b=>by simp at b;subst b;exact⟨⟨(λp a=>by cases a),(λp a=>by cases a),Ø _,Ø _⟩,aax,Ť _,show(0:Int)<1 by decide⟩⟩
def ar5(d:gy.fg n CF 147 w)(f:gy.fg i [Ã<|Â ⟨n,0,Á⟩] 136 w):RD [gy.jv] (Ç (Â ⟨i,0,Á⟩) 1 1) (λk=>k=i\/k=n) w:=by
 refine⟨[(n,gy.jv)],U,abX,⟨_,1,1,U,æ _,⟨U,λj b v e=> ?_⟩⟩,?_,fi.kK (Y:=ln (λk=>k=i\/k=n) nB) ⟨⟨U,È U⟩,U,U⟩ 1 1⟩
 .cases j with
  |zero=>
   cases e;exact⟨_,0,U,f.r 0 _ U,(aov aax<|by rwa[ő])⟩
  |succ j=>simp at e
 .rintro b (rfl|rfl)
  .refine⟨_,_,_,f,fj,pL λv c=> ?_,fj,Ae λv c=> ?_,A,A⟩
   .simp at c;subst c;exact fi.jS (Y:=ln (λk=>k=b\/k=n) nB) ⟨⟨U,Ï U⟩,U,U⟩
   .simp at c;subst c;rfl
  .refine⟨_,_,_,d,fj,pL λv c=> ?_,by simp[CF],Ae λv c=> ?_,A,A⟩
   .rcases abW v (by simpa using c)with⟨k,a,rfl,_⟩|⟨p,rfl⟩|rfl
    .exact .iD k a
    .exact .kJ p
    .exact .om 0 0
   .rcases abW v (by simpa using c)with⟨k,a,rfl,g⟩|⟨p,rfl⟩|rfl
    .cases k<;>first|rfl|exact absurd U g
    .rfl
    .rfl
def Fo(b:Nat)(n:Int)(c:Ñ)(w:Í):Prop:=∃a,w.heap[b]?=Â (Û #[Å É n,c] 68 a)/\a=(0,0)
def Fo.r(h:Fo i c v w)(k:W.heap[i]?=w.heap[i]?):Fo i c v W:=by let⟨a,b,d⟩:=h;exact⟨a,k.trans b,d⟩
def ar6(h:jg Y a u w)(g:∀b,¬a b)(q:Y i j)(k:gy.fg i [Å É c,v] 68 u):∃l,fi Y v l/\Fo j c l w:=by
 let⟨d,r,e,D,s,m,t,z,_,B,_⟩:=h.r i j q;unfold gy.fg at k;rw[k]at m;cases m;have f:=z.N<|g j;let⟨C⟩:=r;match C,f.r with
 |[x,y],_=>
  have o:=f.C 0 fj fj;have p:=f.C 1 fj fj;simp at o p;cases o;exact⟨y,p,s,t,(B<|g j).symm⟩
end
def abY(n:Int)(z:Ñ)(u:Í):Prop:=∃a b B,z=ë #[Ã<|Â ⟨a,0,Á⟩,Å É 0]/\gy.fg a [Å É n,Ç (Â ⟨b,0,Á⟩) 1 1] 68 u/\RD [gy.jv] (Ç (Â ⟨b,0,Á⟩) 1 1) (λi=>i=b\/i=B) u/\a≠b/\a≠B
def ar7(n:Int):wV (abY n):=λv u T D h=>by let⟨b,c,B,d,e,a⟩:=h;exact⟨b,c,B,d,e,a.1.r λ_ _=>rfl,a.2⟩
def ar8{l:e9}(p:gw l)(K:¬l.q)(L:nB<=l.w.heap.size){n:Int}(M:1<=n)(N:n<=8)(C:Bool)(r:Ē)(s:List Ē): ft.fh À C (λf D=>jy l f/\f.d=l.d/\∃a e,D=G (r.finish<|ë #[Ã<|Â ⟨a,0,Á⟩,Å É 0]) s/\Fo a n e f.w/\f.O a/\l.w.heap.size<=a/\∃V,RD [gy.jv] e V f.w/\¬V a/\∀b,V b->f.O b/\l.w.heap.size<=b) l (G (è À 35 #[Å É n] Ą)<|r::s):=by
 let⟨fn,c,P,t⟩:=zE 35 fN;have Q:∀T,Ò À 35 #[Å É n] (World.tp (ll (λj=>False/\¬(mg l).O j) l.w) T 0) fun|Æ v,h=>abY n v h/\ko h|_,_=>False:=λT=>by refine(ar4 n M N _).mono ?_;rintro e z ⟨a,k,B,rfl,V,m,o,g⟩;exact⟨⟨a,k,B,U,V,ar5 m o,gy.fg.S V o A,gy.fg.S V m A⟩,g.gT E7⟩
 refine((Et yw LH zE (ar7 n) fN P t (Eu p) K (λb q=>q.elim) ⟨λb q=>q.elim,L⟩ (λg q=>by cases q) (pL λv e=>by simp at e;subst e;exact .iD _ _) Q C r s).mg p).fO ?_;rintro f D ⟨u,⟨Y,h,v,v',_,g,S,⟨a,k,B,rfl,V,m,o,W⟩,X,q7,_,q6⟩,rfl,ha,hR,_,_⟩;have E:∀i j,Y i j->(qL l u).O j/\l.w.heap.size<=j:=λi j e=>by let⟨z,F⟩:=q7 i j e;have H:l.w.heap.size<=j:=F.elim (λq=>q.elim) λq=>q.elim (λq=>q.elim) id;refine⟨È (z.resolve_right λq=> ?_),H⟩;rw[hR]at q;have:=p.fw j q;omega
 cases S with
 |@nQ _ cs'' hs mG=>
  let⟨ls⟩:=cs'';match ls,hs with
  |[x,y],_=>
   have F:=mG 0 fj fj;have H:=mG 1 fj fj;simp at F H;cases H;obtain⟨a2,rfl,m3⟩:=MH F;obtain⟨I,rfl,z⟩:=Ac m3;have h2':RD [gy.jv] (Ç (Â ⟨k,0,Á⟩) 1 1) (λi=>i=k\/i=B) {h with tape:=u.w.tape,drawn:=u.w.drawn}:=m.r λ_ _=>rfl;let⟨s9,J,e2⟩:=ar6 g (λj q=>q.1) z V;let⟨vs,k1,k2,k3,k4,k5⟩:=h2';let⟨vs',n1,n2⟩:=Iw (Af g) J k3;let⟨p1,p2⟩:=E a I z;refine⟨ha,q6,I,s9,X,e2,p1,p2,_,⟨vs',n1.trans k1,k2,n2,Ua g k4,MJ J k5⟩,?_,λb t=> ?_⟩
   .rintro⟨i,hi,e⟩;have:=g.C.2.1 _ _ _ z e;subst this;exact hi.elim o W
   .let⟨i,_,e⟩:=t;exact E i b e
end Go.Proofs.Y.kH
namespace Go.Proofs.Y.kH
open Go Go.Conc Go.Proofs Go.RowKit Go.Proofs.Y.Lift Go.Proofs.Y.gy Go.Proofs.Y.ft Go.Proofs.Y.mZ
structure uY(an:Nat)(xs:List ByteArray)(w:Í):Prop where
 r:∀(p:Nat) (x:ByteArray),xs[p]?=Â x->w.cell? ⟨an,p,Á⟩=Â (Ä x)
 C:w.cell? ⟨an,xs.length,Á⟩=Á
section
variable{an:Nat}{xs:List ByteArray}
theorem uY.rv(h:uY an xs w)(j:0<xs.length):∃c e d,w.heap[an]?=Â (Û c e d)/\c.size=xs.length/\∀v∈c.toList,∃x,v=Ä x:=by
 have i:∀p,p<xs.length->w.cell? ⟨an,p,Á⟩=Â (Ä xs[p]!):=λp a=>h.r p _ (by simp[a]);have b:=i 0 j;have f:=h.C;simp only[à]at b f;cases g:w.heap[an]? with
 |none=>rw[g]at b;cases b
 |some o=>
  cases o<;>rw[g]at b f<;>simp only[ö,ì,if_false]at b f<;>first|cases b|skip
  rename_i c e d;have k:c.size<=xs.length:=by grind
  have l:=λp a=>by have:=i p a;simp only[à,g,ö,ì,if_false]at this;exact this
  have m:xs.length<=c.size:=by grind
  refine⟨c,e,d,U,Nat.le_antisymm k m,λv n=> ?_⟩;let⟨p,a⟩:=ĕ n;have q:p<c.size:=by have:=(Õ.1 a).1;simpa using this
  have:=l p Z;rw[ķ]at a;rw[this]at a;cases a;exact⟨_,U⟩
end
def ar9{l:e9}(o:gw l)(F:¬l.q)(H:nB<=l.w.heap.size)(h:uY i vX l.w)(I:0<vX.length)(J:l.M i)(p:lA i=Ë)(f:kV l.w i=Â (0,0))(hn:vX.length<=1000)(K:B.size=1)(L:iL vX+vX.length<=140737488355328)(r:Bool)(k:Ē)(m:List Ē): ft.fh À r (λn s=>jy l n/\n.d=l.d/\s=G (k.finish<|Ä<|jb B vX) m) l (G (è À 38 #[Ç (Â ⟨i,0,Á⟩) vX.length vX.length,Ä B] Ą)<|k::m):=by
 let⟨fn,c,N,P⟩:=zE 38 fN;let⟨t,e,Q,y,b2,z⟩:=h.rv I;have C:(λj=>j=i/\¬(mg l).O j)=λj=>j=i:=by funext j;exact propext ⟨λq=>q.1,λq=>⟨q,id⟩⟩
 have S:∀T,Ò À 38 #[Ç (Â ⟨i,0,Á⟩) vX.length vX.length,Ä B] (World.tp (ll (λj=>j=i) l.w) T 0) fun|Æ v,E=>v=Ä (jb B vX)/\ko E|_,_=>False:=λT=>by
  refine(T3 U Z (æ _) K (λj v a=> ?_) L).mono ?_
  .unfold jo at a;rw[Ī]at a;obtain⟨x,b,rfl⟩:=ò.1 a;exact⟨i,0,U,by rw[œ];exact pN (È p)<|h.r j x b⟩
  .rintro e g ⟨rfl,b⟩;exact⟨U,b.gT E7⟩
 have V:∀v∈t.toList,fi (qf (λj=>j=i) À.globals.size) v v:=λv a=>by obtain⟨x,rfl⟩:=z v a;exact .kJ x
 have X:fS (qf (λj=>j=i) À.globals.size) #[Ç (Â ⟨i,0,Á⟩) vX.length vX.length,Ä B] #[Ç (Â ⟨i,0,Á⟩) vX.length vX.length,Ä B]:=pL λv a=>by
  have b:v=Ç (Â ⟨i,0,Á⟩) vX.length vX.length\/v=Ä B:=by simpa using a
  rcases b with rfl|rfl
  .exact fi.kK (Y:=qf (λj=>j=i) À.globals.size) ⟨⟨U,U⟩,U,U⟩ _ _
  .exact .kJ B
 have W:=Et yw LH zE (λv u T D h=>h) fN N P (Eu o) F (λb q=>Ï<|by rwa[q]) (by rw[C];refine⟨λb q=> ?_,H⟩;subst q;exact⟨t,e,Q,y,(by unfold kV at f;rw[y]at f;cases f;exact Ø _),pL V,λ_=>⟨Z,(λq=>by rw[p]at q;cases q),λ_=>Ae λv a=>by obtain⟨x,rfl⟩:=z v a;rfl⟩⟩) (λg q=>by cases q) X (by rwa[C]) r k m;refine(W.mg o).fO ?_;rintro n s ⟨D,⟨Y,E,v,v',_,_,b,rfl,g,_,_,u⟩,rfl,x,_,_,_⟩;cases b;exact⟨x,u,g⟩
end Go.Proofs.Y.kH
namespace Go.Proofs.Y.ft
open Go Go.Conc Go.Proofs.Y.Lift
open Go.ConcN (sumTo sumTo_congr)
def UB(P:ω)(a:Ñ->Í->Prop):Jd:=λl g=>g.status=.running/\∃v,(∀w,stepG P Î g w=.ended (.done v) w)/\a v l.w
section
variable{Y:Nat->Prop}{e:Nat->e9}
def kF.ng{J:Jd}{T:gu}(c:kF P Y zX i J T D e E w qJ){sl:Option (Nat×Nat)}(k:vQ v u):Ξ P vQ (Į E w sl) (.done v) u qJ:=by
 have C:=c.r.r;have f:∀a g,E[a]?=Â g->a≠0->QuitsD P (D a) (Deaf qJ a) g:=λa g b d=>by
  let⟨g0,j,h,_,_⟩:=c.r.C a g b;obtain rfl:g=g0:=by cases h;rfl
  simp only[d,if_false]at j;rw[C.f a<|(á.1 b).1];exact j _<|fE.fV _ _
 refine⟨v,U,k,C.l,c.N,⟨λg l=> ?_,U⟩,λa g b d=>⟨D a,(f a g b d).hears _⟩⟩;let⟨j,h⟩:=ĕ l;rw[List.getElem?_drop]at h;exact⟨_,(f (1+j) g (by rwa[<-ķ]) Z).leaves⟩
theorem asa{J:Jd}{T:gu}{l:e9}(u:l.w=W)(v:l.d=0)(m:¬l.q)(n:∀b,¬l.I b)(r:∀a,¬l.r a)(o:∀a,¬l.N a)(y:∀a,¬l.K a)(z:∀b,l.O b->b<W.heap.size)(B:g.status=.running)(C:lh P Î J T l g):rR P (λ_=>False) 0 J T (λ_=>0) (λ_=>l) #[g] W #[]:=by
 have f:∀(p:Nat) a,touchAt #[] p=Â a->False:=λp a h=>by unfold touchAt Trace.act? at h;simp at h
 refine⟨fj,⟨⟨λi j s D E=> ?_,λi j s D E=> ?_,λi _ b _=>n b,λi _ a _=>o a,λ_ _ _ _=>id,λi _ a e=>e.elim (λq=>absurd q<|r a) λq=>absurd q<|o a,λi _ b F=>F.elim (z b) λq=>absurd q<|n b,λ_ h=>h.elim,λi _=>by rw[u];exact fE.fV _ _,λi _=>⟨λa e p x k=>(f p x k).elim,λa e=>(n _ e).elim,λa e=>(r a e).elim,λa e=>(o a e).elim⟩,λi _=>by rw[v];rfl,λH q=> ?_,λI G=>by simp at G,λp a c h=>(f p a h).elim,λi _ a e=>absurd e<|y a⟩,λi x k=> ?_,λj _=>rfl⟩,λi L s=> ?_,m,λp a h=>(f p a h).elim,λp a x h=>(f p a h).elim,λa _ q m=> ?_,?_⟩
 .grind
 .grind
 .let⟨i,j,_,⟨a,b,e,_⟩,_⟩:=q;simp[Trace.act?]at e
 .have t:i<1:=(á.1 k).1;obtain rfl:i=0:=Z
  obtain rfl:g=x:=by simpa using k
  exact⟨g,C,.gk,È B,È U⟩
 .grind
 .simp[Trace.act?]at m
 .intro i g t;simp[Trace.g?]at t
end
end Go.Proofs.Y.ft
namespace Go.Proofs.Y.kH
open Go Go.Conc Go.Proofs Go.RowKit Go.Proofs.Y.Lift Go.Proofs.Y.gy Go.Proofs.Y.ft Go.Proofs.Y.mZ
open Go.ConcN (sumTo)
def Aj(f:Ñ->Í->Prop)(c:Array Ċ)(w:Í)(d:Option (Nat×Nat))(t:Ž):Prop:=
 ∃N a v b e,ſ À (N+1) (Į c w d) t=(.ended (.done v) b,e)/\runN À N (Į c w d)=.next a/\step À a=.ended (.done v) b/\Ξ À f a (.done v) b e
section
variable{f:Array Ċ}{w':Í}{sl e:Option (Nat×Nat)}{t:Ž}{l:e9}
def Aj.fO{a:Ñ->Í->Prop}(h:Aj vQ E w sl t)(b:∀v u,vQ v u->a v u):Aj a E w sl t:=by let⟨M,c,v,x,d,e,f,g,i⟩:=h;exact⟨M,c,v,x,d,e,f,g,i.mono λv q=>b v x q⟩
def Aj.qL{N:Nat}(r:ſ À N (Į E w sl) t=(.next<|Į f w' e,qJ))(h:Aj vQ f w' e qJ):Aj vQ E w sl t:=by
 let⟨M,a,v,x,b,c,d,g,i⟩:=h;refine⟨N+M,a,v,x,b,?_,?_,g,i⟩
 .rwa[Nat.add_assoc,runNT_add,r]
 .rw[<-Ţ À (N+M) (Į E w sl) t,runNT_add,r];rwa[Ţ]
def sx(vQ:Ñ->Í->Prop)(E:Array Ċ)(w:Í)(sl:Option (Nat×Nat))(t:Ž):Prop:=Aj (λv u=>vQ v u/\u.os=w.os/\u.output=w.output) E w sl t
def sx.r{N:Nat}(r:ſ À N (Į E w sl) t=(.next<|Į f w' e,qJ))(a:w'.os=w.os/\w'.output=w.output)(h:sx vQ f w' e qJ):sx vQ E w sl t:= Aj.qL r<|h.fO λ_ _ q=>⟨q.1,q.2.1.trans a.1,q.2.2.trans a.2⟩
def kF.asb{Y:Nat->Prop}:∀(s:Nat) (h:Nat->Nat) (j:Nat->e9) (E:Array Ċ) (w:Í) (sl:Option (Nat×Nat)) (t:Ž),sumTo E.size h=s->kF À Y zX n (UB À vQ) .fA h j E w t->sx vQ E w sl t:=by
 intro s
 induction s using Nat.strongRecOn with
 |_ s r=>
  intro h j E w sl t I c;have J:=c.C;obtain⟨g0,a⟩:∃g,E[0]?=Â g:=⟨_,å Z⟩;have o:∀d,UB À vQ {j 0 with w:=w.at d} g0:=λd=>by
   let⟨u,b,k,_,_⟩:=(c.I d).r.C 0 g0 a;obtain rfl:g0=u:=by cases k;rfl
   exact b (w.at d)<|(c.I d).r.r.r 0 Z
  obtain⟨i,g,d,e,l,x,m⟩:=crowd_pick c.Ku ⟨0,g0,a,(o 0).1⟩;by_cases p:i=0
  .subst p;rw[a]at l;obtain rfl:=ag l;let⟨_,v,q,y⟩:=o d;have u:stepT À (Į E w sl)=(.ended (.done v)<|w.at d,#[]):=by
    rw[m,ConcN.runT_crowd_ended a<|q<|w.at d];rfl
   refine⟨0,Į E w sl,v,w.at d,t,?_,U,?_,c.ng ⟨y,U,U⟩⟩
   .simp[ſ,u]
   .have:=stepT_fst À (Į E w sl) Î;rw[<-this];rw[u]
  .let⟨q,y,f,u,b,k,K,L,z⟩:=(c.I d).ZV (sl:=e) l p x;let⟨N,B,v,w',qJ,C,D,F,G⟩:=r (sumTo f.size q) (by rw[k];omega) q y f (w.at d) e (t++u) U z;refine⟨N+1,B,v,w',qJ,by simp only[ſ,m,b];exact C,?_,F,G⟩;have:=Ţ À (N+1) (Į E w sl) t;rw[<-this];simp only[ſ,m,b];rwa[Ţ]
structure gL(l:e9):Prop where
 r:gw l
 d:l.d=0
 q:¬l.q
 rd:∀b,¬l.I b
 I:∀a,¬l.r a
 M:∀a,¬l.N a
 k:∀a,¬l.K a
def gL.C(h:gL l){w₁:Í}(r:fE l l.w w₁):gL {l with w:=w₁}:= ⟨⟨h.r.c,h.r.Y,h.r.N,λb q=>Ġ (h.r.fw b q) r.r,λa q=>q.elim (λz=>(h.I a z).elim) λz=>(h.M a z).elim,λa q=>(h.k a q).elim⟩,h.d,h.q,h.rd,h.I,h.M,h.k⟩
def iM(vQ:Ñ->Í->Prop)(l:e9)(g:Ċ):Prop:=
 gL l->g.status=.running->∀(a:Loc->Prop) (H:Nat) (J:Jd) (c:Nat->Nat) (b:Nat->e9) (E:Array Ċ) (sl:Option (Nat×Nat)) (t:Ž),vS a H l->ft.rR À a H J .fA c b E l.w t->(b 0).d=0->E[0]?=Â g->sx vQ E l.w sl t
def asc{a:e9}(h:vS zX i l)(k:qS l a l.w a.w):vS zX i a:= ⟨h.r,λb c x d q=>by
  rcases k.N b c with z|z
  .exact h.fl b z x d q
  .have:=h.r x q;have:=h.C;omega,Ì h.C k.r⟩
def UC{J f:Jd}{e:Nat->e9}(a:gL l)(h:g.status=.running)(j:vS zX i l)(c:ft.rR À zX i J .fA D e E l.w t)(m:(e 0).d=0)(n:E[0]?=Â g)(W:ft.fh À Î f l g):∃T,ft.rR À zX i f T D (ft.vn e l) E l.w t:=by let⟨T,o⟩:=jk W;exact⟨T,kF.Y c m n h U a.d a.q a.rd a.I a.M a.k (λb q=>⟨a.r.fw b<|È q,j.fl b q⟩) o⟩
def abZ{Y:Nat->Prop}{J:Jd}{a:Nat->e9}(c:kF À Y zX i J .fA D a E w t):∃g,E[0]?=Â g/\J {a 0 with w:=w} g:=by
 obtain⟨g0,b⟩:∃g,E[0]?=Â g:=⟨_,å c.C⟩;let⟨d,e,f,_,_⟩:=c.r.C 0 g0 b;obtain rfl:g0=d:=by cases f;rfl
 exact⟨g0,b,e w<|c.r.r.r 0 c.C⟩
def IL(vQ:Ñ->Í->Prop):Jd:=λl g=>gL l/\g.status=.running/\iM vQ l g
def ase{b:Nat->e9}{T:gu}(m:(b 0).w=w)(n:vS zX i (b 0))(c:ft.rR À zX i (IL vQ) T D b E w t):sx vQ E w sl t:=by let⟨N,o,p,f,w',e,qJ,r,_,a,j⟩:=kF.G (λl g h=>È h.2.1) T _ D b E w sl t U c;let⟨v,q,h,s,u⟩:=abZ j;refine sx.r r ⟨a.C,a.I⟩<|u h s zX i (IL vQ) o p f e qJ ?_ j h.d q;apply asc n;rw[m];exact⟨a.r,a.N,a.rd,a.S,a.b,a.k,a.jU,a.M,a.Y,a.C,a.I,a.c⟩
def mA(W:ft.fh À Î (IL vQ) l g):iM vQ l g:=by intro b d i H J j k E sl t a c e f;let⟨T,h⟩:=UC b d a c e f W;exact ase (by rw[ft.Ss]) (by rwa[ft.Ss]) h
def ab0(W:ft.fh À Î (UB À vQ) l g):iM vQ l g:=by intro b d s H J i u E sl t j c k m;let⟨T,n⟩:=UC b d j c k m W;let⟨N,o,p,f,w',e,qJ,r,_,a,q⟩:=kF.G (λl g h=>È h.1) T _ i _ E l.w sl t U n;exact sx.r r ⟨a.C,a.I⟩<|kF.asb _ o p f w' e qJ U q
def Ag.N{e:vZ}{R:Nat}{kd:Nat->Int}{f:List fI}{c:e9}(h:Ag X e R kd f l i v c)(r:fE c c.w u):Ag X e R kd f l i v {c with w:=u}:=by have a:=λb q=>r.I b<|È q;let⟨V,j,g⟩:=h.S;exact⟨λb q=>⟨(h.M b q).1,(a b (h.M b q).1).trans (h.M b q).2⟩,⟨h.r.1,λp k=>(gM<|a i h.r.1).trans<|h.r.2 p k⟩,⟨V,j.r λb q=>a b (g b q).1,g⟩,h.d,h.q,h.rd,h.C,(gM<|a i h.r.1).trans h.I.1,(wY<|a i h.r.1).trans h.I.2⟩
def asf{kd:Nat->Int}{bt:vZ}{V0 h:Nat->Prop}{s0:List fI}{B:Option ü}{I:Option ü}{R:Nat}{C:Ē}{z:Array ĝ} (Hp:0<R->I=Â ⟨j7,0,Á⟩) (vM:0<R->l.M j7) (Hq:∀i,i<R->l.w.cell? ⟨j7,i,Á⟩=Â (Ã<|Â ⟨D i,0,Á⟩)) (Hr:∀i,i<R->l.w.cell? ⟨D i,4,Á⟩=Â (Å É<|kd i)) (K:IB l bt kd D R X) (hZ:(∀b,X b->h b)/\∀b,b=1\/b=2\/b=3\/b=4->h b) (hZO:∀b,h b->l.O b) (hVZ:∀b,V0 b->h b) (B1:RD s0 (Ç B j j9) V0 l.w) (hn:1<=n) (hs:n+R<1000) (hJ:∀o v p m c,gL o->Ag h bt R kd s0 l v (Ç p m c) o->iM vQ o (G (C.at (y.put ((z[i]?).bind (·.dst))<|ë #[Ç (Â ⟨v,0,Á⟩) R R,Ç p m c])<|Ð z jJ::L) qX)): iM vQ l (Ek (Ç B j j9) (Ç I R j6) n<|C.at y (Ð z (i::jJ)::L)::qX):=by
 intro s hr jl H J lv lot E sl t MN c hd P;have W:ft.fh À Î (Lt kd D R n (Ç B j j9) l<|C.at y (Ð z (i::jJ)::L)::qX) l (Ek (Ç B j j9) (Ç I R j6) n<|C.at y (Ð z (i::jJ)::L)::qX):= ajP s.r s.q s.d Z Hp vM Hq (λi P=>È<|K.fl _<|K.r i P) Hr λg S o u x F v T V Y bw bf v1 h1 h2=>⟨g,S,u,x,F,v,T,V,Y,bw,bf,v1,h1,h2,U⟩;let⟨T,c'⟩:=UC s hr MN c hd P W;let⟨N,jA,HJ,f,w',e,qJ,r,_,x,c''⟩:=kF.G (λlx gx S=>by obtain⟨_,_,_,_,_,_,_,_,_,_,_,_,_,_,rfl⟩:=S;exact È U) T _ lv _ E l.w sl t U c';apply sx.r r ⟨x.C,x.I⟩;let⟨N2,asg,V,T2,Lu,SA,gs2,w2,Lv,t2,r2,io2,c2⟩:=aqr (J:=λu V o F=>vS u V o/\IL vQ o F) U c'' e s.r s.rd s.q s.d MN K hZ hZO hVZ B1 ⟨x.C,x.I⟩ hn hs λEr H' o v p m c Y z2 u=> .fA λw₁ F=>by have lk:gL o:=⟨z2,u.d,u.q,u.rd,u.C.1,u.C.2.1,u.C.2.2⟩;exact⟨⟨Y.r,Y.fl,Ì Y.C F.r⟩,lk.C F,U,hJ _ v p m c (lk.C F)<|u.N F⟩
 apply sx.r r2 ⟨io2.1.trans x.C.symm,io2.2.trans x.I.symm⟩;let⟨N3,Tf,ash,gs3,w3,sl3,t3,r3,_,wn3,c3⟩:=kF.G (λlx gx S=>È S.2.2.1) T2 _ Lu SA gs2 w2 Lv t2 U c2;apply sx.r r3 ⟨wn3.C,wn3.I⟩;let⟨g3,UD,pW,S,hr3,hs3⟩:=abZ c3;exact hs3 S hr3 asg V _ Tf ash gs3 sl3 t3 pW c3 S.d UD
end
end Go.Proofs.Y.kH
namespace Go.Proofs.Y.kH
open Go Go.Conc Go.Proofs Go.RowKit Go.Proofs.Y.Lift Go.Proofs.Y.gy Go.Proofs.Y.ft Go.Proofs.Y.mZ
open Go.Conc.Lib Go.ConcR.Gen Go.Proofs.YtgpphkdoanciiaaGreatDoor
def toTx(t:PT):Tx:=⟨(t.c.getD 0 0).toNat,(t.c.getD 1 0).toNat,t.c.getD 2 0,t.c.getD 3 0,t.c.getD 4 0,t.p⟩
def toQn(r:PR):Qn:=⟨(r.c.getD 0 0).toNat,(r.c.getD 1 0).toNat,(r.c.getD 2 0).toNat,(r.c.getD 3 0).toNat,r.c.getD 4 0,r.c.getD 5 0,r.c.getD 6 0,(r.c.getD 7 0).toNat⟩
def o5:PR:=⟨[],[]⟩
def wq(a:List PR):vZ where
 r:=λp=>((a.getD p o5).c.getD 5 0,((a.getD p o5).c.getD 0 0).toNat,(a.getD p o5).r.map toTx)
 C:=λp=>toQn<|a.getD p o5
def kT(a:List PR)(p:Nat):Int:=(a.getD p o5).c.getD 4 0
section
variable{p:PR}{t:PT}{a:Nat}{rs:List PR}{l:e9}
theorem toTx_ok(h:oa t):(toTx t).Ok:=by have d:=h.c.r 0 A;have e:=h.c.r 1 A;have a:=h.c.r 2 A;have b:=h.c.r 3 A;simp only[lP]at d e a b;exact⟨by show(t.c.getD 0 0).toNat<8;omega,by show(t.c.getD 1 0).toNat<8;omega,a.1,a.2,b.1,b.2,h.p⟩
theorem Ak(a:0<=c)(h:w.cell? ⟨b,i,Á⟩=Â (Å É c)):w.cell? ⟨b,i,Á⟩=Â (Å É (c.toNat:Nat)):=by grind
theorem asi(h:oa t)(k:IK a t w):lZ a (toTx t) w:=by have b:=h.c.r 0 A;have d:=h.c.r 1 A;simp only[lP]at b d;exact⟨k.r,Ak b.1<|k.c 0 A,Ak d.1<|k.c 1 A,k.c 2 A,k.c 3 A,k.c 4 A,k.p⟩
theorem asj(h:uU p)(k:yl i p w):Ct i (p.c.getD 5 0) (p.c.getD 0 0).toNat (p.r.map toTx) w:=by
 have e:=h.c.r 0 A;simp only[lP]at e;let⟨f,n,g,l,m,o⟩:=k.b;let⟨r,s,u⟩:=wG (R:=λj t (y:Nat×Tx)=>y.2=toTx t/\∃d,f=Â ⟨d,0,Á⟩/\w.cell? ⟨d,j,Á⟩=Â (Ã<|Â ⟨y.1,0,Á⟩)/\IK y.1 t w) p.r 0 λj t v=>by let⟨d,a,y,q,x⟩:=o j t v;simp_all
 refine⟨f,n,g,r,⟨Ak e.1<|k.c 0 A,k.c 5 A,l⟩,⟨by rw[m,s],λj a t q=> ?_⟩,?_,by have:=h.n;omega⟩
 .let⟨x,z,y,d,D,B,C⟩:=u j (a,t) q;simp only at y B C;subst y;have E:=h.C x<|ç z;grind [asi,toTx_ok]
 .refine Ŕ λj=> ?_;unfold lN;grind
def asl(h:uU p)(k:yl i p w):Iz i (toQn p) w:=by have a:=h.c.r 0 A;have b:=h.c.r 1 A;have d:=h.c.r 2 A;have e:=h.c.r 3 A;have f:=h.c.r 7 A;simp only[lP]at a b d e f;exact⟨Ak a.1<|k.c 0 A,Ak b.1<|k.c 1 A,Ak d.1<|k.c 2 A,Ak e.1<|k.c 3 A,k.c 4 A,k.c 5 A,k.c 6 A,Ak f.1<|k.c 7 A⟩
def ab1(h:uU p)(k:p.c.getD 4 0≠1):(toQn p).Ok:=by
 have d:=h.c.r 0 A;have e:=h.c.r 1 A;have f:=h.c.r 2 A;have g:=h.c.r 3 A;have i:=h.c.r 4 A;have a:=h.c.r 5 A;have b:=h.c.r 6 A;have j:=h.c.r 7 A;simp only[lP]at d e f g i a b j;refine⟨?_,?_,?_,?_,?_,?_,a.1,b.1,?_⟩
 .show(p.c.getD 0 0).toNat<8;omega
 .show(p.c.getD 1 0).toNat<8;omega
 .show(p.c.getD 2 0).toNat<1000000;omega
 .show(p.c.getD 3 0).toNat<18446744073709551616;omega
 .show 2<=p.c.getD 4 0;omega
 .show p.c.getD 4 0<=9;omega
 .show(p.c.getD 7 0).toNat<16;omega
theorem asn(h:RQ rs v X l.w)(k:∀i∈rs,uU i)(B:mK l.w)(C:∀b,b=1\/b=2\/b=3\/b=4->l.O b)(m:∀b,X b->l.O b): ∃d e f g,v=Ç d rs.length e/\(0<rs.length->d=Â ⟨f,0,Á⟩)/\(0<rs.length->l.O f)/\(∀a,a<rs.length->l.w.cell? ⟨f,a,Á⟩=Â (Ã<|Â ⟨g a,0,Á⟩))/\(∀a,a<rs.length->l.w.cell? ⟨g a,4,Á⟩=Â (Å É<|kT rs a))/\IB l (wq rs) (kT rs) g rs.length X:=by
 obtain⟨o,D,rfl,E⟩:=h.M;have p:∀a,a<rs.length->rs[a]?=Â (rs.getD a o5):=λa d=>by simp[Ğ,d]
 have r:=λa d=>ç<|p a d;obtain⟨f,s⟩:∃f,∀a,a<rs.length->o=Â ⟨f,0,Á⟩:=by
  by_cases e:0<rs.length
  .let⟨j,i,q,_⟩:=E 0 _<|p 0 e;exact⟨j,λ_ _=>q⟩
  .simp_all
 have F:∀a,∃i,a<rs.length->l.w.cell? ⟨f,a,Á⟩=Â (Ã<|Â ⟨i,0,Á⟩)/\yl i (rs.getD a o5) l.w:=λa=>by grind
 let⟨g,j⟩:=Classical.axiomOfChoice F;have u:=λe=>by have:=h.I;rw[s 0 e]at this;exact Cs this
 refine⟨o,D,f,g,U,λe=>s 0 e,λe=>m _<|u e,λa d=>(j a d).1,λa d=>(j a d).2.c 4 A,B,C,h.C,m,λa d=>(Cr<|h.C.r (u Z) (j a d).1),λa d y=> ?_,λa d y=> ?_⟩
 .have q:=k _<|r a d;have e:=q.c.r 0 A;have z:=q.c.r 5 A;simp only[lP]at e z;refine⟨asj q (j a d).2,?_,z.1,λt G=> ?_,?_⟩
  .show((rs.getD a o5).c.getD 0 0).toNat<8;omega
  .obtain⟨x,H,rfl⟩:=Ú.1 G;exact toTx_ok<|q.C x H
  .show((rs.getD a o5).r.map toTx).length<=1000;rw[ù];have:=q.n;omega
 .have q:=k _<|r a d;exact⟨asl q (j a d).2,ab1 q y⟩
end
theorem IN:(∀r∈(gK B).2.2,uU r)/\(gK B).2.2.length<=24:=by
 unfold gK;split
 .grind
 .split
  .unfold lQ;split
   .grind
   .have:=(Uv B.size 0 nO (Uu B)<|Ø _).1.d;exact⟨this.G,this.C⟩
  .grind
def kU(rs:List PR)(s:List fI):List ByteArray:=(ĳ rs.length).map λp=>we (wq rs) (kT rs) p<|pO (wq rs) (gZ (kT rs) rs.length) s<|fK (kT rs) p
def wv(rs:List PR)(s:List fI):List fI:=pO (wq rs) (gZ (kT rs) rs.length) s<|fK (kT rs) rs.length
def lR(s:List fI)(B:ByteArray):ByteArray×Int×List fI:=
 if(gK B).1=0 then(jb ⟨#[59]⟩<|kU (gK B).2.2 s,0,wv (gK B).2.2 s)else(⟨#[]⟩,(gK B).1,s)
section
variable{b:Ē}{l:e9}{a:Ĉ}
def ab2{md:Ŀ}(I:Array Bool->Ĉ->e9->Prop) (o:∀c a l i k,I c a l->i∈ä md Q c->(∀f g,I (c.setIfInBounds i Î) f g->iM vQ g (G (b.at f<|Ð Q k::L) qX))->iM vQ l (G (b.at a<|Ð Q (i::k)::L) qX)) (m:∀c a l,I c a l->c.size=Q.size->ä md Q c=[]->iM vQ l (G (b.at a<|Ð Q []::L) qX)): ∀(d t:Nat) (c:Array Bool) (a:Ĉ) (l:e9),c.size=Q.size->jr c<=d->I c a l->iM vQ l (G (b.at a<|Ð Q (ć md Q d t c [])::L) qX):=by
 intro d
 induction d with
 |zero=>
  intro t c a l e p h;simpa[ć]using m c a l h e<|Rc e Z
 |succ d q=>
  intro t c a l e p h;simp only[ć];change iM vQ l (G (b.at a (Ð Q (match(ä md Q c)[t%(ä md Q c).length]? with
   |some i=>ć md Q d (t/(ä md Q c).length) (c.setIfInBounds i Î) [i]
   |none=>[].reverse)::L)) qX)
  cases j:(ä md Q c)[t%(ä md Q c).length]? with
  |none=>
   have r:ä md Q c=[]:=by
    cases s:ä md Q c with
    |nil=>rfl
    |cons x n=>
     rw[s]at j;have u:t%(x::n).length<(x::n).length:=Nat.mod_lt _ fj;simp at j;simp at u;omega
   simpa using m c a l h e r
  |some i=>
   simp only[];rw[linearise_go_acc,List.reverse_singleton,List.singleton_append];have n:=ç j;refine o c a l i _ h n λf g r=>(q _ _ f g (by simpa using e) (by have:=KD (Β.1 n).1;omega) r)
def aso{id:Nat}(I:Array Bool->Ĉ->e9->Prop)(e:gL l) (j:∀f,fE l l.w f->I (Ū Q.size Ë) a {l with w:=f}) (k:∀g c a l i m,I c a l->i∈ä g Q c->(∀n o,I (c.setIfInBounds i Î) n o->iM vQ o (G (b.at n<|Ð Q m::L) qX))->iM vQ l (G (b.at a<|Ð Q (i::m)::L) qX)) (p:∀g c a l,I c a l->c.size=Q.size->ä g Q c=[]->iM vQ l (G (b.at a<|Ð Q []::L) qX)): iM vQ l (G (b.at a<|ax (.region id Q Î)::L) qX):=by
 refine mA (.mk U λf r=>⟨_,_,_,_,stepG_region_draw,Rb (lH e.r.r r) e.q,.fA λs d=> ?_⟩);have h:=r.fe ⟨d.r,d.I,d.N,d.Y,d.S⟩;refine⟨e.C h,U,?_⟩;unfold Region.schedule;split
 .exact ab2 I (k _) (p _) _ _ _ _ _ fj (by rw[DV];exact æ _)<|j s h
 .exact ab2 I (k _) (p _) _ _ _ _ _ fj (by rw[DV];exact æ _)<|j s h
def asq{I:Ĉ->e9->Prop}(W:ft.fh À Î (λa d=>∃c,d=G (b.at c<|Ð Q jJ::L) qX/\I c a) l g)(f:∀c a,I c a->gL a)(i:∀c a,I c a->iM vQ a (G (b.at c<|Ð Q jJ::L) qX)):iM vQ l g:= mA (W.fO λa d h=>by obtain⟨c,rfl,e⟩:=h;exact⟨f c a e,U,i c a e⟩)
def wx{f:FuncId}{fn:Func}(xs:List Value)(n:Nat)(hf:Tryz.prog.funcs[f]?=some fn)(hb:fn.body=some (kY fn []):=by kernel_rfl)(hn:fn.ntmps=xs.length+n:=by kernel_rfl):Frame.enter Tryz.prog f xs.toArray .normal=(base f).at ⟨(xs++List.replicate n undef).toArray,[]⟩ [.code<|kY fn []]:=by rw[enter_at _ hf hb,hn,ř,Nat.add_sub_cancel_left,show xs.toArray++Ū n ĸ=(xs++ą n ĸ).toArray from Array.ext' fj]
def wy{J:Jd}{f:Ρ}{args:Array Ñ}(d:Q[i]?=Â o)(e:đ o (Ι Q a.tmps)=Î)(g:b.kind≠.early)(h:jW l) (j:∀w,(ś a.eval o).run À w=.ok (.enter f args) w) (k:∀w,(ś a.eval o).events À w #[]=#[]) (m:∀c,fE l l.w c->ft.fh À Î J {l with w:=c} (G (è À f args Ą)<|b.at a (Ð Q (i::jJ)::L)::qX)): ft.fh À Î J l (G (b.at a<|Ð Q (i::jJ)::L) qX):=by refine .mk U λc r=>⟨G (è À f args Ą)<|b.at a (Ð Q (i::jJ)::L)::qX,c,#[],{l with w:=c},?_,Kv c<|lH h r,m c r⟩;rw[stepG_enter d e g<|j c];unfold ay;rw[k c,seen_none]
def ym{f:Ρ}{args:Array Ñ}(e:gL l)(j:Q[i]?=Â o)(k:đ o (Ι Q a.tmps)=Î)(m:b.kind≠.early) (n:∀w,(ś a.eval o).run À w=.ok (.enter f args) w) (p:∀w,(ś a.eval o).events À w #[]=#[]) (q:∀d,fE l l.w d->iM vQ {l with w:=d} (G (è À f args Ą)<|b.at a (Ð Q (i::jJ)::L)::qX)): iM vQ l (G (b.at a<|Ð Q (i::jJ)::L) qX):= mA (wy j k m e.r.r n p λd r=> .fA λg c=>by have h:fE l l.w g:=r.fe ⟨c.r,c.I,c.N,c.Y,c.S⟩;exact⟨e.C h,U,q g h⟩)
def jy.xH{c:e9}(e:gL l)(h:jy l c)(k:c.d=l.d):gL c:=by
 have g:∀b,¬c.I b:=by rw[h.I];exact e.rd
 have f:∀a,¬c.r a:=by rw[h.N];exact e.I
 have i:∀a,¬c.N a:=by rw[h.Y];exact e.M
 have j:∀a,¬c.K a:=by rw[h.K];exact e.k
 exact⟨⟨λb _=>g b,λa q=>(f a q).elim,λa q=>q.elim (λz=>(f a z).elim) λz=>(i a z).elim,λb q=>q.elim (λz=>h.fw b z) λz=>(g b z).elim,λa q=>q.elim (λz=>(f a z).elim) λz=>(i a z).elim,λa q=>(j a q).elim⟩,k.trans e.d,by rw[h.q];exact e.q,g,f,i,j⟩
end
def IP:ĝ:=⟨Â 21,.move<|ň 0,26, "attic.go:46",#[],Á⟩
def IQ:ĝ:=⟨Â 22,.nilCheck<|ň 21,0, "attic.go:46",#[⟨0,ĉ⟩],Á⟩
def IT:ĝ:=⟨Â 23,.fieldAddr 68 (ň 22) 1,0, "attic.go:46",#[⟨1,ĉ⟩],Á⟩
def IU:ĝ:=⟨Â 24,.load 65<|ň 23,65, "attic.go:46",#[⟨2,ĉ⟩],Á⟩
def IV:ĝ:=⟨Â 25,.move<|ň 6,61, "attic.go:46",#[],Á⟩
def IW:ĝ:=⟨Â 26,.move<|ň 0,26, "attic.go:46",#[],Á⟩
def IX:ĝ:=⟨Â 27,.nilCheck<|ň 26,0, "attic.go:46",#[⟨5,ĉ⟩],Á⟩
def IY:ĝ:=⟨Â 28,.fieldAddr 68 (ň 27) 0,0, "attic.go:46",#[⟨6,ĉ⟩],Á⟩
def IZ:ĝ:=⟨Â 29,.load 3<|ň 28,3, "attic.go:46",#[⟨7,ĉ⟩],Á⟩
def yn:ĝ:=⟨Â 30,.call {callee:=.value<|.func 37,args:=#[ň 24,ň 25,ň 29],argTypes:=#[65,61,3]},66, "attic.go:46",#[⟨3,ĉ⟩,⟨4,ĉ⟩,⟨8,ĉ⟩],Á⟩
def Al:ĝ:=⟨Â 20,.move<|ň 30,66, "attic.go:46",#[⟨9,ĉ⟩],Á⟩
def CG:ĝ:=⟨Â 31,.extract (ň 20) 0,25, "attic.go:46",#[⟨10,ĉ⟩],Á⟩
def CH:ĝ:=⟨Â 32,.extract (ň 20) 1,65, "attic.go:46",#[⟨10,ĉ⟩,{on:=13,ground:=Ground.gcOnly Departure.lateStores}],Á⟩
def CI:ĝ:=⟨Â 9,.assign<|ň 31,25, "attic.go:46",#[⟨11,ĉ⟩,⟨9,.chain⟩,⟨0,ñ⟩,⟨1,ñ⟩,⟨2,ñ⟩,⟨3,ñ⟩,⟨4,ñ⟩,⟨5,ñ⟩,⟨6,ñ⟩,⟨7,ñ⟩,⟨8,ñ⟩,⟨9,ñ⟩,⟨10,ñ⟩,⟨11,ñ⟩,{on:=12,ground:=Ground.textOnly Departure.lateStores}],Á⟩
def CJ:ĝ:=⟨Â 10,.assign<|ň 32,65, "attic.go:46",#[⟨12,ĉ⟩,⟨13,.chain⟩,⟨0,ñ⟩,⟨1,ñ⟩,⟨2,ñ⟩,⟨3,ñ⟩,⟨4,ñ⟩,⟨5,ñ⟩,⟨6,ñ⟩,⟨7,ñ⟩,⟨8,ñ⟩,⟨9,ñ⟩,⟨10,ñ⟩,⟨11,ñ⟩,⟨12,ñ⟩,⟨13,ñ⟩],Á⟩
def oG:Array ĝ:=#[IP,IQ,IT,IU,IV,IW,IX,IY,IZ,yn,Al,CG,CH,CI,CJ]
noncomputable def UE:Τ:=kY Tryz.f17 [1,1,1,1]
structure oh(l:e9)(ab n:Nat)(s:List fI)(sl:Ñ)(V:Nat->Prop):Prop where
 r:mK l.w
 C:∀b,b=1\/b=2\/b=3\/b=4->l.O b
 Y:Fo ab n sl l.w
 fl:l.O ab
 rd:RD s sl V l.w
 S:∀b,V b->l.O b
 d:¬V ab
 a:1<=n
 c:n<=8
 I:¬(ab=1\/ab=2\/ab=3\/ab=4)
structure M5(l l':e9)(ab n:Nat)(s':List fI)(V:Nat->Prop):Prop where
 vq:∀b,l.O b->b≠ab->l'.O b/\l'.w.heap[b]?=l.w.heap[b]?
 att:∃s9 V',oh l' ab n s' s9 V'/\∀b,V' b->V b\/(b=1\/b=2\/b=3\/b=4)\/l.w.heap.size<=b
section
variable{l d:e9}{ab:Nat}{s:List fI}{sl:Ñ}{V:Nat->Prop}
def oh.N{a:e9}(h:oh l ab n s sl V)(c:∀b,l.O b->a.O b)(d:∀b,l.O b->a.w.heap[b]?=l.w.heap[b]?)(e:l.w.heap.size<=a.w.heap.size):oh a ab n s sl V:= ⟨h.r.r (Ì h.r.fw e) λb q=>d b<|h.C b q,λb q=>c b<|h.C b q,h.Y.r<|d ab h.fl,c ab h.fl,h.rd.r λb q=>d b<|h.S b q,λb q=>c b<|h.S b q,h.d,h.a,h.c,h.I⟩
def oh.M(h:oh l ab n s sl V)(r:fE l l.w u):oh {l with w:=u} ab n s sl V:=h.N (λ_ q=>q) (λb q=>r.I b<|È q) r.r
def kl(ab:Nat)(n:Nat)(sl rs:Ñ)(x:Value×Value):Nat->Ñ
 |0=>Ã<|Â ⟨ab,0,Á⟩
 |1=>Ã<|Â ⟨ab,0,Á⟩
 |2=>Ã<|Â ⟨ab,1,Á⟩
 |3=>sl
 |4=>rs
 |5=>Ã<|Â ⟨ab,0,Á⟩
 |6=>Ã<|Â ⟨ab,0,Á⟩
 |7=>Ã<|Â ⟨ab,0,Á⟩
 |8=>Å É n
 |9=>ë #[x.1,x.2]
 |10=>ë #[x.1,x.2]
 |11=>x.1
 |12=>x.2
 |13=>x.1
 |14=>x.2
 |_=>ĸ
def wz(d:e9)(V:Nat->Prop)(rs:List PR)(s:List fI)(listed:Array Bool)(x:Value×Value)(l:e9):Prop:=
 gL l/\(listed.getD 9 Ë=Ë->gh ff d l)/\(listed.getD 9 Ë=Î->∃a e p m c,gh ff d a/\x=(Ç (Â ⟨e,0,Á⟩) rs.length rs.length,Ç p m c)/\Ag (λb=>V b\/b=1\/b=2\/b=3\/b=4) (wq rs) rs.length (kT rs) s a e (Ç p m c) l)
def wz.j5{V:Nat->Prop}{a:List PR}{s:List fI}{listed:Array Bool}{x:Value×Value}(h:wz d V a s listed x l)(b:i≠9){w₁:Í}(r:fE l l.w w₁):wz d V a s (listed.setIfInBounds i Î) x {l with w:=w₁}:=by
 have e:(listed.setIfInBounds i Î).getD 9 Ë=listed.getD 9 Ë:=by simp[Array.getD_eq_getD_getElem?,Array.getElem?_setIfInBounds_ne b]
 refine⟨h.1.C r,λq=> ?_,λq=> ?_⟩
 .rw[e]at q;exact(h.2.1 q).G r
 .rw[e]at q;let⟨f,g,p,m,c,j,k,n⟩:=h.2.2 q;exact⟨f,g,p,m,c,j,k,n.N r⟩
theorem asr{D:Array Ñ}{I:List PR}(J:oh d ab n s sl V)(T:D.size=39)(W:D[0]?=Â (Ã<|Â ⟨ab,0,Á⟩))(Y:D[6]?=Â z) (md:Ŀ) (listed:Array Bool) (a:Ĉ) (l:e9) (i:Nat) (O:List Nat) (hI:II oG D (kl ab n sl z) (wz d X I s) listed a l) (p:i∈ä md oG listed) (F:i≠9): ft.fh À Î (λc e=>∃b,e=G ((base 17).at b<|Ð oG O::L) qX/\II oG D (kl ab n sl z) (wz d X I s) (listed.setIfInBounds i Î) b c) l (G ((base 17).at a<|Ð oG (i::O)::L) qX):=by
 let⟨x,g,H⟩:=hI;have t:qK oG D.size=Î:=by rw[T];decide
 have K:=zi p;have u:=H.1.r.r;have y:=H.1.q;have P:=(g.C A).trans W;have M6:=(g.C A).trans Y;have B:∀c,fE l l.w c->wz d X I s (listed.setIfInBounds i Î) x {l with w:=c}:=λc r=>H.j5 F r;let⟨fr,mG,_⟩:=J.Y;have early:∀m,m<15->listed.getD m Ë=Ë->(∃e,e∈yn.after/\e.on=m/\vz e=Î)->listed.getD 9 Ë=Ë:=λm _ hm ⟨e,h1,h2,h3⟩=>by
  cases q:listed.getD 9 Ë with
  |false=>rfl
  |true=>
   have:=g.Y 9 yn e U q h1 h3;rw[h2,hm]at this;cases this
 have jH:oG.size=15:=A
 rw[jH]at K;have Db:listed.getD i Ë=Ë:=by have:=(Β.1 p).1;grind
 have S:∀{j v},(∃e,e∈yn.after/\e.on=i/\vz e=Î)->#[Å É n,sl][j]?=Â v->gY l ⟨ab,j,Á⟩/\l.w.cell? ⟨ab,j,Á⟩=Â v:=λq h=>by have b:=H.2.1<|early i K Db q;exact⟨È<|b.M<|È J.fl,(gM<|b.r ab (È J.fl) id).trans<|by simp[à,mG,h]⟩
 match i,K,F with
 |9,_,F=>exact absurd U F
 |0,_,_=>
  exact il (o:=IP) t g U U p (by k_ne) u y (λc r=>by simp only[kl,IP];go_simp) (λc r e f=>by simp[go_sem,IP,P]at f) B
 |1,_,_=>
  have b:=g.r 0 IP 21 U (ie p U U) U;simp only[kl]at b;exact il (o:=IQ) t g U U p (by k_ne) u y (λc r=>by simp only[kl,IQ];go_simp) (λc r e f=>by simp[go_sem,IQ,b]at f) B
 |2,_,_=>
  have b:=g.r 1 IQ 22 U (ie p U U) U;simp only[kl]at b;exact il (o:=IT) t g U U p (by k_ne) u y (λc r=>by simp only[kl,IT];go_simp) (λc r e f=>by simp[go_sem,IT,b]at f) B
 |3,_,_=>
  have b:=g.r 2 IT 23 U (ie p U U) U;simp only[kl]at b;let⟨C,E⟩:=S (j:=1) ⟨⟨3,ĉ⟩,by simp[yn],U,U⟩ U;refine il (o:=IU) t g U U p (by k_ne) u y (λc r=> ?_) (λc r e f=> ?_) B
  .have N:=(C.r r).trans E;simp only[kl,IU];go_simp
  .have N:=(C.r r).trans E;simp[go_sem,IU,b,N]at f;subst f;exact C.rd
 |4,_,_=>
  exact il (o:=IV) t g U U p (by k_ne) u y (λc r=>by simp only[kl,IV];go_simp) (λc r e f=>by simp[go_sem,IV,M6]at f) B
 |5,_,_=>
  exact il (o:=IW) t g U U p (by k_ne) u y (λc r=>by simp only[kl,IW];go_simp) (λc r e f=>by simp[go_sem,IW,P]at f) B
 |6,_,_=>
  have b:=g.r 5 IW 26 U (ie p U U) U;simp only[kl]at b;exact il (o:=IX) t g U U p (by k_ne) u y (λc r=>by simp only[kl,IX];go_simp) (λc r e f=>by simp[go_sem,IX,b]at f) B
 |7,_,_=>
  have b:=g.r 6 IX 27 U (ie p U U) U;simp only[kl]at b;exact il (o:=IY) t g U U p (by k_ne) u y (λc r=>by simp only[kl,IY];go_simp) (λc r e f=>by simp[go_sem,IY,b]at f) B
 |8,_,_=>
  have b:=g.r 7 IY 28 U (ie p U U) U;simp only[kl]at b;let⟨C,E⟩:=S (j:=0) ⟨⟨8,ĉ⟩,by simp[yn],U,U⟩ U;refine il (o:=IZ) t g U U p (by k_ne) u y (λc r=> ?_) (λc r e f=> ?_) B
  .have N:=(C.r r).trans E;simp only[kl,IZ];go_simp
  .simp[go_sem,IZ,b,(C.r r).trans E]at f;subst f;exact C.rd
 |10,_,_=>
  have b:=g.r 9 yn 30 U (ie p U U) U;simp only[kl]at b;exact il (o:=Al) t g U U p (by k_ne) u y (λc r=>by simp only[kl,Al];go_simp) (λc r e f=>by simp[go_sem,Al,b]at f) B
 |11,_,_=>
  have b:=g.r 10 Al 20 U (ie p U U) U;simp only[kl]at b;exact il (o:=CG) t g U U p (by k_ne) u y (λc r=>by simp only[kl,CG];go_simp) (λc r e f=>by simp[go_sem,CG,b]at f) B
 |12,_,_=>
  have b:=g.r 10 Al 20 U (ie p U U) U;simp only[kl]at b;exact il (o:=CH) t g U U p (by k_ne) u y (λc r=>by simp only[kl,CH];go_simp) (λc r e f=>by simp[go_sem,CH,b]at f) B
 |13,_,_=>
  have b:=g.r 11 CG 31 U (ie p U U) U;simp only[kl]at b;exact il (o:=CI) t g U U p (by k_ne) u y (λc r=>by simp only[kl,CI];go_simp) (λc r e f=>by simp[go_sem,CI,b]at f) B
 |14,_,_=>
  have b:=g.r 12 CH 32 U (ie p U U) U;simp only[kl]at b;exact il (o:=CJ) t g U U p (by k_ne) u y (λc r=>by simp only[kl,CJ];go_simp) (λc r e f=>by simp[go_sem,CJ,b]at f) B
end
def asu(x y:Ñ)(n:Nat)(a:List Ē):G (è À 37 #[x,y,Å É n] Ą) a=Ek x y n a:=by unfold Ek;rw[enter_at #[x,y,Å É n] η (c:=kY Tryz.f37 []) fp];kernel_rfl
section
variable{l g:e9}{s:List fI}{V:Nat->Prop}{d:List PR}
theorem asv{F:Array Ñ}(D:oh g i n s x V)(W:RQ d v X g.w)(M:∀b,X b->g.O b)(Y:∀r∈d,uU r)(KI:d.length<=24)(ht:F.size=39) (md:Ŀ) (listed:Array Bool) (a:Ĉ) (l:e9) (N:List Nat) (hI:II oG F (kl i n x v) (wz g (λb=>V b\/X b) d s) listed a l) (B:9∈ä md oG listed) (hn:∀P E,II oG F (kl i n x v) (wz g (λb=>V b\/X b) d s) (listed.setIfInBounds 9 Î) P E->iM vQ E (G ((base 17).at P<|Ð oG N::L) qX)): iM vQ l (G ((base 17).at a<|Ð oG (9::N)::L) qX):=by
 let⟨t,y,Q⟩:=hI;have Db:=(Β.1 B).1;have h9s:9<listed.size:=by grind
 have H:listed.getD 9 Ë=Ë:=by grind
 have e24:a.tmps[24]?=Â x:=y.r 3 IU 24 U (ie B U U) U;have e25:a.tmps[25]?=Â v:=y.r 4 IV 25 U (ie B U U) U;have e29:a.tmps[29]?=Â (Å É n):=y.r 8 IZ 29 U (ie B U U) U;have late:∀(S:Value×Value) j,listed.getD j Ë=Î->kl i n x v S j=kl i n x v t j:=λS j u=>by
  have c:listed.getD 10 Ë=Ë:=by
   cases q:listed.getD 10 Ë with
   |false=>rfl
   |true=>exact absurd (y.Y 10 Al ⟨9,ĉ⟩ U q (by simp[Al]) U)<|by rw[H];decide
  have e:listed.getD 11 Ë=Ë:=by
   cases q:listed.getD 11 Ë with
   |false=>rfl
   |true=>exact absurd (y.Y 11 CG ⟨10,ĉ⟩ U q (by simp[CG]) U)<|by rw[c];decide
  have h:listed.getD 12 Ë=Ë:=by
   cases q:listed.getD 12 Ë with
   |false=>rfl
   |true=>exact absurd (y.Y 12 CH ⟨10,ĉ⟩ U q (by simp[CH]) U)<|by rw[c];decide
  have m:listed.getD 13 Ë=Ë:=by
   cases q:listed.getD 13 Ë with
   |false=>rfl
   |true=>exact absurd (y.Y 13 CI ⟨11,ĉ⟩ U q (by simp[CI]) U)<|by rw[e];decide
  have p:listed.getD 14 Ë=Ë:=by
   cases q:listed.getD 14 Ë with
   |false=>rfl
   |true=>exact absurd (y.Y 14 CJ ⟨12,ĉ⟩ U q (by simp[CJ]) U)<|by rw[h];decide
  match j with
  |9=>rw[H]at u;cases u
  |10=>rw[c]at u;cases u
  |11=>rw[e]at u;cases u
  |12=>rw[h]at u;cases u
  |13=>rw[m]at u;cases u
  |14=>rw[p]at u;cases u
  |0|1|2|3|4|5|6|7|8=>rfl
  |j+15=>rfl
 refine ym (f:=37) (args:=#[x,v,Å É n]) Q.1 (o:=yn) U (KH U _) (by k_ne) (λw=> ?_) (λw=> ?_) λw₁ r=> ?_
 .simp only[yn];go_simp
 .exact ô U η U U #[]
 have z:=(Q.2.1 H).G r;have C:=D.N (λb q=>z.O b q) (λb q=>z.r b (È q) id) z.I;have T:=λb q=>z.O b<|M b q;obtain⟨ra,cr,rb,rq,rfl,Hp,vM,Hq,Hr,ready⟩:=asn (W.r λb q=>z.r b (È<|M b q) id) Y C.r C.C T;obtain⟨I,J,K,rfl⟩:∃I J K,x=Ç I J K:=by let⟨_,_,_,⟨I,J,K,e,_⟩,_⟩:=D.rd;grind
 rw[asu];refine asf Hp (λh=>È<|vM h) Hq Hr ready ⟨λb q=>È<|Ï q,λb q=>Ï q⟩ (λb q=>q.elim (λq=>q.elim (C.S b)<|T b)<|C.C b) (λb q=>È<|È q) C.rd D.a (by have:=D.c;omega) λE e p m c h hT=> ?_;refine hn _ E ⟨(Ç (Â ⟨e,0,Á⟩) d.length d.length,Ç p m c),(y.YW<|late _).fQ (by rw[ht];decide) U B λ_=>rfl,h,λq=> ?_,λ_=>⟨_,e,p,m,c,z,U,hT⟩⟩;simp_all
end
section
variable{l o l4:e9}{ab:Nat}{s:List fI}{sl:Ñ}{V:Nat->Prop}{rs:List PR}
structure ab3(l l4:e9)(ab n:Nat)(s:List fI)(sl:Ñ)(V:Nat->Prop)(rs:List PR)(an:Nat)(s9:Ñ):Prop where
 r:∀b,l.O b->l4.O b/\l4.w.heap[b]?=l.w.heap[b]?
 fw:nB<=l4.w.heap.size
 C:l4.O an/\uY an (kU rs s) l4.w/\kV l4.w an=Â (0,0)
 HG:∃V',RD (wv rs s) s9 V' l4.w/\(∀b,V' b->l4.O b)/\¬V' ab/\∀b,V' b->V b\/(b=1\/b=2\/b=3\/b=4)\/l.w.heap.size<=b
def asw{kd:Nat->Int}(h:∀p,p<rs.length->w.cell? ⟨i,p,Á⟩=Â (Ä<|we (wq rs) (kT rs) p<|pO (wq rs) (gZ (kT rs) rs.length) s<|fK (kT rs) p))(d:w.cell? ⟨i,rs.length,Á⟩=Á):uY i (kU rs s) w:=by refine⟨λp x a=> ?_,by unfold kU;simpa using d⟩;unfold kU at a;rw[Ī]at a;obtain⟨q,e,rfl⟩:=ò.1 a;let⟨b,c⟩:=Õ.1 e;simp at b c;subst c;exact h p b
def M7:(kU rs s).length=rs.length:=by simp[kU]
def asx:nB<=5:=by show À.globals.size<=5;decide+kernel
def asy{f:e9}{p:Option ü}(d:oh l ab n s sl V)(t:gw l)(u:∀b,X b->l.w.heap.size<=b)(v:∀b,l.O b->o.O b/\o.w.heap[b]?=l.w.heap[b]?)(x:l.w.heap.size<=o.w.heap.size)(y:gw l4)(e:gh ff o f)(a:Ag (λb=>(V b\/X b)\/b=1\/b=2\/b=3\/b=4) (wq rs) rs.length (kT rs) s f i (Ç p m j) l4):ab3 l l4 ab n s sl V rs i (Ç p m j):=by
 have g:∀b,l.O b->l4.O b/\l4.w.heap[b]?=l.w.heap[b]?:=λb q=>by let⟨z,h⟩:=v b q;let⟨k,r⟩:=a.M b<|e.O b z;exact⟨k,r.trans<|(e.r b (È z) id).trans h⟩
 refine⟨g,?_,⟨a.r.1,asw (kd:=kT rs) a.r.2 a.I.1,a.I.2⟩,?_⟩
 .have:=y.fw 4<|È (g 4<|d.C 4 A).1;have:=asx;omega
 .let⟨h,B,k⟩:=a.S;have r:∀b,h b->V b\/(b=1\/b=2\/b=3\/b=4)\/l.w.heap.size<=b:=λb q=>by
   rcases(k b q).2 with((z|z)|z)|z
   .exact È z
   .exact Ï<|Ï<|u b z
   .exact Ï<|È z
   .exact Ï<|Ï<|Ì (Ì x e.I) z
  refine⟨h,B,λb q=>(k b q).1,λq=> ?_,r⟩;rcases r ab q with z|z|z
  .exact d.d z
  .exact d.I z
  .have:=t.fw ab<|È d.fl;omega
def asz{f:e9}{p:Option ü}(d:oh l ab n s sl V)(h:ab3 l l4 ab n s sl V rs i (Ç p m j))(E:gw l4)(g:∀b,l4.O b->f.O b)(r:∀b,l4.O b->f.w.heap[b]?=(l4.w.setCell ⟨ab,1,Á⟩<|Ç p m j).heap[b]?)(v:l4.w.heap.size<=f.w.heap.size):M5 l f ab n (wv rs s) V:=by
 let⟨x,y,t,u,z⟩:=h.HG;have k:∀b,l4.O b->b≠ab->f.w.heap[b]?=l4.w.heap[b]?:=λb q e=>(r b q).trans<|lu (a:=⟨ab,1,Á⟩) e;have o:=h.r ab d.fl;refine⟨λb q e=>⟨g b (h.r b q).1,(k b (h.r b q).1 e).trans (h.r b q).2⟩,Ç p m j,x,⟨?_,λb q=>g b (h.r b<|d.C b q).1,?_,g ab o.1,y.r λb q=>k b (t b q) λe=>u<|e▸q,λb q=>g b<|t b q,u,d.a,d.c,d.I⟩,z⟩
 .exact d.r.r (Ì h.fw v) λb q=>(k b (h.r b<|d.C b q).1 λe=>d.I<|e▸q).trans (h.r b<|d.C b q).2
 .let⟨B,C,D⟩:=d.Y;refine⟨B,?_,D⟩;rw[r ab o.1];unfold Ż;simp[Ķ,o.2,C]
def asA{J:Jd}(b:jW l)(d:ft.fh À Î J l (G (f.at (y.put ((Q[i]?).bind (·.dst))<|Ä ⟨#[]⟩)<|Ð Q jJ::L) qX)): ft.fh À Î J l (G (è À 38 #[Ç O 0 j,Ä B] Ą)<|f.at y (Ð Q (i::jJ)::L)::qX):=by
 have hF:True:=trivial;rw[wx [_,_] 73 ē];simp only[ą,Đ,ę];conv in kY _ _=>whnf
 apply fP (n:=60) b;repeat w_go fu
 u_in fu hF
 refine Ŧ (t:=4) U U ē U ⟨by u_nil,?_⟩;refine ï λ_ _=> ?_;exact d
def uY.I{w':Í}{xs:List ByteArray}(h:uY i xs w)(k:w'.heap[i]?=w.heap[i]?):uY i xs w':= ⟨λp x a=>CC k<|h.r p x a,by have:=h.C;simp only[à,k]at this|-;exact this⟩
def asB{xs:List ByteArray}(g:mK w)(h:uY i xs w):lA i=Ë:=by
 have b:∀e,MK i e w->False:=λe ⟨c,o,j,_,_,d,l⟩=>by
  have f:w.cell? ⟨i,0,Á⟩=Â c[0]:=by simp only[à,j,ö,ì,if_false];exact å d
  rcases ģ xs.length with q|q
  .have a:=h.C;rw[q,f]at a;cases a
  .have a:=h.r 0 _<|Ó q;let⟨k,n,m⟩:=l c[0]<|î.2<|ă d;rw[f,m]at a;cases a
 cases q:lA i with
 |false=>rfl
 |true=>
  unfold lA at q;simp at q;rcases q with rfl|rfl
  .exact(b _ g.I).elim
  .exact(b _ g.C).elim
def jy.asC(a:jW l)(r:fE l l.w u):jy l {l with w:=u}:=⟨λ_ q=>q,λ_ q=>È q,U,U,U,U,U,r,lH a r⟩
def asD{a:Ĉ}{xs:List ByteArray}(b:gL l)(j:nB<=l.w.heap.size)(h:uY n xs l.w)(m:l.O n)(o:lA n=Ë)(p:kV l.w n=Â (0,0))(s:xs.length<=1000){N:Nat}(t:xs.length=N)(u:B.size=1)(v:iL xs+xs.length<=140737488355328): ft.fh À Î (λc g=>jy l c/\c.d=l.d/\g=G (f.at (a.put ((Q[i]?).bind (·.dst))<|Ä<|jb B xs)<|Ð Q jJ::L) qX) l (G (è À 38 #[Ç (Â ⟨n,0,Á⟩) N N,Ä B] Ą)<|f.at a (Ð Q (i::jJ)::L)::qX):=by
 subst t;rcases ģ xs.length with e|e
 .have x:=Ý e;subst x;exact asA b.r.r<|.fA λy r=>⟨jy.asC b.r.r r,U,U⟩
 .refine(ar9 b.r b.q j h e (È m) o p s u v Î _ qX).fO ?_;rintro c g ⟨r,x,rfl⟩;exact⟨r,x,by rw[Ě]⟩
def asE{N:Array Ñ}{cf:Ē}(C:oh l ab n s sl V)(El:gw l)(UF:∀b,X b->l.w.heap.size<=b)(hl:∀b,l.O b->o.O b/\o.w.heap[b]?=l.w.heap[b]?)(jH:l.w.heap.size<=o.w.heap.size)(KI:rs.length<=24)(sN:iL (kU rs s)+rs.length<=140737488355328)(ht:N.size=39)(ht0:N[0]?=Â (Ã<|Â ⟨ab,0,Á⟩)) (hJ:∀P,gL P->M5 l P ab n (wv rs s) V->iM vQ P (G (cf.at (y.put ((Q[i]?).bind (·.dst))<|ë #[Ä<|jb ⟨#[59]⟩<|kU rs s,Å É 0])<|Ð Q jJ::L) qX)) (md:Ŀ) (listed:Array Bool) (a:Ĉ) (l4:e9) (hI:II oG N (kl ab n sl v) (wz o (λb=>V b\/X b) rs s) listed a l4) (H:listed.size=oG.size) (I:ä md oG listed=[]): iM vQ l4 (G ((base 17).at a<|Ð oG []::[ax UE])<|cf.at y (Ð Q (i::jJ)::L)::qX):=by
 have hF:True:=trivial;let⟨x,D,g,_,hS⟩:=hI;have J:∀i∈ĳ 15,listed.getD i Ë=Î:=by
  cases md
  .exact pC I H (ĳ 15) [] fN λi c=>by cases c
  .exact λi c=>pC I H [0,1,2,3,4,5,6,7,8,9,10,11,13,12,14] [] fN (λi c=>by cases c) i (by have:=Ŷ.1 c;revert i;decide)
  .exact pC I H (ĳ 15) [] fN λi c=>by cases c
 obtain⟨l1,r,p,m,c,k1,rfl,hT⟩:=hS<|J 9 A;have h:=asy (rs:=rs) C El UF hl jH g.r k1 hT;let⟨F,ds⟩:=a;obtain rfl:ds=[]:=D.M;have S:F[0]?=Â (Ã<|Â ⟨ab,0,Á⟩):=(D.C A).trans ht0;have T:F[9]?=Â (Ç (Â ⟨r,0,Á⟩) rs.length rs.length):=D.r 13 CI 9 U (J 13 A) U;have W:F[10]?=Â (Ç p m c):=D.r 14 CJ 10 U (J 14 A) U;have Hw:F.size=39:=D.S.trans ht;clear D J hS hT k1 I H;obtain⟨u,rfl⟩:=xo F Hw;simp only[List.getElem?_toArray,Ī,List.getElem?_range,Nat.reduceLT,Ă,Ô]at S T W;simp only[ĳ,List.range.loop,List.map,S,T,W];clear S T W Hw;let⟨fr,mG,hfr⟩:=C.Y;let⟨M8,hab⟩:=h.r ab C.fl;have Y:l4.w.heap[ab]?=Â (Û #[Å É n,sl] 68 (0,0)):=by rw[hab,mG,hfr]
 have c1:l4.w.cell? ⟨ab,1,Á⟩=Â sl:=by simp[à,Y]
 have z1:l4.w.frozen? ⟨ab,1,Á⟩=Ë:=by simp[World.frozen?,Y]
 have BG:=g.q;apply mA;apply fP (n:=20) g.r.r;conv in UE=>whnf
 iterate 7 w_go fu
 refine ï λ_ _=> ?_;apply G5 (p:=ab) (off:=1) (v:=Ç p m c) (u:=sl) U U (by k_ne) g.r.r BG M8 c1 z1 U (λw z B=>by go_simp) (λw z B=>by simp[go_sem,events_store _ _ _ _ _ _ (show Value.oneCell' (Ç p m c)=Î from rfl),z,B]);have k5:=KQ (X:=λb=>b=ab) (p:=ab) (w':=l4.w.setCell ⟨ab,1,Á⟩<|Ç p m c) g.r (fE.fV _ _) M8 U ft.j2 λj hj=>ft.lu hj;have rQ:=k5.N g.r;have avi:(l4.w.setCell ⟨ab,1,Á⟩<|Ç p m c).heap.size=l4.w.heap.size:=ft.j2;have rJ:gL ({l4 with w:=l4.w.setCell ⟨ab,1,Á⟩ (Ç p m c)}:e9):=⟨rQ,g.d,g.q,g.rd,g.I,g.M,g.k⟩;have c0:l4.w.cell? ⟨ab,0,Á⟩=Â (Å É n):=by simp[à,Y]
 have asF:r≠ab:=λe=>by
  rcases ģ (kU rs s).length with q|q
  .have z:=h.C.2.1.C;rw[q,e,c0]at z;cases z
  .have B:=h.C.2.1.r 0 _<|Ó q;rw[e,c0]at B;cases B
 have ab4:(l4.w.setCell ⟨ab,1,Á⟩<|Ç p m c).heap[r]?=l4.w.heap[r]?:=ft.lu (a:=⟨ab,1,Á⟩) asF;have Ud:=h.C.2.1.I ab4;have Br:kV (l4.w.setCell ⟨ab,1,Á⟩<|Ç p m c) r=Â (0,0):=(wY ab4).trans h.C.2.2;have asG:lA r=Ë:=asB (C.r.r h.fw λb q=>(h.r b<|C.C b q).2) h.C.2.1;have hlen:(kU rs s).length=rs.length:=M7;apply fP (n:=20) rQ.r;iterate 4 w_go fu
 refine ï λ_ _=> ?_;refine wy (f:=38) (args:=#[Ç (Â ⟨r,0,Á⟩) rs.length rs.length,Ä ⟨#[59]⟩]) U fN (by k_ne) rQ.r (λw=>by go_simp) (λw=>ô U ē U U #[]) λw₁ E=> ?_;have M6:=rJ.C E;have asH:uY r (kU rs s) w₁:=Ud.I<|E.I r<|È h.C.1;refine ft.fh.lD ?_ (asD (xs:=kU rs s) M6 (Ì (by rw[ft.j2];exact h.fw) E.r) asH h.C.1 asG ((wY<|E.I r<|È h.C.1).trans Br) Z hlen U Z);rintro K g6 ⟨M,hd,rfl⟩;have UG:gL K:=jy.xH M6 M hd;have hk6:∀b,l4.O b->K.w.heap[b]?=(l4.w.setCell ⟨ab,1,Á⟩<|Ç p m c).heap[b]?:=λb q=>(M.r.I b<|È q).trans<|E.I b<|È q;have hs6:l4.w.heap.size<=K.w.heap.size:=by have z:=M.r.r;have B:=E.r;have h3:(l4.w.setCell ⟨ab,1,Á⟩<|Ç p m c).heap.size=l4.w.heap.size:=ft.j2;exact Ì (Nat.le_of_eq h3.symm)<|Ì B z
 have B:∀b,l4.O b->K.O b:=λb q=>M.O b q;generalize jb ⟨#[59]⟩ (kU rs s)=ans at*;walk_nrm;apply fP (n:=20) UG.r.r;repeat w_go fu
 u_in fu hF
 refine θ (t:=4) (u:=5) U U Ł U ⟨by u_nil,?_⟩;refine ï λ_ _=> ?_;refine .fA λwU z=>⟨UG.C z,U,hJ _ (UG.C z)<|asz C h g.r B (λb q=>(z.I b<|È<|B b q).trans<|hk6 b q)<|Ì hs6 z.r⟩
end
section
variable{l:e9}{s:List fI}
theorem asI{e:e9}{c:Nat->Prop}{g:List PR}(B:oh l j n s v X)(C:gw l)(D:oh e j n s v X)(k:gL e)(W:RQ g z c e.w)(Y:∀b,c b->e.O b)(hok:∀r∈g,uU r)(E:g.length<=24)(F:∀b,c b->l.w.heap.size<=b)(H:∀b,l.O b->e.O b/\e.w.heap[b]?=l.w.heap[b]?)(I:l.w.heap.size<=e.w.heap.size)(J:iL (kU g s)+g.length<=140737488355328)(t:d.size=39)(u:d[0]?=Â (Ã<|Â ⟨j,0,Á⟩))(K:d[6]?=Â z) (M:∀h,gL h->M5 l h j n (wv g s) X->iM vQ h (G (f.at (y.put ((Q[i]?).bind (·.dst))<|ë #[Ä<|jb ⟨#[59]⟩<|kU g s,Å É 0])<|Ð Q jJ::L) qX)): iM vQ e (G ((base 17).at ⟨d,[]⟩<|ax (.region 4 oG Î)::[ax UE])<|f.at y (Ð Q (i::jJ)::L)::qX):=by
 refine aso (II oG d (kl j n v z)<|wz e (λb=>X b\/c b) g s) k (λa x=> ?_) (λm o a l i jJ p N P=> ?_) λm o a l p S T=> ?_
 .refine⟨(ĸ,ĸ),lI.G _ _ _,k.C x,λ_=>(gh.fV k.r.r).G x,λq=> ?_⟩;exact absurd q A
 .by_cases V:i=9
  .grind [asv]
  .exact asq (asr D t u K m o a l i jJ p N V) (λN h q=>by let⟨x,_,q⟩:=q;exact q.1) P
 .exact asE B C F H I E J t u M m o a l p S T
def ab5(p:gL l)(r:oh l j n s v X)(I:B.size<=ī)(J:(gK B).1=0->iL (kU (gK B).2.2 s)+(gK B).2.2.length<=140737488355328) (t:∀z,gL z->M5 l z j n (lR s B).2.2 X->iM vQ z (G (f.at (y.put ((Q[i]?).bind (·.dst))<|ë #[Ä (lR s B).1,Å É (lR s B).2.1])<|Ð Q jJ::L) qX)): iM vQ l (G (è À 17 #[Ã<|Â ⟨j,0,Á⟩,Ä B] Ą)<|f.at y (Ð Q (i::jJ)::L)::qX):=by
 have hF:=trivial;rw[wx [_,_] 37 Ł];simp only[ą,Đ,ę];conv in kY _ _=>whnf
 apply mA;apply fP (n:=20) p.r.r;iterate 8 w_go fu
 refine ï λ_ _=> ?_;refine wy (f:=36) (args:=#[Ä B]) U fN (by k_ne) p.r.r (λw=>by go_simp) (λw=>ô U ļ U U #[]) λw₁ m=> ?_;have C:=p.C m;refine ft.fh.lD ?_<|abV C.r C.q (Ì r.r.fw m.r) I Î _ _;rintro u g1 ⟨x,K,a,rfl,M⟩;have g:=jy.xH C x K;have h:∀b,l.O b->u.O b/\u.w.heap[b]?=l.w.heap[b]?:=λb q=>⟨x.O b q,(x.r.I b<|È q).trans<|m.I b<|È q⟩;have F:=Ì m.r x.r.r;rw[Ě];by_cases k:(gK B).1=0
 .have D:lR s B=(jb ⟨#[59]⟩<|kU (gK B).2.2 s,0,wv (gK B).2.2 s):=if_pos k;let⟨c,N,E⟩:=M k;have P:=J k;rw[D]at t;obtain⟨S,T⟩:=IN;rw[k];generalize(gK B).2.2=rs at*;generalize(gK B).2.1=UH at*;walk_nrm;apply fP (n:=40) g.r.r;repeat w_go fu
  refine ï λ_ _=> ?_;refine .fA λo d=>⟨g.C d,U,?_⟩;have V:=g.C d;have e:∀b,l.O b->({u with w:=o}:e9).O b/\o.heap[b]?=l.w.heap[b]?:=λb q=>⟨(h b q).1,(d.I b<|È (h b q).1).trans (h b q).2⟩;have H:=Ì F d.r;have W:=r.N (λb q=>(e b q).1) (λb q=>(e b q).2) H;have Y:=N.r λb q=>d.I b<|È (E b q).1;have hQ3:=λb q=>(E b q).1;have UF:=λb q=>Ì m.r (E b q).2;exact asI r p.r W V Y hQ3 S T UF e H P U U U t
 .have D:lR s B=(⟨#[]⟩,(gK B).1,s):=if_neg k;rw[D]at t;have c:((gK B).1 !=0)=Î:=by rwa[bne_iff_ne]
  generalize(gK B).1=er at*;generalize(gK B).2.1=UH at*;walk_nrm;apply fP (n:=40) g.r.r;repeat w_go fu
  u_in fu hF
  refine θ U U Ł U ⟨by u_nil,?_⟩;refine ï λ_ _=> ?_;refine .fA λo d=>⟨g.C d,U,t _ (g.C d) ?_⟩;have e:∀b,l.O b->({u with w:=o}:e9).O b/\o.heap[b]?=l.w.heap[b]?:=λb q=>⟨(h b q).1,(d.I b<|È (h b q).1).trans (h b q).2⟩;exact⟨λb q _=>e b q,v,X,r.N (λb q=>(e b q).1) (λb q=>(e b q).2)<|Ì F d.r,λb q=>È q⟩
end
def M9(a:ByteArray)(c:a.size=1):∀b:List ByteArray,(jb a b).size<=iL b+b.length
 |[]=>Ø _
 |x::r=>by
  show(x.data.toList++nK a r).toArray.size<=_;have d:iL (x::r)=x.size+iL r:=by simp[iL]
  have e:x.data.toList.length=x.size:=by rw[ě];rfl
  simp only[ř,Ù,Mz a c r,d,e,ď];omega
def UI{M:Nat}(a:∀z∈vX,z.size<=M)(b:M<=100)(c:vX.length<=400000):(Cp vX).size<=100000000:=by
 unfold Cp;split
 .decide
 .have d:=M9 ⟨#[44]⟩ U vX;have e:=E3 vX a;have:M*vX.length<=100*400000:=ű b c;omega
theorem Fp(i:Nat):(nU i).size<=3:=by
 unfold nU oz;rw[ø];split
 .show 1+1<=3;decide
 .show 1+2<=3;decide
theorem ab6(s:gy.St)(x y:Nat)(k:Int):∀(m i:Nat),i+m<=1000->(oC s x y k i m).size<=20
 |0,i,_=>by unfold oC;decide
 |m+1,i,h=>by
  unfold oC;split
  .exact pI i Z
  .exact ab6 s x y k m (i+1) Z
theorem asJ(s t:gy.St):(pJ s t 8).length<=400000:=by
 unfold pJ;have a:∀l:List Nat,(l.flatMap<|ye s t).length<=18*l.length:=λl=>by
  induction l with
  |nil=>simp
  |cons i l b=>
   rw[List.flatMap_cons,Ù,ď];have:(ye s t i).length<=18:=by unfold ye;grind [Ù,Mv,aaG]
   omega
 grind
theorem asK{i:List (Nat×fI)}{q:Qn}(n:lE (ku i))(ok:q.Ok):(re i q).size<=100000000:=by
 unfold re;split
 .grind [Fp]
 .rename_i p o;let⟨b,f,v,w⟩:=n.r _<|Ú.2 ⟨p,Is o,U⟩;have j:∀u,u<18446744073709551616->(fJ u).size<=100000000:=λu r=>by have:=pI u r;omega
  unfold Cq;split
  .have c:=f.C q.x q.I;exact j _ (by have:=c.1;have:=c.2;omega)
  .split
   .have c:=f.fv q.x;exact j _ (by have:=c.1;have:=c.2;omega)
   .split
    .split
     .grind [Fp]
     .rename_i B;have l:gf (q.k:Int):=⟨Z,by have:=ok.k;omega⟩;have e:=L0 p.2.s [] q.x q.y q.g q.k f ok.x ok.y l Z Z (by simp;omega);unfold Co;have C:=e.r;have m:=e.M;have t:=e.I;simp at t;have D:=M9 ⟨#[44]⟩ U<|[fJ (gk p.2.s [] q.x q.y q.g q.k).C.toNat,fJ (gk p.2.s [] q.x q.y q.g q.k).M.toNat,fJ (gk p.2.s [] q.x q.y q.g q.k).r.toNat]++(gk p.2.s [] q.x q.y q.g q.k).I.map qZ;have E:=E3 (M:=21) ([fJ (gk p.2.s [] q.x q.y q.g q.k).C.toNat,fJ (gk p.2.s [] q.x q.y q.g q.k).M.toNat,fJ (gk p.2.s [] q.x q.y q.g q.k).r.toNat]++(gk p.2.s [] q.x q.y q.g q.k).I.map qZ) λz d=>by
       rcases â.1 d with h|h
       .simp at h;rcases h with rfl|rfl|rfl
        .have:=pI (gk p.2.s [] q.x q.y q.g q.k).C.toNat (by cases(gk p.2.s [] q.x q.y q.g q.k).C<;>decide);omega
        .have:=pI (gk p.2.s [] q.x q.y q.g q.k).M.toNat (by have:=m.1;have:=m.2;omega);omega
        .grind [pI]
       .obtain⟨e,a,rfl⟩:=Ú.1 h;exact MC ((TK p.2.s [] q.x q.y q.g q.k f ok.x ok.y l Z Z (by simp;omega) λ_ q=>by cases q) e a).2
      grind
    .split
     .grind [ab6]
     .split
      .have:=aaV<|ya p.2.s;have:=aaW<|16-(nL<|ya p.2.s).size;unfold Ab;rw[ø];omega
      .split
       .exact UI (λz d=>by obtain⟨e,a,rfl⟩:=Ú.1 d;exact MC (b.C e a).2) Z<|by rw[ù];exact b.I
       .split
        .exact UI (λz d=>by obtain⟨e,a,rfl⟩:=Ú.1 d;exact aaP (b.r e a).1 (b.r e a).2) Z (by rw[ù];have:=b.M;omega)
        .split
         .grind [Fp]
         .exact UI (aaX _ _) Z<|asJ _ _
theorem asL(a:List (Nat×fI))(v:Int)(x:Nat)(gJ:List Tx):(qY a v x gJ).2.size<=3:=by
 unfold qY;split
 .exact Fp 3
 .split
  .exact Fp 4
  .split
   .exact Fp 5
   .show(oz a.length).size<=3;unfold oz;split
    .show 1<=3;decide
    .show 2<=3;decide
def asM{s:List fI}{i:Int×Nat×List Tx}(h:lE s)(a:∀t∈i.2.2,t.Ok)(b:i.2.2.length<=1000):lE (Cu s i):= lE.M (by rwa[IA]) a b
def ab7{a:List PR}{s:List fI}(h:lE s)(b:∀r∈a,uU r):∀k,k<=(gZ (kT a) a.length).length->lE (pO (wq a) (gZ (kT a) a.length) s k)
 |0,_=>h
 |k+1,hk=>by
  have c:a.getD ((gZ (kT a) a.length).getD k 0) o5∈a:=ç (i:=(gZ (kT a) a.length).getD k 0) (by have q:=(HC<|vR (l:=gZ (kT a) a.length)<|show k<_ from hk).1;generalize(gZ (kT a) a.length).getD k 0=j at q;simp[Ğ,q]);have q:=b _ c;refine asM (ab7 h b k Z) (λt d=> ?_) ?_
  .obtain⟨x,t,rfl⟩:=Ú.1 d;exact toTx_ok<|q.C x t
  .show((a.getD _ o5).r.map toTx).length<=1000;rw[ù];have:=q.n;omega
def R4(kd:Nat->Int):∀{p R:Nat},p<=R->fK kd p<=(gZ kd R).length:=λ{p R} h=>by
 show(gZ kd p).length<=(gZ kd R).length
 induction h with
 |refl=>exact æ _
 |@step R _ ih=>
  by_cases q:kd R=1
  .rw[s8 q];simp;omega
  .rwa[vK q]
theorem ab8{a:List PR}{s:List fI}(h:lE s)(b:∀r∈a,uU r)(l:a.length<=24):iL (kU a s)+a.length<=2400000024:=by
 have d:=E3 (M:=100000000) (kU a s) λz c=>by
  unfold kU at c;obtain⟨p,e,rfl⟩:=Ú.1 c;have f:=Ŷ.1 e;have g:=ab7 h b (fK (kT a) p)<|R4 _ Z;unfold we;split
  .grind [Ì,asL]
  .rename_i j;have k:a.getD p o5∈a:=ç (i:=p) (by simp[Ğ,f]);exact asK (by rwa[IA])<|ab1 (b _ k) j
 rw[M7]at d;omega
def ab9{s:List fI}(h:lE s):iL (kU (gK B).2.2 s)+(gK B).2.2.length<=140737488355328:=Ì (ab8 h IN.1 IN.2) A
theorem asN{s:List fI}(h:lE s)(B:ByteArray):(lR s B).1.size<=10^12:=by
 unfold lR;split
 .have a:=M9 ⟨#[59]⟩ U<|kU (gK B).2.2 s;have b:=ab8 h (IN (B:=B)).1 IN.2;rw[M7]at a;grind
 .exact Ø _
def I0(c:Int):Int:=if c<0 then(-(c+1))%8 else c%8
def asO(c:Int)(b:-9223372036854775808<=c)(d:c<=9223372036854775807)(w:Í):Ò À 30 #[Å É c,Å É 8] w λe a=>e=Æ (Å É<|I0 c)/\a=w:=by
 unfold I0;by_cases h:c<0
 .rw[if_pos h];have e:-(c+1).tmod 8=(-(c+1))%8:=by rw[<-Int.neg_tmod,Int.tmod_eq_emod_of_nonneg Z]
  have H:=fc e.symm;clear e;go_enter ŧ,Ο;go_wp2;go_ret;exact⟨by rw[H.out];rfl,U⟩
 .rw[if_neg h];go_enter ŧ,Ο;go_wp2;go_ret;exact⟨U,U⟩
def Na(a:ü)(w:Í):Sem.events À (binOp BinOp.eql 26 (Ã<|Â a)<|Ã Á) w #[]=#[]:=fp
theorem I1{l:e9}(a:gL l)(p:nB<=l.w.heap.size){f:Ρ}{args:Array Ñ}{r:Ñ}(m:Ey f=Î)(s:∀v∈args.toList,fi (qf (λ_=>False) À.globals.size) v v)(t:∀{Y v},fi Y r v->v=r)(x:∀w,Ò À f args w λe y=>e=Æ r/\y=w)(n:Bool)(c:Ē)(i:List Ē): ft.fh À n (λk o=>jy l k/\k.d=l.d/\o=G (c.finish r) i) l (G (è À f args Ą)<|c::i):=by
 let⟨E,F,z,B⟩:=zE f m;have C:∀T,Ò À f args (World.tp (ll (λj=>False/\¬(mg l).O j) l.w) T 0) fun|Æ v,j=>v=r/\ko j|_,_=>False:=λT=>by refine(x _).mono ?_;grind [E7]
 refine((Et yw LH zE (λv u T D h=>h) m z B (Eu a.r) a.q (λb q=>q.elim) ⟨λb q=>q.elim,p⟩ (λg q=>by cases q) (pL s) C n c i).mg a.r).fO ?_;rintro k o ⟨D,⟨Y,j,v,H,_,_,g,rfl,b,_,_,h⟩,rfl,u,_,_,_⟩;rw[t g]at b;exact⟨u,h,b⟩
def UJ:ByteArray:=⟨#[98,48,58,97,59,98,48,58,104,59,117,48,59,98,49,58,97]⟩
def asP:(lR [gy.jv] UJ).1=⟨#[49,48,48,48,59,49,48,48,48,59,45,59,33,51]⟩:=fp
def asQ:(lR [gy.jv] UJ).2=(0,[gy.jv]):=fp
structure asR(l l':e9)(ab n:Nat)(sl:Ñ)(V:Nat->Prop):Prop where
 r:oh l' ab n [gy.jv] sl V
 C:∀b,l.O b->l'.O b/\l'.w.heap[b]?=l.w.heap[b]?
 I:l.w.heap.size<=ab
 M:∀b,V b->(b=1\/b=2\/b=3\/b=4)\/l.w.heap.size<=b
section
variable{l:e9}
def acd{J:Jd}{s:List fI}(c:gL l)(d:oh l j n s z X)(g:ft.fh À Î J l (G (f.at (y.put ((Q[i]?).bind (·.dst))<|Å É s.length)<|Ð Q jJ::L) qX)): ft.fh À Î J l (G (è À 22 #[Ã<|Â ⟨j,0,Á⟩] Ą)<|f.at y (Ð Q (i::jJ)::L)::qX):=by
 have hF:True:=trivial;obtain⟨a,b,rfl⟩:∃a b,z=Ç a s.length b:=by
  let⟨o,h,_,⟨a,k,b,e,_,m⟩,_⟩:=d.rd;have:k=s.length:=by rw[m.r,<-h];simp[ku]
  exact⟨a,b,by rw[e,this]⟩
 have o:s.length<=40:=by let⟨_,_,e,_⟩:=d.rd;exact e.C
 let⟨p,k,_⟩:=d.Y;have m:l.w.cell? ⟨j,1,Á⟩=Â (Ç a s.length b):=by simp[à,k]
 rw[wx [_] 7 Ũ];simp only[ą,Đ,ę];conv in kY _ _=>whnf
 refine fP (n:=20) c.r.r ?_;repeat w_go fu
 refine ï λ_ _=> ?_;refine pB (x:=⟨j,1,Á⟩) (v:=Ç a s.length b) U fN (by k_ne) c.r.r c.q (È<|È d.fl) m (λw h=>by go_simp) (λw h=>by simp[go_sem,h]) ?_;walk_nrm;refine fP (n:=20) c.r.r ?_;repeat w_go fu
 u_in fu hF
 refine Ŧ (t:=2) U U Ũ U ⟨by u_nil,?_⟩;refine ï λ_ _=> ?_;exact g
def asS(j:gL l)(p:mK l.w)(I:∀b,b=1\/b=2\/b=3\/b=4->l.O b)(c:Int)(tU:-9223372036854775808<=c)(Ah:c<=9223372036854775807) (hJ:∀J a n K V,gL J->asR l J a n K V->iM vQ J (G (f.at (y.put ((Q[i]?).bind (·.dst))<|Ã<|Â ⟨a,0,Á⟩)<|Ð Q jJ::L) qX)): iM vQ l (G (è À 15 #[Å É c] Ą)<|f.at y (Ð Q (i::jJ)::L)::qX):=by
 have hF:True:=trivial;rw[wx [_] 36 ι];simp only[ą,Đ,ę];conv in kY _ _=>whnf
 apply mA;apply fP (n:=20) j.r.r;repeat w_go fu
 refine ï λ_ _=> ?_;refine wy (f:=30) (args:=#[Å É c,Å É 8]) U fN (by k_ne) j.r.r (λw=>by go_simp) (λw=>ô U ŧ U U #[]) λw₁ r=> ?_;have T:=j.C r;refine ft.fh.lD ?_ (I1 T (Ì p.fw r.r) fN (λv h=>by simp at h;rcases h with rfl|rfl<;>exact .iD _ _) (λh=>by cases h;rfl) (asO c tU Ah) Î _ _);rintro s g1 ⟨u,hd,rfl⟩;obtain⟨z,hz,H5,Ep⟩:∃z,I0 c=z/\0<=z/\z<8:=⟨_,U,by unfold I0;split<;>omega,by unfold I0;split<;>omega⟩;rw[hz];have M:gL s:=jy.xH T u hd;have x:∀b,l.O b->s.O b/\s.w.heap[b]?=l.w.heap[b]?:=λb q=>⟨u.O b q,(u.r.I b<|È q).trans<|r.I b<|È q⟩;have B:l.w.heap.size<=s.w.heap.size:=Ì r.r u.r.r;rw[Ě];walk_nrm;refine fP (n:=20) M.r.r ?_;repeat w_go fu
 refine ï λ_ _=> ?_;have oR:É.wrap (1+z)=1+z:=Ļ _ ⟨Z,Z⟩;refine wy (f:=35) (args:=#[Å É<|1+z]) U fN (by k_ne) M.r.r (λw=>by go_simp) (λw=>ô U ζ U U #[]) λwU h=> ?_;have N:=M.C h;obtain⟨n,hn⟩:∃n:Nat,1+z=n:=⟨(1+z).toNat,Z⟩;rw[hn];refine ft.fh.lD ?_<|ar8 N.r N.q (Ì (Ì p.fw B) h.r) (n:=(n:Int)) Z Z Î _ _;rintro d g3 ⟨C,xt,a,K,rfl,mG,M8,hab,V,qR,hnV,W⟩;have g:gL d:=jy.xH N C xt;have k:∀b,l.O b->d.O b/\d.w.heap[b]?=l.w.heap[b]?:=λb q=>⟨C.O b (x b q).1,(C.r.I b<|È (x b q).1).trans<|(h.I b<|È (x b q).1).trans (x b q).2⟩;have X:l.w.heap.size<=d.w.heap.size:=Ì B<|Ì h.r C.r.r;have asT:l.w.heap.size<=a:=Ì B<|Ì h.r hab;have asU:∀b,b=1\/b=2\/b=3\/b=4->b<l.w.heap.size:=λb q=>j.r.fw b<|È<|I b q;have hin:oh d a n [gy.jv] K V:=⟨p.r (Ì p.fw X) λb q=>(k b<|I b q).2,λb q=>(k b<|I b q).1,mG,M8,qR,λb q=>(W b q).1,hnV,Z,Z,λq=>by have:=asU a q;omega⟩;have hVn:∀b,V b->l.w.heap.size<=b:=λb q=>Ì B<|Ì h.r (W b q).2;rw[Ě];walk_nrm;apply fP (n:=60) g.r.r;repeat w_go fu
 refine ï λ_ _=> ?_;apply nF (v:=õ Ë) U fN (by k_ne) g.r.r g.q (λw _=>by go_simp) (λw _ e m=>by simp[go_sem,Na]at m);walk_nrm;apply fP (n:=60) g.r.r;repeat w_go fu
 refine ï λ_ _=> ?_;refine .fA λY m=>⟨g.C m,U,?_⟩;have rJ:=g.C m;have asV:=hin.M m;have P:∀b,l.O b->({d with w:=Y}:e9).O b/\Y.heap[b]?=l.w.heap[b]?:=λb q=>⟨(k b q).1,(m.I b<|È (k b q).1).trans (k b q).2⟩;refine ym (f:=17) (args:=#[Ã<|Â ⟨a,0,Á⟩,Ä ⟨#[98,48,58,97,59,98,48,58,104,59,117,48,59,98,49,58,97]⟩]) rJ U fN (by k_ne) (λw=>by go_simp) (λw=>ô U Ł U U #[]) λace D=> ?_;change iM vQ _ (G (è À 17 #[Ã<|Â ⟨a,0,Á⟩,Ä UJ] Ą) _);refine ab5 (rJ.C D) (asV.M D) A (λ_=>ab9 abX) λl6 E acf=> ?_;rw[asQ]at acf|-;rw[asP];let⟨Kp,sl6,V6,acg,hV6⟩:=acf;have lr:∀b,l.O b->b≠a:=λb q e=>by have:=j.r.fw b<|È q;omega
 have F:∀b,l.O b->l6.O b/\l6.w.heap[b]?=l.w.heap[b]?:=λb q=>by let⟨o,H⟩:=Kp b (P b q).1<|lr b q;exact⟨o,H.trans<|(D.I b<|È (P b q).1).trans (P b q).2⟩
 have hV7:∀b,V6 b->(b=1\/b=2\/b=3\/b=4)\/l.w.heap.size<=b:=λb q=>by
  rcases hV6 b q with z|z|z
  .exact Ï<|hVn b z
  .exact È z
  .exact Ï<|Ì X<|Ì (Ì m.r D.r) z
 walk_nrm;apply mA;apply fP (n:=60) E.r.r;repeat w_go fu
 refine ï λ_ _=> ?_;refine wy (f:=22) (args:=#[Ã<|Â ⟨a,0,Á⟩]) U fN (by k_ne) E.r.r (λw=>by go_simp) (λw=>ô U Ũ U U #[]) λrO o=> ?_;apply acd (E.C o) (acg.M o);have S:=E.C o;have asW:=acg.M o;walk_nrm;apply fP (n:=60) S.r.r;repeat w_go fu
 u_in fu hF
 refine Ŧ (t:=2) U U ι U ⟨by u_nil,?_⟩;refine ï λ_ _=> ?_;exact .fA λavj H=>⟨S.C H,U,hJ _ a n sl6 V6 (S.C H) ⟨asW.M H,λb q=>⟨(F b q).1,(H.I b<|È (F b q).1).trans<|(o.I b<|È (F b q).1).trans (F b q).2⟩,asT,hV7⟩⟩
end
def ach{t:Tmp}(d:f.kind=Ą)(e:y.defers=[])(g:P.funcs[f.fn]?=Â s)(c:s.results=#[.tmp t])(h:P.inits.idxOf? f.fn=Á):stepG P Î (G {f.at y L with mode:=.returning} []) w=.ended (.done<|y.tmps.getD t ĸ) w:=by have i:=results_tmp c y.tmps P w;have j:=events_results_tmp (P:=P) (w:=w) c y.tmps;simp[G,stepG,unwind,doReturn,Frame.at,d,e,g,i,j,h,seen,GStep.after]
def asX{l:e9}(e:iM vQ l g)(a:gL l)(c:g.status=.running):sx vQ #[g] l.w Á #[]:=e a c (λ_=>False) 0 _ _ _ _ Á _ ⟨λx q=>q.elim,λ_ _ _ _ q=>q,Ø _⟩ (asa (P:=À) (J:=λ_ _=>True) (T:=.fA) U a.d a.q a.rd a.I a.M a.k (λb q=>a.r.fw b<|È q) c λ_ _=>trivial) a.d U
def aci(W:Í):e9:={O:=λb=>b<W.heap.size,I:=λ_=>False,r:=λ_=>False,N:=λ_=>False,K:=λ_=>False,d:=0,q:=False,w:=W}
def acj(W:Í):gL (aci W):= ⟨⟨λ_ _=>id,λ_ q=>q.elim,λ_ q=>q.elim (λz=>z.elim) λz=>z.elim,λ_ q=>q.elim id λz=>z.elim,λ_ q=>q.elim (λz=>z.elim) λz=>z.elim,λ_ q=>q.elim⟩,U,id,λ_=>id,λ_=>id,λ_=>id,λ_=>id⟩
structure nR(W w':Í):Prop where
 rv:∀b,b<W.heap.size->w'.heap[b]?=W.heap[b]?
 Dj:W.heap.size<=w'.heap.size
def asY(g:mK W):∀b,b=1\/b=2\/b=3\/b=4->b<W.heap.size:=λb q=>by let⟨c,a,h,_⟩:=g.C;have:=(á.1 h).1;omega
end Go.Proofs.Y.kH
