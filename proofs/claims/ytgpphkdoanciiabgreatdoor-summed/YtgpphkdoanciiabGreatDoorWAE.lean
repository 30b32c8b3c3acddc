import Derived.Test.YtgpphkdoanciiabGreatDoorWAD
import Derived.Lib.Bytealg
import Derived.WalkKit
import Derived.WalkSpells
import Derived.WalkLawsBesides
import Derived.Deep.Light
import Derived.WalkMore
import Derived.Deep.QuietTactic
import Derived.BigQuiet
import Derived.Conc.LeavingOf
import Derived.Conc.CrowdStepC
import Derived.Listen
import Derived.ProofKit
import Derived.Deep.Slices
set_option linter.all false
set_option maxRecDepth 1000000
set_option maxHeartbeats 8000000
open Go.Proofs.Tryz renaming prog->À,ntmps51->í,func51->ó,zeroCells286->ú,ntmps84->ÿ,func84->ą,func21->ē,results28->Ģ,underlying54->ĩ,func19->ļ,results19->Ľ,func13->Ł,ntmps144->Ŋ,ntmps131->ŋ,ntmps21->Ŏ,func144->Œ,func131->Ŗ,ntmps79->ŗ,ntmps19->Ř,func79->ť,func18->ŧ,func6->Ŷ,ntmps107->Ÿ,func107->Γ,ntmps85->Ι,ntmps80->Λ,ntmps28->Μ,func85->Υ,func80->Χ,func28->Ω,func17->ε,func20->ζ,ntmps6->θ,func12->ι,f21->ai
open Option renaming none->Á,some->Â,bind_eq_some_iff->Ü,bind_eq_bind->ê,map->ð,map_eq_some_iff->ò,isSome_none->ö,pure_def->Ā,map_some->ā,bind_some->ş
open Go.Value renaming pointer->Ã,string->Ä,int->Å,slice->Ç,tuple->ë,bool->õ,cells->Ĺ
open Go.Ending renaming returned->Æ
open Or renaming inl->È,inr->Ï
open Go.IntKind renaming i64->É,u64->ã,wrap_u64->Ć,wrap_i64->ŝ,u8->Ū
open And renaming intro->Ê
open Bool renaming false->Ë,true->Î,false_eq_true->ì,eq_iff_iff->Ę
open Nat renaming le_trans->Ì,zero_le->Ù,le_refl->æ,lt_of_lt_of_le->Ġ,eq_zero_or_pos->ģ,zero_add->œ,mul_le_mul->Ű
open Go renaming World->Í,Value->Ñ,Calls->Ò,Addr->û,bodyPost_ret->þ,Act->Ĉ,Goroutine->Ċ,TypeId->č,Frame->Ē,Oper->ĝ,TypeInfo->ħ,maxLen->ī,undef->ĸ,results->Ń,execOp->ś,runNT_fst->Ţ,run_underlying->ŭ,info_parts->Ů,heap_alloc_new->ų,Tape->ŷ,Trace->ż,runNT->ž,mem_ready->Α,wp_loop->Β,wpList_plain->Δ,yielded->Θ,cell_one_new->Κ,FuncId->Ξ,Code->Ο,storeCells->ν,resolve->ρ,builtin->ς,Program->ω,invoke->ar
open Go.Item renaming inRegion->Ð,code->ax
open List renaming getElem?_eq_getElem->Ó,getElem?_eq_some_iff->Õ,length_append->Ø,mem_map->Ú,eq_nil_of_length_eq_zero->Ý,mem_append->â,mem_of_getElem?->ç,setIfInBounds_toArray->é,length_map->ù,set_cons_zero->ü,set_cons_succ->ý,replicate->Ą,length_cons->ď,cons_append->Đ,mem_cons_of_mem->Ĕ,getElem?_of_mem->ĕ,append_nil->Ė,nil_append->ę,getElem_of_mem->Ĝ,getD->Ğ,getElem?_append_right->ğ,getElem?_append_left->Ĥ,extract_eq_take_drop->ĥ,mem_or_eq_of_mem_set->Ħ,take_add_one->Ĩ,getElem?_map->Ī,all_eq_true->ĭ,range->ĳ,set_append_right->Ĵ,length_pos_iff->Ņ,map_cons->ŉ,mem_singleton->ō,map_nil->Ő,append_assoc->ő,ext_getElem?->Ŕ,size_toArray->ř,length_take->Ś,map_toArray->Ŝ,mem_flatMap->Ş,length_nil->Ũ,mem_range->ŵ
open Option.some renaming injEq->Ô,inj->ag
open Go.Lib renaming byteCells->Ö,indexByte->Þ,strCells->į,hasPrefix->ź,TabIs->χ
open Go.Obj renaming cells->Û
open Go.World renaming cell?->ß,setCell->Ż,drew->ξ,var?->ο
open Go.Code renaming wp->à,wp_mono->İ,loop->ń,skip->aj
open Array renaming getElem?_eq_some_iff->á,getElem?_eq_getElem->å,mem_toList_iff->î,getElem_mem->Ă,length_toList->ě,size_setIfInBounds->Ĭ,getElem?_eq_none->ı,mem_of_getElem?->ĵ,getElem?_modify->Ķ,getElem?_toList->ķ,toList_extract->ĺ,replicate->ũ
open Go.Region renaming ready->ä,wanted->đ,Mode->Ŀ
open Go.Frame renaming enter->è,finish_at->Ě
open Go.Conc.Goes renaming stop->ï
open Go.Ground renaming phase->ñ,data->ĉ
open Go.Conc renaming events_call_body->ô,crowd->Į,goes_leave1->Ŧ,Good->Ν,goes_leave2->η,listed->ay
open ByteArray renaming size_append->ø,getElem_eq_getElem_data->ċ,size_extract->Č,data_extract->Ĳ,size->Ŭ,data->ů,extract->σ,mk->aB
open Go.CallKind renaming normal->ă
open Go.Region.linearise renaming go->ć
open Go.Great renaming wpList_runTo->Ď
open Go.Builtin renaming append_->ė,firstCells->Ō,lenOf->Ź,append->κ,zeroCells->φ
open Go.RowKit.Below renaming heap_setCell->ġ,heap_alloc->Š
open Go.IntWalk renaming i64_in->Ļ,i64_left->š
open Go.Made renaming word->ł,reckonStruct->ŕ,infoAt->ţ,mostCells->ű,reckon->Τ
open Int renaming toNat_of_nonneg->ņ,le_refl->Ť
open Go.Operand renaming tmp->ň
open Go.Result renaming andThen_ok->ŏ,andThen->Ų
variable{i n j b k m J j9 j7 j6:Nat}{w u W jX:Í}{v x z jQ:Ñ}{g:Ċ}{a p:û}{h c:Int}{e t T:č}{d q:Array Ñ}{P:ω}{y:Ĉ}{B:ByteArray}{X:Nat->Prop}{O:Option û}{l:List Ñ}{yQ:Bool}{K H:Ĉ->Í->Prop}{o:ĝ}{D:Nat->Nat}{E:Array Ċ}{L:List Go.Item}{jJ:List Nat}{qX:List Ē}{qJ:ż}{zX:Go.Loc->Prop}{zQ:List Int}{zJ:ħ}{xQ:ŷ}{xJ:Nat×Nat}{vX:List ByteArray}{vQ:Ñ->Í->Prop}{vJ:Go.Exit->Ĉ->Í->Prop}{Q:Array ĝ}{f:Ē}{F:Ξ}{s:Go.Func}
namespace Go.Proofs.Y.fV
open Go Go.Proofs Go.RowKit Go.Proofs.Y.Lift
def CG:Ο->Option Ο
 |ń c=>Â c
 |.seq a b=>match CG b with
  |some c=>Â c
  |none=>CG a
 |.block _ c=>CG c
 |.scope c=>CG c
 |.cond _ a b=>match CG b with
  |some c=>Â c
  |none=>CG a
 |_=>Á
noncomputable def MG:Ο:=(ai.body.bind kB).getD aj
noncomputable def MH:Ο:=(ai.body.bind CG).getD aj
def QE(k:Nat)(X:Ĉ->Í->Prop):Exit->Ĉ->Í->Prop
 |.exit i,a,w=>i=k/\X a w
 |_,_,_=>False
def mR(a:ByteArray)(b:List ByteArray):List UInt8:=b.flatMap λy=>a.data.toList++y.data.toList
def Fa(a:ByteArray):List ByteArray->List UInt8
 |[]=>[]
 |x::r=>x.data.toList++mR a r
def iQ(xs:List ByteArray):Nat:=(xs.map Ŭ).sum
def Ub(a b:List ByteArray):iQ (a++b)=iQ a+iQ b:=by simp[iQ]
def aaV(a:List ByteArray)(j:Nat):iQ (a.take j)<=iQ a:=by have h:=Ub (a.take j)<|a.drop j;simp_all
theorem MI(a:ByteArray)(c:a.size=1):∀b:List ByteArray,(mR a b).length=iQ b+b.length
 |[]=>rfl
 |x::r=>by
  have e:mR a (x::r)=(a.data.toList++x.data.toList)++mR a r:=U;have d:a.data.toList.length=1:=by simpa using c
  have f:x.data.toList.length=x.size:=ft
  have g:iQ (x::r)=x.size+iQ r:=by simp[iQ]
  rw[e,Ø,Ø,MI a c r,d,f,g,ď];omega
def Fb(a:Option û)(n b:Nat)(c:ByteArray)(m i:Int)(u:Nat->Ñ):Ĉ:=⟨#[Ç a n b,Ä c,u 2,u 3,u 4,Å É m,u 6,u 7,u 8,u 9,u 10,u 11,u 12,u 13,u 14,u 15,u 16,u 17,u 18,u 19,u 20,u 21,u 22,u 23,u 24,u 25,u 26,u 27,u 28,u 29,u 30,u 31,u 32,u 33,u 34,u 35,u 36,u 37,u 38,Ç a n b,Å É n,Å É i,u 42,u 43,u 44,u 45,u 46,u 47,u 48,u 49,u 50,u 51,u 52,u 53,u 54,u 55,u 56,u 57,u 58,u 59,u 60,u 61,u 62,u 63,u 64,u 65,u 66,u 67,u 68,u 69,u 70,u 71,u 72,u 73,u 74],[]⟩
def Fc(b:Option û)(n c:Nat)(d:ByteArray)(m i:Int)(a:Ĉ):Prop:=∃u,a=Fb b n c d m i u
def qH(a:Option û)(n c b:Nat)(d:ByteArray)(i:Int)(u:Nat->Ñ):Ĉ:=⟨#[u 0,Ä d,u 2,u 3,u 4,u 5,u 6,u 7,Ã<|Â ⟨b,0,Á⟩,u 9,u 10,u 11,u 12,u 13,u 14,u 15,u 16,u 17,u 18,u 19,u 20,u 21,u 22,u 23,u 24,u 25,u 26,u 27,u 28,u 29,u 30,u 31,u 32,u 33,u 34,u 35,u 36,u 37,u 38,u 39,u 40,u 41,u 42,u 43,u 44,u 45,u 46,u 47,u 48,u 49,u 50,u 51,u 52,u 53,u 54,u 55,u 56,u 57,u 58,u 59,u 60,u 61,u 62,Ç a n c,Å É n,Å É i,u 66,u 67,u 68,u 69,u 70,u 71,u 72,u 73,u 74],[]⟩
def Fe(c:Option û)(n d b:Nat)(e:ByteArray)(i:Int)(a:Ĉ):Prop:=∃u,a=qH c n d b e i u
section
variable{X:Ĉ->Í->Prop}{sep:ByteArray}{xs:List ByteArray}
def apg(u:Nat->Ñ)(m:Int)(b:∀a,Fc O n i sep m n a->X a w): à À MG (Exit.then K<|QE 1 X) (Fb O n i sep m n u) w:=by
 unfold Fb;conv=>arg 2;whnf
 go_wp2_with fail
 exact⟨U,b _ (gy _)⟩
def aph(u:Nat->Ñ)(m j:Nat)(f:j<n)(g:n<=1000000)(b c:Nat)(e:O=Â ⟨b,c,Á⟩)(x:ByteArray)(k:w.cell? ⟨b,c+j,Á⟩=Â (Ä x))(l:m+x.size<=140737488355328) (d:∀a,Fc O n i sep ((m+x.size:Nat):Int) ((j+1:Nat):Int) a->K a w): à À MG (Exit.then K<|QE 1 X) (Fb O n i sep m j u) w:=by
 unfold Fb;conv=>arg 2;whnf
 subst e;have H:=fi d;clear d;go_wp2_with fail;exact H.out _ (gy _)
def J1(O:Option û)(n i:Nat)(sep:ByteArray)(b:Nat)(xs:List ByteArray)(u:Í)(a:Ĉ)(w:Í):Prop:=
 ∃j:Nat,Fc O n i sep ((b+iQ (xs.take j):Nat):Int) j a/\j<=n/\w=u
def J1E(O:Option û)(n i:Nat)(sep:ByteArray)(b:Nat)(xs:List ByteArray)(u:Í)(a:Ĉ)(w:Í):Prop:=
 Fc O n i sep ((b+iQ xs:Nat):Int) n a/\w=u
def MJ(n:Nat)(a:Ĉ)(_:Í):Nat:=match a.tmps.getD 41 ĸ with
 |Å _ i=>n-i.toNat
 |_=>0
def aaW(b:Fc O n i sep h j y):MJ n y w=n-j:=by obtain⟨u,rfl⟩:=b;show n-(j:Int).toNat=_;simp
theorem apj(r:n=xs.length)(f:n<=1000000)(g:nJ O (kP xs) u)(s:j+iQ xs<=140737488355328)(a:Ĉ)(w:Í)(h:J1 O n i sep j xs u a w): à À MG (Exit.then (λb c=>J1 O n i sep j xs u b c/\MJ n b c<MJ n a w)<|QE 1<|J1E O n i sep j xs u) a w:=by
 obtain⟨b,d,t,rfl⟩:=h;rw[aaW d];obtain⟨c,rfl⟩:=d;by_cases k:b=n
 .subst k;refine apg c _ λa q=>⟨?_,U⟩;grind
 .obtain⟨x,e⟩:∃x,xs[b]?=Â x:=⟨_,Ó Z⟩;let⟨l,m,o,p⟩:=g b (Ä x) (by simp[kP,e]);have v:iQ (xs.take<|b+1)=iQ (xs.take b)+x.size:=by
   rw[Ĩ,e,Ub];simp[iQ]
  have y:=aaV xs<|b+1;refine aph c _ b Z f l m o x p Z λa q=>⟨⟨b+1,?_,Z,U⟩,by rw[aaW q];omega⟩;grind
def apk(u:Nat->Ñ)(c:∀a,Fe O n i b sep n a->X a w): à À MH (Exit.then K<|QE 3 X) (qH O n i b sep n u) w:=by
 unfold qH;conv=>arg 2;whnf
 go_wp2_with fail
 exact⟨U,c _ (gy _)⟩
def apl(c:Nat->Ñ)(j:Nat)(z:j<n)(B:n<=1000000)(d f:Nat)(p:O=Â ⟨d,f,Á⟩)(x:ByteArray)(q:u.cell? ⟨d,f+j,Á⟩=Â (Ä x))(l:List UInt8)(g:o0 u b (Ö l) w)(r:sep.size=1)(C:l.length+1+x.size<=140737488355328) (s:∀a k,Fe O n i b sep ((j+1:Nat):Int) a->o0 u b (Ö<|l++(sep.data.toList++x.data.toList)) k->K a k): à À MH (Exit.then K<|QE 3 X) (qH O n i b sep j c) w:=by
 unfold qH;conv=>arg 2;whnf
 subst p;have D:=g.r.r q id;have m:=Lib.byteCells_length l;have t:(Ö l++į sep).length=l.length+1:=by rw[Ø,m,Lib.strCells_length,r]
 have E:Ö l++į sep++į x=Ö (l++(sep.data.toList++x.data.toList)):=by simp[Ö,į]
 have H:=fi<|Ê g<|Ê s<|Ê m<|Ê t E;go_wp2_with (first
  |(go_at_call 38;refine(Ua v.out x<|by rw[H.out.2.2.2.1];omega).mono ?_;rintro e F ⟨rfl,o⟩;have y:=fi o;clear o)
  |(go_at_call 38;refine(Ua H.out.1 sep (by rw[H.out.2.2.1];omega)).mono ?_;rintro e F ⟨rfl,o⟩;have v:=fi o;clear o))
 apply H.out.2.1 _ _ (gy _);rw[<-H.out.2.2.2.2];exact y.out
def J2(O:Option û)(n i b:Nat)(sep:ByteArray)(c:List UInt8)(xs:List ByteArray)(u:Í)(a:Ĉ)(w:Í):Prop:=
 ∃j:Nat,Fe O n i b sep j a/\j<=n/\o0 u b (Ö<|c++mR sep (xs.take j)) w
def J2E(O:Option û)(n i b:Nat)(sep:ByteArray)(c:List UInt8)(xs:List ByteArray)(u:Í)(a:Ĉ)(w:Í):Prop:=
 Fe O n i b sep n a/\o0 u b (Ö<|c++mR sep xs) w
def MK(n:Nat)(a:Ĉ)(_:Í):Nat:=match a.tmps.getD 65 ĸ with
 |Å _ i=>n-i.toNat
 |_=>0
def aaX(c:Fe O n i b sep j y):MK n y w=n-j:=by obtain⟨u,rfl⟩:=c;show n-(j:Int).toNat=_;simp
theorem apm{d:List UInt8}(z:n=xs.length)(h:n<=1000000)(k:sep.size=1)(l:nJ O (kP xs) u)(B:d.length+iQ xs+n<=140737488355328)(a:Ĉ)(w:Í)(m:J2 O n i b sep d xs u a w): à À MH (Exit.then (λc e=>J2 O n i b sep d xs u c e/\MK n c e<MK n a w)<|QE 3<|J2E O n i b sep d xs u) a w:=by
 let⟨j,g,C,o⟩:=m;rw[aaX g];obtain⟨c,rfl⟩:=g;by_cases p:j=n
 .subst p;refine apk c λa q=>⟨q,?_⟩;grind
 .obtain⟨x,f⟩:∃x,xs[j]?=Â x:=⟨_,Ó Z⟩;let⟨r,s,t,v⟩:=l j (Ä x) (by simp[kP,f]);have D:iQ (xs.take<|j+1)=iQ (xs.take j)+x.size:=by
   rw[Ĩ,f,Ub];simp[iQ]
  have E:=aaV xs<|j+1;have y:(d++mR sep (xs.take j)).length=d.length+iQ (xs.take j)+j:=by grind [Ø,MI,Ś]
  have F:mR sep (xs.take<|j+1)=mR sep (xs.take j)++(sep.data.toList++x.data.toList):=by rw[Ĩ,f];simp[mR]
  refine apl c j Z h r s t x v _ o k (by rw[y];omega) λa e q G=>⟨⟨j+1,q,Z,?_⟩,by rw[aaX q];omega⟩;grind
end
section
variable{sep:ByteArray}{xs:List ByteArray}
def jl(sep:ByteArray)(xs:List ByteArray):ByteArray:=⟨(Fa sep xs).toArray⟩
def apn:Ò À 21 #[Ç O 0 i,Ä sep] w λe a=>e=Æ (Ä ⟨#[]⟩)/\fg fl w a:=by go_enter ē,Ŏ;go_wp2_with fail;go_ret;exact⟨U,fg.gd _ _⟩
def apo(a b:Nat)(x:ByteArray)(d:w.cell? ⟨a,b,Á⟩=Â (Ä x)):Ò À 21 #[Ç (Â ⟨a,b,Á⟩) 1 i,Ä sep] w λe c=>e=Æ (Ä x)/\fg fl w c:=by go_enter ē,Ŏ;go_wp2_with fail;go_ret;exact⟨U,fg.gd _ _⟩
theorem apq(k:Nat)(L:1<=k)(M:k<1000000)(c d:Nat)(N:k+1<=i)(C:sep.size=1)(x:ByteArray)(g:k=xs.length)(f:nJ (Â ⟨c,d,Á⟩) (kP<|x::xs) w)(D:iQ (x::xs)+(k+1)<=140737488355328): Ò À 21 #[Ç (Â ⟨c,d,Á⟩) (k+1) i,Ä sep] w λe b=>e=Æ (Ä<|jl sep<|x::xs)/\fg fl w b:=by
 have E:iQ (x::xs)=x.size+iQ xs:=by simp[iQ]
 have n:∀a,Fc (Â ⟨c,d,Á⟩) (k+1) i sep ((k+iQ ((x::xs).take 0):Nat):Int) (0:Nat) a->à À (ń MG) (QE 1<|J1E (Â ⟨c,d,Á⟩) (k+1) i sep k (x::xs) w) a w:=λa l=>
  Β (J1 (Â ⟨c,d,Á⟩) (k+1) i sep k (x::xs) w) (MJ<|k+1) ⟨0,l,Ù _,U⟩<|apj (by simp[g]) Z f Z
 have p:nJ (Â ⟨c,d+1,Á⟩) (kP xs) w:=λj u F=>by let⟨b,o,B,m⟩:=f (j+1) u (by simpa[kP]using F);grind
 have q:∀a W,Fe (Â ⟨c,d+1,Á⟩) k (i-1) w.heap.size sep (0:Nat) a->o0 w w.heap.size (Ö<|x.data.toList++mR sep (xs.take 0)) W->à À (ń MH) (QE 3<|J2E (Â ⟨c,d+1,Á⟩) k (i-1) w.heap.size sep x.data.toList xs w) a W:=λa W l o=>
  Β (J2 (Â ⟨c,d+1,Á⟩) k (i-1) w.heap.size sep x.data.toList xs w) (MK k) ⟨0,l,Ù _,o⟩<|apm g Z C p (by simp only[ě];have:x.data.size=x.size:=rfl;omega)
 let⟨_,_,G,r⟩:=f 0 (Ä x) U;cases G;have s:w.cell? ⟨c,d,Á⟩=Â (Ä x):=r;have t:x.data.toList++mR sep xs≠[]:=by grind [Ø,MI,Ũ]
 have O:(1:Int)<9223372036854775807/(k:Int):=by rw[Int.lt_iff_add_one_le,Int.le_ediv_iff_mul_le Z];omega
 have y:0<k+iQ (x::xs)/\k+iQ (x::xs)<=281474976710656:=Z
 have z:(Ö []).length+x.size<=140737488355328:=by simp[Ö];omega
 have H:=fi<|Ê n<|Ê q<|Ê y<|Ê z<|Ê t s;clear n q y z t r s f p g D E;generalize I:iQ (x::xs)=S at*;go_enter ē,Ŏ;go_wp2_with fail;refine İ ?_ (H.out.1 _ (gy _));rintro(_|_|_|_|_|_) a v hq;all_goals first|exact absurd hq id|skip
 obtain⟨rfl,b,rfl⟩:=hq;rw[I]at b;obtain⟨u,rfl⟩:=b;unfold Fb;go_wp2_with (first
  |(go_at_call 37;refine(ape ⟨æ _,fg.gL _ _ _ _,fp.N v [Ã Á,Ç Á 0 0] 100⟩ (k+S) H.out.2.2.1.1 H.out.2.2.1.2).mono ?_;rintro e J ⟨rfl,m⟩;have K:=m.r.r H.out.2.2.2.2.2 id;have B:=fi m;clear m)
  |(go_at_call 38;refine(Ua B.out x H.out.2.2.2.1).mono ?_;rintro e m ⟨rfl,B⟩;have J:=fi B;clear B))
 have K:o0 v v.heap.size (Ö<|x.data.toList++mR sep (xs.take 0)) m:=by have:=J.out;show o0 v v.heap.size (Ö<|x.data.toList++[]) m;rw[Ė];exact this
 refine İ ?_ (H.out.2.1 _ _ (gy _) K);rintro(_|_|_|_|_|_) a w3 hq;all_goals first|exact absurd hq id|skip
 obtain⟨rfl,b,o⟩:=hq;obtain⟨v,rfl⟩:=b;unfold qH;go_wp2_with (go_at_call 39;refine(apf (fi o).out H.out.2.2.2.2.1).mono ?_;rintro e P ⟨rfl,B⟩;have J:=fi B;clear B);go_ret;exact⟨U,J.out⟩
def Uc(a:n=xs.length)(f:n<=1000000)(g:n<=i)(h:sep.size=1)(b:nJ O (kP xs) w)(j:iQ xs+n<=140737488355328): Ò À 21 #[Ç O n i,Ä sep] w λe c=>e=Æ (Ä<|jl sep xs)/\fg fl w c:=by
 cases xs with
 |nil=>subst a;exact apn
 |cons x r=>
  let⟨c,d,k,l⟩:=b 0 (Ä x) U;subst k;cases r with
  |nil=>
   subst a;have e:jl sep [x]=x:=by show aB ((x.data.toList++[]).toArray)=x;rw[Ė]
   rw[e];exact apo c d x l
  |cons y r=>
   subst a;exact apq (r.length+1) Z (by simp at f;omega) c d g h x U b j
def apr(a:n=xs.length)(c:n<=1000000)(d:n<=i)(j:nJ O (kP xs) w)(f:iQ xs+n<=140737488355328): Ò À 107 #[Ç O n i] w λe b=>e=Æ (Ä<|if xs=[]then⟨#[45]⟩else jl ⟨#[44]⟩ xs)/\fg fl w b:=by
 have H:=fi<|Uc (sep:=⟨#[44]⟩) a c d U j f;by_cases b:xs=[]
 .subst b;have e:=a;subst e;rw[if_pos U];clear a f H c d;go_enter Γ,Ÿ;go_wp2_with fail;go_ret;exact⟨U,fg.gd _ _⟩
 .rw[if_neg b];have l:0<n:=by rw[a];exact Ņ.2 b
  have m:((n:Int)==0)=Ë:=by simp;omega
  clear a;generalize jl ⟨#[44]⟩ xs=z at*;go_enter Γ,Ÿ;go_wp2_with (go_at_call 21;apply H.out.mono;rintro e o ⟨rfl,g⟩;have k:=fi g;clear g);go_ret;exact⟨U,k.out⟩
end
def Ff{M:Nat}:∀(a:List ByteArray),(∀z∈a,z.size<=M)->iQ a<=M*a.length
 |[],_=>Ù _
 |x::r,h=>by
  have c:=Ff r λz b=>h z<|Ĕ _ b;have d:=h x ft;have e:iQ (x::r)=x.size+iQ r:=by simp[iQ]
  rw[e,ď,Nat.mul_add];omega
def ML{e:Nat×Int}(h:gq e.2):(su e).size<=21:=by unfold su;rw[ø];have:=ym e.1;have:=pM e.2.toNat (by have:=h.1;have:=h.2;omega);omega
def aaY{e:Int×Bool}(a:0<=e.1)(h:e.1<=400):(wy e).size<=41:=by unfold wy;rw[ø,ø];have:=pM e.1.toNat Z;have:=pM e.2.toNat (by cases e.2<;>decide);have:Ŭ ⟨#[58]⟩=1:=rfl;omega
section
variable{b:List ByteArray}
def aaZ{ty:č}{base:Nat}(b:P.underlying t=Â (.slice e))(d:P.info? e=Â zJ)(h:w.ownsRow base e j v n l)(a:Option û)(c:Nat): (ė #[t,t] ty #[v,Ç a 0 c]).run P w=.ok v w:=by
 have f:(Ō zJ.size 0<|Ç a 0 c).run P w=.ok #[] w:=by cases a<;>simp[Ō,loadCells,loadCellsFrom]
 rcases h.2 with⟨rfl,rfl⟩|⟨g,m,o,rfl,_,_,k,_⟩
 .simp[ė,ŭ b,sizeOf,typeInfo,d,Ź,f,ν]
 .simp[ė,ŭ b,sizeOf,typeInfo,d,Ź,f,k,ν]
def aps{r:Array ĝ}{t:List ĝ}(l:o.guard=Á)(s c:Operand) (m:o.op=.call {callee:=.builtin κ,args:=#[s,c],argTypes:=#[54,54]}) (d:iq u v vX w) (n:y.eval s=v) {base:Nat} (B:w.ownsRow base 9 1 x b.length (kP b)) (e:y.eval c=x) (I:vX.length+b.length<=1000000) (h:∀j k,iq u j (vX++b) k->wpList À r vJ t (y.put o.dst j) k):wpList À r vJ (o::t) y w:=by
 let⟨J,p,D,E,F⟩:=Ů Ai;rcases B.2 with⟨f,G⟩|⟨g,H,L,f,_⟩
 .have z:=Ý G;subst z;rw[f]at e;refine Δ l λK i=> ?_;have q:=aaZ (ty:=o.type) ĩ p d.fx Á 0;unfold Oper.wp ś;simp only[m,ρ,ar,ς,Sem.run_bind,Sem.run_pure,ŏ,Ŝ,ŉ,Ő,n,e,q];exact i _ _<|h v w<|by rwa[Ė]
 .by_cases C:b=[]
  .subst C;rw[f]at e;refine Δ l λK i=> ?_;have q:=aaZ (ty:=o.type) ĩ p d.fx (Â ⟨g,0,Á⟩) H;unfold Oper.wp ś;simp only[m,ρ,ar,ς,Sem.run_bind,Sem.run_pure,ŏ,Ŝ,ŉ,Ő,n,e,q,Ũ];exact i _ _<|h v w<|by rwa[Ė]
  .have K:=Ņ.2 C;refine Ck l s c 54 m ĩ p D E F U n d.fx ⟨g,0,Á⟩ (kP b) (e.trans f) K (by simp[kP]) (B.cells<|by rw[f];rfl) (λi q=>by unfold kP at q;obtain⟨z,_,rfl⟩:=Ú.1 q;rfl) (by unfold ī;omega) Z d.r.M ?_;intro j k z;refine h j k ⟨?_,d.r.C z.r λi M q=> ?_⟩
   .have:=z.fx;rwa[show kP vX++kP b=kP (vX++b) by simp[kP],show vX.length+b.length=(vX++b).length by simp]at this
   .have:=(d.fx.lt i q).1;omega
end
def iq.I(h:iq u (Ç O n i) vX w):nJ O (kP vX) w/\n=vX.length/\n<=i:=by
 rcases h.fx.2 with⟨b,d⟩|⟨g,f,k,b,_,_,d,_⟩
 .cases b;refine⟨λj x e=> ?_,d.symm,æ _⟩;rw[Ý d]at e;cases e
 .have e:n=vX.length:=by injection b
  subst e;injection b with _ _ h4;exact⟨nJ.r h.fx,U,by rwa[h4]⟩
def Ud(r:zW):ByteArray:=jl ⟨#[44]⟩<|[fG r.C.toNat,fG r.M.toNat,fG r.r.toNat]++r.I.map su
theorem apt(x y:Nat)(g k:Int)(b c:Nat)(a:Bool)(f:List (Nat×Int))(M:b<18446744073709551616)(N:c<18446744073709551616)(V:f.length<=400000)(W:yj f)(X:lU w) (T:Ò À 142 #[Ã<|Â ⟨i,0,Á⟩,Å É x,Å É y,Å ã g,Å ã k] w λe j=>∃C,e=Æ (ë #[.agg #[Å ã b,õ a,Å ã c],C])/\j.ownsRow 0 250 2 C f.length (kr f)/\fg fl w j): Ò À 103 #[Ã<|Â ⟨i,0,Á⟩,Å É x,Å É y,Å ã g,Å ã k] w λe j=>e=Æ (Ä<|jl ⟨#[44]⟩<|[fG a.toNat,fG c,fG b]++f.map su)/\fg fl w j:=by
 have O:a.toNat<18446744073709551616:=by cases a<;>decide
 have H:=fi<|Ê T<|Ê X W;go_enter Tryz.func103,Tryz.ntmps103;go_wp2_with (go_at_call 142;apply H.out.1.mono;rintro e l ⟨C,rfl,q,d⟩;obtain⟨B,S,rfl⟩:=jN q;have D:=fi<|Ê d q;clear d q);change à À _ _ _ (l.alloc<|Û #[Å ã b,õ a,Å ã c] 245);have E:=(fg.gL fl l #[Å ã b,õ a,Å ã c] 245).fj<|fg.fY _ _;have F:=(H.out.2.1.r D.out.1).r E;have p:=(fp.N l [Å ã b,õ a,Å ã c] 245).I (fg.fY fl _) id;have P:=D.out.1.fj E;have Y:=im D.out.2 E λ_ _=>id;refine mE (λj=>j.cell? ⟨l.heap.size,0,Á⟩=Â (Å ã b)/\j.cell? ⟨l.heap.size,1,Á⟩=Â (õ a)/\j.cell? ⟨l.heap.size,2,Á⟩=Â (Å ã c)) [] fv ?_;have m:=fi<|Ê (p.r 0 _ rfl)<|Ê (p.r 1 _ rfl)<|p.r 2 _ rfl;generalize l.heap.size=ob at*;generalize ξ (l.alloc<|Û #[Å ã b,õ a,Å ã c] 245)=w5 at*;iterate 3 apply tk m.out
 apply tk m.out 5;apply tk m.out 6;apply tk m.out 8;apply tk m.out 9;apply tk m.out 10;apply gG 3;intro K d;go_simp;go_at_call 143;refine(Ia _ _).mono ?_;rintro e w2 ⟨rfl,qU⟩;subst w2;rw[aaN];apply d.out _ _ λ_=>m.out;apply gG 4;intro K d;go_simp;go_at_call 102;refine(yk a.toNat O _ F).mono ?_;rintro e wa ⟨rfl,r⟩;have s:=p.I r id;have Q:=F.r r;apply d.out _ _ λ_=>⟨s.r 0 _ U,s.r 1 _ U,s.r 2 _ U⟩;apply gG 7;intro K d;go_simp;go_at_call 102;refine(yk c N _ Q).mono ?_;rintro e wb ⟨rfl,t⟩;have u:=s.I t id;have Pb:=Q.r t;apply d.out _ _ λ_=>⟨u.r 0 _ U,u.r 1 _ U,u.r 2 _ U⟩;apply gG 11;intro K d;go_simp;go_at_call 102;refine(yk b M _ Pb).mono ?_;rintro e n ⟨rfl,G⟩;have v:=u.I G id;have o:=v.I (fg.gL fl n #[Ä<|fG a.toNat,Ä<|fG c,Ä<|fG b] 9) id;apply d.out _ _ λ_=>⟨v.r 0 _ U,v.r 1 _ U,v.r 2 _ U⟩;apply gG 12;intro K d;go_simp;apply d.out _ _ λ_=>⟨o.r 0 _ U,o.r 1 _ U,o.r 2 _ U⟩;apply gG 13;intro K d;go_simp;apply d.out _ _ λ_=>⟨o.r 0 _ U,o.r 1 _ U,o.r 2 _ U⟩;refine mg fv ?_ _;have I:fg fl w5 (n.alloc<|Û #[Ä<|fG a.toNat,Ä<|fG c,Ä<|fG b] 9):=((r.fj t).fj G).fj<|fg.gL _ _ _ _;have T6:iq w (Ç (Â ⟨n.heap.size,0,Á⟩) 3 3) [fG a.toNat,fG c,fG b] (n.alloc<|Û #[Ä<|fG a.toNat,Ä<|fG c,Ä<|fG b] 9):=⟨World.ownsRow_lit n #[Ä<|fG a.toNat,Ä<|fG c,Ä<|fG b] 3 (Ì P.M ((r.fj t).fj G).M) (by unfold ī;omega) U,P.fj I⟩;have L6:=im Y I λ_ _=>id;have P6:=F.r I;have J:=fi<|Ê T6<|Ê L6 P6;generalize n.alloc (Û #[Ä<|fG a.toNat,Ä<|fG c,Ä<|fG b] 9)=w6 at*;generalize n.heap.size=tb at*;have kh:∀z∈[fG a.toNat,fG c,fG b]++f.map su,z.size<=21:=λz hz=>by
  rcases â.1 hz with q|q
  .have h1:=pM a.toNat O;have h2:=pM c N;have B:=pM b M;grind
  .obtain⟨e,B,rfl⟩:=Ú.1 q;exact ML (H.out.2.2 e B).2
 have sV:=Ff _ kh;have hlen:([fG a.toNat,fG c,fG b]++f.map su).length=3+f.length:=by simp;omega
 have L:=fi<|Ê sV hlen;go_wp2_with (first
  |(go_at_call 108;refine(aaM U V H.out.2.2 J.out.2.2<|nJ.r J.out.2.1).mono ?_;rintro e B ⟨lt,rfl,q⟩;obtain⟨ta,tc,rfl⟩:=jN q.fx;rw[ù]at q;have S:=fi q;clear q)
  |(at_builtin;refine aps U _ _ U (J.out.1.fP S.out.r) U S.out.fx U (by simp;omega) ?_;intro cv w8 B;obtain⟨ca,cc,rfl⟩:=jN B.fx;generalize([fG a.toNat,fG c,fG b]++f.map su).length=cn at B|-;have q:=fi B;clear B)
  |(go_at_call 21;refine(Uc q.out.I.2.1 (by have:=q.out.I.2.1;rw[this,L.out.2];omega) q.out.I.2.2 U q.out.I.1 (by have:=q.out.I.2.1;have h1:=L.out.1;have h2:=L.out.2;omega)).mono ?_;rintro e w9 ⟨rfl,B⟩;have S:=fi B;clear B))
 go_ret;exact⟨U,q.out.r.fj S.out⟩
def apu{s:St}(v:mF i s h w)(b:gM s)(z:iP w)(B:lU w)(x y:Nat)(g k:Int)(c:x<8)(d:y<8)(f:0<=g)(j:g<=100000)(l:gq k): Ò À 103 #[Ã<|Â ⟨i,0,Á⟩,Å É x,Å É y,Å ã g,Å ã k] w λe q=>e=Æ (Ä<|Ud<|gw s [] x y g k)/\fg fl w q:=by have T:=aaJ v b z x y g k c d f j l _ U;have e:=Mb s [] x y g k b c d l f j (by simp;omega);have m:=TS s [] x y g k b c d l f j (by simp;omega) (λ_ q=>by cases q);obtain⟨q,o,a,t,p,C⟩:∃q o a t p,gw s [] x y g k=⟨q,o,a,t,p⟩:=⟨_,_,_,_,_,U⟩;rw[C]at T e m|-;have D:=e.C;have E:=e.r;have r:=e.M;have u:=e.I;simp only at D E r u m T;obtain⟨F,rfl⟩:∃n:Nat,q=n:=⟨q.toNat,Z⟩;obtain⟨G,rfl⟩:∃n:Nat,a=n:=⟨a.toNat,by have:=r.1;omega⟩;exact apt x y g k F G o p Z (by have:=r.2;omega) (by simp at u;omega) m B T
def qA(w:Í):Prop:=w.cell? ⟨4,15,Á⟩=Â (Å Ū 4)
def qA.r(h:qA w)(k:fg fl w u):qA u:=k.r h id
def apv(c:qA w):Ò À 191 #[Å ã 16] w λe a=>e=Æ (Å É 4)/\a=w:=by
 unfold qA at c;have b:ã.wrap (bits BinOp.and ã 16 (ã.wrap<|-16)*285870213051353865)/288230376151711744=15:=A
 go_enter Tryz.func191,Tryz.ntmps191;go_wp2;go_ret;exact⟨U,U⟩
def tz(c:qA w):Ò À 185 #[Å ã 16] w λe a=>e=Æ (Å É 4)/\a=w:=by go_enter Tryz.func185,Tryz.ntmps185;go_wp2_with (go_at_call 191;refine(apv c).mono ?_;rintro e a ⟨rfl,b⟩;subst a);go_ret;exact⟨U,U⟩
def apw:Ò À 184 #[Å É 16] w λe a=>e=Æ (õ Î)/\a=w:=by
 have b:bits BinOp.and É 16 15=0:=A
 go_enter Tryz.func184,Tryz.ntmps184;go_wp2;go_ret;simp_all
def pN(d:Nat):UInt8:=if h:d<36 then(⟨#[48,49,50,51,52,53,54,55,56,57,97,98,99,100,101,102,103,104,105,106,107,108,109,110,111,112,113,114,115,116,117,118,119,120,121,122]⟩:ByteArray)[d]'h else 0
def vd:Nat->Nat->List UInt8->List UInt8
 |0,_,acc=>acc
 |k+1,n,acc=>if n<16 then pN n::acc else vd k (n/16) (pN (n%16)::acc)
def aa0:∀k n a,(vd k n a).length<=k+a.length
 |0,_,a=>by simp[vd]
 |k+1,n,a=>by
  unfold vd;split
  .simp;omega
  .have:=aa0 k (n/16)<|pN (n%16)::a;simp at this;omega
noncomputable def MN:Ο:=(Tryz.f174.body.bind kB).getD aj
def Fg(a:Nat)(n i:Int)(u:Nat->Ñ):Ĉ:=⟨#[u 0,Å ã n,Å É 16,õ Ë,õ Ë,u 5,u 6,u 7,u 8,u 9,Ç Á 0 0,u 11,Ã<|Â ⟨a,0,Á⟩,Å É i,Å ã 4,Å ã 16,Å ã 15,u 17,u 18,u 19,u 20,u 21,u 22,u 23,u 24,u 25,u 26,u 27,u 28,u 29,u 30,u 31,u 32,u 33,u 34,u 35,u 36,u 37,u 38,u 39,u 40,u 41,u 42,u 43,u 44,u 45,u 46,u 47,u 48,u 49,u 50,u 51,u 52,u 53,u 54,u 55,u 56,u 57,u 58,u 59,u 60,u 61,u 62,u 63,u 64,u 65,u 66,u 67,u 68,u 69,u 70,u 71,u 72,u 73,u 74,u 75,u 76,u 77,u 78,u 79,u 80,u 81,u 82,u 83,u 84,u 85,u 86,u 87,u 88,u 89,u 90,u 91,u 92,u 93,u 94,u 95,u 96,u 97,u 98,u 99,u 100,u 101],[]⟩
def Fh(b:Nat)(n i:Int)(a:Ĉ):Prop:=∃u,a=Fg b n i u
def zc(i:Nat)(a:List UInt8):List Ñ:=Ą i (Å Ū 0)++Ö a
def aa1(i:Nat)(a:List UInt8):(zc i a).length=i+a.length:=by simp[zc,Ö]
theorem aa2(i:Nat)(a:List UInt8)(c:UInt8):(zc (i+1) a).set i (Å Ū c.toNat)=zc i (c::a):=by unfold zc;rw[List.replicate_succ',ő,Ĵ _ _ ft];simp[Ö]
section
variable{X:Ĉ->Í->Prop}
def apx(u:Nat->Ñ)(n b:Nat)(d:n<16)(c:∀a,Fh i n b a->X a w): à À MN (Exit.then K<|QE 0 X) (Fg i n b u) w:=by
 unfold Fg;conv=>arg 2;whnf
 go_wp2_with fail
 exact⟨U,c _ (gy _)⟩
def apy(u:Nat->Ñ)(n b:Nat)(g:16<=n)(j:n<18446744073709551616)(k:b<65)(v:Ñ)(c:w.cell? ⟨i,b,Á⟩=Â v)(l:w.frozen? ⟨i,b,Á⟩=Ë) (e:∀a,Fh i ((n/16:Nat):Int) b a->K a (w.setCell ⟨i,b,Á⟩<|Å Ū (pN<|n%16).toNat)): à À MN (Exit.then K<|QE 0 X) (Fg i n ((b+1:Nat):Int) u) w:=by
 unfold Fg;conv=>arg 2;whnf
 have m:bits BinOp.and ã (n:Int) 15=((n%16:Nat):Int):=by have:=(bits_nat ã 64 A (λn f H=>by rw[Ć];omega) n 15 Z A).1;rwa[show(15:Nat)=2^4-1 from rfl,Nat.and_two_pow_sub_one_eq_mod]at this
 have f:n%16<36:=Z
 have o:(⟨#[48,49,50,51,52,53,54,55,56,57,97,98,99,100,101,102,103,104,105,106,107,108,109,110,111,112,113,114,115,116,117,118,119,120,121,122]⟩:ByteArray)[n%16]'f=pN (n%16):=by unfold pN;rw[dif_pos f]
 have H:=fi e;clear e;generalize p:n%16=d at*;go_wp2_with fail;exact H.out _ (gy _)
def XI(i:Nat)(u:Í)(d:List UInt8)(a:Ĉ)(w:Í):Prop:=
 ∃(n b:Nat) (c:List UInt8),Fh i n b a/\50<=b/\b+c.length=65/\n<16^(b-49)/\n<18446744073709551616/\fg (λk=>k=i) u w/\fp i (zc b c) 286 w/\vd (b-49) n c=d
def XE(i:Nat)(u:Í)(d:List UInt8)(a:Ĉ)(w:Í):Prop:=
 ∃(n b:Nat) (c:List UInt8),Fh i n b a/\n<16/\50<=b/\b+c.length=65/\fg (λk=>k=i) u w/\fp i (zc b c) 286 w/\pN n::c=d
def MO(a:Ĉ)(_:Í):Nat:=match a.tmps.getD 1 ĸ with
 |Å _ i=>i.toNat
 |_=>0
def aa3(b:Fh i n j y):MO y w=n:=by obtain⟨u,rfl⟩:=b;show(n:Int).toNat=_;simp
theorem apz{h:List UInt8}(a:Ĉ)(w:Í)(o:XI i u h a w): à À MN (Exit.then (λb c=>XI i u h b c/\MO b c<MO a w)<|QE 0<|XE i u h) a w:=by
 let⟨n,b,f,l,p,r,s,t,m,e,d⟩:=o;rw[aa3 l];obtain⟨c,rfl⟩:=l;obtain⟨j,rfl⟩:∃j,b=j+1:=⟨b-1,Z⟩;have x:j+1-49=(j-49)+1:=Z
 rw[x]at d s;unfold vd at d;by_cases g:n<16
 .rw[if_pos g]at d;exact apx c n (j+1) g λa q=>⟨n,j+1,f,q,g,p,r,m,e,d⟩
 .rw[if_neg g]at d;have y:50<=j:=by
   grind
  have C:(zc (j+1) f).length=65:=by rw[aa1];omega
  obtain⟨v,z⟩:∃v,(zc (j+1) f)[j]?=Â v:=⟨_,Ó Z⟩;have B:n/16<16^(j-49):=by grind
  refine apy c n j Z t Z v (e.r j v z) (e.C j) λa q=>⟨⟨n/16,j,pN (n%16)::f,q,y,by simp;omega,B,Z,m.fj (fg.I (X:=λk=>k=i) U _<|Ï e.G),?_,d⟩,by rw[aa3 q];omega⟩;have:=e.fR j<|Å Ū (pN<|n%16).toNat;grind [aa2]
end
def apA:ú=(zc 65 []).toArray:=fv
def nK(n:Nat):ByteArray:=⟨(vd 16 n []).toArray⟩
theorem apB(n:Nat)(l:n<18446744073709551616)(o:qA w):Ò À 174 #[Ç Á 0 0,Å ã n,Å É 16,õ Ë,õ Ë] w λe p=>e=Æ (ë #[Ç Á 0 0,Ä<|nK n])/\fg fl w p:=by
 have L:∀a,Fh w.heap.size n (65:Nat) a->à À (ń MN) (QE 0<|XE w.heap.size (w.alloc<|Û ú 286)<|vd 16 n []) a (w.alloc<|Û ú 286):=λa r=>
  Β (XI w.heap.size (w.alloc<|Û ú 286)<|vd 16 n []) MO ⟨n,65,[],r,Z,U,by show n<16^16;omega,l,fg.gd _ _,by rw[apA];exact fp.N w (zc 65 []) 286,U⟩ apz
 have H:=fi<|Ê o L;unfold nK;generalize vd 16 n []=res at*;go_enter Tryz.func174,Tryz.ntmps174;go_wp2_with (first
  |(go_at_call 184;refine apw.mono ?_;rintro e b ⟨rfl,c⟩;subst b)
  |(go_at_call 185;refine(tz (H.out.1.r kp)).mono ?_;rintro e b ⟨rfl,c⟩;subst b))
 refine İ (Q:=QE 0<|XE w.heap.size (w.alloc<|Û ú 286) res) ?_ (H.out.2 _ (gy _));rintro(_|_|_|_|_|_) a v hq;all_goals first|exact absurd hq id|skip
 obtain⟨rfl,m,i,c,s,E,F,G,x,b,d⟩:=hq;obtain⟨u,rfl⟩:=s;unfold Fg;obtain⟨j,rfl⟩:∃j,i=j+1:=⟨i-1,Z⟩;have I:(zc (j+1) c).length=65:=by rw[aa1];omega
 obtain⟨z,y⟩:∃z,(zc (j+1) c)[j]?=Â z:=⟨_,Ó Z⟩;have J:=b.r j z y;have K:=b.C j;have M:(0:Int)<=(j:Int):=Z
 have N:(j:Int)<65:=Z
 have O:(j:Int)<=65:=Z
 have S:(0:Int)<=(m:Int):=Z
 have T:(m:Int)<36:=Z
 have f:m<36:=Z
 have V:(⟨#[48,49,50,51,52,53,54,55,56,57,97,98,99,100,101,102,103,104,105,106,107,108,109,110,111,112,113,114,115,116,117,118,119,120,121,122]⟩:ByteArray)[m]'f=pN m:=by unfold pN;rw[dif_pos f]
 have B:=(fg.gL fl w ú 286).C x λi C q=>by omega
 have g:=b.fR j<|Å Ū (pN m).toNat;rw[aa2,d]at g;have D:fg fl w (v.setCell ⟨w.heap.size,j,Á⟩<|Å Ū (pN m).toNat):=B.C (fg.I (X:=λk=>k=w.heap.size) U _<|Ï b.G) λi C q=>by omega
 have W:res.length=65-j:=by rw[<-d];simp;omega
 have Y:(convert 98 9<|Ç (Â ⟨w.heap.size,j,Á⟩) (65-j)<|65-j).run À (v.setCell ⟨w.heap.size,j,Á⟩<|Å Ū (pN m).toNat)=.ok (Ä ⟨res.toArray⟩) (v.setCell ⟨w.heap.size,j,Á⟩<|Å Ū (pN m).toNat):=by have h:=run_convert_bytes_back (P:=À) (v.setCell ⟨w.heap.size,j,Á⟩<|Å Ū (pN m).toNat) 98 9 5 ⟨w.heap.size,j,Á⟩ (65-j) res fv fv fv (λt k=>by rw[Addr.add_mid];apply g.r (j+t) _;unfold zc;rw[ğ ft];simp[Ö,Ó k]);grind
 have k:=fi D;go_wp2;go_ret2;simp_all
def apC(n:Nat)(b:n<18446744073709551616)(c:qA w):Ò À 156 #[Å ã n,Å É 16] w λe a=>e=Æ (Ä<|nK n)/\fg fl w a:=by go_enter Tryz.func156,Tryz.ntmps156;go_wp2_with (go_at_call 174;refine(apB n b c).mono ?_;rintro e a ⟨rfl,d⟩);go_ret;exact⟨U,d⟩
def apD(n:Nat)(b:n<18446744073709551616)(c:qA w):Ò À 141 #[Å ã n,Å É 16] w λe a=>e=Æ (Ä<|nK n)/\fg fl w a:=by go_enter Tryz.func141,Tryz.ntmps141;go_wp2_with (go_at_call 156;refine(apC n b c).mono ?_;rintro e a ⟨rfl,d⟩);go_ret;exact⟨U,d⟩
def apE(s:ByteArray)(w:Í)(h:s.data.toList.head?=Â 48):Ò À 159 #[Ä s,Ä ⟨#[48]⟩] w λe b=>e=Æ (õ Î)/\b=w:=by
 have H:=Tryz.strings_HasPrefix s ⟨#[48]⟩ w;have e:ź s.data.toList (ů ⟨#[48]⟩).toList=Î:=by
  generalize s.data.toList=l at h;cases l with
  |nil=>cases h
  |cons a r=>cases h;rfl
 rwa[e]at H
def apF(s:ByteArray)(w:Í)(h:¬s.data.toList.head?=Â 48):Ò À 159 #[Ä s,Ä ⟨#[48]⟩] w λe b=>e=Æ (õ Ë)/\b=w:=by
 have H:=Tryz.strings_HasPrefix s ⟨#[48]⟩ w;have e:ź s.data.toList (ů ⟨#[48]⟩).toList=Ë:=by
  generalize s.data.toList=l at h;cases l with
  |nil=>rfl
  |cons a r=>
   have c:¬a=48:=λq=>h (by rw[q];rfl);show((48:UInt8)==a&&List.isPrefixOf [] r)=Ë;have:((48:UInt8)==a)=Ë:=beq_eq_false_iff_ne.2 λq=>c q.symm;rw[this];rfl
 rwa[e]at H
def Al(k:Nat):ByteArray:=σ ⟨#[48,48,48,48,48,48,48,48,48,48,48,48,48,48,48,48,48,48,48,48,48,48,48,48,48,48,48,48,48,48,48,48,48,48,48,48,48,48,48,48,48,48,48,48,48,48,48,48,48,48,48,48,48,48,48,48,48,48,48,48,48,48,48,48]⟩ 0 k
def apG(k:Nat)(d:2<=k)(f:k<=64):Ò À 144 #[Ä ⟨#[48]⟩,Å É k] w λe a=>e=Æ (Ä<|Al k)/\a=w:=by
 have g:((k:Int)==0)=Ë:=by simp;omega
 have i:((k:Int)==1)=Ë:=by simp;omega
 have j:¬(k:Int)<0:=Z
 have l:(0:Int)<=(k:Int):=Z
 have m:(k:Int)<=64:=Z
 have n:ã.wrap (k:Int)=(k:Int):=by rw[Ć];omega
 have o:É.wrap (k:Int)=(k:Int):=by rw[ŝ];omega
 have M:=Tryz.bits_Mul 1 k A Z w;rw[show 1*k/18446744073709551616=0 by omega,show 1*k%18446744073709551616=k by omega]at M;have c:=fi M;go_enter Œ,Ŋ;go_wp2_with (first
  |(go_at_call 158;refine c.out.mono ?_;rintro e a ⟨rfl,b⟩;subst a)
  |(go_at_call 159;refine(apF _ _ A).mono ?_;rintro e a ⟨rfl,b⟩;subst a)
  |(go_at_call 159;refine(apE _ _ A).mono ?_;rintro e a ⟨rfl,b⟩;subst a))
 go_ret;exact⟨U,U⟩
def apH:Ò À 144 #[Ä ⟨#[48]⟩,Å É 0] w λe a=>e=Æ (Ä ⟨#[]⟩)/\a=w:=by go_enter Œ,Ŋ;go_wp2;go_ret;exact⟨U,U⟩
def apI:Ò À 144 #[Ä ⟨#[48]⟩,Å É 1] w λe a=>e=Æ (Ä ⟨#[48]⟩)/\a=w:=by go_enter Œ,Ŋ;go_wp2;go_ret;exact⟨U,U⟩
def apJ(k:Nat)(a:k<=64):Ò À 144 #[Ä ⟨#[48]⟩,Å É k] w λe b=>e=Æ (Ä<|Al k)/\b=w:=by
 match k with
 |0=>exact apH
 |1=>exact apI
 |k+2=>exact apG (k+2) Z a
def MP(n:Nat):ByteArray:=Al (16-(nK n).size)++nK n
def aa4(n:Nat):(nK n).size<=16:=by show(vd 16 n []).toArray.size<=16;have:=aa0 16 n [];simpa using this
def aa5(k:Nat):(Al k).size<=k:=by unfold Al;rw[Č];omega
def apK(n:Nat)(c:n<18446744073709551616)(d:qA w):Ò À 105 #[Å ã n] w λe a=>e=Æ (Ä<|MP n)/\fg fl w a:=by
 have g:=aa4 n;have i:=aa5<|16-(nK n).size;have T:=apD n c d;have R:∀W:Í,Ò À 144 #[Ä ⟨#[48]⟩,Å É ((16-(nK n).size:Nat):Int)] W λe a=>e=Æ (Ä<|Al<|16-(nK n).size)/\a=W:=λW=>apJ _ Z;have j:É.wrap ((16:Int)-((nK n).size:Int))=((16-(nK n).size:Nat):Int):=by rw[ŝ];omega
 have l:(16:Int)-((nK n).size:Int)=((16-(nK n).size:Nat):Int):=Z
 have m:¬9223372036854775807<(Al<|16-(nK n).size).size+(nK n).size:=Z
 unfold MP;have H:=fi<|Ê T R;generalize o:Al (16-(nK n).size)=zs at*;generalize p:16-(nK n).size=k at*;generalize nK n=fs at*;go_enter Tryz.func105,Tryz.ntmps105;go_wp2_with (first
  |(go_at_call 141;refine H.out.1.mono ?_;rintro e q ⟨rfl,b⟩;have f:=fi b;clear b)
  |(go_at_call 144;refine(H.out.2 _).mono ?_;rintro e b ⟨rfl,q⟩;subst b))
 go_ret;exact⟨U,f.out⟩
structure pO(r:Nat)(x y g k:Nat)(kind v v2:Int)(slot:Nat)(w:Í):Prop where
 I:w.cell? ⟨r,0,Á⟩=Â (Å É x)
 S:w.cell? ⟨r,1,Á⟩=Â (Å É y)
 a:w.cell? ⟨r,2,Á⟩=Â (Å É g)
 Y:w.cell? ⟨r,3,Á⟩=Â (Å É k)
 N:w.cell? ⟨r,4,Á⟩=Â (Å É kind)
 M:w.cell? ⟨r,5,Á⟩=Â (Å É v)
 c:w.cell? ⟨r,6,Á⟩=Â (Å É v2)
 b:w.cell? ⟨r,7,Á⟩=Â (Å É slot)
def iq.N(h:iq u v vX W)(k:fg fl w u):iq w v vX W:=by
 refine⟨⟨h.fx.1,?_⟩,k.fj h.r⟩;rcases h.fx.2 with q|⟨g,a,b,c,d,q⟩
 .exact È q
 .exact Ï ⟨g,a,b,c,Ì k.M d,q⟩
section
variable{cp r x y g slot:Nat}{v v2:Int}
def pO.C{w:Í}(h:pO r x y g k c v v2 slot w)(q:fg fl w u):pO r x y g k c v v2 slot u:= ⟨q.r h.I id,q.r h.S id,q.r h.a id,q.r h.Y id,q.r h.N id,q.r h.M id,q.r h.c id,q.r h.b id⟩
def apL(F:Ò À 97 #[Ç O n cp,Å É v] w λe b=>e=Æ (j1<|Â i)/\fg fl w b)(j:pO r x y g k 2 v v2 slot w)(q:x<8)(s:slot<16)(z:Nat)(l:w.cell? ⟨i,x*18+2+slot,Á⟩=Â (Å ã z)) (C:∀W,fg fl w W->Ò À 102 #[Å ã z] W λe b=>e=Æ (Ä B)/\fg fl W b): Ò À 51 #[Ç O n cp,Ã<|Â ⟨r,0,Á⟩] w λe b=>e=Æ (Ä B)/\fg fl w b:=by
 have t:=j.M;have o:=j.N;have u:(0:Int)<=(x:Int):=Z
 have D:(x:Int)<8:=Z
 have E:(0:Int)<=(slot:Int):=Z
 have G:(slot:Int)<16:=Z
 have H:=fi<|Ê F C;have d:=fi j;clear F C j;go_enter ó,í;go_wp2_with (go_at_call 97;apply H.out.1.mono;rintro e f ⟨rfl,c⟩;dsimp only[j1,ð];have m:=c.r o id;have a:=fi c;clear c);refine mE (λb=>b.cell? ⟨r,0,Á⟩=Â (Å É x)/\b.cell? ⟨r,7,Á⟩=Â (Å É slot)/\b.cell? ⟨i,x*18+2+slot,Á⟩=Â (Å ã z)) [] fv ?_;have p:=fi<|Ê ((d.out.C a.out).C<|fg.fY fl _).I<|Ê ((d.out.C a.out).C<|fg.fY fl _).b<|(a.out.fj<|fg.fY _ _).r l id;iterate 17 apply tk p.out
 apply gG 17;intro K f;go_simp;go_at_call 102;refine(H.out.2 _<|a.out.fj<|fg.fY _ _).mono ?_;rintro e I ⟨rfl,m⟩;have c:=fi m;clear m;dsimp only;apply f.out _ _ λ_=>⟨(d.out.C<|(a.out.fj<|fg.fY _ _).fj c.out).I,(d.out.C<|(a.out.fj<|fg.fY _ _).fj c.out).b,(((a.out.fj<|fg.fY _ _).fj c.out).r l id)⟩;clear f K;apply gG 18;intro K f;go_simp;apply f.out _ _ λ_=>⟨(d.out.C<|(a.out.fj<|fg.fY _ _).fj c.out).I,(d.out.C<|(a.out.fj<|fg.fY _ _).fj c.out).b,(((a.out.fj<|fg.fY _ _).fj c.out).r l id)⟩;clear f K;try simp only[Act.put,é,ü,ý]
 refine mg fv ?_ _;go_wp2_with fail;go_ret;exact⟨U,(a.out.fj<|fg.fY _ _).fj c.out⟩
def apM(F:Ò À 97 #[Ç O n cp,Å É v] w λe a=>e=Æ (j1<|Â i)/\fg fl w a)(f:pO r x y g k 3 v v2 slot w)(q:x<8)(z:Nat)(j:w.cell? ⟨i,x*18,Á⟩=Â (Å ã z)) (C:∀W,fg fl w W->Ò À 102 #[Å ã z] W λe a=>e=Æ (Ä B)/\fg fl W a): Ò À 51 #[Ç O n cp,Ã<|Â ⟨r,0,Á⟩] w λe a=>e=Æ (Ä B)/\fg fl w a:=by
 have s:=f.M;have o:=f.N;have t:(0:Int)<=(x:Int):=Z
 have u:(x:Int)<8:=Z
 have H:=fi<|Ê F C;have l:=fi f;clear F C f;go_enter ó,í;go_wp2_with (go_at_call 97;apply H.out.1.mono;rintro e d ⟨rfl,c⟩;dsimp only[j1,ð];have m:=c.r o id;have b:=fi c;clear c);refine mE (λa=>a.cell? ⟨r,0,Á⟩=Â (Å É x)/\a.cell? ⟨i,x*18,Á⟩=Â (Å ã z)) [] fv ?_;have p:=fi<|Ê ((l.out.C b.out).C<|fg.fY fl _).I<|(b.out.fj<|fg.fY _ _).r j id;iterate 12 apply tk p.out
 apply gG 12;intro K c;go_simp;go_at_call 102;refine(H.out.2 _<|b.out.fj<|fg.fY _ _).mono ?_;rintro e D ⟨rfl,m⟩;have d:=fi m;clear m;dsimp only;apply c.out _ _ λ_=>⟨(l.out.C<|(b.out.fj<|fg.fY _ _).fj d.out).I,(((b.out.fj<|fg.fY _ _).fj d.out).r j id)⟩;clear c K;apply gG 13;intro K c;go_simp;apply c.out _ _ λ_=>⟨(l.out.C<|(b.out.fj<|fg.fY _ _).fj d.out).I,(((b.out.fj<|fg.fY _ _).fj d.out).r j id)⟩;clear c K;try simp only[Act.put,é,ü,ý]
 refine mg fv ?_ _;go_wp2_with fail;go_ret;exact⟨U,(b.out.fj<|fg.fY _ _).fj d.out⟩
def apN(F:Ò À 97 #[Ç O n cp,Å É v] w λe c=>e=Æ (j1<|Â i)/\fg fl w c)(j:pO r x y g k 4 v v2 slot w)(p:g<=400)(q:k<18446744073709551616) (C:∀W,fg fl w W->Ò À 103 #[Ã<|Â ⟨i,0,Á⟩,Å É x,Å É y,Å ã g,Å ã k] W λe c=>e=Æ (Ä B)/\fg fl W c): Ò À 51 #[Ç O n cp,Ã<|Â ⟨r,0,Á⟩] w λe c=>e=Æ (Ä B)/\fg fl w c:=by
 have s:=j.M;have m:=j.N;have t:ã.wrap (k:Int)=(k:Int):=by rw[Ć];omega
 have u:ã.wrap (g:Int)=(g:Int):=by rw[Ć];omega
 have z:¬(400:Int)<(g:Int):=Z
 have D:(g:Int)<=400:=Z
 have H:=fi<|Ê F C;have b:=fi j;clear F C j;go_enter ó,í;go_wp2_with (go_at_call 97;apply H.out.1.mono;rintro e f ⟨rfl,d⟩;dsimp only[j1,ð];have l:=d.r m id;have o:=d.r b.out.a id;have a:=fi d;clear d);refine mE (λc=>c.cell? ⟨r,0,Á⟩=Â (Å É x)/\c.cell? ⟨r,1,Á⟩=Â (Å É y)/\c.cell? ⟨r,2,Á⟩=Â (Å É g)/\c.cell? ⟨r,3,Á⟩=Â (Å É k)) [] fv ?_;have o:=fi<|Ê ((b.out.C a.out).C<|fg.fY fl _).I<|Ê ((b.out.C a.out).C<|fg.fY fl _).S<|Ê ((b.out.C a.out).C<|fg.fY fl _).a ((b.out.C a.out).C<|fg.fY fl _).Y;iterate 23 apply tk o.out
 apply gG 23;intro K f;go_simp;go_at_call 103;refine(H.out.2 _<|a.out.fj<|fg.fY _ _).mono ?_;rintro e E ⟨rfl,l⟩;have d:=fi l;clear l;dsimp only;apply f.out _ _ λ_=>⟨(b.out.C<|(a.out.fj<|fg.fY _ _).fj d.out).I,(b.out.C<|(a.out.fj<|fg.fY _ _).fj d.out).S,(b.out.C<|(a.out.fj<|fg.fY _ _).fj d.out).a,(b.out.C<|(a.out.fj<|fg.fY _ _).fj d.out).Y⟩;clear f K;apply gG 24;intro K f;go_simp;apply f.out _ _ λ_=>⟨(b.out.C<|(a.out.fj<|fg.fY _ _).fj d.out).I,(b.out.C<|(a.out.fj<|fg.fY _ _).fj d.out).S,(b.out.C<|(a.out.fj<|fg.fY _ _).fj d.out).a,(b.out.C<|(a.out.fj<|fg.fY _ _).fj d.out).Y⟩;clear f K;try simp only[Act.put,é,ü,ý]
 refine mg fv ?_ _;go_wp2_with fail;go_ret;exact⟨U,(a.out.fj<|fg.fY _ _).fj d.out⟩
def apO(F:Ò À 97 #[Ç O n cp,Å É v] w λe b=>e=Æ (j1<|Â i)/\fg fl w b)(j:pO r x y g k 5 v v2 slot w)(p:k<18446744073709551616) (C:∀W,fg fl w W->Ò À 104 #[Ã<|Â ⟨i,0,Á⟩,Å É x,Å É y,Å ã k] W λe b=>e=Æ (Ä B)/\fg fl W b): Ò À 51 #[Ç O n cp,Ã<|Â ⟨r,0,Á⟩] w λe b=>e=Æ (Ä B)/\fg fl w b:=by
 have q:=j.M;have m:=j.N;have s:ã.wrap (k:Int)=(k:Int):=by rw[Ć];omega
 have H:=fi<|Ê F C;have c:=fi j;clear F C j;go_enter ó,í;go_wp2_with (go_at_call 97;apply H.out.1.mono;rintro e f ⟨rfl,d⟩;dsimp only[j1,ð];have l:=d.r m id;have a:=fi d;clear d);refine mE (λb=>b.cell? ⟨r,0,Á⟩=Â (Å É x)/\b.cell? ⟨r,1,Á⟩=Â (Å É y)/\b.cell? ⟨r,3,Á⟩=Â (Å É k)) [] fv ?_;have o:=fi<|Ê ((c.out.C a.out).C<|fg.fY fl _).I<|Ê ((c.out.C a.out).C<|fg.fY fl _).S ((c.out.C a.out).C<|fg.fY fl _).Y;iterate 17 apply tk o.out
 apply gG 17;intro K f;go_simp;go_at_call 104;refine(H.out.2 _<|a.out.fj<|fg.fY _ _).mono ?_;rintro e t ⟨rfl,l⟩;have d:=fi l;clear l;dsimp only;apply f.out _ _ λ_=>⟨(c.out.C<|(a.out.fj<|fg.fY _ _).fj d.out).I,(c.out.C<|(a.out.fj<|fg.fY _ _).fj d.out).S,(c.out.C<|(a.out.fj<|fg.fY _ _).fj d.out).Y⟩;clear f K;apply gG 18;intro K f;go_simp;apply f.out _ _ λ_=>⟨(c.out.C<|(a.out.fj<|fg.fY _ _).fj d.out).I,(c.out.C<|(a.out.fj<|fg.fY _ _).fj d.out).S,(c.out.C<|(a.out.fj<|fg.fY _ _).fj d.out).Y⟩;clear f K;try simp only[Act.put,é,ü,ý]
 refine mg fv ?_ _;go_wp2_with fail;go_ret;exact⟨U,(a.out.fj<|fg.fY _ _).fj d.out⟩
def apP(F:Ò À 97 #[Ç O n cp,Å É v] w λe a=>e=Æ (j1<|Â i)/\fg fl w a)(b:pO r x y g k 6 v v2 slot w)(z:Nat)(C:∀W,fg fl w W->Ò À 106 #[Ã<|Â ⟨i,0,Á⟩] W λe a=>e=Æ (Å ã z)/\fg fl W a)(d:∀W,fg fl w W->Ò À 105 #[Å ã z] W λe a=>e=Æ (Ä B)/\fg fl W a): Ò À 51 #[Ç O n cp,Ã<|Â ⟨r,0,Á⟩] w λe a=>e=Æ (Ä B)/\fg fl w a:=by
 have o:=b.M;have l:=b.N;have m:=fi d;clear d;have H:=fi<|Ê F C;have p:=fi b;clear F C b;go_enter ó,í;go_wp2_with (first
  |(go_at_call 97;refine H.out.1.mono ?_;rintro e j ⟨rfl,c⟩;dsimp only[j1,ð];have q:=c.r l id;have f:=fi c;clear c)
  |(go_at_call 106;refine(H.out.2 _ f.out).mono ?_;rintro e q ⟨rfl,c⟩;have j:=fi<|f.out.fj c;clear c)
  |(go_at_call 105;refine(m.out _ j.out).mono ?_;rintro e q ⟨rfl,c⟩;have f:=fi (j.out.fj c);clear c))
 go_ret;exact⟨U,f.out⟩
def apQ(F:Ò À 97 #[Ç O n cp,Å É v] w λe b=>e=Æ (j1<|Â i)/\fg fl w b)(d:pO r x y g k 7 v v2 slot w)(o:Option û)(p q:Nat)(z:w.cell? ⟨i,144,Á⟩=Â (Ç o p q))(f:List ByteArray)(C:∀W,fg fl w W->Ò À 108 #[Ç o p q] W λe b=>∃l,e=Æ l/\iq W l f b)(s:∀W a m c,iq w (Ç a m c) f W->Ò À 107 #[Ç a m c] W λe b=>e=Æ (Ä B)/\fg fl W b): Ò À 51 #[Ç O n cp,Ã<|Â ⟨r,0,Á⟩] w λe b=>e=Æ (Ä B)/\fg fl w b:=by
 have K:=d.M;have D:=d.N;have E:=fi s;clear s;have H:=fi<|Ê F C;have L:=fi d;clear F C d;go_enter ó,í;go_wp2_with (first
  |(go_at_call 97;refine H.out.1.mono ?_;rintro e u ⟨rfl,j⟩;dsimp only[j1,ð];have G:=j.r D id;have I:=j.r z id;have t:=fi j;clear j)
  |(go_at_call 108;refine(H.out.2 _ t.out).mono ?_;rintro e G ⟨l,rfl,j⟩;obtain⟨I,J,rfl⟩:=jN j.fx;generalize f.length=tn at j|-;have u:=fi (show iq w (Ç I tn J) f G from j.N t.out);clear j)
  |(go_at_call 107;refine(E.out _ _ _ _ u.out).mono ?_;rintro e G ⟨rfl,j⟩;have t:=fi (u.out.r.fj j);clear j))
 go_ret;exact⟨U,t.out⟩
def apR(F:Ò À 97 #[Ç O n cp,Å É v] w λe b=>e=Æ (j1<|Â i)/\fg fl w b)(d:pO r x y g k 8 v v2 slot w)(o:Option û)(p q:Nat)(z:w.cell? ⟨i,146,Á⟩=Â (Ç o p q))(f:List ByteArray)(C:∀W,fg fl w W->Ò À 109 #[Ç o p q] W λe b=>∃l,e=Æ l/\iq W l f b)(s:∀W a m c,iq w (Ç a m c) f W->Ò À 107 #[Ç a m c] W λe b=>e=Æ (Ä B)/\fg fl W b): Ò À 51 #[Ç O n cp,Ã<|Â ⟨r,0,Á⟩] w λe b=>e=Æ (Ä B)/\fg fl w b:=by
 have K:=d.M;have D:=d.N;have E:=fi s;clear s;have H:=fi<|Ê F C;have L:=fi d;clear F C d;go_enter ó,í;go_wp2_with (first
  |(go_at_call 97;refine H.out.1.mono ?_;rintro e u ⟨rfl,j⟩;dsimp only[j1,ð];have G:=j.r D id;have I:=j.r z id;have t:=fi j;clear j)
  |(go_at_call 109;refine(H.out.2 _ t.out).mono ?_;rintro e G ⟨l,rfl,j⟩;obtain⟨I,J,rfl⟩:=jN j.fx;generalize f.length=tn at j|-;have u:=fi (show iq w (Ç I tn J) f G from j.N t.out);clear j)
  |(go_at_call 107;refine(E.out _ _ _ _ u.out).mono ?_;rintro e G ⟨rfl,j⟩;have t:=fi (u.out.r.fj j);clear j))
 go_ret;exact⟨U,t.out⟩
def apS(F:Ò À 97 #[Ç O n cp,Å É v] w λe c=>e=Æ (j1<|Â i)/\fg fl w c)(a:pO r x y g k 4 v v2 slot w)(l:400<g)(C:B=nV 6): Ò À 51 #[Ç O n cp,Ã<|Â ⟨r,0,Á⟩] w λe c=>e=Æ (Ä B)/\fg fl w c:=by
 have m:=a.M;have d:=a.N;have o:(400:Int)<(g:Int):=Z
 have H:=fi<|Ê F C;have f:=fi a;clear F C a;go_enter ó,í;go_wp2_with (first
  |(go_at_call 97;refine H.out.1.mono ?_;rintro e p ⟨rfl,b⟩;dsimp only[j1,ð];have q:=b.r d id;have s:=b.r f.out.a id;have j:=fi b;clear b)
  |(go_at_call 98;refine(ER 6 A _).mono ?_;rintro e b ⟨rfl,p⟩;subst b))
 go_ret;exact⟨by rw[H.out.2];rfl,j.out⟩
def apT(F:Ò À 97 #[Ç O n cp,Å É v] w λe a=>e=Æ (j1<|Â i)/\fg fl w a)(b:pO r x y g k 9 v v2 slot w)(C:B=nV 3)(d:∀W,fg fl w W->Ò À 97 #[Ç O n cp,Å É v2] W λe a=>e=Æ (j1 Á)/\fg fl W a): Ò À 51 #[Ç O n cp,Ã<|Â ⟨r,0,Á⟩] w λe a=>e=Æ (Ä B)/\fg fl w a:=by
 have q:=b.M;have l:=b.N;have m:=fi d;clear d;have H:=fi<|Ê F C;have o:=fi b;clear F C b;go_enter ó,í;go_wp2_with (first
  |(go_at_call 97;with_reducible refine H.out.1.mono ?_;rintro e j ⟨rfl,c⟩;dsimp only[j1,ð];have p:=c.r l id;have s:=c.r o.out.c id;have f:=fi c;clear c)
  |(go_at_call 97;refine(m.out _ f.out).mono ?_;rintro e c ⟨rfl,j⟩;dsimp only[j1,ð];have p:=fi<|f.out.fj j;clear j)
  |(go_at_call 98;refine(ER 3 A _).mono ?_;rintro e c ⟨rfl,j⟩;subst c))
 go_ret;exact⟨by rw[H.out.2];rfl,p.out⟩
def apU(F:Ò À 97 #[Ç O n cp,Å É v] w λe b=>e=Æ (j1<|Â i)/\fg fl w b)(f:pO r x y g k 9 v v2 slot w)(C:True)(q:∀W,fg fl w W->Ò À 97 #[Ç O n cp,Å É v2] W λe b=>e=Æ (j1<|Â j)/\fg fl W b)(o:List ByteArray)(s:∀W,fg fl w W->Ò À 110 #[Ã<|Â ⟨i,0,Á⟩,Ã<|Â ⟨j,0,Á⟩] W λe b=>∃p,e=Æ p/\iq W p o b)(t:∀W a m c,iq w (Ç a m c) o W->Ò À 107 #[Ç a m c] W λe b=>e=Æ (Ä B)/\fg fl W b): Ò À 51 #[Ç O n cp,Ã<|Â ⟨r,0,Á⟩] w λe b=>e=Æ (Ä B)/\fg fl w b:=by
 have M:=f.M;have E:=f.N;have G:=fi q;have u:=fi<|Ê s t;clear q s t;have H:=fi<|Ê F C;have I:=fi f;clear F C f;go_enter ó,í;go_wp2_with (first
  |(go_at_call 97;with_reducible refine H.out.1.mono ?_;rintro e z ⟨rfl,d⟩;dsimp only[j1,ð];have D:=d.r E id;have J:=d.r I.out.c id;have l:=fi d;clear d)
  |(go_at_call 97;refine(G.out _ l.out).mono ?_;rintro e D ⟨rfl,d⟩;dsimp only[j1,ð];have z:=fi (l.out.fj d);clear d))
 apply mE (λb=>True/\True) [] fv;have J:=fi<|Ê trivial trivial;iterate 8 apply tk J.out
 apply gG 8;intro K d;go_simp;go_at_call 110;refine(u.out.1 _<|z.out.fj<|fg.fY _ _).mono ?_;rintro e N ⟨p,rfl,l⟩;obtain⟨P,Q,rfl⟩:=jN l.fx;generalize o.length=tn at l|-;have D:=fi<|l.N<|z.out.fj<|fg.fY _ _;clear l;dsimp only;apply d.out _ _ λ_=>⟨trivial,trivial⟩;clear d K;apply gG 9;intro K d;go_simp;go_at_call 107;refine(u.out.2 _ _ _ _ D.out).mono ?_;rintro e S ⟨rfl,z⟩;have L:=fi<|D.out.r.fj z;clear z;dsimp only;apply d.out _ _ λ_=>⟨trivial,trivial⟩;clear d K;apply gG 10;intro K d;go_simp;apply d.out _ _ λ_=>⟨trivial,trivial⟩;clear d K;try simp only[Act.put,é,ü,ý]
 refine mg fv ?_ _;go_wp2_with fail;go_ret;exact⟨U,L.out⟩
def apV(F:Ò À 97 #[Ç O n cp,Å É v] w λe a=>e=Æ (j1 Á)/\fg fl w a)(b:pO r x y g k h v v2 slot w): Ò À 51 #[Ç O n cp,Ã<|Â ⟨r,0,Á⟩] w λe a=>e=Æ (Ä<|nV 3)/\fg fl w a:=by
 have f:=b.M;have H:=fi F;clear F b;go_enter ó,í;go_wp2_with (first
  |(go_at_call 97;refine H.out.mono ?_;rintro e i ⟨rfl,c⟩;dsimp only[j1,ð];have d:=fi c;clear c)
  |(go_at_call 98;refine(ER 3 A _).mono ?_;rintro e c ⟨rfl,i⟩;subst c))
 go_ret;exact⟨U,d.out⟩
end
structure Qn where
 x:Nat
 y:Nat
 g:Nat
 k:Nat
 r:Int
 v:Int
 C:Int
 I:Nat
structure Qn.Ok(q:Qn):Prop where
 x:q.x<8
 y:q.y<8
 g:q.g<1000000
 k:q.k<18446744073709551616
 avs:2<=q.r
 avt:q.r<=9
 v:-1<=q.v
 v2:-1<=q.C
 avu:q.I<16
def yo(a:List ByteArray):ByteArray:=if a=[]then⟨#[45]⟩else jl ⟨#[44]⟩ a
def CH(a:List (Nat×fO))(p:fO)(q:Qn):ByteArray:=
 if q.r=2 then fG ((p.s q.x).C q.I).toNat
 else if q.r=3 then fG (p.s q.x).fw.toNat
 else if q.r=4 then if 400<q.g then nV 6 else Ud (gw p.s [] q.x q.y q.g q.k)
 else if q.r=5 then tC p.s q.x q.y q.k 0 401
 else if q.r=6 then MP (E2 p.s)
 else if q.r=7 then yo (p.r.map su)
 else if q.r=8 then yo (p.C.map wy)
 else match mG a q.C with
  |none=>nV 3
  |some b=>yo<|rn p.s b.2.s 8
def tE(a:List (Nat×fO))(q:Qn):ByteArray:=
 match mG a q.v with
 |none=>nV 3
 |some p=>CH a p.2 q
def Ue{M:Nat}(b:∀z∈vX,z.size<=M)(d:M<=100)(f:vX.length<=400000)(h:iq w (Ç O m i) vX W): Ò À 107 #[Ç O m i] W λe g=>e=Æ (Ä<|yo vX)/\fg fl W g:=by obtain⟨e,g,j⟩:=h.I;have k:=Ff vX b;have:M*vX.length<=100*400000:=Ű d f;exact apr g Z j e Z
def apW(s:St):E2 s<18446744073709551616:=by unfold E2 Mq;exact TK _ _<|aaz λi=>aaC _ _ _
theorem Uf{b:ByteArray}(c:B.size<=1)(d:b.size<=1):(B++b).size<=2:=by grind
def aa6(s t:St):∀z∈rn s t 8,z.size<=2:=λz a=>by
 unfold rn at a;obtain⟨i,_,h⟩:=Ş.1 a;unfold Aj yl at h;rcases â.1 h with h|h
 .rcases â.1 h with h|h
  .split at h
   .cases h
   .simp at h;subst h;exact Uf (ym i)<|æ _
  .split at h
   .cases h
   .simp at h;subst h;exact Uf (ym i)<|æ _
 .unfold rm at h;obtain⟨j,_,h⟩:=Ş.1 h;unfold CF at h;split at h
  .cases h
  .simp at h;subst h;exact Uf (ym i)<|aaR j
section
variable{cp r:Nat}{vs:List (Nat×fO)}{q:Qn}
def apX(u:qz O n vs w)(S:n<=1000)(T:0<n)(hvo:∀p∈vs,TT p.2)(d:pO r q.x q.y q.g q.k q.r q.v q.C q.I w)(ok:q.Ok)(V:iP w)(l:lU w)(hd:qA w): Ò À 51 #[Ç O n cp,Ã<|Â ⟨r,0,Á⟩] w λe G=>e=Æ (Ä<|tE vs q)/\fg fl w G:=by
 have F:=Mv (cp:=cp) u S T q.v ok.v;unfold tE;cases B:mG vs q.v with
 |none=>
  rw[B]at F;exact apV F d
 |some p=>
  rw[B]at F;have h:=F;have X:=IC B;have f:=u.M X;have i:=hvo p X;obtain⟨x,y,g,k,kind,v,C,Y⟩:=q;obtain⟨o,H,hg,I,uT,uk,hv,MQ,J⟩:=ok;simp only at o H hg I uT uk hv MQ J d h B|-;obtain⟨cb,_,cs⟩:=f.r.gX o;have GA:gq (k:Int):=⟨Z,Z⟩;unfold CH;simp only;split
  .rename_i e;subst e;have c:=cs Y J;have j:=f.C.C x Y;rw[<-ņ j.1]at c;exact apL h d o J _ c λW b=>yk _ (by have:=j.1;have:=j.2;omega) W<|l.r b
  .split
   .rename_i e;subst e;have j:=f.C.fw x;rw[<-ņ j.1]at cb;exact apM h d o _ cb λW b=>yk _ (by have:=j.1;have:=j.2;omega) W<|l.r b
   .split
    .rename_i e;subst e;split
     .rename_i hh;exact apS h d hh U
     .exact apN h d Z I λW b=>apu (f.r.r b id) f.C (V.r b id) (l.r b) x y g k o H Z Z GA
    .split
     .rename_i e;subst e;exact apO h d I λW b=>aoM (f.r.r b id) f.C (V.r b id) (l.r b) o H GA
     .split
      .rename_i e;subst e;exact apP h d _ (λW b=>an6 (f.r.r b id) f.C) λW b=>apK _ (apW _)<|hd.r b
      .split
       .rename_i e;subst e;obtain⟨K,L,M,N⟩:=f.N;exact apQ h d K _ L M _ (λW b=>aaM U i.I i.C (l.r b)<|nJ.C N b) λW a m c t=>Ue (λz P=>by obtain⟨e,D,rfl⟩:=Ú.1 P;exact ML (i.C e D).2) Z (by rw[ù];exact i.I) t
       .split
        .rename_i e;subst e;obtain⟨K,L,M,N⟩:=f.S;exact apR h d K _ L M _ (λW b=>aoT U i.M i.r (l.r b)<|nJ.C N b) λW a m c t=>Ue (λz P=>by obtain⟨e,D,rfl⟩:=Ú.1 P;exact aaY (i.r e D).1 (i.r e D).2) Z (by rw[ù];have:=i.M;omega) t
        .have e:kind=9:=Z
         subst e;have E:∀W,fg fl w W->Ò À 97 #[Ç O n cp,Å É C] W λe G=>e=Æ (j1 ((mG vs C).map (·.1)))/\fg fl W G:=λW b=>Mv (u.I b) S T C MQ;cases Q:mG vs C with
         |none=>
          rw[Q]at E;exact apT h d U E
         |some p2=>
          rw[Q]at E;exact apU h d trivial E _ (λW b=>ao5 (f.r.r b id)<|(u.M<|IC Q).r.r b id) λW a m c t=>Ue (aa6 _ _) Z (by have:=T4 p.2.s p2.2.s 8;omega) t
end
end Go.Proofs.Y.fV
namespace Go.Proofs.Y.jF
open Go Go.Proofs Go.RowKit Go.Proofs.Y.Lift Go.Proofs.Y.fV
def kv(a:List (Nat×fO)):List fO:=a.map (·.2)
def aa7(d:fO)(l:List fO):fO:=l.foldl (λa b=>if a.h<b.h then b else a) d
theorem aa8:∀(a:List (Nat×fO)) (d:Nat×fO),(u5 d a).2=aa7 d.2 (kv a)
 |[],_=>rfl
 |x::r,d=>by show(u5 (Ae d x) r).2=aa7 (if d.2.h<x.2.h then x.2 else d.2) (kv r);rw[aa8 r];unfold Ae;split<;>rfl
theorem Ug{a b:List (Nat×fO)}(h:kv a=kv b)(v:Int):(mG a v).map (·.2)=(mG b v).map (·.2):=by
 have c:∀i:Nat,(a[i]?).map (·.2)=(b[i]?).map (·.2):=λi=>by have:=congrArg (λl:List fO=>l[i]?) h;simpa[kv]using this
 unfold mG;grind [aa8]
theorem apY{a b:List (Nat×fO)}(h:kv a=kv b):a.length=b.length:=by have:=congrArg List.length h;simpa[kv]using this
theorem aa9{a b:List (Nat×fO)}(h:kv a=kv b)(v:Int)(x:Nat)(gN:List Tx):rj a v x gN=rj b v x gN:=by have c:=Ug h v;unfold rj;grind [apY]
theorem apZ{a b:List (Nat×fO)}(h:kv a=kv b)(q:Qn):tE a q=tE b q:=by
 have c:=Ug h q.v;have d:=Ug h q.C;have e:∀p:fO,CH a p q=CH b p q:=λp=>by unfold CH;grind
 unfold tE;grind
structure ma(s:List fO):Prop where
 I:0<s.length
 C:s.length<=40
 r:∀v∈s,TT v/\gM v.s/\0<=v.h/\v.h<s.length
def sw(a:List (Nat×fO))(v:Int)(x:Nat)(gN:List Tx):List fO:=kv a++(rj a v x gN).1.toList
def ma.M{f:List (Nat×fO)}(h:ma (kv f)){gN:List Tx}(j:∀t∈gN,t.Ok)(l:gN.length<=1000):ma (sw f c i gN):=by
 unfold jF.sw;have z:(kv f).length=f.length:=by simp[kv]
 unfold rj;cases m:mG f c with
 |none=>simpa using h
 |some p=>
  have n:p.2∈kv f:=Ú.2 ⟨p,IC m,U⟩;let⟨B,k,C,D⟩:=h.r _ n;simp only;split
  .simpa using h
  .rename_i E;cases g:uY i p.2.s gN with
   |none=>simpa using h
   |some r=>
    simp only[Option.toList];have F:=h.C;have o:gM r.1:=by unfold uY at g;obtain⟨G,w,rfl⟩:=ò.1 g;exact(TU gN j k (λ_ q=>by cases q) (λ_ q=>by cases q) (by simp;omega) (by simp;omega) w).1.r i<|zY _
    refine⟨ft,by simp;omega,λu y=> ?_⟩;rcases â.1 y with q|q
    .let⟨a,b,e,d⟩:=h.r u q;refine⟨a,b,e,?_⟩;rw[Ø];simp;omega
    .simp at q;subst q;refine⟨aoA j k l g,o,by show 0<=p.2.h+1;omega,?_⟩;rw[Ø];show p.2.h+1<_;simp;omega
def jc(Y:fy)(u w:Í):Prop:=∀(i j o:Nat) (v:Ñ),Y i j->u.cell? ⟨i,o,Á⟩=Â v->∃a,w.cell? ⟨j,o,Á⟩=Â a/\fu Y v a
section
variable{Y:fy}
theorem ap0{k:IntKind}(h:fu Y (Å k c) v):v=Å k c:=by cases h;rfl
theorem ap1(h:fu Y (Ä B) v):v=Ä B:=by cases h;rfl
theorem MR(h:fu Y (Ã<|Â a) v):∃b,v=Ã (Â b)/\ic Y a b:=by
 cases h with
 |jV q=>exact⟨_,U,q⟩
def MS(h:fu Y (Ç O n i) v):∃b,v=Ç b n i/\∀a,O=Â a->∃d,b=Â d/\ic Y a d:=by
 cases h with
 |ou=>exact⟨Á,U,λa q=>by cases q⟩
 |kS q=>exact⟨_,U,λa e=>by cases e;exact⟨_,U,q⟩⟩
theorem ap2(a:kq v=Î)(h:fu Y v x):x=v:=by cases h<;>first|rfl|(simp[kq]at a;done)
theorem Am(h:ic Y ⟨b,i,Á⟩ a):∃c,a=⟨c,i,Á⟩/\Y b c:=by let⟨d,e,f⟩:=h;let⟨c,g,j⟩:=a;grind
theorem jc.r(a:jc Y u w){k:IntKind}(h:Y i j)(d:u.cell? ⟨i,b,Á⟩=Â (Å k c)):w.cell? ⟨j,b,Á⟩=Â (Å k c):=by let⟨e,f,g⟩:=a i j b _ h d;grind [ap0]
theorem jc.C(a:jc Y u w)(h:Y i j)(b:u.cell? ⟨i,n,Á⟩=Â (Ä B)):w.cell? ⟨j,n,Á⟩=Â (Ä B):=by let⟨c,d,e⟩:=a i j n _ h b;grind [ap1]
theorem jc.ap3(a:jc Y u w)(c:kq v=Î)(h:Y i j)(b:u.cell? ⟨i,n,Á⟩=Â v):w.cell? ⟨j,n,Á⟩=Â v:=by let⟨d,e,f⟩:=a i j n _ h b;grind [ap2]
def Uh(s:fV.St):∀v∈iA s,(∃n,v=Å ã n)\/∃p,v=Ä p:=λv n=>by
 unfold iA at n;obtain⟨i,_,rfl⟩:=Ú.1 n;unfold qp qo;split
 .exact È ⟨_,U⟩
 .split
  .exact Ï ⟨_,U⟩
  .exact È ⟨_,U⟩
def ap4(a:jc Y u w){s:fV.St}(c:Y b i)(d:mF b s h u):mF i s h w:=by
 refine⟨λj v e=> ?_,a.r c d.h⟩;have f:=d.C j v e;rcases Uh s v (ç e)with⟨n,rfl⟩|⟨p,rfl⟩
 .exact a.r c f
 .exact a.C c f
def abb(a:jc Y u w)(f:Y b i)(g:∀v∈l,kq v=Î)(h:Ad ⟨b,j,Á⟩ n l u):Ad ⟨i,j,Á⟩ n l w:=by let⟨p,c,k,m⟩:=h;let⟨G,q,r⟩:=a b i j _ f k;obtain⟨s,rfl,t⟩:=MS r;refine⟨s,c,q,λd x e=> ?_⟩;let⟨H,y,z,B⟩:=m d x e;let⟨I,C,D⟩:=t _ z;obtain⟨E,rfl,F⟩:=Am D;exact⟨E,y,C,a.ap3 (g x<|ç e) F B⟩
def ap5(a:jc Y u w){v:fO}(c:Y b i)(h:sk b v u):sk i v w:= ⟨ap4 a c h.r,h.C,h.I,h.M,abb a c (D' _) h.N,abb a c (aai _) h.S⟩
def wS{α β:Type}{R:Nat->α->β->Prop}:∀(l:List α) (k:Nat),(∀j x,l[j]?=Â x->∃y,R (k+j) x y)->∃a:List β,a.length=l.length/\∀j y,a[j]?=Â y->∃x,l[j]?=Â x/\R (k+j) x y
 |[],_,_=>⟨[],U,λj y h=>by simp at h⟩
 |x::r,k,h=>by
  let⟨y,c⟩:=h 0 x U;obtain⟨a,d,e⟩:=wS r (k+1) λj z b=>by let⟨q,f⟩:=h (j+1) z b;exact⟨q,by rwa[show k+1+j=k+(j+1) by omega]⟩
  refine⟨y::a,by simp[d],λj z b=> ?_⟩;cases j with
  |zero=>cases b;exact⟨x,U,c⟩
  |succ j=>
   let⟨q,f,g⟩:=e j z b;exact⟨q,f,by rwa[show k+(j+1)=k+1+j by omega]⟩
theorem IH(a:jc Y u w){e:List (Nat×fO)}(i:fu Y z jQ)(h:Mw z e u):∃c,kv c=kv e/\Mw jQ c w:=by
 obtain⟨J,n,k,rfl,l,f⟩:=h;obtain⟨g,rfl,m⟩:=MS i;let⟨c,o,K⟩:=wS (R:=λj (x y:Nat×fO)=>x.2=y.2/\∃q d,g=Â ⟨q,d,Á⟩/\w.cell? ⟨q,d+j,Á⟩=Â (Ã<|Â ⟨y.1,0,Á⟩)/\sk y.1 y.2 w) e 0 λj x p=>by let⟨b,v⟩:=x;let⟨q,d,r,s,t⟩:=f.C j b v p;let⟨L,B,C⟩:=m _ r;obtain⟨y,rfl,D⟩:=Am C;let⟨M,E,F⟩:=a q y _ _ D s;obtain⟨N,rfl,G⟩:=MR F;obtain⟨H,rfl,I⟩:=Am G;exact⟨(H,v),U,y,d,B,by rwa[œ],ap5 a I t⟩
 refine⟨c,?_,g,n,k,U,l,⟨by rw[o];exact f.r,λj b v q=> ?_⟩⟩
 .refine Ŕ λj=> ?_;unfold kv;grind
 .grind
end
def lA(a:Nat->Prop)(B:Nat):fy:=⟨λi j=>i=j/\a i,B⟩
def ap6(a:Nat->Prop)(B:Nat):Bi (lA a B):= ⟨λ_ _ _ h k=>h.1.symm.trans k.1,λ_ _ _ h k=>h.1.trans k.1.symm,λi j h=>by rw[h.1]⟩
def An{V:Nat->Prop}{B:Nat}(h:∀i,X i->V i):(lA X B).r (lA V B):=⟨λ_ _ q=>⟨q.1,h _ q.2⟩,λ_=>ap6 V B,U⟩
def kQ(B:Nat)(a:Nat->Prop)(w:Í):Prop:=∀b,a b->∃c e d,w.heap[b]?=Â (Û c e d)/\d.2<=c.size/\fX (lA a B) c c/\0<c.size/\C9 c/\e≠298/\e≠299
section
variable{B:Nat}{V:Nat->Prop}
def kQ.I(h:kQ B X w)(k:kQ B V w):kQ B (λb=>X b\/V b) w:=by
 rintro b (q|q)
 .let⟨c,e,a,d,f,g,i⟩:=h b q;exact⟨c,e,a,d,f,g.I (An λ_=>È),i⟩
 .let⟨c,e,a,d,f,g,i⟩:=k b q;exact⟨c,e,a,d,f,g.I (An λ_=>Ï),i⟩
def kQ.C(h:kQ B X w)(k:∀b,X b->u.heap[b]?=w.heap[b]?):kQ B X u:=λb q=>by let⟨c,e,a,d,f⟩:=h b q;exact⟨c,e,a,by rwa[k b q],f⟩
theorem kQ.r(h:kQ B X w)(a:X b)(d:w.cell? ⟨b,i,Á⟩=Â v):fu (lA X B) v v:=by let⟨c,e,j,f,_,g,_⟩:=h b a;simp only[ß,f,ö,ì,if_false]at d;rcases g.S i with⟨q,_⟩|⟨x,k,l,m,n⟩;all_goals grind
def CI(h:fu (lA X B) (Ã<|Â a) v):X a.block:=by
 cases h with
 |jV q=>exact q.1.2
def CJ(h:fu (lA X B) (Ç (Â a) n i) v):X a.block:=by
 cases h with
 |kS q=>exact q.1.2
def ap7{Y:fy}(h:kq v=Î):fu Y v v:=by cases v<;>first|exact .mJ _|exact .iH _ _|(simp[kq]at h;done)
def pP{Y:fy}(h:∀v∈d.toList,fu Y v v):fX Y d d:=⟨U,λi a _=>h _<|î.2<|Ă a⟩
def ap8(h:kq v=Î):yF v=Ë:=by
 cases v with
 |int k n=>cases k<;>first|rfl|(simp[kq]at h;done)
 |_=>rfl
def Ao(h:∀v∈d.toList,yF v=Ë):C9 d:=λk v a=>h v<|î.2<|ĵ a
def IJ(v:Ñ)(i:Nat):Prop:=v.ownBlock=Â i
def IK(X:Nat->Prop)(g b:Nat)(a c:Ñ)(i:Nat):Prop:=X i\/i=g\/i=b\/IJ a i\/IJ c i
def abd{G:Í}(a:mD T=Î)(h:tB v T u)(o:∀j,v.ownBlock=Â j->G.heap.size<=j)(p:rZ G.heap.size u):∀i,IJ v i->∃c e f,u.heap[i]?=Â (Û c e f)/\f.2<=c.size/\fX (lA V B) c c/\0<c.size/\C9 c/\e≠298/\e≠299:=λi b=>by
 rcases h with rfl|⟨g,n,c,k,rfl,l⟩
 .cases b
 .have e:g=i:=by unfold IJ at b;simpa[Value.ownBlock]using b
  subst e;let⟨r,m⟩:=p g k T (0,0) (o g U) l a;exact⟨k,T,(0,0),l,Ù _,pP λv d=>ap7<|m v d,r,Ao λv d=>ap8<|m v d,(λq=>by rw[q]at a;cases a),(λq=>by rw[q]at a;cases a)⟩
def abe(h:tB v T u)(a:∀i,IJ v i->V i):fu (lA V B) v v:=by
 rcases h with rfl|⟨g,n,c,b,rfl,d⟩
 .exact .ou _ _
 .exact fu.kS (Y:=lA V B) ⟨⟨U,a g U⟩,U,U⟩ n c
theorem ap9{G:Í}(J:kQ B X G)(k:fg fl G u)(K:∀i,X i->i<G.heap.size){l:List (Nat×fO)}{s:fV.St}(o:TP b s h G u)(r:TO l b G u m)(L:∀p∈l,X p.1): ∃e,(∀i,X i->e i)/\e m/\kQ B e u/\∀i,e i->X i\/G.heap.size<=i:=by
 have t:=k.Y _ λi c T w M y=>by rw[ı M]at y;cases y
 let⟨a,d,N,z,C,D,E⟩:=o.r;refine⟨IK X m b a d,λi q=>È q,Ï<|È U,?_,?_⟩
 .rintro i (q|rfl|rfl|q|q)
  .let⟨c,e,w,n,x,f,j⟩:=J i q;exact⟨c,e,w,by rwa[k.N i (K i q) id],x,f.I (An λ_=>È),j⟩
  .let⟨F,n,x,f⟩:=r.r;have H:∀v∈F.toList,v=Ã Á\/∃j,v=Ã (Â ⟨j,0,Á⟩)/\IK X i b a d j:=λv e=>by
    rcases f v e with q|q|q
    .unfold sr at q;obtain⟨p,I,rfl⟩:=Ú.1 q;exact Ï ⟨_,U,È<|L p I⟩
    .exact Ï ⟨_,q,Ï<|Ï<|È U⟩
    .exact È q
   refine⟨F,128,(0,0),n,Ù _,pP λv e=> ?_,x,Ao λv e=> ?_,A,A⟩
   .rcases H v e with rfl|⟨j,rfl,I⟩
    .exact .lW
    .exact .jV ⟨⟨U,I⟩,U,U⟩
   .rcases H v e with rfl|⟨j,rfl,I⟩<;>rfl
  .have f:∀v∈jo s a++[Å É h,d],fu (lA (IK X m i a d) B) v v/\yF v=Ë:=λv e=>by
    rw[Aa]at e;have I:=abe (B:=B) (V:=IK X m i a d) z λj q=>Ï<|Ï<|Ï<|È q;have F:=abe (B:=B) (V:=IK X m i a d) C λj q=>Ï<|Ï<|Ï<|Ï q;have H:∀{x:Ñ} {T:č},tB x T u->yF x=Ë:=λ{x T} q=>by rcases q with rfl|⟨_,_,_,_,rfl,_⟩<;>rfl
    rcases â.1 e with q|q
    .rcases â.1 q with q|q
     .rcases Uh s v q with⟨n,rfl⟩|⟨p,rfl⟩
      .exact⟨.iH _ _,U⟩
      .exact⟨.k9 _,U⟩
     .grind
    .simp at q;rcases q with rfl|rfl
     .exact⟨.iH _ _,U⟩
     .grind
   exact⟨_,139,(0,0),N,Ù _,pP λv e=>(f v<|by simpa using e).1,by simp[mQ],Ao λv e=>(f v<|by simpa using e).2,A,A⟩
  .exact abd U z D t i q
  .exact abd U C E t i q
 .rintro i (q|rfl|rfl|q|q)
  .exact È q
  .exact Ï r.C
  .exact Ï o.C
  .exact Ï<|D i q
  .exact Ï<|E i q
def MU{Y:fy}(h:fu Y v x):fu (lA X B) v v->fu (lA (λj=>∃i,X i/\Y i j) B) x x:=by
 induction h with
 |mJ b=>exact λ_=> .mJ b
 |iH k n=>exact λ_=> .iH k n
 |k9 s=>exact λ_=> .k9 s
 |lW=>exact λ_=> .lW
 |@jV a a' q=>exact λz=>fu.jV (Y:=lA (λj=>∃i,X i/\Y i j) B) ⟨⟨U,_,CI z,q.1⟩,U,U⟩
 |ou n c=>exact λ_=> .ou n c
 |@kS a a' q n c=>exact λz=>fu.kS (Y:=lA (λj=>∃i,X i/\Y i j) B) ⟨⟨U,_,CJ z,q.1⟩,U,U⟩ n c
 |vo=>exact λ_=> .vo
 |fn f=>exact λ_=> .fn f
 |vp=>exact λ_=> .vp
 |vq=>exact λ_=> .vq
 |vr=>exact λ_=> .vr
 |yD t _ b=>exact λz=> .yD t (b (by cases z with|yD _ y=>exact y))
 |oM f _ b=>exact λz=> .oM U λi c _=>b i (by rwa[f]) c (by cases z with|oM _ y=>exact y i _ _)
 |nR f _ b=>exact λz=> .nR U λi c _=>b i (by rwa[f]) c (by cases z with|nR _ y=>exact y i _ _)
def aqa{Y:fy}(h:fu Y v x):yF x=yF v:=by cases h<;>rfl
theorem Ui{Y:fy}{r:Nat->Prop}(h:jm Y r u w)(s:kQ B X u):kQ B (λj=>∃i,X i/\Y i j) w:=by
 rintro j ⟨i,t,x⟩;let⟨c,a,e,F,y,z,C,b,G,H,I⟩:=h.r i j x;let⟨d,J,qH,m,_,D,K,E,n,o⟩:=s i t;rw[z]at m;cases m;have L:=b.C.resolve_right λq=>q.2.1.elim n o;refine⟨a,e,y,C,?_,pP λv f=> ?_,Z,Ao λv f=> ?_,n,o⟩
 .grind
 .obtain⟨k,g,rfl⟩:=Ĝ f;have l:k<a.size:=by simpa using g
  have:=MU (b.r k Z l)<|D.C k Z Z;simpa using this
 .obtain⟨k,g,rfl⟩:=Ĝ f;have l:k<a.size:=by simpa using g
  have p:=aqa<|b.r k Z l;rw[(E k c[k]<|å Z)]at p;simpa using p
def Ap{Y:fy}(h:jm Y X u w):jc Y u w:=λi j o v b c=>h.gE (a:=⟨i,o,Á⟩) (a':=⟨j,o,Á⟩) ⟨b,U,U⟩ c
end
end Go.Proofs.Y.jF
namespace Go.Proofs.Y.Lift
open Go
def abf{α β:Type}{c:α->β->Option (ForInStep β)}{I:β->Prop}(d:∀a b s,I b->c a b=Â s->I s.value): ∀(l:List α) (b r:β),I b->forIn l b c=Â r->I r
 |[],b,r,hi,h=>by simp at h;subst h;exact hi
 |a::l,b,r,hi,h=>by
  rw[List.forIn_cons]at h;cases e:c a b with
  |none=>rw[e]at h;simp at h
  |some s=>
   rw[e]at h;have:=d a b s hi e;cases s with
   |done x=>simp at h;subst h;exact this
   |yield x=>simp at h;exact abf d l x r this h
def jW.gX(h:jW v):∀x∈v.cells,jW x:=by
 intro x a;cases h with
 |oM h=>
  obtain⟨i,b,rfl⟩:=Array.mem_iff_getElem.1 a;exact h i b
 |nR h=>simp[Ĺ]at a;subst a;exact .nR h
 |_=>simp[Ĺ]at a;subst a;constructor
def ZP(a:č->Option ħ):Prop:=∀t i z,a t=Â i->i.zero=Â z->jW z
def Uj(h:∀x∈d,jW x):jW (.agg d):=.oM λ_ a=>h _<|Ă a
theorem aqb{l:č->Option ħ}(h:ZP l){m:Array Field}(g:ŕ l m=Â zJ)(q:zJ.zero=Â z):jW z:=by
 unfold ŕ at g;simp only[<-Array.forIn_toList]at g;generalize t:(forIn m.toList _ _:Option _)=L at g;cases L with
 |none=>simp at g
 |some r=>
  have u:=abf (I:=λx=>∀a,x.2.2.2.2.2.2.2.1=Â a->∀v∈a,jW v) ?_ _ _ _ ?_ t
  .have:∃a,r.2.2.2.2.2.2.2.1=Â a/\z=.agg a:=by
    grind [ò]
   obtain⟨a,e,rfl⟩:=this;exact Uj<|u a e
  .intro f b s w d;have y:∀(e:Option Ñ) (k:Nat) (x:Option (Array Ñ)),(∀z,e=Â z->jW z)->x=(if k>ű then Á else do pure ((<-b.2.2.2.2.2.2.2.1)++(<-e).cells))->∀a,x=Â a->∀v∈a,jW v:=by
    intro e k x B C a c v n;subst C;split at c
    .simp at c
    .cases j:b.2.2.2.2.2.2.2.1 with
     |none=>rw[j]at c;simp at c
     |some E=>
      cases o:e with
      |none=>rw[j,o]at c;simp at c
      |some D=>
       rw[j,o]at c;simp at c;subst c;rcases Array.mem_append.1 n with p|p
       .exact w _ j v p
       .exact(B D o).gX v p
   cases e:l f.type with
   |none=>rw[e]at d;simp at d
   |some j=>
    rw[e,ê,ş]at d;have k:=y j.zero (b.2.1+j.size) _ (λz q=>h _ _ _ e q) U;generalize(if b.2.1+j.size>ű then Á else(do pure ((<-b.2.2.2.2.2.2.2.1)++(<-j.zero).cells):Option (Array Ñ)))=X at d k;generalize(if b.1.size+1<m.size then ";" else "")=Y at d;simp only[bind,pure,Option.bind]at d;repeat' split at d
    all_goals first
     |(simp only[Ô]at d;subst d;exact k)
     |(simp at d;done)
  .intro a c v n;simp at c;subst c;simp at n
def aqc{c:č->Option ħ}(h:ZP c){d:TypeDesc}(a:Τ c d=Â zJ)(b:zJ.zero=Â z):jW z:=by
 unfold Τ at a;cases d with
 |struct k=>exact aqb h a b
 |array n e=>
  simp only[ê,Ü,Ā,Ô]at a;obtain⟨f,v,st,_,rfl⟩:=a;simp only at b;split at b
  .simp at b
  .split at b
   .simp at b;subst b;exact Uj ft
   .simp only[ò]at b;obtain⟨j,g,rfl⟩:=b;refine Uj λx k=> ?_;simp only[Array.mem_flatten,Array.mem_replicate]at k;obtain⟨l,⟨_,rfl⟩,k⟩:=k;exact(h _ _ _ v g).gX x k
 |pointer e=>
  simp only[ê,Ü,Ā]at a;let⟨f,v,a⟩:=a;repeat' split at a
  all_goals first
   |(simp at a;done)
   |(simp only[Ü,Ô]at a;obtain⟨_,_,rfl⟩:=a;simp only[ł,Ô]at b;subst b;constructor)
 |slice e=>
  simp only[ê,Ü,Ā,Ô]at a;obtain⟨_,_,_,_,rfl⟩:=a;simp only[ł,Ô]at b;subst b;constructor
 |map k e=>
  simp only[ê,Ü,Ā,Ô]at a;obtain⟨_,_,_,_,_,_,_,_,rfl⟩:=a;simp only[ł,Ô]at b;subst b;constructor
 |chan k e=>
  simp only[ê,Ü,Ā,Ô]at a;obtain⟨_,_,_,_,rfl⟩:=a;simp only[ł,Ô]at b;subst b;constructor
 |func k e v=>
  simp only[ê,Ü,Ā,Ô]at a;obtain⟨_,_,rfl⟩:=a;simp only[ł,Ô]at b;subst b;constructor
 |_=>simp at a
def abg{T:Tables}(a:∀(t:Nat) (i:ħ) (z:Ñ),T.types[t]?=Â i->i.zero=Â z->jW z):∀f,ZP<|ţ T f
 |0=>λt i z h=>by simp[ţ]at h
 |f+1=>λt i z h b=>by
  unfold ţ at h;split at h
  .exact a t i z h b
  .simp only[Ü]at h;let⟨d,_,c⟩:=h;exact aqc (abg a f) c b
def aqd(a:∀(t:Nat) (i:ħ) (z:Ñ),P.types[t]?=Â i->i.zero=Â z->jW z):nT P:=λt i z h b=>by
 have h:P.toTables.info? t=Â i:=h;unfold Tables.info? at h;split at h
 .exact a t i z h b
 .exact abg a _ t i z h b
end Go.Proofs.Y.Lift
namespace Go.Proofs.Y.fB
open Go Go.Conc Go.Proofs.Y.Lift Go.RowKit Go.Conc.Lib Go.ConcR.Gen
open Go.Proofs Go.Proofs.YtgpphkdoanciiabGreatDoor
def Uk:Ñ->Bool
 |.agg a=>a.toList.all yN
 |v=>yN v
def abh(h:Uk v=Î):jW v:=by
 cases v with
 |agg b=>exact .oM λi a=>F9<|(ĭ.1 h) _<|î.2<|Ă a
 |_=>exact F9 h
def abj:Ñ->Bool
 |ë a=>a.toList.all Uk
 |v=>Uk v
def aqe(h:abj v=Î):jW v:=by
 cases v with
 |tuple b=>exact .nR λi a=>abh<|(ĭ.1 h) _<|î.2<|Ă a
 |_=>exact abh h
def Aq(i:ħ):Bool:=match i.zero with
 |some z=>abj z
 |none=>Î
def aqf(h:P.types.toList.all Aq=Î):nT P:=aqd λt i z a b=>by have:=(ĭ.1 h) i<|î.2<|ĵ a;unfold Aq at this;rw[b]at this;exact aqe this
def yI:nT À:=aqf gh
end Go.Proofs.Y.fB
namespace Go.Proofs.Y.jF
open Go Go.Conc Go.Proofs Go.RowKit Go.Proofs.Y.Lift Go.Proofs.Y.fV Go.Proofs.Y.fB
noncomputable def nB:Nat:=À.globals.size
def pQ(a:Nat->Prop)(b:Nat):Prop:=a b\/b=1\/b=2\/b=3\/b=4
def MV(b:Nat)(e:č)(w:Í):Prop:=∃c a,w.heap[b]?=Â (Û c e a)/\a.2<=c.size/\a.2<=16/\0<c.size/\∀v∈c.toList,∃k n,v=Å k n
structure na(w:Í):Prop where
 fA:nB<=w.heap.size
 M:kQ nB (λb=>b=1\/b=2) w
 I:MV 3 298 w
 C:MV 4 299 w
 S:fV.lU w
 je:iP w
 N:qA w
section
variable{V:Nat->Prop}
theorem na.r{w':Í}(h:na w)(f:nB<=w'.heap.size)(k:∀b,b=1\/b=2\/b=3\/b=4->w'.heap[b]?=w.heap[b]?):na w':=by
 have d:∀b o,b=1\/b=2\/b=3\/b=4->w'.cell? ⟨b,o,Á⟩=w.cell? ⟨b,o,Á⟩:=λb o e=>by simp only[ß,k b e]
 refine⟨f,h.M.C λb e=>k b<|e.imp id È,?_,?_,?_,?_,?_⟩
 .let⟨c,i,a,r⟩:=h.I;exact⟨c,i,by rwa[k 3 ft],r⟩
 .let⟨c,i,a,r⟩:=h.C;exact⟨c,i,by rwa[k 4 ft],r⟩
 .have c:=h.S;have i:À.globalNamed "internal/strconv.uint64pow10"=Â 1:=fv
  unfold fV.lU χ ο at*;grind
 .let⟨c,g,a⟩:=h.je.M;refine⟨⟨c,g,by rwa[k 2 ft]⟩,λi r j=> ?_⟩;rw[d 2 _ ft,d 2 _ ft,d 2 _ ft];exact h.je.I i r j
 .have:=h.N;unfold qA at*;grind
def abk(u:kQ nB X w)(x:∀b,X b->lG b=Ë)(g:na w):LK (pQ X) (pQ X) nB w:=by
 have p:∀{a:Nat->Prop} {c:Array Ñ},(∀b,a b->pQ X b)->fX (lA a nB) c c->fX (qm (pQ X) nB) c c:=λ{a c} hX r=>r.I<|An hX;refine⟨?_,g.fA⟩;have s:∀b e,(e=298\/e=299)->lG b=Î->MV b e w->∃c e d,w.heap[b]?=Â (Û c e d)/\d.2<=c.size/\fX (qm (pQ X) nB) c c/\(pQ X b->0<c.size/\(lG b=Î->(e=298\/e=299)/\d.2<=16)/\(lG b=Ë->C9 c)):=λb e y B h=>by let⟨c,d,f,j,l,m,o⟩:=h;exact⟨c,e,d,f,j,pP λv i=>by obtain⟨k,n,rfl⟩:=o v i;exact .iH _ _,λ_=>⟨m,λ_=>⟨y,l⟩,λq=>by rw[B]at q;cases q⟩⟩
 rintro b (q|q|q|rfl|rfl)
 .let⟨c,e,d,f,j,l,m,o,_⟩:=u b q;exact⟨c,e,d,f,j,p (λ_=>È) l,λ_=>⟨m,λt=>(by rw[x b q]at t;cases t),λ_=>o⟩⟩
 .let⟨c,e,d,f,j,l,m,o,_⟩:=g.M b<|È q;exact⟨c,e,d,f,j,p (λi k=>k.elim (λz=>Ï<|È z) λz=>Ï<|Ï<|È z) l,λ_=>⟨m,λt=>(by rw[q]at t;cases t),λ_=>o⟩⟩
 .let⟨c,e,d,f,j,l,m,o,_⟩:=g.M b<|Ï q;exact⟨c,e,d,f,j,p (λi k=>k.elim (λz=>Ï<|È z) λz=>Ï<|Ï<|È z) l,λ_=>⟨m,λt=>(by rw[q]at t;cases t),λ_=>o⟩⟩
 .exact s 3 298 (È U) U g.I
 .exact s 4 299 (Ï U) U g.C
def pR(a:lG b=Ë\/i<16)(h:w.cell? ⟨b,i,Á⟩=Â v):(World.tp (lz V w) xQ 0).cell? ⟨b,i,Á⟩=Â v:=by
 have j:(World.tp (lz V w) xQ 0).heap[b]?=(w.heap[b]?).map (pI V b):=ED b;simp only[ß,j];simp only[ß]at h;cases g:w.heap[b]? with
 |none=>rw[g]at h;cases h
 |some k=>
  rw[g]at h;cases k with
  |cells c e m=>
   simp only[ā,pI,ö,ì,if_false]at h|-;split
   .rename_i d;split at d
    .split at d
     .rename_i l;cases d;rcases a with a|a
      .rw[l]at a;cases a
      .unfold uS;rw[Array.getElem?_extract];simp;exact⟨by have:=(á.1 h).1;omega,h⟩
     .cases d;exact h
    .cases d;exact h
   .rename_i f;split at f
    .split at f<;>exact absurd U<|f _ _ _
    .exact absurd U<|f _ _ _
  |_=>cases h
def abl{T:ŷ}(d:kQ nB X w)(e:∀b,X b->lG b=Ë):jc (lA X nB) w (World.tp (lz V w) T 0):=by rintro i j o v ⟨rfl,a⟩ c;exact⟨v,pR (È<|e i a) c,d.r a c⟩
end
def RD(s:List fO)(b:Ñ)(a:Nat->Prop)(w:Í):Prop:=∃c,kv c=s/\ma s/\Mw b c w/\kQ nB a w/\fu (lA a nB) b b
section
variable{V:Nat->Prop}{s:List fO}
def abm(h:kQ nB X w)(k:∀b,X b->u.heap[b]?=w.heap[b]?):jc (lA X nB) w u:=by rintro i j o v ⟨rfl,a⟩ c;exact⟨v,by simp only[ß,k i a];exact c,h.r a c⟩
def RD.r(h:RD s v X w)(k:∀b,X b->u.heap[b]?=w.heap[b]?):RD s v X u:=by let⟨l,d,e,f,a,c⟩:=h;let⟨g,i,j⟩:=IH (abm a k) c f;exact⟨g,i.trans d,e,j,a.C k,c⟩
def IL(r:Nat)(q:Qn)(w:Í):Prop:=pO r q.x q.y q.g q.k q.r q.v q.C q.I w
def abn{Y:fy}(a:jc Y u w){r:Nat}{q:Qn}(b:Y r i)(h:IL r q u):IL i q w:= ⟨a.r b h.I,a.r b h.S,a.r b h.a,a.r b h.Y,a.r b h.N,a.r b h.M,a.r b h.c,a.r b h.b⟩
def aqg{T:ŷ}(g:na w):fV.lU (World.tp (lz V w) T 0):=by
 have a:=g.S;have h:À.globalNamed "internal/strconv.uint64pow10"=Â 1:=fv
 unfold fV.lU χ ο at*;rw[h]at a|-;simp only[ş]at a|-;have i:(World.tp (lz V w) T 0).heap[1]?=(w.heap[1]?).map (pI V 1):=ED 1;rw[i];cases f:w.heap[1]? with
 |none=>rw[f]at a;cases a
 |some j=>
  rw[f]at a;cases j with
  |cells c e k=>
   simp only[ā,pI,lG]at a|-;split
   .rename_i b;split at b<;>(simp at b;obtain⟨rfl,_⟩:=b;exact a)
   .rename_i d;split at d
    .exact absurd U<|d _ _ _
    .exact absurd U<|d _ _ _
  |_=>cases a
theorem abo{T:ŷ}(g:na w):iP (World.tp (lz V w) T 0):=by
 let⟨f,h,d⟩:=g.je.M;refine⟨?_,λi r e=> ?_⟩
 .have a:(World.tp (lz V w) T 0).heap[2]?=(w.heap[2]?).map (pI V 2):=ED 2;rw[a,d];simp only[ā,pI,lG];grind
 .let⟨a,b,c⟩:=g.je.I i r e;exact⟨pR (È U) a,pR (È U) b,pR (È U) c⟩
def aqh{T:ŷ}(g:na w):qA (World.tp (lz V w) T 0):=pR (Ï A) g.N
theorem Fi{T:ŷ}:ko (World.tp (lz V w) T 0):=λi o h=>m_ (Sh:=V) (w:=w) i o h
theorem aqi{l:fh}{q:Qn}{r:Nat}(x:RD s v X l.w)(I:∀b,X b->l.M b)(y:kQ nB V l.w)(J:∀b,V b->l.M b)(h:V r)(z:IL r q l.w)(ok:q.Ok)(g:na l.w)(K:∀b,b=1\/b=2\/b=3\/b=4->l.M b)(j:∀b,X b\/V b->lG b=Ë)(m:List (Nat×fO))(B:kv m=s): EG (λg=>xT g=Î) 51 #[v,Ã<|Â ⟨r,0,Á⟩] l (pQ λb=>X b\/V b) λe _=>e=Ä (tE m q):=by
 let⟨L,c,d,D,E,o⟩:=x;have t:=E.I y;refine⟨?_,abk t j g,?_,?_,λT=> ?_⟩
 .rintro b (q|q);all_goals grind
 .intro b a;unfold xT at a;simp at a;exact Ï a
 .refine pP λe a=> ?_;simp at a;rcases a with rfl|rfl
  .exact o.fT<|An λi k=>È<|È k
  .exact fu.jV (Y:=qm (pQ λb=>X b\/V b) nB) ⟨⟨U,È<|Ï h⟩,U,U⟩
 .have a:=abl (V:=pQ λb=>X b\/V b) (T:=T) t j;obtain⟨F,f,N,n,G,rfl,O,u⟩:=IH a (o.fT<|An λi k=>È k) D;have i:n=(kv F).length:=by rw[u.r];simp[kv]
  have P:=d.I;have Q:=d.C;rw[f,c]at i;have C:=apX (cp:=G) u Z Z (λp H=> ?_) (abn a ⟨U,Ï h⟩ z) ok (abo g) (aqg g)<|aqh g
  .apply C.mono;rintro e S ⟨rfl,k⟩;exact⟨by rw[apZ<|f.trans<|c.trans B.symm],k.gX Fi⟩
  .have:p.2∈s:=by rw[<-c,<-f];exact Ú.2 ⟨p,H,U⟩
   exact(d.r _ this).1
end
def CK(r:Nat)(v:Int)(x:Nat)(gN:List Tx)(w:Í):Prop:=∃a n c b,Cz r v x a n c w/\Ct a n b w/\lT b=gN/\n<=1000
section
variable{V:Nat->Prop}{s:List fO}
def abp(h:kQ nB X w):∀i,X i->i<w.heap.size:=λi a=>by let⟨c,e,d,b,_⟩:=h i a;exact(á.1 b).1
theorem abq{T:ŷ}(f:lG b=Ë)(h:w.heap[b]?=Â (Û d e xJ))(i:xJ.2<=d.size):∃a,(World.tp (lz V w) T 0).heap[b]?=Â (Û d e a)/\a.2<=d.size:=by have g:(World.tp (lz V w) T 0).heap[b]?=(w.heap[b]?).map (pI V b):=ED b;rw[g,h];simp only[ā,pI,f,ì,if_false];grind
def aqj{T:ŷ}(h:kQ nB X w)(d:∀b,X b->lG b=Ë):kQ nB X (World.tp (lz V w) T 0):=λb a=>by let⟨c,e,m,f,g,i⟩:=h b a;let⟨j,k,l⟩:=abq (V:=V) (T:=T) (d b a) f g;exact⟨c,e,j,k,l,i⟩
def aqk{T:ŷ}(k:kQ nB X w)(l:∀b,X b->lG b=Ë){r:Nat}{v:Int}{gN:List Tx}(o:X r)(h:CK r v i gN w):CK r v i gN (World.tp (lz V w) T 0):=by
 let⟨D,n,E,oF,g,p,F,G⟩:=h;have m:=l r o;refine⟨D,n,E,oF,⟨pR (È m) g.M,pR (È m) g.N,pR (È m) g.I⟩,⟨p.r,λj a t q=> ?_⟩,F,G⟩;let⟨tb,H,s,u,d,I⟩:=p.C j a t q;have y:X tb:=by have:=k.r o g.I;rw[s]at this;exact CJ this
 have z:=CI<|k.r y u;have f:=l a z;let⟨J,N,B⟩:=d.b;let⟨c,e,O,C,K,_⟩:=k a z;rw[B]at C;cases C;obtain⟨L,M,_⟩:=abq f B K;exact⟨tb,H,s,pR (È<|l tb y) u,⟨⟨J,L,M⟩,pR (È f) d.r,pR (È f) d.C,pR (È f) d.I,pR (È f) d.M,pR (È f) d.Y,pR (È f) d.N⟩,I⟩
def Rg(s:List fO)(v:Ñ)(u:Í):Prop:=∃X,RD s v X u
def Rg.tp{T:ŷ}(h:Rg s v w):Rg s v (World.tp w T n):=by let⟨X,h⟩:=h;exact⟨X,h.r λ_ _=>rfl⟩
def aql{Y:fy}{d:Nat->Prop}(h:rH Y d u w)(a:fu Y v x)(e:Rg s v u):∃c,RD s x c w/\∀b,c b->∃i,Y i b:=by let⟨X,f⟩:=e;have g:RD s v X {u with tape:=w.tape,drawn:=w.drawn}:=f.r λ_ _=>rfl;let⟨t,j,k,l,m,n⟩:=g;let⟨o,p,q⟩:=IH (Ap h) a l;exact⟨_,⟨o,p.trans j,k,q,Ui h m,MU a n⟩,λb ⟨i,_,r⟩=>⟨i,r⟩⟩
theorem aqm{l:fh}{r:Nat}{gN:List Tx}(hRD:RD s v X l.w)(hU:∀b,X b->l.M b)(K:kQ nB V l.w)(hV:∀b,V b->l.M b)(L:V r)(hq:CK r h m gN l.w)(hx:m<8)(f:-1<=h)(Ul:∀t∈gN,t.Ok)(hn:gN.length<=1000)(g:na l.w)(hG:∀b,b=1\/b=2\/b=3\/b=4->l.M b)(o:∀b,X b\/V b->lG b=Ë)(y:List (Nat×fO))(F:kv y=s): EG (λg=>xT g=Î) 50 #[v,Ã<|Â ⟨r,0,Á⟩] l (pQ λb=>X b\/V b) λz u=>∃p n c,z=ë #[Ç p n c,Ä (rj y h m gN).2]/\Rg (sw y h m gN) (Ç p n c) u:=by
 let⟨vs,h1,B,h3,N,a⟩:=hRD;have O:=N.I K;refine⟨?_,abk O o g,?_,?_,λT=> ?_⟩
 .rintro b (q|q);all_goals grind
 .intro b u;unfold xT at u;simp at u;exact Ï u
 .refine pP λh f=> ?_;simp at f;rcases f with rfl|rfl
  .exact a.fT<|An λi j=>È<|È j
  .exact fu.jV (Y:=qm (pQ λb=>X b\/V b) nB) ⟨⟨U,È<|Ï L⟩,U,U⟩
 .have d:=aqj (V:=pQ λb=>X b\/V b) (T:=T) N λb q=>o b<|È q;obtain⟨z,k1,P,n,Q,rfl,S,D⟩:=IH (abl (V:=pQ λb=>X b\/V b) (T:=T) O o) (a.fT<|An λi j=>È j) h3;obtain⟨tp,tn,tc,oF,q1,q2,rfl,q4⟩:=(aqk (V:=pQ λb=>X b\/V b) (T:=T) K (λb q=>o b<|Ï q) L hq);have c:=k1.trans h1;have hlen:n=s.length:=by rw[D.r,<-c];simp[kv]
  have avv:=B.I;have hle:=B.C;have W:ko (World.tp (lz (pQ λb=>X b\/V b) l.w) T 0):=Fi;have C:=aou D Z Z S (λp H=>by
   have:p.2∈s:=by rw[<-c];exact Ú.2 ⟨p,H,U⟩
   have:=(B.r _ this).2.2.2;omega) q1 q2 q4 (abo g) hx f
  have u:sw z h m (lT oF)=sw y h m (lT oF):=by unfold sw;rw[aa9<|c.trans F.symm,c,F]
  have E:ma (sw z h m<|lT oF):=ma.M (by rwa[c]) Ul hn;have ha:=aa9 (c.trans F.symm) h m<|lT oF;generalize World.tp (lz (pQ λb=>X b\/V b) l.w) T 0=G at*;refine C.mono ?_;rintro e u' ⟨k,hA⟩;rcases hA with⟨I,rfl⟩|⟨nv,b,tu,I,rfl,e3,e4,gb,gn,gc,rfl,e6⟩
  .refine⟨⟨P,n,Q,by rw[ha],?_⟩,k.gX W⟩;rw[<-u];have J:sw z h m (lT oF)=s:=by unfold sw;rw[I,c];simp
   rw[J]at E|-;exact⟨X,z,c,E,⟨P,n,Q,U,S,D.I k⟩,d.C λi j=>k.N i (abp d i j) id,a⟩
  .let⟨i,m1,m2,m3,_⟩:=ap9 d k (abp d) e4 e6 λp H=>by
    let⟨j,hj⟩:=ĕ H;let⟨sb,so,f1,f2,_⟩:=D.C j p.1 p.2 hj;have:X sb:=by rw[f1]at a;exact CJ a
    exact CI<|d.r this f2
   refine⟨⟨Â ⟨gb,0,Á⟩,gn,gc,by rw[ha],?_⟩,k.gX W⟩;rw[<-u];have J:sw z h m (lT oF)=kv (z++[(b,nv)]):=by unfold sw;rw[I];simp[kv]
   rw[J]at E|-;exact⟨i,_,U,E,e3,m3,fu.kS (Y:=lA i nB) ⟨⟨U,m2⟩,U,U⟩ gn gc⟩
end
structure wB where
 r:Nat->Int×Nat×List Tx
 C:Nat->Qn
def oG(s:List fO):List (Nat×fO):=s.map λv=>(0,v)
theorem IN(s:List fO):kv (oG s)=s:=by simp[kv,oG,Function.comp_def]
def CL(s:List fO)(i:Int×Nat×List Tx):List fO:=sw (oG s) i.1 i.2.1 i.2.2
def pS(a:wB)(I:List Nat)(b:List fO):Nat->List fO
 |0=>b
 |k+1=>CL (pS a I b k)<|a.r<|I.getD k 0
def yp(a:wB)(kd:Nat->Int)(p:Nat)(s:List fO):ByteArray:=if kd p=1 then(rj (oG s) (a.r p).1 (a.r p).2.1 (a.r p).2.2).2 else tE (oG s) (a.C p)
def iE(e:fh)(a:Nat->Prop)(c:wB)(kd:Nat->Int)(R:Nat)(d:List fO)(f:Nat->Prop):xR where
 γ:=List fO
 C:=d
 M:=λk s g=>g=CL s (c.r<|(ie kd R).getD k 0)
 RD:=λs h V w=>RD s h V w/\∀b,V b->a b\/e.w.heap.size<=b
 I:=λp=>yp c kd p<|pS c (ie kd R) d<|fQ kd p
 r:=f
def Um{kd:Nat->Int}:∀(R k:Nat),k<(ie kd R).length->fQ kd ((ie kd R).getD k 0)=k
 |0,k,h=>by simp[ie]at h
 |R+1,k,h=>by
  by_cases q:kd R=1
  .rw[tq q]at h|-;rcases Nat.lt_or_ge k (ie kd R).length with z|z
   .have e:(ie kd R++[R]).getD k 0=(ie kd R).getD k 0:=by simp[Ğ,Ĥ z]
    rw[e];exact Um R k z
   .have e:k=(ie kd R).length:=by simp at h;omega
    subst e;simp[Ğ,fQ]
  .rw[we q]at h|-;exact Um R k h
section
variable{y:Nat->Prop}
def MW(h:kQ nB y w)(g:na w):∀b,y b->lG b=Ë:=λb i=>by
 let⟨c,e,m,f,_,_,_,_,j,k⟩:=h b i;cases d:lG b with
 |false=>rfl
 |true=>
  unfold lG at d;simp at d;rcases d with rfl|rfl
  .let⟨l,qH,a,_⟩:=g.I;rw[f]at a;cases a;exact absurd U j
  .let⟨l,qH,a,_⟩:=g.C;rw[f]at a;cases a;exact absurd U k
def aqn(p:kQ nB X w)(k:∀b,X b->u.heap[b]?=w.heap[b]?){r:Nat}{gN:List Tx}(g:X r)(h:CK r c i gN w):CK r c i gN u:=by
 have d:∀{b o:Nat} {z:Ñ},X b->w.cell? ⟨b,o,Á⟩=Â z->u.cell? ⟨b,o,Á⟩=Â z:=λ{b o z} l q=>by simp only[ß,k b l];exact q
 let⟨C,n,D,oF,m,s,E,F⟩:=h;refine⟨C,n,D,oF,⟨d g m.M,d g m.N,d g m.I⟩,⟨s.r,λj a t q=> ?_⟩,E,F⟩;let⟨tb,G,y,B,e,H⟩:=s.C j a t q;have l:X tb:=by have:=p.r g m.I;rw[y]at this;exact CJ this
 have f:=CI<|p.r l B;let⟨I,J,K⟩:=e.b;exact⟨tb,G,y,d l B,⟨⟨I,J,by rwa[k a f]⟩,d f e.r,d f e.C,d f e.I,d f e.M,d f e.Y,d f e.N⟩,H⟩
end
structure IP(l0:fh)(bt:wB)(kd:Nat->Int)(rq:Nat->Nat)(R:Nat)(Q:Nat->Prop):Prop where
 M:na l0.w
 I:∀b,b=1\/b=2\/b=3\/b=4->l0.O b
 C:kQ nB Q l0.w
 fx:∀b,Q b->l0.O b
 r:∀p,p<R->Q (rq p)
 kV:∀p,p<R->kd p=1->CK (rq p) (bt.r p).1 (bt.r p).2.1 (bt.r p).2.2 l0.w/\(bt.r p).2.1<8/\-1<=(bt.r p).1/\(∀t∈(bt.r p).2.2,t.Ok)/\(bt.r p).2.2.length<=1000
 SH:∀p,p<R->kd p≠1->IL (rq p) (bt.C p) l0.w/\(bt.C p).Ok
def abr{V:Nat->Prop}{l:fh}{a:Ñ->Í->Prop}(h:EG X F d l V vQ)(b:∀v u,vQ v u->a v u):EG X F d l V a:= ⟨h.N,h.S,h.I,h.r,λT=>(h.C T).mono λe u q=>by
  cases e with
  |returned v=>exact⟨b v u q.1,q.2⟩
  |_=>exact q⟩
section
variable{l0:fh}{bt:wB}{kd:Nat->Int}{rq:Nat->Nat}{R:Nat}{Q C d:Nat->Prop}{B:List fO}{E F:Option û}
def abt{s:List fO}(h:fB.nz ((kO (iE l0 d bt kd R B C) i n R kd rq D E F j9 j7 k m J j qX l0).r À) b s):s=pS bt (ie kd R) B b:=by
 have c:∀(b:Nat) (s:((kO (iE l0 d bt kd R B C) i n R kd rq D E F j9 j7 k m J j qX l0).r À).γ),fB.nz ((kO (iE l0 d bt kd R B C) i n R kd rq D E F j9 j7 k m J j qX l0).r À) b s->s=pS bt (ie kd R) B b:=λb s h=>by
  induction h with
  |vB=>rfl
  |Du _ a e=>
   rwa[e]at a
 exact c b s h
def aqo(h:IP l0 bt kd rq R Q)(N:l0.w.heap.size<=m):EA (kO (iE l0 d bt kd R B C) i n R kd rq D E F j9 j7 k m J j qX l0):=by
 apply ak9 yI q' q_ U;intro a s O W l q t f x y P g G;let⟨f,S⟩:=f;have T:=y.fA m<|g m<|Ï U;have H:l0.w.heap.size<=l.w.heap.size:=Z
 have o:=G;have p:=h.M.r (Ì h.M.fA H) λb c=>o b<|h.I b c;have r:=h.C.C λb c=>o b<|h.fx b c;have e:=HY<|wo q;let⟨I,K⟩:=h.SH _ e.1 e.2;refine⟨_,abr (aqi f x r (λb c=>g b<|È<|h.fx b c) (h.r _ e.1) (abn (abm h.C λb c=>o b<|h.fx b c) ⟨U,h.r _ e.1⟩ I) K p (λb c=>g b<|È<|h.I b c) (λb c=>c.elim (MW (by let⟨_,_,_,_,z,_⟩:=f;exact z) p b)<|MW r p b) (oG s)<|IN s) λv u L=> ?_⟩;rw[L];have z:=abt t;have M:(kO (iE l0 d bt kd R B C) i n R kd rq D E F j9 j7 k m J j qX l0).b a=fQ kd ((jC kd R).getD a 0):=if_pos q;rw[M]at z;show _=Ä (yp bt kd ((jC kd R).getD a 0)<|pS bt (ie kd R) B<|fQ kd<|(jC kd R).getD a 0);rw[<-z];unfold yp;rw[if_neg e.2]
theorem aqp(h:IP l0 bt kd rq R Q)(hZ:(∀b,Q b->d b)/\∀b,b=1\/b=2\/b=3\/b=4->d b)(ZN:l0.w.heap.size<=m):Ez (kO (iE l0 d bt kd R B C) i n R kd rq D E F j9 j7 k m J j qX l0):=by
 refine ala yI q' q_ U (λs o u=>Rg s o u) (λs o u T n q=>Rg.tp q) ?_;intro T s o W l H I g K L hq r M;let⟨g,Pr⟩:=g;have hs:=L.fA m<|r m<|Ï U;have N:l0.w.heap.size<=l.w.heap.size:=Z
 have t:=M;have x:=h.M.r (Ì h.M.fA N) λb a=>t b<|h.I b a;have y:=h.C.C λb a=>t b<|h.fx b a;have G:=H;have f:=HU<|wo G;let⟨O,P,S,V,X⟩:=h.kV _ f.1 f.2;refine⟨_,abr (aqm g K y (λb a=>r b<|È<|h.fx b a) (h.r _ f.1) (aqn h.C (λb a=>t b<|h.fx b a) (h.r _ f.1) O) P S V X x (λb a=>r b<|È<|h.I b a) (λb a=>a.elim (MW (by let⟨_,_,_,_,z,_⟩:=g;exact z) x b)<|MW y x b) (oG s)<|IN s) λv u hv=> ?_,?_⟩
 .obtain⟨p,z,c,rfl,Y⟩:=hv;refine⟨p,z,c,CL s<|bt.r<|(ie kd R).getD T 0,?_,U,Y⟩;have e:(kO (iE l0 d bt kd R B C) i n R kd rq D E F j9 j7 k m J j qX l0).e (T+1)=yp bt kd ((ie kd R).getD T 0) (pS bt (ie kd R) B<|fQ kd<|(ie kd R).getD T 0):=U;rw[e,Um R T G,<-(abt I)];unfold yp;rw[if_pos f.2]
 .intro Y Sh u w s' g_ LC e p h3 h4;let⟨V',k1,c⟩:=aql e p h3;refine⟨V',⟨k1,λb a=> ?_⟩,c⟩;let⟨z,hi⟩:=c b a;rcases h4 z b hi with((q|q)|q)|q;all_goals grind
end
section
variable{R:Nat}{kd:Nat->Int}{o:Nat->Nat}{r:List Ē}{l:fh}{u:Nat->fh}{bt:wB}{j f:Nat->Prop}{s0:List fO}
def aqr{s:List fO}(h:zN (iE l f bt kd R s0 j) k s):s=pS bt (ie kd R) s0 k:=by
 have b:∀(k:Nat) (s:(iE l f bt kd R s0 j).γ),zN (iE l f bt kd R s0 j) k s->s=pS bt (ie kd R) s0 k:=λk s h=>by
  induction h with
  |vB=>rfl
  |Du _ a c=>
   rwa[c]at a
 exact b k s h
structure Ar(f:Nat->Prop)(bt:wB)(R:Nat)(kd:Nat->Int)(s0:List fO)(l:fh)(an:Nat)(sl:Ñ)(l':fh):Prop where
 M:∀b,l.O b->l'.O b/\l'.w.heap[b]?=l.w.heap[b]?
 r:l'.O an/\∀p,p<R->l'.w.cell? ⟨an,p,Á⟩=Â (Ä<|yp bt kd p<|pS bt (ie kd R) s0<|fQ kd p)
 Y:∃V,RD (pS bt (ie kd R) s0<|fQ kd R) sl V l'.w/\∀b,V b->l'.O b/\(f b\/l.w.heap.size<=b)
 d:l'.d=0
 q:¬l'.q
 S:∀b,¬l'.I b
 C:(∀a,¬l'.r a)/\(∀a,¬l'.N a)/\∀a,¬l'.K a
 I:l'.w.cell? ⟨an,R,Á⟩=Á/\lb l'.w an=Â (0,0)
def aqs{a:fh}(h:F7 (iE l f bt kd R s0 j) R kd l i v a):Ar f bt R kd s0 l i v a:=by let⟨s,V,g,c,k⟩:=h.HZ;have e:=aqr g;subst e;exact⟨h.vF,h.kJ,⟨V,c.1,λb q=>⟨k b q,c.2 b q⟩⟩,h.d,h.q,h.rd,h.xS,h.Dd⟩
def aqt{J:(Loc->Prop)->Nat->Jd}{F:Ē}(P:qX=F.at y (Ð Q (j9::jJ)::L)::r)(c:fB.rY À zX i (LA kd o R n v l qX) .fE D u E w qJ)(C:Option (Nat×Nat))(s:gF l)(S:∀b,¬l.I b)(W:¬l.q)(Y:l.d=0)(MX:wq zX i l)(H:IP l bt kd o R X)(hZ:(∀b,X b->f b)/\∀b,b=1\/b=2\/b=3\/b=4->f b)(I:∀b,f b->l.O b)(K:∀b,j b->f b)(Ch:RD s0 v j l.w)(xO:w.os=l.w.os/\w.output=l.w.output)(hn:1<=n)(hs:n+R<1000) (hJ:∀t x z B p m c,wq t x z->gF z->Ar f bt R kd s0 l B (Ç p m c) z->fB.fq À Î (J t x) z (G (F.at (y.put ((Q[j9]?).bind (·.dst))<|ë #[Ç (Â ⟨B,0,Á⟩) R R,Ç p m c])<|Ð Q jJ::L) r)): ∃N t x T V H0 g e tu h,ž À N (Į E w C) qJ=(.next<|Į g e tu,h)/\(e.os=l.w.os/\e.output=l.w.output)/\fB.rY À t x (J t x) T V H0 g e h:= ak2 (M:=iE l f bt kd R s0 j) P c C s S W Y MX (λb q=>I b<|K b q) (λs C V w e h L=>⟨h.1.r L,h.2⟩) (λs C V w h=>⟨by let⟨_,_,_,⟨g,n,N,e,_⟩,_⟩:=h.1;exact⟨g,n,N,e⟩,λb q=>(h.2 b q).imp (I b) id⟩) ⟨Ch,λb h=>È<|K b h⟩ xO hn hs (λg N V T cq B ba bi all e=>⟨aqp H hZ e,aqo H e⟩) λt x z B p m c e g N=>hJ t x z B p m c e g<|aqs N
end
end Go.Proofs.Y.jF
namespace Go.Proofs.Y.lL
open Go Go.Proofs Go.RowKit Go.Proofs.Y.Lift Go.Proofs.Y.fV
def jq(c:Int):Bool:=decide (48<=c)&&decide (c<=57)
def sx(c:Int):Bool:=decide (97<=c)&&decide (c<=104)
def wC(c:Int):Int:=
 if c=105 then 1 else if c=103 then 2 else if c=98 then 3 else if c=99 then 4 else if c=109 then 5
 else if c=114 then 6 else if c=108 then 7 else if c=117 then 8 else if c=100 then 9 else 0
def MY(c:Int):Int:=if c=62 then 1 else if c=123 then 2 else if c=58 then 3 else 0
def abu(h:48<=c/\c<=57):jq c=Î:=by simp[jq,h]
theorem Fj(c:Int):jq c=Î↔(48<=c/\c<=57):=by simp[jq]
def aqu(c:Int):sx c=Î↔(97<=c/\c<=104):=by simp[sx]
def rp(k:Int):List Int:=
 if k=1 then[86,58,120,47,66]else if k=2 then[86,58,120,115]else if k=3 then[86,58,120]
 else if k=4 then[86,58,120,62,121,40,110,44,107,41]else if k=5 then[86,58,120,62,121,40,107,41]
 else if k=9 then[86,58,87]else[86]
def sy(k:Int):List Int:=
 if k=1 then[121,61,110]else if k=2 then[80]else[121,40,110,44,107,41]
def o5(a c:Int):Bool:=
 if a=86\/a=87 then c==104||jq c
 else if a=110\/a=107 then jq c
 else if a=120\/a=121 then sx c
 else if a=115 then jq c||(decide (97<=c)&&decide (c<=102))
 else c==a
def qB(a c:Int):Int:=
 if c=48\/jq c=Ë then 0
 else if a=86\/a=87 then 1
 else if a=110\/a=107 then 5
 else 0
def j2(s:ByteArray):List Int:=s.data.toList.map λc=>((c.toNat:Nat):Int)
def aqv(B:ByteArray)(k:Nat)(h:k<B.size):(j2 B).drop k=((B[k].toNat:Nat):Int)::(j2 B).drop (k+1):=by
 have a:k<(j2 B).length:=by simpa[j2]using h
 rw[List.drop_eq_getElem_cons a];congr 1;simp[j2,ċ]
theorem Un(B:ByteArray):(j2 B).length=B.size:=by unfold j2;simp_all
theorem wD(s:ByteArray)(h:0<s.size):j2 s=((s[0].toNat:Nat):Int)::(j2 s).tail:=by have:=aqv s 0 h;grind
theorem abv(s:ByteArray)(h:s.size=0):j2 s=[]:=by grind [Ý,Un]
def aqw(s:ByteArray):j2 (s.extract 1 s.size)=(j2 s).tail:=by unfold j2;rw[Ĳ,ĺ,<-List.map_tail];congr 1;rw[ĥ,<-List.drop_one];apply List.take_of_length_le;simp_all
theorem aqx(s:ByteArray)(h:s.size<=10):(s.extract 1 s.size).size<=10:=by grind [Č]
theorem aqy(a c:Int):0<=qB a c/\qB a c<=5:=by unfold qB;grind
structure PT where
 c:List Int
 p:ByteArray
structure PR where
 c:List Int
 r:List PT
structure PD where
 S:List PR
 r:Bool
 I:PR
 M:Bool
 N:PT
structure PS where
 C:List Int
 r:Int
 I:Int
 M:Int
 d:PD
namespace PD
def Y(d:PD):List PT:=if d.M then d.I.r++[d.N]else d.I.r
def C(d:PD):List PR:=if d.r then d.S++[⟨d.I.c,d.Y⟩]else d.S
def oh(d:PD)(i:Nat)(z:Int):PD:={d with I:={d.I with c:=d.I.c.set i z}}
def oH(d:PD)(i:Nat)(z:Int):PD:={d with N:={d.N with c:=d.N.c.set i z}}
def iL(d:PD)(i:Nat)(z:Int):PD:=if d.M then d.oH i z else d.oh i z
def o6(d:PD)(p:ByteArray):PD:={d with N:={d.N with p:=p}}
def Aq:PT:=⟨[0,0,0,0,0],⟨#[]⟩⟩
def abw(k:Int):PR:=⟨[0,0,0,0,k,0,0,0],[]⟩
def nL(d:PD):PD:={d with I:=⟨d.I.c,d.Y⟩,M:=Î,N:=Aq}
def Fl(d:PD)(k:Int):PD:={S:=d.C,r:=Î,I:=abw k,M:=Ë,N:=d.N}
def fR(d:PD)(want z:Int):PD:=
 if want=86 then d.oh 5 z else if want=87 then d.oh 6 z else if want=120 then d.iL 0 z else if want=121 then d.iL 1 z
 else if want=110 then d.iL 2 z else if want=107 then d.iL 3 z else if want=115 then d.oh 7 z else d
def tF(d:PD)(i:Nat):Int:=if d.M then d.N.c.getD i 0 else d.I.c.getD i 0
def G(d:PD)(a:Int):Int:=if a=86 then d.I.c.getD 5 0 else if a=87 then d.I.c.getD 6 0 else if a=110 then d.tF 2 else d.tF 3
end PD
def ng(a c:Int):Int:=
 if a=120\/a=121 then Þ [97,98,99,100,101,102,103,104] c.toNat.toUInt8
 else if a=115 then Þ [48,49,50,51,52,53,54,55,56,57,97,98,99,100,101,102] c.toNat.toUInt8
 else if c=104 then-1 else(c-48)%256
def pT(z c:Int):Int:=É.wrap<|É.wrap (z*10)+(c-48)%256
def oI(st:PS)(c:Int):Option PS:=
 if c=59/\st.d.S.length+1<24 then Â {st with C:=[82]}
 else if c=44/\0<st.d.Y.length/\st.d.Y.length<8 then Â {st with C:=[120,84],d:=st.d.nL}
 else Á
def yq(st:PS)(k:Int):Option PS:=if k=0 then Á else Â {st with C:=rp k,d:=st.d.Fl k}
def yr(st:PS)(k:Int):Option PS:=if k=0 then Á else Â {st with C:=sy k,I:=0,d:=st.d.oH 4 k}
def om(st:PS)(a c:Int):PS:={st with r:=qB a c,M:=a,d:=st.d.fR a (ng a c)}
def kE(B:ByteArray)(k:Nat)(st:PS)(c:Int):Option PS:=
 match st.C with
 |[]=>oI st c
 |want::tl=>
  if want=82 then yq st (wC c)
  else if want=66 then
   if sx c=Î then Â (om {st with C:=[84],d:=st.d.nL} 120 c)else oI st c
  else if want=84 then yr st (MY c)
  else if want=80 then
   if c=125 then Â {st with C:=tl,d:=st.d.o6 (B.extract (k-st.I.toNat) k)}
   else if st.I=40\/mf c=0 then Á else Â {st with I:=st.I+1}
  else if o5 want c=Î then Â {om st want c with C:=tl}
  else Á
def CM(st:PS)(c:Int):PS:={st with r:=st.r-1,d:=st.d.fR st.M (pT (st.d.G st.M) c)}
def kR(B:ByteArray)(k:Nat)(st:PS)(c:Int):Option PS:=
 if 0<st.r/\jq c=Î then Â (CM st c)else kE B k {st with r:=0} c
def jr(B:ByteArray):Nat->Nat->PS->Nat×PS
 |0,k,st=>(k,st)
 |f+1,k,st=>if h:k<B.size then match kR B k st (B[k].toNat:Int)with
  |none=>(k,st)
  |some a=>jr B f (k+1) a
  else(k,st)
def pd0:PD:=⟨[],Ë,⟨[],[]⟩,Ë,⟨[],⟨#[]⟩⟩⟩
def nN:PS:=⟨[82],0,0,0,pd0⟩
def sB(c:Int)(w:Í): Ò À 78 #[Å Ū c] w λe a=>e=Æ (õ<|jq c)/\a=w:=by
 go_enter Tryz.func78,Tryz.ntmps78;go_wp2;all_goals go_ret
 all_goals exact⟨y_ (by simp only[jq];first|(simp[*];done)|(rw[Ę];simp;omega)),U⟩
def aqz(s:ByteArray)(c:Int)(w:Í): Ò À 151 #[Ä s,Å Ū c] w λe a=>e=Æ (Å É<|Þ s.data.toList c.toNat.toUInt8)/\a=w:=by go_enter Tryz.func151,Tryz.ntmps151;go_wp2;rw[run_callFunc_extern Tryz.func169 fv fv fv fv,Lib.run_indexByteString];simp only[Ų];rw[Oper.upon_value];go_wp2;go_ret;exact⟨U,U⟩
def IQ(s:ByteArray)(c:Int)(w:Í): Ò À 130 #[Ä s,Å Ū c] w λe a=>e=Æ (Å É<|Þ s.data.toList c.toNat.toUInt8)/\a=w:=by go_enter Tryz.func130,Tryz.ntmps130;go_wp2_with (go_at_call 151;refine(aqz _ _ _).mono ?_;rintro e a ⟨rfl,rfl⟩);go_ret;exact⟨U,U⟩
def MZ(c:Int):Bool:=jq c||(decide (97<=c)&&decide (c<=102))
def aqA:∀n:Fin 256,decide (0<=Þ [97,98,99,100,101,102,103,104] n.val.toUInt8)=sx (n.val:Int):=by decide+kernel
def aqB:∀n:Fin 256,decide (0<=Þ [48,49,50,51,52,53,54,55,56,57,97,98,99,100,101,102] n.val.toUInt8)=MZ (n.val:Int):=by decide+kernel
def aqC(a:0<=c)(b:c<256):decide (0<=Þ [97,98,99,100,101,102,103,104] c.toNat.toUInt8)=sx c:=by have:=aqA ⟨c.toNat,Z⟩;rwa[show((c.toNat:Nat):Int)=c from by omega]at this
def aqD(a:0<=c)(b:c<256):decide (0<=Þ [48,49,50,51,52,53,54,55,56,57,97,98,99,100,101,102] c.toNat.toUInt8)=MZ c:=by have:=aqB ⟨c.toNat,Z⟩;rwa[show((c.toNat:Nat):Int)=c from by omega]at this
def Uo(c:Int)(b:0<=c)(d:c<256)(w:Í): Ò À 82 #[Å Ū c] w λe a=>e=Æ (õ<|sx c)/\a=w:=by
 have f:=aqC b d;go_enter Tryz.func82,Tryz.ntmps82;go_wp2_with (go_at_call 130;refine(IQ _ _ _).mono ?_;rintro e a ⟨rfl,rfl⟩);all_goals go_ret
 all_goals exact⟨U,U⟩
def aqE(c:Int)(b:0<=c)(d:c<256)(w:Í): Ò À 133 #[Å Ū c] w λe a=>e=Æ (õ<|MZ c)/\a=w:=by
 have f:=aqD b d;go_enter Tryz.func133,Tryz.ntmps133;go_wp2_with (go_at_call 130;refine(IQ _ _ _).mono ?_;rintro e a ⟨rfl,rfl⟩);all_goals go_ret
 all_goals exact⟨U,U⟩
def aqF(c:Int)(w:Í): Ò À 86 #[Å Ū c] w λe a=>e=Æ (Å É<|MY c)/\a=w:=by
 go_enter Tryz.func86,Tryz.ntmps86;go_wp2;all_goals go_ret
 all_goals refine⟨EK ?_,U⟩
 all_goals simp only[beq_iff_eq,beq_eq_false_iff_ne,ne_eq]at*
 all_goals simp[MY, *]
def aqG(c:Int)(w:Í): Ò À 81 #[Å Ū c] w λe a=>e=Æ (Å É<|wC c)/\a=w:=by
 go_enter Tryz.func81,Tryz.ntmps81;go_wp2;all_goals go_ret
 all_goals refine⟨EK ?_,U⟩
 all_goals simp only[beq_iff_eq,beq_eq_false_iff_ne,ne_eq]at*
 all_goals simp[wC, *]
def abx(b c:Int)(d:0<=c)(f:c<256)(w:Í): Ò À 88 #[Å Ū b,Å Ū c] w λe a=>e=Æ (õ<|o5 b c)/\a=w:=by
 go_enter Tryz.func88,Tryz.ntmps88;go_wp2_with (first|(go_at_call 78;refine(sB _ _).mono ?_;rintro e a ⟨rfl,rfl⟩)|(go_at_call 82;refine(Uo _ d f _).mono ?_;rintro e a ⟨rfl,rfl⟩)|(go_at_call 133;refine(aqE _ d f _).mono ?_;rintro e a ⟨rfl,rfl⟩));all_goals go_ret
 all_goals refine⟨y_ ?_,U⟩
 all_goals try go_light
 all_goals simp only[beq_iff_eq,beq_eq_false_iff_ne,ne_eq]at*
 all_goals unfold o5
 all_goals first|(simp[MZ, *];done)|(rw[Ę];simp[*];done)|(rw[Ę];simp[*];omega)
def aqH(k:Int)(w:Í): Ò À 129 #[Å É k] w λe a=>(∃b:ByteArray,e=Æ (Ä b)/\b.size<=10/\j2 b=rp k)/\a=w:=by
 go_enter Tryz.func129,Tryz.ntmps129;go_wp2;all_goals go_ret
 all_goals refine⟨⟨_,U,?_,?_⟩,U⟩
 all_goals try go_light
 all_goals simp only[beq_iff_eq,beq_eq_false_iff_ne,ne_eq]at*
 all_goals first|(simp[j2,rp, *];done)|decide
def aqI(k:Int)(w:Í): Ò À 132 #[Å É k] w λe a=>(∃b:ByteArray,e=Æ (Ä b)/\b.size<=10/\j2 b=sy k)/\a=w:=by
 go_enter Tryz.func132,Tryz.ntmps132;go_wp2;all_goals go_ret
 all_goals refine⟨⟨_,U,?_,?_⟩,U⟩
 all_goals try go_light
 all_goals simp only[beq_iff_eq,beq_eq_false_iff_ne,ne_eq]at*
 all_goals first|(simp[j2,sy, *];done)|decide
def nh(m s:Nat):Ñ->Prop
 |Å Ū _=>False
 |Å _ _=>True
 |õ _=>True
 |Ä _=>True
 |Ã Á=>True
 |Ã (Â a)=>m<=a.block/\a.block<s
 |Ç Á _ _=>True
 |Ç (Â a) _ _=>m<=a.block/\a.block<s
 |_=>False
def nh.r(h:nh m i v)(d:i<=n):nh m n v:=by
 cases v with
 |int k b=>cases k<;>exact h
 |pointer a=>cases a with
  |none=>trivial
  |some a=>exact⟨h.1,Ġ h.2 d⟩
 |slice a b c=>cases a with
  |none=>trivial
  |some a=>exact⟨h.1,Ġ h.2 d⟩
 |_=>exact h
def M0(m s:Nat)(o:Obj):Prop:=∃c e a,o=Û c e a/\a.2<=c.size/\0<c.size/\e≠298/\e≠299/\∀v∈c.toList,nh m s v
def jG(m:Nat)(w:Í):Prop:=∀i o,m<=i->w.heap[i]?=Â o->M0 m w.heap.size o
def M0.r{o:Obj}(h:M0 m i o)(a:i<=n):M0 m n o:=by let⟨c,e,b,d,f,g,j,k,l⟩:=h;exact⟨c,e,b,d,f,g,j,k,λv p=>(l v p).r a⟩
def jG.I(w:Í):jG w.heap.size w:=λi o a h=>by rw[ı a]at h;cases h
def jG.fY(h:jG m w):jG m w.drew:=h
def jG.iW(h:jG m w)(n:Nat):jG m (w.drewN n):=h
theorem jG.gL(h:jG m w)(cs:Array Ñ)(t:č)(c:0<cs.size)(b:t≠298/\t≠299)(d:∀v∈cs.toList,nh m w.heap.size v):jG m (w.alloc<|Û cs t):=by
 intro i o f a;have k:(w.alloc<|Û cs t).heap.size=w.heap.size+1:=ft
 by_cases e:i<w.heap.size
 .rw[Š _ _ _ e]at a;exact(h i o f a).r Z
 .by_cases g:i=w.heap.size
  .subst g;rw[ų]at a;cases a;exact⟨cs,t,(0,0),U,Ù _,c,b.1,b.2,λv j=>(d v j).r Z⟩
  .grind
def jG.r(h:jG m w)(p:û)(l:nh m w.heap.size v):jG m (w.setCell p v):=by
 intro i o f a;have n:(w.setCell p v).heap.size=w.heap.size:=ft
 rw[n];by_cases e:i=p.block
 .subst e;unfold Ż at a;simp only[Ķ,if_true]at a;cases d:w.heap[p.block]? with
  |none=>rw[d]at a;cases a
  |some x=>
   rw[d]at a;obtain⟨c,e,r,rfl,g,j,s,t,k⟩:=h _ _ f d;simp only[ā,Ô]at a;subst a;refine⟨_,e,r,U,?_,?_,s,t,λu b=> ?_⟩
   .split
    .exact g
    .rwa[Ĭ]
   .split
    .exact j
    .rwa[Ĭ]
   .split at b
    .exact k u b
    .rw[Array.toList_setIfInBounds]at b;rcases Ħ b with q|q
     .exact k u q
     .rwa[q]
 .rw[ġ _ _ _ _ (by simpa using e)]at a;exact h i o f a
theorem aqJ{ty:č}{bytes base:Nat}(y:P.underlying t=Â (.slice e))(B:P.info? e=Â zJ)(G:zJ.zero=Â (Ã Á)) (s:zJ.size=1) (H:zJ.bytes=bytes) (f:w.ownsRow base e 1 v n l) (a:û) (c:Nat) (C:∀j M,[z][j]?=Â M->w.cell? (a.add j)=Â M) (N:z.oneCell'=Î) (O:n+1<=ī) (I:(n+1)*bytes<=140737488355328) (W:base<=w.heap.size) (X:mD e=Ë) (hm:m<=base) (D:jG m w) (hg:nh m w.heap.size z) (Y:e≠298/\e≠299): ∃h u,(ė #[t,t] ty #[v,Ç (Â a) 1 c]).run P w=.ok h u/\qn w base e 1 v n l 1 [z] h u/\jG m u/\nh m u.heap.size h:=by
 obtain⟨h,u,J,E⟩:=SU y B G s H U f a c [z] Z U C (λx b=>by simp at b;subst b;exact N) O I W<|È X;have hgv:nh m u.heap.size h:=by
  obtain⟨p,o,rfl⟩:=jN E.fx;cases p with
  |none=>trivial
  |some p=>
   have k:=E.fx.lt p.block (by rcases E.fx.2 with⟨q,_⟩|⟨g,r,d,q,_⟩<;>(cases q;try rfl));exact⟨Z,k.2⟩
 refine⟨h,u,J,E,?_,hgv⟩;have q:[z].length=1*zJ.size:=by rw[s];rfl
 have hlx:l.length=n*zJ.size:=by rw[s];exact f.1
 have alx:n+1<=9223372036854775807:=by simp only[ī]at O;omega
 have GQ:∀x∈l,nh m w.heap.size x:=λx b=>by
  rcases f.2 with⟨_,rfl⟩|⟨g,r,d,rfl,hbg,p,hnc,hcm,Q,htake⟩
  .grind
  .let⟨c2,e2,qH,S,_,_,_,_,q6⟩:=D g _ Z p;grind
 have gr:∀T,jG m (w.drew.alloc<|Û (l.toArray++[z].toArray++φ (Ĺ<|Ã Á) (grownCap w (n+1) T e-(n+1))) e):=λT=>by
  refine jG.gL D _ _ (by simp;omega) Y λx b=> ?_;simp only[Array.toList_append,â]at b;rcases b with(b|b)|b
  .exact GQ x b
  .grind
  .have:=SS b;simp[Ĺ]at this;subst this;trivial
 rcases f.2 with⟨rfl,rfl⟩|⟨g,r,d,rfl,hbg,p,hnc,hcm,Q,htake⟩
 .have b:=Ý (by simpa using f.1);subst b;have K:=run_append_nil w t ty e zJ (Ã Á) y B G a 1 c [z] q C Z Z (by rw[H];have k:=I;simp only[œ]at k;omega);grind
 .by_cases aqK:n+1<=r
  .have SV:n*zJ.size+[z].length<=d.size:=by rw[q,Q,s];omega
   have K:=run_append_room w t ty e zJ y B g n r d p a 1 c [z] q C (λx b=>by simp at b;subst b;exact N) aqK SV;rw[K]at J;cases J;have aqL:=setRow_heap w g d (d.toList.take (n*zJ.size)++[z]++d.toList.drop (n*zJ.size+[z].length)).toArray e _ p;have aqM:=λk (L:k≠g)=>setRow_other w g k (d.toList.take (n*zJ.size)++[z]++d.toList.drop (n*zJ.size+[z].length)).toArray L;let⟨c2,e2,qH,S,q2,q3,q4,q5,q6⟩:=D g _ Z p;cases S;intro k o L F;have kh:(w.setRow g (d.toList.take (n*zJ.size)++[z]++d.toList.drop (n*zJ.size+[z].length)).toArray).heap.size=w.heap.size:=ft
   rw[kh];by_cases V:k=g
   .subst V;rw[aqL]at F;cases F;refine⟨_,_,_,U,ft,(by simp;omega),q4,q5,λx b=> ?_⟩;grind
   .rw[aqM k V]at F;exact D k o L F
  .have k:w.ownsRow base e zJ.size (Ç (Â ⟨g,0,Á⟩) n r) n l:=by rwa[s]
   have K:=run_append_grow w t ty e zJ (Ã Á) y B G ⟨g,0,Á⟩ n r l hlx (k.cells U) a 1 c [z] q C Z Z (by rw[H];exact growslice_fits Z I);grind
def aby{f:Array ĝ}{E:Prop}{base:Nat} (k:o.guard=Á) (s x:Operand) (t:č) (p:o.op=Op.call {callee:=Callee.builtin κ,args:=#[s,x],argTypes:=#[t,t]}) {bytes:Nat} (q:P.underlying t=Â (.slice e)) (r:P.info? e=Â zJ) (B:zJ.zero=Â (Ã Á)) (C:zJ.size=1) (D:zJ.bytes=bytes) (F:y.eval s=v) (G:w.ownsRow base e 1 v n l) (ad:û) (H:y.eval x=Ç (Â ad) 1 b) (I:∀j g,[z][j]?=Â g->w.cell? (ad.add j)=Â g) (J:z.oneCell'=Î) (L:n+1<=ī) (M:(n+1)*bytes<=140737488355328) (N:base<=w.heap.size) (O:mD e=Ë) (S:m<=base) (T:jG m w) (V:nh m w.heap.size z) (W:e≠298/\e≠299) (h:∀d u,qn w base e 1 v n l 1 [z] d u->jG m u->nh m u.heap.size d->K (y.put o.dst d) u): if đ o (Θ f y.tmps)=Î then Oper.wp P o y w K vJ else E:=by
 have X:đ o (Θ f y.tmps)=Î:=by simp[đ,k]
 rw[if_pos X];let⟨d,u,Y,h2,h3,h4⟩:=aqJ (ty:=o.type) q r B C D G ad b I J L M N O S T V W;unfold Oper.wp;simp[ś,p,ρ,ar,ς,F,H,Y,Ų];exact h d u h2 h3 h4
def nO(l:List Nat):List Ñ:=l.map λa=>Ã<|Â ⟨a,0,Á⟩
def oJ(l:List Int):List Ñ:=l.map λz=>Å É z
def Fo(p:PT):List Ñ:=oJ p.c++[Ä p.p]
def CN(c:List Int)(a:Ñ):List Ñ:=oJ c++[a]
structure o7(lo hi:Nat)(tb:List Nat)(l:List PT)(w:Í):Prop where
 r:tb.length=l.length
 I:∀(j a:Nat) (p:PT),tb[j]?=Â a->l[j]?=Â p->lo<=a/\a<hi/\p.c.length=5/\fp a (Fo p) 193 w
structure wE(B q:Nat)(r:PR)(w:Í):Prop where
 M:q<B
 C:r.c.length=8
 I:∃vb tb,fp q (CN r.c vb) 154 w/\w.ownsRow 0 141 1 vb tb.length (nO tb)/\(∀j,vb.ownBlock=Â j->j<B)/\o7 0 B tb r.r w
structure pU(B:Nat)(qs:List Nat)(rs:List PR)(w:Í):Prop where
 I:qs.length=rs.length
 M:∀(j q:Nat) (r:PR),qs[j]?=Â q->rs[j]?=Â r->wE B q r w
section
variable{w':Í}{lo hi B q:Nat}{tb qs:List Nat}{l:List PT}{r:PR}{rs:List PR}
def o7.C(h:o7 lo hi tb l w)(k:fg X w w')(f:∀a c g,lo<=a->a<hi->w.heap[a]?=Â (Û c 193 g)->¬X a):o7 lo hi tb l w':= ⟨h.r,λj a p i m=>by let⟨b,d,n,e⟩:=h.I j a p i m;exact⟨b,d,n,e.I k<|f a _ _ b d e⟩⟩
def o7.M(h:o7 lo hi tb l w)(f:i<=lo)(g:hi<=n):o7 i n tb l w:= ⟨h.r,λj a p b c=>by let⟨k,m,d,e⟩:=h.I j a p b c;exact⟨Z,Z,d,e⟩⟩
theorem o7.N(lo hi:Nat)(w:Í):o7 lo hi [] [] w:=⟨U,λj a p h=>by cases h⟩
theorem Fp{α:Type}{l:List α}{a x:α}(h:(l++[a])[j]?=Â x):l[j]?=Â x\/j=l.length/\x=a:=by grind
theorem o7.Up{p:PT}(h:o7 lo hi tb l w)(g:lo<=i)(k:i<hi)(m:p.c.length=5)(n:fp i (Fo p) 193 w):o7 lo hi (tb++[i]) (l++[p]) w:=by
 refine⟨by simp[h.r],λj x y d b=> ?_⟩;rcases Fp d with e|⟨e,rfl⟩
 .rcases Fp b with f|⟨f,rfl⟩
  .exact h.I j x y e f
  .have:=(Õ.1 e).1;have:=h.r;omega
 .rcases Fp b with f|⟨f,rfl⟩
  .have:=(Õ.1 f).1;have:=h.r;omega
  .grind
def Uq(B:Nat)(w:Í)(i:Nat):Prop:=B<=i\/∃c T a,w.heap[i]?=Â (Û c T a)/\(T=145\/T=140)
theorem Ur(a:Uq B w i)(hi:i<B)(h:w.heap[i]?=Â (Û d T xJ))(b:T≠145/\T≠140):False:=by rcases a with q|⟨e,f,qH,g,j⟩;all_goals grind
theorem wE.vF(h:wE B q r w)(k:fg X w w')(d:∀i,i<w.heap.size->X i->Uq B w i):wE B q r w':=by let⟨f,tb,b,g,l,m⟩:=h.I;refine⟨h.M,h.C,f,tb,b.I k λx=>Ur (d q b.M x) h.M b A,im g k λj o x=> ?_,l,m.C k λa c p _ n e x=>Ur (d a (á.1 e).1 x) n e A⟩;grind [me,Ur]
def wE.fT(h:wE B q r w)(a:B<=i):wE i q r w:=by let⟨b,tb,c,d,e,f⟩:=h.I;exact⟨by have:=h.M;omega,h.C,b,tb,c,d,λj g=>by have:=e j g;omega,f.M (æ _) a⟩
def pU.C(h:pU B qs rs w)(k:fg X w w')(a:∀i,i<w.heap.size->X i->Uq B w i):pU B qs rs w':= ⟨h.I,λj q r b c=>(h.M j q r b c).vF k a⟩
def pU.Up(h:pU B qs rs w)(b:B<=i)(c:wE i q r w):pU i (qs++[q]) (rs++[r]) w:=by
 refine⟨by simp[h.I],λj x y d a=> ?_⟩;rcases Fp d with e|⟨e,rfl⟩
 .rcases Fp a with f|⟨f,rfl⟩
  .exact(h.M j x y e f).fT b
  .have:=(Õ.1 e).1;have:=h.I;omega
 .rcases Fp a with f|⟨f,rfl⟩
  .have:=(Õ.1 f).1;have:=h.I;omega
  .exact c
theorem pU.N(B:Nat)(w:Í):pU B [] [] w:=⟨U,λj q r h=>by cases h⟩
end
structure Gh where
 a:List Nat
 q:Nat
 t:Nat
 B:Nat
 tb:List Nat
 N:Ñ
 r:Ñ
 b:Option û
namespace Gh
def C(g:Gh)(d:PD):List Nat:=if d.r then g.a++[g.q]else g.a
def I(g:Gh)(d:PD):List Nat:=if d.M then g.tb++[g.t]else g.tb
def S(g:Gh)(d:PD):Option û:=if d.r then Â ⟨g.q,0,Á⟩else Á
def Y(g:Gh)(d:PD):Option û:=if d.M then Â ⟨g.t,0,Á⟩else g.b
def M(g:Gh)(d:PD):Nat:=if d.M then g.t else g.q
def G(g:Gh)(d:PD):Option û:=if d.r then Â ⟨g.M d,0,Á⟩else Á
def CO(g:Gh)(d:PD)(a:Int):û:=if a=86 then⟨g.q,5,Á⟩else if a=87 then⟨g.q,6,Á⟩else if a=110 then⟨g.M d,2,Á⟩else⟨g.M d,3,Á⟩
end Gh
structure wF(m:Nat)(g:Gh)(d:PD)(w:Í):Prop where
 S:m<=g.B
 N:g.B<=g.q
 M:d.I.c.length=8
 r:fp g.q (CN d.I.c g.r) 154 w
 I:w.ownsRow g.B 141 1 g.r (g.I d).length (nO<|g.I d)
 Y:o7 g.B g.t g.tb d.I.r w
 C:d.M=Î->g.B<=g.t/\d.N.c.length=5/\fp g.t (Fo d.N) 193 w
 a:d.M=Ë->g.tb=[]/\d.I.r=[]
structure lk(m:Nat)(g:Gh)(d:PD)(w:Í):Prop where
 C:w.ownsRow m 140 1 g.N (g.C d).length (nO<|g.C d)
 I:pU g.B g.a d.S w
 r:d.r=Î->wF m g d w
 N:d.r=Ë->d.M=Ë
def Us(s:ByteArray)(g:Gh)(d:PD)(a:Option û)(lB b:Int):List Ñ:=
 [Ä s,g.N,Ã<|g.S d,Ã<|g.Y d,Ã<|g.G d,Ã a,Å É lB,Å É b]
structure gV(m b:Nat)(g:Gh)(c:Option û)(s:ByteArray)(st:PS)(w:Í):Prop where
 S:m<=b
 a:jG m w
 r:fp b (Us s g st.d c st.r st.I) 145 w
 M:s.size<=10
 I:j2 s=st.C
 C:lk m g st.d w
 c:0<st.r->st.d.r=Î/\c=Â (g.CO st.d st.M)
 N:st.d.r=Î\/st.C=[82]
def sC(m b:Nat)(st:PS)(w a:Í):Prop:=fg (λi=>m<=i) w a/\∃g i s,gV m b g i s st a
section
variable{w':Í}{g:Gh}{d:PD}{s:ByteArray}{st:PS}
theorem wF.vF(h:wF m g d w)(k:fg X w w')(p:∀i c T b,w.heap[i]?=Â (Û c T b)->X i->T=145\/T=140):wF m g d w':=by
 have l:∀{i:Nat} {c:Array Ñ} {T:č} {b:Nat×Nat},w.heap[i]?=Â (Û c T b)->(T≠145/\T≠140)->¬X i:=λ{i c T b} n f x=>(p i c T b n x).elim f.1 f.2;refine⟨h.S,h.N,h.M,h.r.I k<|l h.r A,im h.I k λj r=> ?_,h.Y.C k λa c b _ _ q=>l q A,λe=> ?_,h.a⟩
 .let⟨o,s⟩:=me h.I r;grind
 .let⟨n,f,o⟩:=h.C e;exact⟨n,f,o.I k<|l o A⟩
theorem lk.S(h:lk m g d w)(k:fg X w w')(b:∀i c T a,w.heap[i]?=Â (Û c T a)->X i->T=145)(f:∀i,i<w.heap.size->X i->∃c a,w.heap[i]?=Â (Û c 145 a)):lk m g d w':=by
 refine⟨im h.C k λj l x=> ?_,h.I.C k λi n x=> ?_,λe=>(h.r e).vF k λi c T a q x=>È<|b i c T a q x,h.N⟩
 .let⟨o,q⟩:=me h.C l;grind
 .let⟨c,a,q⟩:=f i n x;exact Ï ⟨c,_,a,q,È U⟩
def lk.M(h:lk m g d w)(a:fp b l 145 w)(k:fg (λi=>i=b) w w'):lk m g d w':= h.S k (λi c T e q x=>by subst x;unfold fp at a;rw[a]at q;cases q;rfl) λi _ x=>⟨l.toArray,(0,0),by rwa[x]⟩
def pV{i:Nat}{v:Value}{j:Nat}{vs:List Value}{T:TypeId}(h:fp j vs T w)(hT:mD T=false:=by decide):fg (λk=>k=j) w (w.setCell ⟨j,i,none⟩ v):=fg.I (X:=λk=>k=j) U v<|Ï<|h.G hT
def lk.abz(h:lk m g d w):(g.C d).length=d.C.length:=by unfold Gh.C PD.C;split<;>simp[h.I.I]
def wF.G(h:wF m g d w):(g.I d).length=d.Y.length:=by unfold Gh.I PD.Y;split<;>simp[h.Y.r]
def Ut(h:i<zQ.length)(v:Ñ):(oJ zQ++[v])[i]?=Â (Å É<|zQ.getD i 0):=by rw[Ĥ (by simpa[oJ]using h)];simp[oJ,Ğ,h]
def abA(l:List Int)(i:Nat)(z:Int)(v:Ñ)(h:i<l.length):(oJ l++[v]).set i (Å É z)=oJ (l.set i z)++[v]:=by rw[List.set_append_left _ _ (by simpa[oJ]using h)];simp[oJ,List.map_set]
def abB(l:List Int)(v u:Ñ):(oJ l++[v]).set l.length u=oJ l++[u]:=by rw[Ĵ _ _ (by simp[oJ])];simp[oJ]
def CP(l:List Int)(v:Ñ):(oJ l++[v])[l.length]?=Â v:=by rw[ğ (by simp[oJ])];simp[oJ]
theorem lk.Y(h:lk m g d w)(on:d.r=Î)(n:i<8)(z:Int):lk m g (d.oh i z) (w.setCell ⟨g.q,i,Á⟩<|Å É z):=by
 have l:=h.r on;have k:fg (λk=>k=g.q) w (w.setCell ⟨g.q,i,Á⟩<|Å É z):=pV l.r;have r:=l.N;refine⟨im h.C k λj b x=>jE h.C l.r A (by rw[b,x]),h.I.C k λi _ x=>È Z,λ_=>⟨l.S,l.N,by simp[PD.oh,l.M],?_,im l.I k λj b x=>jE l.I l.r A (by rw[b,x]),l.Y.C k λa c s _ _ q x=> ?_,λe=> ?_,l.a⟩,h.N⟩
 .have:=l.r.fR i<|Å É z;unfold CN at this;rw[abA _ _ _ _ (by rwa[l.M])]at this;exact this
 .have:=l.r;unfold fp at this;grind
 .let⟨o,p,f⟩:=l.C e;exact⟨o,p,f.I k λx=>(fp.S f l.r A) x⟩
theorem lk.iL(h:lk m g d w)(on:d.r=Î)(f:d.M=Î){p:PT}(n:p.c.length=5)(r:(Fo d.N).set i v=Fo p):lk m g {d with N:=p} (w.setCell ⟨g.t,i,Á⟩ v):=by have l:=h.r on;let⟨o,s,b⟩:=l.C f;have k:fg (λk=>k=g.t) w (w.setCell ⟨g.t,i,Á⟩ v):=pV b;refine⟨im h.C k λj e x=>jE h.C b A (by rw[e,x]),h.I.C k λi _ x=>È Z,λ_=>⟨l.S,l.N,l.M,l.r.I k λx=>(fp.S l.r b A) x,im l.I k λj e x=>jE l.I b A (by rw[e,x]),l.Y.C k λa c u _ q _ x=>by omega,λ_=>⟨o,n,?_⟩,l.a⟩,h.N⟩;have:=b.fR i v;grind
def lk.G(h:lk m g d w)(on:d.r=Î)(a:d.M=Î)(c:i<5)(z:Int):lk m g (d.oH i z) (w.setCell ⟨g.t,i,Á⟩<|Å É z):=by let⟨e,b,f⟩:=(h.r on).C a;exact h.iL on a (by simp[b])<|abA _ _ _ _<|by rwa[b]
def lk.o6(h:lk m g d w)(on:d.r=Î)(a:d.M=Î)(p:ByteArray):lk m g (d.o6 p) (w.setCell ⟨g.t,5,Á⟩<|Ä p):=by let⟨e,b,f⟩:=(h.r on).C a;refine h.iL on a b ?_;have:=abB d.N.c (Ä d.N.p)<|Ä p;rwa[b]at this
structure qC(m b:Nat)(g:Gh)(d:PD)(ab ao:Nat)(f:Int->PD)(x:Int)(w:Í):Prop where
 r:ab≠b
 N:m<=ab
 a:ab<w.heap.size
 C:w.cell? ⟨ab,ao,Á⟩=Â (Å É x)
 I:w.frozen? ⟨ab,ao,Á⟩=Ë
 nf:NF ab w
 Y:∀W,lk m g d W->∀z,lk m g (f z)<|W.setCell ⟨ab,ao,Á⟩<|Å É z
 M:∀z,g.S (f z)=g.S d/\g.Y (f z)=g.Y d/\g.G (f z)=g.G d/\(f z).r=d.r/\∀n,g.CO (f z) n=g.CO d n
theorem Fq(h:lk m g d w)(f:fp b l 145 w)(on:d.r=Î)(e:i<8):qC m b g d g.q i (λz=>d.oh i z) (d.I.c.getD i 0) w:=by have a:=h.r on;exact⟨fp.S a.r f A,Ì a.S a.N,a.r.M,a.r.r i _ (Ut (by rwa[a.M]) _),a.r.C i,a.r.G,λW j z=>j.Y on e z,λz=>⟨U,U,U,U,λn=>rfl⟩⟩
theorem abC(h:lk m g d w)(k:fp b l 145 w)(on:d.r=Î)(f:d.M=Î)(j:i<5):qC m b g d g.t i (λz=>d.oH i z) (d.N.c.getD i 0) w:=by have a:=h.r on;let⟨o,p,e⟩:=a.C f;exact⟨fp.S e k A,Ì a.S o,e.M,e.r i _ (Ut (by rwa[p]) _),e.C i,e.G,λW q z=>q.G on f j z,λz=>⟨U,U,U,U,λn=>rfl⟩⟩
theorem Fs(h:lk m g d w)(a:fp b l 145 w)(on:d.r=Î)(c:i<4):qC m b g d (g.M d) i (λz=>d.iL i z) (d.tF i) w:=by unfold PD.iL PD.tF Gh.M;split;all_goals grind [abC,Fq]
theorem gV.G{f:Int->PD}(h:gV m b g O s st w)(n:qC m b g st.d i j f c w)(z:Int):gV m b g O s {st with d:=f z} (w.setCell ⟨i,j,Á⟩<|Å É z):=by
 let⟨e,l,o,a,p⟩:=n.M z;have k:fg (λk=>k=i) w (w.setCell ⟨i,j,Á⟩<|Å É z):=fg.I (X:=λk=>k=i) U _<|È U;refine⟨h.S,h.a.r _ trivial,?_,h.M,h.I,n.Y w h.C z,λq=> ?_,?_⟩
 .have:=h.r.I k λc=>n.r c.symm;unfold Us at this|-;grind
 .let⟨r,t⟩:=h.c q;grind
 .simp only[a];exact h.N
def gV.M1(h:gV m b g O s st w)(a:ByteArray)(r:List Int)(c:a.size<=10)(e:j2 a=r)(f:st.d.r=Î\/r=[82]):gV m b g O a {st with C:=r} (w.setCell ⟨b,0,Á⟩<|Ä a):= ⟨h.S,h.a.r _ trivial,h.r.fR 0 _,c,e,h.C.M h.r<|pV h.r,h.c,f⟩
def gV.Y(h:gV m b g O s st w)(z:Int)(a:0<z->st.d.r=Î/\O=Â (g.CO st.d st.M)):gV m b g O s {st with r:=z} (w.setCell ⟨b,6,Á⟩<|Å É z):= ⟨h.S,h.a.r _ trivial,h.r.fR 6 _,h.M,h.I,h.C.M h.r<|pV h.r,a,h.N⟩
def gV.abD(h:gV m b g O s st w)(z:Int):gV m b g O s {st with I:=z} (w.setCell ⟨b,7,Á⟩<|Å É z):= ⟨h.S,h.a.r _ trivial,h.r.fR 7 _,h.M,h.I,h.C.M h.r<|pV h.r,h.c,h.N⟩
def gV.abE(h:gV m b g O s st w)(a:û)(n:Int)(d:st.r=0)(c:m<=a.block/\a.block<w.heap.size):gV m b g (Â a) s {st with M:=n} (w.setCell ⟨b,5,Á⟩<|Ã<|Â a):= ⟨h.S,h.a.r _ c,h.r.fR 5 _,h.M,h.I,h.C.M h.r<|pV h.r,λq=>by have:0<st.r:=q;omega,h.N⟩
def gV.fY(h:gV m b g O s st w):gV m b g O s st w.drew:=by have k:=fg.fY fl w;exact⟨h.S,h.a,h.r.I k id,h.M,h.I,h.C.S k (λ_ _ _ _ _ x=>x.elim) λ_ _ x=>x.elim,h.c,h.N⟩
end
section
variable{g:Gh}{st:PS}{f:Int->PD}
def qC.S{d:PD}(a:qC m b g d n j f h w)(i:Nat)(v:Ñ):qC m b g d n j f h (w.setCell ⟨b,i,Á⟩ v):= ⟨a.r,a.N,by simpa using a.a,by rw[H4<|Ne.symm a.r];exact a.C,by rw[World.frozen?_setCell];exact a.I,λc T e q=>a.nf c T e (by rwa[ġ _ _ _ _ (by simpa using a.r)]at q),a.Y,a.M⟩
def gV.Uu(h:gV m b g O B st w)(n:Int)(a:st.r=0):gV m b g O B {st with M:=n} w:= ⟨h.S,h.a,h.r,h.M,h.I,h.C,λq=>by have:0<st.r:=q;omega,h.N⟩
def mS(h:gV m b g O B st w)(i:Nat)(v:Ñ):fg (λi=>m<=i) w (w.setCell ⟨b,i,Á⟩ v):=fg.I (X:=λi=>m<=i) (p:=⟨b,i,Á⟩) h.S v<|Ï h.r.G
def Ft(a:qC m b g st.d n j f h w)(z:Int):fg (λi=>m<=i) w (w.setCell ⟨n,j,Á⟩<|Å É z):=fg.I (X:=λi=>m<=i) (p:=⟨n,j,Á⟩) a.N _<|È U
def wG(c a:Int):Int:=if c=104\/c=48 then 0 else a-1
def ku(c:Int):Int:=if c=104 then-1 else(c-48)%256
def Uv{st:PS}(h:st.r=0)(n:Int)(d:PD):({st with r:=0,M:=n,d:=d}:PS)={st with M:=n,d:=d}:=by rw[<-h]
def M3(a:gV m b g O B st w)(k:qC m b g st.d n j f h w)(l:st.r=0)(p:st.d.r=Î)(c o i:Int)(C:0<=o)(D:o<=6)(q:∀z,g.CO (f z) i=⟨n,j,Á⟩): Ò À 131 #[Ã<|Â ⟨b,0,Á⟩,Ã<|Â ⟨n,j,Á⟩,Å Ū c,Å É o] w λe u=>
  e=Æ (ë #[])/\sC m b {st with r:=wG c o,M:=i,d:=f (ku c)} w u:=by
 have E:=a.r.r 5 _ U;have F:=a.r.r 6 _ U;have G:=a.r.C 5;have I:=a.r.C 6;have J:=k.C;have K:=k.I;have L:=k.r;have M:¬b=n:=λe=>k.r e.symm;have t:m<=n/\n<w.heap.size:=⟨k.N,k.a⟩;have H:=fi<|Ê a<|Ê k<|Ê q<|Ê l p;by_cases s:c=104
 .subst s;go_enter Ŗ,ŋ;go_wp2;first|go_end0|refine þ (results_none U _ _ _) U ?_
  let⟨a,k,q,l,p⟩:=H.out;refine⟨U,Ft k _,g,O,B,?_⟩;have:=(a.G k<|-1).Uu i l;rw[show wG 104 o=0 from if_pos<|È U,Uv l];exact this
 .have N:(c==104)=Ë:=by rwa[beq_eq_false_iff_ne]
  have v:ku c=(c-48)%256:=if_neg s;by_cases y:c=48
  .subst y;go_enter Ŗ,ŋ;go_wp2;go_end0;let⟨a,k,q,l,p⟩:=H.out;have x:=a.abE ⟨n,j,Á⟩ i l t;have r:=k.S 5<|Ã<|Â ⟨n,j,Á⟩;refine⟨U,(mS a 5 _).fj<|Ft r _,g,Â ⟨n,j,Á⟩,B,?_⟩;have:=x.G r 0;rw[show wG 48 o=0 from if_pos<|Ï U,Uv l,v];exact this
  .go_enter Ŗ,ŋ;go_wp2;go_end0;let⟨a,k,q,l,p⟩:=H.out;have r:=k.S 5<|Ã<|Â ⟨n,j,Á⟩;have x:=(a.abE ⟨n,j,Á⟩ i l t).G r<|(c-48)%256;refine⟨U,((mS a 5 _).fj<|Ft r _).fj<|mS x 6 _,g,Â ⟨n,j,Á⟩,B,?_⟩;rw[show wG c o=o-1 from if_neg Z,v];exact(x.Y (o-1) λ_=>⟨by simp only;rwa[(k.M _).2.2.2.1],by simp only;rw[q]⟩)
theorem M4{b a:Int}(h:o5 a c=Î)(d:(a=86\/a=87)/\b=2\/(a=110\/a=107)/\b=6):wG c b=qB a c:=by unfold wG qB;unfold o5 at h;grind [Fj]
theorem M5{a:Int}(h:¬(a=86\/a=87)/\¬(a=110\/a=107)):qB a c=0:=by unfold qB;grind
theorem M6{a:Int}(h:a=86\/a=87\/a=110\/a=107):ng a c=ku c:=by unfold ng ku;grind
def Uw(a:gV m b g O B st w)(k:qC m b g st.d n j f h w)(l:st.r=0){i z:Int}(e:c=0)(o:u=(w.setCell ⟨n,j,Á⟩<|Å É z).drew):sC m b {st with r:=c,M:=i,d:=f z} w u:=by subst o;subst e;rw[Uv l];exact⟨(Ft k z).fj<|fg.fY _ _,g,O,B,((a.G k z).Uu i l).fY⟩
end
section
variable{g:Gh}{st:PS}
def IT{d:PD}(a:d.M=Î):g.Y d=Â ⟨g.t,0,Á⟩:=if_pos a
def aqN:yr st 0=Á:=rfl
def aqO(h:gV m b g O B st w)(r:st.r=0)(on:st.d.r=Î)(f:st.d.M=Î)(k:Int): Ò À 85 #[Ã<|Â ⟨b,0,Á⟩,Å É k] w λe u=>match yr st k with
  |none=>e=Æ (õ Ë)/\u=w
  |some a=>e=Æ (õ Î)/\sC m b a w u:=by
 have s:=h.r.r 0 _ U;have o:=h.r.r 3 _ U;have v:=h.r.r 7 _ U;rw[IT f]at o;have x:=h.r.C 0;have y:=h.r.C 7;have a:=abC h.C h.r on f (i:=4) A;have z:=a.C;have C:=a.I;have D:=a.r;have E:¬b=g.t:=λe=>a.r e.symm;have H:=fi<|Ê h a;by_cases c:k=0
 .subst c;rw[aqN];go_enter Υ,Ι;go_wp2;go_ret;exact⟨U,U⟩
 .have F:(k==0)=Ë:=by rwa[beq_eq_false_iff_ne]
  have e:yr st k=Â {st with C:=sy k,I:=0,d:=st.d.oH 4 k}:=if_neg c;rw[e];go_enter Υ,Ι;go_wp2_with (go_at_call 132;refine(aqI _ _).mono ?_;rintro e u ⟨⟨j,rfl,p,q⟩,l⟩;subst u);go_ret;let⟨h,a⟩:=H.out;have l:=h.G a k;have n:=l.abD 0;exact⟨U,((Ft a k).fj<|mS l 7 _).fj<|mS n 0 _,g,O,j,n.M1 j _ p q<|È on⟩
end
def aqP:(À.info? 141).map (λi=>(i.zero,i.size,i.bytes))=Â (Â<|Ã Á,1,8):=fv
def aqQ:(À.info? 140).map (λi=>(i.zero,i.size,i.bytes))=Â (Â<|Ã Á,1,8):=fv
section
variable{g:Gh}{nm:Option û}{s:ByteArray}{st:PS}{d:PD}{T:Nat}
structure ve(m:Nat)(g:Gh)(d:PD)(T:Nat)(w:Í):Prop where
 C:w.ownsRow m 140 1 g.N (g.C d).length (nO<|g.C d)
 I:pU g.B g.a d.S w
 N:o7 g.B T (g.I d) d.Y w
 tb:fp T (Fo PD.Aq) 193 w
def IU(x:i=j)(h:fp j l t w):w.heap[i]?=Â (Û l.toArray t (0,0)):=by rwa[x]
theorem ve.r(h:ve m g d T w)(k:fg X w u)(f:∀i,i<w.heap.size->X i->∃c t b,w.heap[i]?=Â (Û c t b)/\(t=145\/(t=154\/t=141)/\g.B<=i)):ve m g d T u:=by
 have e:∀{i:Nat} {c:Array Ñ} {t:č} {b:Nat×Nat},w.heap[i]?=Â (Û c t b)->(t≠145/\t≠154/\t≠141)->¬X i:=λ{i c t b} q1 q2 x=>by grind
 refine⟨im h.C k λj l=> ?_,h.I.C k λi n x=> ?_,h.N.C k λa c b _ _ q=>e q A,h.tb.I k<|e h.tb A⟩
 .let⟨o,p⟩:=me h.C l;grind
 .let⟨r,s,qH,o,p⟩:=f i n x;rcases p with rfl|⟨_,z⟩
  .exact Ï ⟨_,_,_,o,È U⟩
  .exact È z
def ve.fP(h:ve m g d T w)(k:fg fl w u):ve m g d T u:=h.r k λ_ _ x=>x.elim
def ve.M(h:ve m g d T w)(a:fp b l 145 w):ve m g d T (w.setCell ⟨b,i,Á⟩ v):= h.r (pV a) λi _ x=>⟨_,_,_,IU x a,È U⟩
theorem wF.abF(l:wF m g d w):o7 g.B w.heap.size (g.I d) d.Y w:=by
 unfold Gh.I PD.Y;split
 .rename_i e;let⟨b,c,a⟩:=l.C e;have:=a.M;exact(l.Y.M (æ _) Z).Up b a.M c a
 .rename_i e;let⟨b,c⟩:=l.a (by simpa using e);grind [o7.N]
theorem jG.C(n:jG m w)(g:fp b l e w)(C:m<=b)(p:e≠298/\e≠299)(d:Array Ñ)(t:č)(u:0<d.size)(r:t≠298/\t≠299)(h:∀v∈d.toList,nh m (w.heap.size+1) v):jG m ((w.setCell ⟨b,i,Á⟩<|Ã<|Â ⟨w.heap.size,0,Á⟩).alloc<|Û d t):=by
 have s:(w.setCell ⟨b,i,Á⟩<|Ã<|Â ⟨w.heap.size,0,Á⟩).heap.size=w.heap.size:=ft
 have D:=g.M;intro j o k c;have x:((w.setCell ⟨b,i,Á⟩<|Ã<|Â ⟨w.heap.size,0,Á⟩).alloc<|Û d t).heap.size=w.heap.size+1:=ft
 rw[x];by_cases a:j<w.heap.size
 .rw[Š _ _ _ (by rwa[s])]at c;by_cases f:j=b
  .subst f;have:=g.fR i<|Ã<|Â ⟨w.heap.size,0,Á⟩;unfold fp at this;rw[this]at c;cases c;let⟨E,F,G,y,H,z,I,J,B⟩:=n j _ k g;cases y;refine⟨_,_,_,U,ft,by simpa using z,p.1,p.2,λv h=> ?_⟩;rcases Ħ (by simpa using h)with q|q
   .exact(B v<|by simpa using q).r Z
   .rw[q];exact⟨Ì k<|Nat.le_of_lt a,Nat.lt_succ_self _⟩
  .rw[ġ _ _ _ _ (by simpa using f)]at c;exact(n j o k c).r Z
 .by_cases f:j=w.heap.size
  .have:=ų (w.setCell ⟨b,i,Á⟩<|Ã<|Â ⟨w.heap.size,0,Á⟩)<|Û d t;rw[s]at this;rw[f,this]at c;cases c;exact⟨_,_,_,U,Ù _,u,r.1,r.2,h⟩
  .grind
def M7(b:Nat)(w:Í):Í:=(w.setCell ⟨b,3,Á⟩<|Ã<|Â ⟨w.heap.size,0,Á⟩).alloc<|Û #[Å É 0,Å É 0,Å É 0,Å É 0,Å É 0,Ä ⟨#[]⟩] 193
def rdM(s:ByteArray)(g:Gh)(d:PD)(a b nm:Option û)(lB c:Int):List Ñ:=
 [Ä s,g.N,Ã<|g.S d,Ã a,Ã b,Ã nm,Å É lB,Å É c]
structure Fu(m b:Nat)(g:Gh)(d:PD)(T:Nat)(s:ByteArray)(tm nm:Option û)(lB Ux:Int)(w0 w:Í):Prop where
 S:fg (λi=>m<=i) w0 w
 N:jG m w
 r:fp b (rdM s g d (Â ⟨T,0,Á⟩) tm nm lB Ux) 145 w
 M:ve m g d T w
 I:fp g.q (CN d.I.c g.r) 154 w
 C:w.ownsRow g.B 141 1 g.r (g.I d).length (nO<|g.I d)
def Fu.fP{lB:Int}(h:Fu m b g d T s O nm lB c W w)(k:fg fl w u)(a:jG m u):Fu m b g d T s O nm lB c W u:= ⟨h.S.C k λ_ _ x=>x.elim,a,h.r.I k id,h.M.fP k,h.I.I k id,im h.C k λ_ _=>id⟩
theorem gV.aqR(h:gV m b g nm s st w)(on:st.d.r=Î):Fu m b g st.d w.heap.size s (g.G st.d) nm st.r st.I w (M7 b w):=by
 have l:=h.C.r on;have p:(w.setCell ⟨b,3,Á⟩<|Ã<|Â ⟨w.heap.size,0,Á⟩).heap.size=w.heap.size:=ft
 have n:fg fl (w.setCell ⟨b,3,Á⟩<|Ã<|Â ⟨w.heap.size,0,Á⟩) (M7 b w):=fg.gL _ _ _ _;have r:fg (λk=>k=b) w (w.setCell ⟨b,3,Á⟩<|Ã<|Â ⟨w.heap.size,0,Á⟩):=pV h.r;have e:=r.C n λ_ _ x=>x.elim;refine⟨e.S λk _ x=>by rw[x];exact h.S,?_,(h.r.fR 3 _).I n id,⟨im h.C.C e λj f x=>jE h.C.C h.r A (by rw[f,x]),h.C.I.C e λi _ x=>Ï ⟨_,_,_,IU x h.r,È U⟩,l.abF.C e λa c t _ _ q x=> ?_,?_⟩,l.r.I e λx=>fp.S l.r h.r A x,im l.I e λj f x=>jE l.I h.r A<|by rw[f,x]⟩
 .exact h.a.C h.r h.S A _ _ ft A λv o=>by simp at o;rcases o with rfl|rfl<;>trivial
 .have o:=h.r;unfold fp at o;grind
 .have:=fp.N (w.setCell ⟨b,3,Á⟩<|Ã<|Â ⟨w.heap.size,0,Á⟩) [Å É 0,Å É 0,Å É 0,Å É 0,Å É 0,Ä ⟨#[]⟩] 193;rwa[p]at this
def Uy(g:Gh)(d:PD)(T:Nat)(v:Ñ):Gh:={g with t:=T,tb:=g.I d,r:=v}
theorem Fu.jP(h:Fu m b g st.d T s O nm st.r st.I w u)(C:m<=b)(on:st.d.r=Î)(a:m<=g.B/\g.B<=g.q/\st.d.I.c.length=8)(D:g.B<=T)(hd:st.r=0) (l:qn u g.B 141 1 g.r (g.I st.d).length (nO<|g.I st.d) 1 [Ã<|Â ⟨T,0,Á⟩] v W) (K:jG m W) (L:nh m W.heap.size v) (n:jX=((W.setCell ⟨g.q,8,Á⟩ v).setCell ⟨b,4,Á⟩<|Ã<|Â ⟨T,0,Á⟩).setCell ⟨b,0,Á⟩ (Ä ⟨#[84]⟩)): fg (λi=>m<=i) w jX/\gV m b (Uy g st.d T v) nm ⟨#[84]⟩ {st with C:=[84],d:=st.d.nL} jX:=by
 have E:∀{j:Nat} {M:List Ñ} {t:č},fp j M t u->141≠t->¬g.r.ownBlock=Â j:=λN f=>jE h.C N f;have F:=h.r.I l.r<|E h.r A;have f:=h.I.I l.r<|E h.I A;have P:=h.M.r l.r λi _ x=>by let⟨k,z⟩:=me h.C x;exact⟨_,_,_,z,Ï ⟨Ï U,(h.C.lt i x).1⟩⟩
 have o:fg (λk=>k=g.q) W (W.setCell ⟨g.q,8,Á⟩ v):=pV f;have G:fp g.q (CN st.d.I.c v) 154 (W.setCell ⟨g.q,8,Á⟩ v):=by have:=f.fR 8 v;have e:=abB st.d.I.c g.r v;rw[a.2.2]at e;unfold CN at this|-;grind
 have z:=F.I o λx=>fp.S F f A x;have H:=P.r o λi _ x=>⟨_,_,_,IU x f,Ï ⟨È U,by rw[x];exact a.2.1⟩⟩;have I:=im l.fx o λj p x=>jE l.fx f A (by rw[p,x]);have Q:jG m (W.setCell ⟨g.q,8,Á⟩ v):=K.r _ L;have S:fg (λk=>k=b) (W.setCell ⟨g.q,8,Á⟩ v) ((W.setCell ⟨g.q,8,Á⟩ v).setCell ⟨b,4,Á⟩<|Ã<|Â ⟨T,0,Á⟩):=pV z;have r:=z.fR 4<|Ã<|Â ⟨T,0,Á⟩;have V:fg (λk=>k=b) ((W.setCell ⟨g.q,8,Á⟩ v).setCell ⟨b,4,Á⟩<|Ã<|Â ⟨T,0,Á⟩) jX:=by rw[n];exact pV r
 have J:=r.fR 0<|Ä ⟨#[84]⟩;rw[<-n]at J;have k:ve m g st.d T jX:=by rw[n];exact(H.M z).M r
 have y:=S.fj V;have X:=G.I y λx=>fp.S G z A x;have Y:=im I y λj p x=>jE I z A (by rw[p,x]);have hTl:=H.tb.M;have c5:jG m jX:=by rw[n];refine(Q.r _ ?_).r _ trivial;exact⟨Ì a.1 D,hTl⟩
 have e1:(g.I st.d++[T]).length=(g.I st.d).length+1:=ft
 have e2:nO (g.I st.d++[T])=nO (g.I st.d)++[Ã<|Â ⟨T,0,Á⟩]:=by simp[nO]
 refine⟨((h.S.C l.r λi _ x=> ?_).C o λi _ x=> ?_).C y λi _ x=> ?_,C,c5,?_,A,U,⟨k.C,k.I,λ_=>⟨a.1,a.2.1,a.2.2,X,?_,k.N,λ_=>⟨D,U,k.tb⟩,λe=>by cases e⟩,λe=> ?_⟩,λe=> ?_,È on⟩
 .have:=(h.C.lt i x).1;have:=a.1;omega
 .grind
 .rwa[x]
 .have e:(Uy g st.d T v).S st.d.nL=g.S st.d:=U;unfold Us;rw[e];have e4:(Uy g st.d T v).G st.d.nL=Â ⟨T,0,Á⟩:=if_pos on;rwa[e4]
 .show jX.ownsRow g.B 141 1 v (g.I st.d++[T]).length (nO<|g.I st.d++[T]);rwa[e1,e2]
 .have:st.d.r=Ë:=e;grind
 .grind
def abG(h:gV m b g nm s st w)(C:st.r=0)(o:st.d.r=Î)(D:st.d.Y.length<=100000): Ò À 83 #[Ã<|Â ⟨b,0,Á⟩] w λe u=>e=Æ (ë #[])/\sC m b {st with C:=[84],d:=st.d.nL} w u:=by
 have Y:=h.r.r 3 _ U;have f3:=h.r.C 3;have gP:=h.r.M;have l:=h.C.r o;have y:=h.aqR o;have E:=λv=>by have:=CP st.d.I.c v;rwa[l.M]at this
 have F:m<=g.B/\g.B<=g.q/\st.d.I.c.length=8:=⟨l.S,l.N,l.M⟩;have G:g.B<=w.heap.size:=by have:=l.r.M;have:=l.N;omega
 have I:(g.I st.d).length<=100000:=by rwa[l.G]
 have J:=h.S;have H:=fi<|Ê F<|Ê G<|Ê I<|Ê J<|Ê C o;have j:=fi<|E g.r;have x:g.S st.d=Â ⟨g.q,0,Á⟩:=if_pos o;go_enter Tryz.func83,Tryz.ntmps83;go_wp2_with fail;change à À _ _ _ (M7 b w);have k:=y.fP (fg.fY _ _) y.N.fY;generalize hT:w.heap.size=T at*;generalize L:(M7 b w).drew=w1 at*;let⟨i0,M,N,O,P⟩:=Ů aqP;have p:=fi<|Ê M<|Ê N<|Ê O P;refine mE (λu=>u.cell? ⟨b,2,Á⟩=Â (Ã<|g.S st.d)/\u.cell? ⟨b,3,Á⟩=Â (Ã<|Â ⟨T,0,Á⟩)/\u.cell? ⟨g.q,8,Á⟩=Â g.r) [19] fv ?_;rw[L];rw[x];have Q:Hid (w1.cell? ⟨b,2,Á⟩=Â (Ã<|Â ⟨g.q,0,Á⟩)/\w1.cell? ⟨b,3,Á⟩=Â (Ã<|Â ⟨T,0,Á⟩)/\w1.cell? ⟨g.q,8,Á⟩=Â g.r):=fi ⟨by rw[<-x];exact k.r.r 2 _ U,k.r.r 3 _ U,k.I.r 8 _ j.out⟩;have r:=fi x;iterate 15 apply tk Q.out
 have S:=k.M.tb.M;have a:=k.fP (fg.gL fl w1 #[Ã<|Â ⟨T,0,Á⟩] 141) (k.N.gL _ _ ft A λv f=>by simp at f;subst f;exact⟨Ì H.out.1.1 H.out.2.1,S⟩);apply gG 15;intro K i;go_simp;refine i.out _ _ (λ_=>⟨by rw[<-r.out];exact a.r.r 2 _ U,a.r.r 3 _ U,a.I.r 8 _ j.out⟩) ?_;apply gG 16;intro K i;refine aby gh _ _ 152 gh Tryz.underlying152 p.out.1 p.out.2.1 p.out.2.2.1 p.out.2.2.2 gh a.C ⟨w1.heap.size,0,Á⟩ gh (Κ w1 _ _) U (by have:=H.out.2.2.1;unfold ī;omega) (by have:=H.out.2.2.1;omega) (by have:=H.out.2.1;have:=a.M.tb.M;omega) A H.out.1.1 a.N ⟨Ì H.out.1.1 H.out.2.1,a.M.tb.M⟩ A ?_;intro v9 w9 t V W;obtain⟨a9,n9c,rfl⟩:=jN t.fx;have f:=a.r.I t.r<|jE a.C a.r A;have n:=a.I.I t.r<|jE a.C a.I A;refine i.out _ _ (λ_=>⟨by rw[<-r.out];exact f.r 2 _ U,f.r 3 _ U,n.r 8 _ j.out⟩) ?_;apply gG 17;intro K i;go_simp;refine i.out _ _ (λ_=>⟨by rw[<-r.out];exact f.r 2 _ U,f.r 3 _ U,n.r 8 _ j.out⟩) ?_;apply gG 18;intro K i;go_simp;refine i.out _ _ (λ_=>⟨by rw[<-r.out];exact f.r 2 _ U,f.r 3 _ U,n.r 8 _ j.out⟩) ?_;have cq8:=n.r 8 _ j.out;have fq8:=n.C 8;have cb4:=f.r 4 _ U;have fb4:=f.C 4;have cb0:=f.r 0 _ U;have fb0:=f.C 0;have cb3:=f.r 3 _ U;have X:=fp.S n f A;have hbq:¬b=g.q:=λe=>X e.symm;apply gG 19;intro K i;go_simp;apply i.out _ _ λz=>absurd A z;refine mg fv ?_ _;have z:=fi<|a.jP H.out.2.2.2.1 o H.out.1 H.out.2.1 H.out.2.2.2.2.1 t V W U;go_wp2_with fail;go_end0;exact⟨U,z.out.1,_,_,_,z.out.2⟩
end
section
variable{g:Gh}{nm:Option û}{s:ByteArray}{f:PS}{d:PD}{Q:Nat}{k:Int}
def aqS(h:w.ownsRow i e 1 v n l)(c:j<=i):w.ownsRow j e 1 v n l:= ⟨h.1,h.2.imp id λ⟨g,d,f,a,b,r⟩=>⟨g,d,f,a,Ì c b,r⟩⟩
def wF.gp(l:wF m g d w):wE w.heap.size g.q ⟨d.I.c,d.Y⟩ w:= ⟨l.r.M,l.M,g.r,g.I d,l.r,aqS l.I<|Ù _,λj a=>(l.I.lt j a).2,l.abF.M (Ù _)<|æ _⟩
theorem lk.abH(h:lk m g d w)(a:d.r=Ë->d.S=[]):pU w.heap.size (g.C d) d.C w:=by
 unfold Gh.C PD.C;split
 .rename_i e;have l:=h.r e;have b:=l.r.M;have c:=l.N;exact h.I.Up Z l.gp
 .rename_i e;have f:=a (by simpa using e);have:=h.I.I;grind [Ý,pU.N]
def M8(b:Nat)(k:Int)(w:Í):Í:=(w.setCell ⟨b,2,Á⟩<|Ã<|Â ⟨w.heap.size,0,Á⟩).alloc<|Û #[Å É 0,Å É 0,Å É 0,Å É 0,Å É k,Å É 0,Å É 0,Å É 0,Ç Á 0 0] 154
def rdQ(s:ByteArray)(g:Gh)(d:PD)(Q:Nat)(nm:Option û)(lB a:Int):List Ñ:=
 [Ä s,g.N,Ã<|Â ⟨Q,0,Á⟩,Ã<|g.Y d,Ã<|g.G d,Ã nm,Å É lB,Å É a]
structure Fv(m b:Nat)(g:Gh)(d:PD)(Q:Nat)(k:Int)(s:ByteArray)(nm:Option û)(lB Ux:Int)(w0 w:Í):Prop where
 S:fg (λi=>m<=i) w0 w
 M:jG m w
 r:fp b (rdQ s g d Q nm lB Ux) 145 w
 I:fp Q (CN (PD.abw k).c<|Ç Á 0 0) 154 w
 N:pU Q (g.C d) d.C w
 C:w.ownsRow m 140 1 g.N (g.C d).length (nO<|g.C d)
def Fv.fP{lB:Int}(h:Fv m b g d Q k s nm lB c W w)(a:fg fl w u)(e:jG m u):Fv m b g d Q k s nm lB c W u:= ⟨h.S.C a λ_ _ x=>x.elim,e,h.r.I a id,h.I.I a id,h.N.C a λ_ _ x=>x.elim,im h.C a λ_ _=>id⟩
def gV.aqT(h:gV m b g nm s f w)(k:Int)(l:f.d.r=Ë->f.d.S=[]):Fv m b g f.d w.heap.size k s nm f.r f.I w (M8 b k w):=by
 have n:(w.setCell ⟨b,2,Á⟩<|Ã<|Â ⟨w.heap.size,0,Á⟩).heap.size=w.heap.size:=ft
 have c:fg fl (w.setCell ⟨b,2,Á⟩<|Ã<|Â ⟨w.heap.size,0,Á⟩) (M8 b k w):=fg.gL _ _ _ _;have o:fg (λk=>k=b) w (w.setCell ⟨b,2,Á⟩<|Ã<|Â ⟨w.heap.size,0,Á⟩):=pV h.r;have a:=o.C c λ_ _ x=>x.elim;refine⟨a.S λk _ x=>by rw[x];exact h.S,?_,(h.r.fR 2 _).I c id,?_,(h.C.abH l).C a λi _ x=>Ï ⟨_,_,_,IU x h.r,È U⟩,im h.C.C a λj p x=>jE h.C.C h.r A<|by rw[p,x]⟩
 .exact h.a.C h.r h.S A _ _ ft A λv e=>by simp at e;rcases e with rfl|rfl|rfl|rfl<;>trivial
 .have:=fp.N (w.setCell ⟨b,2,Á⟩<|Ã<|Â ⟨w.heap.size,0,Á⟩) [Å É 0,Å É 0,Å É 0,Å É 0,Å É k,Å É 0,Å É 0,Å É 0,Ç Á 0 0] 154;rwa[n]at this
def aqU(g:Gh)(d:PD)(Q:Nat)(v:Ñ):Gh:={a:=g.C d,q:=Q,t:=Q,B:=Q,tb:=[],N:=v,r:=Ç Á 0 0,b:=g.Y d}
theorem Fv.jP{sb:ByteArray}(h:Fv m b g f.d Q k s nm f.r f.I w u)(o:m<=b)(p:m<=Q)(S:f.r=0)(y:sb.size<=10)(B:j2 sb=rp k) (a:qn u m 140 1 g.N (g.C f.d).length (nO<|g.C f.d) 1 [Ã<|Â ⟨Q,0,Á⟩] v W) (C:jG m W) (D:nh m W.heap.size v) (l:jX=((W.setCell ⟨b,1,Á⟩ v).setCell ⟨b,4,Á⟩<|Ã<|Â ⟨Q,0,Á⟩).setCell ⟨b,0,Á⟩ (Ä sb)): fg (λi=>m<=i) w jX/\gV m b (aqU g f.d Q v) nm sb {f with C:=rp k,d:=f.d.Fl k} jX:=by
 have c:=h.r.I a.r<|jE h.C h.r A;have n:=h.I.I a.r<|jE h.C h.I A;have E:=h.N.C a.r λi _ x=>by let⟨e,z⟩:=me h.C x;exact Ï ⟨_,_,_,z,Ï U⟩
 have F:fg (λk=>k=b) W (W.setCell ⟨b,1,Á⟩ v):=pV c;have q:=c.fR 1 v;have G:fg (λk=>k=b) (W.setCell ⟨b,1,Á⟩ v) ((W.setCell ⟨b,1,Á⟩ v).setCell ⟨b,4,Á⟩<|Ã<|Â ⟨Q,0,Á⟩):=pV q;have r:=q.fR 4<|Ã<|Â ⟨Q,0,Á⟩;have H:fg (λk=>k=b) ((W.setCell ⟨b,1,Á⟩ v).setCell ⟨b,4,Á⟩<|Ã<|Â ⟨Q,0,Á⟩) jX:=by rw[l];exact pV r
 have t:=r.fR 0<|Ä sb;rw[<-l]at t;have z:=(F.fj G).fj H;have I:=n.I z λx=>fp.S n c A x;have J:=E.C z λi _ x=>Ï ⟨_,_,_,IU x c,È U⟩;have K:=im a.fx z λj L x=>jE a.fx c A (by rw[L,x]);have M:Q<(W.setCell ⟨b,1,Á⟩ v).heap.size:=by simpa using n.M
 have N:jG m jX:=by rw[l];refine((C.r _ D).r _ ?_).r _ trivial;exact⟨p,M⟩
 have O:(g.C f.d++[Q]).length=(g.C f.d).length+1:=ft
 have P:nO (g.C f.d++[Q])=nO (g.C f.d)++[Ã<|Â ⟨Q,0,Á⟩]:=by simp[nO]
 refine⟨(h.S.C a.r λi _ x=> ?_).C z λi _ x=> ?_,o,N,t,y,B,⟨?_,J,λ_=>⟨p,æ _,U,I,?_,o7.N _ _ _,(λe=>by cases e),λ_=>⟨rfl,rfl⟩⟩,(λe=>by cases e)⟩,λe=> ?_,È rfl⟩
 .exact(h.C.lt i x).1
 .rwa[x]
 .show jX.ownsRow m 140 1 v (g.C f.d++[Q]).length (nO<|g.C f.d++[Q]);rwa[O,P]
 .exact⟨U,È ⟨U,U⟩⟩
 .grind
def aqV:yq f 0=Á:=rfl
def aqW(h:gV m b g nm s f w)(r:f.r=0)(t:f.d.r=Ë->f.d.S=[])(x:f.d.C.length<=100000)(k:Int): Ò À 80 #[Ã<|Â ⟨b,0,Á⟩,Å É k] w λe u=>match yq f k with
  |none=>e=Æ (õ Ë)/\u=w
  |some c=>e=Æ (õ Î)/\sC m b c w u:=by
 by_cases l:k=0
 .subst l;rw[aqV];go_enter Χ,Λ;go_wp2;go_ret;exact⟨U,U⟩
 have Q:(k==0)=Ë:=by rwa[beq_eq_false_iff_ne]
 have e:yq f k=Â {f with C:=rp k,d:=f.d.Fl k}:=if_neg l;rw[e];have S:=h.r.r 2 _ U;have V:=h.r.C 2;have W:=h.r.M;have p:=h.aqT k t;have y:(g.C f.d).length<=100000:=by rwa[h.C.abz]
 have z:=h.S;have B:m<=w.heap.size:=Z
 have H:=fi<|Ê z<|Ê B<|Ê y r;go_enter Χ,Λ;go_wp2_with fail;change à À _ _ _ (M8 b k w);have i:=p.fP (fg.fY _ _) p.M.fY;generalize X:w.heap.size=T at*;generalize C:(M8 b k w).drew=w1 at*;let⟨Y,D,E,F,G⟩:=Ů aqQ;have j:=fi<|Ê D<|Ê E<|Ê F G;refine mE (λu=>u.cell? ⟨b,1,Á⟩=Â g.N/\u.cell? ⟨b,2,Á⟩=Â (Ã<|Â ⟨T,0,Á⟩)) [13] fv ?_;rw[C];have I:Hid (w1.cell? ⟨b,1,Á⟩=Â g.N/\w1.cell? ⟨b,2,Á⟩=Â (Ã<|Â ⟨T,0,Á⟩)):=fi ⟨i.r.r 1 _ U,i.r.r 2 _ U⟩;iterate 9 apply tk I.out
 have J:=i.I.M;have a:=i.fP (fg.gL fl w1 #[Ã<|Â ⟨T,0,Á⟩] 140) (i.M.gL _ _ ft A λv c=>by simp at c;subst c;exact⟨H.out.2.1,J⟩);apply gG 9;intro K c;go_simp;apply c.out _ _ λ_=>⟨a.r.r 1 _ U,a.r.r 2 _ U⟩;apply gG 10;intro K c;refine aby gh _ _ 51 gh Tryz.underlying51 j.out.1 j.out.2.1 j.out.2.2.1 j.out.2.2.2 gh a.C ⟨w1.heap.size,0,Á⟩ gh (Κ w1 _ _) U (by have:=H.out.2.2.1;unfold ī;omega) (by have:=H.out.2.2.1;omega) (by have:=H.out.2.1;have:=a.I.M;omega) A (æ _) a.M ⟨H.out.2.1,a.I.M⟩ A ?_;intro v9 w9 n L M;obtain⟨a9,n9c,rfl⟩:=jN n.fx;have v:=a.r.I n.r<|jE a.C a.r A;apply c.out _ _ λ_=>⟨v.r 1 _ U,v.r 2 _ U⟩;apply gG 11;intro K c;go_simp;apply c.out _ _ λ_=>⟨v.r 1 _ U,v.r 2 _ U⟩;apply gG 12;intro K c;go_simp;apply c.out _ _ λ_=>⟨v.r 1 _ U,v.r 2 _ U⟩;have cb1:=v.r 1 _ U;have fb1:=v.C 1;have cb4:=v.r 4 _ U;have fb4:=v.C 4;have cb0:=v.r 0 _ U;have fb0:=v.C 0;have cb2:=v.r 2 _ U;apply gG 13;intro K c;go_simp;apply c.out _ _ λo=>absurd A o;refine mg fv ?_ _;have N:=fi λo q O=>a.jP (sb:=o) H.out.1 H.out.2.1 H.out.2.2.2 q O n L M U;go_wp2_with (go_at_call 129;refine(aqH _ _).mono ?_;rintro e u ⟨⟨o,rfl,O,P⟩,q⟩;subst u);go_ret;have q:=N.out o O P;exact⟨U,q.1,_,_,_,q.2⟩
end
def lV(i:Nat)(z:Int):Prop:=match i with
 |0=>0<=z/\z<8
 |1=>0<=z/\z<8
 |2=>0<=z/\z<1000000
 |3=>0<=z/\z<1000000
 |4=>1<=z/\z<10
 |5=>-1<=z/\z<1000000
 |6=>-1<=z/\z<1000000
 |7=>0<=z/\z<16
 |_=>True
structure Fw(n m:Nat)(c:List Int):Prop where
 C:c.length=n
 r:∀i,i<m->lV i (c.getD i 0)
theorem Fw.I(h:Fw n m zQ)(i:Nat)(z:Int)(b:i<m->lV i z):Fw n m (zQ.set i z):=by refine⟨by simp[h.C],λj a=> ?_⟩;have:=h.r j a;grind
def abI(h:i<zQ.length)(z:Int):(zQ.set i z).getD i 0=z:=by simp[Ğ,h]
structure oe(t:PT):Prop where
 c:Fw 5 4 t.c
 p:t.p.size<=40/\∀c∈t.p.data.toList,yb c=Î
structure vf(r:PR):Prop where
 c:Fw 8 8 r.c
 C:∀t∈r.r,oe t
 n:r.r.length<=8
structure kx(d:PD):Prop where
 N:d.r=Ë->d.S=[]/\d.M=Ë
 b:d.M=Ë->d.I.r=[]
 C:d.C.length<=24
 I:d.Y.length<=8
 S:∀r∈d.S,vf r
 M:d.r=Î->Fw 8 8 d.I.c
 a:d.r=Î->∀t∈d.I.r,oe t
 Y:d.M=Î->oe d.N
structure jA(B:ByteArray)(k:Nat)(st:PS):Prop where
 M:0<=st.r
 r:st.r<=5
 C:0<=st.I
 I:st.I<=40
 e:0<st.r->(st.M=86\/st.M=87\/st.M=110\/st.M=107)/\st.d.r=Î/\0<=st.d.G st.M/\st.d.G st.M<10^(6-st.r.toNat)
 d:kx st.d
 c:st.d.r=Î\/st.C=[82]
 b:82∈st.C->st.d.C.length<24
 N:84∈st.C\/80∈st.C->st.d.M=Î
 a:66∈st.C->st.d.M=Ë
 S:80∈st.C->st.C=[80]/\st.r=0
 Y:80∈st.C->st.I.toNat<=k/\∀j (h:j<B.size),k-st.I.toNat<=j->j<k->yb B[j]=Î
section
variable{d:PD}{st o:PS}
def kx.abJ(h:kx d)(on:d.r=Î):∀t∈d.Y,oe t:=by
 unfold PD.Y;split
 .rename_i e;intro t a;rcases â.1 a with q|q
  .exact h.a on t q
  .rw[ō]at q;rw[q];exact h.Y e
 .exact h.a on
def kx.G(h:kx d):∀r∈d.C,vf r:=by
 unfold PD.C;split
 .rename_i e;intro r a;rcases â.1 a with q|q
  .exact h.S r q
  .rw[ō]at q;rw[q];exact⟨h.M e,h.abJ e,h.I⟩
 .exact h.S
def yt(d:PD):d.C.length=d.S.length+(if d.r then 1 else 0):=by unfold PD.C;split<;>simp
def IV(d:PD):d.Y.length=d.I.r.length+(if d.M then 1 else 0):=by unfold PD.Y;split<;>simp
def kx.r(h:kx d)(i:Nat)(z:Int)(a:lV i z):kx (d.oh i z):= ⟨h.N,h.b,by have:=h.C;rw[yt]at this|-;exact this,by have:=h.I;rw[IV]at this|-;exact this,h.S,λe=>(h.M e).I i z λ_=>a,h.a,h.Y⟩
def kx.oH(h:kx d)(i:Nat)(z:Int)(a:i<4->lV i z):kx (d.oH i z):= ⟨h.N,h.b,by have:=h.C;rw[yt]at this|-;exact this,by have:=h.I;rw[IV]at this|-;exact this,h.S,h.M,h.a,λe=>⟨(h.Y e).c.I i z a,(h.Y e).p⟩⟩
def kx.iL(h:kx d)(i:Nat)(z:Int)(a:lV i z):kx (d.iL i z):=by
 unfold PD.iL;split
 .exact h.oH i z λ_=>a
 .exact h.r i z a
def kx.o6(h:kx d)(p:ByteArray)(a:p.size<=40/\∀c∈p.data.toList,yb c=Î):kx (d.o6 p):= ⟨h.N,h.b,by have:=h.C;rw[yt]at this|-;exact this,by have:=h.I;rw[IV]at this|-;exact this,h.S,h.M,h.a,λe=>⟨(h.Y e).c,a⟩⟩
def aqX:oe PD.Aq:=⟨⟨U,λi a=>by
 match i,a with
 |0,_=>exact⟨A,A⟩
 |1,_=>exact⟨A,A⟩
 |2,_=>exact⟨A,A⟩
 |3,_=>exact⟨A,A⟩⟩,⟨A,λc b=>by cases b⟩⟩
def kx.nL(h:kx d)(on:d.r=Î)(a:d.Y.length<8):kx d.nL:= ⟨(λe=>by have:d.r=Ë:=e;rw[on]at this;cases this),(λe=>by cases e),by have:=h.C;rw[yt]at this|-;exact this,by rwa[IV],h.S,λe=>h.M e,λ_=>h.abJ on,λ_=>aqX⟩
def kx.Fl(h:kx d)(q:Int)(a:1<=q/\q<10)(b:d.C.length<24):kx (d.Fl q):= ⟨(λe=>by cases e),λ_=>rfl,by rwa[yt],by show(0:Nat)<=8;decide,h.G,λ_=>⟨U,λi c=>by
   match i,c with
   |0,_=>exact⟨by show(0:Int)<=0;decide,by show(0:Int)<8;decide⟩
   |1,_=>exact⟨by show(0:Int)<=0;decide,by show(0:Int)<8;decide⟩
   |2,_=>exact⟨by show(0:Int)<=0;decide,by show(0:Int)<1000000;decide⟩
   |3,_=>exact⟨by show(0:Int)<=0;decide,by show(0:Int)<1000000;decide⟩
   |4,_=>exact a
   |5,_=>exact⟨by show(-1:Int)<=0;decide,by show(0:Int)<1000000;decide⟩
   |6,_=>exact⟨by show(-1:Int)<=0;decide,by show(0:Int)<1000000;decide⟩
   |7,_=>exact⟨by show(0:Int)<=0;decide,by show(0:Int)<16;decide⟩⟩,(λ_ t f=>by cases f),(λe=>by cases e)⟩
def kx.fR(h:kx d)(want z:Int)(a:(want=86->lV 5 z)/\(want=87->lV 6 z)/\(want=120->lV 0 z)/\(want=121->lV 1 z)/\(want=110->lV 2 z)/\(want=107->lV 3 z)/\(want=115->lV 7 z)):kx (d.fR want z):=by
 let⟨b,c,e,f,g,i,j⟩:=a;unfold PD.fR;repeat' split
 .exact h.r 5 z<|b ‹_›
 .exact h.r 6 z<|c ‹_›
 .exact h.iL 0 z<|e ‹_›
 .exact h.iL 1 z<|f ‹_›
 .exact h.iL 2 z<|g ‹_›
 .exact h.iL 3 z<|i ‹_›
 .exact h.r 7 z<|j ‹_›
 .exact h
def Uz(d:PD)(a z:Int):(d.fR a z).r=d.r/\(d.fR a z).M=d.M/\(d.fR a z).C.length=d.C.length:=by
 unfold PD.fR PD.iL;repeat' split
 all_goals exact⟨U,U,(yt _).trans (yt d).symm⟩
theorem UA(h:kx d)(on:d.r=Î)(a z:Int)(f:a=86\/a=87\/a=110\/a=107):(d.fR a z).G a=z:=by
 have g:=(h.M on).C;have b:∀i,i<4->(d.iL i z).tF i=z:=λi j=>by
  unfold PD.iL;split
  .rename_i e;have k:=(h.Y e).c.C;show(if d.M=Î then(d.N.c.set i z).getD i 0 else d.I.c.getD i 0)=z;grind
  .rename_i e;show(if d.M=Î then d.N.c.getD i 0 else(d.I.c.set i z).getD i 0)=z;grind
 rcases f with rfl|rfl|rfl|rfl
 .exact abI Z z
 .exact abI Z z
 .exact b 2 A
 .exact b 3 A
def M9:∀(l:List UInt8) (c:UInt8),Þ l c<l.length
 |[],_=>by show(-1:Int)<0;decide
 |a::l,c=>by
  have:=M9 l c;unfold Þ;split
  .simp
  .split<;>(simp;omega)
def UB:∀(l:List UInt8) (c:UInt8),c∈l->0<=Þ l c
 |[],_,h=>by cases h
 |a::l,c,h=>by
  unfold Þ;split
  .decide
  .rename_i e;rcases List.mem_cons.1 h with q|q
   .subst q;simp at e
   .have:=UB l c q;split
    .rename_i b;rw[beq_iff_eq]at b;omega
    .omega
def abK{l:List UInt8}(h:c.toNat∈l.map UInt8.toNat):c.toNat.toUInt8∈l:=by let⟨x,a,b⟩:=Ú.1 h;rw[<-b];simpa using a
def abL(h:sx c=Î):0<=Þ [97,98,99,100,101,102,103,104] c.toNat.toUInt8:=by rw[aqu]at h;refine UB _ _<|abK ?_;simp;omega
def aqY(h:(jq c||(decide (97<=c)&&decide (c<=102)))=Î):0<=Þ [48,49,50,51,52,53,54,55,56,57,97,98,99,100,101,102] c.toNat.toUInt8:=by simp only[Bool.or_eq_true,Fj,Bool.and_eq_true,decide_eq_true_eq]at h;refine UB _ _<|abK ?_;simp;omega
theorem aqZ(a:o5 h c=Î):(h=86->lV 5 (ng h c))/\(h=87->lV 6 (ng h c))/\(h=120->lV 0 (ng h c))/\(h=121->lV 1 (ng h c))/\(h=110->lV 2 (ng h c))/\(h=107->lV 3 (ng h c))/\(h=115->lV 7 (ng h c)):=by
 unfold o5 at a;have b:(c==104||jq c)=Î->-1<=(if c=104 then-1 else(c-48)%256)/\(if c=104 then(-1:Int)else(c-48)%256)<1000000:=λq=>by split<;>omega
 have d:jq c=Î->0<=(if c=104 then-1 else(c-48)%256)/\(if c=104 then(-1:Int)else(c-48)%256)<1000000:=λq=>by rw[Fj]at q;grind
 refine⟨?_,?_,?_,?_,?_,?_,?_⟩<;>rintro rfl
 .exact b a
 .exact b a
 .exact⟨abL a,M9 _ _⟩
 .exact⟨abL a,M9 _ _⟩
 .exact d a
 .exact d a
 .exact⟨aqY a,M9 _ _⟩
theorem aq0{lB:Int}(a:jq c=Î)(b:0<=h)(d:0<lB)(e:lB<=5)(f:h<10^(6-lB.toNat)):0<=pT h c/\pT h c<10^(6-(lB-1).toNat)/\pT h c<1000000:=by
 rw[Fj]at a;have g:h<100000->pT h c=h*10+(c-48):=λq=>by unfold pT;rw[Ļ (h*10) ⟨Z,Z⟩,Ļ _ ⟨Z,Z⟩];omega
 have i:lB=1\/lB=2\/lB=3\/lB=4\/lB=5:=Z
 grind
def kx.lB(h:kx d)(a z:Int)(c:a=86\/a=87\/a=110\/a=107)(b:0<=z/\z<1000000):kx (d.fR a z):= h.fR a z ⟨λ_=>⟨Z,b.2⟩,λ_=>⟨Z,b.2⟩,λe=>by omega,λe=>by omega,λ_=>b,λ_=>b,λe=>by omega⟩
def jA.aq1(h:jA B k st)(e:0<st.r)(j:jq c=Î):jA B (k+1) (CM st c):=by
 let⟨a,b,l,m⟩:=h.e e;let⟨f,n,o⟩:=aq0 j l e h.r m;let⟨g,i,p⟩:=Uz st.d st.M<|pT (st.d.G st.M) c;refine⟨by show 0<=st.r-1;omega,by have:=h.r;show st.r-1<=5;omega,h.C,h.I,λ_=>⟨a,g.trans b,?_⟩,h.d.lB _ _ a ⟨f,o⟩,?_,λq=> ?_,λq=>i.trans<|h.N q,λq=>i.trans<|h.a q,λq=> ?_,λq=> ?_⟩
 .show 0<=(st.d.fR st.M<|pT (st.d.G st.M) c).G st.M/\(st.d.fR st.M<|pT (st.d.G st.M) c).G st.M<10^(6-(st.r-1).toNat);rw[UA h.d b _ _ a];exact⟨f,n⟩
 .exact È<|g.trans b
 .show(st.d.fR st.M<|pT (st.d.G st.M) c).C.length<24;rw[p];exact h.b q
 .have:=(h.S q).2;omega
 .have:=(h.S q).2;omega
def jA.vB(h:jA B k st):jA B k {st with r:=0}:= ⟨Ť _,by show(0:Int)<=5;decide,h.C,h.I,(λq=>by cases q),h.d,h.c,h.b,h.N,h.a,λq=>⟨(h.S q).1,rfl⟩,h.Y⟩
theorem jA.on(h:jA B k st)(a:82∉st.C):st.d.r=Î:=by rcases h.c with q|q;all_goals grind
def kx.aq2(h:kx d)(a:d.M=Î):d.r=Î:=by
 cases e:d.r with
 |true=>rfl
 |false=>have:=(h.N e).2;rw[a]at this;cases this
theorem abM(h:jA B k st)(b:st.r=0)(on:st.d.r=Î)(a:oI st c=Â o):jA B (k+1) o:=by
 unfold oI at a;split at a
 .rename_i e;cases a;refine⟨h.M,h.r,h.C,h.I,λq=> ?_,h.d,Ï U,λ_=> ?_,λq=> ?_,λq=> ?_,λq=> ?_,λq=> ?_⟩
  .grind
  .rw[yt,on];exact e.2
  .simp at q
  .simp at q
  .simp at q
  .simp at q
 .split at a
  .rename_i e;cases a;refine⟨h.M,h.r,h.C,h.I,λq=> ?_,h.d.nL on e.2.2,È on,λq=> ?_,λ_=>rfl,λq=> ?_,λq=> ?_,λq=> ?_⟩;all_goals grind
  .cases a
def aq3(q:Int):82∉rp q/\84∉rp q/\80∉rp q:=by
 unfold rp;repeat' split
 all_goals decide
theorem aq4(q:Int):82∉sy q/\84∉sy q/\66∉sy q/\(80∈sy q->sy q=[80]):=by unfold sy;grind
def aq5(c:Int):0<=wC c/\wC c<10:=by
 unfold wC;repeat' split
 all_goals decide
theorem aq6(h:jA B k st)(i:st.r=0)(f:82∈st.C)(a:yq st (wC c)=Â o):jA B (k+1) o:=by
 unfold yq at a;split at a
 .cases a
 .rename_i e;cases a;let⟨g,j,b⟩:=aq3<|wC c;have l:=aq5 c;refine⟨h.M,h.r,h.C,h.I,λq=> ?_,h.d.Fl _ Z<|h.b f,È U,λq=>absurd q g,λq=> ?_,λ_=>rfl,λq=>absurd q b,λq=>absurd q b⟩;all_goals grind
theorem aq7(h:jA B k st)(c:st.r=0)(q:Int)(f:84∈st.C)(a:yr st q=Â o):jA B (k+1) o:=by
 unfold yr at a;split at a
 .cases a
 .cases a;let⟨g,m,i,l⟩:=aq4 q;have b:=h.N<|È f;refine⟨h.M,h.r,Ť _,by show(0:Int)<=40;decide,λq=> ?_,h.d.oH 4 q λe=>by omega,È<|h.d.aq2 b,λq=>absurd q g,λ_=>b,λq=>absurd q i,λq=>⟨l q,c⟩,λ_=>⟨Ù _,λj _ n p=> ?_⟩⟩;all_goals grind
theorem aq8{a:Int}(h:0<qB a c):(a=86\/a=87)/\qB a c=1/\jq c=Î/\c≠48\/(a=110\/a=107)/\qB a c=5/\jq c=Î/\c≠48:=by unfold qB at h|-;grind
theorem abN(h:jA B k st)(on:st.d.r=Î){want:Int}(l:o5 want c=Î)(r:List Int)(a:∀x∈r,x∈st.C)(g:80∉r):jA B (k+1) {om st want c with C:=r}:=by
 let⟨m,i,n⟩:=Uz st.d want<|ng want c;have j:=aqy want c;refine⟨j.1,j.2,h.C,h.I,λq=> ?_,h.d.fR _ _<|aqZ l,È<|m.trans on,λq=> ?_,λq=>i.trans<|h.N<|q.imp (a _)<|a _,λq=>i.trans<|h.a<|a _ q,λq=>absurd q g,λq=>absurd q g⟩
 .have q:=q;show(want=86\/want=87\/want=110\/want=107)/\(st.d.fR want<|ng want c).r=Î/\0<=(st.d.fR want<|ng want c).G want/\(st.d.fR want<|ng want c).G want<10^(6-(qB want c).toNat);rcases aq8 q with⟨o,b,e,p⟩|⟨o,b,e,p⟩
  .have f:want=86\/want=87\/want=110\/want=107:=Z
   rw[UA h.d on _ _ f,b];rw[Fj]at e;have:ng want c=(c-48)%256:=by unfold ng;grind
   grind
  .have f:want=86\/want=87\/want=110\/want=107:=Z
   rw[UA h.d on _ _ f,b];rw[Fj]at e;have:ng want c=(c-48)%256:=by unfold ng;grind
   grind
 .show(st.d.fR want<|ng want c).C.length<24;rw[n];exact h.b<|a _ q
def aq9{x:UInt8}(h:x∈(B.extract i b).data.toList):∃j,∃e:j<B.size,i<=j/\j<b/\B[j]=x:=by rw[Ĳ,ĺ,ĥ]at h;obtain⟨c,d,rfl⟩:=Ĝ h;simp only[Ś,List.length_drop,ě]at d;have f:B.data.size=B.size:=rfl;exact⟨i+c,Z,Z,Z,by simp[ċ]⟩
theorem ara(h:jA B k st)(l:st.r=0)(F:k<B.size)(a:kE B k st (B[k].toNat:Int)=Â o):jA B (k+1) o:=by
 unfold kE at a;split at a
 .rename_i e;exact abM h l (h.on<|by rw[e];decide) a
 .rename_i t p e;have c:t∈st.C:=by rw[e];exact List.mem_cons_self ..
  split at a
  .rename_i f;subst f;exact aq6 h l c a
  rename_i G;have i:st.d.r=Î:=by rcases h.c with q|q;all_goals grind
  split at a
  .rename_i f;subst f;split at a
   .rename_i u;cases a;have n:=h.a c;have b:st.d.Y.length<8:=by rw[IV,h.d.b n,n];decide
    have v:jA B k {st with C:=[84],d:=st.d.nL}:=by refine⟨h.M,h.r,h.C,h.I,λq=> ?_,h.d.nL i b,È i,λq=> ?_,λ_=>rfl,λq=> ?_,λq=> ?_,λq=> ?_⟩;all_goals grind
    exact abN (want:=120) v i u [84] (λx b=>b) A
   .exact abM h l i a
  split at a
  .rename_i f;subst f;exact aq7 h l _ c a
  split at a
  .rename_i f;subst f;let⟨H,w⟩:=h.Y c;have n:=h.N<|Ï c;have y:=(h.S c).1;have I:=h.C;have J:=h.I;split at a
   .cases a;have z:p=[]:=by rw[y]at e;cases e;rfl
    subst z;refine⟨h.M,h.r,h.C,h.I,λq=> ?_,h.d.o6 _ ⟨by rw[Č];omega,λx b=> ?_⟩,È i,λq=> ?_,λq=> ?_,λq=> ?_,λq=> ?_,λq=> ?_⟩
    .grind
    .obtain⟨j,r,m,s,rfl⟩:=aq9 b;exact w j r m s
    .cases q
    .grind
    .cases q
    .cases q
    .cases q
   .split at a
    .cases a
    .rename_i g;cases a;have K:=λq=>g<|È q;have C:=λq=>g<|Ï q;refine⟨h.M,h.r,by show 0<=st.I+1;omega,by show st.I+1<=40;omega,h.e,h.d,h.c,h.b,h.N,h.a,h.S,λ_=>⟨by show(st.I+1).toNat<=k+1;omega,λj r m s=> ?_⟩⟩;have m:k+1-(st.I+1).toNat<=j:=m;by_cases D:j=k
     .subst D;unfold yb;simpa using C
     .grind
  split at a
  .rename_i L M N E;cases a;refine abN h i E p (λx b=>by rw[e];exact Ĕ _ b) λq=> ?_;have:=(h.S<|by rw[e];exact Ĕ _ q).1;grind
  .cases a
def abO(h:jA B k st)(b:k<B.size)(a:kR B k st (B[k].toNat:Int)=Â o):jA B (k+1) o:=by
 unfold kR at a;split at a
 .rename_i e;cases a;exact h.aq1 e.1 e.2
 .exact ara h.vB U b a
def UC(B:ByteArray):jA B 0 nN:= ⟨A,A,A,A,(λq=>by cases q),⟨λ_=>⟨rfl,rfl⟩,λ_=>rfl,A,A,(λr e=>by cases e),(λe=>by cases e),(λe=>by cases e),(λe=>by cases e)⟩,Ï rfl,λ_=>by decide,(λq=>by rcases q with q|q<;>simp[nN]at q),(λq=>by simp[nN]at q),(λq=>by simp[nN]at q),(λq=>by simp[nN]at q)⟩
def UD:∀(f k:Nat) (st:PS),jA B k st->k<=B.size->jA B (jr B f k st).1 (jr B f k st).2/\(jr B f k st).1<=B.size
 |0,k,st,h,hk=>⟨h,hk⟩
 |f+1,k,st,h,hk=>by
  unfold jr;split
  .rename_i a;split
   .exact⟨h,hk⟩
   .rename_i o e;exact UD f (k+1) o (abO h a e) Z
  .exact⟨h,hk⟩
end
section
variable{g:Gh}{st:PS}
def abP{d:PD}(i:Nat)(z:Int):g.M (d.iL i z)=g.M d:=by unfold PD.iL Gh.M;split<;>simp[PD.oH,PD.oh, *]
def abQ{d:PD}(h:i=2\/i=3)(z:Int):g.CO (d.iL i z) (if i=2 then 110 else 107)=⟨g.M d,i,Á⟩:=by
 rcases h with rfl|rfl
 .show(⟨g.M<|d.iL 2 z,2,Á⟩:û)=_;rw[abP]
 .show(⟨g.M<|d.iL 3 z,3,Á⟩:û)=_;rw[abP]
def abR{d:PD}(on:d.r=Î):g.S d=Â ⟨g.q,0,Á⟩:=if_pos on
def arb{d:PD}(on:d.r=Î):g.G d=Â ⟨g.M d,0,Á⟩:=if_pos on
def LZ(h:gV m b g O B st w)(j:st.r=0)(on:st.d.r=Î)(a c:Int)(v:o5 a c=Î): Ò À 84 #[Ã<|Â ⟨b,0,Á⟩,Å Ū a,Å Ū c] w λe u=>e=Æ (ë #[])/\sC m b (om st a c) w u:=by
 have G:w.cell? ⟨b,2,Á⟩=Â (Ã<|g.S st.d):=h.r.r 2 _ U;have x:w.cell? ⟨b,4,Á⟩=Â (Ã<|g.G st.d):=h.r.r 4 _ U;rw[abR on]at G;rw[arb on]at x;have H:=fi<|Ê h v;clear h v;generalize y:g.M st.d=tm at x;have n:=fi y;clear y;by_cases o:a=86
 .subst o;have k:=fi (show om st 86 c={st with r:=wG c 2,M:=86,d:=st.d.oh 5 (ku c)}from by unfold om;rw[<-M4 H.out.2 (È ⟨È U,U⟩),M6 A];rfl);go_enter ą,ÿ;go_wp2_with (go_at_call 131;refine(M3 H.out.1 (Fq H.out.1.C H.out.1.r on (i:=5) A) j on _ _ 86 A A λz=>rfl).mono ?_;rintro e u ⟨rfl,l⟩);go_end0;exact⟨U,by rwa[k.out]⟩
 have I:(a==86)=Ë:=by rwa[beq_eq_false_iff_ne]
 by_cases p:a=87
 .subst p;have k:=fi (show om st 87 c={st with r:=wG c 2,M:=87,d:=st.d.oh 6 (ku c)}from by unfold om;rw[<-M4 H.out.2 (È ⟨Ï U,U⟩),M6 A];rfl);go_enter ą,ÿ;go_wp2_with (go_at_call 131;refine(M3 H.out.1 (Fq H.out.1.C H.out.1.r on (i:=6) A) j on _ _ 87 A A λz=>rfl).mono ?_;rintro e u ⟨rfl,l⟩);go_end0;exact⟨U,by rwa[k.out]⟩
 have J:(a==87)=Ë:=by rwa[beq_eq_false_iff_ne]
 by_cases q:a=120
 .subst q;have f:=fi ((by have:=Fs H.out.1.C H.out.1.r on (i:=0) A;rw[n.out]at this;exact this:qC m b g st.d tm 0 (λz=>st.d.iL 0 z) (st.d.tF 0) w));have C:=f.out.C;have D:=f.out.I;have E:=f.out.r;go_enter ą,ÿ;go_wp2_with fail;go_region_with (go_at_call 130;refine(IQ _ _ _).mono ?_;rintro e u ⟨rfl,F⟩;subst u);all_goals go_end0
  all_goals exact⟨U,Uw H.out.1 f.out j (M5 A) U⟩
 have K:(a==120)=Ë:=by rwa[beq_eq_false_iff_ne]
 by_cases r:a=121
 .subst r;have f:=fi ((by have:=Fs H.out.1.C H.out.1.r on (i:=1) A;rw[n.out]at this;exact this:qC m b g st.d tm 1 (λz=>st.d.iL 1 z) (st.d.tF 1) w));have C:=f.out.C;have D:=f.out.I;have E:=f.out.r;go_enter ą,ÿ;go_wp2_with fail;go_region_with (go_at_call 130;refine(IQ _ _ _).mono ?_;rintro e u ⟨rfl,F⟩;subst u);all_goals go_end0
  all_goals exact⟨U,Uw H.out.1 f.out j (M5 A) U⟩
 have L:(a==121)=Ë:=by rwa[beq_eq_false_iff_ne]
 by_cases s:a=110
 .subst s;have k:=fi (show om st 110 c={st with r:=wG c 6,M:=110,d:=st.d.iL 2 (ku c)}from by unfold om;rw[<-M4 H.out.2 (Ï ⟨È U,U⟩),M6 A];rfl);go_enter ą,ÿ;go_wp2_with (go_at_call 131;refine(M3 H.out.1 ((by have:=Fs H.out.1.C H.out.1.r on (i:=2) A;rw[n.out]at this;exact this:qC m b g st.d tm 2 (λz=>st.d.iL 2 z) (st.d.tF 2) w)) j on _ _ 110 A A λz=>(by have:=abQ (g:=g) (d:=st.d) (i:=2) (È U) z;rwa[n.out]at this)).mono ?_;rintro e u ⟨rfl,l⟩);go_end0;exact⟨U,by rwa[k.out]⟩
 have M:(a==110)=Ë:=by rwa[beq_eq_false_iff_ne]
 by_cases t:a=107
 .subst t;have k:=fi (show om st 107 c={st with r:=wG c 6,M:=107,d:=st.d.iL 3 (ku c)}from by unfold om;rw[<-M4 H.out.2 (Ï ⟨Ï U,U⟩),M6 A];rfl);go_enter ą,ÿ;go_wp2_with (go_at_call 131;refine(M3 H.out.1 ((by have:=Fs H.out.1.C H.out.1.r on (i:=3) A;rw[n.out]at this;exact this:qC m b g st.d tm 3 (λz=>st.d.iL 3 z) (st.d.tF 3) w)) j on _ _ 107 A A λz=>(by have:=abQ (g:=g) (d:=st.d) (i:=3) (Ï U) z;rwa[n.out]at this)).mono ?_;rintro e u ⟨rfl,l⟩);go_end0;exact⟨U,by rwa[k.out]⟩
 have l:(a==107)=Ë:=by rwa[beq_eq_false_iff_ne]
 by_cases k:a=115
 .subst k;have f:=fi<|Fq H.out.1.C H.out.1.r on (i:=7) A;have C:=f.out.C;have D:=f.out.I;have E:=f.out.r;go_enter ą,ÿ;go_wp2_with fail;go_region_with (go_at_call 130;refine(IQ _ _ _).mono ?_;rintro e u ⟨rfl,F⟩;subst u);all_goals go_end0
  all_goals exact⟨U,Uw H.out.1 f.out j (M5 A) U⟩
 have f:(a==115)=Ë:=by rwa[beq_eq_false_iff_ne]
 go_enter ą,ÿ;go_wp2;go_end0;refine⟨U,fg.gd _ _,g,O,B,?_⟩;have e:om st a c={st with M:=a}:=by unfold om PD.fR;rw[M5 ⟨Z,Z⟩,if_neg o,if_neg p,if_neg q,if_neg r,if_neg s,if_neg t,if_neg k,<-j]
 rw[e];exact H.out.1.Uu a j
end
section
variable{g:Gh}{s:ByteArray}{st:PS}{d:PD}
def Na(m b:Nat)(o:Option PS)(e:Ending)(w u:Í):Prop:=
 (o=Á/\e=Æ (õ Ë)/\u=w)\/∃a,o=Â a/\e=Æ (õ Î)/\sC m b a w u
def abS{o:Option PS}{e:Ending}(h:match o with
 |none=>e=Æ (õ Ë)/\u=w
 |some a=>e=Æ (õ Î)/\sC m b a w u):Na m b o e w u:=by
 cases o with
 |none=>exact È ⟨U,h⟩
 |some a=>exact Ï ⟨a,U,h⟩
def ard{d:PD}(on:d.r=Î):d.C.length=d.S.length+1:=by rw[yt,on];rfl
def abT(h:gV m b g O s st w)(j:st.r=0)(on:st.d.r=Î)(y:st.d.Y.length<=8)(z:st.d.C.length<=24)(c:Int): Ò À 79 #[Ã<|Â ⟨b,0,Á⟩,Å Ū c] w λe u=>Na m b (oI st c) e w u:=by
 have l:=h.C.r on;let⟨I,J,p⟩:=jN h.C.C;let⟨K,L,q⟩:=jN l.I;rw[h.C.abz]at p;rw[l.G]at q;have M:=h.r.r 0 _ U;have r:=h.r.r 1 _ U;have B:=h.r.r 2 _ U;rw[abR on]at B;rw[p]at r;have t:=l.r.r 8 _ (by have:=CP st.d.I.c g.r;rwa[l.M]at this);rw[q]at t;have N:=h.r.C 0;obtain⟨v,f⟩:∃n,st.d.C.length=n:=⟨_,U⟩;obtain⟨x,i⟩:∃n,st.d.Y.length=n:=⟨_,U⟩;rw[f]at r z;rw[i]at t y;have k:st.d.S.length+1=v:=by rw[<-f];exact(ard on).symm
 have H:=fi<|Ê h<|Ê f<|Ê i<|Ê k j;by_cases C:c=59/\v<24
 .obtain⟨rfl,a⟩:=C;go_enter ť,ŗ;go_wp2;go_ret;let⟨h,f,i,k,j⟩:=H.out;exact Ï ⟨_,by rw[oI,if_pos ⟨U,Z⟩],U,mS h 0 _,g,O,_,h.M1 _ [82] A A<|È on⟩
 by_cases D:c=44/\0<x/\x<8
 .obtain⟨rfl,P,Q⟩:=D;go_enter ť,ŗ;go_wp2_with (go_at_call 83;refine(abG H.out.1 H.out.2.2.2.2 on (by have:=H.out.2.2.1;omega)).mono ?_;rintro e u ⟨rfl,o,E,F,S,a⟩;have T:=a.r.r 0 _ U;have V:=a.r.C 0;have G:=fi<|Ê o a;clear o a);go_ret;let⟨h,f,i,k,j⟩:=H.out;let⟨o,a⟩:=G.out;exact Ï ⟨_,by rw[oI,if_neg Z,if_pos ⟨U,Z,Z⟩],U,o.fj<|mS a 0 _,E,F,_,a.M1 _ [120,84] A A<|È on⟩
 .have a:=fi (show oI st c=Á by
   let⟨h,f,i,k,j⟩:=H.out;rw[oI,if_neg Z,if_neg Z])
  go_enter ť,ŗ;go_wp2_with fail;all_goals first|(go_ret;exact È ⟨a.out,U,U⟩)|(exfalso;simp only[beq_iff_eq,decide_eq_true_eq]at*;omega)
def kB:Ο->Option Ο
 |ń c=>Â c
 |.seq a b=>match kB a with
  |some c=>Â c
  |none=>kB b
 |.block _ c=>kB c
 |.scope c=>kB c
 |.cond _ a b=>match kB a with
  |some c=>Â c
  |none=>kB b
 |_=>Á
noncomputable def qD:Ο:=(Tryz.f45.body.bind kB).getD aj
def pW(b:Nat)(B:ByteArray)(i:Ñ)(u:Nat->Ñ):Ĉ:=⟨#[Ã<|Â ⟨b,0,Á⟩,Ä B,ĸ,ĸ,Å É 0,i,u 6,u 7,u 8,u 9,u 10,u 11,u 12,u 13,u 14,u 15,u 16,u 17,u 18,u 19,u 20,u 21,u 22,u 23,u 24,u 25,u 26,u 27,u 28,u 29,u 30,u 31,u 32,u 33,u 34,u 35,u 36,u 37,u 38,u 39,u 40,u 41,u 42,u 43,u 44,u 45,u 46,u 47,u 48,u 49,u 50,u 51,u 52,u 53,u 54,u 55,u 56,u 57,u 58,u 59,u 60,u 61,u 62,u 63,u 64,u 65,u 66,u 67,u 68,u 69,u 70,u 71,u 72,u 73,u 74,u 75,u 76,u 77,u 78,u 79,u 80,u 81,u 82,u 83,u 84,u 85,u 86,u 87,u 88,u 89,u 90,u 91,u 92,u 93,u 94,u 95,u 96,u 97,u 98,u 99,u 100,u 101,u 102,u 103,u 104,u 105,u 106,u 107,u 108,u 109,u 110,u 111,u 112,u 113,u 114,u 115,u 116,u 117,u 118,u 119,u 120,u 121,u 122,u 123,u 124,u 125,u 126,u 127,u 128,u 129,u 130,u 131,u 132,u 133,u 134,u 135,u 136,u 137,u 138,u 139,u 140,u 141,u 142,u 143,u 144,u 145,u 146],[]⟩
def Fr(b:Nat)(B:ByteArray)(i:Ñ)(a:Ĉ):Prop:=∃u,a=pW b B i u
def gy{b:Nat}{B:ByteArray}{i:Value}{a:Act}(h:a=pW b B i (λn=>a.tmps.getD n undef):=by rfl):Fr b B i a:=⟨_,h⟩
def QQ(X:Ĉ->Í->Prop):Exit->Ĉ->Í->Prop
 |.exit 0,a,w=>X a w
 |_,_,_=>False
def sD(m b:Nat)(B:ByteArray)(k:Nat)(st:PS)(a u:Í):Prop:=∃(h:k<B.size) (h:PS),kR B k st (B[k].toNat:Int)=Â h/\sC m b h a u
def sE(m b:Nat)(B:ByteArray)(k:Nat)(st:PS)(a u:Í):Prop:=∃h:k<B.size,kR B k st (B[k].toNat:Int)=Á/\∃c,sC m b c a u
theorem vg{d:Int}(h:(0<d/\yQ=Ë)\/d<=0):¬(0<d/\yQ=Î):=by grind
def vh(h:¬(0<st.r/\jq c=Î)):kR B k st c=kE B k {st with r:=0} c:=if_neg h
def arf(a:0<st.r)(b:jq c=Î):kR B k st c=Â (CM st c):=if_pos ⟨a,b⟩
section
variable{want:Int}
def arh(h:st.C=[]):kE B k st c=oI st c:=by rw[kE,h]
def ari(h:st.C=want::zQ)(a:want=82):kE B k st c=yq st (wC c):=by rw[kE,h];simp only;rw[if_pos a]
def arj(h:st.C=want::zQ)(a:want=66)(b:sx c=Î):kE B k st c=Â (om {st with C:=[84],d:=st.d.nL} 120 c):=by rw[kE,h];simp only;rw[if_neg Z,if_pos a,if_pos b]
def ark(h:st.C=want::zQ)(a:want=66)(b:sx c=Ë):kE B k st c=oI st c:=by rw[kE,h];simp only;rw[if_neg Z,if_pos a,if_neg (by rw[b];decide)]
def arl(h:st.C=want::zQ)(a:want=84):kE B k st c=yr st (MY c):=by rw[kE,h];simp only;rw[if_neg Z,if_neg Z,if_pos a]
def arn(h:st.C=want::zQ)(a:want=80)(b:c=125):kE B k st c=Â {st with C:=zQ,d:=st.d.o6 (B.extract (k-st.I.toNat) k)}:=by rw[kE,h];simp only;rw[if_neg Z,if_neg Z,if_neg Z,if_pos a,if_pos b]
def abU(h:st.C=want::zQ)(a:want=80)(b:¬c=125)(d:st.I=40\/mf c=0):kE B k st c=Á:=by rw[kE,h];simp only;rw[if_neg Z,if_neg Z,if_neg Z,if_pos a,if_neg b,if_pos d]
def aro(h:st.C=want::zQ)(a:want=80)(b:¬c=125)(d:¬st.I=40)(e:¬mf c=0):kE B k st c=Â {st with I:=st.I+1}:=by rw[kE,h];simp only;rw[if_neg Z,if_neg Z,if_neg Z,if_pos a,if_neg b,if_neg Z]
def arp(h:st.C=want::zQ)(a:¬want=82)(b:¬want=66)(d:¬want=84)(e:¬want=80)(f:o5 want c=Î):kE B k st c=Â {om st want c with C:=zQ}:=by rw[kE,h];simp only;rw[if_neg a,if_neg b,if_neg d,if_neg e,if_pos f]
def arq(h:st.C=want::zQ)(a:¬want=82)(b:¬want=66)(d:¬want=84)(e:¬want=80)(f:o5 want c=Ë):kE B k st c=Á:=by rw[kE,h];simp only;rw[if_neg a,if_neg b,if_neg d,if_neg e,if_neg (by rw[f];decide)]
end
def vi(c:UInt8):(0:Int)<=(c.toNat:Int)/\(c.toNat:Int)<256:=⟨Int.natCast_nonneg _,by have:=c.toNat_lt;omega⟩
def UE(s:ByteArray)(h:s.size=0):(s.toList==[])=Î:=by simp_all
theorem tH(s:ByteArray)(h:¬s.size=0):(s.toList==[])=Ë:=by
 rw[beq_eq_false_iff_ne];intro e;have:s.toList.length=s.size:=by rw[ByteArray.toList_eq];rfl
 grind
def gV.ars(h:gV m b g O s st w)(on:st.d.r=Î)(i:c=86\/c=87\/c=110\/c=107):∃a e f,g.CO st.d c=⟨a,e,Á⟩/\qC m b g st.d a e f (st.d.G c) w/\∀z,f z=st.d.fR c z:=by
 rcases i with rfl|rfl|rfl|rfl
 .exact⟨_,_,_,U,Fq h.C h.r on A,λz=>rfl⟩
 .exact⟨_,_,_,U,Fq h.C h.r on A,λz=>rfl⟩
 .exact⟨_,_,_,U,Fs h.C h.r on A,λz=>rfl⟩
 .exact⟨_,_,_,U,Fs h.C h.r on A,λz=>rfl⟩
def gV.o6(h:gV m b g O s st w)(on:st.d.r=Î)(a:st.d.M=Î)(p:ByteArray):gV m b g O s {st with d:=st.d.o6 p} (w.setCell ⟨g.t,5,Á⟩<|Ä p)/\fg (λi=>m<=i) w (w.setCell ⟨g.t,5,Á⟩<|Ä p):=by have l:=h.C.r on;let⟨f,j,c⟩:=l.C a;have e:fg (λi=>i=g.t) w (w.setCell ⟨g.t,5,Á⟩<|Ä p):=pV c;exact⟨⟨h.S,h.a.r _ trivial,h.r.I e λx=>fp.S h.r c A x,h.M,h.I,h.C.o6 on a p,h.c,h.N⟩,e.S λi _ x=>by have:=l.S;omega⟩
def gV.abV(h:gV m b g O s st w)(on:st.d.r=Î)(a:st.C=c::zQ):gV m b g O (s.extract 1 s.size) {st with C:=zQ} (w.setCell ⟨b,0,Á⟩<|Ä<|s.extract 1 s.size):= h.M1 _ zQ (aqx s h.M) (by rw[aqw,h.I,a];rfl)<|È on
def gV.aru(h:gV m b g O s st w)(a:st.C=c::zQ):0<s.size:=by have:=Un s;rw[h.I,a]at this;simp at this;omega
end
section
variable{g:Gh}{s:ByteArray}{st:PS}{d:PD}
def arv(h:gV m b g O s st w)(a:st.r=0)(c:st.d.r=Ë->st.d.S=[])(f:st.d.C.length<=100000)(k:Int): Ò À 80 #[Ã<|Â ⟨b,0,Á⟩,Å É k] w λe u=>Na m b (yq st k) e w u:=(aqW h a c f k).mono λ_ _ q=>abS q
def arw(h:gV m b g O s st w)(a:st.r=0)(on:st.d.r=Î)(c:st.d.M=Î)(k:Int): Ò À 85 #[Ã<|Â ⟨b,0,Á⟩,Å É k] w λe u=>Na m b (yr st k) e w u:=(aqO h a on c k).mono λ_ _ q=>abS q
theorem arx{X:Ĉ->Í->Prop}{a:Ĉ}(H:Fr b B (Å É k) a) (i:gV m b g O s st w) (j:jA B k st) (S:B.size<=1200) (I:k<B.size) (o:0<st.r) (J:jq (B[k].toNat:Int)=Î) (T:∀a u,Fr b B (Å É<|(k:Int)+1) a/\sD m b B k st w u->K a u) (_hQ:∀a u,Fr b B (Å É k) a/\sE m b B k st w u->X a u): à À qD (Exit.then K<|QQ X) a w:=by
 obtain⟨c,rfl⟩:=H;unfold pW;conv=>arg 2;whnf
 have V:w.cell? ⟨b,0,Á⟩=Â (Ä s):=i.r.r 0 _ U;have W:w.cell? ⟨b,6,Á⟩=Â (Å É st.r):=i.r.r 6 _ U;have Y:w.cell? ⟨b,7,Á⟩=Â (Å É st.I):=i.r.r 7 _ U;have f0:=i.r.C 0;have f6:=i.r.C 6;have f7:=i.r.C 7;have d0:=j.M;have d1:=j.r;have e0:=j.C;have e1:=j.I;let⟨r,on,_,_⟩:=j.e o;let⟨t,ao,f,v,l,z⟩:=i.ars on r;have L:w.cell? ⟨b,5,Á⟩=Â (Ã O):=i.r.r 5 _ U;rw[(i.c o).2,v]at L;obtain⟨x,p⟩:∃x,st.d.G st.M=x:=⟨_,U⟩;have M:=l.C;rw[p]at M;have fm:=l.I;obtain⟨N,P⟩:∃y,wrap64 (x*10)=y:=⟨_,U⟩;obtain⟨n,Q⟩:∃y,wrap64 (N+((B[k].toNat:Int)-48)%256)=y:=⟨_,U⟩;have Nb:¬t=b:=l.r;have Nc:¬b=t:=λe=>l.r e.symm;have C:=i.Y (st.r-1) λ_=>i.c o;have q:=l.S 6<|Å É<|st.r-1;have D:=C.G q n;have E:pT (st.d.G st.M) (B[k].toNat:Int)=n:=by rw[pT,š,š,p,P,Q]
 have F:CM st (B[k].toNat:Int)={st with r:=st.r-1,d:=f n}:=by rw[CM,E,z]
 have G:Hid (kR B k st (B[k].toNat:Int)=Â {st with r:=st.r-1,d:=f n}/\sC m b {st with r:=st.r-1,d:=f n} w (ξ _)):= fi ⟨by rw[arf o J,F],(((mS i 6 _).fj<|Ft (st:=st) q _).C (fg.fY fl _) λ_ _ x=>x.elim),g,O,s,D.fY⟩;clear C q D E F l z v i j p r;go_wp2_with (go_at_call 78;refine(sB _ _).mono ?_;rintro e u ⟨rfl,hw⟩;subst u);go_region;all_goals
  go_wp2;exact⟨gy,⟨I,_,G.out.1,G.out.2⟩⟩
theorem arz{X:Ĉ->Í->Prop}(C:Fr b B (Å É k) y) (i:gV m b g O s st w) (j:jA B k st) (S:B.size<=1200) (n:k<B.size) (o:(0<st.r/\jq (B[k].toNat:Int)=Ë)\/st.r<=0) (p:s.size=0) (T:∀y u,Fr b B (Å É<|(k:Int)+1) y/\sD m b B k st w u->K y u) (D:∀y u,Fr b B (Å É k) y/\sE m b B k st w u->X y u): à À qD (Exit.then K<|QQ X) y w:=by
 obtain⟨f,rfl⟩:=C;unfold pW;conv=>arg 2;whnf
 have V:w.cell? ⟨b,0,Á⟩=Â (Ä s):=i.r.r 0 _ U;have W:w.cell? ⟨b,6,Á⟩=Â (Å É st.r):=i.r.r 6 _ U;have Y:w.cell? ⟨b,7,Á⟩=Â (Å É st.I):=i.r.r 7 _ U;have f0:=i.r.C 0;have f6:=i.r.C 6;have f7:=i.r.C 7;have d0:=j.M;have d1:=j.r;have e0:=j.C;have e1:=j.I;have r:=fi<|vh (B:=B) (k:=k)<|vg o;have t:=i.Y 0 λh=>absurd h A;have v:=fi<|mS i 6<|Å É 0;have E:=j.d.C;have F:=j.d.I;have G:=fi t;let⟨ug,As⟩:=vi B[k];have qZ:=UE s p;have l:st.C=[]:=by rw[<-i.I];exact abv s p
 have H:st.d.r=Î:=by
  rcases i.N with q|q
  .exact q
  .rw[l]at q;cases q
 have x:=fi<|arh (B:=B) (k:=k) (c:=(B[k].toNat:Int)) (st:={st with r:=0}) l;clear l i j;rcases o with⟨I,n9⟩|I;all_goals
  go_wp2_with (first|(go_at_call 78;refine(sB _ _).mono ?_;rintro e u ⟨rfl,z⟩;subst u)|(go_at_call 79;refine(abT t U H F E _).mono ?_;rintro e u (⟨q,rfl,z⟩|⟨J,q,rfl,L,M,N,P,Q⟩)))
  .subst z;exact D _ _ ⟨gy,⟨n,r.out.trans<|x.out.trans q,_,v.out,_,_,_,G.out⟩⟩
  .exact⟨gy,⟨n,J,r.out.trans<|x.out.trans q,v.out.fj L,M,N,P,Q⟩⟩
theorem arA{X:Ĉ->Í->Prop}(C:Fr b B (Å É k) y) (i:gV m b g O s st w) (j:jA B k st) (Q:B.size<=1200) (p:k<B.size) (q:(0<st.r/\jq (B[k].toNat:Int)=Ë)\/st.r<=0) (r:0<s.size) (l:((s[0]'r).toNat:Int)=82) (S:∀y u,Fr b B (Å É<|(k:Int)+1) y/\sD m b B k st w u->K y u) (D:∀y u,Fr b B (Å É k) y/\sE m b B k st w u->X y u): à À qD (Exit.then K<|QQ X) y w:=by
 obtain⟨f,rfl⟩:=C;unfold pW;conv=>arg 2;whnf
 have T:w.cell? ⟨b,0,Á⟩=Â (Ä s):=i.r.r 0 _ U;have V:w.cell? ⟨b,6,Á⟩=Â (Å É st.r):=i.r.r 6 _ U;have W:w.cell? ⟨b,7,Á⟩=Â (Å É st.I):=i.r.r 7 _ U;have Y:=i.r.C 0;have f6:=i.r.C 6;have f7:=i.r.C 7;have d0:=j.M;have d1:=j.r;have e0:=j.C;have e1:=j.I;have t:=fi<|vh (B:=B) (k:=k)<|vg q;have v:=i.Y 0 λh=>absurd h A;have x:=fi<|mS i 6<|Å É 0;have At:=j.d.C;have CQ:=j.d.I;have E:=fi v;let⟨ug,As⟩:=vi B[k];have qZ:=tH s Z;have yu:s.size<=10:=i.M;have F:=fi (show st.C=(s[0].toNat:Int)::(j2 s).tail by rw[<-i.I];exact wD s r);have z:=fi<|ari (B:=B) (k:=k) (c:=(B[k].toNat:Int)) (st:={st with r:=0}) F.out l;have yv:((s[0].toNat:Int)==82)=Î:=by rw[l];rfl
 have G:=fi λe=>(j.d.N e).1;clear l i j;rcases q with⟨H,n9⟩|H;all_goals
  go_wp2_with (first|(go_at_call 78;refine(sB _ _).mono ?_;rintro e u ⟨rfl,n⟩;subst u)|(go_at_call 81;refine(aqG _ _).mono ?_;rintro e u ⟨rfl,n⟩;subst u)|(go_at_call 80;refine(arv v U G.out (by show st.d.C.length<=100000;omega) _).mono ?_;rintro e u (⟨o,rfl,n⟩|⟨I,o,rfl,J,L,M,N,P⟩)))
  .subst n;exact D _ _ ⟨gy,⟨p,t.out.trans<|z.out.trans o,_,x.out,_,_,_,E.out⟩⟩
  .exact⟨gy,⟨p,I,t.out.trans<|z.out.trans o,x.out.fj J,L,M,N,P⟩⟩
end
section
variable{g:Gh}{s:ByteArray}{st:PS}{d:PD}
def arB{X:Ĉ->Í->Prop}(v:Fr b B (Å É k) y) (f:gV m b g O s st w) (i:jA B k st) (N:B.size<=1200) (x:k<B.size) (l:(0<st.r/\jq (B[k].toNat:Int)=Ë)\/st.r<=0) (n:0<s.size) (j:((s[0]'n).toNat:Int)=66) (o:sx (B[k].toNat:Int)=Î) (P:∀y u,Fr b B (Å É<|(k:Int)+1) y/\sD m b B k st w u->K y u) (_hQ:∀y u,Fr b B (Å É k) y/\sE m b B k st w u->X y u): à À qD (Exit.then K<|QQ X) y w:=by
 obtain⟨c,rfl⟩:=v;unfold pW;conv=>arg 2;whnf
 have Q:w.cell? ⟨b,0,Á⟩=Â (Ä s):=f.r.r 0 _ U;have S:w.cell? ⟨b,6,Á⟩=Â (Å É st.r):=f.r.r 6 _ U;have T:w.cell? ⟨b,7,Á⟩=Â (Å É st.I):=f.r.r 7 _ U;have V:=f.r.C 0;have W:=f.r.C 6;have Y:=f.r.C 7;have d0:=i.M;have d1:=i.r;have e0:=i.C;have e1:=i.I;have z:=fi<|vh (B:=B) (k:=k)<|vg l;have p:=f.Y 0 λh=>absurd h A;have C:=fi<|mS f 6<|Å É 0;have At:=i.d.C;have CQ:=i.d.I;have HH1:=fi p;let⟨D,E⟩:=vi B[k];have qZ:=tH s Z;have yu:s.size<=10:=f.M;have r:=fi (show st.C=(s[0].toNat:Int)::(j2 s).tail by rw[<-f.I];exact wD s n);have t:st.d.r=Î:=by
  rcases f.N with q|q
  .exact q
  .rw[r.out]at q;injection q with q;omega
 have q:=fi<|arj (B:=B) (k:=k) (st:={st with r:=0}) r.out j o;have yv:((s[0].toNat:Int)==82)=Ë:=by rw[j];rfl
 have Fy:((s[0].toNat:Int)==66)=Î:=by rw[j];rfl
 clear j f i;rcases l with⟨F,n9⟩|F;all_goals
  go_wp2_with (first|(go_at_call 78;refine(sB _ _).mono ?_;rintro e u ⟨rfl,G⟩;subst u)|(go_at_call 82;refine(Uo _ D E _).mono ?_;rintro e u ⟨rfl,G⟩;subst u)|(go_at_call 83;refine(abG p U t<|by show st.d.Y.length<=100000;omega).mono ?_;rintro e u ⟨rfl,G,I,J,L,H⟩)|(go_at_call 84;refine(LZ H U t _ _<|show o5 120 _=Î from o).mono ?_;rintro e w'' ⟨rfl,H,I,J,L,M⟩))
  exact⟨gy,⟨x,_,z.out.trans q.out,C.out.fj<|G.fj H,I,J,L,M⟩⟩
def arC{X:Ĉ->Í->Prop}(C:Fr b B (Å É k) y) (f:gV m b g O s st w) (i:jA B k st) (W:B.size<=1200) (n:k<B.size) (o:(0<st.r/\jq (B[k].toNat:Int)=Ë)\/st.r<=0) (p:0<s.size) (j:((s[0]'p).toNat:Int)=66) (D:sx (B[k].toNat:Int)=Ë) (Y:∀y u,Fr b B (Å É<|(k:Int)+1) y/\sD m b B k st w u->K y u) (E:∀y u,Fr b B (Å É k) y/\sE m b B k st w u->X y u): à À qD (Exit.then K<|QQ X) y w:=by
 obtain⟨c,rfl⟩:=C;unfold pW;conv=>arg 2;whnf
 have c0:w.cell? ⟨b,0,Á⟩=Â (Ä s):=f.r.r 0 _ U;have c6:w.cell? ⟨b,6,Á⟩=Â (Å É st.r):=f.r.r 6 _ U;have c7:w.cell? ⟨b,7,Á⟩=Â (Å É st.I):=f.r.r 7 _ U;have f0:=f.r.C 0;have f6:=f.r.C 6;have f7:=f.r.C 7;have d0:=i.M;have d1:=i.r;have e0:=i.C;have e1:=i.I;have r:=fi<|vh (B:=B) (k:=k)<|vg o;have t:=f.Y 0 λh=>absurd h A;have v:=fi<|mS f 6<|Å É 0;have F:=i.d.C;have G:=i.d.I;have H:=fi t;let⟨I,J⟩:=vi B[k];have qZ:=tH s Z;have yu:s.size<=10:=f.M;have x:=fi (show st.C=(s[0].toNat:Int)::(j2 s).tail by rw[<-f.I];exact wD s p);have L:st.d.r=Î:=by
  rcases f.N with q|q
  .exact q
  .rw[x.out]at q;injection q with q;omega
 have z:=fi<|ark (B:=B) (k:=k) (st:={st with r:=0}) x.out j D;have yv:((s[0].toNat:Int)==82)=Ë:=by rw[j];rfl
 have Fy:((s[0].toNat:Int)==66)=Î:=by rw[j];rfl
 clear j f i;rcases o with⟨M,n9⟩|M;all_goals
  go_wp2_with (first|(go_at_call 78;refine(sB _ _).mono ?_;rintro e u ⟨rfl,q⟩;subst u)|(go_at_call 82;refine(Uo _ I J _).mono ?_;rintro e u ⟨rfl,q⟩;subst u)|(go_at_call 79;refine(abT t U L G F _).mono ?_;rintro e u (⟨l,rfl,q⟩|⟨N,l,rfl,P,Q,S,T,V⟩)))
  .subst q;exact E _ _ ⟨gy,⟨n,r.out.trans<|z.out.trans l,_,v.out,_,_,_,H.out⟩⟩
  .exact⟨gy,⟨n,N,r.out.trans<|z.out.trans l,v.out.fj P,Q,S,T,V⟩⟩
theorem arD{X:Ĉ->Í->Prop}(D:Fr b B (Å É k) y) (i:gV m b g O s st w) (j:jA B k st) (S:B.size<=1200) (p:k<B.size) (r:(0<st.r/\jq (B[k].toNat:Int)=Ë)\/st.r<=0) (t:0<s.size) (l:((s[0]'t).toNat:Int)=84) (T:∀y u,Fr b B (Å É<|(k:Int)+1) y/\sD m b B k st w u->K y u) (E:∀y u,Fr b B (Å É k) y/\sE m b B k st w u->X y u): à À qD (Exit.then K<|QQ X) y w:=by
 obtain⟨f,rfl⟩:=D;unfold pW;conv=>arg 2;whnf
 have V:w.cell? ⟨b,0,Á⟩=Â (Ä s):=i.r.r 0 _ U;have W:w.cell? ⟨b,6,Á⟩=Â (Å É st.r):=i.r.r 6 _ U;have Y:w.cell? ⟨b,7,Á⟩=Â (Å É st.I):=i.r.r 7 _ U;have f0:=i.r.C 0;have f6:=i.r.C 6;have f7:=i.r.C 7;have d0:=j.M;have d1:=j.r;have e0:=j.C;have e1:=j.I;have v:=fi<|vh (B:=B) (k:=k)<|vg r;have x:=i.Y 0 λh=>absurd h A;have z:=fi<|mS i 6<|Å É 0;have At:=j.d.C;have CQ:=j.d.I;have F:=fi x;let⟨ug,As⟩:=vi B[k];have qZ:=tH s Z;have yu:s.size<=10:=i.M;have n:=fi (show st.C=(s[0].toNat:Int)::(j2 s).tail by rw[<-i.I];exact wD s t);have G:st.d.r=Î:=by
  rcases i.N with q|q
  .exact q
  .rw[n.out]at q;injection q with q;omega
 have H:st.d.M=Î:=j.N (by rw[n.out,l];simp);have C:=fi<|arl (B:=B) (k:=k) (c:=(B[k].toNat:Int)) (st:={st with r:=0}) n.out l;have yv:((s[0].toNat:Int)==82)=Ë:=by rw[l];rfl
 have Fy:((s[0].toNat:Int)==66)=Ë:=by rw[l];rfl
 have Fz:((s[0].toNat:Int)==84)=Î:=by rw[l];rfl
 clear l i j;rcases r with⟨I,n9⟩|I;all_goals
  go_wp2_with (first|(go_at_call 78;refine(sB _ _).mono ?_;rintro e u ⟨rfl,q⟩;subst u)|(go_at_call 86;refine(aqF _ _).mono ?_;rintro e u ⟨rfl,q⟩;subst u)|(go_at_call 85;refine(arw x U G H _).mono ?_;rintro e u (⟨o,rfl,q⟩|⟨J,o,rfl,L,M,N,P,Q⟩)))
  .subst q;exact E _ _ ⟨gy,⟨p,v.out.trans<|C.out.trans o,_,z.out,_,_,_,F.out⟩⟩
  .exact⟨gy,⟨p,J,v.out.trans<|C.out.trans o,z.out.fj L,M,N,P,Q⟩⟩
end
section
variable{g:Gh}{s:ByteArray}{st:PS}{d:PD}
theorem arE{X:Ĉ->Í->Prop}(P:Fr b B (Å É k) y) (i:gV m b g O s st w) (j:jA B k st) (hB:B.size<=1200) (Q:k<B.size) (F:(0<st.r/\jq (B[k].toNat:Int)=Ë)\/st.r<=0) (G:0<s.size) (l:((s[0]'G).toNat:Int)=80) (v:(B[k].toNat:Int)=125) (hK:∀y u,Fr b B (Å É<|(k:Int)+1) y/\sD m b B k st w u->K y u) (_hQ:∀y u,Fr b B (Å É k) y/\sE m b B k st w u->X y u): à À qD (Exit.then K<|QQ X) y w:=by
 obtain⟨f,rfl⟩:=P;unfold pW;conv=>arg 2;whnf
 have c0:w.cell? ⟨b,0,Á⟩=Â (Ä s):=i.r.r 0 _ U;have c6:w.cell? ⟨b,6,Á⟩=Â (Å É st.r):=i.r.r 6 _ U;have S:w.cell? ⟨b,7,Á⟩=Â (Å É st.I):=i.r.r 7 _ U;have f0:=i.r.C 0;have f6:=i.r.C 6;have f7:=i.r.C 7;have d0:=j.M;have d1:=j.r;have T:=j.C;have V:=j.I;have H:=fi<|vh (B:=B) (k:=k)<|vg F;have z:=i.Y 0 λh=>absurd h A;have I:=fi<|mS i 6<|Å É 0;have At:=j.d.C;have CQ:=j.d.I;have W:=fi z;let⟨ug,As⟩:=vi B[k];have qZ:=tH s Z;have yu:s.size<=10:=i.M;have n:=fi (show st.C=(s[0].toNat:Int)::(j2 s).tail by rw[<-i.I];exact wD s G);have C:st.d.r=Î:=by
  rcases i.N with q|q
  .exact q
  .rw[n.out]at q;injection q with q;omega
 have D:st.d.M=Î:=j.N (by rw[n.out,l];simp);have Y:w.cell? ⟨b,3,Á⟩=Â (Ã<|g.Y st.d):=i.r.r 3 _ U;rw[IT D]at Y;let⟨yt1,J,q⟩:=(i.C.r C).C D;have UF:w.cell? ⟨g.t,5,Á⟩=Â (Ä st.d.N.p):=q.r 5 _ (by have:=CP st.d.N.c<|Ä st.d.N.p;rwa[J]at this);have UG:=q.C 5;have Nc:¬b=g.t:=λe=>fp.S q i.r A e.symm;have Nb:¬g.t=b:=fp.S q i.r A;let⟨Nd,_⟩:=j.Y (by rw[n.out,l];simp);have yv:((s[0].toNat:Int)==82)=Ë:=by rw[l];rfl
 have Fy:((s[0].toNat:Int)==66)=Ë:=by rw[l];rfl
 have Fz:((s[0].toNat:Int)==84)=Ë:=by rw[l];rfl
 have IW:((s[0].toNat:Int)==80)=Î:=by rw[l];rfl
 clear yt1 J q;have L:=fi<|arn (B:=B) (k:=k) (st:={st with r:=0}) n.out l v;have UH:((B[k].toNat:Int) !=125)=Ë:=by rw[v];rfl
 obtain⟨o,M⟩:∃t:Nat,st.I=(t:Int):=⟨st.I.toNat,Z⟩;have r:=z.o6 C D<|B.extract (k-o) k;have N:=r.1.abV C n.out;have E:=fi (Ê (show kR B k st (B[k].toNat:Int)=Â {({st with r:=0}:PS)with C:=(j2 s).tail,d:=st.d.o6 (B.extract (k-o) k)} by rw[H.out,L.out,show({st with r:=0}:PS).I.toNat=o by show st.I.toNat=o;omega])<|Ê ((I.out.fj r.2).fj<|mS r.1 0<|Ä<|s.extract 1 s.size) N);rw[M]at S T V Nd;clear v l i j r N M L H I W z;rcases F with⟨B7,n9⟩|B7;all_goals
  go_wp2_with (first|(go_at_call 78;refine(sB _ _).mono ?_;rintro e u ⟨rfl,x⟩;subst u))
  go_region
  all_goals
   go_wp2;exact⟨gy,⟨Q,_,E.out.1,E.out.2.1.C (fg.fY fl _) λ_ _ x=>x.elim,_,_,_,E.out.2.2.fY⟩⟩
theorem arF{X:Ĉ->Í->Prop}(D:Fr b B (Å É k) y) (i:gV m b g O s st w) (j:jA B k st) (S:B.size<=1200) (E:k<B.size) (v:(0<st.r/\jq (B[k].toNat:Int)=Ë)\/st.r<=0) (x:0<s.size) (l:((s[0]'x).toNat:Int)=80) (o:¬(B[k].toNat:Int)=125) (r:st.I=40) (_hK:∀y u,Fr b B (Å É<|(k:Int)+1) y/\sD m b B k st w u->K y u) (F:∀y u,Fr b B (Å É k) y/\sE m b B k st w u->X y u): à À qD (Exit.then K<|QQ X) y w:=by
 obtain⟨f,rfl⟩:=D;unfold pW;conv=>arg 2;whnf
 have T:w.cell? ⟨b,0,Á⟩=Â (Ä s):=i.r.r 0 _ U;have V:w.cell? ⟨b,6,Á⟩=Â (Å É st.r):=i.r.r 6 _ U;have W:w.cell? ⟨b,7,Á⟩=Â (Å É st.I):=i.r.r 7 _ U;have Y:=i.r.C 0;have f6:=i.r.C 6;have f7:=i.r.C 7;have d0:=j.M;have d1:=j.r;have e0:=j.C;have e1:=j.I;have G:=fi<|vh (B:=B) (k:=k)<|vg v;have H:=i.Y 0 λh=>absurd h A;have I:=fi<|mS i 6<|Å É 0;have At:=j.d.C;have CQ:=j.d.I;have J:=fi H;let⟨ug,As⟩:=vi B[k];have qZ:=tH s Z;have yu:s.size<=10:=i.M;have n:=fi (show st.C=(s[0].toNat:Int)::(j2 s).tail by rw[<-i.I];exact wD s x);have L:st.d.r=Î:=by
  rcases i.N with q|q
  .exact q
  .rw[n.out]at q;injection q with q;omega
 have z:st.d.M=Î:=j.N (by rw[n.out,l];simp);have M:w.cell? ⟨b,3,Á⟩=Â (Ã<|g.Y st.d):=i.r.r 3 _ U;rw[IT z]at M;let⟨N,C,q⟩:=(i.C.r L).C z;have UF:w.cell? ⟨g.t,5,Á⟩=Â (Ä st.d.N.p):=q.r 5 _ (by have:=CP st.d.N.c<|Ä st.d.N.p;rwa[C]at this);have UG:=q.C 5;have Nc:¬b=g.t:=λe=>fp.S q i.r A e.symm;have Nb:¬g.t=b:=fp.S q i.r A;let⟨Nd,_⟩:=j.Y (by rw[n.out,l];simp);have yv:((s[0].toNat:Int)==82)=Ë:=by rw[l];rfl
 have Fy:((s[0].toNat:Int)==66)=Ë:=by rw[l];rfl
 have Fz:((s[0].toNat:Int)==84)=Ë:=by rw[l];rfl
 have IW:((s[0].toNat:Int)==80)=Î:=by rw[l];rfl
 clear N C q;have UH:((B[k].toNat:Int) !=125)=Î:=by rwa[bne_iff_ne]
 have P:=fi<|abU (B:=B) (k:=k) (st:={st with r:=0}) n.out l o<|È r;have abW:(st.I==40)=Î:=by rw[r];rfl
 clear r o l i j;rcases v with⟨Q,n9⟩|Q;all_goals
  go_wp2_with (first|(go_at_call 78;refine(sB _ _).mono ?_;rintro e u ⟨rfl,hw⟩;subst u))
  exact F _ _ ⟨gy,⟨E,G.out.trans P.out,_,I.out,_,_,_,J.out⟩⟩
theorem arG{X:Ĉ->Í->Prop}(F:Fr b B (Å É k) y) (i:gV m b g O s st w) (j:jA B k st) (T:B.size<=1200) (G:k<B.size) (v:(0<st.r/\jq (B[k].toNat:Int)=Ë)\/st.r<=0) (x:0<s.size) (l:((s[0]'x).toNat:Int)=80) (o:¬(B[k].toNat:Int)=125) (r:¬st.I=40) (z:¬mf (B[k].toNat:Int)=0) (V:∀y u,Fr b B (Å É<|(k:Int)+1) y/\sD m b B k st w u->K y u) (_hQ:∀y u,Fr b B (Å É k) y/\sE m b B k st w u->X y u): à À qD (Exit.then K<|QQ X) y w:=by
 obtain⟨f,rfl⟩:=F;unfold pW;conv=>arg 2;whnf
 have W:w.cell? ⟨b,0,Á⟩=Â (Ä s):=i.r.r 0 _ U;have Y:w.cell? ⟨b,6,Á⟩=Â (Å É st.r):=i.r.r 6 _ U;have c7:w.cell? ⟨b,7,Á⟩=Â (Å É st.I):=i.r.r 7 _ U;have f0:=i.r.C 0;have f6:=i.r.C 6;have f7:=i.r.C 7;have d0:=j.M;have d1:=j.r;have e0:=j.C;have e1:=j.I;have H:=fi<|vh (B:=B) (k:=k)<|vg v;have I:=i.Y 0 λh=>absurd h A;have J:=fi<|mS i 6<|Å É 0;have At:=j.d.C;have CQ:=j.d.I;have C:=fi I;let⟨ug,As⟩:=vi B[k];have qZ:=tH s Z;have yu:s.size<=10:=i.M;have n:=fi (show st.C=(s[0].toNat:Int)::(j2 s).tail by rw[<-i.I];exact wD s x);have L:st.d.r=Î:=by
  rcases i.N with q|q
  .exact q
  .rw[n.out]at q;injection q with q;omega
 have D:st.d.M=Î:=j.N (by rw[n.out,l];simp);have M:w.cell? ⟨b,3,Á⟩=Â (Ã<|g.Y st.d):=i.r.r 3 _ U;rw[IT D]at M;let⟨N,E,q⟩:=(i.C.r L).C D;have UF:w.cell? ⟨g.t,5,Á⟩=Â (Ä st.d.N.p):=q.r 5 _ (by have:=CP st.d.N.c<|Ä st.d.N.p;rwa[E]at this);have UG:=q.C 5;have Nc:¬b=g.t:=λe=>fp.S q i.r A e.symm;have Nb:¬g.t=b:=fp.S q i.r A;let⟨Nd,_⟩:=j.Y (by rw[n.out,l];simp);have yv:((s[0].toNat:Int)==82)=Ë:=by rw[l];rfl
 have Fy:((s[0].toNat:Int)==66)=Ë:=by rw[l];rfl
 have Fz:((s[0].toNat:Int)==84)=Ë:=by rw[l];rfl
 have IW:((s[0].toNat:Int)==80)=Î:=by rw[l];rfl
 clear N E q;have UH:((B[k].toNat:Int) !=125)=Î:=by rwa[bne_iff_ne]
 have P:=fi<|aro (B:=B) (k:=k) (st:={st with r:=0}) n.out l o r z;have abW:(st.I==40)=Ë:=by rwa[beq_eq_false_iff_ne]
 have zC:((mf (B[k].toNat:Int):Int)==0)=Ë:=by rw[beq_eq_false_iff_ne];omega
 clear r o l i j z;rcases v with⟨Q,n9⟩|Q;all_goals
  go_wp2_with (first|(go_at_call 78;refine(sB _ _).mono ?_;rintro e u ⟨rfl,S⟩;subst u)|(go_at_call 87;refine(qw _ _).mono ?_;rintro e u ⟨rfl,S⟩;subst u))
  exact⟨gy,⟨G,_,H.out.trans P.out,J.out.fj<|mS C.out 7 _,_,_,_,C.out.abD _⟩⟩
theorem arH{X:Ĉ->Í->Prop}(E:Fr b B (Å É k) y) (i:gV m b g O s st w) (j:jA B k st) (V:B.size<=1200) (F:k<B.size) (v:(0<st.r/\jq (B[k].toNat:Int)=Ë)\/st.r<=0) (x:0<s.size) (l:((s[0]'x).toNat:Int)=80) (o:¬(B[k].toNat:Int)=125) (z:¬st.I=40) (r:mf (B[k].toNat:Int)=0) (_hK:∀y u,Fr b B (Å É<|(k:Int)+1) y/\sD m b B k st w u->K y u) (G:∀y u,Fr b B (Å É k) y/\sE m b B k st w u->X y u): à À qD (Exit.then K<|QQ X) y w:=by
 obtain⟨f,rfl⟩:=E;unfold pW;conv=>arg 2;whnf
 have W:w.cell? ⟨b,0,Á⟩=Â (Ä s):=i.r.r 0 _ U;have Y:w.cell? ⟨b,6,Á⟩=Â (Å É st.r):=i.r.r 6 _ U;have c7:w.cell? ⟨b,7,Á⟩=Â (Å É st.I):=i.r.r 7 _ U;have f0:=i.r.C 0;have f6:=i.r.C 6;have f7:=i.r.C 7;have d0:=j.M;have d1:=j.r;have e0:=j.C;have e1:=j.I;have H:=fi<|vh (B:=B) (k:=k)<|vg v;have I:=i.Y 0 λh=>absurd h A;have J:=fi<|mS i 6<|Å É 0;have At:=j.d.C;have CQ:=j.d.I;have L:=fi I;let⟨ug,As⟩:=vi B[k];have qZ:=tH s Z;have yu:s.size<=10:=i.M;have n:=fi (show st.C=(s[0].toNat:Int)::(j2 s).tail by rw[<-i.I];exact wD s x);have M:st.d.r=Î:=by
  rcases i.N with q|q
  .exact q
  .rw[n.out]at q;injection q with q;omega
 have C:st.d.M=Î:=j.N (by rw[n.out,l];simp);have N:w.cell? ⟨b,3,Á⟩=Â (Ã<|g.Y st.d):=i.r.r 3 _ U;rw[IT C]at N;let⟨P,D,q⟩:=(i.C.r M).C C;have UF:w.cell? ⟨g.t,5,Á⟩=Â (Ä st.d.N.p):=q.r 5 _ (by have:=CP st.d.N.c<|Ä st.d.N.p;rwa[D]at this);have UG:=q.C 5;have Nc:¬b=g.t:=λe=>fp.S q i.r A e.symm;have Nb:¬g.t=b:=fp.S q i.r A;let⟨Nd,_⟩:=j.Y (by rw[n.out,l];simp);have yv:((s[0].toNat:Int)==82)=Ë:=by rw[l];rfl
 have Fy:((s[0].toNat:Int)==66)=Ë:=by rw[l];rfl
 have Fz:((s[0].toNat:Int)==84)=Ë:=by rw[l];rfl
 have IW:((s[0].toNat:Int)==80)=Î:=by rw[l];rfl
 clear P D q;have UH:((B[k].toNat:Int) !=125)=Î:=by rwa[bne_iff_ne]
 have Q:=fi<|abU (B:=B) (k:=k) (st:={st with r:=0}) n.out l o<|Ï r;have abW:(st.I==40)=Ë:=by rwa[beq_eq_false_iff_ne]
 have zC:((mf (B[k].toNat:Int):Int)==0)=Î:=by rw[r];rfl
 clear z o l i j r;rcases v with⟨S,n9⟩|S;all_goals
  go_wp2_with (first|(go_at_call 78;refine(sB _ _).mono ?_;rintro e u ⟨rfl,T⟩;subst u)|(go_at_call 87;refine(qw _ _).mono ?_;rintro e u ⟨rfl,T⟩;subst u))
  exact G _ _ ⟨gy,⟨F,H.out.trans Q.out,_,J.out,_,_,_,L.out⟩⟩
end
section
variable{g:Gh}{s:ByteArray}{st:PS}{d:PD}
def arI{X:Ĉ->Í->Prop}(E:Fr b B (Å É k) y) (f:gV m b g O s st w) (i:jA B k st) (S:B.size<=1200) (F:k<B.size) (x:(0<st.r/\jq (B[k].toNat:Int)=Ë)\/st.r<=0) (j:0<s.size) (n:¬((s[0]'j).toNat:Int)=82) (o:¬((s[0]'j).toNat:Int)=66) (p:¬((s[0]'j).toNat:Int)=84) (r:¬((s[0]'j).toNat:Int)=80) (z:o5 ((s[0]'j).toNat:Int) (B[k].toNat:Int)=Î) (T:∀y u,Fr b B (Å É<|(k:Int)+1) y/\sD m b B k st w u->K y u) (_hQ:∀y u,Fr b B (Å É k) y/\sE m b B k st w u->X y u): à À qD (Exit.then K<|QQ X) y w:=by
 obtain⟨c,rfl⟩:=E;unfold pW;conv=>arg 2;whnf
 have V:w.cell? ⟨b,0,Á⟩=Â (Ä s):=f.r.r 0 _ U;have W:w.cell? ⟨b,6,Á⟩=Â (Å É st.r):=f.r.r 6 _ U;have Y:w.cell? ⟨b,7,Á⟩=Â (Å É st.I):=f.r.r 7 _ U;have f0:=f.r.C 0;have f6:=f.r.C 6;have f7:=f.r.C 7;have d0:=i.M;have d1:=i.r;have e0:=i.C;have e1:=i.I;have G:=fi<|vh (B:=B) (k:=k)<|vg x;have H:=f.Y 0 λh=>absurd h A;have I:=fi<|mS f 6<|Å É 0;have At:=i.d.C;let⟨J,L⟩:=vi B[k];have qZ:=tH s Z;have yu:s.size<=10:=f.M;have l:=fi (show st.C=(s[0].toNat:Int)::(j2 s).tail by rw[<-f.I];exact wD s j);have C:st.d.r=Î:=by
  rcases f.N with q|q
  .exact q
  .rw[l.out]at q;injection q with q;omega
 have yv:((s[0].toNat:Int)==82)=Ë:=by rwa[beq_eq_false_iff_ne]
 have arJ:((s[0].toNat:Int)==66)=Ë:=by rwa[beq_eq_false_iff_ne]
 have Fz:((s[0].toNat:Int)==84)=Ë:=by rwa[beq_eq_false_iff_ne]
 have IW:((s[0].toNat:Int)==80)=Ë:=by rwa[beq_eq_false_iff_ne]
 have M:=fi<|arp (B:=B) (k:=k) (st:={st with r:=0}) l.out n o p r z;have N:=fi z;clear n o p r f i;rcases x with⟨P,n9⟩|P;all_goals
  go_wp2_with (first|(go_at_call 78;refine(sB _ _).mono ?_;rintro e u ⟨rfl,q⟩;subst u)|(go_at_call 88;refine(abx _ _ J L _).mono ?_;rintro e u ⟨rfl,q⟩;subst u)|(go_at_call 84;refine(LZ H U C _ _ N.out).mono ?_;rintro e Q ⟨rfl,D,g',nm',t,q⟩;have k0:Q.cell? ⟨b,0,Á⟩=Â (Ä t):=q.r.r 0 _ U;have kf0:=q.r.C 0;have uh:0<t.size:=q.aru l.out;have avw:t.size<=10:=q.M;have v:=fi<|Ê D q;clear D q))
  exact⟨gy,⟨F,_,G.out.trans M.out,I.out.fj<|v.out.1.fj<|mS v.out.2 0 _,_,_,_,v.out.2.abV ((Uz _ _ _).1.trans C) l.out⟩⟩
def arK{X:Ĉ->Í->Prop}(v:Fr b B (Å É k) y) (f:gV m b g O s st w) (i:jA B k st) (M:B.size<=1200) (x:k<B.size) (r:(0<st.r/\jq (B[k].toNat:Int)=Ë)\/st.r<=0) (j:0<s.size) (l:¬((s[0]'j).toNat:Int)=82) (n:¬((s[0]'j).toNat:Int)=66) (o:¬((s[0]'j).toNat:Int)=84) (p:¬((s[0]'j).toNat:Int)=80) (z:o5 ((s[0]'j).toNat:Int) (B[k].toNat:Int)=Ë) (_hK:∀y u,Fr b B (Å É<|(k:Int)+1) y/\sD m b B k st w u->K y u) (C:∀y u,Fr b B (Å É k) y/\sE m b B k st w u->X y u): à À qD (Exit.then K<|QQ X) y w:=by
 obtain⟨c,rfl⟩:=v;unfold pW;conv=>arg 2;whnf
 have N:w.cell? ⟨b,0,Á⟩=Â (Ä s):=f.r.r 0 _ U;have P:w.cell? ⟨b,6,Á⟩=Â (Å É st.r):=f.r.r 6 _ U;have Q:w.cell? ⟨b,7,Á⟩=Â (Å É st.I):=f.r.r 7 _ U;have S:=f.r.C 0;have T:=f.r.C 6;have V:=f.r.C 7;have W:=i.M;have Y:=i.r;have e0:=i.C;have e1:=i.I;have D:=fi<|vh (B:=B) (k:=k)<|vg r;have E:=f.Y 0 λh=>absurd h A;have F:=fi<|mS f 6<|Å É 0;have At:=i.d.C;have CQ:=i.d.I;have G:=fi E;let⟨H,I⟩:=vi B[k];have qZ:=tH s Z;have yu:s.size<=10:=f.M;have t:=fi (show st.C=(s[0].toNat:Int)::(j2 s).tail by rw[<-f.I];exact wD s j);have on:st.d.r=Î:=by
  rcases f.N with q|q
  .exact q
  .rw[t.out]at q;injection q with q;omega
 have yv:((s[0].toNat:Int)==82)=Ë:=by rwa[beq_eq_false_iff_ne]
 have arJ:((s[0].toNat:Int)==66)=Ë:=by rwa[beq_eq_false_iff_ne]
 have Fz:((s[0].toNat:Int)==84)=Ë:=by rwa[beq_eq_false_iff_ne]
 have IW:((s[0].toNat:Int)==80)=Ë:=by rwa[beq_eq_false_iff_ne]
 have q:=fi<|arq (B:=B) (k:=k) (st:={st with r:=0}) t.out l n o p z;clear l n o p f i;rcases r with⟨J,n9⟩|J;all_goals
  go_wp2_with (first|(go_at_call 78;refine(sB _ _).mono ?_;rintro e u ⟨rfl,L⟩;subst u)|(go_at_call 88;refine(abx _ _ H I _).mono ?_;rintro e u ⟨rfl,L⟩;subst u))
  exact C _ _ ⟨gy,⟨x,D.out.trans q.out,_,F.out,_,_,_,G.out⟩⟩
end
section
variable{g:Gh}{c:PS}{d:PD}
theorem arL{X:Ĉ->Í->Prop}{d:ByteArray}(e:Fr b d (Å É k) y) (f:gV m b g O B c w) (h:jA d k c) (i:d.size<=1200) (j:k<d.size) (l:∀y v,Fr b d (Å É<|(k:Int)+1) y/\sD m b d k c w v->K y v) (n:∀y v,Fr b d (Å É k) y/\sE m b d k c w v->X y v): à À qD (Exit.then K<|QQ X) y w:=by
 by_cases x:0<c.r/\jq (d[k].toNat:Int)=Î
 .grind [arx]
 have o:(0<c.r/\jq (d[k].toNat:Int)=Ë)\/c.r<=0:=by grind
 by_cases z:B.size=0
 .grind [arz]
 have p:0<B.size:=Z
 by_cases r:(B[0].toNat:Int)=82
 .grind [arA]
 by_cases q:(B[0].toNat:Int)=66
 .cases s:sx (d[k].toNat:Int)with
  |true=>exact arB e f h i j o p q s l n
  |false=>exact arC e f h i j o p q s l n
 by_cases s:(B[0].toNat:Int)=84
 .grind [arD]
 by_cases t:(B[0].toNat:Int)=80
 .grind [arE,arF,arH,arG]
 cases u:o5 (B[0].toNat:Int) (d[k].toNat:Int)with
 |true=>exact arI e f h i j o p r q s t u l n
 |false=>exact arK e f h i j o p r q s t u l n
def arM{X:Ĉ->Í->Prop}(c:Fr b B (Å É k) y)(_hB:B.size<=1200)(e:¬k<B.size)(_hk:k<=B.size) (d:∀y v,Fr b B (Å É k) y/\v=w->X y v): à À qD (Exit.then K<|QQ X) y w:=by
 obtain⟨u,rfl⟩:=c;unfold pW;conv=>arg 2;whnf
 go_wp2;exact d _ _ ⟨gy,U⟩
def mH(B:ByteArray):Nat×PS:=jr B B.size 0 nN
def RI(m b:Nat)(d:ByteArray)(w:Í)(a:Ĉ)(e:Í):Prop:=
 ∃(k:Nat) (g:Gh) (O:Option û) (B:ByteArray) (c:PS),k<=d.size/\Fr b d (Å É k) a/\gV m b g O B c e/\fg (λi=>m<=i) w e/\jA d k c/\mH d=jr d (d.size-k) k c
def Rmu(B:ByteArray)(a:Ĉ)(_:Í):Nat:=B.size-(intOf<|a.tmps.getD 5 ĸ).toNat
def RX(m b:Nat)(B:ByteArray)(w:Í)(a:Ĉ)(d:Í):Prop:=
 ∃(k:Nat) (c:PS),k<=B.size/\Fr b B (Å É k) a/\sC m b c w d/\(mH B).1=k/\(k=B.size->(mH B).2=c)
def abX{i:Int}{w:Í}(h:Fr b B (Å É i) y):Rmu B y w=B.size-i.toNat:=by obtain⟨u,rfl⟩:=h;rfl
def arN{a:PS}(b:k<B.size)(d:kR B k c (B[k].toNat:Int)=Â a):jr B (B.size-k) k c=jr B (B.size-(k+1)) (k+1) a:=by rw[show B.size-k=(B.size-(k+1))+1 by omega,jr,dif_pos b,d]
def arO(a:k<B.size)(b:kR B k c (B[k].toNat:Int)=Á):jr B (B.size-k) k c=(k,c):=by rw[show B.size-k=(B.size-(k+1))+1 by omega,jr,dif_pos a,b]
def arP{d:ByteArray}(i:Fr b d (Å É 0) y)(h:gV m b g O B nN w)(r:d.size<=1200): à À (ń qD) (QQ<|RX m b d w) y w:=by
 apply Β (RI m b d w) (Rmu d) ⟨0,g,O,B,nN,Ù _,i,h,fg.gd _ _,UC d,U⟩;rintro y x ⟨k,g,O,B,c,n,i,s,o,t,p⟩;by_cases j:k<d.size
 .refine arL i s t r j ?_ ?_
  .rintro u v ⟨f,z,e,l,q,C,D,E,F⟩;refine⟨⟨k+1,C,D,E,e,Z,by simpa using f,F,o.fj q,abO t j l,p.trans<|arN j l⟩,?_⟩;rw[abX f,abX (w:=x) i];omega
  .rintro u v ⟨f,z,l,C,q,D⟩;have:=p.trans<|arO j l;exact⟨k,C,n,f,⟨o.fj q,D⟩,by rw[this],λe=>by omega⟩
 .apply arM i r j n;rintro u v ⟨f,rfl⟩;have:mH d=(k,c):=by rw[p,show d.size-k=0 by omega];rfl
  exact⟨k,c,n,f,⟨o,g,O,B,s⟩,by rw[this],λ_=>by rw[this]⟩
def arQ{c:ByteArray}(h:gV m b g O B nN w)(f:c.size<=1200): Ò À 45 #[Ã<|Â ⟨b,0,Á⟩,Ä c] w λe u=>
  ∃(k:Nat) (d:PS),k<=c.size/\e=Æ (Å É k)/\sC m b d w u/\(mH c).1=k/\(k=c.size->(mH c).2=d):=by
 go_enter Tryz.func45,Tryz.ntmps45;go_wp2;go_step3;go_wp2;go_step3;go_wp2;refine İ ?_ (arP gy h f);rintro(_|(_|_)|_|_|_|_) a v hq;all_goals first|exact absurd hq id|skip
 let⟨k,d,i,j,l⟩:=hq;obtain⟨e,rfl⟩:=j;unfold pW;go_wp2;(try rw[Exit.noGoto_ret]);go_ret;exact⟨k,d,i,U,(fi l).out⟩
end
def mj(B:ByteArray):Int×Bool×List PR:=
 if B.size=0 then(0,Î,[])else(((mH B).1:Int),decide ((mH B).1=B.size)&&(decide ((mH B).2.C=[])||decide ((mH B).2.C=[66])),(mH B).2.d.C)
def ig(B:ByteArray):Int×Int×List PR:=
 if 1200<B.size then(1,0,[])else if(mj B).2.1=Î then(0,0,(mj B).2.2)else(2,(mj B).1,[])
def CR(m:Nat)(v:Ñ)(b:List PR)(w:Í):Prop:=jG m w/\∃a,w.ownsRow m 140 1 v a.length (nO a)/\pU w.heap.size a b w
section
variable{g:Gh}{s:ByteArray}{a:PS}
def CR.pj(w:Í):CR w.heap.size (Ç Á 0 0) [] w:=⟨jG.I w,[],⟨U,È ⟨U,U⟩⟩,pU.N _ _⟩
def gV.iR(h:gV m b g O s a w)(c:a.d.r=Ë->a.d.S=[])(n:Nat):CR m g.N a.d.C (w.drewN n):= ⟨h.a.iW n,g.C a.d,im h.C.C (fg.iW fl w n) λ_ _=>id,(h.C.abH c).C (fg.iW fl w n) λ_ _ x=>x.elim⟩
def g0(m:Nat):Gh:={a:=[],q:=0,t:=0,B:=m,tb:=[],N:=Ç Á 0 0,r:=Ç Á 0 0,b:=Á}
def arR(w:Í):gV w.heap.size w.heap.size (g0 w.heap.size) Á ⟨#[82]⟩ nN (w.alloc<|Û #[Ä ⟨#[82]⟩,Ç Á 0 0,Ã Á,Ã Á,Ã Á,Ã Á,Å É 0,Å É 0] 145):= ⟨æ _,(jG.I w).gL _ _ A A (λv e=>by simp at e;rcases e with rfl|rfl|rfl|rfl<;>trivial),fp.N w [Ä ⟨#[82]⟩,Ç Á 0 0,Ã Á,Ã Á,Ã Á,Ã Á,Å É 0,Å É 0] 145,A,A,⟨⟨U,È ⟨U,U⟩⟩,pU.N _ _,(λe=>by cases e),λ_=>rfl⟩,(λq=>by cases q),Ï rfl⟩
def arS(s:ByteArray):j2 s=[66]↔s.toList=[66]:=by
 unfold j2;rw[ByteArray.toList_eq];constructor
 .intro h;match hl:s.data.toList with
  |[]=>rw[hl]at h;simp at h
  |[x]=>
   rw[hl]at h;simp only[ŉ,Ő,List.cons.injEq,and_true]at h;have:x=66:=UInt8.toNat_inj.1 (by have:x.toNat=66:=Z;rw[this];rfl);rw[this]
  |x::y::r=>rw[hl]at h;simp at h
 .intro h;rw[h];rfl
def UI(a:¬B.size=0):(mj B).1=((mH B).1:Int):=by rw[mj,if_neg a]
def abY(a:¬B.size=0):(mj B).2.2=(mH B).2.d.C:=by rw[mj,if_neg a]
def arT(a:¬B.size=0)(h:¬(mH B).1=B.size):(mj B).2.1=Ë:=by rw[mj,if_neg a];simp[h]
def abZ(a:¬B.size=0)(h:(mH B).1=B.size){x:Bool}(b:x=(decide ((mH B).2.C=[])||decide ((mH B).2.C=[66]))):(mj B).2.1=x:=by rw[mj,if_neg a,b];simp[h]
def arU(B:ByteArray):(mH B).2.d.r=Ë->(mH B).2.d.S=[]:=λe=>((UD B.size 0 nN (UC B)<|Ù _).1.d.N e).1
theorem ab0(r:B.size<=1200): Ò À 28 #[Ä B] w λe u=>
  fg fl w u/\∃v,e=Æ (ë #[v,Å É (mj B).1,õ (mj B).2.1])/\((mj B).2.1=Î->CR w.heap.size v (mj B).2.2 u):=by
 by_cases a:B.size=0
 .have f:=UE B a;have n:=fi (show mj B=(0,Î,[])from if_pos a);go_enter Ω,Μ;go_wp2;apply þ (v:=ë #[Ç Á 0 0,Å É 0,õ Î]) (by simp[Ń,Ģ,go_sem]) U;exact⟨fg.gd _ _,_,by rw[n.out],λ_=>by rw[n.out];exact CR.pj w⟩
 .have f:=tH B a;have b:=fi a;go_enter Ω,Μ;go_wp2_with (go_at_call 45;refine(arQ (arR w) r).mono ?_;rintro e t ⟨k,d,i,rfl,⟨n,g,O,s,c⟩,j,y⟩);have m:fg fl w t:=((fg.gL (λi=>w.heap.size<=i) w _ _).fj n).S λi E x=>by omega
  have F:=c.r.r 0 _ U;have G:=c.r.r 1 _ U;by_cases o:k=B.size
  .subst o;have z:=y U;subst z;have p:=fi c.I;have q:=fi λn=>c.iR (arU B) n;have n:=fi j;have d:=fi m;have C:((B.size:Int)==(B.size:Int))=Î:=ft
   by_cases a:s.size=0
   .have f:=UE s a;have l:=fi (abZ b.out n.out (x:=Î)<|by rw[<-p.out,abv s a];rfl);go_quiet (fail);go_wp2;apply þ (v:=ë #[g.N,Å É B.size,õ Î]) (by simp[Ń,Ģ,go_sem]) U;exact⟨d.out.fj<|fg.iW _ _ _,_,by rw[UI b.out,n.out,l.out],λ_=>by rw[abY b.out];exact q.out _⟩
   .have f:=tH s a;have l:=fi (abZ b.out n.out (x:=(s.toList==[66])) (by
     rw[<-p.out];have D:¬j2 s=[]:=λe=>by have:=Un s;grind
     rw[decide_eq_false D,Bool.false_or,Ę,beq_iff_eq,decide_eq_true_iff,arS]))
    go_quiet (fail)
    go_wp2;apply þ (v:=ë #[g.N,Å É B.size,õ<|s.toList==[66]]) (by simp[Ń,Ģ,go_sem]) U;exact⟨d.out.fj<|fg.iW _ _ _,_,by rw[UI b.out,n.out,l.out],λ_=>by rw[abY b.out];exact q.out _⟩
  .have C:((k:Int)==(B.size:Int))=Ë:=by rw[beq_eq_false_iff_ne];omega
   have n:=fi (Ê j<|arT b.out<|by rwa[j]);have d:=fi m;go_quiet (fail);go_wp2;apply þ (v:=ë #[g.N,Å É k,õ Ë]) (by simp[Ń,Ģ,go_sem]) U;exact⟨d.out.fj<|fg.iW _ _ _,_,by rw[UI b.out,n.out.1,n.out.2],λe=>by rw[n.out.2]at e;cases e⟩
def arV(i:B.size<=ī): Ò À 19 #[Ä B] w λe u=>
  fg fl w u/\∃v,e=Æ (ë #[v,Å É (ig B).1,Å É (ig B).2.1])/\((ig B).1=0->CR w.heap.size v (ig B).2.2 u)/\((ig B).1≠0->v=Ç Á 0 0):=by
 unfold ī at i;by_cases b:1200<B.size
 .have a:=fi (show ig B=(1,0,[]) by rw[ig,if_pos b]);go_enter ļ,Ř;go_wp2;apply þ (v:=ë #[Ç Á 0 0,Å É 1,Å É 0]) (by simp[Ń,Ľ,go_sem]) U;exact⟨fg.gd _ _,_,by rw[a.out],(λe=>by rw[a.out]at e;cases e),λ_=>rfl⟩
 .have f:B.size<=1200:=Z
  cases c:(mj B).2.1 with
  |true=>
   have a:=fi (show ig B=(0,0,(mj B).2.2) by rw[ig,if_neg b,if_pos c]);go_enter ļ,Ř;go_wp2_with (go_at_call 28;refine(ab0 f).mono ?_;rintro e j ⟨d,v,rfl,g⟩);apply þ (v:=ë #[v,Å É 0,Å É 0]) (by simp[Ń,Ľ,go_sem]) U;exact⟨d,_,by rw[a.out],(λ_=>by rw[a.out];exact g c),λe=>by rw[a.out]at e;exact absurd U e⟩
  |false=>
   have a:=fi (show ig B=(2,(mj B).1,[]) by rw[ig,if_neg b,if_neg (by rw[c];exact Bool.false_ne_true)]);go_enter ļ,Ř;go_wp2_with (go_at_call 28;refine(ab0 f).mono ?_;rintro e j ⟨d,v,rfl,g⟩);apply þ (v:=ë #[Ç Á 0 0,Å É 2,Å É (mj B).1]) (by simp[Ń,Ľ,go_sem]) U;exact⟨d,_,by rw[a.out],(λe=>by rw[a.out]at e;cases e),λ_=>rfl⟩
end
end Go.Proofs.Y.lL
namespace Go.Proofs.Y.jF
open Go Go.Conc Go.Proofs Go.RowKit Go.Proofs.Y.Lift Go.Proofs.Y.fV Go.Proofs.Y.fB Go.Proofs.Y.lL
structure IX(a:Nat)(t:PT)(w:Í):Prop where
 r:∃cs fz,w.heap[a]?=Â (Û cs 193 fz)
 c:∀i,i<5->w.cell? ⟨a,i,Á⟩=Â (Å É<|t.c.getD i 0)
 p:w.cell? ⟨a,5,Á⟩=Â (Ä t.p)
structure yw(r:Nat)(p:PR)(w:Í):Prop where
 c:∀i,i<8->w.cell? ⟨r,i,Á⟩=Â (Å É<|p.c.getD i 0)
 b:∃bp n cp,w.cell? ⟨r,8,Á⟩=Â (Ç bp n cp)/\n=p.r.length/\∀(j:Nat) (t:PT),p.r[j]?=Â t->∃tb a,bp=Â ⟨tb,0,Á⟩/\w.cell? ⟨tb,j,Á⟩=Â (Ã<|Â ⟨a,0,Á⟩)/\IX a t w
structure RQ(rs:List PR)(v:Ñ)(U:Nat->Prop)(w:Í):Prop where
 C:kQ nB U w
 I:fu (lA U nB) v v
 M:∃bp cp,v=Ç bp rs.length cp/\∀(j:Nat) (p:PR),rs[j]?=Â p->∃sb r,bp=Â ⟨sb,0,Á⟩/\w.cell? ⟨sb,j,Á⟩=Â (Ã<|Â ⟨r,0,Á⟩)/\yw r p w
section
variable{f:Nat->Prop}{rs:List PR}{Y:fy}
theorem arW(h:jm Y X u w){t:PT}(d:Y i n)(k:IX i t u):IX n t w:=by refine⟨?_,λb f=>(Ap h).r d<|k.c b f,(Ap h).C d k.p⟩;let⟨c,g,e,j,l,m,o,_⟩:=h.r i n d;let⟨r,s,q⟩:=k.r;grind
theorem arX(h:jm Y X u w){r:Nat}{p:PR}(e:Y r i)(k:yw r p u):yw i p w:=by refine⟨λd f=>(Ap h).r e<|k.c d f,?_⟩;let⟨G,n,g,l,m,o⟩:=k.b;let⟨x,q,s⟩:=Ap h r i 8 _ e l;obtain⟨v,rfl,y⟩:=MS s;refine⟨v,n,g,q,m,λj t z=> ?_⟩;let⟨tb,a,B,C,H⟩:=o j t z;let⟨I,J,D⟩:=y _ B;obtain⟨E,rfl,F⟩:=Am D;let⟨K,L,M⟩:=Ap h tb E j _ F C;grind [MR,Am,arW]
theorem arY(h:jm Y X u w)(b:fu Y v x)(a:RQ rs v f u):RQ rs x (λj=>∃i,f i/\Y i j) w:=by refine⟨Ui h a.C,MU b a.I,?_⟩;obtain⟨s,i,rfl,c⟩:=a.M;obtain⟨d,rfl,e⟩:=MS b;refine⟨d,i,U,λj p g=> ?_⟩;let⟨k,r,l,m,t⟩:=c j p g;let⟨y,z,n⟩:=e _ l;obtain⟨o,rfl,q⟩:=Am n;let⟨B,C,D⟩:=Ap h k o j _ q m;grind [MR,Am,arX]
def Au(k:W.heap[b]?=w.heap[b]?)(h:w.cell? ⟨b,i,Á⟩=Â z):W.cell? ⟨b,i,Á⟩=Â z:=by simp only[ß,k];exact h
def arZ(l:kQ nB X w)(k:∀b,X b->W.heap[b]?=w.heap[b]?){r:Nat}{p:PR}(d:X r)(h:yw r p w):yw r p W:=by
 refine⟨λi e=>Au (k r d)<|h.c i e,?_⟩;let⟨u,n,v,m,x,y⟩:=h.b;refine⟨u,n,v,Au (k r d) m,x,λj t z=> ?_⟩;let⟨tb,a,o,q,f⟩:=y j t z;have s:X tb:=by have:=l.r d m;rw[o]at this;exact CJ this
 have g:=CI<|l.r s q;exact⟨tb,a,o,Au (k tb s) q,⟨by rw[k a g];exact f.r,λi e=>Au (k a g)<|f.c i e,Au (k a g) f.p⟩⟩
def RQ.r(h:RQ rs v f w)(k:∀b,f b->W.heap[b]?=w.heap[b]?):RQ rs v f W:=by
 refine⟨h.C.C k,h.I,?_⟩;obtain⟨g,i,rfl,l⟩:=h.M;refine⟨g,i,U,λj p m=> ?_⟩;let⟨a,r,c,d,n⟩:=l j p m;have e:f a:=by have:=h.I;rw[c]at this;exact CJ this
 exact⟨a,r,c,Au (k a e) d,arZ h.C k (CI<|h.C.r e d) n⟩
def ab1{v:Ñ}(h:nh m i v):fu (lA (λd=>m<=d/\d<i) nB) v v:=by
 cases v with
 |int k n=>exact .iH k n
 |bool b=>exact .mJ b
 |string i=>exact .k9 i
 |pointer a=>cases a with
  |none=>exact .lW
  |some a=>exact fu.jV (Y:=lA (λd=>m<=d/\d<i) nB) ⟨⟨U,h⟩,U,U⟩
 |slice a n c=>cases a with
  |none=>exact .ou n c
  |some a=>exact fu.kS (Y:=lA (λd=>m<=d/\d<i) nB) ⟨⟨U,h⟩,U,U⟩ n c
 |_=>exact absurd h<|by simp[nh]
def ar0{v:Ñ}(h:nh m i v):yF v=Ë:=by
 cases v with
 |int k n=>cases k<;>first|rfl|exact absurd h<|by simp[nh]
 |_=>rfl
def ar1(h:jG m w):kQ nB (λi=>m<=i/\i<w.heap.size) w:=λb i=>by let⟨c,e,f,g,j,k,l,n,d⟩:=h b _ i.1<|å i.2;exact⟨c,e,f,by rw[å i.2,g],j,pP λv a=>ab1<|d v a,k,Ao λv a=>ar0<|d v a,l,n⟩
theorem LY{base:Nat}(h:w.ownsRow base e 1 v jJ.length (nO jJ)):∃b f,v=Ç b jJ.length f/\∀(j r:Nat),jJ[j]?=Â r->∃a,b=Â ⟨a,0,Á⟩/\base<=a/\w.cell? ⟨a,j,Á⟩=Â (Ã<|Â ⟨r,0,Á⟩):=by
 obtain⟨m,⟨n,o⟩|⟨g,p,q,rfl,i,k,s,t,u,l⟩⟩:=h
 .grind
 .refine⟨_,_,U,λj r c=>⟨g,U,i,?_⟩⟩;have x:=(Õ.1 c).1;have d:(nO jJ)[j]?=Â (Ã<|Â ⟨r,0,Á⟩):=by simp[nO,c]
  rw[<-l,List.getElem?_take_of_lt Z]at d;simp only[ß,k,ö,ì,if_false];simpa using d
def ab2(h:fp n (oJ zQ++[z]) T w)(a:i<zQ.length):w.cell? ⟨n,i,Á⟩=Â (Å É<|zQ.getD i 0):=h.r i _<|Ut a z
def ab3(h:fp i (oJ zQ++[z]) T w)(a:zQ.length=n):w.cell? ⟨i,n,Á⟩=Â z:=h.r n _<|by rw[<-a];exact CP zQ z
def ar2{r:PR}(h:wE i n r w):yw n r w:=by
 let⟨x,tb,e,l,y,b⟩:=h.I;refine⟨λa c=>ab2 e (by rwa[h.C]),?_⟩;obtain⟨m,o,rfl,p⟩:=LY l;refine⟨m,_,o,ab3 e h.C,b.r,λj t f=> ?_⟩;have g:j<tb.length:=by rw[b.r];exact(Õ.1 f).1
 let⟨s,u,z,v⟩:=p j tb[j]<|Ó g;let⟨_,_,k,d⟩:=b.I j tb[j] t (Ó g) f;exact⟨s,tb[j],u,v,⟨_,_,d⟩,λa c=>ab2 d (by rwa[k]),ab3 d k⟩
def ar3(h:CR m v rs w):RQ rs v (λi=>m<=i/\i<w.heap.size) w:=by
 let⟨f,i,b,c⟩:=h;obtain⟨d,k,rfl,l⟩:=LY b;refine⟨ar1 f,?_,d,k,by rw[c.I],λj p e=> ?_⟩
 .cases d with
  |none=>exact .ou _ _
  |some a=>
   have:=b.lt a.block (by rcases b.2 with⟨q,_⟩|⟨g,n,o,q,_⟩<;>(cases q;try rfl));exact ab1 this
 .have a:j<i.length:=by rw[c.I];exact(Õ.1 e).1
  let⟨g,q,o,n⟩:=l j i[j]<|Ó a;exact⟨g,i[j],q,n,ar2<|c.M j i[j] p (Ó a) e⟩
end
def ab4(B:ByteArray)(z:Ñ)(u:Í):Prop:=∃v,z=ë #[v,Å É (ig B).1,Å É (ig B).2.1]/\((ig B).1=0->∃a,RQ (ig B).2.2 v a u)
def ar4(B:ByteArray):xe (ab4 B):=λv u T D h=>by let⟨x,a,b⟩:=h;refine⟨x,a,λe=> ?_⟩;let⟨U,c⟩:=b e;exact⟨U,c.r λ_ _=>rfl⟩
def ar5{l:fh}(f:gF l)(s:¬l.q)(t:nB<=l.w.heap.size)(u:B.size<=ī)(m:Bool)(h:Ē)(k:List Ē): fB.fq À m (λa n=>iV l a/\a.d=l.d/\∃v,n=G (h.finish<|ë #[v,Å É (ig B).1,Å É (ig B).2.1]) k/\((ig B).1=0->∃V,RQ (ig B).2.2 v V a.w/\∀b,V b->a.O b/\l.w.heap.size<=b)) l (G (è À 19 #[Ä B] ă)<|h::k):=by
 let⟨X,c,C,V⟩:=zR 19 gh;have D:∀T,Ò À 19 #[Ä B] (World.tp (lz (λj=>False/\¬(mB l).O j) l.w) T 0) fun|Æ v,j=>ab4 B v j/\ko j|_,_=>False:=λT=>by refine(arV u).mono ?_;rintro e p ⟨g,v,rfl,i,o⟩;exact⟨⟨v,U,λe=>⟨_,ar3<|i e⟩⟩,g.gX Fi⟩
 refine((EE yI LQ zR (ar4 B) gh C V (EF f) s (λb q=>q.elim) ⟨λb q=>q.elim,t⟩ (λg q=>by cases q) (pP λv g=>by simp at g;subst g;exact .k9 B) D m h k).mB f).fT ?_;rintro a n ⟨x',⟨Y,j,v,v',_,E,F,⟨v0,rfl,o⟩,H,I,_,J⟩,rfl,K,L,_,_⟩;cases F with
 |@nR _ cs'' hs mN=>
  let⟨M⟩:=cs'';match M,hs with
  |[x,y,z],_=>
   have g:=mN 0 ft ft;have p:=mN 1 ft ft;have r:=mN 2 ft ft;simp at g p r;cases p;cases r;refine⟨K,J,x,H,λe=> ?_⟩;let⟨U,N⟩:=o e;refine⟨_,arY E g (N.r λ_ _=>rfl),λb V=> ?_⟩;let⟨i,_,P⟩:=V;let⟨Q,S⟩:=I i b P;have W:l.w.heap.size<=b:=S.elim (λq=>q.elim) λq=>q.elim (λq=>q.elim) id;refine⟨È (Q.resolve_right λq=> ?_),W⟩;rw[L]at q;have:=f.fA b q;omega
end Go.Proofs.Y.jF
namespace Go.Proofs.Y.fV
open Go Go.Proofs Go.RowKit Go.Proofs.Y.Lift
def CS:List Ñ:=iA (kl 8)++[Ç Á 0 0,Å É 0,Ç Á 0 0]
def ar6(w:Í):Ò À 27 #[] w λe a=>∃c B,e=Æ (Ç (Â ⟨c,0,Á⟩) 1 1)/\fp B CS 139 a/\fp c [Ã<|Â ⟨B,0,Á⟩] 128 a/\fg fl w a:=by
 have d:(iA<|kl 8).length=144:=sf _;have j:(iA (kl 8)++[Ç Á 0 0]).length=145:=by rw[Ø,d];rfl
 have f:=fi<|Ê d j;unfold CS;have k:=fi λW=>aof W;generalize kl 8=s at*;go_enter Tryz.func27,Tryz.ntmps27;go_wp2_with (first
  |(go_at_call 44;refine(k.out _).mono ?_;rintro e W ⟨rfl,b⟩;have l:=fi b;clear b)
  |(with_reducible refine Ď U (Â 2) U _ _ (TB U U f.out.1) ?_)
  |(with_reducible refine Ď U (Â 3) U _ _ (aow U U f.out.2) ?_)
  |(with_reducible refine Ď U (Â 4) U _ _ (aag U U) ?_))
 have g:=fp.N (W.alloc<|Û (iA s++[Ç Á 0 0,Å É 0,Ç Á 0 0]).toArray 139) [Ã<|Â ⟨W.heap.size,0,Á⟩] 128;have i:=fg.gL fl (W.alloc<|Û (iA s++[Ç Á 0 0,Å É 0,Ç Á 0 0]).toArray 139) #[Ã<|Â ⟨W.heap.size,0,Á⟩] 128;have m:(W.alloc<|Û (iA s++[Ç Á 0 0,Å É 0,Ç Á 0 0]).toArray 139).heap.size=W.heap.size+1:=ft
 rw[m]at g;have b:=fi<|Ê ((fp.N W (iA s++[Ç Á 0 0,Å É 0,Ç Á 0 0]) 139).I i id)<|Ê g<|(l.out.fj<|fg.gL fl W (iA s++[Ç Á 0 0,Å É 0,Ç Á 0 0]).toArray 139).fj i;go_ret;exact⟨W.heap.size+1,W.heap.size,U,b.out.1,b.out.2.1,b.out.2.2⟩
def ar7(n:Int)(k:1<=n)(l:n<=8)(w:Í):Ò À 17 #[Å É n] w λe b=>∃g a B,e=Æ (ë #[Ã<|Â ⟨g,0,Á⟩,Å É 0])/\fp g [Å É n,Ç (Â ⟨a,0,Á⟩) 1 1] 59 b/\fp B CS 139 b/\fp a [Ã<|Â ⟨B,0,Á⟩] 128 b/\fg fl w b:=by go_enter ε,Tryz.ntmps17;go_wp2_with (go_at_call 27;refine(ar6 _).mono ?_;rintro e c ⟨a,B,rfl,f,i,j⟩;have d:=fi<|Ê f<|Ê i j;clear f i j);go_ret2;have f:=fg.gL fl c #[Å É n,Ç (Â ⟨a,0,Á⟩) 1 1] 59;exact⟨c.heap.size,a,B,U,fp.N c [Å É n,Ç (Â ⟨a,0,Á⟩) 1 1] 59,d.out.1.I f id,d.out.2.1.I f id,d.out.2.2.fj f⟩
end Go.Proofs.Y.fV
namespace Go.Proofs.Y.jF
open Go Go.Conc Go.Proofs Go.RowKit Go.Proofs.Y.Lift Go.Proofs.Y.fV Go.Proofs.Y.fB Go.Proofs.Y.lL
section
variable{Y:fy}{a:Nat->Prop}
def ab5:∀v∈CS,(∃k n,v=Å k n/\k≠Ū)\/(∃p,v=Ä p)\/v=Ç Á 0 0:=λv k=>by
 unfold CS at k;rcases â.1 k with q|q
 .rcases Uh _ v q with⟨n,rfl⟩|⟨p,rfl⟩
  .exact È ⟨_,_,U,A⟩
  .exact Ï<|È ⟨p,U⟩
 .simp at q;rcases q with rfl|rfl|rfl
  .exact Ï<|Ï U
  .exact È ⟨_,_,U,A⟩
  .exact Ï<|Ï U
def ab6:ma [fV.ku]:=⟨A,A,λv b=>by simp at b;subst b;exact⟨⟨(λp a=>by cases a),(λp a=>by cases a),Ù _,Ù _⟩,aaG,Ť _,show(0:Int)<1 by decide⟩⟩
def ar8(d:fV.fp n CS 139 w)(f:fV.fp i [Ã<|Â ⟨n,0,Á⟩] 128 w):RD [fV.ku] (Ç (Â ⟨i,0,Á⟩) 1 1) (λk=>k=i\/k=n) w:=by
 refine⟨[(n,fV.ku)],U,ab6,⟨_,1,1,U,æ _,⟨U,λj b v e=> ?_⟩⟩,?_,fu.kS (Y:=lA (λk=>k=i\/k=n) nB) ⟨⟨U,È U⟩,U,U⟩ 1 1⟩
 .cases j with
  |zero=>
   cases e;exact⟨_,0,U,f.r 0 _ U,(aox aaG<|by rwa[ő])⟩
  |succ j=>simp at e
 .rintro b (rfl|rfl)
  .refine⟨_,_,_,f,ft,pP λv c=> ?_,ft,Ao λv c=> ?_,A,A⟩
   .simp at c;subst c;exact fu.jV (Y:=lA (λk=>k=b\/k=n) nB) ⟨⟨U,Ï U⟩,U,U⟩
   .simp at c;subst c;rfl
  .refine⟨_,_,_,d,ft,pP λv c=> ?_,by simp[CS],Ao λv c=> ?_,A,A⟩
   .rcases ab5 v (by simpa using c)with⟨k,a,rfl,_⟩|⟨p,rfl⟩|rfl
    .exact .iH k a
    .exact .k9 p
    .exact .ou 0 0
   .rcases ab5 v (by simpa using c)with⟨k,a,rfl,g⟩|⟨p,rfl⟩|rfl
    .cases k<;>first|rfl|exact absurd U g
    .rfl
    .rfl
def FA(b:Nat)(n:Int)(c:Ñ)(w:Í):Prop:=∃a,w.heap[b]?=Â (Û #[Å É n,c] 59 a)/\a=(0,0)
def FA.r(h:FA i c v w)(k:W.heap[i]?=w.heap[i]?):FA i c v W:=by let⟨a,b,d⟩:=h;exact⟨a,k.trans b,d⟩
def ar9(h:jm Y a u w)(g:∀b,¬a b)(q:Y i j)(k:fV.fp i [Å É c,v] 59 u):∃l,fu Y v l/\FA j c l w:=by
 let⟨d,r,e,D,s,m,t,z,_,B,_⟩:=h.r i j q;unfold fV.fp at k;rw[k]at m;cases m;have f:=z.N<|g j;let⟨C⟩:=r;match C,f.r with
 |[x,y],_=>
  have o:=f.C 0 ft ft;have p:=f.C 1 ft ft;simp at o p;cases o;exact⟨y,p,s,t,(B<|g j).symm⟩
end
def ab7(n:Int)(z:Ñ)(u:Í):Prop:=∃a b B,z=ë #[Ã<|Â ⟨a,0,Á⟩,Å É 0]/\fV.fp a [Å É n,Ç (Â ⟨b,0,Á⟩) 1 1] 59 u/\RD [fV.ku] (Ç (Â ⟨b,0,Á⟩) 1 1) (λi=>i=b\/i=B) u/\a≠b/\a≠B
def asa(n:Int):xe (ab7 n):=λv u T D h=>by let⟨b,c,B,d,e,a⟩:=h;exact⟨b,c,B,d,e,a.1.r λ_ _=>rfl,a.2⟩
def asb{l:fh}(p:gF l)(K:¬l.q)(L:nB<=l.w.heap.size){n:Int}(M:1<=n)(N:n<=8)(C:Bool)(r:Ē)(s:List Ē): fB.fq À C (λf D=>iV l f/\f.d=l.d/\∃a e,D=G (r.finish<|ë #[Ã<|Â ⟨a,0,Á⟩,Å É 0]) s/\FA a n e f.w/\f.O a/\l.w.heap.size<=a/\∃V,RD [fV.ku] e V f.w/\¬V a/\∀b,V b->f.O b/\l.w.heap.size<=b) l (G (è À 17 #[Å É n] ă)<|r::s):=by
 let⟨fn,c,P,t⟩:=zR 17 gh;have Q:∀T,Ò À 17 #[Å É n] (World.tp (lz (λj=>False/\¬(mB l).O j) l.w) T 0) fun|Æ v,h=>ab7 n v h/\ko h|_,_=>False:=λT=>by refine(ar7 n M N _).mono ?_;rintro e z ⟨a,k,B,rfl,V,m,o,g⟩;exact⟨⟨a,k,B,U,V,ar8 m o,fV.fp.S V o A,fV.fp.S V m A⟩,g.gX Fi⟩
 refine((EE yI LQ zR (asa n) gh P t (EF p) K (λb q=>q.elim) ⟨λb q=>q.elim,L⟩ (λg q=>by cases q) (pP λv e=>by simp at e;subst e;exact .iH _ _) Q C r s).mB p).fT ?_;rintro f D ⟨u,⟨Y,h,v,v',_,g,S,⟨a,k,B,rfl,V,m,o,W⟩,X,q7,_,q6⟩,rfl,ha,hR,_,_⟩;have E:∀i j,Y i j->(qP l u).O j/\l.w.heap.size<=j:=λi j e=>by let⟨z,F⟩:=q7 i j e;have H:l.w.heap.size<=j:=F.elim (λq=>q.elim) λq=>q.elim (λq=>q.elim) id;refine⟨È (z.resolve_right λq=> ?_),H⟩;rw[hR]at q;have:=p.fA j q;omega
 cases S with
 |@nR _ cs'' hs mN=>
  let⟨ls⟩:=cs'';match ls,hs with
  |[x,y],_=>
   have F:=mN 0 ft ft;have H:=mN 1 ft ft;simp at F H;cases H;obtain⟨a2,rfl,m3⟩:=MR F;obtain⟨I,rfl,z⟩:=Am m3;have h2':RD [fV.ku] (Ç (Â ⟨k,0,Á⟩) 1 1) (λi=>i=k\/i=B) {h with tape:=u.w.tape,drawn:=u.w.drawn}:=m.r λ_ _=>rfl;let⟨tu,J,e2⟩:=ar9 g (λj q=>q.1) z V;let⟨vs,k1,k2,k3,k4,k5⟩:=h2';let⟨vs',n1,n2⟩:=IH (Ap g) J k3;let⟨p1,p2⟩:=E a I z;refine⟨ha,q6,I,tu,X,e2,p1,p2,_,⟨vs',n1.trans k1,k2,n2,Ui g k4,MU J k5⟩,?_,λb t=> ?_⟩
   .rintro⟨i,hi,e⟩;have:=g.C.2.1 _ _ _ z e;subst this;exact hi.elim o W
   .let⟨i,_,e⟩:=t;exact E i b e
end Go.Proofs.Y.jF
namespace Go.Proofs.Y.jF
open Go Go.Conc Go.Proofs Go.RowKit Go.Proofs.Y.Lift Go.Proofs.Y.fV Go.Proofs.Y.fB Go.Proofs.Y.lL
structure vj(an:Nat)(xs:List ByteArray)(w:Í):Prop where
 r:∀(p:Nat) (x:ByteArray),xs[p]?=Â x->w.cell? ⟨an,p,Á⟩=Â (Ä x)
 C:w.cell? ⟨an,xs.length,Á⟩=Á
section
variable{an:Nat}{xs:List ByteArray}
theorem vj.rF(h:vj an xs w)(j:0<xs.length):∃c e d,w.heap[an]?=Â (Û c e d)/\c.size=xs.length/\∀v∈c.toList,∃x,v=Ä x:=by
 have i:∀p,p<xs.length->w.cell? ⟨an,p,Á⟩=Â (Ä xs[p]!):=λp a=>h.r p _ (by simp[a]);have b:=i 0 j;have f:=h.C;simp only[ß]at b f;cases g:w.heap[an]? with
 |none=>rw[g]at b;cases b
 |some o=>
  cases o<;>rw[g]at b f<;>simp only[ö,ì,if_false]at b f<;>first|cases b|skip
  rename_i c e d;have k:c.size<=xs.length:=by grind
  have l:=λp a=>by have:=i p a;simp only[ß,g,ö,ì,if_false]at this;exact this
  have m:xs.length<=c.size:=by grind
  refine⟨c,e,d,U,Nat.le_antisymm k m,λv n=> ?_⟩;let⟨p,a⟩:=ĕ n;have q:p<c.size:=by have:=(Õ.1 a).1;simpa using this
  have:=l p Z;rw[ķ]at a;rw[this]at a;cases a;exact⟨_,U⟩
end
def asc{l:fh}(o:gF l)(F:¬l.q)(H:nB<=l.w.heap.size)(h:vj i vX l.w)(I:0<vX.length)(J:l.M i)(p:lG i=Ë)(f:lb l.w i=Â (0,0))(hn:vX.length<=1000)(K:B.size=1)(L:iQ vX+vX.length<=140737488355328)(r:Bool)(k:Ē)(m:List Ē): fB.fq À r (λn s=>iV l n/\n.d=l.d/\s=G (k.finish<|Ä<|jl B vX) m) l (G (è À 21 #[Ç (Â ⟨i,0,Á⟩) vX.length vX.length,Ä B] ă)<|k::m):=by
 let⟨fn,c,N,P⟩:=zR 21 gh;let⟨t,e,Q,y,b2,z⟩:=h.rF I;have C:(λj=>j=i/\¬(mB l).O j)=λj=>j=i:=by funext j;exact propext ⟨λq=>q.1,λq=>⟨q,id⟩⟩
 have S:∀T,Ò À 21 #[Ç (Â ⟨i,0,Á⟩) vX.length vX.length,Ä B] (World.tp (lz (λj=>j=i) l.w) T 0) fun|Æ v,E=>v=Ä (jl B vX)/\ko E|_,_=>False:=λT=>by
  refine(Uc U Z (æ _) K (λj v a=> ?_) L).mono ?_
  .unfold kP at a;rw[Ī]at a;obtain⟨x,b,rfl⟩:=ò.1 a;exact⟨i,0,U,by rw[œ];exact pR (È p)<|h.r j x b⟩
  .rintro e g ⟨rfl,b⟩;exact⟨U,b.gX Fi⟩
 have V:∀v∈t.toList,fu (qm (λj=>j=i) À.globals.size) v v:=λv a=>by obtain⟨x,rfl⟩:=z v a;exact .k9 x
 have X:fX (qm (λj=>j=i) À.globals.size) #[Ç (Â ⟨i,0,Á⟩) vX.length vX.length,Ä B] #[Ç (Â ⟨i,0,Á⟩) vX.length vX.length,Ä B]:=pP λv a=>by
  have b:v=Ç (Â ⟨i,0,Á⟩) vX.length vX.length\/v=Ä B:=by simpa using a
  rcases b with rfl|rfl
  .exact fu.kS (Y:=qm (λj=>j=i) À.globals.size) ⟨⟨U,U⟩,U,U⟩ _ _
  .exact .k9 B
 have W:=EE yI LQ zR (λv u T D h=>h) gh N P (EF o) F (λb q=>Ï<|by rwa[q]) (by rw[C];refine⟨λb q=> ?_,H⟩;subst q;exact⟨t,e,Q,y,(by unfold lb at f;rw[y]at f;cases f;exact Ù _),pP V,λ_=>⟨Z,(λq=>by rw[p]at q;cases q),λ_=>Ao λv a=>by obtain⟨x,rfl⟩:=z v a;rfl⟩⟩) (λg q=>by cases q) X (by rwa[C]) r k m;refine(W.mB o).fT ?_;rintro n s ⟨D,⟨Y,E,v,v',_,_,b,rfl,g,_,_,u⟩,rfl,x,_,_,_⟩;cases b;exact⟨x,u,g⟩
end Go.Proofs.Y.jF
namespace Go.Proofs.Y.fB
open Go Go.Conc Go.Proofs.Y.Lift
open Go.ConcN (sumTo sumTo_congr)
def UJ(P:ω)(a:Ñ->Í->Prop):Jd:=λl g=>g.status=.running/\∃v,(∀w,stepG P Î g w=.ended (.done v) w)/\a v l.w
section
variable{Y:Nat->Prop}{e:Nat->fh}
def kN.nh{J:Jd}{T:gD}(c:kN P Y zX i J T D e E w qJ){sl:Option (Nat×Nat)}(k:vQ v u):Ν P vQ (Į E w sl) (.done v) u qJ:=by
 have C:=c.r.r;have f:∀a g,E[a]?=Â g->a≠0->QuitsD P (D a) (Deaf qJ a) g:=λa g b d=>by
  let⟨g0,j,h,_,_⟩:=c.r.C a g b;obtain rfl:g=g0:=by cases h;rfl
  simp only[d,if_false]at j;rw[C.f a<|(á.1 b).1];exact j _<|fL.gd _ _
 refine⟨v,U,k,C.l,c.N,⟨λg l=> ?_,U⟩,λa g b d=>⟨D a,(f a g b d).hears _⟩⟩;let⟨j,h⟩:=ĕ l;rw[List.getElem?_drop]at h;exact⟨_,(f (1+j) g (by rwa[<-ķ]) Z).leaves⟩
theorem ase{J:Jd}{T:gD}{l:fh}(u:l.w=W)(v:l.d=0)(m:¬l.q)(n:∀b,¬l.I b)(r:∀a,¬l.r a)(o:∀a,¬l.N a)(y:∀a,¬l.K a)(z:∀b,l.O b->b<W.heap.size)(B:g.status=.running)(C:lr P Î J T l g):rY P (λ_=>False) 0 J T (λ_=>0) (λ_=>l) #[g] W #[]:=by
 have f:∀(p:Nat) a,touchAt #[] p=Â a->False:=λp a h=>by unfold touchAt Trace.act? at h;simp at h
 refine⟨ft,⟨⟨λi j s D E=> ?_,λi j s D E=> ?_,λi _ b _=>n b,λi _ a _=>o a,λ_ _ _ _=>id,λi _ a e=>e.elim (λq=>absurd q<|r a) λq=>absurd q<|o a,λi _ b F=>F.elim (z b) λq=>absurd q<|n b,λ_ h=>h.elim,λi _=>by rw[u];exact fL.gd _ _,λi _=>⟨λa e p x k=>(f p x k).elim,λa e=>(n _ e).elim,λa e=>(r a e).elim,λa e=>(o a e).elim⟩,λi _=>by rw[v];rfl,λH q=> ?_,λI G=>by simp at G,λp a c h=>(f p a h).elim,λi _ a e=>absurd e<|y a⟩,λi x k=> ?_,λj _=>rfl⟩,λi L s=> ?_,m,λp a h=>(f p a h).elim,λp a x h=>(f p a h).elim,λa _ q m=> ?_,?_⟩
 .grind
 .grind
 .let⟨i,j,_,⟨a,b,e,_⟩,_⟩:=q;simp[Trace.act?]at e
 .have t:i<1:=(á.1 k).1;obtain rfl:i=0:=Z
  obtain rfl:g=x:=by simpa using k
  exact⟨g,C,.gw,È B,È U⟩
 .grind
 .simp[Trace.act?]at m
 .intro i g t;simp[Trace.g?]at t
end
end Go.Proofs.Y.fB
namespace Go.Proofs.Y.jF
open Go Go.Conc Go.Proofs Go.RowKit Go.Proofs.Y.Lift Go.Proofs.Y.fV Go.Proofs.Y.fB Go.Proofs.Y.lL
open Go.ConcN (sumTo)
def Av(f:Ñ->Í->Prop)(c:Array Ċ)(w:Í)(d:Option (Nat×Nat))(t:ż):Prop:=
 ∃N a v b e,ž À (N+1) (Į c w d) t=(.ended (.done v) b,e)/\runN À N (Į c w d)=.next a/\step À a=.ended (.done v) b/\Ν À f a (.done v) b e
section
variable{f:Array Ċ}{w':Í}{sl e:Option (Nat×Nat)}{t:ż}{l:fh}
def Av.fT{a:Ñ->Í->Prop}(h:Av vQ E w sl t)(b:∀v u,vQ v u->a v u):Av a E w sl t:=by let⟨M,c,v,x,d,e,f,g,i⟩:=h;exact⟨M,c,v,x,d,e,f,g,i.mono λv q=>b v x q⟩
def Av.qP{N:Nat}(r:ž À N (Į E w sl) t=(.next<|Į f w' e,qJ))(h:Av vQ f w' e qJ):Av vQ E w sl t:=by
 let⟨M,a,v,x,b,c,d,g,i⟩:=h;refine⟨N+M,a,v,x,b,?_,?_,g,i⟩
 .rwa[Nat.add_assoc,runNT_add,r]
 .rw[<-Ţ À (N+M) (Į E w sl) t,runNT_add,r];rwa[Ţ]
def sF(vQ:Ñ->Í->Prop)(E:Array Ċ)(w:Í)(sl:Option (Nat×Nat))(t:ż):Prop:=Av (λv u=>vQ v u/\u.os=w.os/\u.output=w.output) E w sl t
def sF.r{N:Nat}(r:ž À N (Į E w sl) t=(.next<|Į f w' e,qJ))(a:w'.os=w.os/\w'.output=w.output)(h:sF vQ f w' e qJ):sF vQ E w sl t:= Av.qP r<|h.fT λ_ _ q=>⟨q.1,q.2.1.trans a.1,q.2.2.trans a.2⟩
def kN.asf{Y:Nat->Prop}:∀(s:Nat) (h:Nat->Nat) (j:Nat->fh) (E:Array Ċ) (w:Í) (sl:Option (Nat×Nat)) (t:ż),sumTo E.size h=s->kN À Y zX n (UJ À vQ) .fE h j E w t->sF vQ E w sl t:=by
 intro s
 induction s using Nat.strongRecOn with
 |_ s r=>
  intro h j E w sl t I c;have J:=c.C;obtain⟨g0,a⟩:∃g,E[0]?=Â g:=⟨_,å Z⟩;have o:∀d,UJ À vQ {j 0 with w:=w.at d} g0:=λd=>by
   let⟨u,b,k,_,_⟩:=(c.I d).r.C 0 g0 a;obtain rfl:g0=u:=by cases k;rfl
   exact b (w.at d)<|(c.I d).r.r.r 0 Z
  obtain⟨i,g,d,e,l,x,m⟩:=crowd_pick c.KD ⟨0,g0,a,(o 0).1⟩;by_cases p:i=0
  .subst p;rw[a]at l;obtain rfl:=ag l;let⟨_,v,q,y⟩:=o d;have u:stepT À (Į E w sl)=(.ended (.done v)<|w.at d,#[]):=by
    rw[m,ConcN.runT_crowd_ended a<|q<|w.at d];rfl
   refine⟨0,Į E w sl,v,w.at d,t,?_,U,?_,c.nh ⟨y,U,U⟩⟩
   .simp[ž,u]
   .have:=stepT_fst À (Į E w sl) Î;rw[<-this];rw[u]
  .let⟨q,y,f,u,b,k,K,L,z⟩:=(c.I d).Z4 (sl:=e) l p x;let⟨N,B,v,w',qJ,C,D,F,G⟩:=r (sumTo f.size q) (by rw[k];omega) q y f (w.at d) e (t++u) U z;refine⟨N+1,B,v,w',qJ,by simp only[ž,m,b];exact C,?_,F,G⟩;have:=Ţ À (N+1) (Į E w sl) t;rw[<-this];simp only[ž,m,b];rwa[Ţ]
structure iu(l:fh):Prop where
 r:gF l
 d:l.d=0
 q:¬l.q
 N:∀b,¬l.I b
 I:∀a,¬l.r a
 M:∀a,¬l.N a
 k:∀a,¬l.K a
def iu.C(h:iu l)(r:fL l l.w u):iu {l with w:=u}:= ⟨⟨h.r.c,h.r.Y,h.r.N,λb q=>Ġ (h.r.fA b q) r.r,λa q=>q.elim (λz=>(h.I a z).elim) λz=>(h.M a z).elim,λa q=>(h.k a q).elim⟩,h.d,h.q,h.N,h.I,h.M,h.k⟩
def iM(vQ:Ñ->Í->Prop)(l:fh)(g:Ċ):Prop:=
 iu l->g.status=.running->∀(a:Loc->Prop) (H:Nat) (J:Jd) (c:Nat->Nat) (b:Nat->fh) (E:Array Ċ) (sl:Option (Nat×Nat)) (t:ż),wq a H l->fB.rY À a H J .fE c b E l.w t->(b 0).d=0->E[0]?=Â g->sF vQ E l.w sl t
def asg{a:fh}(h:wq zX i l)(k:qY l a l.w a.w):wq zX i a:= ⟨h.r,λb c x d q=>by
  rcases k.N b c with z|z
  .exact h.fx b z x d q
  .have:=h.r x q;have:=h.C;omega,Ì h.C k.r⟩
def UK{J f:Jd}{e:Nat->fh}(a:iu l)(h:g.status=.running)(j:wq zX i l)(c:fB.rY À zX i J .fE D e E l.w t)(m:(e 0).d=0)(n:E[0]?=Â g)(W:fB.fq À Î f l g):∃T,fB.rY À zX i f T D (fB.vC e l) E l.w t:=by let⟨T,o⟩:=ju W;exact⟨T,kN.Y c m n h U a.d a.q a.N a.I a.M a.k (λb q=>⟨a.r.fA b<|È q,j.fx b q⟩) o⟩
def ab8{Y:Nat->Prop}{J:Jd}{a:Nat->fh}(c:kN À Y zX i J .fE D a E w t):∃g,E[0]?=Â g/\J {a 0 with w:=w} g:=by
 obtain⟨g0,b⟩:∃g,E[0]?=Â g:=⟨_,å c.C⟩;let⟨d,e,f,_,_⟩:=c.r.C 0 g0 b;obtain rfl:g0=d:=by cases f;rfl
 exact⟨g0,b,e w<|c.r.r.r 0 c.C⟩
def IY(vQ:Ñ->Í->Prop):Jd:=λl g=>iu l/\g.status=.running/\iM vQ l g
def ash{b:Nat->fh}{T:gD}(m:(b 0).w=w)(n:wq zX i (b 0))(c:fB.rY À zX i (IY vQ) T D b E w t):sF vQ E w sl t:=by let⟨N,o,p,f,w',e,qJ,r,_,a,j⟩:=kN.G (λl g h=>È h.2.1) T _ D b E w sl t U c;let⟨v,q,h,s,u⟩:=ab8 j;refine sF.r r ⟨a.C,a.I⟩<|u h s zX i (IY vQ) o p f e qJ ?_ j h.d q;apply asg n;rw[m];exact⟨a.r,a.N,a.c,a.S,a.b,a.k,a.jY,a.M,a.Y,a.C,a.I,a.d⟩
def nP(W:fB.fq À Î (IY vQ) l g):iM vQ l g:=by intro b d i H J j k E sl t a c e f;let⟨T,h⟩:=UK b d a c e f W;exact ash (by rw[fB.SC]) (by rwa[fB.SC]) h
def asi(W:fB.fq À Î (UJ À vQ) l g):iM vQ l g:=by intro b d s H J i u E sl t j c k m;let⟨T,n⟩:=UK b d j c k m W;let⟨N,o,p,f,w',e,qJ,r,_,a,q⟩:=kN.G (λl g h=>È h.1) T _ i _ E l.w sl t U n;exact sF.r r ⟨a.C,a.I⟩<|kN.asf _ o p f w' e qJ U q
def Ar.N{e:wB}{R:Nat}{kd:Nat->Int}{f:List fO}{c:fh}(h:Ar X e R kd f l i v c)(r:fL c c.w u):Ar X e R kd f l i v {c with w:=u}:=by have a:=λb q=>r.I b<|È q;let⟨V,j,g⟩:=h.Y;exact⟨λb q=>⟨(h.M b q).1,(a b (h.M b q).1).trans (h.M b q).2⟩,⟨h.r.1,λp k=>(gQ<|a i h.r.1).trans<|h.r.2 p k⟩,⟨V,j.r λb q=>a b (g b q).1,g⟩,h.d,h.q,h.S,h.C,(gQ<|a i h.r.1).trans h.I.1,(xg<|a i h.r.1).trans h.I.2⟩
def asj{kd:Nat->Int}{bt:wB}{V0 h:Nat->Prop}{s0:List fO}{B:Option û}{I:Option û}{R:Nat}{C:Ē}{z:Array ĝ} (HB:0<R->I=Â ⟨j7,0,Á⟩) (wh:0<R->l.M j7) (HC:∀i,i<R->l.w.cell? ⟨j7,i,Á⟩=Â (Ã<|Â ⟨D i,0,Á⟩)) (HF:∀i,i<R->l.w.cell? ⟨D i,4,Á⟩=Â (Å É<|kd i)) (K:IP l bt kd D R X) (hZ:(∀b,X b->h b)/\∀b,b=1\/b=2\/b=3\/b=4->h b) (hZO:∀b,h b->l.O b) (hVZ:∀b,V0 b->h b) (Ch:RD s0 (Ç B j j9) V0 l.w) (hn:1<=n) (hs:n+R<1000) (hJ:∀o v p m c,iu o->Ar h bt R kd s0 l v (Ç p m c) o->iM vQ o (G (C.at (y.put ((z[i]?).bind (·.dst))<|ë #[Ç (Â ⟨v,0,Á⟩) R R,Ç p m c])<|Ð z jJ::L) qX)): iM vQ l (Ew (Ç B j j9) (Ç I R j6) n<|C.at y (Ð z (i::jJ)::L)::qX):=by
 intro s hr jv H J lv lot E sl t MX c hd P;have W:fB.fq À Î (LA kd D R n (Ç B j j9) l<|C.at y (Ð z (i::jJ)::L)::qX) l (Ew (Ç B j j9) (Ç I R j6) n<|C.at y (Ð z (i::jJ)::L)::qX):= ajS s.r s.q s.d Z HB wh HC (λi P=>È<|K.fx _<|K.r i P) HF λg S o u x F v T V Y bw bf v1 h1 h2=>⟨g,S,u,x,F,v,T,V,Y,bw,bf,v1,h1,h2,U⟩;let⟨T,c'⟩:=UK s hr MX c hd P W;let⟨N,jD,H0,f,w',e,qJ,r,_,x,c''⟩:=kN.G (λlx gx S=>by obtain⟨_,_,_,_,_,_,_,_,_,_,_,_,_,_,rfl⟩:=S;exact È U) T _ lv _ E l.w sl t U c';apply sF.r r ⟨x.C,x.I⟩;let⟨N2,asl,V,T2,LB,SL,gs2,w2,LC,t2,r2,io2,c2⟩:=aqt (J:=λu V o F=>wq u V o/\IY vQ o F) U c'' e s.r s.N s.q s.d MX K hZ hZO hVZ Ch ⟨x.C,x.I⟩ hn hs λEC H' o v p m c Y z2 u=> .fE λw₁ F=>by have ly:iu o:=⟨z2,u.d,u.q,u.S,u.C.1,u.C.2.1,u.C.2.2⟩;exact⟨⟨Y.r,Y.fx,Ì Y.C F.r⟩,ly.C F,U,hJ _ v p m c (ly.C F)<|u.N F⟩
 apply sF.r r2 ⟨io2.1.trans x.C.symm,io2.2.trans x.I.symm⟩;let⟨N3,Tp,asn,gs3,w3,sl3,t3,r3,_,wn3,c3⟩:=kN.G (λlx gx S=>È S.2.2.1) T2 _ LB SL gs2 w2 LC t2 U c2;apply sF.r r3 ⟨wn3.C,wn3.I⟩;let⟨g3,UL,p8,S,hr3,hs3⟩:=ab8 c3;exact hs3 S hr3 asl V _ Tp asn gs3 sl3 t3 p8 c3 S.d UL
end
end Go.Proofs.Y.jF
namespace Go.Proofs.Y.jF
open Go Go.Conc Go.Proofs Go.RowKit Go.Proofs.Y.Lift Go.Proofs.Y.fV Go.Proofs.Y.fB Go.Proofs.Y.lL
open Go.Conc.Lib Go.ConcR.Gen Go.Proofs.YtgpphkdoanciiabGreatDoor
def toTx(t:PT):Tx:=⟨(t.c.getD 0 0).toNat,(t.c.getD 1 0).toNat,t.c.getD 2 0,t.c.getD 3 0,t.c.getD 4 0,t.p⟩
def toQn(r:PR):Qn:=⟨(r.c.getD 0 0).toNat,(r.c.getD 1 0).toNat,(r.c.getD 2 0).toNat,(r.c.getD 3 0).toNat,r.c.getD 4 0,r.c.getD 5 0,r.c.getD 6 0,(r.c.getD 7 0).toNat⟩
def pX:PR:=⟨[],[]⟩
def wH(a:List PR):wB where
 r:=λp=>((a.getD p pX).c.getD 5 0,((a.getD p pX).c.getD 0 0).toNat,(a.getD p pX).r.map toTx)
 C:=λp=>toQn<|a.getD p pX
def lC(a:List PR)(p:Nat):Int:=(a.getD p pX).c.getD 4 0
section
variable{r:Nat}{p:PR}{t:PT}{a:Nat}{rs:List PR}{l:fh}
theorem toTx_ok(h:oe t):(toTx t).Ok:=by have d:=h.c.r 0 A;have e:=h.c.r 1 A;have a:=h.c.r 2 A;have b:=h.c.r 3 A;simp only[lV]at d e a b;exact⟨by show(t.c.getD 0 0).toNat<8;omega,by show(t.c.getD 1 0).toNat<8;omega,a.1,a.2,b.1,b.2,h.p⟩
theorem Aw(a:0<=c)(h:w.cell? ⟨b,i,Á⟩=Â (Å É c)):w.cell? ⟨b,i,Á⟩=Â (Å É (c.toNat:Nat)):=by grind
theorem aso(h:oe t)(k:IX a t w):mh a (toTx t) w:=by have b:=h.c.r 0 A;have d:=h.c.r 1 A;simp only[lV]at b d;exact⟨k.r,Aw b.1<|k.c 0 A,Aw d.1<|k.c 1 A,k.c 2 A,k.c 3 A,k.c 4 A,k.p⟩
theorem asq(h:vf p)(k:yw r p w):CK r (p.c.getD 5 0) (p.c.getD 0 0).toNat (p.r.map toTx) w:=by
 have e:=h.c.r 0 A;simp only[lV]at e;let⟨f,n,g,i,l,m⟩:=k.b;let⟨o,s,u⟩:=wS (R:=λj t (y:Nat×Tx)=>y.2=toTx t/\∃d,f=Â ⟨d,0,Á⟩/\w.cell? ⟨d,j,Á⟩=Â (Ã<|Â ⟨y.1,0,Á⟩)/\IX y.1 t w) p.r 0 λj t v=>by let⟨d,a,y,q,x⟩:=m j t v;simp_all
 refine⟨f,n,g,o,⟨Aw e.1<|k.c 0 A,k.c 5 A,i⟩,⟨by rw[l,s],λj a t q=> ?_⟩,?_,by have:=h.n;omega⟩
 .let⟨x,z,y,d,D,B,C⟩:=u j (a,t) q;simp only at y B C;subst y;have E:=h.C x<|ç z;grind [aso,toTx_ok]
 .refine Ŕ λj=> ?_;unfold lT;grind
def asr(h:vf p)(k:yw r p w):IL r (toQn p) w:=by have a:=h.c.r 0 A;have b:=h.c.r 1 A;have d:=h.c.r 2 A;have e:=h.c.r 3 A;have f:=h.c.r 7 A;simp only[lV]at a b d e f;exact⟨Aw a.1<|k.c 0 A,Aw b.1<|k.c 1 A,Aw d.1<|k.c 2 A,Aw e.1<|k.c 3 A,k.c 4 A,k.c 5 A,k.c 6 A,Aw f.1<|k.c 7 A⟩
def ab9(h:vf p)(k:p.c.getD 4 0≠1):(toQn p).Ok:=by
 have d:=h.c.r 0 A;have e:=h.c.r 1 A;have f:=h.c.r 2 A;have g:=h.c.r 3 A;have i:=h.c.r 4 A;have a:=h.c.r 5 A;have b:=h.c.r 6 A;have j:=h.c.r 7 A;simp only[lV]at d e f g i a b j;refine⟨?_,?_,?_,?_,?_,?_,a.1,b.1,?_⟩
 .show(p.c.getD 0 0).toNat<8;omega
 .show(p.c.getD 1 0).toNat<8;omega
 .show(p.c.getD 2 0).toNat<1000000;omega
 .show(p.c.getD 3 0).toNat<18446744073709551616;omega
 .show 2<=p.c.getD 4 0;omega
 .show p.c.getD 4 0<=9;omega
 .show(p.c.getD 7 0).toNat<16;omega
theorem asu(h:RQ rs v X l.w)(j:∀r∈rs,vf r)(B:na l.w)(C:∀b,b=1\/b=2\/b=3\/b=4->l.O b)(k:∀b,X b->l.O b): ∃a d e f,v=Ç a rs.length d/\(0<rs.length->a=Â ⟨e,0,Á⟩)/\(0<rs.length->l.O e)/\(∀i,i<rs.length->l.w.cell? ⟨e,i,Á⟩=Â (Ã<|Â ⟨f i,0,Á⟩))/\(∀i,i<rs.length->l.w.cell? ⟨f i,4,Á⟩=Â (Å É<|lC rs i))/\IP l (wH rs) (lC rs) f rs.length X:=by
 obtain⟨m,D,rfl,E⟩:=h.M;have o:∀i,i<rs.length->rs[i]?=Â (rs.getD i pX):=λi a=>by simp[Ğ,a]
 have p:=λi a=>ç<|o i a;obtain⟨e,s⟩:∃e,∀i,i<rs.length->m=Â ⟨e,0,Á⟩:=by
  by_cases d:0<rs.length
  .let⟨g,r,q,_⟩:=E 0 _<|o 0 d;exact⟨g,λ_ _=>q⟩
  .simp_all
 have F:∀i,∃r,i<rs.length->l.w.cell? ⟨e,i,Á⟩=Â (Ã<|Â ⟨r,0,Á⟩)/\yw r (rs.getD i pX) l.w:=λi=>by grind
 let⟨f,g⟩:=Classical.axiomOfChoice F;have u:=λd=>by have:=h.I;rw[s 0 d]at this;exact CJ this
 refine⟨m,D,e,f,U,λd=>s 0 d,λd=>k _<|u d,λi a=>(g i a).1,λi a=>(g i a).2.c 4 A,B,C,h.C,k,λi a=>(CI<|h.C.r (u Z) (g i a).1),λi a y=> ?_,λi a y=> ?_⟩
 .have q:=j _<|p i a;have d:=q.c.r 0 A;have z:=q.c.r 5 A;simp only[lV]at d z;refine⟨asq q (g i a).2,?_,z.1,λt G=> ?_,?_⟩
  .show((rs.getD i pX).c.getD 0 0).toNat<8;omega
  .obtain⟨x,H,rfl⟩:=Ú.1 G;exact toTx_ok<|q.C x H
  .show((rs.getD i pX).r.map toTx).length<=1000;rw[ù];have:=q.n;omega
 .have q:=j _<|p i a;exact⟨asr q (g i a).2,ab9 q y⟩
end
theorem UM:(∀r∈(ig B).2.2,vf r)/\(ig B).2.2.length<=24:=by
 unfold ig;split
 .grind
 .split
  .unfold mj;split
   .grind
   .have:=(UD B.size 0 nN (UC B)<|Ù _).1.d;exact⟨this.G,this.C⟩
  .grind
def ky(rs:List PR)(s:List fO):List ByteArray:=(ĳ rs.length).map λp=>yp (wH rs) (lC rs) p<|pS (wH rs) (ie (lC rs) rs.length) s<|fQ (lC rs) p
def Ax(rs:List PR)(s:List fO):List fO:=pS (wH rs) (ie (lC rs) rs.length) s<|fQ (lC rs) rs.length
def nQ(s:List fO)(B:ByteArray):ByteArray×Int×List fO:=
 if(ig B).1=0 then(jl ⟨#[59]⟩<|ky (ig B).2.2 s,0,Ax (ig B).2.2 s)else(⟨#[]⟩,(ig B).1,s)
section
variable{b:Ē}{l:fh}{a:Ĉ}
def acd{md:Ŀ}(I:Array Bool->Ĉ->fh->Prop) (o:∀c a l i k,I c a l->i∈ä md Q c->(∀f g,I (c.setIfInBounds i Î) f g->iM vQ g (G (b.at f<|Ð Q k::L) qX))->iM vQ l (G (b.at a<|Ð Q (i::k)::L) qX)) (m:∀c a l,I c a l->c.size=Q.size->ä md Q c=[]->iM vQ l (G (b.at a<|Ð Q []::L) qX)): ∀(d t:Nat) (c:Array Bool) (a:Ĉ) (l:fh),c.size=Q.size->jy c<=d->I c a l->iM vQ l (G (b.at a<|Ð Q (ć md Q d t c [])::L) qX):=by
 intro d
 induction d with
 |zero=>
  intro t c a l e p h;simpa[ć]using m c a l h e<|Rl e Z
 |succ d q=>
  intro t c a l e p h;simp only[ć];change iM vQ l (G (b.at a (Ð Q (match(ä md Q c)[t%(ä md Q c).length]? with
   |some i=>ć md Q d (t/(ä md Q c).length) (c.setIfInBounds i Î) [i]
   |none=>[].reverse)::L)) qX)
  cases j:(ä md Q c)[t%(ä md Q c).length]? with
  |none=>
   have r:ä md Q c=[]:=by
    cases s:ä md Q c with
    |nil=>rfl
    |cons x n=>
     rw[s]at j;have u:t%(x::n).length<(x::n).length:=Nat.mod_lt _ ft;simp at j;simp at u;omega
   simpa using m c a l h e r
  |some i=>
   simp only[];rw[linearise_go_acc,List.reverse_singleton,List.singleton_append];have n:=ç j;refine o c a l i _ h n λf g r=>(q _ _ f g (by simpa using e) (by have:=KN (Α.1 n).1;omega) r)
def asv{id:Nat}(I:Array Bool->Ĉ->fh->Prop)(e:iu l) (j:∀f,fL l l.w f->I (ũ Q.size Ë) a {l with w:=f}) (k:∀g c a l i m,I c a l->i∈ä g Q c->(∀n o,I (c.setIfInBounds i Î) n o->iM vQ o (G (b.at n<|Ð Q m::L) qX))->iM vQ l (G (b.at a<|Ð Q (i::m)::L) qX)) (p:∀g c a l,I c a l->c.size=Q.size->ä g Q c=[]->iM vQ l (G (b.at a<|Ð Q []::L) qX)): iM vQ l (G (b.at a<|ax (.region id Q Î)::L) qX):=by
 refine nP (.mk U λf r=>⟨_,_,_,_,stepG_region_draw,Rk (my e.r.r r) e.q,.fE λs d=> ?_⟩);have h:=r.fj ⟨d.r,d.I,d.N,d.Y,d.S⟩;refine⟨e.C h,U,?_⟩;unfold Region.schedule;split
 .exact acd I (k _) (p _) _ _ _ _ _ ft (by rw[D6];exact æ _)<|j s h
 .exact acd I (k _) (p _) _ _ _ _ _ ft (by rw[D6];exact æ _)<|j s h
def asw{I:Ĉ->fh->Prop}(W:fB.fq À Î (λa d=>∃c,d=G (b.at c<|Ð Q jJ::L) qX/\I c a) l g)(f:∀c a,I c a->iu a)(i:∀c a,I c a->iM vQ a (G (b.at c<|Ð Q jJ::L) qX)):iM vQ l g:= nP (W.fT λa d h=>by obtain⟨c,rfl,e⟩:=h;exact⟨f c a e,U,i c a e⟩)
def CU{f:FuncId}{fn:Func}(xs:List Value)(n:Nat)(hf:Tryz.prog.funcs[f]?=some fn)(hb:fn.body=some (lj fn []):=by kernel_rfl)(hn:fn.ntmps=xs.length+n:=by kernel_rfl):Frame.enter Tryz.prog f xs.toArray .normal=(base f).at ⟨(xs++List.replicate n undef).toArray,[]⟩ [.code<|lj fn []]:=by rw[enter_at _ hf hb,hn,ř,Nat.add_sub_cancel_left,show xs.toArray++ũ n ĸ=(xs++Ą n ĸ).toArray from Array.ext' ft]
def CV{J:Jd}{f:Ξ}{args:Array Ñ}(d:Q[i]?=Â o)(e:đ o (Θ Q a.tmps)=Î)(g:b.kind≠.early)(h:j0 l) (j:∀w,(ś a.eval o).run À w=.ok (.enter f args) w) (k:∀w,(ś a.eval o).events À w #[]=#[]) (m:∀c,fL l l.w c->fB.fq À Î J {l with w:=c} (G (è À f args ă)<|b.at a (Ð Q (i::jJ)::L)::qX)): fB.fq À Î J l (G (b.at a<|Ð Q (i::jJ)::L) qX):=by refine .mk U λc r=>⟨G (è À f args ă)<|b.at a (Ð Q (i::jJ)::L)::qX,c,#[],{l with w:=c},?_,KE c<|my h r,m c r⟩;rw[stepG_enter d e g<|j c];unfold ay;rw[k c,seen_none]
def CW{f:Ξ}{args:Array Ñ}(e:iu l)(j:Q[i]?=Â o)(k:đ o (Θ Q a.tmps)=Î)(m:b.kind≠.early) (n:∀w,(ś a.eval o).run À w=.ok (.enter f args) w) (p:∀w,(ś a.eval o).events À w #[]=#[]) (q:∀d,fL l l.w d->iM vQ {l with w:=d} (G (è À f args ă)<|b.at a (Ð Q (i::jJ)::L)::qX)): iM vQ l (G (b.at a<|Ð Q (i::jJ)::L) qX):= nP (CV j k m e.r.r n p λd r=> .fE λg c=>by have h:fL l l.w g:=r.fj ⟨c.r,c.I,c.N,c.Y,c.S⟩;exact⟨e.C h,U,q g h⟩)
def iV.xS{c:fh}(e:iu l)(h:iV l c)(k:c.d=l.d):iu c:=by
 have g:∀b,¬c.I b:=by rw[h.N];exact e.N
 have f:∀a,¬c.r a:=by rw[h.S];exact e.I
 have i:∀a,¬c.N a:=by rw[h.Y];exact e.M
 have j:∀a,¬c.K a:=by rw[h.K];exact e.k
 exact⟨⟨λb _=>g b,λa q=>(f a q).elim,λa q=>q.elim (λz=>(f a z).elim) λz=>(i a z).elim,λb q=>q.elim (λz=>h.fA b z) λz=>(g b z).elim,λa q=>q.elim (λz=>(f a z).elim) λz=>(i a z).elim,λa q=>(j a q).elim⟩,k.trans e.d,by rw[h.q];exact e.q,g,f,i,j⟩
end
def IZ:ĝ:=⟨Â 21,.move<|ň 0,25, "attic.go:46",#[],Á⟩
def I0:ĝ:=⟨Â 22,.nilCheck<|ň 21,0, "attic.go:46",#[⟨0,ĉ⟩],Á⟩
def I1:ĝ:=⟨Â 23,.fieldAddr 59 (ň 22) 1,0, "attic.go:46",#[⟨1,ĉ⟩],Á⟩
def I2:ĝ:=⟨Â 24,.load 56<|ň 23,56, "attic.go:46",#[⟨2,ĉ⟩],Á⟩
def I3:ĝ:=⟨Â 25,.move<|ň 6,51, "attic.go:46",#[],Á⟩
def I4:ĝ:=⟨Â 26,.move<|ň 0,25, "attic.go:46",#[],Á⟩
def I5:ĝ:=⟨Â 27,.nilCheck<|ň 26,0, "attic.go:46",#[⟨5,ĉ⟩],Á⟩
def I6:ĝ:=⟨Â 28,.fieldAddr 59 (ň 27) 0,0, "attic.go:46",#[⟨6,ĉ⟩],Á⟩
def I7:ĝ:=⟨Â 29,.load 3<|ň 28,3, "attic.go:46",#[⟨7,ĉ⟩],Á⟩
def yx:ĝ:=⟨Â 30,.call {callee:=.value<|.func 20,args:=#[ň 24,ň 25,ň 29],argTypes:=#[56,51,3]},57, "attic.go:46",#[⟨3,ĉ⟩,⟨4,ĉ⟩,⟨8,ĉ⟩],Á⟩
def Ay:ĝ:=⟨Â 20,.move<|ň 30,57, "attic.go:46",#[⟨9,ĉ⟩],Á⟩
def CX:ĝ:=⟨Â 31,.extract (ň 20) 0,54, "attic.go:46",#[⟨10,ĉ⟩],Á⟩
def CY:ĝ:=⟨Â 32,.extract (ň 20) 1,56, "attic.go:46",#[⟨10,ĉ⟩,{on:=13,ground:=Ground.gcOnly Departure.lateStores}],Á⟩
def CZ:ĝ:=⟨Â 9,.assign<|ň 31,54, "attic.go:46",#[⟨11,ĉ⟩,⟨9,.chain⟩,⟨0,ñ⟩,⟨1,ñ⟩,⟨2,ñ⟩,⟨3,ñ⟩,⟨4,ñ⟩,⟨5,ñ⟩,⟨6,ñ⟩,⟨7,ñ⟩,⟨8,ñ⟩,⟨9,ñ⟩,⟨10,ñ⟩,⟨11,ñ⟩,{on:=12,ground:=Ground.textOnly Departure.lateStores}],Á⟩
def C0:ĝ:=⟨Â 10,.assign<|ň 32,56, "attic.go:46",#[⟨12,ĉ⟩,⟨13,.chain⟩,⟨0,ñ⟩,⟨1,ñ⟩,⟨2,ñ⟩,⟨3,ñ⟩,⟨4,ñ⟩,⟨5,ñ⟩,⟨6,ñ⟩,⟨7,ñ⟩,⟨8,ñ⟩,⟨9,ñ⟩,⟨10,ñ⟩,⟨11,ñ⟩,⟨12,ñ⟩,⟨13,ñ⟩],Á⟩
def oK:Array ĝ:=#[IZ,I0,I1,I2,I3,I4,I5,I6,I7,yx,Ay,CX,CY,CZ,C0]
noncomputable def UN:Ο:=lj Tryz.f13 [1,1,1,1]
structure ot(l:fh)(ab n:Nat)(s:List fO)(sl:Ñ)(V:Nat->Prop):Prop where
 r:na l.w
 C:∀b,b=1\/b=2\/b=3\/b=4->l.O b
 Y:FA ab n sl l.w
 fx:l.O ab
 I:RD s sl V l.w
 a:∀b,V b->l.O b
 e:¬V ab
 c:1<=n
 d:n<=8
 M:¬(ab=1\/ab=2\/ab=3\/ab=4)
structure Nf(l l':fh)(ab n:Nat)(s':List fO)(V:Nat->Prop):Prop where
 vF:∀b,l.O b->b≠ab->l'.O b/\l'.w.heap[b]?=l.w.heap[b]?
 att:∃tu V',ot l' ab n s' tu V'/\∀b,V' b->V b\/(b=1\/b=2\/b=3\/b=4)\/l.w.heap.size<=b
section
variable{l d:fh}{ab:Nat}{s:List fO}{sl:Ñ}{V:Nat->Prop}
def ot.S{a:fh}(h:ot l ab n s sl V)(c:∀b,l.O b->a.O b)(d:∀b,l.O b->a.w.heap[b]?=l.w.heap[b]?)(e:l.w.heap.size<=a.w.heap.size):ot a ab n s sl V:= ⟨h.r.r (Ì h.r.fA e) λb q=>d b<|h.C b q,λb q=>c b<|h.C b q,h.Y.r<|d ab h.fx,c ab h.fx,h.I.r λb q=>d b<|h.a b q,λb q=>c b<|h.a b q,h.e,h.c,h.d,h.M⟩
def ot.N(h:ot l ab n s sl V)(r:fL l l.w u):ot {l with w:=u} ab n s sl V:=h.S (λ_ q=>q) (λb q=>r.I b<|È q) r.r
def km(ab:Nat)(n:Nat)(sl rs:Ñ)(x:Value×Value):Nat->Ñ
 |0=>Ã<|Â ⟨ab,0,Á⟩
 |1=>Ã<|Â ⟨ab,0,Á⟩
 |2=>Ã<|Â ⟨ab,1,Á⟩
 |3=>sl
 |4=>rs
 |5=>Ã<|Â ⟨ab,0,Á⟩
 |6=>Ã<|Â ⟨ab,0,Á⟩
 |7=>Ã<|Â ⟨ab,0,Á⟩
 |8=>Å É n
 |9=>ë #[x.1,x.2]
 |10=>ë #[x.1,x.2]
 |11=>x.1
 |12=>x.2
 |13=>x.1
 |14=>x.2
 |_=>ĸ
def wI(d:fh)(V:Nat->Prop)(rs:List PR)(s:List fO)(listed:Array Bool)(x:Value×Value)(l:fh):Prop:=
 iu l/\(listed.getD 9 Ë=Ë->gu fl d l)/\(listed.getD 9 Ë=Î->∃a e p m c,gu fl d a/\x=(Ç (Â ⟨e,0,Á⟩) rs.length rs.length,Ç p m c)/\Ar (λb=>V b\/b=1\/b=2\/b=3\/b=4) (wH rs) rs.length (lC rs) s a e (Ç p m c) l)
def wI.kg{V:Nat->Prop}{a:List PR}{s:List fO}{listed:Array Bool}{x:Value×Value}(h:wI d V a s listed x l)(b:i≠9){w₁:Í}(r:fL l l.w w₁):wI d V a s (listed.setIfInBounds i Î) x {l with w:=w₁}:=by
 have e:(listed.setIfInBounds i Î).getD 9 Ë=listed.getD 9 Ë:=by simp[Array.getD_eq_getD_getElem?,Array.getElem?_setIfInBounds_ne b]
 refine⟨h.1.C r,λq=> ?_,λq=> ?_⟩
 .rw[e]at q;exact(h.2.1 q).G r
 .rw[e]at q;let⟨f,g,p,m,c,j,k,n⟩:=h.2.2 q;exact⟨f,g,p,m,c,j,k,n.N r⟩
theorem asx{D:Array Ñ}{I:List PR}(J:ot d ab n s sl V)(T:D.size=39)(W:D[0]?=Â (Ã<|Â ⟨ab,0,Á⟩))(Y:D[6]?=Â z) (md:Ŀ) (listed:Array Bool) (a:Ĉ) (l:fh) (i:Nat) (O:List Nat) (hI:II oK D (km ab n sl z) (wI d X I s) listed a l) (p:i∈ä md oK listed) (F:i≠9): fB.fq À Î (λc e=>∃b,e=G ((base 13).at b<|Ð oK O::L) qX/\II oK D (km ab n sl z) (wI d X I s) (listed.setIfInBounds i Î) b c) l (G ((base 13).at a<|Ð oK (i::O)::L) qX):=by
 let⟨x,g,H⟩:=hI;have t:qO oK D.size=Î:=by rw[T];decide
 have K:=zv p;have u:=H.1.r.r;have y:=H.1.q;have P:=(g.C A).trans W;have FB:=(g.C A).trans Y;have B:∀c,fL l l.w c->wI d X I s (listed.setIfInBounds i Î) x {l with w:=c}:=λc r=>H.kg F r;let⟨fr,mN,_⟩:=J.Y;have early:∀m,m<15->listed.getD m Ë=Ë->(∃e,e∈yx.after/\e.on=m/\vO e=Î)->listed.getD 9 Ë=Ë:=λm _ hm ⟨e,h1,h2,h3⟩=>by
  cases q:listed.getD 9 Ë with
  |false=>rfl
  |true=>
   have:=g.b 9 yx e U q h1 h3;rw[h2,hm]at this;cases this
 have kh:oK.size=15:=A
 rw[kh]at K;have Ox:listed.getD i Ë=Ë:=by have:=(Α.1 p).1;grind
 have S:∀{j v},(∃e,e∈yx.after/\e.on=i/\vO e=Î)->#[Å É n,sl][j]?=Â v->ia l ⟨ab,j,Á⟩/\l.w.cell? ⟨ab,j,Á⟩=Â v:=λq h=>by have b:=H.2.1<|early i K Ox q;exact⟨È<|b.M<|È J.fx,(gQ<|b.r ab (È J.fx) id).trans<|by simp[ß,mN,h]⟩
 match i,K,F with
 |9,_,F=>exact absurd U F
 |0,_,_=>
  exact iy (o:=IZ) t g U U p (by k_ne) u y (λc r=>by simp only[km,IZ];go_simp) (λc r e f=>by simp[go_sem,IZ,P]at f) B
 |1,_,_=>
  have b:=g.r 0 IZ 21 U (ik p U U) U;simp only[km]at b;exact iy (o:=I0) t g U U p (by k_ne) u y (λc r=>by simp only[km,I0];go_simp) (λc r e f=>by simp[go_sem,I0,b]at f) B
 |2,_,_=>
  have b:=g.r 1 I0 22 U (ik p U U) U;simp only[km]at b;exact iy (o:=I1) t g U U p (by k_ne) u y (λc r=>by simp only[km,I1];go_simp) (λc r e f=>by simp[go_sem,I1,b]at f) B
 |3,_,_=>
  have b:=g.r 2 I1 23 U (ik p U U) U;simp only[km]at b;let⟨C,E⟩:=S (j:=1) ⟨⟨3,ĉ⟩,by simp[yx],U,U⟩ U;refine iy (o:=I2) t g U U p (by k_ne) u y (λc r=> ?_) (λc r e f=> ?_) B
  .have N:=(C.r r).trans E;simp only[km,I2];go_simp
  .have N:=(C.r r).trans E;simp[go_sem,I2,b,N]at f;subst f;exact C.C
 |4,_,_=>
  exact iy (o:=I3) t g U U p (by k_ne) u y (λc r=>by simp only[km,I3];go_simp) (λc r e f=>by simp[go_sem,I3,FB]at f) B
 |5,_,_=>
  exact iy (o:=I4) t g U U p (by k_ne) u y (λc r=>by simp only[km,I4];go_simp) (λc r e f=>by simp[go_sem,I4,P]at f) B
 |6,_,_=>
  have b:=g.r 5 I4 26 U (ik p U U) U;simp only[km]at b;exact iy (o:=I5) t g U U p (by k_ne) u y (λc r=>by simp only[km,I5];go_simp) (λc r e f=>by simp[go_sem,I5,b]at f) B
 |7,_,_=>
  have b:=g.r 6 I5 27 U (ik p U U) U;simp only[km]at b;exact iy (o:=I6) t g U U p (by k_ne) u y (λc r=>by simp only[km,I6];go_simp) (λc r e f=>by simp[go_sem,I6,b]at f) B
 |8,_,_=>
  have b:=g.r 7 I6 28 U (ik p U U) U;simp only[km]at b;let⟨C,E⟩:=S (j:=0) ⟨⟨8,ĉ⟩,by simp[yx],U,U⟩ U;refine iy (o:=I7) t g U U p (by k_ne) u y (λc r=> ?_) (λc r e f=> ?_) B
  .have N:=(C.r r).trans E;simp only[km,I7];go_simp
  .simp[go_sem,I7,b,(C.r r).trans E]at f;subst f;exact C.C
 |10,_,_=>
  have b:=g.r 9 yx 30 U (ik p U U) U;simp only[km]at b;exact iy (o:=Ay) t g U U p (by k_ne) u y (λc r=>by simp only[km,Ay];go_simp) (λc r e f=>by simp[go_sem,Ay,b]at f) B
 |11,_,_=>
  have b:=g.r 10 Ay 20 U (ik p U U) U;simp only[km]at b;exact iy (o:=CX) t g U U p (by k_ne) u y (λc r=>by simp only[km,CX];go_simp) (λc r e f=>by simp[go_sem,CX,b]at f) B
 |12,_,_=>
  have b:=g.r 10 Ay 20 U (ik p U U) U;simp only[km]at b;exact iy (o:=CY) t g U U p (by k_ne) u y (λc r=>by simp only[km,CY];go_simp) (λc r e f=>by simp[go_sem,CY,b]at f) B
 |13,_,_=>
  have b:=g.r 11 CX 31 U (ik p U U) U;simp only[km]at b;exact iy (o:=CZ) t g U U p (by k_ne) u y (λc r=>by simp only[km,CZ];go_simp) (λc r e f=>by simp[go_sem,CZ,b]at f) B
 |14,_,_=>
  have b:=g.r 12 CY 32 U (ik p U U) U;simp only[km]at b;exact iy (o:=C0) t g U U p (by k_ne) u y (λc r=>by simp only[km,C0];go_simp) (λc r e f=>by simp[go_sem,C0,b]at f) B
end
def asy(x y:Ñ)(n:Nat)(a:List Ē):G (è À 20 #[x,y,Å É n] ă) a=Ew x y n a:=by unfold Ew;rw[enter_at #[x,y,Å É n] ζ (c:=lj Tryz.f20 []) fv];kernel_rfl
section
variable{l g:fh}{s:List fO}{V:Nat->Prop}{d:List PR}
theorem asz{F:Array Ñ}(D:ot g i n s x V)(W:RQ d v X g.w)(M:∀b,X b->g.O b)(Y:∀r∈d,vf r)(KS:d.length<=24)(ht:F.size=39) (md:Ŀ) (listed:Array Bool) (a:Ĉ) (l:fh) (N:List Nat) (hI:II oK F (km i n x v) (wI g (λb=>V b\/X b) d s) listed a l) (B:9∈ä md oK listed) (hn:∀P E,II oK F (km i n x v) (wI g (λb=>V b\/X b) d s) (listed.setIfInBounds 9 Î) P E->iM vQ E (G ((base 13).at P<|Ð oK N::L) qX)): iM vQ l (G ((base 13).at a<|Ð oK (9::N)::L) qX):=by
 let⟨t,y,Q⟩:=hI;have Ox:=(Α.1 B).1;have h9s:9<listed.size:=by grind
 have H:listed.getD 9 Ë=Ë:=by grind
 have e24:a.tmps[24]?=Â x:=y.r 3 I2 24 U (ik B U U) U;have e25:a.tmps[25]?=Â v:=y.r 4 I3 25 U (ik B U U) U;have e29:a.tmps[29]?=Â (Å É n):=y.r 8 I7 29 U (ik B U U) U;have late:∀(S:Value×Value) j,listed.getD j Ë=Î->km i n x v S j=km i n x v t j:=λS j u=>by
  have c:listed.getD 10 Ë=Ë:=by
   cases q:listed.getD 10 Ë with
   |false=>rfl
   |true=>exact absurd (y.b 10 Ay ⟨9,ĉ⟩ U q (by simp[Ay]) U)<|by rw[H];decide
  have e:listed.getD 11 Ë=Ë:=by
   cases q:listed.getD 11 Ë with
   |false=>rfl
   |true=>exact absurd (y.b 11 CX ⟨10,ĉ⟩ U q (by simp[CX]) U)<|by rw[c];decide
  have h:listed.getD 12 Ë=Ë:=by
   cases q:listed.getD 12 Ë with
   |false=>rfl
   |true=>exact absurd (y.b 12 CY ⟨10,ĉ⟩ U q (by simp[CY]) U)<|by rw[c];decide
  have m:listed.getD 13 Ë=Ë:=by
   cases q:listed.getD 13 Ë with
   |false=>rfl
   |true=>exact absurd (y.b 13 CZ ⟨11,ĉ⟩ U q (by simp[CZ]) U)<|by rw[e];decide
  have p:listed.getD 14 Ë=Ë:=by
   cases q:listed.getD 14 Ë with
   |false=>rfl
   |true=>exact absurd (y.b 14 C0 ⟨12,ĉ⟩ U q (by simp[C0]) U)<|by rw[h];decide
  match j with
  |9=>rw[H]at u;cases u
  |10=>rw[c]at u;cases u
  |11=>rw[e]at u;cases u
  |12=>rw[h]at u;cases u
  |13=>rw[m]at u;cases u
  |14=>rw[p]at u;cases u
  |0|1|2|3|4|5|6|7|8=>rfl
  |j+15=>rfl
 refine CW (f:=20) (args:=#[x,v,Å É n]) Q.1 (o:=yx) U (KR U _) (by k_ne) (λw=> ?_) (λw=> ?_) λw₁ r=> ?_
 .simp only[yx];go_simp
 .exact ô U ζ U U #[]
 have z:=(Q.2.1 H).G r;have C:=D.S (λb q=>z.O b q) (λb q=>z.r b (È q) id) z.I;have T:=λb q=>z.O b<|M b q;obtain⟨ra,cr,rb,rq,rfl,HB,wh,HC,HF,ready⟩:=asu (W.r λb q=>z.r b (È<|M b q) id) Y C.r C.C T;obtain⟨I,J,K,rfl⟩:∃I J K,x=Ç I J K:=by let⟨_,_,_,⟨I,J,K,e,_⟩,_⟩:=D.I;grind
 rw[asy];refine asj HB (λh=>È<|wh h) HC HF ready ⟨λb q=>È<|Ï q,λb q=>Ï q⟩ (λb q=>q.elim (λq=>q.elim (C.a b)<|T b)<|C.C b) (λb q=>È<|È q) C.I D.c (by have:=D.d;omega) λE e p m c h hT=> ?_;refine hn _ E ⟨(Ç (Â ⟨e,0,Á⟩) d.length d.length,Ç p m c),(y.G<|late _).fR (by rw[ht];decide) U B λ_=>rfl,h,λq=> ?_,λ_=>⟨_,e,p,m,c,z,U,hT⟩⟩;simp_all
end
section
variable{l o l4:fh}{ab:Nat}{s:List fO}{sl:Ñ}{V:Nat->Prop}{rs:List PR}
structure ace(l l4:fh)(ab n:Nat)(s:List fO)(sl:Ñ)(V:Nat->Prop)(rs:List PR)(an:Nat)(tu:Ñ):Prop where
 r:∀b,l.O b->l4.O b/\l4.w.heap[b]?=l.w.heap[b]?
 fA:nB<=l4.w.heap.size
 C:l4.O an/\vj an (ky rs s) l4.w/\lb l4.w an=Â (0,0)
 HZ:∃V',RD (Ax rs s) tu V' l4.w/\(∀b,V' b->l4.O b)/\¬V' ab/\∀b,V' b->V b\/(b=1\/b=2\/b=3\/b=4)\/l.w.heap.size<=b
def asA{kd:Nat->Int}(h:∀p,p<rs.length->w.cell? ⟨i,p,Á⟩=Â (Ä<|yp (wH rs) (lC rs) p<|pS (wH rs) (ie (lC rs) rs.length) s<|fQ (lC rs) p))(d:w.cell? ⟨i,rs.length,Á⟩=Á):vj i (ky rs s) w:=by refine⟨λp x a=> ?_,by unfold ky;simpa using d⟩;unfold ky at a;rw[Ī]at a;obtain⟨q,e,rfl⟩:=ò.1 a;let⟨b,c⟩:=Õ.1 e;simp at b c;subst c;exact h p b
def I8:(ky rs s).length=rs.length:=by simp[ky]
def asB:nB<=5:=by show À.globals.size<=5;decide+kernel
def asC{f:fh}{p:Option û}(d:ot l ab n s sl V)(t:gF l)(u:∀b,X b->l.w.heap.size<=b)(v:∀b,l.O b->o.O b/\o.w.heap[b]?=l.w.heap[b]?)(x:l.w.heap.size<=o.w.heap.size)(y:gF l4)(e:gu fl o f)(a:Ar (λb=>(V b\/X b)\/b=1\/b=2\/b=3\/b=4) (wH rs) rs.length (lC rs) s f i (Ç p m j) l4):ace l l4 ab n s sl V rs i (Ç p m j):=by
 have g:∀b,l.O b->l4.O b/\l4.w.heap[b]?=l.w.heap[b]?:=λb q=>by let⟨z,h⟩:=v b q;let⟨k,r⟩:=a.M b<|e.O b z;exact⟨k,r.trans<|(e.r b (È z) id).trans h⟩
 refine⟨g,?_,⟨a.r.1,asA (kd:=lC rs) a.r.2 a.I.1,a.I.2⟩,?_⟩
 .have:=y.fA 4<|È (g 4<|d.C 4 A).1;have:=asB;omega
 .let⟨h,B,k⟩:=a.Y;have r:∀b,h b->V b\/(b=1\/b=2\/b=3\/b=4)\/l.w.heap.size<=b:=λb q=>by
   rcases(k b q).2 with((z|z)|z)|z
   .exact È z
   .exact Ï<|Ï<|u b z
   .exact Ï<|È z
   .exact Ï<|Ï<|Ì (Ì x e.I) z
  refine⟨h,B,λb q=>(k b q).1,λq=> ?_,r⟩;rcases r ab q with z|z|z
  .exact d.e z
  .exact d.M z
  .have:=t.fA ab<|È d.fx;omega
def asD{f:fh}{p:Option û}(d:ot l ab n s sl V)(h:ace l l4 ab n s sl V rs i (Ç p m j))(E:gF l4)(g:∀b,l4.O b->f.O b)(r:∀b,l4.O b->f.w.heap[b]?=(l4.w.setCell ⟨ab,1,Á⟩<|Ç p m j).heap[b]?)(v:l4.w.heap.size<=f.w.heap.size):Nf l f ab n (Ax rs s) V:=by
 let⟨x,y,t,u,z⟩:=h.HZ;have k:∀b,l4.O b->b≠ab->f.w.heap[b]?=l4.w.heap[b]?:=λb q e=>(r b q).trans<|lD (a:=⟨ab,1,Á⟩) e;have o:=h.r ab d.fx;refine⟨λb q e=>⟨g b (h.r b q).1,(k b (h.r b q).1 e).trans (h.r b q).2⟩,Ç p m j,x,⟨?_,λb q=>g b (h.r b<|d.C b q).1,?_,g ab o.1,y.r λb q=>k b (t b q) λe=>u<|e▸q,λb q=>g b<|t b q,u,d.c,d.d,d.M⟩,z⟩
 .exact d.r.r (Ì h.fA v) λb q=>(k b (h.r b<|d.C b q).1 λe=>d.M<|e▸q).trans (h.r b<|d.C b q).2
 .let⟨B,C,D⟩:=d.Y;refine⟨B,?_,D⟩;rw[r ab o.1];unfold Ż;simp[Ķ,o.2,C]
def asE{J:Jd}(b:j0 l)(d:fB.fq À Î J l (G (f.at (y.put ((Q[i]?).bind (·.dst))<|Ä ⟨#[]⟩)<|Ð Q jJ::L) qX)): fB.fq À Î J l (G (è À 21 #[Ç O 0 j,Ä B] ă)<|f.at y (Ð Q (i::jJ)::L)::qX):=by
 have hF:True:=trivial;rw[CU [_,_] 73 ē];simp only[Ą,Đ,ę];conv in lj _ _=>whnf
 apply gl (n:=60) b;repeat w_go fF
 u_in fF hF
 refine Ŧ (t:=4) U U ē U ⟨by u_nil,?_⟩;refine ï λ_ _=> ?_;exact d
def vj.I{w':Í}{xs:List ByteArray}(h:vj i xs w)(k:w'.heap[i]?=w.heap[i]?):vj i xs w':= ⟨λp x a=>Au k<|h.r p x a,by have:=h.C;simp only[ß,k]at this|-;exact this⟩
def asF{xs:List ByteArray}(g:na w)(h:vj i xs w):lG i=Ë:=by
 have b:∀e,MV i e w->False:=λe ⟨c,o,j,_,_,d,l⟩=>by
  have f:w.cell? ⟨i,0,Á⟩=Â c[0]:=by simp only[ß,j,ö,ì,if_false];exact å d
  rcases ģ xs.length with q|q
  .have a:=h.C;rw[q,f]at a;cases a
  .have a:=h.r 0 _<|Ó q;let⟨k,n,m⟩:=l c[0]<|î.2<|Ă d;rw[f,m]at a;cases a
 cases q:lG i with
 |false=>rfl
 |true=>
  unfold lG at q;simp at q;rcases q with rfl|rfl
  .exact(b _ g.I).elim
  .exact(b _ g.C).elim
def iV.asG(a:j0 l)(r:fL l l.w u):iV l {l with w:=u}:=⟨λ_ q=>q,λ_ q=>È q,U,U,U,U,U,r,my a r⟩
def asH{a:Ĉ}{xs:List ByteArray}(b:iu l)(j:nB<=l.w.heap.size)(h:vj n xs l.w)(m:l.O n)(o:lG n=Ë)(p:lb l.w n=Â (0,0))(s:xs.length<=1000){N:Nat}(t:xs.length=N)(u:B.size=1)(v:iQ xs+xs.length<=140737488355328): fB.fq À Î (λc g=>iV l c/\c.d=l.d/\g=G (f.at (a.put ((Q[i]?).bind (·.dst))<|Ä<|jl B xs)<|Ð Q jJ::L) qX) l (G (è À 21 #[Ç (Â ⟨n,0,Á⟩) N N,Ä B] ă)<|f.at a (Ð Q (i::jJ)::L)::qX):=by
 subst t;rcases ģ xs.length with e|e
 .have x:=Ý e;subst x;exact asE b.r.r<|.fE λy r=>⟨iV.asG b.r.r r,U,U⟩
 .refine(asc b.r b.q j h e (È m) o p s u v Î _ qX).fT ?_;rintro c g ⟨r,x,rfl⟩;exact⟨r,x,by rw[Ě]⟩
def asI{N:Array Ñ}{cf:Ē}(C:ot l ab n s sl V)(Ex:gF l)(UO:∀b,X b->l.w.heap.size<=b)(hl:∀b,l.O b->o.O b/\o.w.heap[b]?=l.w.heap[b]?)(kh:l.w.heap.size<=o.w.heap.size)(KS:rs.length<=24)(sV:iQ (ky rs s)+rs.length<=140737488355328)(ht:N.size=39)(ht0:N[0]?=Â (Ã<|Â ⟨ab,0,Á⟩)) (hJ:∀P,iu P->Nf l P ab n (Ax rs s) V->iM vQ P (G (cf.at (y.put ((Q[i]?).bind (·.dst))<|ë #[Ä<|jl ⟨#[59]⟩<|ky rs s,Å É 0])<|Ð Q jJ::L) qX)) (md:Ŀ) (listed:Array Bool) (a:Ĉ) (l4:fh) (hI:II oK N (km ab n sl v) (wI o (λb=>V b\/X b) rs s) listed a l4) (H:listed.size=oK.size) (I:ä md oK listed=[]): iM vQ l4 (G ((base 13).at a<|Ð oK []::[ax UN])<|cf.at y (Ð Q (i::jJ)::L)::qX):=by
 have hF:True:=trivial;let⟨x,D,g,_,hS⟩:=hI;have J:∀i∈ĳ 15,listed.getD i Ë=Î:=by
  cases md
  .exact pF I H (ĳ 15) [] gh λi c=>by cases c
  .exact λi c=>pF I H [0,1,2,3,4,5,6,7,8,9,10,11,13,12,14] [] gh (λi c=>by cases c) i (by have:=ŵ.1 c;revert i;decide)
  .exact pF I H (ĳ 15) [] gh λi c=>by cases c
 obtain⟨l1,r,p,m,c,k1,rfl,hT⟩:=hS<|J 9 A;have h:=asC (rs:=rs) C Ex UO hl kh g.r k1 hT;let⟨F,ds⟩:=a;obtain rfl:ds=[]:=D.M;have S:F[0]?=Â (Ã<|Â ⟨ab,0,Á⟩):=(D.C A).trans ht0;have T:F[9]?=Â (Ç (Â ⟨r,0,Á⟩) rs.length rs.length):=D.r 13 CZ 9 U (J 13 A) U;have W:F[10]?=Â (Ç p m c):=D.r 14 C0 10 U (J 14 A) U;have HO:F.size=39:=D.Y.trans ht;clear D J hS hT k1 I H;obtain⟨u,rfl⟩:=uI F HO;simp only[List.getElem?_toArray,Ī,List.getElem?_range,Nat.reduceLT,ā,Ô]at S T W;simp only[ĳ,List.range.loop,List.map,S,T,W];clear S T W HO;let⟨fr,mN,hfr⟩:=C.Y;let⟨Ng,hab⟩:=h.r ab C.fx;have Y:l4.w.heap[ab]?=Â (Û #[Å É n,sl] 59 (0,0)):=by rw[hab,mN,hfr]
 have c1:l4.w.cell? ⟨ab,1,Á⟩=Â sl:=by simp[ß,Y]
 have z1:l4.w.frozen? ⟨ab,1,Á⟩=Ë:=by simp[World.frozen?,Y]
 have BX:=g.q;apply nP;apply gl (n:=20) g.r.r;conv in UN=>whnf
 iterate 7 w_go fF
 refine ï λ_ _=> ?_;apply Hg (p:=ab) (off:=1) (v:=Ç p m c) (u:=sl) U U (by k_ne) g.r.r BX Ng c1 z1 U (λw z B=>by go_simp) (λw z B=>by simp[go_sem,events_store _ _ _ _ _ _ (show Value.oneCell' (Ç p m c)=Î from rfl),z,B]);have k5:=KZ (X:=λb=>b=ab) (p:=ab) (w':=l4.w.setCell ⟨ab,1,Á⟩<|Ç p m c) g.r (fL.gd _ _) Ng U fB.j4 λj hj=>fB.lD hj;have rX:=k5.N g.r;have avx:(l4.w.setCell ⟨ab,1,Á⟩<|Ç p m c).heap.size=l4.w.heap.size:=fB.j4;have uH:iu ({l4 with w:=l4.w.setCell ⟨ab,1,Á⟩ (Ç p m c)}:fh):=⟨rX,g.d,g.q,g.N,g.I,g.M,g.k⟩;have c0:l4.w.cell? ⟨ab,0,Á⟩=Â (Å É n):=by simp[ß,Y]
 have asJ:r≠ab:=λe=>by
  rcases ģ (ky rs s).length with q|q
  .have z:=h.C.2.1.C;rw[q,e,c0]at z;cases z
  .have B:=h.C.2.1.r 0 _<|Ó q;rw[e,c0]at B;cases B
 have acf:(l4.w.setCell ⟨ab,1,Á⟩<|Ç p m c).heap[r]?=l4.w.heap[r]?:=fB.lD (a:=⟨ab,1,Á⟩) asJ;have Ul:=h.C.2.1.I acf;have BJ:lb (l4.w.setCell ⟨ab,1,Á⟩<|Ç p m c) r=Â (0,0):=(xg acf).trans h.C.2.2;have asK:lG r=Ë:=asF (C.r.r h.fA λb q=>(h.r b<|C.C b q).2) h.C.2.1;have hlen:(ky rs s).length=rs.length:=I8;apply gl (n:=20) rX.r;iterate 4 w_go fF
 refine ï λ_ _=> ?_;refine CV (f:=21) (args:=#[Ç (Â ⟨r,0,Á⟩) rs.length rs.length,Ä ⟨#[59]⟩]) U gh (by k_ne) rX.r (λw=>by go_simp) (λw=>ô U ē U U #[]) λw₁ E=> ?_;have FB:=uH.C E;have asL:vj r (ky rs s) w₁:=Ul.I<|E.I r<|È h.C.1;refine fB.fq.mo ?_ (asH (xs:=ky rs s) FB (Ì (by rw[fB.j4];exact h.fA) E.r) asL h.C.1 asK ((xg<|E.I r<|È h.C.1).trans BJ) Z hlen U Z);rintro K g6 ⟨M,hd,rfl⟩;have UP:iu K:=iV.xS FB M hd;have hk6:∀b,l4.O b->K.w.heap[b]?=(l4.w.setCell ⟨ab,1,Á⟩<|Ç p m c).heap[b]?:=λb q=>(M.r.I b<|È q).trans<|E.I b<|È q;have hs6:l4.w.heap.size<=K.w.heap.size:=by have z:=M.r.r;have B:=E.r;have h3:(l4.w.setCell ⟨ab,1,Á⟩<|Ç p m c).heap.size=l4.w.heap.size:=fB.j4;exact Ì (Nat.le_of_eq h3.symm)<|Ì B z
 have B:∀b,l4.O b->K.O b:=λb q=>M.O b q;generalize jl ⟨#[59]⟩ (ky rs s)=ans at*;walk_nrm;apply gl (n:=20) UP.r.r;repeat w_go fF
 u_in fF hF
 refine η (t:=4) (u:=5) U U Ł U ⟨by u_nil,?_⟩;refine ï λ_ _=> ?_;refine .fE λAY z=>⟨UP.C z,U,hJ _ (UP.C z)<|asD C h g.r B (λb q=>(z.I b<|È<|B b q).trans<|hk6 b q)<|Ì hs6 z.r⟩
end
section
variable{l:fh}{s:List fO}
theorem asM{e:fh}{c:Nat->Prop}{g:List PR}(B:ot l j n s v X)(C:gF l)(D:ot e j n s v X)(k:iu e)(W:RQ g z c e.w)(Y:∀b,c b->e.O b)(hok:∀r∈g,vf r)(E:g.length<=24)(F:∀b,c b->l.w.heap.size<=b)(H:∀b,l.O b->e.O b/\e.w.heap[b]?=l.w.heap[b]?)(I:l.w.heap.size<=e.w.heap.size)(J:iQ (ky g s)+g.length<=140737488355328)(t:d.size=39)(u:d[0]?=Â (Ã<|Â ⟨j,0,Á⟩))(K:d[6]?=Â z) (M:∀h,iu h->Nf l h j n (Ax g s) X->iM vQ h (G (f.at (y.put ((Q[i]?).bind (·.dst))<|ë #[Ä<|jl ⟨#[59]⟩<|ky g s,Å É 0])<|Ð Q jJ::L) qX)): iM vQ e (G ((base 13).at ⟨d,[]⟩<|ax (.region 4 oK Î)::[ax UN])<|f.at y (Ð Q (i::jJ)::L)::qX):=by
 refine asv (II oK d (km j n v z)<|wI e (λb=>X b\/c b) g s) k (λa x=> ?_) (λm o a l i jJ p N P=> ?_) λm o a l p S T=> ?_
 .refine⟨(ĸ,ĸ),lP.S _ _ _,k.C x,λ_=>(gu.gd k.r.r).G x,λq=> ?_⟩;exact absurd q A
 .by_cases V:i=9
  .grind [asz]
  .exact asw (asx D t u K m o a l i jJ p N V) (λN h q=>by let⟨x,_,q⟩:=q;exact q.1) P
 .exact asI B C F H I E J t u M m o a l p S T
def acg(p:iu l)(r:ot l j n s v X)(I:B.size<=ī)(J:(ig B).1=0->iQ (ky (ig B).2.2 s)+(ig B).2.2.length<=140737488355328) (t:∀z,iu z->Nf l z j n (nQ s B).2.2 X->iM vQ z (G (f.at (y.put ((Q[i]?).bind (·.dst))<|ë #[Ä (nQ s B).1,Å É (nQ s B).2.1])<|Ð Q jJ::L) qX)): iM vQ l (G (è À 13 #[Ã<|Â ⟨j,0,Á⟩,Ä B] ă)<|f.at y (Ð Q (i::jJ)::L)::qX):=by
 have hF:=trivial;rw[CU [_,_] 37 Ł];simp only[Ą,Đ,ę];conv in lj _ _=>whnf
 apply nP;apply gl (n:=20) p.r.r;iterate 8 w_go fF
 refine ï λ_ _=> ?_;refine CV (f:=19) (args:=#[Ä B]) U gh (by k_ne) p.r.r (λw=>by go_simp) (λw=>ô U ļ U U #[]) λw₁ m=> ?_;have C:=p.C m;refine fB.fq.mo ?_<|ar5 C.r C.q (Ì r.r.fA m.r) I Î _ _;rintro u g1 ⟨x,K,a,rfl,M⟩;have g:=iV.xS C x K;have h:∀b,l.O b->u.O b/\u.w.heap[b]?=l.w.heap[b]?:=λb q=>⟨x.O b q,(x.r.I b<|È q).trans<|m.I b<|È q⟩;have F:=Ì m.r x.r.r;rw[Ě];by_cases k:(ig B).1=0
 .have D:nQ s B=(jl ⟨#[59]⟩<|ky (ig B).2.2 s,0,Ax (ig B).2.2 s):=if_pos k;let⟨c,N,E⟩:=M k;have P:=J k;rw[D]at t;obtain⟨S,T⟩:=UM;rw[k];generalize(ig B).2.2=rs at*;generalize(ig B).2.1=at1 at*;walk_nrm;apply gl (n:=40) g.r.r;repeat w_go fF
  refine ï λ_ _=> ?_;refine .fE λo d=>⟨g.C d,U,?_⟩;have V:=g.C d;have e:∀b,l.O b->({u with w:=o}:fh).O b/\o.heap[b]?=l.w.heap[b]?:=λb q=>⟨(h b q).1,(d.I b<|È (h b q).1).trans (h b q).2⟩;have H:=Ì F d.r;have W:=r.S (λb q=>(e b q).1) (λb q=>(e b q).2) H;have Y:=N.r λb q=>d.I b<|È (E b q).1;have hQ3:=λb q=>(E b q).1;have UO:=λb q=>Ì m.r (E b q).2;exact asM r p.r W V Y hQ3 S T UO e H P U U U t
 .have D:nQ s B=(⟨#[]⟩,(ig B).1,s):=if_neg k;rw[D]at t;have c:((ig B).1 !=0)=Î:=by rwa[bne_iff_ne]
  generalize(ig B).1=er at*;generalize(ig B).2.1=at1 at*;walk_nrm;apply gl (n:=40) g.r.r;repeat w_go fF
  u_in fF hF
  refine η U U Ł U ⟨by u_nil,?_⟩;refine ï λ_ _=> ?_;refine .fE λo d=>⟨g.C d,U,t _ (g.C d) ?_⟩;have e:∀b,l.O b->({u with w:=o}:fh).O b/\o.heap[b]?=l.w.heap[b]?:=λb q=>⟨(h b q).1,(d.I b<|È (h b q).1).trans (h b q).2⟩;exact⟨λb q _=>e b q,v,X,r.S (λb q=>(e b q).1) (λb q=>(e b q).2)<|Ì F d.r,λb q=>È q⟩
end
def UQ(a:ByteArray)(c:a.size=1):∀b:List ByteArray,(jl a b).size<=iQ b+b.length
 |[]=>Ù _
 |x::r=>by
  show(x.data.toList++mR a r).toArray.size<=_;have d:iQ (x::r)=x.size+iQ r:=by simp[iQ]
  have e:x.data.toList.length=x.size:=by rw[ě];rfl
  simp only[ř,Ø,MI a c r,d,e,ď];omega
def UR{M:Nat}(a:∀z∈vX,z.size<=M)(b:M<=100)(c:vX.length<=400000):(yo vX).size<=100000000:=by
 unfold yo;split
 .decide
 .have d:=UQ ⟨#[44]⟩ U vX;have e:=Ff vX a;have:M*vX.length<=100*400000:=Ű b c;omega
theorem FC(i:Nat):(nV i).size<=3:=by
 unfold nV oC;rw[ø];split
 .show 1+1<=3;decide
 .show 1+2<=3;decide
theorem ach(s:fV.St)(x y:Nat)(k:Int):∀(m i:Nat),i+m<=1000->(tC s x y k i m).size<=20
 |0,i,_=>by unfold tC;decide
 |m+1,i,h=>by
  unfold tC;split
  .exact pM i Z
  .exact ach s x y k m (i+1) Z
theorem asN(s t:fV.St):(rn s t 8).length<=400000:=by
 unfold rn;have a:∀l:List Nat,(l.flatMap<|Aj s t).length<=18*l.length:=λl=>by
  induction l with
  |nil=>simp
  |cons i l b=>
   rw[List.flatMap_cons,Ø,ď];have:(Aj s t i).length<=18:=by unfold Aj;grind [Ø,MD,aaP]
   omega
 grind
theorem asO{i:List (Nat×fO)}{q:Qn}(n:ma (kv i))(ok:q.Ok):(tE i q).size<=100000000:=by
 unfold tE;split
 .grind [FC]
 .rename_i p o;let⟨b,f,v,w⟩:=n.r _<|Ú.2 ⟨p,IC o,U⟩;have j:∀u,u<18446744073709551616->(fG u).size<=100000000:=λu r=>by have:=pM u r;omega
  unfold CH;split
  .have c:=f.C q.x q.I;exact j _ (by have:=c.1;have:=c.2;omega)
  .split
   .have c:=f.fw q.x;exact j _ (by have:=c.1;have:=c.2;omega)
   .split
    .split
     .grind [FC]
     .rename_i B;have l:gq (q.k:Int):=⟨Z,by have:=ok.k;omega⟩;have e:=Mb p.2.s [] q.x q.y q.g q.k f ok.x ok.y l Z Z (by simp;omega);unfold Ud;have C:=e.r;have m:=e.M;have t:=e.I;simp at t;have D:=UQ ⟨#[44]⟩ U<|[fG (gw p.2.s [] q.x q.y q.g q.k).C.toNat,fG (gw p.2.s [] q.x q.y q.g q.k).M.toNat,fG (gw p.2.s [] q.x q.y q.g q.k).r.toNat]++(gw p.2.s [] q.x q.y q.g q.k).I.map su;have E:=Ff (M:=21) ([fG (gw p.2.s [] q.x q.y q.g q.k).C.toNat,fG (gw p.2.s [] q.x q.y q.g q.k).M.toNat,fG (gw p.2.s [] q.x q.y q.g q.k).r.toNat]++(gw p.2.s [] q.x q.y q.g q.k).I.map su) λz d=>by
       rcases â.1 d with h|h
       .simp at h;rcases h with rfl|rfl|rfl
        .have:=pM (gw p.2.s [] q.x q.y q.g q.k).C.toNat (by cases(gw p.2.s [] q.x q.y q.g q.k).C<;>decide);omega
        .have:=pM (gw p.2.s [] q.x q.y q.g q.k).M.toNat (by have:=m.1;have:=m.2;omega);omega
        .grind [pM]
       .obtain⟨e,a,rfl⟩:=Ú.1 h;exact ML ((TS p.2.s [] q.x q.y q.g q.k f ok.x ok.y l Z Z (by simp;omega) λ_ q=>by cases q) e a).2
      grind
    .split
     .grind [ach]
     .split
      .have:=aa4<|E2 p.2.s;have:=aa5<|16-(nK<|E2 p.2.s).size;unfold MP;rw[ø];omega
      .split
       .exact UR (λz d=>by obtain⟨e,a,rfl⟩:=Ú.1 d;exact ML (b.C e a).2) Z<|by rw[ù];exact b.I
       .split
        .exact UR (λz d=>by obtain⟨e,a,rfl⟩:=Ú.1 d;exact aaY (b.r e a).1 (b.r e a).2) Z (by rw[ù];have:=b.M;omega)
        .split
         .grind [FC]
         .exact UR (aa6 _ _) Z<|asN _ _
theorem asP(a:List (Nat×fO))(v:Int)(x:Nat)(gN:List Tx):(rj a v x gN).2.size<=3:=by
 unfold rj;split
 .exact FC 3
 .split
  .exact FC 4
  .split
   .exact FC 5
   .show(oC a.length).size<=3;unfold oC;split
    .show 1<=3;decide
    .show 2<=3;decide
def asQ{s:List fO}{i:Int×Nat×List Tx}(h:ma s)(a:∀t∈i.2.2,t.Ok)(b:i.2.2.length<=1000):ma (CL s i):= ma.M (by rwa[IN]) a b
def aci{a:List PR}{s:List fO}(h:ma s)(b:∀r∈a,vf r):∀k,k<=(ie (lC a) a.length).length->ma (pS (wH a) (ie (lC a) a.length) s k)
 |0,_=>h
 |k+1,hk=>by
  have c:a.getD ((ie (lC a) a.length).getD k 0) pX∈a:=ç (i:=(ie (lC a) a.length).getD k 0) (by have q:=(HU<|wo (l:=ie (lC a) a.length)<|show k<_ from hk).1;generalize(ie (lC a) a.length).getD k 0=j at q;simp[Ğ,q]);have q:=b _ c;refine asQ (aci h b k Z) (λt d=> ?_) ?_
  .obtain⟨x,t,rfl⟩:=Ú.1 d;exact toTx_ok<|q.C x t
  .show((a.getD _ pX).r.map toTx).length<=1000;rw[ù];have:=q.n;omega
def Sc(kd:Nat->Int):∀{p R:Nat},p<=R->fQ kd p<=(ie kd R).length:=λ{p R} h=>by
 show(ie kd p).length<=(ie kd R).length
 induction h with
 |refl=>exact æ _
 |@step R _ ih=>
  by_cases q:kd R=1
  .rw[tq q];simp;omega
  .rwa[we q]
theorem asR{a:List PR}{s:List fO}(h:ma s)(b:∀r∈a,vf r)(l:a.length<=24):iQ (ky a s)+a.length<=2400000024:=by
 have d:=Ff (M:=100000000) (ky a s) λz c=>by
  unfold ky at c;obtain⟨p,e,rfl⟩:=Ú.1 c;have f:=ŵ.1 e;have g:=aci h b (fQ (lC a) p)<|Sc _ Z;unfold yp;split
  .grind [Ì,asP]
  .rename_i j;have k:a.getD p pX∈a:=ç (i:=p) (by simp[Ğ,f]);exact asO (by rwa[IN])<|ab9 (b _ k) j
 rw[I8]at d;omega
def acj{s:List fO}(h:ma s):iQ (ky (ig B).2.2 s)+(ig B).2.2.length<=140737488355328:=Ì (asR h UM.1 UM.2) A
def I9(c:Int):Int:=if c<0 then(-(c+1))%8 else c%8
def asS(c:Int)(b:-9223372036854775808<=c)(d:c<=9223372036854775807)(w:Í):Ò À 6 #[Å É c,Å É 8] w λe a=>e=Æ (Å É<|I9 c)/\a=w:=by
 unfold I9;by_cases h:c<0
 .rw[if_pos h];have e:-(c+1).tmod 8=(-(c+1))%8:=by rw[<-Int.neg_tmod,Int.tmod_eq_emod_of_nonneg Z]
  have H:=fi e.symm;clear e;go_enter Ŷ,θ;go_wp2;go_ret;exact⟨by rw[H.out];rfl,U⟩
 .rw[if_neg h];go_enter Ŷ,θ;go_wp2;go_ret;exact⟨U,U⟩
def US(a:û)(w:Í):Sem.events À (binOp BinOp.eql 25 (Ã<|Â a)<|Ã Á) w #[]=#[]:=fv
theorem UT{l:fh}(a:iu l)(p:nB<=l.w.heap.size){f:Ξ}{args:Array Ñ}{r:Ñ}(m:EJ f=Î)(s:∀v∈args.toList,fu (qm (λ_=>False) À.globals.size) v v)(t:∀{Y v},fu Y r v->v=r)(x:∀w,Ò À f args w λe y=>e=Æ r/\y=w)(n:Bool)(c:Ē)(i:List Ē): fB.fq À n (λk o=>iV l k/\k.d=l.d/\o=G (c.finish r) i) l (G (è À f args ă)<|c::i):=by
 let⟨E,F,z,B⟩:=zR f m;have C:∀T,Ò À f args (World.tp (lz (λj=>False/\¬(mB l).O j) l.w) T 0) fun|Æ v,j=>v=r/\ko j|_,_=>False:=λT=>by refine(x _).mono ?_;grind [Fi]
 refine((EE yI LQ zR (λv u T D h=>h) m z B (EF a.r) a.q (λb q=>q.elim) ⟨λb q=>q.elim,p⟩ (λg q=>by cases q) (pP s) C n c i).mB a.r).fT ?_;rintro k o ⟨D,⟨Y,j,v,H,_,_,g,rfl,b,_,_,h⟩,rfl,u,_,_,_⟩;rw[t g]at b;exact⟨u,h,b⟩
def UU:ByteArray:=⟨#[98,48,58,97,59,98,48,58,104,59,117,48,59,98,49,58,97]⟩
def asT:(nQ [fV.ku] UU).1=⟨#[49,48,48,48,59,49,48,48,48,59,45,59,33,51]⟩:=fv
def asU:(nQ [fV.ku] UU).2=(0,[fV.ku]):=fv
structure asV(l l':fh)(ab n:Nat)(sl:Ñ)(V:Nat->Prop):Prop where
 asW:ot l' ab n [fV.ku] sl V
 r:∀b,l.O b->l'.O b/\l'.w.heap[b]?=l.w.heap[b]?
 vt:l.w.heap.size<=ab
 avy:∀b,V b->(b=1\/b=2\/b=3\/b=4)\/l.w.heap.size<=b
section
variable{l:fh}
def asX{J:Jd}{s:List fO}(c:iu l)(d:ot l j n s z X)(g:fB.fq À Î J l (G (f.at (y.put ((Q[i]?).bind (·.dst))<|Å É s.length)<|Ð Q jJ::L) qX)): fB.fq À Î J l (G (è À 18 #[Ã<|Â ⟨j,0,Á⟩] ă)<|f.at y (Ð Q (i::jJ)::L)::qX):=by
 have hF:True:=trivial;obtain⟨a,b,rfl⟩:∃a b,z=Ç a s.length b:=by
  let⟨o,h,_,⟨a,k,b,e,_,m⟩,_⟩:=d.I;have:k=s.length:=by rw[m.r,<-h];simp[kv]
  exact⟨a,b,by rw[e,this]⟩
 have o:s.length<=40:=by let⟨_,_,e,_⟩:=d.I;exact e.C
 let⟨p,k,_⟩:=d.Y;have m:l.w.cell? ⟨j,1,Á⟩=Â (Ç a s.length b):=by simp[ß,k]
 rw[CU [_] 7 ŧ];simp only[Ą,Đ,ę];conv in lj _ _=>whnf
 refine gl (n:=20) c.r.r ?_;repeat w_go fF
 refine ï λ_ _=> ?_;refine oW (x:=⟨j,1,Á⟩) (v:=Ç a s.length b) U gh (by k_ne) c.r.r c.q (È<|È d.fx) m (λw h=>by go_simp) (λw h=>by simp[go_sem,h]) ?_;walk_nrm;refine gl (n:=20) c.r.r ?_;repeat w_go fF
 u_in fF hF
 refine Ŧ (t:=2) U U ŧ U ⟨by u_nil,?_⟩;refine ï λ_ _=> ?_;exact g
def asY(j:iu l)(p:na l.w)(I:∀b,b=1\/b=2\/b=3\/b=4->l.O b)(c:Int)(ug:-9223372036854775808<=c)(As:c<=9223372036854775807) (hJ:∀J a n K V,iu J->asV l J a n K V->iM vQ J (G (f.at (y.put ((Q[i]?).bind (·.dst))<|Ã<|Â ⟨a,0,Á⟩)<|Ð Q jJ::L) qX)): iM vQ l (G (è À 12 #[Å É c] ă)<|f.at y (Ð Q (i::jJ)::L)::qX):=by
 have hF:True:=trivial;rw[CU [_] 36 ι];simp only[Ą,Đ,ę];conv in lj _ _=>whnf
 apply nP;apply gl (n:=20) j.r.r;repeat w_go fF
 refine ï λ_ _=> ?_;refine CV (f:=6) (args:=#[Å É c,Å É 8]) U gh (by k_ne) j.r.r (λw=>by go_simp) (λw=>ô U Ŷ U U #[]) λw₁ r=> ?_;have T:=j.C r;refine fB.fq.mo ?_ (UT T (Ì p.fA r.r) gh (λv h=>by simp at h;rcases h with rfl|rfl<;>exact .iH _ _) (λh=>by cases h;rfl) (asS c ug As) Î _ _);rintro s g1 ⟨u,hd,rfl⟩;obtain⟨z,hz,Ii,EB⟩:∃z,I9 c=z/\0<=z/\z<8:=⟨_,U,by unfold I9;split<;>omega,by unfold I9;split<;>omega⟩;rw[hz];have M:iu s:=iV.xS T u hd;have x:∀b,l.O b->s.O b/\s.w.heap[b]?=l.w.heap[b]?:=λb q=>⟨u.O b q,(u.r.I b<|È q).trans<|r.I b<|È q⟩;have B:l.w.heap.size<=s.w.heap.size:=Ì r.r u.r.r;rw[Ě];walk_nrm;refine gl (n:=20) M.r.r ?_;repeat w_go fF
 refine ï λ_ _=> ?_;have ox:É.wrap (1+z)=1+z:=Ļ _ ⟨Z,Z⟩;refine CV (f:=17) (args:=#[Å É<|1+z]) U gh (by k_ne) M.r.r (λw=>by go_simp) (λw=>ô U ε U U #[]) λAY h=> ?_;have N:=M.C h;obtain⟨n,hn⟩:∃n:Nat,1+z=n:=⟨(1+z).toNat,Z⟩;rw[hn];refine fB.fq.mo ?_<|asb N.r N.q (Ì (Ì p.fA B) h.r) (n:=(n:Int)) Z Z Î _ _;rintro d g3 ⟨C,xC,a,K,rfl,mN,Ng,hab,V,qW,hnV,W⟩;have g:iu d:=iV.xS N C xC;have k:∀b,l.O b->d.O b/\d.w.heap[b]?=l.w.heap[b]?:=λb q=>⟨C.O b (x b q).1,(C.r.I b<|È (x b q).1).trans<|(h.I b<|È (x b q).1).trans (x b q).2⟩;have X:l.w.heap.size<=d.w.heap.size:=Ì B<|Ì h.r C.r.r;have asZ:l.w.heap.size<=a:=Ì B<|Ì h.r hab;have as0:∀b,b=1\/b=2\/b=3\/b=4->b<l.w.heap.size:=λb q=>j.r.fA b<|È<|I b q;have hin:ot d a n [fV.ku] K V:=⟨p.r (Ì p.fA X) λb q=>(k b<|I b q).2,λb q=>(k b<|I b q).1,mN,Ng,qW,λb q=>(W b q).1,hnV,Z,Z,λq=>by have:=as0 a q;omega⟩;have hVn:∀b,V b->l.w.heap.size<=b:=λb q=>Ì B<|Ì h.r (W b q).2;rw[Ě];walk_nrm;apply gl (n:=60) g.r.r;repeat w_go fF
 refine ï λ_ _=> ?_;apply rS (v:=õ Ë) U gh (by k_ne) g.r.r g.q (λw _=>by go_simp) (λw _ e m=>by simp[go_sem,US]at m);walk_nrm;apply gl (n:=60) g.r.r;repeat w_go fF
 refine ï λ_ _=> ?_;refine .fE λY m=>⟨g.C m,U,?_⟩;have uH:=g.C m;have as1:=hin.N m;have P:∀b,l.O b->({d with w:=Y}:fh).O b/\Y.heap[b]?=l.w.heap[b]?:=λb q=>⟨(k b q).1,(m.I b<|È (k b q).1).trans (k b q).2⟩;refine CW (f:=13) (args:=#[Ã<|Â ⟨a,0,Á⟩,Ä ⟨#[98,48,58,97,59,98,48,58,104,59,117,48,59,98,49,58,97]⟩]) uH U gh (by k_ne) (λw=>by go_simp) (λw=>ô U Ł U U #[]) λas2 D=> ?_;change iM vQ _ (G (è À 13 #[Ã<|Â ⟨a,0,Á⟩,Ä UU] ă) _);refine acg (uH.C D) (as1.N D) A (λ_=>acj ab6) λl6 E acn=> ?_;rw[asU]at acn|-;rw[asT];let⟨Ky,sl6,V6,aco,hV6⟩:=acn;have lM:∀b,l.O b->b≠a:=λb q e=>by have:=j.r.fA b<|È q;omega
 have F:∀b,l.O b->l6.O b/\l6.w.heap[b]?=l.w.heap[b]?:=λb q=>by let⟨o,H⟩:=Ky b (P b q).1<|lM b q;exact⟨o,H.trans<|(D.I b<|È (P b q).1).trans (P b q).2⟩
 have hV7:∀b,V6 b->(b=1\/b=2\/b=3\/b=4)\/l.w.heap.size<=b:=λb q=>by
  rcases hV6 b q with z|z|z
  .exact Ï<|hVn b z
  .exact È z
  .exact Ï<|Ì X<|Ì (Ì m.r D.r) z
 walk_nrm;apply nP;apply gl (n:=60) E.r.r;repeat w_go fF
 refine ï λ_ _=> ?_;refine CV (f:=18) (args:=#[Ã<|Â ⟨a,0,Á⟩]) U gh (by k_ne) E.r.r (λw=>by go_simp) (λw=>ô U ŧ U U #[]) λEv o=> ?_;apply asX (E.C o) (aco.N o);have S:=E.C o;have as3:=aco.N o;walk_nrm;apply gl (n:=60) S.r.r;repeat w_go fF
 u_in fF hF
 refine Ŧ (t:=2) U U ι U ⟨by u_nil,?_⟩;refine ï λ_ _=> ?_;exact .fE λavz H=>⟨S.C H,U,hJ _ a n sl6 V6 (S.C H) ⟨as3.N H,λb q=>⟨(F b q).1,(H.I b<|È (F b q).1).trans<|(o.I b<|È (F b q).1).trans (F b q).2⟩,asZ,hV7⟩⟩
end
def as4{t:Tmp}(d:f.kind=ă)(e:y.defers=[])(g:P.funcs[f.fn]?=Â s)(c:s.results=#[.tmp t])(h:P.inits.idxOf? f.fn=Á):stepG P Î (G {f.at y L with mode:=.returning} []) w=.ended (.done<|y.tmps.getD t ĸ) w:=by have i:=results_tmp c y.tmps P w;have j:=events_results_tmp (P:=P) (w:=w) c y.tmps;simp[G,stepG,unwind,doReturn,Frame.at,d,e,g,i,j,h,seen,GStep.after]
def as5{l:fh}(e:iM vQ l g)(a:iu l)(c:g.status=.running):sF vQ #[g] l.w Á #[]:=e a c (λ_=>False) 0 _ _ _ _ Á _ ⟨λx q=>q.elim,λ_ _ _ _ q=>q,Ù _⟩ (ase (P:=À) (J:=λ_ _=>True) (T:=.fE) U a.d a.q a.N a.I a.M a.k (λb q=>a.r.fA b<|È q) c λ_ _=>trivial) a.d U
def Nh(W:Í):fh:={O:=λb=>b<W.heap.size,I:=λ_=>False,r:=λ_=>False,N:=λ_=>False,K:=λ_=>False,d:=0,q:=False,w:=W}
def acp(W:Í):iu (Nh W):= ⟨⟨λ_ _=>id,λ_ q=>q.elim,λ_ q=>q.elim (λz=>z.elim) λz=>z.elim,λ_ q=>q.elim id λz=>z.elim,λ_ q=>q.elim (λz=>z.elim) λz=>z.elim,λ_ q=>q.elim⟩,U,id,λ_=>id,λ_=>id,λ_=>id,λ_=>id⟩
structure nS(W w':Í):Prop where
 rF:∀b,b<W.heap.size->w'.heap[b]?=W.heap[b]?
 Dw:W.heap.size<=w'.heap.size
def as6(g:na W):∀b,b=1\/b=2\/b=3\/b=4->b<W.heap.size:=λb q=>by let⟨c,a,h,_⟩:=g.C;have:=(á.1 h).1;omega
theorem as7(b a n:Nat):(⟨b,a,Á⟩:û).add n=⟨b,a+n,Á⟩:=by unfold Addr.add;grind
theorem as8(h:w.cell? a=Â v):a.spot=Á/\a.block<w.heap.size:=by
 unfold ß at h;split at h
 .rename_i c t f e;constructor
  .simp_all
  .grind
 .cases h
end Go.Proofs.Y.jF
