import Derived.Test.YtgpphkdoanciiabGreatDoorWAD
import Derived.Lib.Bytealg
import Derived.WalkKit
import Derived.WalkSpells
import Derived.WalkLawsBesides
import Derived.Deep.Light
import Derived.WalkMore
import Derived.Deep.QuietTactic
import Derived.BigQuiet
import Derived.Conc.LeavingOf
import Derived.Conc.CrowdStepC
import Derived.Listen
import Derived.ProofKit
import Derived.Deep.Slices
set_option linter.all false
set_option maxRecDepth 1000000
set_option maxHeartbeats 8000000
open Go.Proofs.Tryz renaming prog->À,ntmps51->í,func51->ó,zeroCells286->ú,ntmps84->ÿ,func84->ą,func21->ē,results28->Ģ,underlying54->ĩ,func19->ļ,results19->Ľ,func13->Ł,ntmps144->Ŋ,ntmps131->ŋ,ntmps21->Ŏ,func144->Œ,func131->Ŗ,ntmps79->ŗ,ntmps19->Ř,func79->ť,func18->ŧ,func6->Ŷ,ntmps107->Ÿ,func107->Γ,ntmps85->Ι,ntmps80->Λ,ntmps28->Μ,func85->Υ,func80->Χ,func28->Ω,func17->ε,func20->ζ,ntmps6->θ,func12->ι,f21->ai
open Option renaming none->Á,some->Â,bind_eq_some_iff->Ü,bind_eq_bind->ê,map->ð,map_eq_some_iff->ò,isSome_none->ö,pure_def->Ā,map_some->ā,bind_some->ş
open Go.Value renaming pointer->Ã,string->Ä,int->Å,slice->Ç,tuple->ë,bool->õ,cells->Ĺ
open Go.Ending renaming returned->Æ
open Or renaming inl->È,inr->Ï
open Go.IntKind renaming i64->É,u64->ã,wrap_u64->Ć,wrap_i64->ŝ,u8->Ū
open And renaming intro->Ê
open Bool renaming false->Ë,true->Î,false_eq_true->ì,eq_iff_iff->Ę
open Nat renaming le_trans->Ì,zero_le->Ù,le_refl->æ,lt_of_lt_of_le->Ġ,eq_zero_or_pos->ģ,zero_add->œ,mul_le_mul->Ű
open Go renaming World->Í,Value->Ñ,Calls->Ò,Addr->û,bodyPost_ret->þ,Act->Ĉ,Goroutine->Ċ,TypeId->č,Frame->Ē,Oper->ĝ,TypeInfo->ħ,maxLen->ī,undef->ĸ,results->Ń,execOp->ś,runNT_fst->Ţ,run_underlying->ŭ,info_parts->Ů,heap_alloc_new->ų,Tape->ŷ,Trace->ż,runNT->ž,mem_ready->Α,wp_loop->Β,wpList_plain->Δ,yielded->Θ,cell_one_new->Κ,FuncId->Ξ,Code->Ο,storeCells->ν,resolve->ρ,builtin->ς,Program->ω,invoke->ar
open Go.Item renaming inRegion->Ð,code->ax
open List renaming getElem?_eq_getElem->Ó,getElem?_eq_some_iff->Õ,length_append->Ø,mem_map->Ú,eq_nil_of_length_eq_zero->Ý,mem_append->â,mem_of_getElem?->ç,setIfInBounds_toArray->é,length_map->ù,set_cons_zero->ü,set_cons_succ->ý,replicate->Ą,length_cons->ď,cons_append->Đ,mem_cons_of_mem->Ĕ,getElem?_of_mem->ĕ,append_nil->Ė,nil_append->ę,getElem_of_mem->Ĝ,getD->Ğ,getElem?_append_right->ğ,getElem?_append_left->Ĥ,extract_eq_take_drop->ĥ,mem_or_eq_of_mem_set->Ħ,take_add_one->Ĩ,getElem?_map->Ī,all_eq_true->ĭ,range->ĳ,set_append_right->Ĵ,length_pos_iff->Ņ,map_cons->ŉ,mem_singleton->ō,map_nil->Ő,append_assoc->ő,ext_getElem?->Ŕ,size_toArray->ř,length_take->Ś,map_toArray->Ŝ,mem_flatMap->Ş,length_nil->Ũ,mem_range->ŵ
open Option.some renaming injEq->Ô,inj->ag
open Go.Lib renaming byteCells->Ö,indexByte->Þ,strCells->į,hasPrefix->ź,TabIs->χ
open Go.Obj renaming cells->Û
open Go.Code renaming wp->ß,wp_mono->İ,loop->ń,skip->aj
open Go.World renaming cell?->à,setCell->Ż,drew->ξ,var?->ο
open Array renaming getElem?_eq_some_iff->á,getElem?_eq_getElem->å,mem_toList_iff->î,getElem_mem->Ă,length_toList->ě,size_setIfInBounds->Ĭ,getElem?_eq_none->ı,mem_of_getElem?->ĵ,getElem?_modify->Ķ,getElem?_toList->ķ,toList_extract->ĺ,replicate->ũ
open Go.Region renaming ready->ä,wanted->đ,Mode->Ŀ
open Go.Frame renaming enter->è,finish_at->Ě
open Go.Conc.Goes renaming stop->ï
open Go.Ground renaming phase->ñ,data->ĉ
open Go.Conc renaming events_call_body->ô,crowd->Į,goes_leave1->Ŧ,Good->Ν,goes_leave2->η,listed->ay
open ByteArray renaming size_append->ø,getElem_eq_getElem_data->ċ,size_extract->Č,data_extract->Ĳ,size->Ŭ,data->ů,extract->σ,mk->aB
open Go.CallKind renaming normal->ă
open Go.Region.linearise renaming go->ć
open Go.Great renaming wpList_runTo->Ď
open Go.Builtin renaming append_->ė,firstCells->Ō,lenOf->Ź,append->κ,zeroCells->φ
open Go.RowKit.Below renaming heap_setCell->ġ,heap_alloc->Š
open Go.IntWalk renaming i64_in->Ļ,i64_left->š
open Go.Made renaming word->ł,reckonStruct->ŕ,infoAt->ţ,mostCells->ű,reckon->Τ
open Int renaming toNat_of_nonneg->ņ,le_refl->Ť
open Go.Operand renaming tmp->ň
open Go.Result renaming andThen_ok->ŏ,andThen->Ų
variable{i n j b k m J j9 j7 j6:Nat}{w u W jX:Í}{v x z jQ:Ñ}{g:Ċ}{a p:û}{h c:Int}{e t T:č}{d q:Array Ñ}{P:ω}{y:Ĉ}{B:ByteArray}{X:Nat->Prop}{O:Option û}{l:List Ñ}{yQ:Bool}{K H:Ĉ->Í->Prop}{o:ĝ}{D:Nat->Nat}{E:Array Ċ}{L:List Go.Item}{jJ:List Nat}{qX:List Ē}{qJ:ż}{zX:Go.Loc->Prop}{zQ:List Int}{zJ:ħ}{xQ:ŷ}{xJ:Nat×Nat}{vX:List ByteArray}{vQ:Ñ->Í->Prop}{vJ:Go.Exit->Ĉ->Í->Prop}{Q:Array ĝ}{f:Ē}{F:Ξ}{s:Go.Func}
namespace Go.Proofs.Y.gp
open Go Go.Proofs Go.RowKit Go.Proofs.Y.Lift
def Co:Ο->Option Ο
 |ń c=>Â c
 |.seq a b=>match Co b with
  |some c=>Â c
  |none=>Co a
 |.block _ c=>Co c
 |.scope c=>Co c
 |.cond _ a b=>match Co b with
  |some c=>Â c
  |none=>Co a
 |_=>Á
noncomputable def Mk:Ο:=(ai.body.bind kz).getD aj
noncomputable def Ml:Ο:=(ai.body.bind Co).getD aj
def QE(k:Nat)(X:Ĉ->Í->Prop):Exit->Ĉ->Í->Prop
 |.exit i,a,w=>i=k/\X a w
 |_,_,_=>False
def nK(a:ByteArray)(b:List ByteArray):List UInt8:=b.flatMap λy=>a.data.toList++y.data.toList
def Mm(a:ByteArray):List ByteArray->List UInt8
 |[]=>[]
 |x::r=>x.data.toList++nK a r
def iN(xs:List ByteArray):Nat:=(xs.map Ŭ).sum
def TV(a b:List ByteArray):iN (a++b)=iN a+iN b:=by simp[iN]
def aaH(a:List ByteArray)(j:Nat):iN (a.take j)<=iN a:=by have h:=TV (a.take j)<|a.drop j;simp_all
theorem Mn(a:ByteArray)(c:a.size=1):∀b:List ByteArray,(nK a b).length=iN b+b.length
 |[]=>rfl
 |x::r=>by
  have e:nK a (x::r)=(a.data.toList++x.data.toList)++nK a r:=U;have d:a.data.toList.length=1:=by simpa using c
  have f:x.data.toList.length=x.size:=fq
  have g:iN (x::r)=x.size+iN r:=by simp[iN]
  rw[e,Ø,Ø,Mn a c r,d,f,g,ď];omega
def E1(a:Option û)(n b:Nat)(c:ByteArray)(m i:Int)(u:Nat->Ñ):Ĉ:=⟨#[Ç a n b,Ä c,u 2,u 3,u 4,Å É m,u 6,u 7,u 8,u 9,u 10,u 11,u 12,u 13,u 14,u 15,u 16,u 17,u 18,u 19,u 20,u 21,u 22,u 23,u 24,u 25,u 26,u 27,u 28,u 29,u 30,u 31,u 32,u 33,u 34,u 35,u 36,u 37,u 38,Ç a n b,Å É n,Å É i,u 42,u 43,u 44,u 45,u 46,u 47,u 48,u 49,u 50,u 51,u 52,u 53,u 54,u 55,u 56,u 57,u 58,u 59,u 60,u 61,u 62,u 63,u 64,u 65,u 66,u 67,u 68,u 69,u 70,u 71,u 72,u 73,u 74],[]⟩
def E2(b:Option û)(n c:Nat)(d:ByteArray)(m i:Int)(a:Ĉ):Prop:=∃u,a=E1 b n c d m i u
def qG(a:Option û)(n c b:Nat)(d:ByteArray)(i:Int)(u:Nat->Ñ):Ĉ:=⟨#[u 0,Ä d,u 2,u 3,u 4,u 5,u 6,u 7,Ã<|Â ⟨b,0,Á⟩,u 9,u 10,u 11,u 12,u 13,u 14,u 15,u 16,u 17,u 18,u 19,u 20,u 21,u 22,u 23,u 24,u 25,u 26,u 27,u 28,u 29,u 30,u 31,u 32,u 33,u 34,u 35,u 36,u 37,u 38,u 39,u 40,u 41,u 42,u 43,u 44,u 45,u 46,u 47,u 48,u 49,u 50,u 51,u 52,u 53,u 54,u 55,u 56,u 57,u 58,u 59,u 60,u 61,u 62,Ç a n c,Å É n,Å É i,u 66,u 67,u 68,u 69,u 70,u 71,u 72,u 73,u 74],[]⟩
def E3(c:Option û)(n d b:Nat)(e:ByteArray)(i:Int)(a:Ĉ):Prop:=∃u,a=qG c n d b e i u
section
variable{X:Ĉ->Í->Prop}{sep:ByteArray}{xs:List ByteArray}
def ao0(u:Nat->Ñ)(m:Int)(b:∀a,E2 O n i sep m n a->X a w): ß À Mk (Exit.then K<|QE 1 X) (E1 O n i sep m n u) w:=by
 unfold E1;conv=>arg 2;whnf
 go_wp2_with fail
 exact⟨U,b _ (gu _)⟩
def ao1(u:Nat->Ñ)(m j:Nat)(f:j<n)(g:n<=1000000)(b c:Nat)(e:O=Â ⟨b,c,Á⟩)(x:ByteArray)(k:w.cell? ⟨b,c+j,Á⟩=Â (Ä x))(l:m+x.size<=140737488355328) (d:∀a,E2 O n i sep ((m+x.size:Nat):Int) ((j+1:Nat):Int) a->K a w): ß À Mk (Exit.then K<|QE 1 X) (E1 O n i sep m j u) w:=by
 unfold E1;conv=>arg 2;whnf
 subst e;have H:=fg d;clear d;go_wp2_with fail;exact H.out _ (gu _)
def J1(O:Option û)(n i:Nat)(sep:ByteArray)(b:Nat)(xs:List ByteArray)(u:Í)(a:Ĉ)(w:Í):Prop:=
 ∃j:Nat,E2 O n i sep ((b+iN (xs.take j):Nat):Int) j a/\j<=n/\w=u
def J1E(O:Option û)(n i:Nat)(sep:ByteArray)(b:Nat)(xs:List ByteArray)(u:Í)(a:Ĉ)(w:Í):Prop:=
 E2 O n i sep ((b+iN xs:Nat):Int) n a/\w=u
def Mp(n:Nat)(a:Ĉ)(_:Í):Nat:=match a.tmps.getD 41 ĸ with
 |Å _ i=>n-i.toNat
 |_=>0
def aaI(b:E2 O n i sep h j y):Mp n y w=n-j:=by obtain⟨u,rfl⟩:=b;show n-(j:Int).toNat=_;simp
theorem ao2(r:n=xs.length)(f:n<=1000000)(g:nJ O (kJ xs) u)(s:j+iN xs<=140737488355328)(a:Ĉ)(w:Í)(h:J1 O n i sep j xs u a w): ß À Mk (Exit.then (λb c=>J1 O n i sep j xs u b c/\Mp n b c<Mp n a w)<|QE 1<|J1E O n i sep j xs u) a w:=by
 obtain⟨b,d,t,rfl⟩:=h;rw[aaI d];obtain⟨c,rfl⟩:=d;by_cases k:b=n
 .subst k;refine ao0 c _ λa q=>⟨?_,U⟩;grind
 .obtain⟨x,e⟩:∃x,xs[b]?=Â x:=⟨_,Ó Z⟩;let⟨l,m,o,p⟩:=g b (Ä x) (by simp[kJ,e]);have v:iN (xs.take<|b+1)=iN (xs.take b)+x.size:=by
   rw[Ĩ,e,TV];simp[iN]
  have y:=aaH xs<|b+1;refine ao1 c _ b Z f l m o x p Z λa q=>⟨⟨b+1,?_,Z,U⟩,by rw[aaI q];omega⟩;grind
def ao3(u:Nat->Ñ)(c:∀a,E3 O n i b sep n a->X a w): ß À Ml (Exit.then K<|QE 3 X) (qG O n i b sep n u) w:=by
 unfold qG;conv=>arg 2;whnf
 go_wp2_with fail
 exact⟨U,c _ (gu _)⟩
def ao4(c:Nat->Ñ)(j:Nat)(z:j<n)(B:n<=1000000)(d f:Nat)(p:O=Â ⟨d,f,Á⟩)(x:ByteArray)(q:u.cell? ⟨d,f+j,Á⟩=Â (Ä x))(l:List UInt8)(g:oY u b (Ö l) w)(r:sep.size=1)(C:l.length+1+x.size<=140737488355328) (s:∀a k,E3 O n i b sep ((j+1:Nat):Int) a->oY u b (Ö<|l++(sep.data.toList++x.data.toList)) k->K a k): ß À Ml (Exit.then K<|QE 3 X) (qG O n i b sep j c) w:=by
 unfold qG;conv=>arg 2;whnf
 subst p;have D:=g.r.r q id;have m:=Lib.byteCells_length l;have t:(Ö l++į sep).length=l.length+1:=by rw[Ø,m,Lib.strCells_length,r]
 have E:Ö l++į sep++į x=Ö (l++(sep.data.toList++x.data.toList)):=by simp[Ö,į]
 have H:=fg<|Ê g<|Ê s<|Ê m<|Ê t E;go_wp2_with (first
  |(go_at_call 38;refine(TU v.out x<|by rw[H.out.2.2.2.1];omega).mono ?_;rintro e F ⟨rfl,o⟩;have y:=fg o;clear o)
  |(go_at_call 38;refine(TU H.out.1 sep (by rw[H.out.2.2.1];omega)).mono ?_;rintro e F ⟨rfl,o⟩;have v:=fg o;clear o))
 apply H.out.2.1 _ _ (gu _);rw[<-H.out.2.2.2.2];exact y.out
def J2(O:Option û)(n i b:Nat)(sep:ByteArray)(c:List UInt8)(xs:List ByteArray)(u:Í)(a:Ĉ)(w:Í):Prop:=
 ∃j:Nat,E3 O n i b sep j a/\j<=n/\oY u b (Ö<|c++nK sep (xs.take j)) w
def J2E(O:Option û)(n i b:Nat)(sep:ByteArray)(c:List UInt8)(xs:List ByteArray)(u:Í)(a:Ĉ)(w:Í):Prop:=
 E3 O n i b sep n a/\oY u b (Ö<|c++nK sep xs) w
def Mq(n:Nat)(a:Ĉ)(_:Í):Nat:=match a.tmps.getD 65 ĸ with
 |Å _ i=>n-i.toNat
 |_=>0
def aaJ(c:E3 O n i b sep j y):Mq n y w=n-j:=by obtain⟨u,rfl⟩:=c;show n-(j:Int).toNat=_;simp
theorem ao5{d:List UInt8}(z:n=xs.length)(h:n<=1000000)(k:sep.size=1)(l:nJ O (kJ xs) u)(B:d.length+iN xs+n<=140737488355328)(a:Ĉ)(w:Í)(m:J2 O n i b sep d xs u a w): ß À Ml (Exit.then (λc e=>J2 O n i b sep d xs u c e/\Mq n c e<Mq n a w)<|QE 3<|J2E O n i b sep d xs u) a w:=by
 let⟨j,g,C,o⟩:=m;rw[aaJ g];obtain⟨c,rfl⟩:=g;by_cases p:j=n
 .subst p;refine ao3 c λa q=>⟨q,?_⟩;grind
 .obtain⟨x,f⟩:∃x,xs[j]?=Â x:=⟨_,Ó Z⟩;let⟨r,s,t,v⟩:=l j (Ä x) (by simp[kJ,f]);have D:iN (xs.take<|j+1)=iN (xs.take j)+x.size:=by
   rw[Ĩ,f,TV];simp[iN]
  have E:=aaH xs<|j+1;have y:(d++nK sep (xs.take j)).length=d.length+iN (xs.take j)+j:=by grind [Ø,Mn,Ś]
  have F:nK sep (xs.take<|j+1)=nK sep (xs.take j)++(sep.data.toList++x.data.toList):=by rw[Ĩ,f];simp[nK]
  refine ao4 c j Z h r s t x v _ o k (by rw[y];omega) λa e q G=>⟨⟨j+1,q,Z,?_⟩,by rw[aaJ q];omega⟩;grind
end
section
variable{sep:ByteArray}{xs:List ByteArray}
def jB(sep:ByteArray)(xs:List ByteArray):ByteArray:=⟨(Mm sep xs).toArray⟩
def ao6:Ò À 21 #[Ç O 0 i,Ä sep] w λe a=>e=Æ (Ä ⟨#[]⟩)/\fe fi w a:=by go_enter ē,Ŏ;go_wp2_with fail;go_ret;exact⟨U,fe.fX _ _⟩
def ao7(a b:Nat)(x:ByteArray)(d:w.cell? ⟨a,b,Á⟩=Â (Ä x)):Ò À 21 #[Ç (Â ⟨a,b,Á⟩) 1 i,Ä sep] w λe c=>e=Æ (Ä x)/\fe fi w c:=by go_enter ē,Ŏ;go_wp2_with fail;go_ret;exact⟨U,fe.fX _ _⟩
theorem ao8(k:Nat)(L:1<=k)(M:k<1000000)(c d:Nat)(N:k+1<=i)(C:sep.size=1)(x:ByteArray)(g:k=xs.length)(f:nJ (Â ⟨c,d,Á⟩) (kJ<|x::xs) w)(D:iN (x::xs)+(k+1)<=140737488355328): Ò À 21 #[Ç (Â ⟨c,d,Á⟩) (k+1) i,Ä sep] w λe b=>e=Æ (Ä<|jB sep<|x::xs)/\fe fi w b:=by
 have E:iN (x::xs)=x.size+iN xs:=by simp[iN]
 have n:∀a,E2 (Â ⟨c,d,Á⟩) (k+1) i sep ((k+iN ((x::xs).take 0):Nat):Int) (0:Nat) a->ß À (ń Mk) (QE 1<|J1E (Â ⟨c,d,Á⟩) (k+1) i sep k (x::xs) w) a w:=λa l=>
  Β (J1 (Â ⟨c,d,Á⟩) (k+1) i sep k (x::xs) w) (Mp<|k+1) ⟨0,l,Ù _,U⟩<|ao2 (by simp[g]) Z f Z
 have p:nJ (Â ⟨c,d+1,Á⟩) (kJ xs) w:=λj u F=>by let⟨b,o,B,m⟩:=f (j+1) u (by simpa[kJ]using F);grind
 have q:∀a W,E3 (Â ⟨c,d+1,Á⟩) k (i-1) w.heap.size sep (0:Nat) a->oY w w.heap.size (Ö<|x.data.toList++nK sep (xs.take 0)) W->ß À (ń Ml) (QE 3<|J2E (Â ⟨c,d+1,Á⟩) k (i-1) w.heap.size sep x.data.toList xs w) a W:=λa W l o=>
  Β (J2 (Â ⟨c,d+1,Á⟩) k (i-1) w.heap.size sep x.data.toList xs w) (Mq k) ⟨0,l,Ù _,o⟩<|ao5 g Z C p (by simp only[ě];have:x.data.size=x.size:=rfl;omega)
 let⟨_,_,G,r⟩:=f 0 (Ä x) U;cases G;have s:w.cell? ⟨c,d,Á⟩=Â (Ä x):=r;have t:x.data.toList++nK sep xs≠[]:=by grind [Ø,Mn,Ũ]
 have O:(1:Int)<9223372036854775807/(k:Int):=by rw[Int.lt_iff_add_one_le,Int.le_ediv_iff_mul_le Z];omega
 have y:0<k+iN (x::xs)/\k+iN (x::xs)<=281474976710656:=Z
 have z:(Ö []).length+x.size<=140737488355328:=by simp[Ö];omega
 have H:=fg<|Ê n<|Ê q<|Ê y<|Ê z<|Ê t s;clear n q y z t r s f p g D E;generalize I:iN (x::xs)=S at*;go_enter ē,Ŏ;go_wp2_with fail;refine İ ?_ (H.out.1 _ (gu _));rintro(_|_|_|_|_|_) a v hq;all_goals first|exact absurd hq id|skip
 obtain⟨rfl,b,rfl⟩:=hq;rw[I]at b;obtain⟨u,rfl⟩:=b;unfold E1;go_wp2_with (first
  |(go_at_call 37;refine(aoY ⟨æ _,fe.gJ _ _ _ _,fj.N v [Ã Á,Ç Á 0 0] 100⟩ (k+S) H.out.2.2.1.1 H.out.2.2.1.2).mono ?_;rintro e J ⟨rfl,m⟩;have K:=m.r.r H.out.2.2.2.2.2 id;have B:=fg m;clear m)
  |(go_at_call 38;refine(TU B.out x H.out.2.2.2.1).mono ?_;rintro e m ⟨rfl,B⟩;have J:=fg B;clear B))
 have K:oY v v.heap.size (Ö<|x.data.toList++nK sep (xs.take 0)) m:=by have:=J.out;show oY v v.heap.size (Ö<|x.data.toList++[]) m;rw[Ė];exact this
 refine İ ?_ (H.out.2.1 _ _ (gu _) K);rintro(_|_|_|_|_|_) a w3 hq;all_goals first|exact absurd hq id|skip
 obtain⟨rfl,b,o⟩:=hq;obtain⟨v,rfl⟩:=b;unfold qG;go_wp2_with (go_at_call 39;refine(aoZ (fg o).out H.out.2.2.2.2.1).mono ?_;rintro e P ⟨rfl,B⟩;have J:=fg B;clear B);go_ret;exact⟨U,J.out⟩
def TW(a:n=xs.length)(f:n<=1000000)(g:n<=i)(h:sep.size=1)(b:nJ O (kJ xs) w)(j:iN xs+n<=140737488355328): Ò À 21 #[Ç O n i,Ä sep] w λe c=>e=Æ (Ä<|jB sep xs)/\fe fi w c:=by
 cases xs with
 |nil=>subst a;exact ao6
 |cons x r=>
  let⟨c,d,k,l⟩:=b 0 (Ä x) U;subst k;cases r with
  |nil=>
   subst a;have e:jB sep [x]=x:=by show aB ((x.data.toList++[]).toArray)=x;rw[Ė]
   rw[e];exact ao7 c d x l
  |cons y r=>
   subst a;exact ao8 (r.length+1) Z (by simp at f;omega) c d g h x U b j
def ao9(a:n=xs.length)(c:n<=1000000)(d:n<=i)(j:nJ O (kJ xs) w)(f:iN xs+n<=140737488355328): Ò À 107 #[Ç O n i] w λe b=>e=Æ (Ä<|if xs=[]then⟨#[45]⟩else jB ⟨#[44]⟩ xs)/\fe fi w b:=by
 have H:=fg<|TW (sep:=⟨#[44]⟩) a c d U j f;by_cases b:xs=[]
 .subst b;have e:=a;subst e;rw[if_pos U];clear a f H c d;go_enter Γ,Ÿ;go_wp2_with fail;go_ret;exact⟨U,fe.fX _ _⟩
 .rw[if_neg b];have l:0<n:=by rw[a];exact Ņ.2 b
  have m:((n:Int)==0)=Ë:=by simp;omega
  clear a;generalize jB ⟨#[44]⟩ xs=z at*;go_enter Γ,Ÿ;go_wp2_with (go_at_call 21;apply H.out.mono;rintro e o ⟨rfl,g⟩;have k:=fg g;clear g);go_ret;exact⟨U,k.out⟩
end
def E4{M:Nat}:∀(a:List ByteArray),(∀z∈a,z.size<=M)->iN a<=M*a.length
 |[],_=>Ù _
 |x::r,h=>by
  have c:=E4 r λz b=>h z<|Ĕ _ b;have d:=h x fq;have e:iN (x::r)=x.size+iN r:=by simp[iN]
  rw[e,ď,Nat.mul_add];omega
def Mr{e:Nat×Int}(h:gk e.2):(sw e).size<=21:=by unfold sw;rw[ø];have:=yb e.1;have:=pI e.2.toNat (by have:=h.1;have:=h.2;omega);omega
def aaK{e:Int×Bool}(a:0<=e.1)(h:e.1<=400):(EY e).size<=41:=by unfold EY;rw[ø,ø];have:=pI e.1.toNat Z;have:=pI e.2.toNat (by cases e.2<;>decide);have:Ŭ ⟨#[58]⟩=1:=rfl;omega
section
variable{b:List ByteArray}
def aaL{ty:č}{base:Nat}(b:P.underlying t=Â (.slice e))(d:P.info? e=Â zJ)(h:w.ownsRow base e j v n l)(a:Option û)(c:Nat): (ė #[t,t] ty #[v,Ç a 0 c]).run P w=.ok v w:=by
 have f:(Ō zJ.size 0<|Ç a 0 c).run P w=.ok #[] w:=by cases a<;>simp[Ō,loadCells,loadCellsFrom]
 rcases h.2 with⟨rfl,rfl⟩|⟨g,m,o,rfl,_,_,k,_⟩
 .simp[ė,ŭ b,sizeOf,typeInfo,d,Ź,f,ν]
 .simp[ė,ŭ b,sizeOf,typeInfo,d,Ź,f,k,ν]
def apa{r:Array ĝ}{t:List ĝ}(l:o.guard=Á)(s c:Operand) (m:o.op=.call {callee:=.builtin κ,args:=#[s,c],argTypes:=#[54,54]}) (d:ij u v vX w) (n:y.eval s=v) {base:Nat} (B:w.ownsRow base 9 1 x b.length (kJ b)) (e:y.eval c=x) (I:vX.length+b.length<=1000000) (h:∀j k,ij u j (vX++b) k->wpList À r vJ t (y.put o.dst j) k):wpList À r vJ (o::t) y w:=by
 let⟨J,p,D,E,F⟩:=Ů zW;rcases B.2 with⟨f,G⟩|⟨g,H,L,f,_⟩
 .have z:=Ý G;subst z;rw[f]at e;refine Δ l λK i=> ?_;have q:=aaL (ty:=o.type) ĩ p d.ft Á 0;unfold Oper.wp ś;simp only[m,ρ,ar,ς,Sem.run_bind,Sem.run_pure,ŏ,Ŝ,ŉ,Ő,n,e,q];exact i _ _<|h v w<|by rwa[Ė]
 .by_cases C:b=[]
  .subst C;rw[f]at e;refine Δ l λK i=> ?_;have q:=aaL (ty:=o.type) ĩ p d.ft (Â ⟨g,0,Á⟩) H;unfold Oper.wp ś;simp only[m,ρ,ar,ς,Sem.run_bind,Sem.run_pure,ŏ,Ŝ,ŉ,Ő,n,e,q,Ũ];exact i _ _<|h v w<|by rwa[Ė]
  .have K:=Ņ.2 C;refine B4 l s c 54 m ĩ p D E F U n d.ft ⟨g,0,Á⟩ (kJ b) (e.trans f) K (by simp[kJ]) (B.cells<|by rw[f];rfl) (λi q=>by unfold kJ at q;obtain⟨z,_,rfl⟩:=Ú.1 q;rfl) (by unfold ī;omega) Z d.r.M ?_;intro j k z;refine h j k ⟨?_,d.r.C z.r λi M q=> ?_⟩
   .have:=z.ft;rwa[show kJ vX++kJ b=kJ (vX++b) by simp[kJ],show vX.length+b.length=(vX++b).length by simp]at this
   .have:=(d.ft.lt i q).1;omega
end
def ij.I(h:ij u (Ç O n i) vX w):nJ O (kJ vX) w/\n=vX.length/\n<=i:=by
 rcases h.ft.2 with⟨b,d⟩|⟨g,f,k,b,_,_,d,_⟩
 .cases b;refine⟨λj x e=> ?_,d.symm,æ _⟩;rw[Ý d]at e;cases e
 .have e:n=vX.length:=by injection b
  subst e;injection b with _ _ h4;exact⟨nJ.r h.ft,U,by rwa[h4]⟩
def E5(r:B9):ByteArray:=jB ⟨#[44]⟩<|[fH r.C.toNat,fH r.I.toNat,fH r.r.toNat]++r.M.map sw
theorem apb(x y:Nat)(g k:Int)(b c:Nat)(a:Bool)(f:List (Nat×Int))(M:b<18446744073709551616)(N:c<18446744073709551616)(V:f.length<=400000)(W:xY f)(X:lN w) (T:Ò À 142 #[Ã<|Â ⟨i,0,Á⟩,Å É x,Å É y,Å ã g,Å ã k] w λe j=>∃C,e=Æ (ë #[.agg #[Å ã b,õ a,Å ã c],C])/\j.ownsRow 0 250 2 C f.length (kr f)/\fe fi w j): Ò À 103 #[Ã<|Â ⟨i,0,Á⟩,Å É x,Å É y,Å ã g,Å ã k] w λe j=>e=Æ (Ä<|jB ⟨#[44]⟩<|[fH a.toNat,fH c,fH b]++f.map sw)/\fe fi w j:=by
 have O:a.toNat<18446744073709551616:=by cases a<;>decide
 have H:=fg<|Ê T<|Ê X W;go_enter Tryz.func103,Tryz.ntmps103;go_wp2_with (go_at_call 142;apply H.out.1.mono;rintro e l ⟨C,rfl,q,d⟩;obtain⟨B,S,rfl⟩:=jL q;have D:=fg<|Ê d q;clear d q);change ß À _ _ _ (l.alloc<|Û #[Å ã b,õ a,Å ã c] 245);have E:=(fe.gJ fi l #[Å ã b,õ a,Å ã c] 245).fh<|fe.fU _ _;have F:=(H.out.2.1.r D.out.1).r E;have p:=(fj.N l [Å ã b,õ a,Å ã c] 245).I (fe.fU fi _) id;have P:=D.out.1.fh E;have Y:=ig D.out.2 E λ_ _=>id;refine mr (λj=>j.cell? ⟨l.heap.size,0,Á⟩=Â (Å ã b)/\j.cell? ⟨l.heap.size,1,Á⟩=Â (õ a)/\j.cell? ⟨l.heap.size,2,Á⟩=Â (Å ã c)) [] fv ?_;have m:=fg<|Ê (p.r 0 _ rfl)<|Ê (p.r 1 _ rfl)<|p.r 2 _ rfl;generalize l.heap.size=ob at*;generalize ξ (l.alloc<|Û #[Å ã b,õ a,Å ã c] 245)=w5 at*;iterate 3 apply tk m.out
 apply tk m.out 5;apply tk m.out 6;apply tk m.out 8;apply tk m.out 9;apply tk m.out 10;apply gE 3;intro K d;go_simp;go_at_call 143;refine(HU _ _).mono ?_;rintro e w2 ⟨rfl,qT⟩;subst w2;rw[aaz];apply d.out _ _ λ_=>m.out;apply gE 4;intro K d;go_simp;go_at_call 102;refine(xZ a.toNat O _ F).mono ?_;rintro e wa ⟨rfl,r⟩;have s:=p.I r id;have Q:=F.r r;apply d.out _ _ λ_=>⟨s.r 0 _ U,s.r 1 _ U,s.r 2 _ U⟩;apply gE 7;intro K d;go_simp;go_at_call 102;refine(xZ c N _ Q).mono ?_;rintro e wb ⟨rfl,t⟩;have u:=s.I t id;have Pb:=Q.r t;apply d.out _ _ λ_=>⟨u.r 0 _ U,u.r 1 _ U,u.r 2 _ U⟩;apply gE 11;intro K d;go_simp;go_at_call 102;refine(xZ b M _ Pb).mono ?_;rintro e n ⟨rfl,G⟩;have v:=u.I G id;have o:=v.I (fe.gJ fi n #[Ä<|fH a.toNat,Ä<|fH c,Ä<|fH b] 9) id;apply d.out _ _ λ_=>⟨v.r 0 _ U,v.r 1 _ U,v.r 2 _ U⟩;apply gE 12;intro K d;go_simp;apply d.out _ _ λ_=>⟨o.r 0 _ U,o.r 1 _ U,o.r 2 _ U⟩;apply gE 13;intro K d;go_simp;apply d.out _ _ λ_=>⟨o.r 0 _ U,o.r 1 _ U,o.r 2 _ U⟩;refine ma fv ?_ _;have I:fe fi w5 (n.alloc<|Û #[Ä<|fH a.toNat,Ä<|fH c,Ä<|fH b] 9):=((r.fh t).fh G).fh<|fe.gJ _ _ _ _;have T6:ij w (Ç (Â ⟨n.heap.size,0,Á⟩) 3 3) [fH a.toNat,fH c,fH b] (n.alloc<|Û #[Ä<|fH a.toNat,Ä<|fH c,Ä<|fH b] 9):=⟨World.ownsRow_lit n #[Ä<|fH a.toNat,Ä<|fH c,Ä<|fH b] 3 (Ì P.M ((r.fh t).fh G).M) (by unfold ī;omega) U,P.fh I⟩;have L6:=ig Y I λ_ _=>id;have P6:=F.r I;have J:=fg<|Ê T6<|Ê L6 P6;generalize n.alloc (Û #[Ä<|fH a.toNat,Ä<|fH c,Ä<|fH b] 9)=w6 at*;generalize n.heap.size=tb at*;have kg:∀z∈[fH a.toNat,fH c,fH b]++f.map sw,z.size<=21:=λz hz=>by
  rcases â.1 hz with q|q
  .have h1:=pI a.toNat O;have h2:=pI c N;have B:=pI b M;grind
  .obtain⟨e,B,rfl⟩:=Ú.1 q;exact Mr (H.out.2.2 e B).2
 have sV:=E4 _ kg;have hlen:([fH a.toNat,fH c,fH b]++f.map sw).length=3+f.length:=by simp;omega
 have L:=fg<|Ê sV hlen;go_wp2_with (first
  |(go_at_call 108;refine(aay U V H.out.2.2 J.out.2.2<|nJ.r J.out.2.1).mono ?_;rintro e B ⟨lt,rfl,q⟩;obtain⟨ta,tc,rfl⟩:=jL q.ft;rw[ù]at q;have S:=fg q;clear q)
  |(at_builtin;refine apa U _ _ U (J.out.1.fO S.out.r) U S.out.ft U (by simp;omega) ?_;intro cv w8 B;obtain⟨ca,cc,rfl⟩:=jL B.ft;generalize([fH a.toNat,fH c,fH b]++f.map sw).length=cn at B|-;have q:=fg B;clear B)
  |(go_at_call 21;refine(TW q.out.I.2.1 (by have:=q.out.I.2.1;rw[this,L.out.2];omega) q.out.I.2.2 U q.out.I.1 (by have:=q.out.I.2.1;have h1:=L.out.1;have h2:=L.out.2;omega)).mono ?_;rintro e w9 ⟨rfl,B⟩;have S:=fg B;clear B))
 go_ret;exact⟨U,q.out.r.fh S.out⟩
def apc{s:St}(v:mA i s h w)(b:gK s)(z:iM w)(B:lN w)(x y:Nat)(g k:Int)(c:x<8)(d:y<8)(f:0<=g)(j:g<=100000)(l:gk k): Ò À 103 #[Ã<|Â ⟨i,0,Á⟩,Å É x,Å É y,Å ã g,Å ã k] w λe q=>e=Æ (Ä<|E5<|gf s [] x y g k)/\fe fi w q:=by have T:=aav v b z x y g k c d f j l _ U;have e:=LK s [] x y g k b c d l f j (by simp;omega);have m:=TF s [] x y g k b c d l f j (by simp;omega) (λ_ q=>by cases q);obtain⟨q,o,a,t,p,C⟩:∃q o a t p,gf s [] x y g k=⟨q,o,a,t,p⟩:=⟨_,_,_,_,_,U⟩;rw[C]at T e m|-;have D:=e.C;have E:=e.r;have r:=e.M;have u:=e.I;simp only at D E r u m T;obtain⟨F,rfl⟩:∃n:Nat,q=n:=⟨q.toNat,Z⟩;obtain⟨G,rfl⟩:∃n:Nat,a=n:=⟨a.toNat,by have:=r.1;omega⟩;exact apb x y g k F G o p Z (by have:=r.2;omega) (by simp at u;omega) m B T
def qy(w:Í):Prop:=w.cell? ⟨4,15,Á⟩=Â (Å Ū 4)
def qy.r(h:qy w)(k:fe fi w u):qy u:=k.r h id
def apd(c:qy w):Ò À 191 #[Å ã 16] w λe a=>e=Æ (Å É 4)/\a=w:=by
 unfold qy at c;have b:ã.wrap (bits BinOp.and ã 16 (ã.wrap<|-16)*285870213051353865)/288230376151711744=15:=A
 go_enter Tryz.func191,Tryz.ntmps191;go_wp2;go_ret;exact⟨U,U⟩
def tz(c:qy w):Ò À 185 #[Å ã 16] w λe a=>e=Æ (Å É 4)/\a=w:=by go_enter Tryz.func185,Tryz.ntmps185;go_wp2_with (go_at_call 191;refine(apd c).mono ?_;rintro e a ⟨rfl,b⟩;subst a);go_ret;exact⟨U,U⟩
def ape:Ò À 184 #[Å É 16] w λe a=>e=Æ (õ Î)/\a=w:=by
 have b:bits BinOp.and É 16 15=0:=A
 go_enter Tryz.func184,Tryz.ntmps184;go_wp2;go_ret;simp_all
def pJ(d:Nat):UInt8:=if h:d<36 then(⟨#[48,49,50,51,52,53,54,55,56,57,97,98,99,100,101,102,103,104,105,106,107,108,109,110,111,112,113,114,115,116,117,118,119,120,121,122]⟩:ByteArray)[d]'h else 0
def uW:Nat->Nat->List UInt8->List UInt8
 |0,_,acc=>acc
 |k+1,n,acc=>if n<16 then pJ n::acc else uW k (n/16) (pJ (n%16)::acc)
def aaM:∀k n a,(uW k n a).length<=k+a.length
 |0,_,a=>by simp[uW]
 |k+1,n,a=>by
  unfold uW;split
  .simp;omega
  .have:=aaM k (n/16)<|pJ (n%16)::a;simp at this;omega
noncomputable def Ms:Ο:=(Tryz.f174.body.bind kz).getD aj
def E6(a:Nat)(n i:Int)(u:Nat->Ñ):Ĉ:=⟨#[u 0,Å ã n,Å É 16,õ Ë,õ Ë,u 5,u 6,u 7,u 8,u 9,Ç Á 0 0,u 11,Ã<|Â ⟨a,0,Á⟩,Å É i,Å ã 4,Å ã 16,Å ã 15,u 17,u 18,u 19,u 20,u 21,u 22,u 23,u 24,u 25,u 26,u 27,u 28,u 29,u 30,u 31,u 32,u 33,u 34,u 35,u 36,u 37,u 38,u 39,u 40,u 41,u 42,u 43,u 44,u 45,u 46,u 47,u 48,u 49,u 50,u 51,u 52,u 53,u 54,u 55,u 56,u 57,u 58,u 59,u 60,u 61,u 62,u 63,u 64,u 65,u 66,u 67,u 68,u 69,u 70,u 71,u 72,u 73,u 74,u 75,u 76,u 77,u 78,u 79,u 80,u 81,u 82,u 83,u 84,u 85,u 86,u 87,u 88,u 89,u 90,u 91,u 92,u 93,u 94,u 95,u 96,u 97,u 98,u 99,u 100,u 101],[]⟩
def E7(b:Nat)(n i:Int)(a:Ĉ):Prop:=∃u,a=E6 b n i u
def zc(i:Nat)(a:List UInt8):List Ñ:=Ą i (Å Ū 0)++Ö a
def aaN(i:Nat)(a:List UInt8):(zc i a).length=i+a.length:=by simp[zc,Ö]
theorem aaO(i:Nat)(a:List UInt8)(c:UInt8):(zc (i+1) a).set i (Å Ū c.toNat)=zc i (c::a):=by unfold zc;rw[List.replicate_succ',ő,Ĵ _ _ fq];simp[Ö]
section
variable{X:Ĉ->Í->Prop}
def apf(u:Nat->Ñ)(n b:Nat)(d:n<16)(c:∀a,E7 i n b a->X a w): ß À Ms (Exit.then K<|QE 0 X) (E6 i n b u) w:=by
 unfold E6;conv=>arg 2;whnf
 go_wp2_with fail
 exact⟨U,c _ (gu _)⟩
def apg(u:Nat->Ñ)(n b:Nat)(g:16<=n)(j:n<18446744073709551616)(k:b<65)(v:Ñ)(c:w.cell? ⟨i,b,Á⟩=Â v)(l:w.frozen? ⟨i,b,Á⟩=Ë) (e:∀a,E7 i ((n/16:Nat):Int) b a->K a (w.setCell ⟨i,b,Á⟩<|Å Ū (pJ<|n%16).toNat)): ß À Ms (Exit.then K<|QE 0 X) (E6 i n ((b+1:Nat):Int) u) w:=by
 unfold E6;conv=>arg 2;whnf
 have m:bits BinOp.and ã (n:Int) 15=((n%16:Nat):Int):=by have:=(bits_nat ã 64 A (λn f H=>by rw[Ć];omega) n 15 Z A).1;rwa[show(15:Nat)=2^4-1 from rfl,Nat.and_two_pow_sub_one_eq_mod]at this
 have f:n%16<36:=Z
 have o:(⟨#[48,49,50,51,52,53,54,55,56,57,97,98,99,100,101,102,103,104,105,106,107,108,109,110,111,112,113,114,115,116,117,118,119,120,121,122]⟩:ByteArray)[n%16]'f=pJ (n%16):=by unfold pJ;rw[dif_pos f]
 have H:=fg e;clear e;generalize p:n%16=d at*;go_wp2_with fail;exact H.out _ (gu _)
def XI(i:Nat)(u:Í)(d:List UInt8)(a:Ĉ)(w:Í):Prop:=
 ∃(n b:Nat) (c:List UInt8),E7 i n b a/\50<=b/\b+c.length=65/\n<16^(b-49)/\n<18446744073709551616/\fe (λk=>k=i) u w/\fj i (zc b c) 286 w/\uW (b-49) n c=d
def XE(i:Nat)(u:Í)(d:List UInt8)(a:Ĉ)(w:Í):Prop:=
 ∃(n b:Nat) (c:List UInt8),E7 i n b a/\n<16/\50<=b/\b+c.length=65/\fe (λk=>k=i) u w/\fj i (zc b c) 286 w/\pJ n::c=d
def Mt(a:Ĉ)(_:Í):Nat:=match a.tmps.getD 1 ĸ with
 |Å _ i=>i.toNat
 |_=>0
def aaP(b:E7 i n j y):Mt y w=n:=by obtain⟨u,rfl⟩:=b;show(n:Int).toNat=_;simp
theorem aph{h:List UInt8}(a:Ĉ)(w:Í)(o:XI i u h a w): ß À Ms (Exit.then (λb c=>XI i u h b c/\Mt b c<Mt a w)<|QE 0<|XE i u h) a w:=by
 let⟨n,b,f,l,p,r,s,t,m,e,d⟩:=o;rw[aaP l];obtain⟨c,rfl⟩:=l;obtain⟨j,rfl⟩:∃j,b=j+1:=⟨b-1,Z⟩;have x:j+1-49=(j-49)+1:=Z
 rw[x]at d s;unfold uW at d;by_cases g:n<16
 .rw[if_pos g]at d;exact apf c n (j+1) g λa q=>⟨n,j+1,f,q,g,p,r,m,e,d⟩
 .rw[if_neg g]at d;have y:50<=j:=by
   grind
  have C:(zc (j+1) f).length=65:=by rw[aaN];omega
  obtain⟨v,z⟩:∃v,(zc (j+1) f)[j]?=Â v:=⟨_,Ó Z⟩;have B:n/16<16^(j-49):=by grind
  refine apg c n j Z t Z v (e.r j v z) (e.C j) λa q=>⟨⟨n/16,j,pJ (n%16)::f,q,y,by simp;omega,B,Z,m.fh (fe.I (X:=λk=>k=i) U _<|Ï e.G),?_,d⟩,by rw[aaP q];omega⟩;have:=e.fS j<|Å Ū (pJ<|n%16).toNat;grind [aaO]
end
def apj:ú=(zc 65 []).toArray:=fv
def nL(n:Nat):ByteArray:=⟨(uW 16 n []).toArray⟩
theorem apk(n:Nat)(l:n<18446744073709551616)(o:qy w):Ò À 174 #[Ç Á 0 0,Å ã n,Å É 16,õ Ë,õ Ë] w λe p=>e=Æ (ë #[Ç Á 0 0,Ä<|nL n])/\fe fi w p:=by
 have L:∀a,E7 w.heap.size n (65:Nat) a->ß À (ń Ms) (QE 0<|XE w.heap.size (w.alloc<|Û ú 286)<|uW 16 n []) a (w.alloc<|Û ú 286):=λa r=>
  Β (XI w.heap.size (w.alloc<|Û ú 286)<|uW 16 n []) Mt ⟨n,65,[],r,Z,U,by show n<16^16;omega,l,fe.fX _ _,by rw[apj];exact fj.N w (zc 65 []) 286,U⟩ aph
 have H:=fg<|Ê o L;unfold nL;generalize uW 16 n []=res at*;go_enter Tryz.func174,Tryz.ntmps174;go_wp2_with (first
  |(go_at_call 184;refine ape.mono ?_;rintro e b ⟨rfl,c⟩;subst b)
  |(go_at_call 185;refine(tz (H.out.1.r kp)).mono ?_;rintro e b ⟨rfl,c⟩;subst b))
 refine İ (Q:=QE 0<|XE w.heap.size (w.alloc<|Û ú 286) res) ?_ (H.out.2 _ (gu _));rintro(_|_|_|_|_|_) a v hq;all_goals first|exact absurd hq id|skip
 obtain⟨rfl,m,i,c,s,E,F,G,x,b,d⟩:=hq;obtain⟨u,rfl⟩:=s;unfold E6;obtain⟨j,rfl⟩:∃j,i=j+1:=⟨i-1,Z⟩;have I:(zc (j+1) c).length=65:=by rw[aaN];omega
 obtain⟨z,y⟩:∃z,(zc (j+1) c)[j]?=Â z:=⟨_,Ó Z⟩;have J:=b.r j z y;have K:=b.C j;have M:(0:Int)<=(j:Int):=Z
 have N:(j:Int)<65:=Z
 have O:(j:Int)<=65:=Z
 have S:(0:Int)<=(m:Int):=Z
 have T:(m:Int)<36:=Z
 have f:m<36:=Z
 have V:(⟨#[48,49,50,51,52,53,54,55,56,57,97,98,99,100,101,102,103,104,105,106,107,108,109,110,111,112,113,114,115,116,117,118,119,120,121,122]⟩:ByteArray)[m]'f=pJ m:=by unfold pJ;rw[dif_pos f]
 have B:=(fe.gJ fi w ú 286).C x λi C q=>by omega
 have g:=b.fS j<|Å Ū (pJ m).toNat;rw[aaO,d]at g;have D:fe fi w (v.setCell ⟨w.heap.size,j,Á⟩<|Å Ū (pJ m).toNat):=B.C (fe.I (X:=λk=>k=w.heap.size) U _<|Ï b.G) λi C q=>by omega
 have W:res.length=65-j:=by rw[<-d];simp;omega
 have Y:(convert 98 9<|Ç (Â ⟨w.heap.size,j,Á⟩) (65-j)<|65-j).run À (v.setCell ⟨w.heap.size,j,Á⟩<|Å Ū (pJ m).toNat)=.ok (Ä ⟨res.toArray⟩) (v.setCell ⟨w.heap.size,j,Á⟩<|Å Ū (pJ m).toNat):=by have h:=run_convert_bytes_back (P:=À) (v.setCell ⟨w.heap.size,j,Á⟩<|Å Ū (pJ m).toNat) 98 9 5 ⟨w.heap.size,j,Á⟩ (65-j) res fv fv fv (λt k=>by rw[Addr.add_mid];apply g.r (j+t) _;unfold zc;rw[ğ fq];simp[Ö,Ó k]);grind
 have k:=fg D;go_wp2;go_ret2;simp_all
def apl(n:Nat)(b:n<18446744073709551616)(c:qy w):Ò À 156 #[Å ã n,Å É 16] w λe a=>e=Æ (Ä<|nL n)/\fe fi w a:=by go_enter Tryz.func156,Tryz.ntmps156;go_wp2_with (go_at_call 174;refine(apk n b c).mono ?_;rintro e a ⟨rfl,d⟩);go_ret;exact⟨U,d⟩
def apm(n:Nat)(b:n<18446744073709551616)(c:qy w):Ò À 141 #[Å ã n,Å É 16] w λe a=>e=Æ (Ä<|nL n)/\fe fi w a:=by go_enter Tryz.func141,Tryz.ntmps141;go_wp2_with (go_at_call 156;refine(apl n b c).mono ?_;rintro e a ⟨rfl,d⟩);go_ret;exact⟨U,d⟩
def apn(s:ByteArray)(w:Í)(h:s.data.toList.head?=Â 48):Ò À 159 #[Ä s,Ä ⟨#[48]⟩] w λe b=>e=Æ (õ Î)/\b=w:=by
 have H:=Tryz.strings_HasPrefix s ⟨#[48]⟩ w;have e:ź s.data.toList (ů ⟨#[48]⟩).toList=Î:=by
  generalize s.data.toList=l at h;cases l with
  |nil=>cases h
  |cons a r=>cases h;rfl
 rwa[e]at H
def apo(s:ByteArray)(w:Í)(h:¬s.data.toList.head?=Â 48):Ò À 159 #[Ä s,Ä ⟨#[48]⟩] w λe b=>e=Æ (õ Ë)/\b=w:=by
 have H:=Tryz.strings_HasPrefix s ⟨#[48]⟩ w;have e:ź s.data.toList (ů ⟨#[48]⟩).toList=Ë:=by
  generalize s.data.toList=l at h;cases l with
  |nil=>rfl
  |cons a r=>
   have c:¬a=48:=λq=>h (by rw[q];rfl);show((48:UInt8)==a&&List.isPrefixOf [] r)=Ë;have:((48:UInt8)==a)=Ë:=beq_eq_false_iff_ne.2 λq=>c q.symm;rw[this];rfl
 rwa[e]at H
def z8(k:Nat):ByteArray:=σ ⟨#[48,48,48,48,48,48,48,48,48,48,48,48,48,48,48,48,48,48,48,48,48,48,48,48,48,48,48,48,48,48,48,48,48,48,48,48,48,48,48,48,48,48,48,48,48,48,48,48,48,48,48,48,48,48,48,48,48,48,48,48,48,48,48,48]⟩ 0 k
def apq(k:Nat)(d:2<=k)(f:k<=64):Ò À 144 #[Ä ⟨#[48]⟩,Å É k] w λe a=>e=Æ (Ä<|z8 k)/\a=w:=by
 have g:((k:Int)==0)=Ë:=by simp;omega
 have i:((k:Int)==1)=Ë:=by simp;omega
 have j:¬(k:Int)<0:=Z
 have l:(0:Int)<=(k:Int):=Z
 have m:(k:Int)<=64:=Z
 have n:ã.wrap (k:Int)=(k:Int):=by rw[Ć];omega
 have o:É.wrap (k:Int)=(k:Int):=by rw[ŝ];omega
 have M:=Tryz.bits_Mul 1 k A Z w;rw[show 1*k/18446744073709551616=0 by omega,show 1*k%18446744073709551616=k by omega]at M;have c:=fg M;go_enter Œ,Ŋ;go_wp2_with (first
  |(go_at_call 158;refine c.out.mono ?_;rintro e a ⟨rfl,b⟩;subst a)
  |(go_at_call 159;refine(apo _ _ A).mono ?_;rintro e a ⟨rfl,b⟩;subst a)
  |(go_at_call 159;refine(apn _ _ A).mono ?_;rintro e a ⟨rfl,b⟩;subst a))
 go_ret;exact⟨U,U⟩
def apr:Ò À 144 #[Ä ⟨#[48]⟩,Å É 0] w λe a=>e=Æ (Ä ⟨#[]⟩)/\a=w:=by go_enter Œ,Ŋ;go_wp2;go_ret;exact⟨U,U⟩
def aps:Ò À 144 #[Ä ⟨#[48]⟩,Å É 1] w λe a=>e=Æ (Ä ⟨#[48]⟩)/\a=w:=by go_enter Œ,Ŋ;go_wp2;go_ret;exact⟨U,U⟩
def apt(k:Nat)(a:k<=64):Ò À 144 #[Ä ⟨#[48]⟩,Å É k] w λe b=>e=Æ (Ä<|z8 k)/\b=w:=by
 match k with
 |0=>exact apr
 |1=>exact aps
 |k+2=>exact apq (k+2) Z a
def Mv(n:Nat):ByteArray:=z8 (16-(nL n).size)++nL n
def aaQ(n:Nat):(nL n).size<=16:=by show(uW 16 n []).toArray.size<=16;have:=aaM 16 n [];simpa using this
def aaR(k:Nat):(z8 k).size<=k:=by unfold z8;rw[Č];omega
def apu(n:Nat)(c:n<18446744073709551616)(d:qy w):Ò À 105 #[Å ã n] w λe a=>e=Æ (Ä<|Mv n)/\fe fi w a:=by
 have g:=aaQ n;have i:=aaR<|16-(nL n).size;have T:=apm n c d;have R:∀W:Í,Ò À 144 #[Ä ⟨#[48]⟩,Å É ((16-(nL n).size:Nat):Int)] W λe a=>e=Æ (Ä<|z8<|16-(nL n).size)/\a=W:=λW=>apt _ Z;have j:É.wrap ((16:Int)-((nL n).size:Int))=((16-(nL n).size:Nat):Int):=by rw[ŝ];omega
 have l:(16:Int)-((nL n).size:Int)=((16-(nL n).size:Nat):Int):=Z
 have m:¬9223372036854775807<(z8<|16-(nL n).size).size+(nL n).size:=Z
 unfold Mv;have H:=fg<|Ê T R;generalize o:z8 (16-(nL n).size)=zs at*;generalize p:16-(nL n).size=k at*;generalize nL n=fs at*;go_enter Tryz.func105,Tryz.ntmps105;go_wp2_with (first
  |(go_at_call 141;refine H.out.1.mono ?_;rintro e q ⟨rfl,b⟩;have f:=fg b;clear b)
  |(go_at_call 144;refine(H.out.2 _).mono ?_;rintro e b ⟨rfl,q⟩;subst b))
 go_ret;exact⟨U,f.out⟩
structure pK(r:Nat)(x y g k:Nat)(kind v v2:Int)(slot:Nat)(w:Í):Prop where
 I:w.cell? ⟨r,0,Á⟩=Â (Å É x)
 S:w.cell? ⟨r,1,Á⟩=Â (Å É y)
 a:w.cell? ⟨r,2,Á⟩=Â (Å É g)
 Y:w.cell? ⟨r,3,Á⟩=Â (Å É k)
 N:w.cell? ⟨r,4,Á⟩=Â (Å É kind)
 M:w.cell? ⟨r,5,Á⟩=Â (Å É v)
 c:w.cell? ⟨r,6,Á⟩=Â (Å É v2)
 b:w.cell? ⟨r,7,Á⟩=Â (Å É slot)
def ij.N(h:ij u v vX W)(k:fe fi w u):ij w v vX W:=by
 refine⟨⟨h.ft.1,?_⟩,k.fh h.r⟩;rcases h.ft.2 with q|⟨g,a,b,c,d,q⟩
 .exact È q
 .exact Ï ⟨g,a,b,c,Ì k.M d,q⟩
section
variable{cp r x y g slot:Nat}{v v2:Int}
def pK.C{w:Í}(h:pK r x y g k c v v2 slot w)(q:fe fi w u):pK r x y g k c v v2 slot u:= ⟨q.r h.I id,q.r h.S id,q.r h.a id,q.r h.Y id,q.r h.N id,q.r h.M id,q.r h.c id,q.r h.b id⟩
def apv(F:Ò À 97 #[Ç O n cp,Å É v] w λe b=>e=Æ (j1<|Â i)/\fe fi w b)(j:pK r x y g k 2 v v2 slot w)(q:x<8)(s:slot<16)(z:Nat)(l:w.cell? ⟨i,x*18+2+slot,Á⟩=Â (Å ã z)) (C:∀W,fe fi w W->Ò À 102 #[Å ã z] W λe b=>e=Æ (Ä B)/\fe fi W b): Ò À 51 #[Ç O n cp,Ã<|Â ⟨r,0,Á⟩] w λe b=>e=Æ (Ä B)/\fe fi w b:=by
 have t:=j.M;have o:=j.N;have u:(0:Int)<=(x:Int):=Z
 have D:(x:Int)<8:=Z
 have E:(0:Int)<=(slot:Int):=Z
 have G:(slot:Int)<16:=Z
 have H:=fg<|Ê F C;have d:=fg j;clear F C j;go_enter ó,í;go_wp2_with (go_at_call 97;apply H.out.1.mono;rintro e f ⟨rfl,c⟩;dsimp only[j1,ð];have m:=c.r o id;have a:=fg c;clear c);refine mr (λb=>b.cell? ⟨r,0,Á⟩=Â (Å É x)/\b.cell? ⟨r,7,Á⟩=Â (Å É slot)/\b.cell? ⟨i,x*18+2+slot,Á⟩=Â (Å ã z)) [] fv ?_;have p:=fg<|Ê ((d.out.C a.out).C<|fe.fU fi _).I<|Ê ((d.out.C a.out).C<|fe.fU fi _).b<|(a.out.fh<|fe.fU _ _).r l id;iterate 17 apply tk p.out
 apply gE 17;intro K f;go_simp;go_at_call 102;refine(H.out.2 _<|a.out.fh<|fe.fU _ _).mono ?_;rintro e I ⟨rfl,m⟩;have c:=fg m;clear m;dsimp only;apply f.out _ _ λ_=>⟨(d.out.C<|(a.out.fh<|fe.fU _ _).fh c.out).I,(d.out.C<|(a.out.fh<|fe.fU _ _).fh c.out).b,(((a.out.fh<|fe.fU _ _).fh c.out).r l id)⟩;clear f K;apply gE 18;intro K f;go_simp;apply f.out _ _ λ_=>⟨(d.out.C<|(a.out.fh<|fe.fU _ _).fh c.out).I,(d.out.C<|(a.out.fh<|fe.fU _ _).fh c.out).b,(((a.out.fh<|fe.fU _ _).fh c.out).r l id)⟩;clear f K;try simp only[Act.put,é,ü,ý]
 refine ma fv ?_ _;go_wp2_with fail;go_ret;exact⟨U,(a.out.fh<|fe.fU _ _).fh c.out⟩
def apw(F:Ò À 97 #[Ç O n cp,Å É v] w λe a=>e=Æ (j1<|Â i)/\fe fi w a)(f:pK r x y g k 3 v v2 slot w)(q:x<8)(z:Nat)(j:w.cell? ⟨i,x*18,Á⟩=Â (Å ã z)) (C:∀W,fe fi w W->Ò À 102 #[Å ã z] W λe a=>e=Æ (Ä B)/\fe fi W a): Ò À 51 #[Ç O n cp,Ã<|Â ⟨r,0,Á⟩] w λe a=>e=Æ (Ä B)/\fe fi w a:=by
 have s:=f.M;have o:=f.N;have t:(0:Int)<=(x:Int):=Z
 have u:(x:Int)<8:=Z
 have H:=fg<|Ê F C;have l:=fg f;clear F C f;go_enter ó,í;go_wp2_with (go_at_call 97;apply H.out.1.mono;rintro e d ⟨rfl,c⟩;dsimp only[j1,ð];have m:=c.r o id;have b:=fg c;clear c);refine mr (λa=>a.cell? ⟨r,0,Á⟩=Â (Å É x)/\a.cell? ⟨i,x*18,Á⟩=Â (Å ã z)) [] fv ?_;have p:=fg<|Ê ((l.out.C b.out).C<|fe.fU fi _).I<|(b.out.fh<|fe.fU _ _).r j id;iterate 12 apply tk p.out
 apply gE 12;intro K c;go_simp;go_at_call 102;refine(H.out.2 _<|b.out.fh<|fe.fU _ _).mono ?_;rintro e D ⟨rfl,m⟩;have d:=fg m;clear m;dsimp only;apply c.out _ _ λ_=>⟨(l.out.C<|(b.out.fh<|fe.fU _ _).fh d.out).I,(((b.out.fh<|fe.fU _ _).fh d.out).r j id)⟩;clear c K;apply gE 13;intro K c;go_simp;apply c.out _ _ λ_=>⟨(l.out.C<|(b.out.fh<|fe.fU _ _).fh d.out).I,(((b.out.fh<|fe.fU _ _).fh d.out).r j id)⟩;clear c K;try simp only[Act.put,é,ü,ý]
 refine ma fv ?_ _;go_wp2_with fail;go_ret;exact⟨U,(b.out.fh<|fe.fU _ _).fh d.out⟩
def apx(F:Ò À 97 #[Ç O n cp,Å É v] w λe c=>e=Æ (j1<|Â i)/\fe fi w c)(j:pK r x y g k 4 v v2 slot w)(p:g<=400)(q:k<18446744073709551616) (C:∀W,fe fi w W->Ò À 103 #[Ã<|Â ⟨i,0,Á⟩,Å É x,Å É y,Å ã g,Å ã k] W λe c=>e=Æ (Ä B)/\fe fi W c): Ò À 51 #[Ç O n cp,Ã<|Â ⟨r,0,Á⟩] w λe c=>e=Æ (Ä B)/\fe fi w c:=by
 have s:=j.M;have m:=j.N;have t:ã.wrap (k:Int)=(k:Int):=by rw[Ć];omega
 have u:ã.wrap (g:Int)=(g:Int):=by rw[Ć];omega
 have z:¬(400:Int)<(g:Int):=Z
 have D:(g:Int)<=400:=Z
 have H:=fg<|Ê F C;have b:=fg j;clear F C j;go_enter ó,í;go_wp2_with (go_at_call 97;apply H.out.1.mono;rintro e f ⟨rfl,d⟩;dsimp only[j1,ð];have l:=d.r m id;have o:=d.r b.out.a id;have a:=fg d;clear d);refine mr (λc=>c.cell? ⟨r,0,Á⟩=Â (Å É x)/\c.cell? ⟨r,1,Á⟩=Â (Å É y)/\c.cell? ⟨r,2,Á⟩=Â (Å É g)/\c.cell? ⟨r,3,Á⟩=Â (Å É k)) [] fv ?_;have o:=fg<|Ê ((b.out.C a.out).C<|fe.fU fi _).I<|Ê ((b.out.C a.out).C<|fe.fU fi _).S<|Ê ((b.out.C a.out).C<|fe.fU fi _).a ((b.out.C a.out).C<|fe.fU fi _).Y;iterate 23 apply tk o.out
 apply gE 23;intro K f;go_simp;go_at_call 103;refine(H.out.2 _<|a.out.fh<|fe.fU _ _).mono ?_;rintro e E ⟨rfl,l⟩;have d:=fg l;clear l;dsimp only;apply f.out _ _ λ_=>⟨(b.out.C<|(a.out.fh<|fe.fU _ _).fh d.out).I,(b.out.C<|(a.out.fh<|fe.fU _ _).fh d.out).S,(b.out.C<|(a.out.fh<|fe.fU _ _).fh d.out).a,(b.out.C<|(a.out.fh<|fe.fU _ _).fh d.out).Y⟩;clear f K;apply gE 24;intro K f;go_simp;apply f.out _ _ λ_=>⟨(b.out.C<|(a.out.fh<|fe.fU _ _).fh d.out).I,(b.out.C<|(a.out.fh<|fe.fU _ _).fh d.out).S,(b.out.C<|(a.out.fh<|fe.fU _ _).fh d.out).a,(b.out.C<|(a.out.fh<|fe.fU _ _).fh d.out).Y⟩;clear f K;try simp only[Act.put,é,ü,ý]
 refine ma fv ?_ _;go_wp2_with fail;go_ret;exact⟨U,(a.out.fh<|fe.fU _ _).fh d.out⟩
def apy(F:Ò À 97 #[Ç O n cp,Å É v] w λe b=>e=Æ (j1<|Â i)/\fe fi w b)(j:pK r x y g k 5 v v2 slot w)(p:k<18446744073709551616) (C:∀W,fe fi w W->Ò À 104 #[Ã<|Â ⟨i,0,Á⟩,Å É x,Å É y,Å ã k] W λe b=>e=Æ (Ä B)/\fe fi W b): Ò À 51 #[Ç O n cp,Ã<|Â ⟨r,0,Á⟩] w λe b=>e=Æ (Ä B)/\fe fi w b:=by
 have q:=j.M;have m:=j.N;have s:ã.wrap (k:Int)=(k:Int):=by rw[Ć];omega
 have H:=fg<|Ê F C;have c:=fg j;clear F C j;go_enter ó,í;go_wp2_with (go_at_call 97;apply H.out.1.mono;rintro e f ⟨rfl,d⟩;dsimp only[j1,ð];have l:=d.r m id;have a:=fg d;clear d);refine mr (λb=>b.cell? ⟨r,0,Á⟩=Â (Å É x)/\b.cell? ⟨r,1,Á⟩=Â (Å É y)/\b.cell? ⟨r,3,Á⟩=Â (Å É k)) [] fv ?_;have o:=fg<|Ê ((c.out.C a.out).C<|fe.fU fi _).I<|Ê ((c.out.C a.out).C<|fe.fU fi _).S ((c.out.C a.out).C<|fe.fU fi _).Y;iterate 17 apply tk o.out
 apply gE 17;intro K f;go_simp;go_at_call 104;refine(H.out.2 _<|a.out.fh<|fe.fU _ _).mono ?_;rintro e t ⟨rfl,l⟩;have d:=fg l;clear l;dsimp only;apply f.out _ _ λ_=>⟨(c.out.C<|(a.out.fh<|fe.fU _ _).fh d.out).I,(c.out.C<|(a.out.fh<|fe.fU _ _).fh d.out).S,(c.out.C<|(a.out.fh<|fe.fU _ _).fh d.out).Y⟩;clear f K;apply gE 18;intro K f;go_simp;apply f.out _ _ λ_=>⟨(c.out.C<|(a.out.fh<|fe.fU _ _).fh d.out).I,(c.out.C<|(a.out.fh<|fe.fU _ _).fh d.out).S,(c.out.C<|(a.out.fh<|fe.fU _ _).fh d.out).Y⟩;clear f K;try simp only[Act.put,é,ü,ý]
 refine ma fv ?_ _;go_wp2_with fail;go_ret;exact⟨U,(a.out.fh<|fe.fU _ _).fh d.out⟩
def apz(F:Ò À 97 #[Ç O n cp,Å É v] w λe a=>e=Æ (j1<|Â i)/\fe fi w a)(b:pK r x y g k 6 v v2 slot w)(z:Nat)(C:∀W,fe fi w W->Ò À 106 #[Ã<|Â ⟨i,0,Á⟩] W λe a=>e=Æ (Å ã z)/\fe fi W a)(d:∀W,fe fi w W->Ò À 105 #[Å ã z] W λe a=>e=Æ (Ä B)/\fe fi W a): Ò À 51 #[Ç O n cp,Ã<|Â ⟨r,0,Á⟩] w λe a=>e=Æ (Ä B)/\fe fi w a:=by
 have o:=b.M;have l:=b.N;have m:=fg d;clear d;have H:=fg<|Ê F C;have p:=fg b;clear F C b;go_enter ó,í;go_wp2_with (first
  |(go_at_call 97;refine H.out.1.mono ?_;rintro e j ⟨rfl,c⟩;dsimp only[j1,ð];have q:=c.r l id;have f:=fg c;clear c)
  |(go_at_call 106;refine(H.out.2 _ f.out).mono ?_;rintro e q ⟨rfl,c⟩;have j:=fg<|f.out.fh c;clear c)
  |(go_at_call 105;refine(m.out _ j.out).mono ?_;rintro e q ⟨rfl,c⟩;have f:=fg (j.out.fh c);clear c))
 go_ret;exact⟨U,f.out⟩
def apA(F:Ò À 97 #[Ç O n cp,Å É v] w λe b=>e=Æ (j1<|Â i)/\fe fi w b)(d:pK r x y g k 7 v v2 slot w)(o:Option û)(p q:Nat)(z:w.cell? ⟨i,144,Á⟩=Â (Ç o p q))(f:List ByteArray)(C:∀W,fe fi w W->Ò À 108 #[Ç o p q] W λe b=>∃l,e=Æ l/\ij W l f b)(s:∀W a m c,ij w (Ç a m c) f W->Ò À 107 #[Ç a m c] W λe b=>e=Æ (Ä B)/\fe fi W b): Ò À 51 #[Ç O n cp,Ã<|Â ⟨r,0,Á⟩] w λe b=>e=Æ (Ä B)/\fe fi w b:=by
 have K:=d.M;have D:=d.N;have E:=fg s;clear s;have H:=fg<|Ê F C;have L:=fg d;clear F C d;go_enter ó,í;go_wp2_with (first
  |(go_at_call 97;refine H.out.1.mono ?_;rintro e u ⟨rfl,j⟩;dsimp only[j1,ð];have G:=j.r D id;have I:=j.r z id;have t:=fg j;clear j)
  |(go_at_call 108;refine(H.out.2 _ t.out).mono ?_;rintro e G ⟨l,rfl,j⟩;obtain⟨I,J,rfl⟩:=jL j.ft;generalize f.length=tn at j|-;have u:=fg (show ij w (Ç I tn J) f G from j.N t.out);clear j)
  |(go_at_call 107;refine(E.out _ _ _ _ u.out).mono ?_;rintro e G ⟨rfl,j⟩;have t:=fg (u.out.r.fh j);clear j))
 go_ret;exact⟨U,t.out⟩
def apB(F:Ò À 97 #[Ç O n cp,Å É v] w λe b=>e=Æ (j1<|Â i)/\fe fi w b)(d:pK r x y g k 8 v v2 slot w)(o:Option û)(p q:Nat)(z:w.cell? ⟨i,146,Á⟩=Â (Ç o p q))(f:List ByteArray)(C:∀W,fe fi w W->Ò À 109 #[Ç o p q] W λe b=>∃l,e=Æ l/\ij W l f b)(s:∀W a m c,ij w (Ç a m c) f W->Ò À 107 #[Ç a m c] W λe b=>e=Æ (Ä B)/\fe fi W b): Ò À 51 #[Ç O n cp,Ã<|Â ⟨r,0,Á⟩] w λe b=>e=Æ (Ä B)/\fe fi w b:=by
 have K:=d.M;have D:=d.N;have E:=fg s;clear s;have H:=fg<|Ê F C;have L:=fg d;clear F C d;go_enter ó,í;go_wp2_with (first
  |(go_at_call 97;refine H.out.1.mono ?_;rintro e u ⟨rfl,j⟩;dsimp only[j1,ð];have G:=j.r D id;have I:=j.r z id;have t:=fg j;clear j)
  |(go_at_call 109;refine(H.out.2 _ t.out).mono ?_;rintro e G ⟨l,rfl,j⟩;obtain⟨I,J,rfl⟩:=jL j.ft;generalize f.length=tn at j|-;have u:=fg (show ij w (Ç I tn J) f G from j.N t.out);clear j)
  |(go_at_call 107;refine(E.out _ _ _ _ u.out).mono ?_;rintro e G ⟨rfl,j⟩;have t:=fg (u.out.r.fh j);clear j))
 go_ret;exact⟨U,t.out⟩
def apC(F:Ò À 97 #[Ç O n cp,Å É v] w λe c=>e=Æ (j1<|Â i)/\fe fi w c)(a:pK r x y g k 4 v v2 slot w)(l:400<g)(C:B=nV 6): Ò À 51 #[Ç O n cp,Ã<|Â ⟨r,0,Á⟩] w λe c=>e=Æ (Ä B)/\fe fi w c:=by
 have m:=a.M;have d:=a.N;have o:(400:Int)<(g:Int):=Z
 have H:=fg<|Ê F C;have f:=fg a;clear F C a;go_enter ó,í;go_wp2_with (first
  |(go_at_call 97;refine H.out.1.mono ?_;rintro e p ⟨rfl,b⟩;dsimp only[j1,ð];have q:=b.r d id;have s:=b.r f.out.a id;have j:=fg b;clear b)
  |(go_at_call 98;refine(EG 6 A _).mono ?_;rintro e b ⟨rfl,p⟩;subst b))
 go_ret;exact⟨by rw[H.out.2];rfl,j.out⟩
def apD(F:Ò À 97 #[Ç O n cp,Å É v] w λe a=>e=Æ (j1<|Â i)/\fe fi w a)(b:pK r x y g k 9 v v2 slot w)(C:B=nV 3)(d:∀W,fe fi w W->Ò À 97 #[Ç O n cp,Å É v2] W λe a=>e=Æ (j1 Á)/\fe fi W a): Ò À 51 #[Ç O n cp,Ã<|Â ⟨r,0,Á⟩] w λe a=>e=Æ (Ä B)/\fe fi w a:=by
 have q:=b.M;have l:=b.N;have m:=fg d;clear d;have H:=fg<|Ê F C;have o:=fg b;clear F C b;go_enter ó,í;go_wp2_with (first
  |(go_at_call 97;with_reducible refine H.out.1.mono ?_;rintro e j ⟨rfl,c⟩;dsimp only[j1,ð];have p:=c.r l id;have s:=c.r o.out.c id;have f:=fg c;clear c)
  |(go_at_call 97;refine(m.out _ f.out).mono ?_;rintro e c ⟨rfl,j⟩;dsimp only[j1,ð];have p:=fg<|f.out.fh j;clear j)
  |(go_at_call 98;refine(EG 3 A _).mono ?_;rintro e c ⟨rfl,j⟩;subst c))
 go_ret;exact⟨by rw[H.out.2];rfl,p.out⟩
def apE(F:Ò À 97 #[Ç O n cp,Å É v] w λe b=>e=Æ (j1<|Â i)/\fe fi w b)(f:pK r x y g k 9 v v2 slot w)(C:True)(q:∀W,fe fi w W->Ò À 97 #[Ç O n cp,Å É v2] W λe b=>e=Æ (j1<|Â j)/\fe fi W b)(o:List ByteArray)(s:∀W,fe fi w W->Ò À 110 #[Ã<|Â ⟨i,0,Á⟩,Ã<|Â ⟨j,0,Á⟩] W λe b=>∃p,e=Æ p/\ij W p o b)(t:∀W a m c,ij w (Ç a m c) o W->Ò À 107 #[Ç a m c] W λe b=>e=Æ (Ä B)/\fe fi W b): Ò À 51 #[Ç O n cp,Ã<|Â ⟨r,0,Á⟩] w λe b=>e=Æ (Ä B)/\fe fi w b:=by
 have M:=f.M;have E:=f.N;have G:=fg q;have u:=fg<|Ê s t;clear q s t;have H:=fg<|Ê F C;have I:=fg f;clear F C f;go_enter ó,í;go_wp2_with (first
  |(go_at_call 97;with_reducible refine H.out.1.mono ?_;rintro e z ⟨rfl,d⟩;dsimp only[j1,ð];have D:=d.r E id;have J:=d.r I.out.c id;have l:=fg d;clear d)
  |(go_at_call 97;refine(G.out _ l.out).mono ?_;rintro e D ⟨rfl,d⟩;dsimp only[j1,ð];have z:=fg (l.out.fh d);clear d))
 apply mr (λb=>True/\True) [] fv;have J:=fg<|Ê trivial trivial;iterate 8 apply tk J.out
 apply gE 8;intro K d;go_simp;go_at_call 110;refine(u.out.1 _<|z.out.fh<|fe.fU _ _).mono ?_;rintro e N ⟨p,rfl,l⟩;obtain⟨P,Q,rfl⟩:=jL l.ft;generalize o.length=tn at l|-;have D:=fg<|l.N<|z.out.fh<|fe.fU _ _;clear l;dsimp only;apply d.out _ _ λ_=>⟨trivial,trivial⟩;clear d K;apply gE 9;intro K d;go_simp;go_at_call 107;refine(u.out.2 _ _ _ _ D.out).mono ?_;rintro e S ⟨rfl,z⟩;have L:=fg<|D.out.r.fh z;clear z;dsimp only;apply d.out _ _ λ_=>⟨trivial,trivial⟩;clear d K;apply gE 10;intro K d;go_simp;apply d.out _ _ λ_=>⟨trivial,trivial⟩;clear d K;try simp only[Act.put,é,ü,ý]
 refine ma fv ?_ _;go_wp2_with fail;go_ret;exact⟨U,L.out⟩
def apF(F:Ò À 97 #[Ç O n cp,Å É v] w λe a=>e=Æ (j1 Á)/\fe fi w a)(b:pK r x y g k h v v2 slot w): Ò À 51 #[Ç O n cp,Ã<|Â ⟨r,0,Á⟩] w λe a=>e=Æ (Ä<|nV 3)/\fe fi w a:=by
 have f:=b.M;have H:=fg F;clear F b;go_enter ó,í;go_wp2_with (first
  |(go_at_call 97;refine H.out.mono ?_;rintro e i ⟨rfl,c⟩;dsimp only[j1,ð];have d:=fg c;clear c)
  |(go_at_call 98;refine(EG 3 A _).mono ?_;rintro e c ⟨rfl,i⟩;subst c))
 go_ret;exact⟨U,d.out⟩
end
structure Qn where
 x:Nat
 y:Nat
 g:Nat
 k:Nat
 r:Int
 v:Int
 C:Int
 I:Nat
structure Qn.Ok(q:Qn):Prop where
 x:q.x<8
 y:q.y<8
 g:q.g<1000000
 k:q.k<18446744073709551616
 auN:2<=q.r
 auO:q.r<=9
 v:-1<=q.v
 v2:-1<=q.C
 auP:q.I<16
def E8(a:List ByteArray):ByteArray:=if a=[]then⟨#[45]⟩else jB ⟨#[44]⟩ a
def Cp(a:List (Nat×fM))(p:fM)(q:Qn):ByteArray:=
 if q.r=2 then fH ((p.s q.x).C q.I).toNat
 else if q.r=3 then fH (p.s q.x).fx.toNat
 else if q.r=4 then if 400<q.g then nV 6 else E5 (gf p.s [] q.x q.y q.g q.k)
 else if q.r=5 then oX p.s q.x q.y q.k 0 401
 else if q.r=6 then Mv (ER p.s)
 else if q.r=7 then E8 (p.r.map sw)
 else if q.r=8 then E8 (p.C.map EY)
 else match mN a q.C with
  |none=>nV 3
  |some b=>E8<|rj p.s b.2.s 8
def rm(a:List (Nat×fM))(q:Qn):ByteArray:=
 match mN a q.v with
 |none=>nV 3
 |some p=>Cp a p.2 q
def TX{M:Nat}(b:∀z∈vX,z.size<=M)(d:M<=100)(f:vX.length<=400000)(h:ij w (Ç O m i) vX W): Ò À 107 #[Ç O m i] W λe g=>e=Æ (Ä<|E8 vX)/\fe fi W g:=by obtain⟨e,g,j⟩:=h.I;have k:=E4 vX b;have:M*vX.length<=100*400000:=Ű d f;exact ao9 g Z j e Z
def apG(s:St):ER s<18446744073709551616:=by unfold ER L4;exact Tv _ _<|aal λi=>aao _ _ _
theorem TY{b:ByteArray}(c:B.size<=1)(d:b.size<=1):(B++b).size<=2:=by grind
def aaS(s t:St):∀z∈rj s t 8,z.size<=2:=λz a=>by
 unfold rj at a;obtain⟨i,_,h⟩:=Ş.1 a;unfold zY ya at h;rcases â.1 h with h|h
 .rcases â.1 h with h|h
  .split at h
   .cases h
   .simp at h;subst h;exact TY (yb i)<|æ _
  .split at h
   .cases h
   .simp at h;subst h;exact TY (yb i)<|æ _
 .unfold ri at h;obtain⟨j,_,h⟩:=Ş.1 h;unfold Cn at h;split at h
  .cases h
  .simp at h;subst h;exact TY (yb i)<|aaD j
section
variable{cp:Nat}{vs:List (Nat×fM)}{q:Qn}
def apH(u:qx O n vs w)(S:n<=1000)(T:0<n)(hvo:∀p∈vs,TG p.2)(d:pK i q.x q.y q.g q.k q.r q.v q.C q.I w)(ok:q.Ok)(V:iM w)(o:lN w)(hd:qy w): Ò À 51 #[Ç O n cp,Ã<|Â ⟨i,0,Á⟩] w λe G=>e=Æ (Ä<|rm vs q)/\fe fi w G:=by
 have F:=Ma (cp:=cp) u S T q.v ok.v;unfold rm;cases B:mN vs q.v with
 |none=>
  rw[B]at F;exact apF F d
 |some p=>
  rw[B]at F;have h:=F;have X:=Iq B;have f:=u.M X;have j:=hvo p X;obtain⟨x,y,g,k,kind,v,C,Y⟩:=q;obtain⟨r,H,hg,I,se,rI,hv,Mw,J⟩:=ok;simp only at r H hg I se rI hv Mw J d h B|-;obtain⟨cb,_,cs⟩:=f.r.gU r;have Gt:gk (k:Int):=⟨Z,Z⟩;unfold Cp;simp only;split
  .rename_i e;subst e;have c:=cs Y J;have l:=f.C.C x Y;rw[<-ņ l.1]at c;exact apv h d r J _ c λW b=>xZ _ (by have:=l.1;have:=l.2;omega) W<|o.r b
  .split
   .rename_i e;subst e;have l:=f.C.fx x;rw[<-ņ l.1]at cb;exact apw h d r _ cb λW b=>xZ _ (by have:=l.1;have:=l.2;omega) W<|o.r b
   .split
    .rename_i e;subst e;split
     .rename_i hh;exact apC h d hh U
     .exact apx h d Z I λW b=>apc (f.r.r b id) f.C (V.r b id) (o.r b) x y g k r H Z Z Gt
    .split
     .rename_i e;subst e;exact apy h d I λW b=>aow (f.r.r b id) f.C (V.r b id) (o.r b) r H Gt
     .split
      .rename_i e;subst e;exact apz h d _ (λW b=>anQ (f.r.r b id) f.C) λW b=>apu _ (apG _)<|hd.r b
      .split
       .rename_i e;subst e;obtain⟨K,L,M,N⟩:=f.N;exact apA h d K _ L M _ (λW b=>aay U j.I j.C (o.r b)<|nJ.C N b) λW a m c t=>TX (λz P=>by obtain⟨e,D,rfl⟩:=Ú.1 P;exact Mr (j.C e D).2) Z (by rw[ù];exact j.I) t
       .split
        .rename_i e;subst e;obtain⟨K,L,M,N⟩:=f.S;exact apB h d K _ L M _ (λW b=>aoD U j.M j.r (o.r b)<|nJ.C N b) λW a m c t=>TX (λz P=>by obtain⟨e,D,rfl⟩:=Ú.1 P;exact aaK (j.r e D).1 (j.r e D).2) Z (by rw[ù];have:=j.M;omega) t
        .have e:kind=9:=Z
         subst e;have E:∀W,fe fi w W->Ò À 97 #[Ç O n cp,Å É C] W λe G=>e=Æ (j1 ((mN vs C).map (·.1)))/\fe fi W G:=λW b=>Ma (u.I b) S T C Mw;cases Q:mN vs C with
         |none=>
          rw[Q]at E;exact apD h d U E
         |some p2=>
          rw[Q]at E;exact apE h d trivial E _ (λW b=>aoP (f.r.r b id)<|(u.M<|Iq Q).r.r b id) λW a m c t=>TX (aaS _ _) Z (by have:=TP p.2.s p2.2.s 8;omega) t
end
end Go.Proofs.Y.gp
namespace Go.Proofs.Y.kt
open Go Go.Proofs Go.RowKit Go.Proofs.Y.Lift Go.Proofs.Y.gp
def ku(a:List (Nat×fM)):List fM:=a.map (·.2)
def aaT(d:fM)(l:List fM):fM:=l.foldl (λa b=>if a.h<b.h then b else a) d
theorem aaU:∀(a:List (Nat×fM)) (d:Nat×fM),(uT d a).2=aaT d.2 (ku a)
 |[],_=>rfl
 |x::r,d=>by show(uT (zR d x) r).2=aaT (if d.2.h<x.2.h then x.2 else d.2) (ku r);rw[aaU r];unfold zR;split<;>rfl
theorem T0{a b:List (Nat×fM)}(h:ku a=ku b)(v:Int):(mN a v).map (·.2)=(mN b v).map (·.2):=by
 have c:∀i:Nat,(a[i]?).map (·.2)=(b[i]?).map (·.2):=λi=>by have:=congrArg (λl:List fM=>l[i]?) h;simpa[ku]using this
 unfold mN;grind [aaU]
theorem apI{a b:List (Nat×fM)}(h:ku a=ku b):a.length=b.length:=by have:=congrArg List.length h;simpa[ku]using this
theorem aaV{a b:List (Nat×fM)}(h:ku a=ku b)(v:Int)(x:Nat)(gL:List Tx):rh a v x gL=rh b v x gL:=by have c:=T0 h v;unfold rh;grind [apI]
theorem apJ{a b:List (Nat×fM)}(h:ku a=ku b)(q:Qn):rm a q=rm b q:=by
 have c:=T0 h q.v;have d:=T0 h q.C;have e:∀p:fM,Cp a p q=Cp b p q:=λp=>by unfold Cp;grind
 unfold rm;grind
structure lV(s:List fM):Prop where
 I:0<s.length
 C:s.length<=40
 r:∀v∈s,TG v/\gK v.s/\0<=v.h/\v.h<s.length
def sx(a:List (Nat×fM))(v:Int)(x:Nat)(gL:List Tx):List fM:=ku a++(rh a v x gL).1.toList
def lV.M{f:List (Nat×fM)}(h:lV (ku f)){gL:List Tx}(j:∀t∈gL,t.Ok)(l:gL.length<=1000):lV (sx f c i gL):=by
 unfold kt.sx;have z:(ku f).length=f.length:=by simp[ku]
 unfold rh;cases m:mN f c with
 |none=>simpa using h
 |some p=>
  have n:p.2∈ku f:=Ú.2 ⟨p,Iq m,U⟩;let⟨B,k,C,D⟩:=h.r _ n;simp only;split
  .simpa using h
  .rename_i E;cases g:vU i p.2.s gL with
   |none=>simpa using h
   |some r=>
    simp only[Option.toList];have F:=h.C;have o:gK r.1:=by unfold vU at g;obtain⟨G,w,rfl⟩:=ò.1 g;exact(TH gL j k (λ_ q=>by cases q) (λ_ q=>by cases q) (by simp;omega) (by simp;omega) w).1.r i<|zH _
    refine⟨fq,by simp;omega,λu y=> ?_⟩;rcases â.1 y with q|q
    .let⟨a,b,e,d⟩:=h.r u q;refine⟨a,b,e,?_⟩;rw[Ø];simp;omega
    .simp at q;subst q;refine⟨aok j k l g,o,by show 0<=p.2.h+1;omega,?_⟩;rw[Ø];show p.2.h+1<_;simp;omega
def iY(Y:fu)(u w:Í):Prop:=∀(i j o:Nat) (v:Ñ),Y i j->u.cell? ⟨i,o,Á⟩=Â v->∃a,w.cell? ⟨j,o,Á⟩=Â a/\fp Y v a
section
variable{Y:fu}
theorem apK{k:IntKind}(h:fp Y (Å k c) v):v=Å k c:=by cases h;rfl
theorem apL(h:fp Y (Ä B) v):v=Ä B:=by cases h;rfl
theorem Mx(h:fp Y (Ã<|Â a) v):∃b,v=Ã (Â b)/\ia Y a b:=by
 cases h with
 |jW q=>exact⟨_,U,q⟩
def My(h:fp Y (Ç O n i) v):∃b,v=Ç b n i/\∀a,O=Â a->∃d,b=Â d/\ia Y a d:=by
 cases h with
 |ov=>exact⟨Á,U,λa q=>by cases q⟩
 |kL q=>exact⟨_,U,λa e=>by cases e;exact⟨_,U,q⟩⟩
theorem apM(a:kq v=Î)(h:fp Y v x):x=v:=by cases h<;>first|rfl|(simp[kq]at a;done)
theorem Aa(h:ia Y ⟨b,i,Á⟩ a):∃c,a=⟨c,i,Á⟩/\Y b c:=by let⟨d,e,f⟩:=h;let⟨c,g,j⟩:=a;grind
theorem iY.r(a:iY Y u w){k:IntKind}(h:Y i j)(d:u.cell? ⟨i,b,Á⟩=Â (Å k c)):w.cell? ⟨j,b,Á⟩=Â (Å k c):=by let⟨e,f,g⟩:=a i j b _ h d;grind [apK]
theorem iY.C(a:iY Y u w)(h:Y i j)(b:u.cell? ⟨i,n,Á⟩=Â (Ä B)):w.cell? ⟨j,n,Á⟩=Â (Ä B):=by let⟨c,d,e⟩:=a i j n _ h b;grind [apL]
theorem iY.apN(a:iY Y u w)(c:kq v=Î)(h:Y i j)(b:u.cell? ⟨i,n,Á⟩=Â v):w.cell? ⟨j,n,Á⟩=Â v:=by let⟨d,e,f⟩:=a i j n _ h b;grind [apM]
def T3(s:gp.St):∀v∈iw s,(∃n,v=Å ã n)\/∃p,v=Ä p:=λv n=>by
 unfold iw at n;obtain⟨i,_,rfl⟩:=Ú.1 n;unfold qn qm;split
 .exact È ⟨_,U⟩
 .split
  .exact Ï ⟨_,U⟩
  .exact È ⟨_,U⟩
def apO(a:iY Y u w){s:gp.St}(c:Y b i)(d:mA b s h u):mA i s h w:=by
 refine⟨λj v e=> ?_,a.r c d.h⟩;have f:=d.C j v e;rcases T3 s v (ç e)with⟨n,rfl⟩|⟨p,rfl⟩
 .exact a.r c f
 .exact a.C c f
def aaW(a:iY Y u w)(f:Y b i)(g:∀v∈l,kq v=Î)(h:zP ⟨b,j,Á⟩ n l u):zP ⟨i,j,Á⟩ n l w:=by let⟨p,c,k,m⟩:=h;let⟨G,q,r⟩:=a b i j _ f k;obtain⟨s,rfl,t⟩:=My r;refine⟨s,c,q,λd x e=> ?_⟩;let⟨H,y,z,B⟩:=m d x e;let⟨I,C,D⟩:=t _ z;obtain⟨E,rfl,F⟩:=Aa D;exact⟨E,y,C,a.apN (g x<|ç e) F B⟩
def apP(a:iY Y u w){v:fM}(c:Y b i)(h:sr b v u):sr i v w:= ⟨apO a c h.r,h.C,h.I,h.M,aaW a c (o_ _) h.N,aaW a c (U_ _) h.S⟩
def wE{α β:Type}{R:Nat->α->β->Prop}:∀(l:List α) (k:Nat),(∀j x,l[j]?=Â x->∃y,R (k+j) x y)->∃a:List β,a.length=l.length/\∀j y,a[j]?=Â y->∃x,l[j]?=Â x/\R (k+j) x y
 |[],_,_=>⟨[],U,λj y h=>by simp at h⟩
 |x::r,k,h=>by
  let⟨y,c⟩:=h 0 x U;obtain⟨a,d,e⟩:=wE r (k+1) λj z b=>by let⟨q,f⟩:=h (j+1) z b;exact⟨q,by rwa[show k+1+j=k+(j+1) by omega]⟩
  refine⟨y::a,by simp[d],λj z b=> ?_⟩;cases j with
  |zero=>cases b;exact⟨x,U,c⟩
  |succ j=>
   let⟨q,f,g⟩:=e j z b;exact⟨q,f,by rwa[show k+(j+1)=k+1+j by omega]⟩
theorem Iu(a:iY Y u w){e:List (Nat×fM)}(i:fp Y z jQ)(h:Mb z e u):∃c,ku c=ku e/\Mb jQ c w:=by
 obtain⟨J,n,k,rfl,l,f⟩:=h;obtain⟨g,rfl,m⟩:=My i;let⟨c,o,K⟩:=wE (R:=λj (x y:Nat×fM)=>x.2=y.2/\∃q d,g=Â ⟨q,d,Á⟩/\w.cell? ⟨q,d+j,Á⟩=Â (Ã<|Â ⟨y.1,0,Á⟩)/\sr y.1 y.2 w) e 0 λj x p=>by let⟨b,v⟩:=x;let⟨q,d,r,s,t⟩:=f.C j b v p;let⟨L,B,C⟩:=m _ r;obtain⟨y,rfl,D⟩:=Aa C;let⟨M,E,F⟩:=a q y _ _ D s;obtain⟨N,rfl,G⟩:=Mx F;obtain⟨H,rfl,I⟩:=Aa G;exact⟨(H,v),U,y,d,B,by rwa[œ],apP a I t⟩
 refine⟨c,?_,g,n,k,U,l,⟨by rw[o];exact f.r,λj b v q=> ?_⟩⟩
 .refine Ŕ λj=> ?_;unfold ku;grind
 .grind
end
def lq(a:Nat->Prop)(B:Nat):fu:=⟨λi j=>i=j/\a i,B⟩
def apQ(a:Nat->Prop)(B:Nat):Bi (lq a B):= ⟨λ_ _ _ h k=>h.1.symm.trans k.1,λ_ _ _ h k=>h.1.trans k.1.symm,λi j h=>by rw[h.1]⟩
def Ab{V:Nat->Prop}{B:Nat}(h:∀i,X i->V i):(lq X B).r (lq V B):=⟨λ_ _ q=>⟨q.1,h _ q.2⟩,λ_=>apQ V B,U⟩
def kK(B:Nat)(a:Nat->Prop)(w:Í):Prop:=∀b,a b->∃c e d,w.heap[b]?=Â (Û c e d)/\d.2<=c.size/\fT (lq a B) c c/\0<c.size/\CS c/\e≠298/\e≠299
section
variable{B:Nat}{V:Nat->Prop}
def kK.I(h:kK B X w)(k:kK B V w):kK B (λb=>X b\/V b) w:=by
 rintro b (q|q)
 .let⟨c,e,a,d,f,g,i⟩:=h b q;exact⟨c,e,a,d,f,g.I (Ab λ_=>È),i⟩
 .let⟨c,e,a,d,f,g,i⟩:=k b q;exact⟨c,e,a,d,f,g.I (Ab λ_=>Ï),i⟩
def kK.C(h:kK B X w)(k:∀b,X b->u.heap[b]?=w.heap[b]?):kK B X u:=λb q=>by let⟨c,e,a,d,f⟩:=h b q;exact⟨c,e,a,by rwa[k b q],f⟩
theorem kK.r(h:kK B X w)(a:X b)(d:w.cell? ⟨b,i,Á⟩=Â v):fp (lq X B) v v:=by let⟨c,e,j,f,_,g,_⟩:=h b a;simp only[à,f,ö,ì,if_false]at d;rcases g.S i with⟨q,_⟩|⟨x,k,l,m,n⟩;all_goals grind
def Cq(h:fp (lq X B) (Ã<|Â a) v):X a.block:=by
 cases h with
 |jW q=>exact q.1.2
def Cr(h:fp (lq X B) (Ç (Â a) n i) v):X a.block:=by
 cases h with
 |kL q=>exact q.1.2
def apR{Y:fu}(h:kq v=Î):fp Y v v:=by cases v<;>first|exact .mC _|exact .iF _ _|(simp[kq]at h;done)
def pL{Y:fu}(h:∀v∈d.toList,fp Y v v):fT Y d d:=⟨U,λi a _=>h _<|î.2<|Ă a⟩
def apS(h:kq v=Î):yn v=Ë:=by
 cases v with
 |int k n=>cases k<;>first|rfl|(simp[kq]at h;done)
 |_=>rfl
def Ac(h:∀v∈d.toList,yn v=Ë):CS d:=λk v a=>h v<|î.2<|ĵ a
def Iv(v:Ñ)(i:Nat):Prop:=v.ownBlock=Â i
def Iw(X:Nat->Prop)(g b:Nat)(a c:Ñ)(i:Nat):Prop:=X i\/i=g\/i=b\/Iv a i\/Iv c i
def aaX{G:Í}(a:mq T=Î)(h:tB v T u)(o:∀j,v.ownBlock=Â j->G.heap.size<=j)(p:rY G.heap.size u):∀i,Iv v i->∃c e f,u.heap[i]?=Â (Û c e f)/\f.2<=c.size/\fT (lq V B) c c/\0<c.size/\CS c/\e≠298/\e≠299:=λi b=>by
 rcases h with rfl|⟨g,n,c,k,rfl,l⟩
 .cases b
 .have e:g=i:=by unfold Iv at b;simpa[Value.ownBlock]using b
  subst e;let⟨r,m⟩:=p g k T (0,0) (o g U) l a;exact⟨k,T,(0,0),l,Ù _,pL λv d=>apR<|m v d,r,Ac λv d=>apS<|m v d,(λq=>by rw[q]at a;cases a),(λq=>by rw[q]at a;cases a)⟩
def aaY(h:tB v T u)(a:∀i,Iv v i->V i):fp (lq V B) v v:=by
 rcases h with rfl|⟨g,n,c,b,rfl,d⟩
 .exact .ov _ _
 .exact fp.kL (Y:=lq V B) ⟨⟨U,a g U⟩,U,U⟩ n c
theorem apT{G:Í}(J:kK B X G)(k:fe fi G u)(K:∀i,X i->i<G.heap.size){l:List (Nat×fM)}{s:gp.St}(o:TB b s h G u)(r:TA l b G u m)(L:∀p∈l,X p.1): ∃e,(∀i,X i->e i)/\e m/\kK B e u/\∀i,e i->X i\/G.heap.size<=i:=by
 have t:=k.Y _ λi c T w M y=>by rw[ı M]at y;cases y
 let⟨a,d,N,z,C,D,E⟩:=o.r;refine⟨Iw X m b a d,λi q=>È q,Ï<|È U,?_,?_⟩
 .rintro i (q|rfl|rfl|q|q)
  .let⟨c,e,w,n,x,f,j⟩:=J i q;exact⟨c,e,w,by rwa[k.N i (K i q) id],x,f.I (Ab λ_=>È),j⟩
  .let⟨F,n,x,f⟩:=r.r;have H:∀v∈F.toList,v=Ã Á\/∃j,v=Ã (Â ⟨j,0,Á⟩)/\Iw X i b a d j:=λv e=>by
    rcases f v e with q|q|q
    .unfold su at q;obtain⟨p,I,rfl⟩:=Ú.1 q;exact Ï ⟨_,U,È<|L p I⟩
    .exact Ï ⟨_,q,Ï<|Ï<|È U⟩
    .exact È q
   refine⟨F,128,(0,0),n,Ù _,pL λv e=> ?_,x,Ac λv e=> ?_,A,A⟩
   .rcases H v e with rfl|⟨j,rfl,I⟩
    .exact .lQ
    .exact .jW ⟨⟨U,I⟩,U,U⟩
   .rcases H v e with rfl|⟨j,rfl,I⟩<;>rfl
  .have f:∀v∈jj s a++[Å É h,d],fp (lq (Iw X m i a d) B) v v/\yn v=Ë:=λv e=>by
    rw[zM]at e;have I:=aaY (B:=B) (V:=Iw X m i a d) z λj q=>Ï<|Ï<|Ï<|È q;have F:=aaY (B:=B) (V:=Iw X m i a d) C λj q=>Ï<|Ï<|Ï<|Ï q;have H:∀{x:Ñ} {T:č},tB x T u->yn x=Ë:=λ{x T} q=>by rcases q with rfl|⟨_,_,_,_,rfl,_⟩<;>rfl
    rcases â.1 e with q|q
    .rcases â.1 q with q|q
     .rcases T3 s v q with⟨n,rfl⟩|⟨p,rfl⟩
      .exact⟨.iF _ _,U⟩
      .exact⟨.kV _,U⟩
     .grind
    .simp at q;rcases q with rfl|rfl
     .exact⟨.iF _ _,U⟩
     .grind
   exact⟨_,139,(0,0),N,Ù _,pL λv e=>(f v<|by simpa using e).1,by simp[mK],Ac λv e=>(f v<|by simpa using e).2,A,A⟩
  .exact aaX U z D t i q
  .exact aaX U C E t i q
 .rintro i (q|rfl|rfl|q|q)
  .exact È q
  .exact Ï r.C
  .exact Ï o.C
  .exact Ï<|D i q
  .exact Ï<|E i q
def Mz{Y:fu}(h:fp Y v x):fp (lq X B) v v->fp (lq (λj=>∃i,X i/\Y i j) B) x x:=by
 induction h with
 |mC b=>exact λ_=> .mC b
 |iF k n=>exact λ_=> .iF k n
 |kV s=>exact λ_=> .kV s
 |lQ=>exact λ_=> .lQ
 |@jW a a' q=>exact λz=>fp.jW (Y:=lq (λj=>∃i,X i/\Y i j) B) ⟨⟨U,_,Cq z,q.1⟩,U,U⟩
 |ov n c=>exact λ_=> .ov n c
 |@kL a a' q n c=>exact λz=>fp.kL (Y:=lq (λj=>∃i,X i/\Y i j) B) ⟨⟨U,_,Cr z,q.1⟩,U,U⟩ n c
 |vf=>exact λ_=> .vf
 |fn f=>exact λ_=> .fn f
 |vg=>exact λ_=> .vg
 |vh=>exact λ_=> .vh
 |vi=>exact λ_=> .vi
 |yl t _ b=>exact λz=> .yl t (b (by cases z with|yl _ y=>exact y))
 |oK f _ b=>exact λz=> .oK U λi c _=>b i (by rwa[f]) c (by cases z with|oK _ y=>exact y i _ _)
 |nR f _ b=>exact λz=> .nR U λi c _=>b i (by rwa[f]) c (by cases z with|nR _ y=>exact y i _ _)
def apU{Y:fu}(h:fp Y v x):yn x=yn v:=by cases h<;>rfl
theorem T4{Y:fu}{r:Nat->Prop}(h:ji Y r u w)(s:kK B X u):kK B (λj=>∃i,X i/\Y i j) w:=by
 rintro j ⟨i,t,x⟩;let⟨c,a,e,F,y,z,C,b,G,H,I⟩:=h.r i j x;let⟨d,J,qG,m,_,D,K,E,n,o⟩:=s i t;rw[z]at m;cases m;have L:=b.C.resolve_right λq=>q.2.1.elim n o;refine⟨a,e,y,C,?_,pL λv f=> ?_,Z,Ac λv f=> ?_,n,o⟩
 .grind
 .obtain⟨k,g,rfl⟩:=Ĝ f;have l:k<a.size:=by simpa using g
  have:=Mz (b.r k Z l)<|D.C k Z Z;simpa using this
 .obtain⟨k,g,rfl⟩:=Ĝ f;have l:k<a.size:=by simpa using g
  have p:=apU<|b.r k Z l;rw[(E k c[k]<|å Z)]at p;simpa using p
def Ad{Y:fu}(h:ji Y X u w):iY Y u w:=λi j o v b c=>h.gC (a:=⟨i,o,Á⟩) (a':=⟨j,o,Á⟩) ⟨b,U,U⟩ c
end
end Go.Proofs.Y.kt
namespace Go.Proofs.Y.Lift
open Go
def aaZ{α β:Type}{c:α->β->Option (ForInStep β)}{I:β->Prop}(d:∀a b s,I b->c a b=Â s->I s.value): ∀(l:List α) (b r:β),I b->forIn l b c=Â r->I r
 |[],b,r,hi,h=>by simp at h;subst h;exact hi
 |a::l,b,r,hi,h=>by
  rw[List.forIn_cons]at h;cases e:c a b with
  |none=>rw[e]at h;simp at h
  |some s=>
   rw[e]at h;have:=d a b s hi e;cases s with
   |done x=>simp at h;subst h;exact this
   |yield x=>simp at h;exact aaZ d l x r this h
def jY.gU(h:jY v):∀x∈v.cells,jY x:=by
 intro x a;cases h with
 |oK h=>
  obtain⟨i,b,rfl⟩:=Array.mem_iff_getElem.1 a;exact h i b
 |nR h=>simp[Ĺ]at a;subst a;exact .nR h
 |_=>simp[Ĺ]at a;subst a;constructor
def ZP(a:č->Option ħ):Prop:=∀t i z,a t=Â i->i.zero=Â z->jY z
def T5(h:∀x∈d,jY x):jY (.agg d):=.oK λ_ a=>h _<|Ă a
theorem apV{l:č->Option ħ}(h:ZP l){m:Array Field}(g:ŕ l m=Â zJ)(q:zJ.zero=Â z):jY z:=by
 unfold ŕ at g;simp only[<-Array.forIn_toList]at g;generalize t:(forIn m.toList _ _:Option _)=L at g;cases L with
 |none=>simp at g
 |some r=>
  have u:=aaZ (I:=λx=>∀a,x.2.2.2.2.2.2.2.1=Â a->∀v∈a,jY v) ?_ _ _ _ ?_ t
  .have:∃a,r.2.2.2.2.2.2.2.1=Â a/\z=.agg a:=by
    grind [ò]
   obtain⟨a,e,rfl⟩:=this;exact T5<|u a e
  .intro f b s w d;have y:∀(e:Option Ñ) (k:Nat) (x:Option (Array Ñ)),(∀z,e=Â z->jY z)->x=(if k>ű then Á else do pure ((<-b.2.2.2.2.2.2.2.1)++(<-e).cells))->∀a,x=Â a->∀v∈a,jY v:=by
    intro e k x B C a c v n;subst C;split at c
    .simp at c
    .cases j:b.2.2.2.2.2.2.2.1 with
     |none=>rw[j]at c;simp at c
     |some E=>
      cases o:e with
      |none=>rw[j,o]at c;simp at c
      |some D=>
       rw[j,o]at c;simp at c;subst c;rcases Array.mem_append.1 n with p|p
       .exact w _ j v p
       .exact(B D o).gU v p
   cases e:l f.type with
   |none=>rw[e]at d;simp at d
   |some j=>
    rw[e,ê,ş]at d;have k:=y j.zero (b.2.1+j.size) _ (λz q=>h _ _ _ e q) U;generalize(if b.2.1+j.size>ű then Á else(do pure ((<-b.2.2.2.2.2.2.2.1)++(<-j.zero).cells):Option (Array Ñ)))=X at d k;generalize(if b.1.size+1<m.size then ";" else "")=Y at d;simp only[bind,pure,Option.bind]at d;repeat' split at d
    all_goals first
     |(simp only[Ô]at d;subst d;exact k)
     |(simp at d;done)
  .intro a c v n;simp at c;subst c;simp at n
def apW{c:č->Option ħ}(h:ZP c){d:TypeDesc}(a:Τ c d=Â zJ)(b:zJ.zero=Â z):jY z:=by
 unfold Τ at a;cases d with
 |struct k=>exact apV h a b
 |array n e=>
  simp only[ê,Ü,Ā,Ô]at a;obtain⟨f,v,st,_,rfl⟩:=a;simp only at b;split at b
  .simp at b
  .split at b
   .simp at b;subst b;exact T5 fq
   .simp only[ò]at b;obtain⟨j,g,rfl⟩:=b;refine T5 λx k=> ?_;simp only[Array.mem_flatten,Array.mem_replicate]at k;obtain⟨l,⟨_,rfl⟩,k⟩:=k;exact(h _ _ _ v g).gU x k
 |pointer e=>
  simp only[ê,Ü,Ā]at a;let⟨f,v,a⟩:=a;repeat' split at a
  all_goals first
   |(simp at a;done)
   |(simp only[Ü,Ô]at a;obtain⟨_,_,rfl⟩:=a;simp only[ł,Ô]at b;subst b;constructor)
 |slice e=>
  simp only[ê,Ü,Ā,Ô]at a;obtain⟨_,_,_,_,rfl⟩:=a;simp only[ł,Ô]at b;subst b;constructor
 |map k e=>
  simp only[ê,Ü,Ā,Ô]at a;obtain⟨_,_,_,_,_,_,_,_,rfl⟩:=a;simp only[ł,Ô]at b;subst b;constructor
 |chan k e=>
  simp only[ê,Ü,Ā,Ô]at a;obtain⟨_,_,_,_,rfl⟩:=a;simp only[ł,Ô]at b;subst b;constructor
 |func k e v=>
  simp only[ê,Ü,Ā,Ô]at a;obtain⟨_,_,rfl⟩:=a;simp only[ł,Ô]at b;subst b;constructor
 |_=>simp at a
def aa0{T:Tables}(a:∀(t:Nat) (i:ħ) (z:Ñ),T.types[t]?=Â i->i.zero=Â z->jY z):∀f,ZP<|ţ T f
 |0=>λt i z h=>by simp[ţ]at h
 |f+1=>λt i z h b=>by
  unfold ţ at h;split at h
  .exact a t i z h b
  .simp only[Ü]at h;let⟨d,_,c⟩:=h;exact apW (aa0 a f) c b
def apX(a:∀(t:Nat) (i:ħ) (z:Ñ),P.types[t]?=Â i->i.zero=Â z->jY z):nT P:=λt i z h b=>by
 have h:P.toTables.info? t=Â i:=h;unfold Tables.info? at h;split at h
 .exact a t i z h b
 .exact aa0 a _ t i z h b
end Go.Proofs.Y.Lift
namespace Go.Proofs.Y.fy
open Go Go.Conc Go.Proofs.Y.Lift Go.RowKit Go.Conc.Lib Go.ConcR.Gen
open Go.Proofs Go.Proofs.YtgpphkdoanciiabGreatDoor
def T7:Ñ->Bool
 |.agg a=>a.toList.all yv
 |v=>yv v
def aa1(h:T7 v=Î):jY v:=by
 cases v with
 |agg b=>exact .oK λi a=>F3<|(ĭ.1 h) _<|î.2<|Ă a
 |_=>exact F3 h
def aa2:Ñ->Bool
 |ë a=>a.toList.all T7
 |v=>T7 v
def apY(h:aa2 v=Î):jY v:=by
 cases v with
 |tuple b=>exact .nR λi a=>aa1<|(ĭ.1 h) _<|î.2<|Ă a
 |_=>exact aa1 h
def E9(i:ħ):Bool:=match i.zero with
 |some z=>aa2 z
 |none=>Î
def apZ(h:P.types.toList.all E9=Î):nT P:=apX λt i z a b=>by have:=(ĭ.1 h) i<|î.2<|ĵ a;unfold E9 at this;rw[b]at this;exact apY this
def yp:nT À:=apZ fZ
end Go.Proofs.Y.fy
namespace Go.Proofs.Y.kt
open Go Go.Conc Go.Proofs Go.RowKit Go.Proofs.Y.Lift Go.Proofs.Y.gp Go.Proofs.Y.fy
noncomputable def nB:Nat:=À.globals.size
def pM(a:Nat->Prop)(b:Nat):Prop:=a b\/b=1\/b=2\/b=3\/b=4
def MA(b:Nat)(e:č)(w:Í):Prop:=∃c a,w.heap[b]?=Â (Û c e a)/\a.2<=c.size/\a.2<=16/\0<c.size/\∀v∈c.toList,∃k n,v=Å k n
structure mB(w:Í):Prop where
 fw:nB<=w.heap.size
 M:kK nB (λb=>b=1\/b=2) w
 I:MA 3 298 w
 C:MA 4 299 w
 S:gp.lN w
 ja:iM w
 N:qy w
section
variable{V:Nat->Prop}
theorem mB.r{w':Í}(h:mB w)(f:nB<=w'.heap.size)(k:∀b,b=1\/b=2\/b=3\/b=4->w'.heap[b]?=w.heap[b]?):mB w':=by
 have d:∀b o,b=1\/b=2\/b=3\/b=4->w'.cell? ⟨b,o,Á⟩=w.cell? ⟨b,o,Á⟩:=λb o e=>by simp only[à,k b e]
 refine⟨f,h.M.C λb e=>k b<|e.imp id È,?_,?_,?_,?_,?_⟩
 .let⟨c,i,a,r⟩:=h.I;exact⟨c,i,by rwa[k 3 fq],r⟩
 .let⟨c,i,a,r⟩:=h.C;exact⟨c,i,by rwa[k 4 fq],r⟩
 .have c:=h.S;have i:À.globalNamed "internal/strconv.uint64pow10"=Â 1:=fv
  unfold gp.lN χ ο at*;grind
 .let⟨c,g,a⟩:=h.ja.M;refine⟨⟨c,g,by rwa[k 2 fq]⟩,λi r j=> ?_⟩;rw[d 2 _ fq,d 2 _ fq,d 2 _ fq];exact h.ja.I i r j
 .have:=h.N;unfold qy at*;grind
def aa3(u:kK nB X w)(x:∀b,X b->lA b=Ë)(g:mB w):Lp (pM X) (pM X) nB w:=by
 have p:∀{a:Nat->Prop} {c:Array Ñ},(∀b,a b->pM X b)->fT (lq a nB) c c->fT (qj (pM X) nB) c c:=λ{a c} hX r=>r.I<|Ab hX;refine⟨?_,g.fw⟩;have s:∀b e,(e=298\/e=299)->lA b=Î->MA b e w->∃c e d,w.heap[b]?=Â (Û c e d)/\d.2<=c.size/\fT (qj (pM X) nB) c c/\(pM X b->0<c.size/\(lA b=Î->(e=298\/e=299)/\d.2<=16)/\(lA b=Ë->CS c)):=λb e y B h=>by let⟨c,d,f,j,l,m,o⟩:=h;exact⟨c,e,d,f,j,pL λv i=>by obtain⟨k,n,rfl⟩:=o v i;exact .iF _ _,λ_=>⟨m,λ_=>⟨y,l⟩,λq=>by rw[B]at q;cases q⟩⟩
 rintro b (q|q|q|rfl|rfl)
 .let⟨c,e,d,f,j,l,m,o,_⟩:=u b q;exact⟨c,e,d,f,j,p (λ_=>È) l,λ_=>⟨m,λt=>(by rw[x b q]at t;cases t),λ_=>o⟩⟩
 .let⟨c,e,d,f,j,l,m,o,_⟩:=g.M b<|È q;exact⟨c,e,d,f,j,p (λi k=>k.elim (λz=>Ï<|È z) λz=>Ï<|Ï<|È z) l,λ_=>⟨m,λt=>(by rw[q]at t;cases t),λ_=>o⟩⟩
 .let⟨c,e,d,f,j,l,m,o,_⟩:=g.M b<|Ï q;exact⟨c,e,d,f,j,p (λi k=>k.elim (λz=>Ï<|È z) λz=>Ï<|Ï<|È z) l,λ_=>⟨m,λt=>(by rw[q]at t;cases t),λ_=>o⟩⟩
 .exact s 3 298 (È U) U g.I
 .exact s 4 299 (Ï U) U g.C
def pN(a:lA b=Ë\/i<16)(h:w.cell? ⟨b,i,Á⟩=Â v):(World.tp (ln V w) xQ 0).cell? ⟨b,i,Á⟩=Â v:=by
 have j:(World.tp (ln V w) xQ 0).heap[b]?=(w.heap[b]?).map (pF V b):=Et b;simp only[à,j];simp only[à]at h;cases g:w.heap[b]? with
 |none=>rw[g]at h;cases h
 |some k=>
  rw[g]at h;cases k with
  |cells c e m=>
   simp only[ā,pF,ö,ì,if_false]at h|-;split
   .rename_i d;split at d
    .split at d
     .rename_i l;cases d;rcases a with a|a
      .rw[l]at a;cases a
      .unfold uN;rw[Array.getElem?_extract];simp;exact⟨by have:=(á.1 h).1;omega,h⟩
     .cases d;exact h
    .cases d;exact h
   .rename_i f;split at f
    .split at f<;>exact absurd U<|f _ _ _
    .exact absurd U<|f _ _ _
  |_=>cases h
def aa4{T:ŷ}(d:kK nB X w)(e:∀b,X b->lA b=Ë):iY (lq X nB) w (World.tp (ln V w) T 0):=by rintro i j o v ⟨rfl,a⟩ c;exact⟨v,pN (È<|e i a) c,d.r a c⟩
end
def RD(s:List fM)(b:Ñ)(a:Nat->Prop)(w:Í):Prop:=∃c,ku c=s/\lV s/\Mb b c w/\kK nB a w/\fp (lq a nB) b b
section
variable{V:Nat->Prop}{s:List fM}
def aa5(h:kK nB X w)(k:∀b,X b->u.heap[b]?=w.heap[b]?):iY (lq X nB) w u:=by rintro i j o v ⟨rfl,a⟩ c;exact⟨v,by simp only[à,k i a];exact c,h.r a c⟩
def RD.r(h:RD s v X w)(k:∀b,X b->u.heap[b]?=w.heap[b]?):RD s v X u:=by let⟨l,d,e,f,a,c⟩:=h;let⟨g,i,j⟩:=Iu (aa5 a k) c f;exact⟨g,i.trans d,e,j,a.C k,c⟩
def Ix(r:Nat)(q:Qn)(w:Í):Prop:=pK r q.x q.y q.g q.k q.r q.v q.C q.I w
def aa6{Y:fu}(a:iY Y u w){r:Nat}{q:Qn}(b:Y r i)(h:Ix r q u):Ix i q w:= ⟨a.r b h.I,a.r b h.S,a.r b h.a,a.r b h.Y,a.r b h.N,a.r b h.M,a.r b h.c,a.r b h.b⟩
def ap0{T:ŷ}(g:mB w):gp.lN (World.tp (ln V w) T 0):=by
 have a:=g.S;have h:À.globalNamed "internal/strconv.uint64pow10"=Â 1:=fv
 unfold gp.lN χ ο at*;rw[h]at a|-;simp only[ş]at a|-;have i:(World.tp (ln V w) T 0).heap[1]?=(w.heap[1]?).map (pF V 1):=Et 1;rw[i];cases f:w.heap[1]? with
 |none=>rw[f]at a;cases a
 |some j=>
  rw[f]at a;cases j with
  |cells c e k=>
   simp only[ā,pF,lA]at a|-;split
   .rename_i b;split at b<;>(simp at b;obtain⟨rfl,_⟩:=b;exact a)
   .rename_i d;split at d
    .exact absurd U<|d _ _ _
    .exact absurd U<|d _ _ _
  |_=>cases a
theorem aa7{T:ŷ}(g:mB w):iM (World.tp (ln V w) T 0):=by
 let⟨f,h,d⟩:=g.ja.M;refine⟨?_,λi r e=> ?_⟩
 .have a:(World.tp (ln V w) T 0).heap[2]?=(w.heap[2]?).map (pF V 2):=Et 2;rw[a,d];simp only[ā,pF,lA];grind
 .let⟨a,b,c⟩:=g.ja.I i r e;exact⟨pN (È U) a,pN (È U) b,pN (È U) c⟩
def ap1{T:ŷ}(g:mB w):qy (World.tp (ln V w) T 0):=pN (Ï A) g.N
theorem Fa{T:ŷ}:kn (World.tp (ln V w) T 0):=λi o h=>Z1 (Sh:=V) (w:=w) i o h
theorem ap2{l:ff}{q:Qn}{r:Nat}(x:RD s v X l.w)(I:∀b,X b->l.M b)(y:kK nB V l.w)(J:∀b,V b->l.M b)(h:V r)(z:Ix r q l.w)(ok:q.Ok)(g:mB l.w)(K:∀b,b=1\/b=2\/b=3\/b=4->l.M b)(j:∀b,X b\/V b->lA b=Ë)(m:List (Nat×fM))(B:ku m=s): Ew (λg=>xH g=Î) 51 #[v,Ã<|Â ⟨r,0,Á⟩] l (pM λb=>X b\/V b) λe _=>e=Ä (rm m q):=by
 let⟨L,c,d,D,E,o⟩:=x;have t:=E.I y;refine⟨?_,aa3 t j g,?_,?_,λT=> ?_⟩
 .rintro b (q|q);all_goals grind
 .intro b a;unfold xH at a;simp at a;exact Ï a
 .refine pL λe a=> ?_;simp at a;rcases a with rfl|rfl
  .exact o.fQ<|Ab λi k=>È<|È k
  .exact fp.jW (Y:=qj (pM λb=>X b\/V b) nB) ⟨⟨U,È<|Ï h⟩,U,U⟩
 .have a:=aa4 (V:=pM λb=>X b\/V b) (T:=T) t j;obtain⟨F,f,N,n,G,rfl,O,u⟩:=Iu a (o.fQ<|Ab λi k=>È k) D;have i:n=(ku F).length:=by rw[u.r];simp[ku]
  have P:=d.I;have Q:=d.C;rw[f,c]at i;have C:=apH (cp:=G) u Z Z (λp H=> ?_) (aa6 a ⟨U,Ï h⟩ z) ok (aa7 g) (ap0 g)<|ap1 g
  .apply C.mono;rintro e S ⟨rfl,k⟩;exact⟨by rw[apJ<|f.trans<|c.trans B.symm],k.gU Fa⟩
  .have:p.2∈s:=by rw[<-c,<-f];exact Ú.2 ⟨p,H,U⟩
   exact(d.r _ this).1
end
def Cs(r:Nat)(v:Int)(x:Nat)(gL:List Tx)(w:Í):Prop:=∃a n c b,Ck r v x a n c w/\Ce a n b w/\lM b=gL/\n<=1000
section
variable{V:Nat->Prop}{s:List fM}
def aa8(h:kK nB X w):∀i,X i->i<w.heap.size:=λi a=>by let⟨c,e,d,b,_⟩:=h i a;exact(á.1 b).1
theorem aa9{T:ŷ}(f:lA b=Ë)(h:w.heap[b]?=Â (Û d e xJ))(i:xJ.2<=d.size):∃a,(World.tp (ln V w) T 0).heap[b]?=Â (Û d e a)/\a.2<=d.size:=by have g:(World.tp (ln V w) T 0).heap[b]?=(w.heap[b]?).map (pF V b):=Et b;rw[g,h];simp only[ā,pF,f,ì,if_false];grind
def ap3{T:ŷ}(h:kK nB X w)(d:∀b,X b->lA b=Ë):kK nB X (World.tp (ln V w) T 0):=λb a=>by let⟨c,e,m,f,g,i⟩:=h b a;let⟨j,k,l⟩:=aa9 (V:=V) (T:=T) (d b a) f g;exact⟨c,e,j,k,l,i⟩
def ap4{T:ŷ}(k:kK nB X w)(l:∀b,X b->lA b=Ë){r:Nat}{v:Int}{gL:List Tx}(o:X r)(h:Cs r v i gL w):Cs r v i gL (World.tp (ln V w) T 0):=by
 let⟨D,n,E,F,g,p,G,H⟩:=h;have m:=l r o;refine⟨D,n,E,F,⟨pN (È m) g.M,pN (È m) g.N,pN (È m) g.I⟩,⟨p.r,λj a t q=> ?_⟩,G,H⟩;let⟨tb,I,s,u,d,J⟩:=p.C j a t q;have y:X tb:=by have:=k.r o g.I;rw[s]at this;exact Cr this
 have z:=Cq<|k.r y u;have f:=l a z;let⟨K,O,B⟩:=d.b;let⟨c,e,P,C,L,_⟩:=k a z;rw[B]at C;cases C;obtain⟨M,N,_⟩:=aa9 f B L;exact⟨tb,I,s,pN (È<|l tb y) u,⟨⟨K,M,N⟩,pN (È f) d.r,pN (È f) d.C,pN (È f) d.I,pN (È f) d.M,pN (È f) d.Y,pN (È f) d.N⟩,J⟩
def Rg(s:List fM)(v:Ñ)(u:Í):Prop:=∃X,RD s v X u
def Rg.tp{T:ŷ}(h:Rg s v w):Rg s v (World.tp w T n):=by let⟨X,h⟩:=h;exact⟨X,h.r λ_ _=>rfl⟩
def ap5{Y:fu}{d:Nat->Prop}(h:rE Y d u w)(a:fp Y v x)(e:Rg s v u):∃c,RD s x c w/\∀b,c b->∃i,Y i b:=by let⟨X,f⟩:=e;have g:RD s v X {u with tape:=w.tape,drawn:=w.drawn}:=f.r λ_ _=>rfl;let⟨t,j,k,l,m,n⟩:=g;let⟨o,p,q⟩:=Iu (Ad h) a l;exact⟨_,⟨o,p.trans j,k,q,T4 h m,Mz a n⟩,λb ⟨i,_,r⟩=>⟨i,r⟩⟩
theorem ap6{l:ff}{r:Nat}{gL:List Tx}(hRD:RD s v X l.w)(hU:∀b,X b->l.M b)(L:kK nB V l.w)(hV:∀b,V b->l.M b)(N:V r)(hq:Cs r h m gL l.w)(hx:m<8)(o:-1<=h)(T8:∀t∈gL,t.Ok)(hn:gL.length<=1000)(g:mB l.w)(hG:∀b,b=1\/b=2\/b=3\/b=4->l.M b)(y:∀b,X b\/V b->lA b=Ë)(B:List (Nat×fM))(H:ku B=s): Ew (λg=>xH g=Î) 50 #[v,Ã<|Â ⟨r,0,Á⟩] l (pM λb=>X b\/V b) λz u=>∃p n c,z=ë #[Ç p n c,Ä (rh B h m gL).2]/\Rg (sx B h m gL) (Ç p n c) u:=by
 let⟨vs,h1,D,h3,O,d⟩:=hRD;have P:=O.I L;refine⟨?_,aa3 P y g,?_,?_,λT=> ?_⟩
 .rintro b (q|q);all_goals grind
 .intro b u;unfold xH at u;simp at u;exact Ï u
 .refine pL λh o=> ?_;simp at o;rcases o with rfl|rfl
  .exact d.fQ<|Ab λi j=>È<|È j
  .exact fp.jW (Y:=qj (pM λb=>X b\/V b) nB) ⟨⟨U,È<|Ï N⟩,U,U⟩
 .have f:=ap3 (V:=pM λb=>X b\/V b) (T:=T) O λb q=>y b<|È q;obtain⟨z,k1,Q,n,S,rfl,W,E⟩:=Iu (aa4 (V:=pM λb=>X b\/V b) (T:=T) P y) (d.fQ<|Ab λi j=>È j) h3;obtain⟨tp,tn,tc,a,q1,q2,rfl,q4⟩:=(ap4 (V:=pM λb=>X b\/V b) (T:=T) L (λb q=>y b<|Ï q) N hq);have c:=k1.trans h1;have hlen:n=s.length:=by rw[E.r,<-c];simp[ku]
  have auQ:=D.I;have hle:=D.C;have nG:kn (World.tp (ln (pM λb=>X b\/V b) l.w) T 0):=Fa;have C:=aoe E Z Z W (λp I=>by
   have:p.2∈s:=by rw[<-c];exact Ú.2 ⟨p,I,U⟩
   have:=(D.r _ this).2.2.2;omega) q1 q2 q4 (aa7 g) hx o
  have u:sx z h m (lM a)=sx B h m (lM a):=by unfold sx;rw[aaV<|c.trans H.symm,c,H]
  have F:lV (sx z h m<|lM a):=lV.M (by rwa[c]) T8 hn;have ha:=aaV (c.trans H.symm) h m<|lM a;generalize World.tp (ln (pM λb=>X b\/V b) l.w) T 0=G at*;refine C.mono ?_;rintro e u' ⟨k,hA⟩;rcases hA with⟨J,rfl⟩|⟨nv,b,tu,J,rfl,e3,e4,gb,gn,gc,rfl,e6⟩
  .refine⟨⟨Q,n,S,by rw[ha],?_⟩,k.gU nG⟩;rw[<-u];have K:sx z h m (lM a)=s:=by unfold sx;rw[J,c];simp
   rw[K]at F|-;exact⟨X,z,c,F,⟨Q,n,S,U,W,E.I k⟩,f.C λi j=>k.N i (aa8 f i j) id,d⟩
  .let⟨i,m1,m2,m3,_⟩:=apT f k (aa8 f) e4 e6 λp I=>by
    let⟨j,hj⟩:=ĕ I;let⟨sb,so,f1,f2,_⟩:=E.C j p.1 p.2 hj;have:X sb:=by rw[f1]at d;exact Cr d
    exact Cq<|f.r this f2
   refine⟨⟨Â ⟨gb,0,Á⟩,gn,gc,by rw[ha],?_⟩,k.gU nG⟩;rw[<-u];have K:sx z h m (lM a)=ku (z++[(b,nv)]):=by unfold sx;rw[J];simp[ku]
   rw[K]at F|-;exact⟨i,_,U,F,e3,m3,fp.kL (Y:=lq i nB) ⟨⟨U,m2⟩,U,U⟩ gn gc⟩
end
structure vY where
 r:Nat->Int×Nat×List Tx
 C:Nat->Qn
def oe(s:List fM):List (Nat×fM):=s.map λv=>(0,v)
theorem Iy(s:List fM):ku (oe s)=s:=by simp[ku,oe,Function.comp_def]
def Ct(s:List fM)(i:Int×Nat×List Tx):List fM:=sx (oe s) i.1 i.2.1 i.2.2
def pO(a:vY)(I:List Nat)(b:List fM):Nat->List fM
 |0=>b
 |k+1=>Ct (pO a I b k)<|a.r<|I.getD k 0
def vZ(a:vY)(kd:Nat->Int)(p:Nat)(s:List fM):ByteArray:=if kd p=1 then(rh (oe s) (a.r p).1 (a.r p).2.1 (a.r p).2.2).2 else rm (oe s) (a.C p)
def iD(e:ff)(a:Nat->Prop)(c:vY)(kd:Nat->Int)(R:Nat)(d:List fM)(f:Nat->Prop):xG where
 γ:=List fM
 C:=d
 M:=λk s g=>g=Ct s (c.r<|(gZ kd R).getD k 0)
 RD:=λs h V w=>RD s h V w/\∀b,V b->a b\/e.w.heap.size<=b
 I:=λp=>vZ c kd p<|pO c (gZ kd R) d<|fN kd p
 r:=f
def T9{kd:Nat->Int}:∀(R k:Nat),k<(gZ kd R).length->fN kd ((gZ kd R).getD k 0)=k
 |0,k,h=>by simp[gZ]at h
 |R+1,k,h=>by
  by_cases q:kd R=1
  .rw[tq q]at h|-;rcases Nat.lt_or_ge k (gZ kd R).length with z|z
   .have e:(gZ kd R++[R]).getD k 0=(gZ kd R).getD k 0:=by simp[Ğ,Ĥ z]
    rw[e];exact T9 R k z
   .have e:k=(gZ kd R).length:=by simp at h;omega
    subst e;simp[Ğ,fN]
  .rw[vL q]at h|-;exact T9 R k h
section
variable{y:Nat->Prop}
def MB(h:kK nB y w)(g:mB w):∀b,y b->lA b=Ë:=λb i=>by
 let⟨c,e,m,f,_,_,_,_,j,k⟩:=h b i;cases d:lA b with
 |false=>rfl
 |true=>
  unfold lA at d;simp at d;rcases d with rfl|rfl
  .let⟨l,qG,a,_⟩:=g.I;rw[f]at a;cases a;exact absurd U j
  .let⟨l,qG,a,_⟩:=g.C;rw[f]at a;cases a;exact absurd U k
def ap7(p:kK nB X w)(k:∀b,X b->u.heap[b]?=w.heap[b]?){r:Nat}{gL:List Tx}(g:X r)(h:Cs r c i gL w):Cs r c i gL u:=by
 have d:∀{b o:Nat} {z:Ñ},X b->w.cell? ⟨b,o,Á⟩=Â z->u.cell? ⟨b,o,Á⟩=Â z:=λ{b o z} l q=>by simp only[à,k b l];exact q
 let⟨C,n,D,E,m,s,F,G⟩:=h;refine⟨C,n,D,E,⟨d g m.M,d g m.N,d g m.I⟩,⟨s.r,λj a t q=> ?_⟩,F,G⟩;let⟨tb,H,y,B,e,I⟩:=s.C j a t q;have l:X tb:=by have:=p.r g m.I;rw[y]at this;exact Cr this
 have f:=Cq<|p.r l B;let⟨J,K,L⟩:=e.b;exact⟨tb,H,y,d l B,⟨⟨J,K,by rwa[k a f]⟩,d f e.r,d f e.C,d f e.I,d f e.M,d f e.Y,d f e.N⟩,I⟩
end
structure Iz(l0:ff)(bt:vY)(kd:Nat->Int)(rq:Nat->Nat)(R:Nat)(Q:Nat->Prop):Prop where
 M:mB l0.w
 I:∀b,b=1\/b=2\/b=3\/b=4->l0.O b
 C:kK nB Q l0.w
 ft:∀b,Q b->l0.O b
 r:∀p,p<R->Q (rq p)
 kP:∀p,p<R->kd p=1->Cs (rq p) (bt.r p).1 (bt.r p).2.1 (bt.r p).2.2 l0.w/\(bt.r p).2.1<8/\-1<=(bt.r p).1/\(∀t∈(bt.r p).2.2,t.Ok)/\(bt.r p).2.2.length<=1000
 Sq:∀p,p<R->kd p≠1->Ix (rq p) (bt.C p) l0.w/\(bt.C p).Ok
def abb{V:Nat->Prop}{l:ff}{a:Ñ->Í->Prop}(h:Ew X F d l V vQ)(b:∀v u,vQ v u->a v u):Ew X F d l V a:= ⟨h.N,h.S,h.I,h.r,λT=>(h.C T).mono λe u q=>by
  cases e with
  |returned v=>exact⟨b v u q.1,q.2⟩
  |_=>exact q⟩
section
variable{l0:ff}{bt:vY}{kd:Nat->Int}{rq:Nat->Nat}{R:Nat}{Q C d:Nat->Prop}{B:List fM}{E F:Option û}
def abd{s:List fM}(h:fy.nz ((kI (iD l0 d bt kd R B C) i n R kd rq D E F j9 j7 k m J j qX l0).r À) b s):s=pO bt (gZ kd R) B b:=by
 have c:∀(b:Nat) (s:((kI (iD l0 d bt kd R B C) i n R kd rq D E F j9 j7 k m J j qX l0).r À).γ),fy.nz ((kI (iD l0 d bt kd R B C) i n R kd rq D E F j9 j7 k m J j qX l0).r À) b s->s=pO bt (gZ kd R) B b:=λb s h=>by
  induction h with
  |vr=>rfl
  |Df _ a e=>
   rwa[e]at a
 exact c b s h
def ap8(h:Iz l0 bt kd rq R Q)(N:l0.w.heap.size<=m):Ep (kI (iD l0 d bt kd R B C) i n R kd rq D E F j9 j7 k m J j qX l0):=by
 apply akU yp Z6 Z5 U;intro a s O W l q t f x y P g G;let⟨f,S⟩:=f;have T:=y.fw m<|g m<|Ï U;have H:l0.w.heap.size<=l.w.heap.size:=Z
 have o:=G;have p:=h.M.r (Ì h.M.fw H) λb c=>o b<|h.I b c;have r:=h.C.C λb c=>o b<|h.ft b c;have e:=HG<|vR q;let⟨I,K⟩:=h.Sq _ e.1 e.2;refine⟨_,abb (ap2 f x r (λb c=>g b<|È<|h.ft b c) (h.r _ e.1) (aa6 (aa5 h.C λb c=>o b<|h.ft b c) ⟨U,h.r _ e.1⟩ I) K p (λb c=>g b<|È<|h.I b c) (λb c=>c.elim (MB (by let⟨_,_,_,_,z,_⟩:=f;exact z) p b)<|MB r p b) (oe s)<|Iy s) λv u L=> ?_⟩;rw[L];have z:=abd t;have M:(kI (iD l0 d bt kd R B C) i n R kd rq D E F j9 j7 k m J j qX l0).b a=fN kd ((jy kd R).getD a 0):=if_pos q;rw[M]at z;show _=Ä (vZ bt kd ((jy kd R).getD a 0)<|pO bt (gZ kd R) B<|fN kd<|(jy kd R).getD a 0);rw[<-z];unfold vZ;rw[if_neg e.2]
theorem ap9(h:Iz l0 bt kd rq R Q)(hZ:(∀b,Q b->d b)/\∀b,b=1\/b=2\/b=3\/b=4->d b)(Zt:l0.w.heap.size<=m):Eo (kI (iD l0 d bt kd R B C) i n R kd rq D E F j9 j7 k m J j qX l0):=by
 refine akV yp Z6 Z5 U (λs o u=>Rg s o u) (λs o u T n q=>Rg.tp q) ?_;intro T s o W l H I g K L hq r M;let⟨g,O9⟩:=g;have hs:=L.fw m<|r m<|Ï U;have N:l0.w.heap.size<=l.w.heap.size:=Z
 have t:=M;have x:=h.M.r (Ì h.M.fw N) λb a=>t b<|h.I b a;have y:=h.C.C λb a=>t b<|h.ft b a;have G:=H;have f:=HF<|vR G;let⟨O,P,S,V,X⟩:=h.kP _ f.1 f.2;refine⟨_,abb (ap6 g K y (λb a=>r b<|È<|h.ft b a) (h.r _ f.1) (ap7 h.C (λb a=>t b<|h.ft b a) (h.r _ f.1) O) P S V X x (λb a=>r b<|È<|h.I b a) (λb a=>a.elim (MB (by let⟨_,_,_,_,z,_⟩:=g;exact z) x b)<|MB y x b) (oe s)<|Iy s) λv u hv=> ?_,?_⟩
 .obtain⟨p,z,c,rfl,Y⟩:=hv;refine⟨p,z,c,Ct s<|bt.r<|(gZ kd R).getD T 0,?_,U,Y⟩;have e:(kI (iD l0 d bt kd R B C) i n R kd rq D E F j9 j7 k m J j qX l0).e (T+1)=vZ bt kd ((gZ kd R).getD T 0) (pO bt (gZ kd R) B<|fN kd<|(gZ kd R).getD T 0):=U;rw[e,T9 R T G,<-(abd I)];unfold vZ;rw[if_pos f.2]
 .intro Y Sh u w s' ZV Lh e p h3 h4;let⟨V',k1,c⟩:=ap5 e p h3;refine⟨V',⟨k1,λb a=> ?_⟩,c⟩;let⟨z,hi⟩:=c b a;rcases h4 z b hi with((q|q)|q)|q;all_goals grind
end
section
variable{R:Nat}{kd:Nat->Int}{o:Nat->Nat}{r:List Ē}{l:ff}{u:Nat->ff}{bt:vY}{j f:Nat->Prop}{s0:List fM}
def aqa{s:List fM}(h:zw (iD l f bt kd R s0 j) k s):s=pO bt (gZ kd R) s0 k:=by
 have b:∀(k:Nat) (s:(iD l f bt kd R s0 j).γ),zw (iD l f bt kd R s0 j) k s->s=pO bt (gZ kd R) s0 k:=λk s h=>by
  induction h with
  |vr=>rfl
  |Df _ a c=>
   rwa[c]at a
 exact b k s h
structure Ae(f:Nat->Prop)(bt:vY)(R:Nat)(kd:Nat->Int)(s0:List fM)(l:ff)(an:Nat)(sl:Ñ)(l':ff):Prop where
 M:∀b,l.O b->l'.O b/\l'.w.heap[b]?=l.w.heap[b]?
 r:l'.O an/\∀p,p<R->l'.w.cell? ⟨an,p,Á⟩=Â (Ä<|vZ bt kd p<|pO bt (gZ kd R) s0<|fN kd p)
 Y:∃V,RD (pO bt (gZ kd R) s0<|fN kd R) sl V l'.w/\∀b,V b->l'.O b/\(f b\/l.w.heap.size<=b)
 d:l'.d=0
 q:¬l'.q
 S:∀b,¬l'.I b
 C:(∀a,¬l'.r a)/\(∀a,¬l'.N a)/\∀a,¬l'.K a
 I:l'.w.cell? ⟨an,R,Á⟩=Á/\kX l'.w an=Â (0,0)
def aqb{a:ff}(h:F1 (iD l f bt kd R s0 j) R kd l i v a):Ae f bt R kd s0 l i v a:=by let⟨s,V,g,c,k⟩:=h.HJ;have e:=aqa g;subst e;exact⟨h.vw,h.kF,⟨V,c.1,λb q=>⟨k b q,c.2 b q⟩⟩,h.d,h.q,h.rd,h.zx,h.CX⟩
def aqc{J:(Loc->Prop)->Nat->Jd}{F:Ē}(P:qX=F.at y (Ð Q (j9::jJ)::L)::r)(c:fy.rX À zX i (Lf kd o R n v l qX) .fD D u E w qJ)(C:Option (Nat×Nat))(s:gD l)(S:∀b,¬l.I b)(W:¬l.q)(Y:l.d=0)(MC:vS zX i l)(H:Iz l bt kd o R X)(hZ:(∀b,X b->f b)/\∀b,b=1\/b=2\/b=3\/b=4->f b)(I:∀b,f b->l.O b)(K:∀b,j b->f b)(B1:RD s0 v j l.w)(xE:w.os=l.w.os/\w.output=l.w.output)(hn:1<=n)(hs:n+R<1000) (hJ:∀t x z B p m c,vS t x z->gD z->Ae f bt R kd s0 l B (Ç p m c) z->fy.fl À Î (J t x) z (G (F.at (y.put ((Q[j9]?).bind (·.dst))<|ë #[Ç (Â ⟨B,0,Á⟩) R R,Ç p m c])<|Ð Q jJ::L) r)): ∃N t x T V HL g e tu h,ž À N (Į E w C) qJ=(.next<|Į g e tu,h)/\(e.os=l.w.os/\e.output=l.w.output)/\fy.rX À t x (J t x) T V HL g e h:= akO (M:=iD l f bt kd R s0 j) P c C s S W Y MC (λb q=>I b<|K b q) (λs C V w e h L=>⟨h.1.r L,h.2⟩) (λs C V w h=>⟨by let⟨_,_,_,⟨g,n,N,e,_⟩,_⟩:=h.1;exact⟨g,n,N,e⟩,λb q=>(h.2 b q).imp (I b) id⟩) ⟨B1,λb h=>È<|K b h⟩ xE hn hs (λg N V T cq B ba bi all e=>⟨ap9 H hZ e,ap8 H e⟩) λt x z B p m c e g N=>hJ t x z B p m c e g<|aqb N
end
end Go.Proofs.Y.kt
namespace Go.Proofs.Y.mO
open Go Go.Proofs Go.RowKit Go.Proofs.Y.Lift Go.Proofs.Y.gp
def jk(c:Int):Bool:=decide (48<=c)&&decide (c<=57)
def sy(c:Int):Bool:=decide (97<=c)&&decide (c<=104)
def we(c:Int):Int:=
 if c=105 then 1 else if c=103 then 2 else if c=98 then 3 else if c=99 then 4 else if c=109 then 5
 else if c=114 then 6 else if c=108 then 7 else if c=117 then 8 else if c=100 then 9 else 0
def MD(c:Int):Int:=if c=62 then 1 else if c=123 then 2 else if c=58 then 3 else 0
def abe(h:48<=c/\c<=57):jk c=Î:=by simp[jk,h]
theorem Fb(c:Int):jk c=Î↔(48<=c/\c<=57):=by simp[jk]
def aqd(c:Int):sy c=Î↔(97<=c/\c<=104):=by simp[sy]
def rn(k:Int):List Int:=
 if k=1 then[86,58,120,47,66]else if k=2 then[86,58,120,115]else if k=3 then[86,58,120]
 else if k=4 then[86,58,120,62,121,40,110,44,107,41]else if k=5 then[86,58,120,62,121,40,107,41]
 else if k=9 then[86,58,87]else[86]
def sB(k:Int):List Int:=
 if k=1 then[121,61,110]else if k=2 then[80]else[121,40,110,44,107,41]
def oZ(a c:Int):Bool:=
 if a=86\/a=87 then c==104||jk c
 else if a=110\/a=107 then jk c
 else if a=120\/a=121 then sy c
 else if a=115 then jk c||(decide (97<=c)&&decide (c<=102))
 else c==a
def qz(a c:Int):Int:=
 if c=48\/jk c=Ë then 0
 else if a=86\/a=87 then 1
 else if a=110\/a=107 then 5
 else 0
def j2(s:ByteArray):List Int:=s.data.toList.map λc=>((c.toNat:Nat):Int)
def aqe(B:ByteArray)(k:Nat)(h:k<B.size):(j2 B).drop k=((B[k].toNat:Nat):Int)::(j2 B).drop (k+1):=by
 have a:k<(j2 B).length:=by simpa[j2]using h
 rw[List.drop_eq_getElem_cons a];congr 1;simp[j2,ċ]
theorem Ua(B:ByteArray):(j2 B).length=B.size:=by unfold j2;simp_all
theorem wh(s:ByteArray)(h:0<s.size):j2 s=((s[0].toNat:Nat):Int)::(j2 s).tail:=by have:=aqe s 0 h;grind
theorem abf(s:ByteArray)(h:s.size=0):j2 s=[]:=by grind [Ý,Ua]
def aqf(s:ByteArray):j2 (s.extract 1 s.size)=(j2 s).tail:=by unfold j2;rw[Ĳ,ĺ,<-List.map_tail];congr 1;rw[ĥ,<-List.drop_one];apply List.take_of_length_le;simp_all
theorem aqg(s:ByteArray)(h:s.size<=10):(s.extract 1 s.size).size<=10:=by grind [Č]
theorem aqh(a c:Int):0<=qz a c/\qz a c<=5:=by unfold qz;grind
structure PT where
 c:List Int
 p:ByteArray
structure PR where
 c:List Int
 r:List PT
structure PD where
 S:List PR
 r:Bool
 I:PR
 M:Bool
 N:PT
structure PS where
 C:List Int
 r:Int
 I:Int
 M:Int
 d:PD
namespace PD
def Y(d:PD):List PT:=if d.M then d.I.r++[d.N]else d.I.r
def C(d:PD):List PR:=if d.r then d.S++[⟨d.I.c,d.Y⟩]else d.S
def oh(d:PD)(i:Nat)(z:Int):PD:={d with I:={d.I with c:=d.I.c.set i z}}
def oG(d:PD)(i:Nat)(z:Int):PD:={d with N:={d.N with c:=d.N.c.set i z}}
def iA(d:PD)(i:Nat)(z:Int):PD:=if d.M then d.oG i z else d.oh i z
def oH(d:PD)(p:ByteArray):PD:={d with N:={d.N with p:=p}}
def E9:PT:=⟨[0,0,0,0,0],⟨#[]⟩⟩
def abg(k:Int):PR:=⟨[0,0,0,0,k,0,0,0],[]⟩
def nN(d:PD):PD:={d with I:=⟨d.I.c,d.Y⟩,M:=Î,N:=E9}
def Fc(d:PD)(k:Int):PD:={S:=d.C,r:=Î,I:=abg k,M:=Ë,N:=d.N}
def fS(d:PD)(want z:Int):PD:=
 if want=86 then d.oh 5 z else if want=87 then d.oh 6 z else if want=120 then d.iA 0 z else if want=121 then d.iA 1 z
 else if want=110 then d.iA 2 z else if want=107 then d.iA 3 z else if want=115 then d.oh 7 z else d
def tD(d:PD)(i:Nat):Int:=if d.M then d.N.c.getD i 0 else d.I.c.getD i 0
def G(d:PD)(a:Int):Int:=if a=86 then d.I.c.getD 5 0 else if a=87 then d.I.c.getD 6 0 else if a=110 then d.tD 2 else d.tD 3
end PD
def mY(a c:Int):Int:=
 if a=120\/a=121 then Þ [97,98,99,100,101,102,103,104] c.toNat.toUInt8
 else if a=115 then Þ [48,49,50,51,52,53,54,55,56,57,97,98,99,100,101,102] c.toNat.toUInt8
 else if c=104 then-1 else(c-48)%256
def pP(z c:Int):Int:=É.wrap<|É.wrap (z*10)+(c-48)%256
def pQ(st:PS)(c:Int):Option PS:=
 if c=59/\st.d.S.length+1<24 then Â {st with C:=[82]}
 else if c=44/\0<st.d.Y.length/\st.d.Y.length<8 then Â {st with C:=[120,84],d:=st.d.nN}
 else Á
def yd(st:PS)(k:Int):Option PS:=if k=0 then Á else Â {st with C:=rn k,d:=st.d.Fc k}
def ye(st:PS)(k:Int):Option PS:=if k=0 then Á else Â {st with C:=sB k,I:=0,d:=st.d.oG 4 k}
def om(st:PS)(a c:Int):PS:={st with r:=qz a c,M:=a,d:=st.d.fS a (mY a c)}
def jU(B:ByteArray)(k:Nat)(st:PS)(c:Int):Option PS:=
 match st.C with
 |[]=>pQ st c
 |want::tl=>
  if want=82 then yd st (we c)
  else if want=66 then
   if sy c=Î then Â (om {st with C:=[84],d:=st.d.nN} 120 c)else pQ st c
  else if want=84 then ye st (MD c)
  else if want=80 then
   if c=125 then Â {st with C:=tl,d:=st.d.oH (B.extract (k-st.I.toNat) k)}
   else if st.I=40\/lB c=0 then Á else Â {st with I:=st.I+1}
  else if oZ want c=Î then Â {om st want c with C:=tl}
  else Á
def Cu(st:PS)(c:Int):PS:={st with r:=st.r-1,d:=st.d.fS st.M (pP (st.d.G st.M) c)}
def kT(B:ByteArray)(k:Nat)(st:PS)(c:Int):Option PS:=
 if 0<st.r/\jk c=Î then Â (Cu st c)else jU B k {st with r:=0} c
def jV(B:ByteArray):Nat->Nat->PS->Nat×PS
 |0,k,st=>(k,st)
 |f+1,k,st=>if h:k<B.size then match kT B k st (B[k].toNat:Int)with
  |none=>(k,st)
  |some a=>jV B f (k+1) a
  else(k,st)
def pd0:PD:=⟨[],Ë,⟨[],[]⟩,Ë,⟨[],⟨#[]⟩⟩⟩
def nO:PS:=⟨[82],0,0,0,pd0⟩
def sC(c:Int)(w:Í): Ò À 78 #[Å Ū c] w λe a=>e=Æ (õ<|jk c)/\a=w:=by
 go_enter Tryz.func78,Tryz.ntmps78;go_wp2;all_goals go_ret
 all_goals exact⟨b_ (by simp only[jk];first|(simp[*];done)|(rw[Ę];simp;omega)),U⟩
def aqi(s:ByteArray)(c:Int)(w:Í): Ò À 151 #[Ä s,Å Ū c] w λe a=>e=Æ (Å É<|Þ s.data.toList c.toNat.toUInt8)/\a=w:=by go_enter Tryz.func151,Tryz.ntmps151;go_wp2;rw[run_callFunc_extern Tryz.func169 fv fv fv fv,Lib.run_indexByteString];simp only[Ų];rw[Oper.upon_value];go_wp2;go_ret;exact⟨U,U⟩
def IA(s:ByteArray)(c:Int)(w:Í): Ò À 130 #[Ä s,Å Ū c] w λe a=>e=Æ (Å É<|Þ s.data.toList c.toNat.toUInt8)/\a=w:=by go_enter Tryz.func130,Tryz.ntmps130;go_wp2_with (go_at_call 151;refine(aqi _ _ _).mono ?_;rintro e a ⟨rfl,rfl⟩);go_ret;exact⟨U,U⟩
def ME(c:Int):Bool:=jk c||(decide (97<=c)&&decide (c<=102))
def aqj:∀n:Fin 256,decide (0<=Þ [97,98,99,100,101,102,103,104] n.val.toUInt8)=sy (n.val:Int):=by decide+kernel
def aqk:∀n:Fin 256,decide (0<=Þ [48,49,50,51,52,53,54,55,56,57,97,98,99,100,101,102] n.val.toUInt8)=ME (n.val:Int):=by decide+kernel
def aql(a:0<=c)(b:c<256):decide (0<=Þ [97,98,99,100,101,102,103,104] c.toNat.toUInt8)=sy c:=by have:=aqj ⟨c.toNat,Z⟩;rwa[show((c.toNat:Nat):Int)=c from by omega]at this
def aqm(a:0<=c)(b:c<256):decide (0<=Þ [48,49,50,51,52,53,54,55,56,57,97,98,99,100,101,102] c.toNat.toUInt8)=ME c:=by have:=aqk ⟨c.toNat,Z⟩;rwa[show((c.toNat:Nat):Int)=c from by omega]at this
def Ub(c:Int)(b:0<=c)(d:c<256)(w:Í): Ò À 82 #[Å Ū c] w λe a=>e=Æ (õ<|sy c)/\a=w:=by
 have f:=aql b d;go_enter Tryz.func82,Tryz.ntmps82;go_wp2_with (go_at_call 130;refine(IA _ _ _).mono ?_;rintro e a ⟨rfl,rfl⟩);all_goals go_ret
 all_goals exact⟨U,U⟩
def aqn(c:Int)(b:0<=c)(d:c<256)(w:Í): Ò À 133 #[Å Ū c] w λe a=>e=Æ (õ<|ME c)/\a=w:=by
 have f:=aqm b d;go_enter Tryz.func133,Tryz.ntmps133;go_wp2_with (go_at_call 130;refine(IA _ _ _).mono ?_;rintro e a ⟨rfl,rfl⟩);all_goals go_ret
 all_goals exact⟨U,U⟩
def aqo(c:Int)(w:Í): Ò À 86 #[Å Ū c] w λe a=>e=Æ (Å É<|MD c)/\a=w:=by
 go_enter Tryz.func86,Tryz.ntmps86;go_wp2;all_goals go_ret
 all_goals refine⟨EA ?_,U⟩
 all_goals simp only[beq_iff_eq,beq_eq_false_iff_ne,ne_eq]at*
 all_goals simp[MD, *]
def aqp(c:Int)(w:Í): Ò À 81 #[Å Ū c] w λe a=>e=Æ (Å É<|we c)/\a=w:=by
 go_enter Tryz.func81,Tryz.ntmps81;go_wp2;all_goals go_ret
 all_goals refine⟨EA ?_,U⟩
 all_goals simp only[beq_iff_eq,beq_eq_false_iff_ne,ne_eq]at*
 all_goals simp[we, *]
def abh(b c:Int)(d:0<=c)(f:c<256)(w:Í): Ò À 88 #[Å Ū b,Å Ū c] w λe a=>e=Æ (õ<|oZ b c)/\a=w:=by
 go_enter Tryz.func88,Tryz.ntmps88;go_wp2_with (first|(go_at_call 78;refine(sC _ _).mono ?_;rintro e a ⟨rfl,rfl⟩)|(go_at_call 82;refine(Ub _ d f _).mono ?_;rintro e a ⟨rfl,rfl⟩)|(go_at_call 133;refine(aqn _ d f _).mono ?_;rintro e a ⟨rfl,rfl⟩));all_goals go_ret
 all_goals refine⟨b_ ?_,U⟩
 all_goals try go_light
 all_goals simp only[beq_iff_eq,beq_eq_false_iff_ne,ne_eq]at*
 all_goals unfold oZ
 all_goals first|(simp[ME, *];done)|(rw[Ę];simp[*];done)|(rw[Ę];simp[*];omega)
def aqr(k:Int)(w:Í): Ò À 129 #[Å É k] w λe a=>(∃b:ByteArray,e=Æ (Ä b)/\b.size<=10/\j2 b=rn k)/\a=w:=by
 go_enter Tryz.func129,Tryz.ntmps129;go_wp2;all_goals go_ret
 all_goals refine⟨⟨_,U,?_,?_⟩,U⟩
 all_goals try go_light
 all_goals simp only[beq_iff_eq,beq_eq_false_iff_ne,ne_eq]at*
 all_goals first|(simp[j2,rn, *];done)|decide
def aqs(k:Int)(w:Í): Ò À 132 #[Å É k] w λe a=>(∃b:ByteArray,e=Æ (Ä b)/\b.size<=10/\j2 b=sB k)/\a=w:=by
 go_enter Tryz.func132,Tryz.ntmps132;go_wp2;all_goals go_ret
 all_goals refine⟨⟨_,U,?_,?_⟩,U⟩
 all_goals try go_light
 all_goals simp only[beq_iff_eq,beq_eq_false_iff_ne,ne_eq]at*
 all_goals first|(simp[j2,sB, *];done)|decide
def mZ(m s:Nat):Ñ->Prop
 |Å Ū _=>False
 |Å _ _=>True
 |õ _=>True
 |Ä _=>True
 |Ã Á=>True
 |Ã (Â a)=>m<=a.block/\a.block<s
 |Ç Á _ _=>True
 |Ç (Â a) _ _=>m<=a.block/\a.block<s
 |_=>False
def mZ.r(h:mZ m i v)(d:i<=n):mZ m n v:=by
 cases v with
 |int k b=>cases k<;>exact h
 |pointer a=>cases a with
  |none=>trivial
  |some a=>exact⟨h.1,Ġ h.2 d⟩
 |slice a b c=>cases a with
  |none=>trivial
  |some a=>exact⟨h.1,Ġ h.2 d⟩
 |_=>exact h
def MG(m s:Nat)(o:Obj):Prop:=∃c e a,o=Û c e a/\a.2<=c.size/\0<c.size/\e≠298/\e≠299/\∀v∈c.toList,mZ m s v
def jC(m:Nat)(w:Í):Prop:=∀i o,m<=i->w.heap[i]?=Â o->MG m w.heap.size o
def MG.r{o:Obj}(h:MG m i o)(a:i<=n):MG m n o:=by let⟨c,e,b,d,f,g,j,k,l⟩:=h;exact⟨c,e,b,d,f,g,j,k,λv p=>(l v p).r a⟩
def jC.I(w:Í):jC w.heap.size w:=λi o a h=>by rw[ı a]at h;cases h
def jC.fU(h:jC m w):jC m w.drew:=h
def jC.iR(h:jC m w)(n:Nat):jC m (w.drewN n):=h
theorem jC.gJ(h:jC m w)(cs:Array Ñ)(t:č)(c:0<cs.size)(b:t≠298/\t≠299)(d:∀v∈cs.toList,mZ m w.heap.size v):jC m (w.alloc<|Û cs t):=by
 intro i o f a;have k:(w.alloc<|Û cs t).heap.size=w.heap.size+1:=fq
 by_cases e:i<w.heap.size
 .rw[Š _ _ _ e]at a;exact(h i o f a).r Z
 .by_cases g:i=w.heap.size
  .subst g;rw[ų]at a;cases a;exact⟨cs,t,(0,0),U,Ù _,c,b.1,b.2,λv j=>(d v j).r Z⟩
  .grind
def jC.r(h:jC m w)(p:û)(l:mZ m w.heap.size v):jC m (w.setCell p v):=by
 intro i o f a;have n:(w.setCell p v).heap.size=w.heap.size:=fq
 rw[n];by_cases e:i=p.block
 .subst e;unfold Ż at a;simp only[Ķ,if_true]at a;cases d:w.heap[p.block]? with
  |none=>rw[d]at a;cases a
  |some x=>
   rw[d]at a;obtain⟨c,e,r,rfl,g,j,s,t,k⟩:=h _ _ f d;simp only[ā,Ô]at a;subst a;refine⟨_,e,r,U,?_,?_,s,t,λu b=> ?_⟩
   .split
    .exact g
    .rwa[Ĭ]
   .split
    .exact j
    .rwa[Ĭ]
   .split at b
    .exact k u b
    .rw[Array.toList_setIfInBounds]at b;rcases Ħ b with q|q
     .exact k u q
     .rwa[q]
 .rw[ġ _ _ _ _ (by simpa using e)]at a;exact h i o f a
theorem aqt{ty:č}{bytes base:Nat}(y:P.underlying t=Â (.slice e))(B:P.info? e=Â zJ)(G:zJ.zero=Â (Ã Á)) (s:zJ.size=1) (H:zJ.bytes=bytes) (f:w.ownsRow base e 1 v n l) (a:û) (c:Nat) (C:∀j M,[z][j]?=Â M->w.cell? (a.add j)=Â M) (N:z.oneCell'=Î) (O:n+1<=ī) (I:(n+1)*bytes<=140737488355328) (W:base<=w.heap.size) (X:mq e=Ë) (hm:m<=base) (D:jC m w) (hg:mZ m w.heap.size z) (Y:e≠298/\e≠299): ∃h u,(ė #[t,t] ty #[v,Ç (Â a) 1 c]).run P w=.ok h u/\qk w base e 1 v n l 1 [z] h u/\jC m u/\mZ m u.heap.size h:=by
 obtain⟨h,u,J,E⟩:=SC y B G s H U f a c [z] Z U C (λx b=>by simp at b;subst b;exact N) O I W<|È X;have hgv:mZ m u.heap.size h:=by
  obtain⟨p,o,rfl⟩:=jL E.ft;cases p with
  |none=>trivial
  |some p=>
   have k:=E.ft.lt p.block (by rcases E.ft.2 with⟨q,_⟩|⟨g,r,d,q,_⟩<;>(cases q;try rfl));exact⟨Z,k.2⟩
 refine⟨h,u,J,E,?_,hgv⟩;have q:[z].length=1*zJ.size:=by rw[s];rfl
 have hlx:l.length=n*zJ.size:=by rw[s];exact f.1
 have alf:n+1<=9223372036854775807:=by simp only[ī]at O;omega
 have GH:∀x∈l,mZ m w.heap.size x:=λx b=>by
  rcases f.2 with⟨_,rfl⟩|⟨g,r,d,rfl,hbg,p,hnc,hcm,Q,htake⟩
  .grind
  .let⟨c2,e2,qG,S,_,_,_,_,q6⟩:=D g _ Z p;grind
 have gr:∀T,jC m (w.drew.alloc<|Û (l.toArray++[z].toArray++φ (Ĺ<|Ã Á) (grownCap w (n+1) T e-(n+1))) e):=λT=>by
  refine jC.gJ D _ _ (by simp;omega) Y λx b=> ?_;simp only[Array.toList_append,â]at b;rcases b with(b|b)|b
  .exact GH x b
  .grind
  .have:=SB b;simp[Ĺ]at this;subst this;trivial
 rcases f.2 with⟨rfl,rfl⟩|⟨g,r,d,rfl,hbg,p,hnc,hcm,Q,htake⟩
 .have b:=Ý (by simpa using f.1);subst b;have K:=run_append_nil w t ty e zJ (Ã Á) y B G a 1 c [z] q C Z Z (by rw[H];have k:=I;simp only[œ]at k;omega);grind
 .by_cases aqu:n+1<=r
  .have SF:n*zJ.size+[z].length<=d.size:=by rw[q,Q,s];omega
   have K:=run_append_room w t ty e zJ y B g n r d p a 1 c [z] q C (λx b=>by simp at b;subst b;exact N) aqu SF;rw[K]at J;cases J;have MH:=setRow_heap w g d (d.toList.take (n*zJ.size)++[z]++d.toList.drop (n*zJ.size+[z].length)).toArray e _ p;have aqv:=λk (L:k≠g)=>setRow_other w g k (d.toList.take (n*zJ.size)++[z]++d.toList.drop (n*zJ.size+[z].length)).toArray L;let⟨c2,e2,qG,S,q2,q3,q4,q5,q6⟩:=D g _ Z p;cases S;intro k o L F;have kg:(w.setRow g (d.toList.take (n*zJ.size)++[z]++d.toList.drop (n*zJ.size+[z].length)).toArray).heap.size=w.heap.size:=fq
   rw[kg];by_cases V:k=g
   .subst V;rw[MH]at F;cases F;refine⟨_,_,_,U,fq,(by simp;omega),q4,q5,λx b=> ?_⟩;grind
   .rw[aqv k V]at F;exact D k o L F
  .have k:w.ownsRow base e zJ.size (Ç (Â ⟨g,0,Á⟩) n r) n l:=by rwa[s]
   have K:=run_append_grow w t ty e zJ (Ã Á) y B G ⟨g,0,Á⟩ n r l hlx (k.cells U) a 1 c [z] q C Z Z (by rw[H];exact growslice_fits Z I);grind
def abj{f:Array ĝ}{E:Prop}{base:Nat} (k:o.guard=Á) (s x:Operand) (t:č) (p:o.op=Op.call {callee:=Callee.builtin κ,args:=#[s,x],argTypes:=#[t,t]}) {bytes:Nat} (q:P.underlying t=Â (.slice e)) (r:P.info? e=Â zJ) (B:zJ.zero=Â (Ã Á)) (C:zJ.size=1) (D:zJ.bytes=bytes) (F:y.eval s=v) (G:w.ownsRow base e 1 v n l) (ad:û) (H:y.eval x=Ç (Â ad) 1 b) (I:∀j g,[z][j]?=Â g->w.cell? (ad.add j)=Â g) (J:z.oneCell'=Î) (L:n+1<=ī) (M:(n+1)*bytes<=140737488355328) (N:base<=w.heap.size) (O:mq e=Ë) (S:m<=base) (T:jC m w) (V:mZ m w.heap.size z) (W:e≠298/\e≠299) (h:∀d u,qk w base e 1 v n l 1 [z] d u->jC m u->mZ m u.heap.size d->K (y.put o.dst d) u): if đ o (Θ f y.tmps)=Î then Oper.wp P o y w K vJ else E:=by
 have X:đ o (Θ f y.tmps)=Î:=by simp[đ,k]
 rw[if_pos X];let⟨d,u,Y,h2,h3,h4⟩:=aqt (ty:=o.type) q r B C D G ad b I J L M N O S T V W;unfold Oper.wp;simp[ś,p,ρ,ar,ς,F,H,Y,Ų];exact h d u h2 h3 h4
def nP(l:List Nat):List Ñ:=l.map λa=>Ã<|Â ⟨a,0,Á⟩
def oI(l:List Int):List Ñ:=l.map λz=>Å É z
def Fe(p:PT):List Ñ:=oI p.c++[Ä p.p]
def Cv(c:List Int)(a:Ñ):List Ñ:=oI c++[a]
structure o0(lo hi:Nat)(tb:List Nat)(l:List PT)(w:Í):Prop where
 r:tb.length=l.length
 I:∀(j a:Nat) (p:PT),tb[j]?=Â a->l[j]?=Â p->lo<=a/\a<hi/\p.c.length=5/\fj a (Fe p) 193 w
structure wi(B q:Nat)(r:PR)(w:Í):Prop where
 M:q<B
 C:r.c.length=8
 I:∃vb tb,fj q (Cv r.c vb) 154 w/\w.ownsRow 0 141 1 vb tb.length (nP tb)/\(∀j,vb.ownBlock=Â j->j<B)/\o0 0 B tb r.r w
structure pR(B:Nat)(qs:List Nat)(rs:List PR)(w:Í):Prop where
 I:qs.length=rs.length
 M:∀(j q:Nat) (r:PR),qs[j]?=Â q->rs[j]?=Â r->wi B q r w
section
variable{w':Í}{lo hi B q:Nat}{tb qs:List Nat}{l:List PT}{r:PR}{rs:List PR}
def o0.C(h:o0 lo hi tb l w)(k:fe X w w')(f:∀a c g,lo<=a->a<hi->w.heap[a]?=Â (Û c 193 g)->¬X a):o0 lo hi tb l w':= ⟨h.r,λj a p i m=>by let⟨b,d,n,e⟩:=h.I j a p i m;exact⟨b,d,n,e.I k<|f a _ _ b d e⟩⟩
def o0.M(h:o0 lo hi tb l w)(f:i<=lo)(g:hi<=n):o0 i n tb l w:= ⟨h.r,λj a p b c=>by let⟨k,m,d,e⟩:=h.I j a p b c;exact⟨Z,Z,d,e⟩⟩
theorem o0.N(lo hi:Nat)(w:Í):o0 lo hi [] [] w:=⟨U,λj a p h=>by cases h⟩
theorem Ff{α:Type}{l:List α}{a x:α}(h:(l++[a])[j]?=Â x):l[j]?=Â x\/j=l.length/\x=a:=by grind
theorem o0.Uc{p:PT}(h:o0 lo hi tb l w)(g:lo<=i)(k:i<hi)(m:p.c.length=5)(n:fj i (Fe p) 193 w):o0 lo hi (tb++[i]) (l++[p]) w:=by
 refine⟨by simp[h.r],λj x y d b=> ?_⟩;rcases Ff d with e|⟨e,rfl⟩
 .rcases Ff b with f|⟨f,rfl⟩
  .exact h.I j x y e f
  .have:=(Õ.1 e).1;have:=h.r;omega
 .rcases Ff b with f|⟨f,rfl⟩
  .have:=(Õ.1 f).1;have:=h.r;omega
  .grind
def Ud(B:Nat)(w:Í)(i:Nat):Prop:=B<=i\/∃c T a,w.heap[i]?=Â (Û c T a)/\(T=145\/T=140)
theorem Ue(a:Ud B w i)(hi:i<B)(h:w.heap[i]?=Â (Û d T xJ))(b:T≠145/\T≠140):False:=by rcases a with q|⟨e,f,qG,g,j⟩;all_goals grind
theorem wi.vw(h:wi B q r w)(k:fe X w w')(d:∀i,i<w.heap.size->X i->Ud B w i):wi B q r w':=by let⟨f,tb,b,g,l,m⟩:=h.I;refine⟨h.M,h.C,f,tb,b.I k λx=>Ue (d q b.M x) h.M b A,ig g k λj o x=> ?_,l,m.C k λa c p _ n e x=>Ue (d a (á.1 e).1 x) n e A⟩;grind [lY,Ue]
def wi.fQ(h:wi B q r w)(a:B<=i):wi i q r w:=by let⟨b,tb,c,d,e,f⟩:=h.I;exact⟨by have:=h.M;omega,h.C,b,tb,c,d,λj g=>by have:=e j g;omega,f.M (æ _) a⟩
def pR.C(h:pR B qs rs w)(k:fe X w w')(a:∀i,i<w.heap.size->X i->Ud B w i):pR B qs rs w':= ⟨h.I,λj q r b c=>(h.M j q r b c).vw k a⟩
def pR.Uc(h:pR B qs rs w)(b:B<=i)(c:wi i q r w):pR i (qs++[q]) (rs++[r]) w:=by
 refine⟨by simp[h.I],λj x y d a=> ?_⟩;rcases Ff d with e|⟨e,rfl⟩
 .rcases Ff a with f|⟨f,rfl⟩
  .exact(h.M j x y e f).fQ b
  .have:=(Õ.1 e).1;have:=h.I;omega
 .rcases Ff a with f|⟨f,rfl⟩
  .have:=(Õ.1 f).1;have:=h.I;omega
  .exact c
theorem pR.N(B:Nat)(w:Í):pR B [] [] w:=⟨U,λj q r h=>by cases h⟩
end
structure Gh where
 a:List Nat
 q:Nat
 t:Nat
 B:Nat
 tb:List Nat
 N:Ñ
 r:Ñ
 b:Option û
namespace Gh
def C(g:Gh)(d:PD):List Nat:=if d.r then g.a++[g.q]else g.a
def I(g:Gh)(d:PD):List Nat:=if d.M then g.tb++[g.t]else g.tb
def S(g:Gh)(d:PD):Option û:=if d.r then Â ⟨g.q,0,Á⟩else Á
def Y(g:Gh)(d:PD):Option û:=if d.M then Â ⟨g.t,0,Á⟩else g.b
def M(g:Gh)(d:PD):Nat:=if d.M then g.t else g.q
def G(g:Gh)(d:PD):Option û:=if d.r then Â ⟨g.M d,0,Á⟩else Á
def Cw(g:Gh)(d:PD)(a:Int):û:=if a=86 then⟨g.q,5,Á⟩else if a=87 then⟨g.q,6,Á⟩else if a=110 then⟨g.M d,2,Á⟩else⟨g.M d,3,Á⟩
end Gh
structure wj(m:Nat)(g:Gh)(d:PD)(w:Í):Prop where
 S:m<=g.B
 N:g.B<=g.q
 M:d.I.c.length=8
 r:fj g.q (Cv d.I.c g.r) 154 w
 I:w.ownsRow g.B 141 1 g.r (g.I d).length (nP<|g.I d)
 Y:o0 g.B g.t g.tb d.I.r w
 C:d.M=Î->g.B<=g.t/\d.N.c.length=5/\fj g.t (Fe d.N) 193 w
 a:d.M=Ë->g.tb=[]/\d.I.r=[]
structure kZ(m:Nat)(g:Gh)(d:PD)(w:Í):Prop where
 C:w.ownsRow m 140 1 g.N (g.C d).length (nP<|g.C d)
 I:pR g.B g.a d.S w
 r:d.r=Î->wj m g d w
 N:d.r=Ë->d.M=Ë
def Uf(s:ByteArray)(g:Gh)(d:PD)(a:Option û)(lr b:Int):List Ñ:=
 [Ä s,g.N,Ã<|g.S d,Ã<|g.Y d,Ã<|g.G d,Ã a,Å É lr,Å É b]
structure gR(m b:Nat)(g:Gh)(c:Option û)(s:ByteArray)(st:PS)(w:Í):Prop where
 S:m<=b
 a:jC m w
 r:fj b (Uf s g st.d c st.r st.I) 145 w
 M:s.size<=10
 I:j2 s=st.C
 C:kZ m g st.d w
 c:0<st.r->st.d.r=Î/\c=Â (g.Cw st.d st.M)
 N:st.d.r=Î\/st.C=[82]
def sD(m b:Nat)(st:PS)(w a:Í):Prop:=fe (λi=>m<=i) w a/\∃g i s,gR m b g i s st a
section
variable{w':Í}{g:Gh}{d:PD}{s:ByteArray}{st:PS}
theorem wj.vw(h:wj m g d w)(k:fe X w w')(p:∀i c T b,w.heap[i]?=Â (Û c T b)->X i->T=145\/T=140):wj m g d w':=by
 have l:∀{i:Nat} {c:Array Ñ} {T:č} {b:Nat×Nat},w.heap[i]?=Â (Û c T b)->(T≠145/\T≠140)->¬X i:=λ{i c T b} n f x=>(p i c T b n x).elim f.1 f.2;refine⟨h.S,h.N,h.M,h.r.I k<|l h.r A,ig h.I k λj r=> ?_,h.Y.C k λa c b _ _ q=>l q A,λe=> ?_,h.a⟩
 .let⟨o,s⟩:=lY h.I r;grind
 .let⟨n,f,o⟩:=h.C e;exact⟨n,f,o.I k<|l o A⟩
theorem kZ.S(h:kZ m g d w)(k:fe X w w')(b:∀i c T a,w.heap[i]?=Â (Û c T a)->X i->T=145)(f:∀i,i<w.heap.size->X i->∃c a,w.heap[i]?=Â (Û c 145 a)):kZ m g d w':=by
 refine⟨ig h.C k λj l x=> ?_,h.I.C k λi n x=> ?_,λe=>(h.r e).vw k λi c T a q x=>È<|b i c T a q x,h.N⟩
 .let⟨o,q⟩:=lY h.C l;grind
 .let⟨c,a,q⟩:=f i n x;exact Ï ⟨c,_,a,q,È U⟩
def kZ.M(h:kZ m g d w)(a:fj b l 145 w)(k:fe (λi=>i=b) w w'):kZ m g d w':= h.S k (λi c T e q x=>by subst x;unfold fj at a;rw[a]at q;cases q;rfl) λi _ x=>⟨l.toArray,(0,0),by rwa[x]⟩
def pS{i:Nat}{v:Value}{j:Nat}{vs:List Value}{T:TypeId}(h:fj j vs T w)(hT:mq T=false:=by decide):fe (λk=>k=j) w (w.setCell ⟨j,i,none⟩ v):=fe.I (X:=λk=>k=j) U v<|Ï<|h.G hT
def kZ.abk(h:kZ m g d w):(g.C d).length=d.C.length:=by unfold Gh.C PD.C;split<;>simp[h.I.I]
def wj.G(h:wj m g d w):(g.I d).length=d.Y.length:=by unfold Gh.I PD.Y;split<;>simp[h.Y.r]
def Ug(h:i<zQ.length)(v:Ñ):(oI zQ++[v])[i]?=Â (Å É<|zQ.getD i 0):=by rw[Ĥ (by simpa[oI]using h)];simp[oI,Ğ,h]
def abl(l:List Int)(i:Nat)(z:Int)(v:Ñ)(h:i<l.length):(oI l++[v]).set i (Å É z)=oI (l.set i z)++[v]:=by rw[List.set_append_left _ _ (by simpa[oI]using h)];simp[oI,List.map_set]
def abm(l:List Int)(v u:Ñ):(oI l++[v]).set l.length u=oI l++[u]:=by rw[Ĵ _ _ (by simp[oI])];simp[oI]
def Cx(l:List Int)(v:Ñ):(oI l++[v])[l.length]?=Â v:=by rw[ğ (by simp[oI])];simp[oI]
theorem kZ.Y(h:kZ m g d w)(on:d.r=Î)(n:i<8)(z:Int):kZ m g (d.oh i z) (w.setCell ⟨g.q,i,Á⟩<|Å É z):=by
 have l:=h.r on;have k:fe (λk=>k=g.q) w (w.setCell ⟨g.q,i,Á⟩<|Å É z):=pS l.r;have r:=l.N;refine⟨ig h.C k λj b x=>jA h.C l.r A (by rw[b,x]),h.I.C k λi _ x=>È Z,λ_=>⟨l.S,l.N,by simp[PD.oh,l.M],?_,ig l.I k λj b x=>jA l.I l.r A (by rw[b,x]),l.Y.C k λa c s _ _ q x=> ?_,λe=> ?_,l.a⟩,h.N⟩
 .have:=l.r.fS i<|Å É z;unfold Cv at this;rw[abl _ _ _ _ (by rwa[l.M])]at this;exact this
 .have:=l.r;unfold fj at this;grind
 .let⟨o,p,f⟩:=l.C e;exact⟨o,p,f.I k λx=>(fj.S f l.r A) x⟩
theorem kZ.iA(h:kZ m g d w)(on:d.r=Î)(f:d.M=Î){p:PT}(n:p.c.length=5)(r:(Fe d.N).set i v=Fe p):kZ m g {d with N:=p} (w.setCell ⟨g.t,i,Á⟩ v):=by have l:=h.r on;let⟨o,s,b⟩:=l.C f;have k:fe (λk=>k=g.t) w (w.setCell ⟨g.t,i,Á⟩ v):=pS b;refine⟨ig h.C k λj e x=>jA h.C b A (by rw[e,x]),h.I.C k λi _ x=>È Z,λ_=>⟨l.S,l.N,l.M,l.r.I k λx=>(fj.S l.r b A) x,ig l.I k λj e x=>jA l.I b A (by rw[e,x]),l.Y.C k λa c u _ q _ x=>by omega,λ_=>⟨o,n,?_⟩,l.a⟩,h.N⟩;have:=b.fS i v;grind
def kZ.G(h:kZ m g d w)(on:d.r=Î)(a:d.M=Î)(c:i<5)(z:Int):kZ m g (d.oG i z) (w.setCell ⟨g.t,i,Á⟩<|Å É z):=by let⟨e,b,f⟩:=(h.r on).C a;exact h.iA on a (by simp[b])<|abl _ _ _ _<|by rwa[b]
def kZ.oH(h:kZ m g d w)(on:d.r=Î)(a:d.M=Î)(p:ByteArray):kZ m g (d.oH p) (w.setCell ⟨g.t,5,Á⟩<|Ä p):=by let⟨e,b,f⟩:=(h.r on).C a;refine h.iA on a b ?_;have:=abm d.N.c (Ä d.N.p)<|Ä p;rwa[b]at this
structure qA(m b:Nat)(g:Gh)(d:PD)(ab ao:Nat)(f:Int->PD)(x:Int)(w:Í):Prop where
 r:ab≠b
 N:m<=ab
 a:ab<w.heap.size
 C:w.cell? ⟨ab,ao,Á⟩=Â (Å É x)
 I:w.frozen? ⟨ab,ao,Á⟩=Ë
 nf:NF ab w
 Y:∀W,kZ m g d W->∀z,kZ m g (f z)<|W.setCell ⟨ab,ao,Á⟩<|Å É z
 M:∀z,g.S (f z)=g.S d/\g.Y (f z)=g.Y d/\g.G (f z)=g.G d/\(f z).r=d.r/\∀n,g.Cw (f z) n=g.Cw d n
theorem Fg(h:kZ m g d w)(f:fj b l 145 w)(on:d.r=Î)(e:i<8):qA m b g d g.q i (λz=>d.oh i z) (d.I.c.getD i 0) w:=by have a:=h.r on;exact⟨fj.S a.r f A,Ì a.S a.N,a.r.M,a.r.r i _ (Ug (by rwa[a.M]) _),a.r.C i,a.r.G,λW j z=>j.Y on e z,λz=>⟨U,U,U,U,λn=>rfl⟩⟩
theorem abn(h:kZ m g d w)(k:fj b l 145 w)(on:d.r=Î)(f:d.M=Î)(j:i<5):qA m b g d g.t i (λz=>d.oG i z) (d.N.c.getD i 0) w:=by have a:=h.r on;let⟨o,p,e⟩:=a.C f;exact⟨fj.S e k A,Ì a.S o,e.M,e.r i _ (Ug (by rwa[p]) _),e.C i,e.G,λW q z=>q.G on f j z,λz=>⟨U,U,U,U,λn=>rfl⟩⟩
theorem Fh(h:kZ m g d w)(a:fj b l 145 w)(on:d.r=Î)(c:i<4):qA m b g d (g.M d) i (λz=>d.iA i z) (d.tD i) w:=by unfold PD.iA PD.tD Gh.M;split;all_goals grind [abn,Fg]
theorem gR.G{f:Int->PD}(h:gR m b g O s st w)(n:qA m b g st.d i j f c w)(z:Int):gR m b g O s {st with d:=f z} (w.setCell ⟨i,j,Á⟩<|Å É z):=by
 let⟨e,l,o,a,p⟩:=n.M z;have k:fe (λk=>k=i) w (w.setCell ⟨i,j,Á⟩<|Å É z):=fe.I (X:=λk=>k=i) U _<|È U;refine⟨h.S,h.a.r _ trivial,?_,h.M,h.I,n.Y w h.C z,λq=> ?_,?_⟩
 .have:=h.r.I k λc=>n.r c.symm;unfold Uf at this|-;grind
 .let⟨r,t⟩:=h.c q;grind
 .simp only[a];exact h.N
def gR.MI(h:gR m b g O s st w)(a:ByteArray)(r:List Int)(c:a.size<=10)(e:j2 a=r)(f:st.d.r=Î\/r=[82]):gR m b g O a {st with C:=r} (w.setCell ⟨b,0,Á⟩<|Ä a):= ⟨h.S,h.a.r _ trivial,h.r.fS 0 _,c,e,h.C.M h.r<|pS h.r,h.c,f⟩
def gR.Y(h:gR m b g O s st w)(z:Int)(a:0<z->st.d.r=Î/\O=Â (g.Cw st.d st.M)):gR m b g O s {st with r:=z} (w.setCell ⟨b,6,Á⟩<|Å É z):= ⟨h.S,h.a.r _ trivial,h.r.fS 6 _,h.M,h.I,h.C.M h.r<|pS h.r,a,h.N⟩
def gR.abo(h:gR m b g O s st w)(z:Int):gR m b g O s {st with I:=z} (w.setCell ⟨b,7,Á⟩<|Å É z):= ⟨h.S,h.a.r _ trivial,h.r.fS 7 _,h.M,h.I,h.C.M h.r<|pS h.r,h.c,h.N⟩
def gR.abp(h:gR m b g O s st w)(a:û)(n:Int)(d:st.r=0)(c:m<=a.block/\a.block<w.heap.size):gR m b g (Â a) s {st with M:=n} (w.setCell ⟨b,5,Á⟩<|Ã<|Â a):= ⟨h.S,h.a.r _ c,h.r.fS 5 _,h.M,h.I,h.C.M h.r<|pS h.r,λq=>by have:0<st.r:=q;omega,h.N⟩
def gR.fU(h:gR m b g O s st w):gR m b g O s st w.drew:=by have k:=fe.fU fi w;exact⟨h.S,h.a,h.r.I k id,h.M,h.I,h.C.S k (λ_ _ _ _ _ x=>x.elim) λ_ _ x=>x.elim,h.c,h.N⟩
end
section
variable{g:Gh}{s:ByteArray}{st:PS}{f:Int->PD}{x:Int}
def qA.S{d:PD}(h:qA m b g d n j f x w)(i:Nat)(v:Ñ):qA m b g d n j f x (w.setCell ⟨b,i,Á⟩ v):= ⟨h.r,h.N,by simpa using h.a,by rw[HO<|Ne.symm h.r];exact h.C,by rw[World.frozen?_setCell];exact h.I,λc T a q=>h.nf c T a (by rwa[ġ _ _ _ _ (by simpa using h.r)]at q),h.Y,h.M⟩
def gR.Uh(h:gR m b g O s st w)(n:Int)(a:st.r=0):gR m b g O s {st with M:=n} w:= ⟨h.S,h.a,h.r,h.M,h.I,h.C,λq=>by have:0<st.r:=q;omega,h.N⟩
def mP(h:gR m b g O s st w)(i:Nat)(v:Ñ):fe (λi=>m<=i) w (w.setCell ⟨b,i,Á⟩ v):=fe.I (X:=λi=>m<=i) (p:=⟨b,i,Á⟩) h.S v<|Ï h.r.G
def Fi(h:qA m b g st.d n j f x w)(z:Int):fe (λi=>m<=i) w (w.setCell ⟨n,j,Á⟩<|Å É z):=fe.I (X:=λi=>m<=i) (p:=⟨n,j,Á⟩) h.N _<|È U
def wm(c a:Int):Int:=if c=104\/c=48 then 0 else a-1
def jM(c:Int):Int:=if c=104 then-1 else(c-48)%256
def Ui{st:PS}(h:st.r=0)(n:Int)(d:PD):({st with r:=0,M:=n,d:=d}:PS)={st with M:=n,d:=d}:=by rw[<-h]
def MJ(h:gR m b g O s st w)(i:qA m b g st.d n j f x w)(k:st.r=0)(o:st.d.r=Î)(c l a:Int)(C:0<=l)(D:l<=6)(p:∀z,g.Cw (f z) a=⟨n,j,Á⟩): Ò À 131 #[Ã<|Â ⟨b,0,Á⟩,Ã<|Â ⟨n,j,Á⟩,Å Ū c,Å É l] w λe u=>
  e=Æ (ë #[])/\sD m b {st with r:=wm c l,M:=a,d:=f (jM c)} w u:=by
 have E:=h.r.r 5 _ U;have F:=h.r.r 6 _ U;have G:=h.r.C 5;have I:=h.r.C 6;have J:=i.C;have K:=i.I;have L:=i.r;have M:¬b=n:=λe=>i.r e.symm;have t:m<=n/\n<w.heap.size:=⟨i.N,i.a⟩;have H:=fg<|Ê h<|Ê i<|Ê p<|Ê k o;by_cases r:c=104
 .subst r;go_enter Ŗ,ŋ;go_wp2;first|go_end0|refine þ (results_none U _ _ _) U ?_
  let⟨h,i,p,k,o⟩:=H.out;refine⟨U,Fi i _,g,O,s,?_⟩;have:=(h.G i<|-1).Uh a k;rw[show wm 104 l=0 from if_pos<|È U,Ui k];exact this
 .have N:(c==104)=Ë:=by rwa[beq_eq_false_iff_ne]
  have v:jM c=(c-48)%256:=if_neg r;by_cases B:c=48
  .subst B;go_enter Ŗ,ŋ;go_wp2;go_end0;let⟨h,i,p,k,o⟩:=H.out;have y:=h.abp ⟨n,j,Á⟩ a k t;have q:=i.S 5<|Ã<|Â ⟨n,j,Á⟩;refine⟨U,(mP h 5 _).fh<|Fi q _,g,Â ⟨n,j,Á⟩,s,?_⟩;have:=y.G q 0;rw[show wm 48 l=0 from if_pos<|Ï U,Ui k,v];exact this
  .go_enter Ŗ,ŋ;go_wp2;go_end0;let⟨h,i,p,k,o⟩:=H.out;have q:=i.S 5<|Ã<|Â ⟨n,j,Á⟩;have y:=(h.abp ⟨n,j,Á⟩ a k t).G q<|(c-48)%256;refine⟨U,((mP h 5 _).fh<|Fi q _).fh<|mP y 6 _,g,Â ⟨n,j,Á⟩,s,?_⟩;rw[show wm c l=l-1 from if_neg Z,v];exact(y.Y (l-1) λ_=>⟨by simp only;rwa[(i.M _).2.2.2.1],by simp only;rw[p]⟩)
theorem MK{b a:Int}(h:oZ a c=Î)(d:(a=86\/a=87)/\b=2\/(a=110\/a=107)/\b=6):wm c b=qz a c:=by unfold wm qz;unfold oZ at h;grind [Fb]
theorem ML{a:Int}(h:¬(a=86\/a=87)/\¬(a=110\/a=107)):qz a c=0:=by unfold qz;grind
theorem MN{a:Int}(h:a=86\/a=87\/a=110\/a=107):mY a c=jM c:=by unfold mY jM;grind
def Uj(h:gR m b g O s st w)(i:qA m b g st.d n j f x w)(k:st.r=0){a z:Int}(e:c=0)(l:u=(w.setCell ⟨n,j,Á⟩<|Å É z).drew):sD m b {st with r:=c,M:=a,d:=f z} w u:=by subst l;subst e;rw[Ui k];exact⟨(Fi i z).fh<|fe.fU _ _,g,O,s,((h.G i z).Uh a k).fU⟩
end
section
variable{g:Gh}{st:PS}
def IB{d:PD}(a:d.M=Î):g.Y d=Â ⟨g.t,0,Á⟩:=if_pos a
def aqw:ye st 0=Á:=rfl
def aqx(h:gR m b g O B st w)(r:st.r=0)(on:st.d.r=Î)(f:st.d.M=Î)(k:Int): Ò À 85 #[Ã<|Â ⟨b,0,Á⟩,Å É k] w λe u=>match ye st k with
  |none=>e=Æ (õ Ë)/\u=w
  |some a=>e=Æ (õ Î)/\sD m b a w u:=by
 have s:=h.r.r 0 _ U;have o:=h.r.r 3 _ U;have v:=h.r.r 7 _ U;rw[IB f]at o;have x:=h.r.C 0;have y:=h.r.C 7;have a:=abn h.C h.r on f (i:=4) A;have z:=a.C;have C:=a.I;have D:=a.r;have E:¬b=g.t:=λe=>a.r e.symm;have H:=fg<|Ê h a;by_cases c:k=0
 .subst c;rw[aqw];go_enter Υ,Ι;go_wp2;go_ret;exact⟨U,U⟩
 .have F:(k==0)=Ë:=by rwa[beq_eq_false_iff_ne]
  have e:ye st k=Â {st with C:=sB k,I:=0,d:=st.d.oG 4 k}:=if_neg c;rw[e];go_enter Υ,Ι;go_wp2_with (go_at_call 132;refine(aqs _ _).mono ?_;rintro e u ⟨⟨j,rfl,p,q⟩,l⟩;subst u);go_ret;let⟨h,a⟩:=H.out;have l:=h.G a k;have n:=l.abo 0;exact⟨U,((Fi a k).fh<|mP l 7 _).fh<|mP n 0 _,g,O,j,n.MI j _ p q<|È on⟩
end
def aqy:(À.info? 141).map (λi=>(i.zero,i.size,i.bytes))=Â (Â<|Ã Á,1,8):=fv
def aqz:(À.info? 140).map (λi=>(i.zero,i.size,i.bytes))=Â (Â<|Ã Á,1,8):=fv
section
variable{g:Gh}{nm:Option û}{s:ByteArray}{st:PS}{d:PD}{T:Nat}
structure uX(m:Nat)(g:Gh)(d:PD)(T:Nat)(w:Í):Prop where
 C:w.ownsRow m 140 1 g.N (g.C d).length (nP<|g.C d)
 I:pR g.B g.a d.S w
 N:o0 g.B T (g.I d) d.Y w
 tb:fj T (Fe PD.E9) 193 w
def IC(x:i=j)(h:fj j l t w):w.heap[i]?=Â (Û l.toArray t (0,0)):=by rwa[x]
theorem uX.r(h:uX m g d T w)(k:fe X w u)(f:∀i,i<w.heap.size->X i->∃c t b,w.heap[i]?=Â (Û c t b)/\(t=145\/(t=154\/t=141)/\g.B<=i)):uX m g d T u:=by
 have e:∀{i:Nat} {c:Array Ñ} {t:č} {b:Nat×Nat},w.heap[i]?=Â (Û c t b)->(t≠145/\t≠154/\t≠141)->¬X i:=λ{i c t b} q1 q2 x=>by grind
 refine⟨ig h.C k λj l=> ?_,h.I.C k λi n x=> ?_,h.N.C k λa c b _ _ q=>e q A,h.tb.I k<|e h.tb A⟩
 .let⟨o,p⟩:=lY h.C l;grind
 .let⟨r,s,qG,o,p⟩:=f i n x;rcases p with rfl|⟨_,z⟩
  .exact Ï ⟨_,_,_,o,È U⟩
  .exact È z
def uX.fO(h:uX m g d T w)(k:fe fi w u):uX m g d T u:=h.r k λ_ _ x=>x.elim
def uX.M(h:uX m g d T w)(a:fj b l 145 w):uX m g d T (w.setCell ⟨b,i,Á⟩ v):= h.r (pS a) λi _ x=>⟨_,_,_,IC x a,È U⟩
theorem wj.abq(l:wj m g d w):o0 g.B w.heap.size (g.I d) d.Y w:=by
 unfold Gh.I PD.Y;split
 .rename_i e;let⟨b,c,a⟩:=l.C e;have:=a.M;exact(l.Y.M (æ _) Z).Uc b a.M c a
 .rename_i e;let⟨b,c⟩:=l.a (by simpa using e);grind [o0.N]
theorem jC.C(n:jC m w)(g:fj b l e w)(C:m<=b)(p:e≠298/\e≠299)(d:Array Ñ)(t:č)(u:0<d.size)(r:t≠298/\t≠299)(h:∀v∈d.toList,mZ m (w.heap.size+1) v):jC m ((w.setCell ⟨b,i,Á⟩<|Ã<|Â ⟨w.heap.size,0,Á⟩).alloc<|Û d t):=by
 have s:(w.setCell ⟨b,i,Á⟩<|Ã<|Â ⟨w.heap.size,0,Á⟩).heap.size=w.heap.size:=fq
 have D:=g.M;intro j o k c;have x:((w.setCell ⟨b,i,Á⟩<|Ã<|Â ⟨w.heap.size,0,Á⟩).alloc<|Û d t).heap.size=w.heap.size+1:=fq
 rw[x];by_cases a:j<w.heap.size
 .rw[Š _ _ _ (by rwa[s])]at c;by_cases f:j=b
  .subst f;have:=g.fS i<|Ã<|Â ⟨w.heap.size,0,Á⟩;unfold fj at this;rw[this]at c;cases c;let⟨E,F,G,y,H,z,I,J,B⟩:=n j _ k g;cases y;refine⟨_,_,_,U,fq,by simpa using z,p.1,p.2,λv h=> ?_⟩;rcases Ħ (by simpa using h)with q|q
   .exact(B v<|by simpa using q).r Z
   .rw[q];exact⟨Ì k<|Nat.le_of_lt a,Nat.lt_succ_self _⟩
  .rw[ġ _ _ _ _ (by simpa using f)]at c;exact(n j o k c).r Z
 .by_cases f:j=w.heap.size
  .have:=ų (w.setCell ⟨b,i,Á⟩<|Ã<|Â ⟨w.heap.size,0,Á⟩)<|Û d t;rw[s]at this;rw[f,this]at c;cases c;exact⟨_,_,_,U,Ù _,u,r.1,r.2,h⟩
  .grind
def MO(b:Nat)(w:Í):Í:=(w.setCell ⟨b,3,Á⟩<|Ã<|Â ⟨w.heap.size,0,Á⟩).alloc<|Û #[Å É 0,Å É 0,Å É 0,Å É 0,Å É 0,Ä ⟨#[]⟩] 193
def rdM(s:ByteArray)(g:Gh)(d:PD)(a b nm:Option û)(lr c:Int):List Ñ:=
 [Ä s,g.N,Ã<|g.S d,Ã a,Ã b,Ã nm,Å É lr,Å É c]
structure Fj(m b:Nat)(g:Gh)(d:PD)(T:Nat)(s:ByteArray)(tm nm:Option û)(lr Uk:Int)(w0 w:Í):Prop where
 S:fe (λi=>m<=i) w0 w
 N:jC m w
 r:fj b (rdM s g d (Â ⟨T,0,Á⟩) tm nm lr Uk) 145 w
 M:uX m g d T w
 I:fj g.q (Cv d.I.c g.r) 154 w
 C:w.ownsRow g.B 141 1 g.r (g.I d).length (nP<|g.I d)
def Fj.fO{lr:Int}(h:Fj m b g d T s O nm lr c W w)(k:fe fi w u)(a:jC m u):Fj m b g d T s O nm lr c W u:= ⟨h.S.C k λ_ _ x=>x.elim,a,h.r.I k id,h.M.fO k,h.I.I k id,ig h.C k λ_ _=>id⟩
theorem gR.aqA(h:gR m b g nm s st w)(on:st.d.r=Î):Fj m b g st.d w.heap.size s (g.G st.d) nm st.r st.I w (MO b w):=by
 have l:=h.C.r on;have p:(w.setCell ⟨b,3,Á⟩<|Ã<|Â ⟨w.heap.size,0,Á⟩).heap.size=w.heap.size:=fq
 have n:fe fi (w.setCell ⟨b,3,Á⟩<|Ã<|Â ⟨w.heap.size,0,Á⟩) (MO b w):=fe.gJ _ _ _ _;have r:fe (λk=>k=b) w (w.setCell ⟨b,3,Á⟩<|Ã<|Â ⟨w.heap.size,0,Á⟩):=pS h.r;have e:=r.C n λ_ _ x=>x.elim;refine⟨e.S λk _ x=>by rw[x];exact h.S,?_,(h.r.fS 3 _).I n id,⟨ig h.C.C e λj f x=>jA h.C.C h.r A (by rw[f,x]),h.C.I.C e λi _ x=>Ï ⟨_,_,_,IC x h.r,È U⟩,l.abq.C e λa c t _ _ q x=> ?_,?_⟩,l.r.I e λx=>fj.S l.r h.r A x,ig l.I e λj f x=>jA l.I h.r A<|by rw[f,x]⟩
 .exact h.a.C h.r h.S A _ _ fq A λv o=>by simp at o;rcases o with rfl|rfl<;>trivial
 .have o:=h.r;unfold fj at o;grind
 .have:=fj.N (w.setCell ⟨b,3,Á⟩<|Ã<|Â ⟨w.heap.size,0,Á⟩) [Å É 0,Å É 0,Å É 0,Å É 0,Å É 0,Ä ⟨#[]⟩] 193;rwa[p]at this
def Ul(g:Gh)(d:PD)(T:Nat)(v:Ñ):Gh:={g with t:=T,tb:=g.I d,r:=v}
theorem Fj.jO(h:Fj m b g st.d T s O nm st.r st.I w u)(C:m<=b)(on:st.d.r=Î)(a:m<=g.B/\g.B<=g.q/\st.d.I.c.length=8)(D:g.B<=T)(hd:st.r=0) (l:qk u g.B 141 1 g.r (g.I st.d).length (nP<|g.I st.d) 1 [Ã<|Â ⟨T,0,Á⟩] v W) (K:jC m W) (L:mZ m W.heap.size v) (n:jX=((W.setCell ⟨g.q,8,Á⟩ v).setCell ⟨b,4,Á⟩<|Ã<|Â ⟨T,0,Á⟩).setCell ⟨b,0,Á⟩ (Ä ⟨#[84]⟩)): fe (λi=>m<=i) w jX/\gR m b (Ul g st.d T v) nm ⟨#[84]⟩ {st with C:=[84],d:=st.d.nN} jX:=by
 have E:∀{j:Nat} {M:List Ñ} {t:č},fj j M t u->141≠t->¬g.r.ownBlock=Â j:=λN f=>jA h.C N f;have F:=h.r.I l.r<|E h.r A;have f:=h.I.I l.r<|E h.I A;have P:=h.M.r l.r λi _ x=>by let⟨k,z⟩:=lY h.C x;exact⟨_,_,_,z,Ï ⟨Ï U,(h.C.lt i x).1⟩⟩
 have o:fe (λk=>k=g.q) W (W.setCell ⟨g.q,8,Á⟩ v):=pS f;have G:fj g.q (Cv st.d.I.c v) 154 (W.setCell ⟨g.q,8,Á⟩ v):=by have:=f.fS 8 v;have e:=abm st.d.I.c g.r v;rw[a.2.2]at e;unfold Cv at this|-;grind
 have z:=F.I o λx=>fj.S F f A x;have H:=P.r o λi _ x=>⟨_,_,_,IC x f,Ï ⟨È U,by rw[x];exact a.2.1⟩⟩;have I:=ig l.ft o λj p x=>jA l.ft f A (by rw[p,x]);have Q:jC m (W.setCell ⟨g.q,8,Á⟩ v):=K.r _ L;have S:fe (λk=>k=b) (W.setCell ⟨g.q,8,Á⟩ v) ((W.setCell ⟨g.q,8,Á⟩ v).setCell ⟨b,4,Á⟩<|Ã<|Â ⟨T,0,Á⟩):=pS z;have r:=z.fS 4<|Ã<|Â ⟨T,0,Á⟩;have V:fe (λk=>k=b) ((W.setCell ⟨g.q,8,Á⟩ v).setCell ⟨b,4,Á⟩<|Ã<|Â ⟨T,0,Á⟩) jX:=by rw[n];exact pS r
 have J:=r.fS 0<|Ä ⟨#[84]⟩;rw[<-n]at J;have k:uX m g st.d T jX:=by rw[n];exact(H.M z).M r
 have y:=S.fh V;have X:=G.I y λx=>fj.S G z A x;have Y:=ig I y λj p x=>jA I z A (by rw[p,x]);have hTl:=H.tb.M;have c5:jC m jX:=by rw[n];refine(Q.r _ ?_).r _ trivial;exact⟨Ì a.1 D,hTl⟩
 have e1:(g.I st.d++[T]).length=(g.I st.d).length+1:=fq
 have e2:nP (g.I st.d++[T])=nP (g.I st.d)++[Ã<|Â ⟨T,0,Á⟩]:=by simp[nP]
 refine⟨((h.S.C l.r λi _ x=> ?_).C o λi _ x=> ?_).C y λi _ x=> ?_,C,c5,?_,A,U,⟨k.C,k.I,λ_=>⟨a.1,a.2.1,a.2.2,X,?_,k.N,λ_=>⟨D,U,k.tb⟩,λe=>by cases e⟩,λe=> ?_⟩,λe=> ?_,È on⟩
 .have:=(h.C.lt i x).1;have:=a.1;omega
 .grind
 .rwa[x]
 .have e:(Ul g st.d T v).S st.d.nN=g.S st.d:=U;unfold Uf;rw[e];have e4:(Ul g st.d T v).G st.d.nN=Â ⟨T,0,Á⟩:=if_pos on;rwa[e4]
 .show jX.ownsRow g.B 141 1 v (g.I st.d++[T]).length (nP<|g.I st.d++[T]);rwa[e1,e2]
 .have:st.d.r=Ë:=e;grind
 .grind
def abr(h:gR m b g nm s st w)(C:st.r=0)(o:st.d.r=Î)(D:st.d.Y.length<=100000): Ò À 83 #[Ã<|Â ⟨b,0,Á⟩] w λe u=>e=Æ (ë #[])/\sD m b {st with C:=[84],d:=st.d.nN} w u:=by
 have Y:=h.r.r 3 _ U;have f3:=h.r.C 3;have gT:=h.r.M;have l:=h.C.r o;have y:=h.aqA o;have E:=λv=>by have:=Cx st.d.I.c v;rwa[l.M]at this
 have F:m<=g.B/\g.B<=g.q/\st.d.I.c.length=8:=⟨l.S,l.N,l.M⟩;have G:g.B<=w.heap.size:=by have:=l.r.M;have:=l.N;omega
 have I:(g.I st.d).length<=100000:=by rwa[l.G]
 have J:=h.S;have H:=fg<|Ê F<|Ê G<|Ê I<|Ê J<|Ê C o;have j:=fg<|E g.r;have x:g.S st.d=Â ⟨g.q,0,Á⟩:=if_pos o;go_enter Tryz.func83,Tryz.ntmps83;go_wp2_with fail;change ß À _ _ _ (MO b w);have k:=y.fO (fe.fU _ _) y.N.fU;generalize hT:w.heap.size=T at*;generalize L:(MO b w).drew=w1 at*;let⟨i0,M,N,O,P⟩:=Ů aqy;have p:=fg<|Ê M<|Ê N<|Ê O P;refine mr (λu=>u.cell? ⟨b,2,Á⟩=Â (Ã<|g.S st.d)/\u.cell? ⟨b,3,Á⟩=Â (Ã<|Â ⟨T,0,Á⟩)/\u.cell? ⟨g.q,8,Á⟩=Â g.r) [19] fv ?_;rw[L];rw[x];have Q:Hid (w1.cell? ⟨b,2,Á⟩=Â (Ã<|Â ⟨g.q,0,Á⟩)/\w1.cell? ⟨b,3,Á⟩=Â (Ã<|Â ⟨T,0,Á⟩)/\w1.cell? ⟨g.q,8,Á⟩=Â g.r):=fg ⟨by rw[<-x];exact k.r.r 2 _ U,k.r.r 3 _ U,k.I.r 8 _ j.out⟩;have r:=fg x;iterate 15 apply tk Q.out
 have S:=k.M.tb.M;have a:=k.fO (fe.gJ fi w1 #[Ã<|Â ⟨T,0,Á⟩] 141) (k.N.gJ _ _ fq A λv f=>by simp at f;subst f;exact⟨Ì H.out.1.1 H.out.2.1,S⟩);apply gE 15;intro K i;go_simp;refine i.out _ _ (λ_=>⟨by rw[<-r.out];exact a.r.r 2 _ U,a.r.r 3 _ U,a.I.r 8 _ j.out⟩) ?_;apply gE 16;intro K i;refine abj fZ _ _ 152 fZ Tryz.underlying152 p.out.1 p.out.2.1 p.out.2.2.1 p.out.2.2.2 fZ a.C ⟨w1.heap.size,0,Á⟩ fZ (Κ w1 _ _) U (by have:=H.out.2.2.1;unfold ī;omega) (by have:=H.out.2.2.1;omega) (by have:=H.out.2.1;have:=a.M.tb.M;omega) A H.out.1.1 a.N ⟨Ì H.out.1.1 H.out.2.1,a.M.tb.M⟩ A ?_;intro v9 w9 t V W;obtain⟨a9,n9c,rfl⟩:=jL t.ft;have f:=a.r.I t.r<|jA a.C a.r A;have n:=a.I.I t.r<|jA a.C a.I A;refine i.out _ _ (λ_=>⟨by rw[<-r.out];exact f.r 2 _ U,f.r 3 _ U,n.r 8 _ j.out⟩) ?_;apply gE 17;intro K i;go_simp;refine i.out _ _ (λ_=>⟨by rw[<-r.out];exact f.r 2 _ U,f.r 3 _ U,n.r 8 _ j.out⟩) ?_;apply gE 18;intro K i;go_simp;refine i.out _ _ (λ_=>⟨by rw[<-r.out];exact f.r 2 _ U,f.r 3 _ U,n.r 8 _ j.out⟩) ?_;have cq8:=n.r 8 _ j.out;have fq8:=n.C 8;have cb4:=f.r 4 _ U;have fb4:=f.C 4;have cb0:=f.r 0 _ U;have fb0:=f.C 0;have cb3:=f.r 3 _ U;have X:=fj.S n f A;have hbq:¬b=g.q:=λe=>X e.symm;apply gE 19;intro K i;go_simp;apply i.out _ _ λz=>absurd A z;refine ma fv ?_ _;have z:=fg<|a.jO H.out.2.2.2.1 o H.out.1 H.out.2.1 H.out.2.2.2.2.1 t V W U;go_wp2_with fail;go_end0;exact⟨U,z.out.1,_,_,_,z.out.2⟩
end
section
variable{g:Gh}{nm:Option û}{s:ByteArray}{f:PS}{d:PD}{Q:Nat}{k:Int}
def aqB(h:w.ownsRow i e 1 v n l)(c:j<=i):w.ownsRow j e 1 v n l:= ⟨h.1,h.2.imp id λ⟨g,d,f,a,b,r⟩=>⟨g,d,f,a,Ì c b,r⟩⟩
def wj.gi(l:wj m g d w):wi w.heap.size g.q ⟨d.I.c,d.Y⟩ w:= ⟨l.r.M,l.M,g.r,g.I d,l.r,aqB l.I<|Ù _,λj a=>(l.I.lt j a).2,l.abq.M (Ù _)<|æ _⟩
theorem kZ.abt(h:kZ m g d w)(a:d.r=Ë->d.S=[]):pR w.heap.size (g.C d) d.C w:=by
 unfold Gh.C PD.C;split
 .rename_i e;have l:=h.r e;have b:=l.r.M;have c:=l.N;exact h.I.Uc Z l.gi
 .rename_i e;have f:=a (by simpa using e);have:=h.I.I;grind [Ý,pR.N]
def MP(b:Nat)(k:Int)(w:Í):Í:=(w.setCell ⟨b,2,Á⟩<|Ã<|Â ⟨w.heap.size,0,Á⟩).alloc<|Û #[Å É 0,Å É 0,Å É 0,Å É 0,Å É k,Å É 0,Å É 0,Å É 0,Ç Á 0 0] 154
def rdQ(s:ByteArray)(g:Gh)(d:PD)(Q:Nat)(nm:Option û)(lr a:Int):List Ñ:=
 [Ä s,g.N,Ã<|Â ⟨Q,0,Á⟩,Ã<|g.Y d,Ã<|g.G d,Ã nm,Å É lr,Å É a]
structure Fl(m b:Nat)(g:Gh)(d:PD)(Q:Nat)(k:Int)(s:ByteArray)(nm:Option û)(lr Uk:Int)(w0 w:Í):Prop where
 S:fe (λi=>m<=i) w0 w
 M:jC m w
 r:fj b (rdQ s g d Q nm lr Uk) 145 w
 I:fj Q (Cv (PD.abg k).c<|Ç Á 0 0) 154 w
 N:pR Q (g.C d) d.C w
 C:w.ownsRow m 140 1 g.N (g.C d).length (nP<|g.C d)
def Fl.fO{lr:Int}(h:Fl m b g d Q k s nm lr c W w)(a:fe fi w u)(e:jC m u):Fl m b g d Q k s nm lr c W u:= ⟨h.S.C a λ_ _ x=>x.elim,e,h.r.I a id,h.I.I a id,h.N.C a λ_ _ x=>x.elim,ig h.C a λ_ _=>id⟩
def gR.aqC(h:gR m b g nm s f w)(k:Int)(l:f.d.r=Ë->f.d.S=[]):Fl m b g f.d w.heap.size k s nm f.r f.I w (MP b k w):=by
 have n:(w.setCell ⟨b,2,Á⟩<|Ã<|Â ⟨w.heap.size,0,Á⟩).heap.size=w.heap.size:=fq
 have c:fe fi (w.setCell ⟨b,2,Á⟩<|Ã<|Â ⟨w.heap.size,0,Á⟩) (MP b k w):=fe.gJ _ _ _ _;have o:fe (λk=>k=b) w (w.setCell ⟨b,2,Á⟩<|Ã<|Â ⟨w.heap.size,0,Á⟩):=pS h.r;have a:=o.C c λ_ _ x=>x.elim;refine⟨a.S λk _ x=>by rw[x];exact h.S,?_,(h.r.fS 2 _).I c id,?_,(h.C.abt l).C a λi _ x=>Ï ⟨_,_,_,IC x h.r,È U⟩,ig h.C.C a λj p x=>jA h.C.C h.r A<|by rw[p,x]⟩
 .exact h.a.C h.r h.S A _ _ fq A λv e=>by simp at e;rcases e with rfl|rfl|rfl|rfl<;>trivial
 .have:=fj.N (w.setCell ⟨b,2,Á⟩<|Ã<|Â ⟨w.heap.size,0,Á⟩) [Å É 0,Å É 0,Å É 0,Å É 0,Å É k,Å É 0,Å É 0,Å É 0,Ç Á 0 0] 154;rwa[n]at this
def aqD(g:Gh)(d:PD)(Q:Nat)(v:Ñ):Gh:={a:=g.C d,q:=Q,t:=Q,B:=Q,tb:=[],N:=v,r:=Ç Á 0 0,b:=g.Y d}
theorem Fl.jO{sb:ByteArray}(h:Fl m b g f.d Q k s nm f.r f.I w u)(o:m<=b)(p:m<=Q)(S:f.r=0)(y:sb.size<=10)(B:j2 sb=rn k) (a:qk u m 140 1 g.N (g.C f.d).length (nP<|g.C f.d) 1 [Ã<|Â ⟨Q,0,Á⟩] v W) (C:jC m W) (D:mZ m W.heap.size v) (l:jX=((W.setCell ⟨b,1,Á⟩ v).setCell ⟨b,4,Á⟩<|Ã<|Â ⟨Q,0,Á⟩).setCell ⟨b,0,Á⟩ (Ä sb)): fe (λi=>m<=i) w jX/\gR m b (aqD g f.d Q v) nm sb {f with C:=rn k,d:=f.d.Fc k} jX:=by
 have c:=h.r.I a.r<|jA h.C h.r A;have n:=h.I.I a.r<|jA h.C h.I A;have E:=h.N.C a.r λi _ x=>by let⟨e,z⟩:=lY h.C x;exact Ï ⟨_,_,_,z,Ï U⟩
 have F:fe (λk=>k=b) W (W.setCell ⟨b,1,Á⟩ v):=pS c;have q:=c.fS 1 v;have G:fe (λk=>k=b) (W.setCell ⟨b,1,Á⟩ v) ((W.setCell ⟨b,1,Á⟩ v).setCell ⟨b,4,Á⟩<|Ã<|Â ⟨Q,0,Á⟩):=pS q;have r:=q.fS 4<|Ã<|Â ⟨Q,0,Á⟩;have H:fe (λk=>k=b) ((W.setCell ⟨b,1,Á⟩ v).setCell ⟨b,4,Á⟩<|Ã<|Â ⟨Q,0,Á⟩) jX:=by rw[l];exact pS r
 have t:=r.fS 0<|Ä sb;rw[<-l]at t;have z:=(F.fh G).fh H;have I:=n.I z λx=>fj.S n c A x;have J:=E.C z λi _ x=>Ï ⟨_,_,_,IC x c,È U⟩;have K:=ig a.ft z λj L x=>jA a.ft c A (by rw[L,x]);have M:Q<(W.setCell ⟨b,1,Á⟩ v).heap.size:=by simpa using n.M
 have N:jC m jX:=by rw[l];refine((C.r _ D).r _ ?_).r _ trivial;exact⟨p,M⟩
 have O:(g.C f.d++[Q]).length=(g.C f.d).length+1:=fq
 have P:nP (g.C f.d++[Q])=nP (g.C f.d)++[Ã<|Â ⟨Q,0,Á⟩]:=by simp[nP]
 refine⟨(h.S.C a.r λi _ x=> ?_).C z λi _ x=> ?_,o,N,t,y,B,⟨?_,J,λ_=>⟨p,æ _,U,I,?_,o0.N _ _ _,(λe=>by cases e),λ_=>⟨rfl,rfl⟩⟩,(λe=>by cases e)⟩,λe=> ?_,È rfl⟩
 .exact(h.C.lt i x).1
 .rwa[x]
 .show jX.ownsRow m 140 1 v (g.C f.d++[Q]).length (nP<|g.C f.d++[Q]);rwa[O,P]
 .exact⟨U,È ⟨U,U⟩⟩
 .grind
def aqE:yd f 0=Á:=rfl
def aqF(h:gR m b g nm s f w)(r:f.r=0)(t:f.d.r=Ë->f.d.S=[])(x:f.d.C.length<=100000)(k:Int): Ò À 80 #[Ã<|Â ⟨b,0,Á⟩,Å É k] w λe u=>match yd f k with
  |none=>e=Æ (õ Ë)/\u=w
  |some c=>e=Æ (õ Î)/\sD m b c w u:=by
 by_cases l:k=0
 .subst l;rw[aqE];go_enter Χ,Λ;go_wp2;go_ret;exact⟨U,U⟩
 have Q:(k==0)=Ë:=by rwa[beq_eq_false_iff_ne]
 have e:yd f k=Â {f with C:=rn k,d:=f.d.Fc k}:=if_neg l;rw[e];have S:=h.r.r 2 _ U;have V:=h.r.C 2;have W:=h.r.M;have p:=h.aqC k t;have y:(g.C f.d).length<=100000:=by rwa[h.C.abk]
 have z:=h.S;have B:m<=w.heap.size:=Z
 have H:=fg<|Ê z<|Ê B<|Ê y r;go_enter Χ,Λ;go_wp2_with fail;change ß À _ _ _ (MP b k w);have i:=p.fO (fe.fU _ _) p.M.fU;generalize X:w.heap.size=T at*;generalize C:(MP b k w).drew=w1 at*;let⟨Y,D,E,F,G⟩:=Ů aqz;have j:=fg<|Ê D<|Ê E<|Ê F G;refine mr (λu=>u.cell? ⟨b,1,Á⟩=Â g.N/\u.cell? ⟨b,2,Á⟩=Â (Ã<|Â ⟨T,0,Á⟩)) [13] fv ?_;rw[C];have I:Hid (w1.cell? ⟨b,1,Á⟩=Â g.N/\w1.cell? ⟨b,2,Á⟩=Â (Ã<|Â ⟨T,0,Á⟩)):=fg ⟨i.r.r 1 _ U,i.r.r 2 _ U⟩;iterate 9 apply tk I.out
 have J:=i.I.M;have a:=i.fO (fe.gJ fi w1 #[Ã<|Â ⟨T,0,Á⟩] 140) (i.M.gJ _ _ fq A λv c=>by simp at c;subst c;exact⟨H.out.2.1,J⟩);apply gE 9;intro K c;go_simp;apply c.out _ _ λ_=>⟨a.r.r 1 _ U,a.r.r 2 _ U⟩;apply gE 10;intro K c;refine abj fZ _ _ 51 fZ Tryz.underlying51 j.out.1 j.out.2.1 j.out.2.2.1 j.out.2.2.2 fZ a.C ⟨w1.heap.size,0,Á⟩ fZ (Κ w1 _ _) U (by have:=H.out.2.2.1;unfold ī;omega) (by have:=H.out.2.2.1;omega) (by have:=H.out.2.1;have:=a.I.M;omega) A (æ _) a.M ⟨H.out.2.1,a.I.M⟩ A ?_;intro v9 w9 n L M;obtain⟨a9,n9c,rfl⟩:=jL n.ft;have v:=a.r.I n.r<|jA a.C a.r A;apply c.out _ _ λ_=>⟨v.r 1 _ U,v.r 2 _ U⟩;apply gE 11;intro K c;go_simp;apply c.out _ _ λ_=>⟨v.r 1 _ U,v.r 2 _ U⟩;apply gE 12;intro K c;go_simp;apply c.out _ _ λ_=>⟨v.r 1 _ U,v.r 2 _ U⟩;have cb1:=v.r 1 _ U;have fb1:=v.C 1;have cb4:=v.r 4 _ U;have fb4:=v.C 4;have cb0:=v.r 0 _ U;have fb0:=v.C 0;have cb2:=v.r 2 _ U;apply gE 13;intro K c;go_simp;apply c.out _ _ λo=>absurd A o;refine ma fv ?_ _;have N:=fg λo q O=>a.jO (sb:=o) H.out.1 H.out.2.1 H.out.2.2.2 q O n L M U;go_wp2_with (go_at_call 129;refine(aqr _ _).mono ?_;rintro e u ⟨⟨o,rfl,O,P⟩,q⟩;subst u);go_ret;have q:=N.out o O P;exact⟨U,q.1,_,_,_,q.2⟩
end
def lO(i:Nat)(z:Int):Prop:=match i with
 |0=>0<=z/\z<8
 |1=>0<=z/\z<8
 |2=>0<=z/\z<1000000
 |3=>0<=z/\z<1000000
 |4=>1<=z/\z<10
 |5=>-1<=z/\z<1000000
 |6=>-1<=z/\z<1000000
 |7=>0<=z/\z<16
 |_=>True
structure Fo(n m:Nat)(c:List Int):Prop where
 C:c.length=n
 r:∀i,i<m->lO i (c.getD i 0)
theorem Fo.I(h:Fo n m zQ)(i:Nat)(z:Int)(b:i<m->lO i z):Fo n m (zQ.set i z):=by refine⟨by simp[h.C],λj a=> ?_⟩;have:=h.r j a;grind
def abu(h:i<zQ.length)(z:Int):(zQ.set i z).getD i 0=z:=by simp[Ğ,h]
structure oc(t:PT):Prop where
 c:Fo 5 4 t.c
 p:t.p.size<=40/\∀c∈t.p.data.toList,xP c=Î
structure uY(r:PR):Prop where
 c:Fo 8 8 r.c
 C:∀t∈r.r,oc t
 n:r.r.length<=8
structure kv(d:PD):Prop where
 N:d.r=Ë->d.S=[]/\d.M=Ë
 b:d.M=Ë->d.I.r=[]
 C:d.C.length<=24
 I:d.Y.length<=8
 S:∀r∈d.S,uY r
 M:d.r=Î->Fo 8 8 d.I.c
 a:d.r=Î->∀t∈d.I.r,oc t
 Y:d.M=Î->oc d.N
structure jv(B:ByteArray)(k:Nat)(st:PS):Prop where
 M:0<=st.r
 r:st.r<=5
 C:0<=st.I
 I:st.I<=40
 e:0<st.r->(st.M=86\/st.M=87\/st.M=110\/st.M=107)/\st.d.r=Î/\0<=st.d.G st.M/\st.d.G st.M<10^(6-st.r.toNat)
 d:kv st.d
 c:st.d.r=Î\/st.C=[82]
 b:82∈st.C->st.d.C.length<24
 N:84∈st.C\/80∈st.C->st.d.M=Î
 a:66∈st.C->st.d.M=Ë
 S:80∈st.C->st.C=[80]/\st.r=0
 Y:80∈st.C->st.I.toNat<=k/\∀j (h:j<B.size),k-st.I.toNat<=j->j<k->xP B[j]=Î
section
variable{d:PD}{st o:PS}
def kv.abv(h:kv d)(on:d.r=Î):∀t∈d.Y,oc t:=by
 unfold PD.Y;split
 .rename_i e;intro t a;rcases â.1 a with q|q
  .exact h.a on t q
  .rw[ō]at q;rw[q];exact h.Y e
 .exact h.a on
def kv.G(h:kv d):∀r∈d.C,uY r:=by
 unfold PD.C;split
 .rename_i e;intro r a;rcases â.1 a with q|q
  .exact h.S r q
  .rw[ō]at q;rw[q];exact⟨h.M e,h.abv e,h.I⟩
 .exact h.S
def yf(d:PD):d.C.length=d.S.length+(if d.r then 1 else 0):=by unfold PD.C;split<;>simp
def IF(d:PD):d.Y.length=d.I.r.length+(if d.M then 1 else 0):=by unfold PD.Y;split<;>simp
def kv.r(h:kv d)(i:Nat)(z:Int)(a:lO i z):kv (d.oh i z):= ⟨h.N,h.b,by have:=h.C;rw[yf]at this|-;exact this,by have:=h.I;rw[IF]at this|-;exact this,h.S,λe=>(h.M e).I i z λ_=>a,h.a,h.Y⟩
def kv.oG(h:kv d)(i:Nat)(z:Int)(a:i<4->lO i z):kv (d.oG i z):= ⟨h.N,h.b,by have:=h.C;rw[yf]at this|-;exact this,by have:=h.I;rw[IF]at this|-;exact this,h.S,h.M,h.a,λe=>⟨(h.Y e).c.I i z a,(h.Y e).p⟩⟩
def kv.iA(h:kv d)(i:Nat)(z:Int)(a:lO i z):kv (d.iA i z):=by
 unfold PD.iA;split
 .exact h.oG i z λ_=>a
 .exact h.r i z a
def kv.oH(h:kv d)(p:ByteArray)(a:p.size<=40/\∀c∈p.data.toList,xP c=Î):kv (d.oH p):= ⟨h.N,h.b,by have:=h.C;rw[yf]at this|-;exact this,by have:=h.I;rw[IF]at this|-;exact this,h.S,h.M,h.a,λe=>⟨(h.Y e).c,a⟩⟩
def aqG:oc PD.E9:=⟨⟨U,λi a=>by
 match i,a with
 |0,_=>exact⟨A,A⟩
 |1,_=>exact⟨A,A⟩
 |2,_=>exact⟨A,A⟩
 |3,_=>exact⟨A,A⟩⟩,⟨A,λc b=>by cases b⟩⟩
def kv.nN(h:kv d)(on:d.r=Î)(a:d.Y.length<8):kv d.nN:= ⟨(λe=>by have:d.r=Ë:=e;rw[on]at this;cases this),(λe=>by cases e),by have:=h.C;rw[yf]at this|-;exact this,by rwa[IF],h.S,λe=>h.M e,λ_=>h.abv on,λ_=>aqG⟩
def kv.Fc(h:kv d)(q:Int)(a:1<=q/\q<10)(b:d.C.length<24):kv (d.Fc q):= ⟨(λe=>by cases e),λ_=>rfl,by rwa[yf],by show(0:Nat)<=8;decide,h.G,λ_=>⟨U,λi c=>by
   match i,c with
   |0,_=>exact⟨by show(0:Int)<=0;decide,by show(0:Int)<8;decide⟩
   |1,_=>exact⟨by show(0:Int)<=0;decide,by show(0:Int)<8;decide⟩
   |2,_=>exact⟨by show(0:Int)<=0;decide,by show(0:Int)<1000000;decide⟩
   |3,_=>exact⟨by show(0:Int)<=0;decide,by show(0:Int)<1000000;decide⟩
   |4,_=>exact a
   |5,_=>exact⟨by show(-1:Int)<=0;decide,by show(0:Int)<1000000;decide⟩
   |6,_=>exact⟨by show(-1:Int)<=0;decide,by show(0:Int)<1000000;decide⟩
   |7,_=>exact⟨by show(0:Int)<=0;decide,by show(0:Int)<16;decide⟩⟩,(λ_ t f=>by cases f),(λe=>by cases e)⟩
def kv.fS(h:kv d)(want z:Int)(a:(want=86->lO 5 z)/\(want=87->lO 6 z)/\(want=120->lO 0 z)/\(want=121->lO 1 z)/\(want=110->lO 2 z)/\(want=107->lO 3 z)/\(want=115->lO 7 z)):kv (d.fS want z):=by
 let⟨b,c,e,f,g,i,j⟩:=a;unfold PD.fS;repeat' split
 .exact h.r 5 z<|b ‹_›
 .exact h.r 6 z<|c ‹_›
 .exact h.iA 0 z<|e ‹_›
 .exact h.iA 1 z<|f ‹_›
 .exact h.iA 2 z<|g ‹_›
 .exact h.iA 3 z<|i ‹_›
 .exact h.r 7 z<|j ‹_›
 .exact h
def Um(d:PD)(a z:Int):(d.fS a z).r=d.r/\(d.fS a z).M=d.M/\(d.fS a z).C.length=d.C.length:=by
 unfold PD.fS PD.iA;repeat' split
 all_goals exact⟨U,U,(yf _).trans (yf d).symm⟩
theorem Un(h:kv d)(on:d.r=Î)(a z:Int)(f:a=86\/a=87\/a=110\/a=107):(d.fS a z).G a=z:=by
 have g:=(h.M on).C;have b:∀i,i<4->(d.iA i z).tD i=z:=λi j=>by
  unfold PD.iA;split
  .rename_i e;have k:=(h.Y e).c.C;show(if d.M=Î then(d.N.c.set i z).getD i 0 else d.I.c.getD i 0)=z;grind
  .rename_i e;show(if d.M=Î then d.N.c.getD i 0 else(d.I.c.set i z).getD i 0)=z;grind
 rcases f with rfl|rfl|rfl|rfl
 .exact abu Z z
 .exact abu Z z
 .exact b 2 A
 .exact b 3 A
def MQ:∀(l:List UInt8) (c:UInt8),Þ l c<l.length
 |[],_=>by show(-1:Int)<0;decide
 |a::l,c=>by
  have:=MQ l c;unfold Þ;split
  .simp
  .split<;>(simp;omega)
def Uo:∀(l:List UInt8) (c:UInt8),c∈l->0<=Þ l c
 |[],_,h=>by cases h
 |a::l,c,h=>by
  unfold Þ;split
  .decide
  .rename_i e;rcases List.mem_cons.1 h with q|q
   .subst q;simp at e
   .have:=Uo l c q;split
    .rename_i b;rw[beq_iff_eq]at b;omega
    .omega
def abw{l:List UInt8}(h:c.toNat∈l.map UInt8.toNat):c.toNat.toUInt8∈l:=by let⟨x,a,b⟩:=Ú.1 h;rw[<-b];simpa using a
def abx(h:sy c=Î):0<=Þ [97,98,99,100,101,102,103,104] c.toNat.toUInt8:=by rw[aqd]at h;refine Uo _ _<|abw ?_;simp;omega
def aqH(h:(jk c||(decide (97<=c)&&decide (c<=102)))=Î):0<=Þ [48,49,50,51,52,53,54,55,56,57,97,98,99,100,101,102] c.toNat.toUInt8:=by simp only[Bool.or_eq_true,Fb,Bool.and_eq_true,decide_eq_true_eq]at h;refine Uo _ _<|abw ?_;simp;omega
theorem aqI(a:oZ h c=Î):(h=86->lO 5 (mY h c))/\(h=87->lO 6 (mY h c))/\(h=120->lO 0 (mY h c))/\(h=121->lO 1 (mY h c))/\(h=110->lO 2 (mY h c))/\(h=107->lO 3 (mY h c))/\(h=115->lO 7 (mY h c)):=by
 unfold oZ at a;have b:(c==104||jk c)=Î->-1<=(if c=104 then-1 else(c-48)%256)/\(if c=104 then(-1:Int)else(c-48)%256)<1000000:=λq=>by split<;>omega
 have d:jk c=Î->0<=(if c=104 then-1 else(c-48)%256)/\(if c=104 then(-1:Int)else(c-48)%256)<1000000:=λq=>by rw[Fb]at q;grind
 refine⟨?_,?_,?_,?_,?_,?_,?_⟩<;>rintro rfl
 .exact b a
 .exact b a
 .exact⟨abx a,MQ _ _⟩
 .exact⟨abx a,MQ _ _⟩
 .exact d a
 .exact d a
 .exact⟨aqH a,MQ _ _⟩
theorem aqJ{lr:Int}(a:jk c=Î)(b:0<=h)(d:0<lr)(e:lr<=5)(f:h<10^(6-lr.toNat)):0<=pP h c/\pP h c<10^(6-(lr-1).toNat)/\pP h c<1000000:=by
 rw[Fb]at a;have g:h<100000->pP h c=h*10+(c-48):=λq=>by unfold pP;rw[Ļ (h*10) ⟨Z,Z⟩,Ļ _ ⟨Z,Z⟩];omega
 have i:lr=1\/lr=2\/lr=3\/lr=4\/lr=5:=Z
 grind
def kv.lr(h:kv d)(a z:Int)(c:a=86\/a=87\/a=110\/a=107)(b:0<=z/\z<1000000):kv (d.fS a z):= h.fS a z ⟨λ_=>⟨Z,b.2⟩,λ_=>⟨Z,b.2⟩,λe=>by omega,λe=>by omega,λ_=>b,λ_=>b,λe=>by omega⟩
def jv.aqK(h:jv B k st)(e:0<st.r)(j:jk c=Î):jv B (k+1) (Cu st c):=by
 let⟨a,b,l,m⟩:=h.e e;let⟨f,n,o⟩:=aqJ j l e h.r m;let⟨g,i,p⟩:=Um st.d st.M<|pP (st.d.G st.M) c;refine⟨by show 0<=st.r-1;omega,by have:=h.r;show st.r-1<=5;omega,h.C,h.I,λ_=>⟨a,g.trans b,?_⟩,h.d.lr _ _ a ⟨f,o⟩,?_,λq=> ?_,λq=>i.trans<|h.N q,λq=>i.trans<|h.a q,λq=> ?_,λq=> ?_⟩
 .show 0<=(st.d.fS st.M<|pP (st.d.G st.M) c).G st.M/\(st.d.fS st.M<|pP (st.d.G st.M) c).G st.M<10^(6-(st.r-1).toNat);rw[Un h.d b _ _ a];exact⟨f,n⟩
 .exact È<|g.trans b
 .show(st.d.fS st.M<|pP (st.d.G st.M) c).C.length<24;rw[p];exact h.b q
 .have:=(h.S q).2;omega
 .have:=(h.S q).2;omega
def jv.vr(h:jv B k st):jv B k {st with r:=0}:= ⟨Ť _,by show(0:Int)<=5;decide,h.C,h.I,(λq=>by cases q),h.d,h.c,h.b,h.N,h.a,λq=>⟨(h.S q).1,rfl⟩,h.Y⟩
theorem jv.on(h:jv B k st)(a:82∉st.C):st.d.r=Î:=by rcases h.c with q|q;all_goals grind
def kv.aqL(h:kv d)(a:d.M=Î):d.r=Î:=by
 cases e:d.r with
 |true=>rfl
 |false=>have:=(h.N e).2;rw[a]at this;cases this
theorem aby(h:jv B k st)(b:st.r=0)(on:st.d.r=Î)(a:pQ st c=Â o):jv B (k+1) o:=by
 unfold pQ at a;split at a
 .rename_i e;cases a;refine⟨h.M,h.r,h.C,h.I,λq=> ?_,h.d,Ï U,λ_=> ?_,λq=> ?_,λq=> ?_,λq=> ?_,λq=> ?_⟩
  .grind
  .rw[yf,on];exact e.2
  .simp at q
  .simp at q
  .simp at q
  .simp at q
 .split at a
  .rename_i e;cases a;refine⟨h.M,h.r,h.C,h.I,λq=> ?_,h.d.nN on e.2.2,È on,λq=> ?_,λ_=>rfl,λq=> ?_,λq=> ?_,λq=> ?_⟩;all_goals grind
  .cases a
def aqM(q:Int):82∉rn q/\84∉rn q/\80∉rn q:=by
 unfold rn;repeat' split
 all_goals decide
theorem aqN(q:Int):82∉sB q/\84∉sB q/\66∉sB q/\(80∈sB q->sB q=[80]):=by unfold sB;grind
def aqO(c:Int):0<=we c/\we c<10:=by
 unfold we;repeat' split
 all_goals decide
theorem aqP(h:jv B k st)(i:st.r=0)(f:82∈st.C)(a:yd st (we c)=Â o):jv B (k+1) o:=by
 unfold yd at a;split at a
 .cases a
 .rename_i e;cases a;let⟨g,j,b⟩:=aqM<|we c;have l:=aqO c;refine⟨h.M,h.r,h.C,h.I,λq=> ?_,h.d.Fc _ Z<|h.b f,È U,λq=>absurd q g,λq=> ?_,λ_=>rfl,λq=>absurd q b,λq=>absurd q b⟩;all_goals grind
theorem aqQ(h:jv B k st)(c:st.r=0)(q:Int)(f:84∈st.C)(a:ye st q=Â o):jv B (k+1) o:=by
 unfold ye at a;split at a
 .cases a
 .cases a;let⟨g,m,i,l⟩:=aqN q;have b:=h.N<|È f;refine⟨h.M,h.r,Ť _,by show(0:Int)<=40;decide,λq=> ?_,h.d.oG 4 q λe=>by omega,È<|h.d.aqL b,λq=>absurd q g,λ_=>b,λq=>absurd q i,λq=>⟨l q,c⟩,λ_=>⟨Ù _,λj _ n p=> ?_⟩⟩;all_goals grind
theorem aqR{a:Int}(h:0<qz a c):(a=86\/a=87)/\qz a c=1/\jk c=Î/\c≠48\/(a=110\/a=107)/\qz a c=5/\jk c=Î/\c≠48:=by unfold qz at h|-;grind
theorem abz(h:jv B k st)(on:st.d.r=Î){want:Int}(l:oZ want c=Î)(r:List Int)(a:∀x∈r,x∈st.C)(g:80∉r):jv B (k+1) {om st want c with C:=r}:=by
 let⟨m,i,n⟩:=Um st.d want<|mY want c;have j:=aqh want c;refine⟨j.1,j.2,h.C,h.I,λq=> ?_,h.d.fS _ _<|aqI l,È<|m.trans on,λq=> ?_,λq=>i.trans<|h.N<|q.imp (a _)<|a _,λq=>i.trans<|h.a<|a _ q,λq=>absurd q g,λq=>absurd q g⟩
 .have q:=q;show(want=86\/want=87\/want=110\/want=107)/\(st.d.fS want<|mY want c).r=Î/\0<=(st.d.fS want<|mY want c).G want/\(st.d.fS want<|mY want c).G want<10^(6-(qz want c).toNat);rcases aqR q with⟨o,b,e,p⟩|⟨o,b,e,p⟩
  .have f:want=86\/want=87\/want=110\/want=107:=Z
   rw[Un h.d on _ _ f,b];rw[Fb]at e;have:mY want c=(c-48)%256:=by unfold mY;grind
   grind
  .have f:want=86\/want=87\/want=110\/want=107:=Z
   rw[Un h.d on _ _ f,b];rw[Fb]at e;have:mY want c=(c-48)%256:=by unfold mY;grind
   grind
 .show(st.d.fS want<|mY want c).C.length<24;rw[n];exact h.b<|a _ q
def aqS{x:UInt8}(h:x∈(B.extract i b).data.toList):∃j,∃e:j<B.size,i<=j/\j<b/\B[j]=x:=by rw[Ĳ,ĺ,ĥ]at h;obtain⟨c,d,rfl⟩:=Ĝ h;simp only[Ś,List.length_drop,ě]at d;have f:B.data.size=B.size:=rfl;exact⟨i+c,Z,Z,Z,by simp[ċ]⟩
theorem aqT(h:jv B k st)(l:st.r=0)(F:k<B.size)(a:jU B k st (B[k].toNat:Int)=Â o):jv B (k+1) o:=by
 unfold jU at a;split at a
 .rename_i e;exact aby h l (h.on<|by rw[e];decide) a
 .rename_i t p e;have c:t∈st.C:=by rw[e];exact List.mem_cons_self ..
  split at a
  .rename_i f;subst f;exact aqP h l c a
  rename_i G;have i:st.d.r=Î:=by rcases h.c with q|q;all_goals grind
  split at a
  .rename_i f;subst f;split at a
   .rename_i u;cases a;have n:=h.a c;have b:st.d.Y.length<8:=by rw[IF,h.d.b n,n];decide
    have v:jv B k {st with C:=[84],d:=st.d.nN}:=by refine⟨h.M,h.r,h.C,h.I,λq=> ?_,h.d.nN i b,È i,λq=> ?_,λ_=>rfl,λq=> ?_,λq=> ?_,λq=> ?_⟩;all_goals grind
    exact abz (want:=120) v i u [84] (λx b=>b) A
   .exact aby h l i a
  split at a
  .rename_i f;subst f;exact aqQ h l _ c a
  split at a
  .rename_i f;subst f;let⟨H,w⟩:=h.Y c;have n:=h.N<|Ï c;have y:=(h.S c).1;have I:=h.C;have J:=h.I;split at a
   .cases a;have z:p=[]:=by rw[y]at e;cases e;rfl
    subst z;refine⟨h.M,h.r,h.C,h.I,λq=> ?_,h.d.oH _ ⟨by rw[Č];omega,λx b=> ?_⟩,È i,λq=> ?_,λq=> ?_,λq=> ?_,λq=> ?_,λq=> ?_⟩
    .grind
    .obtain⟨j,r,m,s,rfl⟩:=aqS b;exact w j r m s
    .cases q
    .grind
    .cases q
    .cases q
    .cases q
   .split at a
    .cases a
    .rename_i g;cases a;have K:=λq=>g<|È q;have C:=λq=>g<|Ï q;refine⟨h.M,h.r,by show 0<=st.I+1;omega,by show st.I+1<=40;omega,h.e,h.d,h.c,h.b,h.N,h.a,h.S,λ_=>⟨by show(st.I+1).toNat<=k+1;omega,λj r m s=> ?_⟩⟩;have m:k+1-(st.I+1).toNat<=j:=m;by_cases D:j=k
     .subst D;unfold xP;simpa using C
     .grind
  split at a
  .rename_i L M N E;cases a;refine abz h i E p (λx b=>by rw[e];exact Ĕ _ b) λq=> ?_;have:=(h.S<|by rw[e];exact Ĕ _ q).1;grind
  .cases a
def abA(h:jv B k st)(b:k<B.size)(a:kT B k st (B[k].toNat:Int)=Â o):jv B (k+1) o:=by
 unfold kT at a;split at a
 .rename_i e;cases a;exact h.aqK e.1 e.2
 .exact aqT h.vr U b a
def Up(B:ByteArray):jv B 0 nO:= ⟨A,A,A,A,(λq=>by cases q),⟨λ_=>⟨rfl,rfl⟩,λ_=>rfl,A,A,(λr e=>by cases e),(λe=>by cases e),(λe=>by cases e),(λe=>by cases e)⟩,Ï rfl,λ_=>by decide,(λq=>by rcases q with q|q<;>simp[nO]at q),(λq=>by simp[nO]at q),(λq=>by simp[nO]at q),(λq=>by simp[nO]at q)⟩
def Uq:∀(f k:Nat) (st:PS),jv B k st->k<=B.size->jv B (jV B f k st).1 (jV B f k st).2/\(jV B f k st).1<=B.size
 |0,k,st,h,hk=>⟨h,hk⟩
 |f+1,k,st,h,hk=>by
  unfold jV;split
  .rename_i a;split
   .exact⟨h,hk⟩
   .rename_i o e;exact Uq f (k+1) o (abA h a e) Z
  .exact⟨h,hk⟩
end
section
variable{g:Gh}{st:PS}
def abB{d:PD}(i:Nat)(z:Int):g.M (d.iA i z)=g.M d:=by unfold PD.iA Gh.M;split<;>simp[PD.oG,PD.oh, *]
def abC{d:PD}(h:i=2\/i=3)(z:Int):g.Cw (d.iA i z) (if i=2 then 110 else 107)=⟨g.M d,i,Á⟩:=by
 rcases h with rfl|rfl
 .show(⟨g.M<|d.iA 2 z,2,Á⟩:û)=_;rw[abB]
 .show(⟨g.M<|d.iA 3 z,3,Á⟩:û)=_;rw[abB]
def abD{d:PD}(on:d.r=Î):g.S d=Â ⟨g.q,0,Á⟩:=if_pos on
def aqU{d:PD}(on:d.r=Î):g.G d=Â ⟨g.M d,0,Á⟩:=if_pos on
def LA(h:gR m b g O B st w)(j:st.r=0)(on:st.d.r=Î)(a c:Int)(v:oZ a c=Î): Ò À 84 #[Ã<|Â ⟨b,0,Á⟩,Å Ū a,Å Ū c] w λe u=>e=Æ (ë #[])/\sD m b (om st a c) w u:=by
 have G:w.cell? ⟨b,2,Á⟩=Â (Ã<|g.S st.d):=h.r.r 2 _ U;have x:w.cell? ⟨b,4,Á⟩=Â (Ã<|g.G st.d):=h.r.r 4 _ U;rw[abD on]at G;rw[aqU on]at x;have H:=fg<|Ê h v;clear h v;generalize y:g.M st.d=tm at x;have n:=fg y;clear y;by_cases o:a=86
 .subst o;have k:=fg (show om st 86 c={st with r:=wm c 2,M:=86,d:=st.d.oh 5 (jM c)}from by unfold om;rw[<-MK H.out.2 (È ⟨È U,U⟩),MN A];rfl);go_enter ą,ÿ;go_wp2_with (go_at_call 131;refine(MJ H.out.1 (Fg H.out.1.C H.out.1.r on (i:=5) A) j on _ _ 86 A A λz=>rfl).mono ?_;rintro e u ⟨rfl,l⟩);go_end0;exact⟨U,by rwa[k.out]⟩
 have I:(a==86)=Ë:=by rwa[beq_eq_false_iff_ne]
 by_cases p:a=87
 .subst p;have k:=fg (show om st 87 c={st with r:=wm c 2,M:=87,d:=st.d.oh 6 (jM c)}from by unfold om;rw[<-MK H.out.2 (È ⟨Ï U,U⟩),MN A];rfl);go_enter ą,ÿ;go_wp2_with (go_at_call 131;refine(MJ H.out.1 (Fg H.out.1.C H.out.1.r on (i:=6) A) j on _ _ 87 A A λz=>rfl).mono ?_;rintro e u ⟨rfl,l⟩);go_end0;exact⟨U,by rwa[k.out]⟩
 have J:(a==87)=Ë:=by rwa[beq_eq_false_iff_ne]
 by_cases q:a=120
 .subst q;have f:=fg ((by have:=Fh H.out.1.C H.out.1.r on (i:=0) A;rw[n.out]at this;exact this:qA m b g st.d tm 0 (λz=>st.d.iA 0 z) (st.d.tD 0) w));have C:=f.out.C;have D:=f.out.I;have E:=f.out.r;go_enter ą,ÿ;go_wp2_with fail;go_region_with (go_at_call 130;refine(IA _ _ _).mono ?_;rintro e u ⟨rfl,F⟩;subst u);all_goals go_end0
  all_goals exact⟨U,Uj H.out.1 f.out j (ML A) U⟩
 have K:(a==120)=Ë:=by rwa[beq_eq_false_iff_ne]
 by_cases r:a=121
 .subst r;have f:=fg ((by have:=Fh H.out.1.C H.out.1.r on (i:=1) A;rw[n.out]at this;exact this:qA m b g st.d tm 1 (λz=>st.d.iA 1 z) (st.d.tD 1) w));have C:=f.out.C;have D:=f.out.I;have E:=f.out.r;go_enter ą,ÿ;go_wp2_with fail;go_region_with (go_at_call 130;refine(IA _ _ _).mono ?_;rintro e u ⟨rfl,F⟩;subst u);all_goals go_end0
  all_goals exact⟨U,Uj H.out.1 f.out j (ML A) U⟩
 have L:(a==121)=Ë:=by rwa[beq_eq_false_iff_ne]
 by_cases s:a=110
 .subst s;have k:=fg (show om st 110 c={st with r:=wm c 6,M:=110,d:=st.d.iA 2 (jM c)}from by unfold om;rw[<-MK H.out.2 (Ï ⟨È U,U⟩),MN A];rfl);go_enter ą,ÿ;go_wp2_with (go_at_call 131;refine(MJ H.out.1 ((by have:=Fh H.out.1.C H.out.1.r on (i:=2) A;rw[n.out]at this;exact this:qA m b g st.d tm 2 (λz=>st.d.iA 2 z) (st.d.tD 2) w)) j on _ _ 110 A A λz=>(by have:=abC (g:=g) (d:=st.d) (i:=2) (È U) z;rwa[n.out]at this)).mono ?_;rintro e u ⟨rfl,l⟩);go_end0;exact⟨U,by rwa[k.out]⟩
 have M:(a==110)=Ë:=by rwa[beq_eq_false_iff_ne]
 by_cases t:a=107
 .subst t;have k:=fg (show om st 107 c={st with r:=wm c 6,M:=107,d:=st.d.iA 3 (jM c)}from by unfold om;rw[<-MK H.out.2 (Ï ⟨Ï U,U⟩),MN A];rfl);go_enter ą,ÿ;go_wp2_with (go_at_call 131;refine(MJ H.out.1 ((by have:=Fh H.out.1.C H.out.1.r on (i:=3) A;rw[n.out]at this;exact this:qA m b g st.d tm 3 (λz=>st.d.iA 3 z) (st.d.tD 3) w)) j on _ _ 107 A A λz=>(by have:=abC (g:=g) (d:=st.d) (i:=3) (Ï U) z;rwa[n.out]at this)).mono ?_;rintro e u ⟨rfl,l⟩);go_end0;exact⟨U,by rwa[k.out]⟩
 have l:(a==107)=Ë:=by rwa[beq_eq_false_iff_ne]
 by_cases k:a=115
 .subst k;have f:=fg<|Fg H.out.1.C H.out.1.r on (i:=7) A;have C:=f.out.C;have D:=f.out.I;have E:=f.out.r;go_enter ą,ÿ;go_wp2_with fail;go_region_with (go_at_call 130;refine(IA _ _ _).mono ?_;rintro e u ⟨rfl,F⟩;subst u);all_goals go_end0
  all_goals exact⟨U,Uj H.out.1 f.out j (ML A) U⟩
 have f:(a==115)=Ë:=by rwa[beq_eq_false_iff_ne]
 go_enter ą,ÿ;go_wp2;go_end0;refine⟨U,fe.fX _ _,g,O,B,?_⟩;have e:om st a c={st with M:=a}:=by unfold om PD.fS;rw[ML ⟨Z,Z⟩,if_neg o,if_neg p,if_neg q,if_neg r,if_neg s,if_neg t,if_neg k,<-j]
 rw[e];exact H.out.1.Uh a j
end
section
variable{g:Gh}{s:ByteArray}{st:PS}{d:PD}
def MR(m b:Nat)(o:Option PS)(e:Ending)(w u:Í):Prop:=
 (o=Á/\e=Æ (õ Ë)/\u=w)\/∃a,o=Â a/\e=Æ (õ Î)/\sD m b a w u
def abE{o:Option PS}{e:Ending}(h:match o with
 |none=>e=Æ (õ Ë)/\u=w
 |some a=>e=Æ (õ Î)/\sD m b a w u):MR m b o e w u:=by
 cases o with
 |none=>exact È ⟨U,h⟩
 |some a=>exact Ï ⟨a,U,h⟩
def aqV{d:PD}(on:d.r=Î):d.C.length=d.S.length+1:=by rw[yf,on];rfl
def abF(h:gR m b g O s st w)(j:st.r=0)(on:st.d.r=Î)(y:st.d.Y.length<=8)(z:st.d.C.length<=24)(c:Int): Ò À 79 #[Ã<|Â ⟨b,0,Á⟩,Å Ū c] w λe u=>MR m b (pQ st c) e w u:=by
 have l:=h.C.r on;let⟨I,J,p⟩:=jL h.C.C;let⟨K,L,q⟩:=jL l.I;rw[h.C.abk]at p;rw[l.G]at q;have M:=h.r.r 0 _ U;have r:=h.r.r 1 _ U;have B:=h.r.r 2 _ U;rw[abD on]at B;rw[p]at r;have t:=l.r.r 8 _ (by have:=Cx st.d.I.c g.r;rwa[l.M]at this);rw[q]at t;have N:=h.r.C 0;obtain⟨v,f⟩:∃n,st.d.C.length=n:=⟨_,U⟩;obtain⟨x,i⟩:∃n,st.d.Y.length=n:=⟨_,U⟩;rw[f]at r z;rw[i]at t y;have k:st.d.S.length+1=v:=by rw[<-f];exact(aqV on).symm
 have H:=fg<|Ê h<|Ê f<|Ê i<|Ê k j;by_cases C:c=59/\v<24
 .obtain⟨rfl,a⟩:=C;go_enter ť,ŗ;go_wp2;go_ret;let⟨h,f,i,k,j⟩:=H.out;exact Ï ⟨_,by rw[pQ,if_pos ⟨U,Z⟩],U,mP h 0 _,g,O,_,h.MI _ [82] A A<|È on⟩
 by_cases D:c=44/\0<x/\x<8
 .obtain⟨rfl,P,Q⟩:=D;go_enter ť,ŗ;go_wp2_with (go_at_call 83;refine(abr H.out.1 H.out.2.2.2.2 on (by have:=H.out.2.2.1;omega)).mono ?_;rintro e u ⟨rfl,o,E,F,S,a⟩;have T:=a.r.r 0 _ U;have V:=a.r.C 0;have G:=fg<|Ê o a;clear o a);go_ret;let⟨h,f,i,k,j⟩:=H.out;let⟨o,a⟩:=G.out;exact Ï ⟨_,by rw[pQ,if_neg Z,if_pos ⟨U,Z,Z⟩],U,o.fh<|mP a 0 _,E,F,_,a.MI _ [120,84] A A<|È on⟩
 .have a:=fg (show pQ st c=Á by
   let⟨h,f,i,k,j⟩:=H.out;rw[pQ,if_neg Z,if_neg Z])
  go_enter ť,ŗ;go_wp2_with fail;all_goals first|(go_ret;exact È ⟨a.out,U,U⟩)|(exfalso;simp only[beq_iff_eq,decide_eq_true_eq]at*;omega)
def kz:Ο->Option Ο
 |ń c=>Â c
 |.seq a b=>match kz a with
  |some c=>Â c
  |none=>kz b
 |.block _ c=>kz c
 |.scope c=>kz c
 |.cond _ a b=>match kz a with
  |some c=>Â c
  |none=>kz b
 |_=>Á
noncomputable def qB:Ο:=(Tryz.f45.body.bind kz).getD aj
def pT(b:Nat)(B:ByteArray)(i:Ñ)(u:Nat->Ñ):Ĉ:=⟨#[Ã<|Â ⟨b,0,Á⟩,Ä B,ĸ,ĸ,Å É 0,i,u 6,u 7,u 8,u 9,u 10,u 11,u 12,u 13,u 14,u 15,u 16,u 17,u 18,u 19,u 20,u 21,u 22,u 23,u 24,u 25,u 26,u 27,u 28,u 29,u 30,u 31,u 32,u 33,u 34,u 35,u 36,u 37,u 38,u 39,u 40,u 41,u 42,u 43,u 44,u 45,u 46,u 47,u 48,u 49,u 50,u 51,u 52,u 53,u 54,u 55,u 56,u 57,u 58,u 59,u 60,u 61,u 62,u 63,u 64,u 65,u 66,u 67,u 68,u 69,u 70,u 71,u 72,u 73,u 74,u 75,u 76,u 77,u 78,u 79,u 80,u 81,u 82,u 83,u 84,u 85,u 86,u 87,u 88,u 89,u 90,u 91,u 92,u 93,u 94,u 95,u 96,u 97,u 98,u 99,u 100,u 101,u 102,u 103,u 104,u 105,u 106,u 107,u 108,u 109,u 110,u 111,u 112,u 113,u 114,u 115,u 116,u 117,u 118,u 119,u 120,u 121,u 122,u 123,u 124,u 125,u 126,u 127,u 128,u 129,u 130,u 131,u 132,u 133,u 134,u 135,u 136,u 137,u 138,u 139,u 140,u 141,u 142,u 143,u 144,u 145,u 146],[]⟩
def Fr(b:Nat)(B:ByteArray)(i:Ñ)(a:Ĉ):Prop:=∃u,a=pT b B i u
def gu{b:Nat}{B:ByteArray}{i:Value}{a:Act}(h:a=pT b B i (λn=>a.tmps.getD n undef):=by rfl):Fr b B i a:=⟨_,h⟩
def QQ(X:Ĉ->Í->Prop):Exit->Ĉ->Í->Prop
 |.exit 0,a,w=>X a w
 |_,_,_=>False
def sE(m b:Nat)(B:ByteArray)(k:Nat)(st:PS)(a u:Í):Prop:=∃(h:k<B.size) (h:PS),kT B k st (B[k].toNat:Int)=Â h/\sD m b h a u
def sF(m b:Nat)(B:ByteArray)(k:Nat)(st:PS)(a u:Í):Prop:=∃h:k<B.size,kT B k st (B[k].toNat:Int)=Á/\∃c,sD m b c a u
theorem uZ{d:Int}(h:(0<d/\yQ=Ë)\/d<=0):¬(0<d/\yQ=Î):=by grind
def u9(h:¬(0<st.r/\jk c=Î)):kT B k st c=jU B k {st with r:=0} c:=if_neg h
def aqW(a:0<st.r)(b:jk c=Î):kT B k st c=Â (Cu st c):=if_pos ⟨a,b⟩
section
variable{want:Int}
def aqX(h:st.C=[]):jU B k st c=pQ st c:=by rw[jU,h]
def aqY(h:st.C=want::zQ)(a:want=82):jU B k st c=yd st (we c):=by rw[jU,h];simp only;rw[if_pos a]
def aqZ(h:st.C=want::zQ)(a:want=66)(b:sy c=Î):jU B k st c=Â (om {st with C:=[84],d:=st.d.nN} 120 c):=by rw[jU,h];simp only;rw[if_neg Z,if_pos a,if_pos b]
def aq0(h:st.C=want::zQ)(a:want=66)(b:sy c=Ë):jU B k st c=pQ st c:=by rw[jU,h];simp only;rw[if_neg Z,if_pos a,if_neg (by rw[b];decide)]
def aq1(h:st.C=want::zQ)(a:want=84):jU B k st c=ye st (MD c):=by rw[jU,h];simp only;rw[if_neg Z,if_neg Z,if_pos a]
def aq2(h:st.C=want::zQ)(a:want=80)(b:c=125):jU B k st c=Â {st with C:=zQ,d:=st.d.oH (B.extract (k-st.I.toNat) k)}:=by rw[jU,h];simp only;rw[if_neg Z,if_neg Z,if_neg Z,if_pos a,if_pos b]
def abG(h:st.C=want::zQ)(a:want=80)(b:¬c=125)(d:st.I=40\/lB c=0):jU B k st c=Á:=by rw[jU,h];simp only;rw[if_neg Z,if_neg Z,if_neg Z,if_pos a,if_neg b,if_pos d]
def aq3(h:st.C=want::zQ)(a:want=80)(b:¬c=125)(d:¬st.I=40)(e:¬lB c=0):jU B k st c=Â {st with I:=st.I+1}:=by rw[jU,h];simp only;rw[if_neg Z,if_neg Z,if_neg Z,if_pos a,if_neg b,if_neg Z]
def aq4(h:st.C=want::zQ)(a:¬want=82)(b:¬want=66)(d:¬want=84)(e:¬want=80)(f:oZ want c=Î):jU B k st c=Â {om st want c with C:=zQ}:=by rw[jU,h];simp only;rw[if_neg a,if_neg b,if_neg d,if_neg e,if_pos f]
def aq5(h:st.C=want::zQ)(a:¬want=82)(b:¬want=66)(d:¬want=84)(e:¬want=80)(f:oZ want c=Ë):jU B k st c=Á:=by rw[jU,h];simp only;rw[if_neg a,if_neg b,if_neg d,if_neg e,if_neg (by rw[f];decide)]
end
def va(c:UInt8):(0:Int)<=(c.toNat:Int)/\(c.toNat:Int)<256:=⟨Int.natCast_nonneg _,by have:=c.toNat_lt;omega⟩
def Ur(s:ByteArray)(h:s.size=0):(s.toList==[])=Î:=by simp_all
theorem tE(s:ByteArray)(h:¬s.size=0):(s.toList==[])=Ë:=by
 rw[beq_eq_false_iff_ne];intro e;have:s.toList.length=s.size:=by rw[ByteArray.toList_eq];rfl
 grind
def gR.aq6(h:gR m b g O s st w)(on:st.d.r=Î)(i:c=86\/c=87\/c=110\/c=107):∃a e f,g.Cw st.d c=⟨a,e,Á⟩/\qA m b g st.d a e f (st.d.G c) w/\∀z,f z=st.d.fS c z:=by
 rcases i with rfl|rfl|rfl|rfl
 .exact⟨_,_,_,U,Fg h.C h.r on A,λz=>rfl⟩
 .exact⟨_,_,_,U,Fg h.C h.r on A,λz=>rfl⟩
 .exact⟨_,_,_,U,Fh h.C h.r on A,λz=>rfl⟩
 .exact⟨_,_,_,U,Fh h.C h.r on A,λz=>rfl⟩
def gR.oH(h:gR m b g O s st w)(on:st.d.r=Î)(a:st.d.M=Î)(p:ByteArray):gR m b g O s {st with d:=st.d.oH p} (w.setCell ⟨g.t,5,Á⟩<|Ä p)/\fe (λi=>m<=i) w (w.setCell ⟨g.t,5,Á⟩<|Ä p):=by have l:=h.C.r on;let⟨f,j,c⟩:=l.C a;have e:fe (λi=>i=g.t) w (w.setCell ⟨g.t,5,Á⟩<|Ä p):=pS c;exact⟨⟨h.S,h.a.r _ trivial,h.r.I e λx=>fj.S h.r c A x,h.M,h.I,h.C.oH on a p,h.c,h.N⟩,e.S λi _ x=>by have:=l.S;omega⟩
def gR.abH(h:gR m b g O s st w)(on:st.d.r=Î)(a:st.C=c::zQ):gR m b g O (s.extract 1 s.size) {st with C:=zQ} (w.setCell ⟨b,0,Á⟩<|Ä<|s.extract 1 s.size):= h.MI _ zQ (aqg s h.M) (by rw[aqf,h.I,a];rfl)<|È on
def gR.aq7(h:gR m b g O s st w)(a:st.C=c::zQ):0<s.size:=by have:=Ua s;rw[h.I,a]at this;simp at this;omega
end
section
variable{g:Gh}{s:ByteArray}{st:PS}{d:PD}
def aq8(h:gR m b g O s st w)(a:st.r=0)(c:st.d.r=Ë->st.d.S=[])(f:st.d.C.length<=100000)(k:Int): Ò À 80 #[Ã<|Â ⟨b,0,Á⟩,Å É k] w λe u=>MR m b (yd st k) e w u:=(aqF h a c f k).mono λ_ _ q=>abE q
def aq9(h:gR m b g O s st w)(a:st.r=0)(on:st.d.r=Î)(c:st.d.M=Î)(k:Int): Ò À 85 #[Ã<|Â ⟨b,0,Á⟩,Å É k] w λe u=>MR m b (ye st k) e w u:=(aqx h a on c k).mono λ_ _ q=>abE q
theorem ara{X:Ĉ->Í->Prop}{a:Ĉ}(H:Fr b B (Å É k) a) (i:gR m b g O s st w) (j:jv B k st) (S:B.size<=1200) (I:k<B.size) (o:0<st.r) (J:jk (B[k].toNat:Int)=Î) (T:∀a u,Fr b B (Å É<|(k:Int)+1) a/\sE m b B k st w u->K a u) (_hQ:∀a u,Fr b B (Å É k) a/\sF m b B k st w u->X a u): ß À qB (Exit.then K<|QQ X) a w:=by
 obtain⟨c,rfl⟩:=H;unfold pT;conv=>arg 2;whnf
 have V:w.cell? ⟨b,0,Á⟩=Â (Ä s):=i.r.r 0 _ U;have W:w.cell? ⟨b,6,Á⟩=Â (Å É st.r):=i.r.r 6 _ U;have Y:w.cell? ⟨b,7,Á⟩=Â (Å É st.I):=i.r.r 7 _ U;have f0:=i.r.C 0;have f6:=i.r.C 6;have f7:=i.r.C 7;have d0:=j.M;have d1:=j.r;have e0:=j.C;have e1:=j.I;let⟨r,on,_,_⟩:=j.e o;let⟨t,ao,f,v,l,z⟩:=i.aq6 on r;have L:w.cell? ⟨b,5,Á⟩=Â (Ã O):=i.r.r 5 _ U;rw[(i.c o).2,v]at L;obtain⟨x,p⟩:∃x,st.d.G st.M=x:=⟨_,U⟩;have M:=l.C;rw[p]at M;have fm:=l.I;obtain⟨N,P⟩:∃y,wrap64 (x*10)=y:=⟨_,U⟩;obtain⟨n,Q⟩:∃y,wrap64 (N+((B[k].toNat:Int)-48)%256)=y:=⟨_,U⟩;have MS:¬t=b:=l.r;have MU:¬b=t:=λe=>l.r e.symm;have C:=i.Y (st.r-1) λ_=>i.c o;have q:=l.S 6<|Å É<|st.r-1;have D:=C.G q n;have E:pP (st.d.G st.M) (B[k].toNat:Int)=n:=by rw[pP,š,š,p,P,Q]
 have F:Cu st (B[k].toNat:Int)={st with r:=st.r-1,d:=f n}:=by rw[Cu,E,z]
 have G:Hid (kT B k st (B[k].toNat:Int)=Â {st with r:=st.r-1,d:=f n}/\sD m b {st with r:=st.r-1,d:=f n} w (ξ _)):= fg ⟨by rw[aqW o J,F],(((mP i 6 _).fh<|Fi (st:=st) q _).C (fe.fU fi _) λ_ _ x=>x.elim),g,O,s,D.fU⟩;clear C q D E F l z v i j p r;go_wp2_with (go_at_call 78;refine(sC _ _).mono ?_;rintro e u ⟨rfl,hw⟩;subst u);go_region;all_goals
  go_wp2;exact⟨gu,⟨I,_,G.out.1,G.out.2⟩⟩
theorem arb{X:Ĉ->Í->Prop}(C:Fr b B (Å É k) y) (i:gR m b g O s st w) (j:jv B k st) (S:B.size<=1200) (n:k<B.size) (o:(0<st.r/\jk (B[k].toNat:Int)=Ë)\/st.r<=0) (p:s.size=0) (T:∀y u,Fr b B (Å É<|(k:Int)+1) y/\sE m b B k st w u->K y u) (D:∀y u,Fr b B (Å É k) y/\sF m b B k st w u->X y u): ß À qB (Exit.then K<|QQ X) y w:=by
 obtain⟨f,rfl⟩:=C;unfold pT;conv=>arg 2;whnf
 have V:w.cell? ⟨b,0,Á⟩=Â (Ä s):=i.r.r 0 _ U;have W:w.cell? ⟨b,6,Á⟩=Â (Å É st.r):=i.r.r 6 _ U;have Y:w.cell? ⟨b,7,Á⟩=Â (Å É st.I):=i.r.r 7 _ U;have f0:=i.r.C 0;have f6:=i.r.C 6;have f7:=i.r.C 7;have d0:=j.M;have d1:=j.r;have e0:=j.C;have e1:=j.I;have r:=fg<|u9 (B:=B) (k:=k)<|uZ o;have t:=i.Y 0 λh=>absurd h A;have v:=fg<|mP i 6<|Å É 0;have E:=j.d.C;have F:=j.d.I;have G:=fg t;let⟨tY,Af⟩:=va B[k];have qY:=Ur s p;have l:st.C=[]:=by rw[<-i.I];exact abf s p
 have H:st.d.r=Î:=by
  rcases i.N with q|q
  .exact q
  .rw[l]at q;cases q
 have x:=fg<|aqX (B:=B) (k:=k) (c:=(B[k].toNat:Int)) (st:={st with r:=0}) l;clear l i j;rcases o with⟨I,oU⟩|I;all_goals
  go_wp2_with (first|(go_at_call 78;refine(sC _ _).mono ?_;rintro e u ⟨rfl,z⟩;subst u)|(go_at_call 79;refine(abF t U H F E _).mono ?_;rintro e u (⟨q,rfl,z⟩|⟨J,q,rfl,L,M,N,P,Q⟩)))
  .subst z;exact D _ _ ⟨gu,⟨n,r.out.trans<|x.out.trans q,_,v.out,_,_,_,G.out⟩⟩
  .exact⟨gu,⟨n,J,r.out.trans<|x.out.trans q,v.out.fh L,M,N,P,Q⟩⟩
theorem ard{X:Ĉ->Í->Prop}(C:Fr b B (Å É k) y) (i:gR m b g O s st w) (j:jv B k st) (Q:B.size<=1200) (p:k<B.size) (q:(0<st.r/\jk (B[k].toNat:Int)=Ë)\/st.r<=0) (r:0<s.size) (l:((s[0]'r).toNat:Int)=82) (S:∀y u,Fr b B (Å É<|(k:Int)+1) y/\sE m b B k st w u->K y u) (D:∀y u,Fr b B (Å É k) y/\sF m b B k st w u->X y u): ß À qB (Exit.then K<|QQ X) y w:=by
 obtain⟨f,rfl⟩:=C;unfold pT;conv=>arg 2;whnf
 have T:w.cell? ⟨b,0,Á⟩=Â (Ä s):=i.r.r 0 _ U;have V:w.cell? ⟨b,6,Á⟩=Â (Å É st.r):=i.r.r 6 _ U;have W:w.cell? ⟨b,7,Á⟩=Â (Å É st.I):=i.r.r 7 _ U;have Y:=i.r.C 0;have f6:=i.r.C 6;have f7:=i.r.C 7;have d0:=j.M;have d1:=j.r;have e0:=j.C;have e1:=j.I;have t:=fg<|u9 (B:=B) (k:=k)<|uZ q;have v:=i.Y 0 λh=>absurd h A;have x:=fg<|mP i 6<|Å É 0;have Ag:=j.d.C;have Cy:=j.d.I;have E:=fg v;let⟨tY,Af⟩:=va B[k];have qY:=tE s Z;have yg:s.size<=10:=i.M;have F:=fg (show st.C=(s[0].toNat:Int)::(j2 s).tail by rw[<-i.I];exact wh s r);have z:=fg<|aqY (B:=B) (k:=k) (c:=(B[k].toNat:Int)) (st:={st with r:=0}) F.out l;have yh:((s[0].toNat:Int)==82)=Î:=by rw[l];rfl
 have G:=fg λe=>(j.d.N e).1;clear l i j;rcases q with⟨H,oU⟩|H;all_goals
  go_wp2_with (first|(go_at_call 78;refine(sC _ _).mono ?_;rintro e u ⟨rfl,n⟩;subst u)|(go_at_call 81;refine(aqp _ _).mono ?_;rintro e u ⟨rfl,n⟩;subst u)|(go_at_call 80;refine(aq8 v U G.out (by show st.d.C.length<=100000;omega) _).mono ?_;rintro e u (⟨o,rfl,n⟩|⟨I,o,rfl,J,L,M,N,P⟩)))
  .subst n;exact D _ _ ⟨gu,⟨p,t.out.trans<|z.out.trans o,_,x.out,_,_,_,E.out⟩⟩
  .exact⟨gu,⟨p,I,t.out.trans<|z.out.trans o,x.out.fh J,L,M,N,P⟩⟩
end
section
variable{g:Gh}{s:ByteArray}{st:PS}{d:PD}
def arf{X:Ĉ->Í->Prop}(v:Fr b B (Å É k) y) (f:gR m b g O s st w) (i:jv B k st) (N:B.size<=1200) (x:k<B.size) (l:(0<st.r/\jk (B[k].toNat:Int)=Ë)\/st.r<=0) (n:0<s.size) (j:((s[0]'n).toNat:Int)=66) (o:sy (B[k].toNat:Int)=Î) (P:∀y u,Fr b B (Å É<|(k:Int)+1) y/\sE m b B k st w u->K y u) (_hQ:∀y u,Fr b B (Å É k) y/\sF m b B k st w u->X y u): ß À qB (Exit.then K<|QQ X) y w:=by
 obtain⟨c,rfl⟩:=v;unfold pT;conv=>arg 2;whnf
 have Q:w.cell? ⟨b,0,Á⟩=Â (Ä s):=f.r.r 0 _ U;have S:w.cell? ⟨b,6,Á⟩=Â (Å É st.r):=f.r.r 6 _ U;have T:w.cell? ⟨b,7,Á⟩=Â (Å É st.I):=f.r.r 7 _ U;have V:=f.r.C 0;have W:=f.r.C 6;have Y:=f.r.C 7;have d0:=i.M;have d1:=i.r;have e0:=i.C;have e1:=i.I;have z:=fg<|u9 (B:=B) (k:=k)<|uZ l;have p:=f.Y 0 λh=>absurd h A;have C:=fg<|mP f 6<|Å É 0;have Ag:=i.d.C;have Cy:=i.d.I;have HH1:=fg p;let⟨D,E⟩:=va B[k];have qY:=tE s Z;have yg:s.size<=10:=f.M;have r:=fg (show st.C=(s[0].toNat:Int)::(j2 s).tail by rw[<-f.I];exact wh s n);have t:st.d.r=Î:=by
  rcases f.N with q|q
  .exact q
  .rw[r.out]at q;injection q with q;omega
 have q:=fg<|aqZ (B:=B) (k:=k) (st:={st with r:=0}) r.out j o;have yh:((s[0].toNat:Int)==82)=Ë:=by rw[j];rfl
 have Fp:((s[0].toNat:Int)==66)=Î:=by rw[j];rfl
 clear j f i;rcases l with⟨F,oU⟩|F;all_goals
  go_wp2_with (first|(go_at_call 78;refine(sC _ _).mono ?_;rintro e u ⟨rfl,G⟩;subst u)|(go_at_call 82;refine(Ub _ D E _).mono ?_;rintro e u ⟨rfl,G⟩;subst u)|(go_at_call 83;refine(abr p U t<|by show st.d.Y.length<=100000;omega).mono ?_;rintro e u ⟨rfl,G,I,J,L,H⟩)|(go_at_call 84;refine(LA H U t _ _<|show oZ 120 _=Î from o).mono ?_;rintro e w'' ⟨rfl,H,I,J,L,M⟩))
  exact⟨gu,⟨x,_,z.out.trans q.out,C.out.fh<|G.fh H,I,J,L,M⟩⟩
def arh{X:Ĉ->Í->Prop}(C:Fr b B (Å É k) y) (f:gR m b g O s st w) (i:jv B k st) (W:B.size<=1200) (n:k<B.size) (o:(0<st.r/\jk (B[k].toNat:Int)=Ë)\/st.r<=0) (p:0<s.size) (j:((s[0]'p).toNat:Int)=66) (D:sy (B[k].toNat:Int)=Ë) (Y:∀y u,Fr b B (Å É<|(k:Int)+1) y/\sE m b B k st w u->K y u) (E:∀y u,Fr b B (Å É k) y/\sF m b B k st w u->X y u): ß À qB (Exit.then K<|QQ X) y w:=by
 obtain⟨c,rfl⟩:=C;unfold pT;conv=>arg 2;whnf
 have c0:w.cell? ⟨b,0,Á⟩=Â (Ä s):=f.r.r 0 _ U;have c6:w.cell? ⟨b,6,Á⟩=Â (Å É st.r):=f.r.r 6 _ U;have c7:w.cell? ⟨b,7,Á⟩=Â (Å É st.I):=f.r.r 7 _ U;have f0:=f.r.C 0;have f6:=f.r.C 6;have f7:=f.r.C 7;have d0:=i.M;have d1:=i.r;have e0:=i.C;have e1:=i.I;have r:=fg<|u9 (B:=B) (k:=k)<|uZ o;have t:=f.Y 0 λh=>absurd h A;have v:=fg<|mP f 6<|Å É 0;have F:=i.d.C;have G:=i.d.I;have H:=fg t;let⟨I,J⟩:=va B[k];have qY:=tE s Z;have yg:s.size<=10:=f.M;have x:=fg (show st.C=(s[0].toNat:Int)::(j2 s).tail by rw[<-f.I];exact wh s p);have L:st.d.r=Î:=by
  rcases f.N with q|q
  .exact q
  .rw[x.out]at q;injection q with q;omega
 have z:=fg<|aq0 (B:=B) (k:=k) (st:={st with r:=0}) x.out j D;have yh:((s[0].toNat:Int)==82)=Ë:=by rw[j];rfl
 have Fp:((s[0].toNat:Int)==66)=Î:=by rw[j];rfl
 clear j f i;rcases o with⟨M,oU⟩|M;all_goals
  go_wp2_with (first|(go_at_call 78;refine(sC _ _).mono ?_;rintro e u ⟨rfl,q⟩;subst u)|(go_at_call 82;refine(Ub _ I J _).mono ?_;rintro e u ⟨rfl,q⟩;subst u)|(go_at_call 79;refine(abF t U L G F _).mono ?_;rintro e u (⟨l,rfl,q⟩|⟨N,l,rfl,P,Q,S,T,V⟩)))
  .subst q;exact E _ _ ⟨gu,⟨n,r.out.trans<|z.out.trans l,_,v.out,_,_,_,H.out⟩⟩
  .exact⟨gu,⟨n,N,r.out.trans<|z.out.trans l,v.out.fh P,Q,S,T,V⟩⟩
theorem ari{X:Ĉ->Í->Prop}(D:Fr b B (Å É k) y) (i:gR m b g O s st w) (j:jv B k st) (S:B.size<=1200) (p:k<B.size) (r:(0<st.r/\jk (B[k].toNat:Int)=Ë)\/st.r<=0) (t:0<s.size) (l:((s[0]'t).toNat:Int)=84) (T:∀y u,Fr b B (Å É<|(k:Int)+1) y/\sE m b B k st w u->K y u) (E:∀y u,Fr b B (Å É k) y/\sF m b B k st w u->X y u): ß À qB (Exit.then K<|QQ X) y w:=by
 obtain⟨f,rfl⟩:=D;unfold pT;conv=>arg 2;whnf
 have V:w.cell? ⟨b,0,Á⟩=Â (Ä s):=i.r.r 0 _ U;have W:w.cell? ⟨b,6,Á⟩=Â (Å É st.r):=i.r.r 6 _ U;have Y:w.cell? ⟨b,7,Á⟩=Â (Å É st.I):=i.r.r 7 _ U;have f0:=i.r.C 0;have f6:=i.r.C 6;have f7:=i.r.C 7;have d0:=j.M;have d1:=j.r;have e0:=j.C;have e1:=j.I;have v:=fg<|u9 (B:=B) (k:=k)<|uZ r;have x:=i.Y 0 λh=>absurd h A;have z:=fg<|mP i 6<|Å É 0;have Ag:=j.d.C;have Cy:=j.d.I;have F:=fg x;let⟨tY,Af⟩:=va B[k];have qY:=tE s Z;have yg:s.size<=10:=i.M;have n:=fg (show st.C=(s[0].toNat:Int)::(j2 s).tail by rw[<-i.I];exact wh s t);have G:st.d.r=Î:=by
  rcases i.N with q|q
  .exact q
  .rw[n.out]at q;injection q with q;omega
 have H:st.d.M=Î:=j.N (by rw[n.out,l];simp);have C:=fg<|aq1 (B:=B) (k:=k) (c:=(B[k].toNat:Int)) (st:={st with r:=0}) n.out l;have yh:((s[0].toNat:Int)==82)=Ë:=by rw[l];rfl
 have Fp:((s[0].toNat:Int)==66)=Ë:=by rw[l];rfl
 have Fq:((s[0].toNat:Int)==84)=Î:=by rw[l];rfl
 clear l i j;rcases r with⟨I,oU⟩|I;all_goals
  go_wp2_with (first|(go_at_call 78;refine(sC _ _).mono ?_;rintro e u ⟨rfl,q⟩;subst u)|(go_at_call 86;refine(aqo _ _).mono ?_;rintro e u ⟨rfl,q⟩;subst u)|(go_at_call 85;refine(aq9 x U G H _).mono ?_;rintro e u (⟨o,rfl,q⟩|⟨J,o,rfl,L,M,N,P,Q⟩)))
  .subst q;exact E _ _ ⟨gu,⟨p,v.out.trans<|C.out.trans o,_,z.out,_,_,_,F.out⟩⟩
  .exact⟨gu,⟨p,J,v.out.trans<|C.out.trans o,z.out.fh L,M,N,P,Q⟩⟩
end
section
variable{g:Gh}{s:ByteArray}{st:PS}{d:PD}
theorem arj{X:Ĉ->Í->Prop}(P:Fr b B (Å É k) y) (i:gR m b g O s st w) (j:jv B k st) (hB:B.size<=1200) (Q:k<B.size) (F:(0<st.r/\jk (B[k].toNat:Int)=Ë)\/st.r<=0) (G:0<s.size) (l:((s[0]'G).toNat:Int)=80) (v:(B[k].toNat:Int)=125) (hK:∀y u,Fr b B (Å É<|(k:Int)+1) y/\sE m b B k st w u->K y u) (_hQ:∀y u,Fr b B (Å É k) y/\sF m b B k st w u->X y u): ß À qB (Exit.then K<|QQ X) y w:=by
 obtain⟨f,rfl⟩:=P;unfold pT;conv=>arg 2;whnf
 have c0:w.cell? ⟨b,0,Á⟩=Â (Ä s):=i.r.r 0 _ U;have c6:w.cell? ⟨b,6,Á⟩=Â (Å É st.r):=i.r.r 6 _ U;have S:w.cell? ⟨b,7,Á⟩=Â (Å É st.I):=i.r.r 7 _ U;have f0:=i.r.C 0;have f6:=i.r.C 6;have f7:=i.r.C 7;have d0:=j.M;have d1:=j.r;have T:=j.C;have V:=j.I;have H:=fg<|u9 (B:=B) (k:=k)<|uZ F;have z:=i.Y 0 λh=>absurd h A;have I:=fg<|mP i 6<|Å É 0;have Ag:=j.d.C;have Cy:=j.d.I;have W:=fg z;let⟨tY,Af⟩:=va B[k];have qY:=tE s Z;have yg:s.size<=10:=i.M;have n:=fg (show st.C=(s[0].toNat:Int)::(j2 s).tail by rw[<-i.I];exact wh s G);have C:st.d.r=Î:=by
  rcases i.N with q|q
  .exact q
  .rw[n.out]at q;injection q with q;omega
 have D:st.d.M=Î:=j.N (by rw[n.out,l];simp);have Y:w.cell? ⟨b,3,Á⟩=Â (Ã<|g.Y st.d):=i.r.r 3 _ U;rw[IB D]at Y;let⟨yt1,J,q⟩:=(i.C.r C).C D;have Us:w.cell? ⟨g.t,5,Á⟩=Â (Ä st.d.N.p):=q.r 5 _ (by have:=Cx st.d.N.c<|Ä st.d.N.p;rwa[J]at this);have Ut:=q.C 5;have MU:¬b=g.t:=λe=>fj.S q i.r A e.symm;have MS:¬g.t=b:=fj.S q i.r A;let⟨MV,_⟩:=j.Y (by rw[n.out,l];simp);have yh:((s[0].toNat:Int)==82)=Ë:=by rw[l];rfl
 have Fp:((s[0].toNat:Int)==66)=Ë:=by rw[l];rfl
 have Fq:((s[0].toNat:Int)==84)=Ë:=by rw[l];rfl
 have IG:((s[0].toNat:Int)==80)=Î:=by rw[l];rfl
 clear yt1 J q;have L:=fg<|aq2 (B:=B) (k:=k) (st:={st with r:=0}) n.out l v;have Uu:((B[k].toNat:Int) !=125)=Ë:=by rw[v];rfl
 obtain⟨o,M⟩:∃t:Nat,st.I=(t:Int):=⟨st.I.toNat,Z⟩;have r:=z.oH C D<|B.extract (k-o) k;have N:=r.1.abH C n.out;have E:=fg (Ê (show kT B k st (B[k].toNat:Int)=Â {({st with r:=0}:PS)with C:=(j2 s).tail,d:=st.d.oH (B.extract (k-o) k)} by rw[H.out,L.out,show({st with r:=0}:PS).I.toNat=o by show st.I.toNat=o;omega])<|Ê ((I.out.fh r.2).fh<|mP r.1 0<|Ä<|s.extract 1 s.size) N);rw[M]at S T V MV;clear v l i j r N M L H I W z;rcases F with⟨BQ,oU⟩|BQ;all_goals
  go_wp2_with (first|(go_at_call 78;refine(sC _ _).mono ?_;rintro e u ⟨rfl,x⟩;subst u))
  go_region
  all_goals
   go_wp2;exact⟨gu,⟨Q,_,E.out.1,E.out.2.1.C (fe.fU fi _) λ_ _ x=>x.elim,_,_,_,E.out.2.2.fU⟩⟩
theorem ark{X:Ĉ->Í->Prop}(D:Fr b B (Å É k) y) (i:gR m b g O s st w) (j:jv B k st) (S:B.size<=1200) (E:k<B.size) (v:(0<st.r/\jk (B[k].toNat:Int)=Ë)\/st.r<=0) (x:0<s.size) (l:((s[0]'x).toNat:Int)=80) (o:¬(B[k].toNat:Int)=125) (r:st.I=40) (_hK:∀y u,Fr b B (Å É<|(k:Int)+1) y/\sE m b B k st w u->K y u) (F:∀y u,Fr b B (Å É k) y/\sF m b B k st w u->X y u): ß À qB (Exit.then K<|QQ X) y w:=by
 obtain⟨f,rfl⟩:=D;unfold pT;conv=>arg 2;whnf
 have T:w.cell? ⟨b,0,Á⟩=Â (Ä s):=i.r.r 0 _ U;have V:w.cell? ⟨b,6,Á⟩=Â (Å É st.r):=i.r.r 6 _ U;have W:w.cell? ⟨b,7,Á⟩=Â (Å É st.I):=i.r.r 7 _ U;have Y:=i.r.C 0;have f6:=i.r.C 6;have f7:=i.r.C 7;have d0:=j.M;have d1:=j.r;have e0:=j.C;have e1:=j.I;have G:=fg<|u9 (B:=B) (k:=k)<|uZ v;have H:=i.Y 0 λh=>absurd h A;have I:=fg<|mP i 6<|Å É 0;have Ag:=j.d.C;have Cy:=j.d.I;have J:=fg H;let⟨tY,Af⟩:=va B[k];have qY:=tE s Z;have yg:s.size<=10:=i.M;have n:=fg (show st.C=(s[0].toNat:Int)::(j2 s).tail by rw[<-i.I];exact wh s x);have L:st.d.r=Î:=by
  rcases i.N with q|q
  .exact q
  .rw[n.out]at q;injection q with q;omega
 have z:st.d.M=Î:=j.N (by rw[n.out,l];simp);have M:w.cell? ⟨b,3,Á⟩=Â (Ã<|g.Y st.d):=i.r.r 3 _ U;rw[IB z]at M;let⟨N,C,q⟩:=(i.C.r L).C z;have Us:w.cell? ⟨g.t,5,Á⟩=Â (Ä st.d.N.p):=q.r 5 _ (by have:=Cx st.d.N.c<|Ä st.d.N.p;rwa[C]at this);have Ut:=q.C 5;have MU:¬b=g.t:=λe=>fj.S q i.r A e.symm;have MS:¬g.t=b:=fj.S q i.r A;let⟨MV,_⟩:=j.Y (by rw[n.out,l];simp);have yh:((s[0].toNat:Int)==82)=Ë:=by rw[l];rfl
 have Fp:((s[0].toNat:Int)==66)=Ë:=by rw[l];rfl
 have Fq:((s[0].toNat:Int)==84)=Ë:=by rw[l];rfl
 have IG:((s[0].toNat:Int)==80)=Î:=by rw[l];rfl
 clear N C q;have Uu:((B[k].toNat:Int) !=125)=Î:=by rwa[bne_iff_ne]
 have P:=fg<|abG (B:=B) (k:=k) (st:={st with r:=0}) n.out l o<|È r;have abI:(st.I==40)=Î:=by rw[r];rfl
 clear r o l i j;rcases v with⟨Q,oU⟩|Q;all_goals
  go_wp2_with (first|(go_at_call 78;refine(sC _ _).mono ?_;rintro e u ⟨rfl,hw⟩;subst u))
  exact F _ _ ⟨gu,⟨E,G.out.trans P.out,_,I.out,_,_,_,J.out⟩⟩
theorem arl{X:Ĉ->Í->Prop}(F:Fr b B (Å É k) y) (i:gR m b g O s st w) (j:jv B k st) (T:B.size<=1200) (G:k<B.size) (v:(0<st.r/\jk (B[k].toNat:Int)=Ë)\/st.r<=0) (x:0<s.size) (l:((s[0]'x).toNat:Int)=80) (o:¬(B[k].toNat:Int)=125) (r:¬st.I=40) (z:¬lB (B[k].toNat:Int)=0) (V:∀y u,Fr b B (Å É<|(k:Int)+1) y/\sE m b B k st w u->K y u) (_hQ:∀y u,Fr b B (Å É k) y/\sF m b B k st w u->X y u): ß À qB (Exit.then K<|QQ X) y w:=by
 obtain⟨f,rfl⟩:=F;unfold pT;conv=>arg 2;whnf
 have W:w.cell? ⟨b,0,Á⟩=Â (Ä s):=i.r.r 0 _ U;have Y:w.cell? ⟨b,6,Á⟩=Â (Å É st.r):=i.r.r 6 _ U;have c7:w.cell? ⟨b,7,Á⟩=Â (Å É st.I):=i.r.r 7 _ U;have f0:=i.r.C 0;have f6:=i.r.C 6;have f7:=i.r.C 7;have d0:=j.M;have d1:=j.r;have e0:=j.C;have e1:=j.I;have H:=fg<|u9 (B:=B) (k:=k)<|uZ v;have I:=i.Y 0 λh=>absurd h A;have J:=fg<|mP i 6<|Å É 0;have Ag:=j.d.C;have Cy:=j.d.I;have C:=fg I;let⟨tY,Af⟩:=va B[k];have qY:=tE s Z;have yg:s.size<=10:=i.M;have n:=fg (show st.C=(s[0].toNat:Int)::(j2 s).tail by rw[<-i.I];exact wh s x);have L:st.d.r=Î:=by
  rcases i.N with q|q
  .exact q
  .rw[n.out]at q;injection q with q;omega
 have D:st.d.M=Î:=j.N (by rw[n.out,l];simp);have M:w.cell? ⟨b,3,Á⟩=Â (Ã<|g.Y st.d):=i.r.r 3 _ U;rw[IB D]at M;let⟨N,E,q⟩:=(i.C.r L).C D;have Us:w.cell? ⟨g.t,5,Á⟩=Â (Ä st.d.N.p):=q.r 5 _ (by have:=Cx st.d.N.c<|Ä st.d.N.p;rwa[E]at this);have Ut:=q.C 5;have MU:¬b=g.t:=λe=>fj.S q i.r A e.symm;have MS:¬g.t=b:=fj.S q i.r A;let⟨MV,_⟩:=j.Y (by rw[n.out,l];simp);have yh:((s[0].toNat:Int)==82)=Ë:=by rw[l];rfl
 have Fp:((s[0].toNat:Int)==66)=Ë:=by rw[l];rfl
 have Fq:((s[0].toNat:Int)==84)=Ë:=by rw[l];rfl
 have IG:((s[0].toNat:Int)==80)=Î:=by rw[l];rfl
 clear N E q;have Uu:((B[k].toNat:Int) !=125)=Î:=by rwa[bne_iff_ne]
 have P:=fg<|aq3 (B:=B) (k:=k) (st:={st with r:=0}) n.out l o r z;have abI:(st.I==40)=Ë:=by rwa[beq_eq_false_iff_ne]
 have zi:((lB (B[k].toNat:Int):Int)==0)=Ë:=by rw[beq_eq_false_iff_ne];omega
 clear r o l i j z;rcases v with⟨Q,oU⟩|Q;all_goals
  go_wp2_with (first|(go_at_call 78;refine(sC _ _).mono ?_;rintro e u ⟨rfl,S⟩;subst u)|(go_at_call 87;refine(qt _ _).mono ?_;rintro e u ⟨rfl,S⟩;subst u))
  exact⟨gu,⟨G,_,H.out.trans P.out,J.out.fh<|mP C.out 7 _,_,_,_,C.out.abo _⟩⟩
theorem arn{X:Ĉ->Í->Prop}(E:Fr b B (Å É k) y) (i:gR m b g O s st w) (j:jv B k st) (V:B.size<=1200) (F:k<B.size) (v:(0<st.r/\jk (B[k].toNat:Int)=Ë)\/st.r<=0) (x:0<s.size) (l:((s[0]'x).toNat:Int)=80) (o:¬(B[k].toNat:Int)=125) (z:¬st.I=40) (r:lB (B[k].toNat:Int)=0) (_hK:∀y u,Fr b B (Å É<|(k:Int)+1) y/\sE m b B k st w u->K y u) (G:∀y u,Fr b B (Å É k) y/\sF m b B k st w u->X y u): ß À qB (Exit.then K<|QQ X) y w:=by
 obtain⟨f,rfl⟩:=E;unfold pT;conv=>arg 2;whnf
 have W:w.cell? ⟨b,0,Á⟩=Â (Ä s):=i.r.r 0 _ U;have Y:w.cell? ⟨b,6,Á⟩=Â (Å É st.r):=i.r.r 6 _ U;have c7:w.cell? ⟨b,7,Á⟩=Â (Å É st.I):=i.r.r 7 _ U;have f0:=i.r.C 0;have f6:=i.r.C 6;have f7:=i.r.C 7;have d0:=j.M;have d1:=j.r;have e0:=j.C;have e1:=j.I;have H:=fg<|u9 (B:=B) (k:=k)<|uZ v;have I:=i.Y 0 λh=>absurd h A;have J:=fg<|mP i 6<|Å É 0;have Ag:=j.d.C;have Cy:=j.d.I;have L:=fg I;let⟨tY,Af⟩:=va B[k];have qY:=tE s Z;have yg:s.size<=10:=i.M;have n:=fg (show st.C=(s[0].toNat:Int)::(j2 s).tail by rw[<-i.I];exact wh s x);have M:st.d.r=Î:=by
  rcases i.N with q|q
  .exact q
  .rw[n.out]at q;injection q with q;omega
 have C:st.d.M=Î:=j.N (by rw[n.out,l];simp);have N:w.cell? ⟨b,3,Á⟩=Â (Ã<|g.Y st.d):=i.r.r 3 _ U;rw[IB C]at N;let⟨P,D,q⟩:=(i.C.r M).C C;have Us:w.cell? ⟨g.t,5,Á⟩=Â (Ä st.d.N.p):=q.r 5 _ (by have:=Cx st.d.N.c<|Ä st.d.N.p;rwa[D]at this);have Ut:=q.C 5;have MU:¬b=g.t:=λe=>fj.S q i.r A e.symm;have MS:¬g.t=b:=fj.S q i.r A;let⟨MV,_⟩:=j.Y (by rw[n.out,l];simp);have yh:((s[0].toNat:Int)==82)=Ë:=by rw[l];rfl
 have Fp:((s[0].toNat:Int)==66)=Ë:=by rw[l];rfl
 have Fq:((s[0].toNat:Int)==84)=Ë:=by rw[l];rfl
 have IG:((s[0].toNat:Int)==80)=Î:=by rw[l];rfl
 clear P D q;have Uu:((B[k].toNat:Int) !=125)=Î:=by rwa[bne_iff_ne]
 have Q:=fg<|abG (B:=B) (k:=k) (st:={st with r:=0}) n.out l o<|Ï r;have abI:(st.I==40)=Ë:=by rwa[beq_eq_false_iff_ne]
 have zi:((lB (B[k].toNat:Int):Int)==0)=Î:=by rw[r];rfl
 clear z o l i j r;rcases v with⟨S,oU⟩|S;all_goals
  go_wp2_with (first|(go_at_call 78;refine(sC _ _).mono ?_;rintro e u ⟨rfl,T⟩;subst u)|(go_at_call 87;refine(qt _ _).mono ?_;rintro e u ⟨rfl,T⟩;subst u))
  exact G _ _ ⟨gu,⟨F,H.out.trans Q.out,_,J.out,_,_,_,L.out⟩⟩
end
section
variable{g:Gh}{s:ByteArray}{st:PS}{d:PD}
def aro{X:Ĉ->Í->Prop}(E:Fr b B (Å É k) y) (f:gR m b g O s st w) (i:jv B k st) (S:B.size<=1200) (F:k<B.size) (x:(0<st.r/\jk (B[k].toNat:Int)=Ë)\/st.r<=0) (j:0<s.size) (n:¬((s[0]'j).toNat:Int)=82) (o:¬((s[0]'j).toNat:Int)=66) (p:¬((s[0]'j).toNat:Int)=84) (r:¬((s[0]'j).toNat:Int)=80) (z:oZ ((s[0]'j).toNat:Int) (B[k].toNat:Int)=Î) (T:∀y u,Fr b B (Å É<|(k:Int)+1) y/\sE m b B k st w u->K y u) (_hQ:∀y u,Fr b B (Å É k) y/\sF m b B k st w u->X y u): ß À qB (Exit.then K<|QQ X) y w:=by
 obtain⟨c,rfl⟩:=E;unfold pT;conv=>arg 2;whnf
 have V:w.cell? ⟨b,0,Á⟩=Â (Ä s):=f.r.r 0 _ U;have W:w.cell? ⟨b,6,Á⟩=Â (Å É st.r):=f.r.r 6 _ U;have Y:w.cell? ⟨b,7,Á⟩=Â (Å É st.I):=f.r.r 7 _ U;have f0:=f.r.C 0;have f6:=f.r.C 6;have f7:=f.r.C 7;have d0:=i.M;have d1:=i.r;have e0:=i.C;have e1:=i.I;have G:=fg<|u9 (B:=B) (k:=k)<|uZ x;have H:=f.Y 0 λh=>absurd h A;have I:=fg<|mP f 6<|Å É 0;have Ag:=i.d.C;let⟨J,L⟩:=va B[k];have qY:=tE s Z;have yg:s.size<=10:=f.M;have l:=fg (show st.C=(s[0].toNat:Int)::(j2 s).tail by rw[<-f.I];exact wh s j);have C:st.d.r=Î:=by
  rcases f.N with q|q
  .exact q
  .rw[l.out]at q;injection q with q;omega
 have yh:((s[0].toNat:Int)==82)=Ë:=by rwa[beq_eq_false_iff_ne]
 have arp:((s[0].toNat:Int)==66)=Ë:=by rwa[beq_eq_false_iff_ne]
 have Fq:((s[0].toNat:Int)==84)=Ë:=by rwa[beq_eq_false_iff_ne]
 have IG:((s[0].toNat:Int)==80)=Ë:=by rwa[beq_eq_false_iff_ne]
 have M:=fg<|aq4 (B:=B) (k:=k) (st:={st with r:=0}) l.out n o p r z;have N:=fg z;clear n o p r f i;rcases x with⟨P,oU⟩|P;all_goals
  go_wp2_with (first|(go_at_call 78;refine(sC _ _).mono ?_;rintro e u ⟨rfl,q⟩;subst u)|(go_at_call 88;refine(abh _ _ J L _).mono ?_;rintro e u ⟨rfl,q⟩;subst u)|(go_at_call 84;refine(LA H U C _ _ N.out).mono ?_;rintro e Q ⟨rfl,D,g',nm',t,q⟩;have k0:Q.cell? ⟨b,0,Á⟩=Â (Ä t):=q.r.r 0 _ U;have kf0:=q.r.C 0;have tZ:0<t.size:=q.aq7 l.out;have auR:t.size<=10:=q.M;have v:=fg<|Ê D q;clear D q))
  exact⟨gu,⟨F,_,G.out.trans M.out,I.out.fh<|v.out.1.fh<|mP v.out.2 0 _,_,_,_,v.out.2.abH ((Um _ _ _).1.trans C) l.out⟩⟩
def arq{X:Ĉ->Í->Prop}(v:Fr b B (Å É k) y) (f:gR m b g O s st w) (i:jv B k st) (M:B.size<=1200) (x:k<B.size) (r:(0<st.r/\jk (B[k].toNat:Int)=Ë)\/st.r<=0) (j:0<s.size) (l:¬((s[0]'j).toNat:Int)=82) (n:¬((s[0]'j).toNat:Int)=66) (o:¬((s[0]'j).toNat:Int)=84) (p:¬((s[0]'j).toNat:Int)=80) (z:oZ ((s[0]'j).toNat:Int) (B[k].toNat:Int)=Ë) (_hK:∀y u,Fr b B (Å É<|(k:Int)+1) y/\sE m b B k st w u->K y u) (C:∀y u,Fr b B (Å É k) y/\sF m b B k st w u->X y u): ß À qB (Exit.then K<|QQ X) y w:=by
 obtain⟨c,rfl⟩:=v;unfold pT;conv=>arg 2;whnf
 have N:w.cell? ⟨b,0,Á⟩=Â (Ä s):=f.r.r 0 _ U;have P:w.cell? ⟨b,6,Á⟩=Â (Å É st.r):=f.r.r 6 _ U;have Q:w.cell? ⟨b,7,Á⟩=Â (Å É st.I):=f.r.r 7 _ U;have S:=f.r.C 0;have T:=f.r.C 6;have V:=f.r.C 7;have W:=i.M;have Y:=i.r;have e0:=i.C;have e1:=i.I;have D:=fg<|u9 (B:=B) (k:=k)<|uZ r;have E:=f.Y 0 λh=>absurd h A;have F:=fg<|mP f 6<|Å É 0;have Ag:=i.d.C;have Cy:=i.d.I;have G:=fg E;let⟨H,I⟩:=va B[k];have qY:=tE s Z;have yg:s.size<=10:=f.M;have t:=fg (show st.C=(s[0].toNat:Int)::(j2 s).tail by rw[<-f.I];exact wh s j);have on:st.d.r=Î:=by
  rcases f.N with q|q
  .exact q
  .rw[t.out]at q;injection q with q;omega
 have yh:((s[0].toNat:Int)==82)=Ë:=by rwa[beq_eq_false_iff_ne]
 have arp:((s[0].toNat:Int)==66)=Ë:=by rwa[beq_eq_false_iff_ne]
 have Fq:((s[0].toNat:Int)==84)=Ë:=by rwa[beq_eq_false_iff_ne]
 have IG:((s[0].toNat:Int)==80)=Ë:=by rwa[beq_eq_false_iff_ne]
 have q:=fg<|aq5 (B:=B) (k:=k) (st:={st with r:=0}) t.out l n o p z;clear l n o p f i;rcases r with⟨J,oU⟩|J;all_goals
  go_wp2_with (first|(go_at_call 78;refine(sC _ _).mono ?_;rintro e u ⟨rfl,L⟩;subst u)|(go_at_call 88;refine(abh _ _ H I _).mono ?_;rintro e u ⟨rfl,L⟩;subst u))
  exact C _ _ ⟨gu,⟨x,D.out.trans q.out,_,F.out,_,_,_,G.out⟩⟩
end
section
variable{g:Gh}{st:PS}{d:PD}
theorem ars{X:Ĉ->Í->Prop}{c:ByteArray}(d:Fr b c (Å É k) y) (e:gR m b g O B st w) (f:jv c k st) (h:c.size<=1200) (i:k<c.size) (j:∀y v,Fr b c (Å É<|(k:Int)+1) y/\sE m b c k st w v->K y v) (l:∀y v,Fr b c (Å É k) y/\sF m b c k st w v->X y v): ß À qB (Exit.then K<|QQ X) y w:=by
 by_cases u:0<st.r/\jk (c[k].toNat:Int)=Î
 .grind [ara]
 have n:(0<st.r/\jk (c[k].toNat:Int)=Ë)\/st.r<=0:=by grind
 by_cases x:B.size=0
 .grind [arb]
 have o:0<B.size:=Z
 by_cases q:(B[0].toNat:Int)=82
 .grind [ard]
 by_cases p:(B[0].toNat:Int)=66
 .cases r:sy (c[k].toNat:Int)with
  |true=>exact arf d e f h i n o p r j l
  |false=>exact arh d e f h i n o p r j l
 by_cases r:(B[0].toNat:Int)=84
 .grind [ari]
 by_cases s:(B[0].toNat:Int)=80
 .grind [arj,ark,arn,arl]
 cases t:oZ (B[0].toNat:Int) (c[k].toNat:Int)with
 |true=>exact aro d e f h i n o q p r s t j l
 |false=>exact arq d e f h i n o q p r s t j l
def aru{X:Ĉ->Í->Prop}(c:Fr b B (Å É k) y)(_hB:B.size<=1200)(e:¬k<B.size)(_hk:k<=B.size) (d:∀y v,Fr b B (Å É k) y/\v=w->X y v): ß À qB (Exit.then K<|QQ X) y w:=by
 obtain⟨u,rfl⟩:=c;unfold pT;conv=>arg 2;whnf
 go_wp2;exact d _ _ ⟨gu,U⟩
def lC(B:ByteArray):Nat×PS:=jV B B.size 0 nO
def RI(m b:Nat)(c:ByteArray)(w:Í)(a:Ĉ)(d:Í):Prop:=
 ∃(k:Nat) (g:Gh) (O:Option û) (B:ByteArray) (st:PS),k<=c.size/\Fr b c (Å É k) a/\gR m b g O B st d/\fe (λi=>m<=i) w d/\jv c k st/\lC c=jV c (c.size-k) k st
def Rmu(B:ByteArray)(a:Ĉ)(_:Í):Nat:=B.size-(intOf<|a.tmps.getD 5 ĸ).toNat
def RX(m b:Nat)(B:ByteArray)(w:Í)(a:Ĉ)(d:Í):Prop:=
 ∃(k:Nat) (c:PS),k<=B.size/\Fr b B (Å É k) a/\sD m b c w d/\(lC B).1=k/\(k=B.size->(lC B).2=c)
def abJ{w:Í}(h:Fr b B (Å É c) y):Rmu B y w=B.size-c.toNat:=by obtain⟨u,rfl⟩:=h;rfl
def arv{a:PS}(b:k<B.size)(c:kT B k st (B[k].toNat:Int)=Â a):jV B (B.size-k) k st=jV B (B.size-(k+1)) (k+1) a:=by rw[show B.size-k=(B.size-(k+1))+1 by omega,jV,dif_pos b,c]
def arw(a:k<B.size)(b:kT B k st (B[k].toNat:Int)=Á):jV B (B.size-k) k st=(k,st):=by rw[show B.size-k=(B.size-(k+1))+1 by omega,jV,dif_pos a,b]
def arx{c:ByteArray}(f:Fr b c (Å É 0) y)(h:gR m b g O B nO w)(q:c.size<=1200): ß À (ń qB) (QQ<|RX m b c w) y w:=by
 apply Β (RI m b c w) (Rmu c) ⟨0,g,O,B,nO,Ù _,f,h,fe.fX _ _,Up c,U⟩;rintro y u ⟨k,g,O,B,st,l,f,r,n,s,o⟩;by_cases i:k<c.size
 .refine ars f r s q i ?_ ?_
  .rintro t v ⟨d,x,e,j,p,z,C,D,E⟩;refine⟨⟨k+1,z,C,D,e,Z,by simpa using d,E,n.fh p,abA s i j,o.trans<|arv i j⟩,?_⟩;rw[abJ d,abJ (w:=u) f];omega
  .rintro t v ⟨d,x,j,z,p,C⟩;have:=o.trans<|arw i j;exact⟨k,z,l,d,⟨n.fh p,C⟩,by rw[this],λe=>by omega⟩
 .apply aru f q i l;rintro t v ⟨d,rfl⟩;have:lC c=(k,st):=by rw[o,show c.size-k=0 by omega];rfl
  exact⟨k,st,l,d,⟨n,g,O,B,r⟩,by rw[this],λ_=>by rw[this]⟩
def arz{c:ByteArray}(h:gR m b g O B nO w)(f:c.size<=1200): Ò À 45 #[Ã<|Â ⟨b,0,Á⟩,Ä c] w λe u=>
  ∃(k:Nat) (d:PS),k<=c.size/\e=Æ (Å É k)/\sD m b d w u/\(lC c).1=k/\(k=c.size->(lC c).2=d):=by
 go_enter Tryz.func45,Tryz.ntmps45;go_wp2;go_step3;go_wp2;go_step3;go_wp2;refine İ ?_ (arx gu h f);rintro(_|(_|_)|_|_|_|_) a v hq;all_goals first|exact absurd hq id|skip
 let⟨k,d,i,j,l⟩:=hq;obtain⟨e,rfl⟩:=j;unfold pT;go_wp2;(try rw[Exit.noGoto_ret]);go_ret;exact⟨k,d,i,U,(fg l).out⟩
end
def lP(B:ByteArray):Int×Bool×List PR:=
 if B.size=0 then(0,Î,[])else(((lC B).1:Int),decide ((lC B).1=B.size)&&(decide ((lC B).2.C=[])||decide ((lC B).2.C=[66])),(lC B).2.d.C)
def ik(B:ByteArray):Int×Int×List PR:=
 if 1200<B.size then(1,0,[])else if(lP B).2.1=Î then(0,0,(lP B).2.2)else(2,(lP B).1,[])
def Cz(m:Nat)(v:Ñ)(b:List PR)(w:Í):Prop:=jC m w/\∃a,w.ownsRow m 140 1 v a.length (nP a)/\pR w.heap.size a b w
section
variable{g:Gh}{s:ByteArray}{st:PS}
def Cz.pe(w:Í):Cz w.heap.size (Ç Á 0 0) [] w:=⟨jC.I w,[],⟨U,È ⟨U,U⟩⟩,pR.N _ _⟩
def gR.iO(h:gR m b g O s st w)(a:st.d.r=Ë->st.d.S=[])(n:Nat):Cz m g.N st.d.C (w.drewN n):= ⟨h.a.iR n,g.C st.d,ig h.C.C (fe.iR fi w n) λ_ _=>id,(h.C.abt a).C (fe.iR fi w n) λ_ _ x=>x.elim⟩
def g0(m:Nat):Gh:={a:=[],q:=0,t:=0,B:=m,tb:=[],N:=Ç Á 0 0,r:=Ç Á 0 0,b:=Á}
def arA(w:Í):gR w.heap.size w.heap.size (g0 w.heap.size) Á ⟨#[82]⟩ nO (w.alloc<|Û #[Ä ⟨#[82]⟩,Ç Á 0 0,Ã Á,Ã Á,Ã Á,Ã Á,Å É 0,Å É 0] 145):= ⟨æ _,(jC.I w).gJ _ _ A A (λv e=>by simp at e;rcases e with rfl|rfl|rfl|rfl<;>trivial),fj.N w [Ä ⟨#[82]⟩,Ç Á 0 0,Ã Á,Ã Á,Ã Á,Ã Á,Å É 0,Å É 0] 145,A,A,⟨⟨U,È ⟨U,U⟩⟩,pR.N _ _,(λe=>by cases e),λ_=>rfl⟩,(λq=>by cases q),Ï rfl⟩
def arB(s:ByteArray):j2 s=[66]↔s.toList=[66]:=by
 unfold j2;rw[ByteArray.toList_eq];constructor
 .intro h;match hl:s.data.toList with
  |[]=>rw[hl]at h;simp at h
  |[x]=>
   rw[hl]at h;simp only[ŉ,Ő,List.cons.injEq,and_true]at h;have:x=66:=UInt8.toNat_inj.1 (by have:x.toNat=66:=Z;rw[this];rfl);rw[this]
  |x::y::r=>rw[hl]at h;simp at h
 .intro h;rw[h];rfl
def Uv(a:¬B.size=0):(lP B).1=((lC B).1:Int):=by rw[lP,if_neg a]
def abK(a:¬B.size=0):(lP B).2.2=(lC B).2.d.C:=by rw[lP,if_neg a]
def arC(a:¬B.size=0)(h:¬(lC B).1=B.size):(lP B).2.1=Ë:=by rw[lP,if_neg a];simp[h]
def abL(a:¬B.size=0)(h:(lC B).1=B.size){x:Bool}(b:x=(decide ((lC B).2.C=[])||decide ((lC B).2.C=[66]))):(lP B).2.1=x:=by rw[lP,if_neg a,b];simp[h]
def arD(B:ByteArray):(lC B).2.d.r=Ë->(lC B).2.d.S=[]:=λe=>((Uq B.size 0 nO (Up B)<|Ù _).1.d.N e).1
theorem abM(r:B.size<=1200): Ò À 28 #[Ä B] w λe u=>
  fe fi w u/\∃v,e=Æ (ë #[v,Å É (lP B).1,õ (lP B).2.1])/\((lP B).2.1=Î->Cz w.heap.size v (lP B).2.2 u):=by
 by_cases a:B.size=0
 .have f:=Ur B a;have n:=fg (show lP B=(0,Î,[])from if_pos a);go_enter Ω,Μ;go_wp2;apply þ (v:=ë #[Ç Á 0 0,Å É 0,õ Î]) (by simp[Ń,Ģ,go_sem]) U;exact⟨fe.fX _ _,_,by rw[n.out],λ_=>by rw[n.out];exact Cz.pe w⟩
 .have f:=tE B a;have b:=fg a;go_enter Ω,Μ;go_wp2_with (go_at_call 45;refine(arz (arA w) r).mono ?_;rintro e t ⟨k,d,i,rfl,⟨n,g,O,s,c⟩,j,y⟩);have m:fe fi w t:=((fe.gJ (λi=>w.heap.size<=i) w _ _).fh n).S λi E x=>by omega
  have F:=c.r.r 0 _ U;have G:=c.r.r 1 _ U;by_cases o:k=B.size
  .subst o;have z:=y U;subst z;have p:=fg c.I;have q:=fg λn=>c.iO (arD B) n;have n:=fg j;have d:=fg m;have C:((B.size:Int)==(B.size:Int))=Î:=fq
   by_cases a:s.size=0
   .have f:=Ur s a;have l:=fg (abL b.out n.out (x:=Î)<|by rw[<-p.out,abf s a];rfl);go_quiet (fail);go_wp2;apply þ (v:=ë #[g.N,Å É B.size,õ Î]) (by simp[Ń,Ģ,go_sem]) U;exact⟨d.out.fh<|fe.iR _ _ _,_,by rw[Uv b.out,n.out,l.out],λ_=>by rw[abK b.out];exact q.out _⟩
   .have f:=tE s a;have l:=fg (abL b.out n.out (x:=(s.toList==[66])) (by
     rw[<-p.out];have D:¬j2 s=[]:=λe=>by have:=Ua s;grind
     rw[decide_eq_false D,Bool.false_or,Ę,beq_iff_eq,decide_eq_true_iff,arB]))
    go_quiet (fail)
    go_wp2;apply þ (v:=ë #[g.N,Å É B.size,õ<|s.toList==[66]]) (by simp[Ń,Ģ,go_sem]) U;exact⟨d.out.fh<|fe.iR _ _ _,_,by rw[Uv b.out,n.out,l.out],λ_=>by rw[abK b.out];exact q.out _⟩
  .have C:((k:Int)==(B.size:Int))=Ë:=by rw[beq_eq_false_iff_ne];omega
   have n:=fg (Ê j<|arC b.out<|by rwa[j]);have d:=fg m;go_quiet (fail);go_wp2;apply þ (v:=ë #[g.N,Å É k,õ Ë]) (by simp[Ń,Ģ,go_sem]) U;exact⟨d.out.fh<|fe.iR _ _ _,_,by rw[Uv b.out,n.out.1,n.out.2],λe=>by rw[n.out.2]at e;cases e⟩
def arE(i:B.size<=ī): Ò À 19 #[Ä B] w λe u=>
  fe fi w u/\∃v,e=Æ (ë #[v,Å É (ik B).1,Å É (ik B).2.1])/\((ik B).1=0->Cz w.heap.size v (ik B).2.2 u)/\((ik B).1≠0->v=Ç Á 0 0):=by
 unfold ī at i;by_cases b:1200<B.size
 .have a:=fg (show ik B=(1,0,[]) by rw[ik,if_pos b]);go_enter ļ,Ř;go_wp2;apply þ (v:=ë #[Ç Á 0 0,Å É 1,Å É 0]) (by simp[Ń,Ľ,go_sem]) U;exact⟨fe.fX _ _,_,by rw[a.out],(λe=>by rw[a.out]at e;cases e),λ_=>rfl⟩
 .have f:B.size<=1200:=Z
  cases c:(lP B).2.1 with
  |true=>
   have a:=fg (show ik B=(0,0,(lP B).2.2) by rw[ik,if_neg b,if_pos c]);go_enter ļ,Ř;go_wp2_with (go_at_call 28;refine(abM f).mono ?_;rintro e j ⟨d,v,rfl,g⟩);apply þ (v:=ë #[v,Å É 0,Å É 0]) (by simp[Ń,Ľ,go_sem]) U;exact⟨d,_,by rw[a.out],(λ_=>by rw[a.out];exact g c),λe=>by rw[a.out]at e;exact absurd U e⟩
  |false=>
   have a:=fg (show ik B=(2,(lP B).1,[]) by rw[ik,if_neg b,if_neg (by rw[c];exact Bool.false_ne_true)]);go_enter ļ,Ř;go_wp2_with (go_at_call 28;refine(abM f).mono ?_;rintro e j ⟨d,v,rfl,g⟩);apply þ (v:=ë #[Ç Á 0 0,Å É 2,Å É (lP B).1]) (by simp[Ń,Ľ,go_sem]) U;exact⟨d,_,by rw[a.out],(λe=>by rw[a.out]at e;cases e),λ_=>rfl⟩
end
end Go.Proofs.Y.mO
namespace Go.Proofs.Y.kt
open Go Go.Conc Go.Proofs Go.RowKit Go.Proofs.Y.Lift Go.Proofs.Y.gp Go.Proofs.Y.fy Go.Proofs.Y.mO
structure IH(a:Nat)(t:PT)(w:Í):Prop where
 r:∃cs fz,w.heap[a]?=Â (Û cs 193 fz)
 c:∀i,i<5->w.cell? ⟨a,i,Á⟩=Â (Å É<|t.c.getD i 0)
 p:w.cell? ⟨a,5,Á⟩=Â (Ä t.p)
structure yi(r:Nat)(p:PR)(w:Í):Prop where
 c:∀i,i<8->w.cell? ⟨r,i,Á⟩=Â (Å É<|p.c.getD i 0)
 b:∃bp n cp,w.cell? ⟨r,8,Á⟩=Â (Ç bp n cp)/\n=p.r.length/\∀(j:Nat) (t:PT),p.r[j]?=Â t->∃tb a,bp=Â ⟨tb,0,Á⟩/\w.cell? ⟨tb,j,Á⟩=Â (Ã<|Â ⟨a,0,Á⟩)/\IH a t w
structure RQ(rs:List PR)(v:Ñ)(U:Nat->Prop)(w:Í):Prop where
 C:kK nB U w
 I:fp (lq U nB) v v
 M:∃bp cp,v=Ç bp rs.length cp/\∀(j:Nat) (p:PR),rs[j]?=Â p->∃sb r,bp=Â ⟨sb,0,Á⟩/\w.cell? ⟨sb,j,Á⟩=Â (Ã<|Â ⟨r,0,Á⟩)/\yi r p w
section
variable{f:Nat->Prop}{rs:List PR}{Y:fu}
theorem arF(h:ji Y X u w){t:PT}(d:Y i n)(k:IH i t u):IH n t w:=by refine⟨?_,λb f=>(Ad h).r d<|k.c b f,(Ad h).C d k.p⟩;let⟨c,g,e,j,l,m,o,_⟩:=h.r i n d;let⟨r,s,q⟩:=k.r;grind
theorem arG(h:ji Y X u w){r:Nat}{p:PR}(e:Y r i)(k:yi r p u):yi i p w:=by refine⟨λd f=>(Ad h).r e<|k.c d f,?_⟩;let⟨G,n,g,l,m,o⟩:=k.b;let⟨x,q,s⟩:=Ad h r i 8 _ e l;obtain⟨v,rfl,y⟩:=My s;refine⟨v,n,g,q,m,λj t z=> ?_⟩;let⟨tb,a,B,C,H⟩:=o j t z;let⟨I,J,D⟩:=y _ B;obtain⟨E,rfl,F⟩:=Aa D;let⟨K,L,M⟩:=Ad h tb E j _ F C;grind [Mx,Aa,arF]
theorem arH(h:ji Y X u w)(b:fp Y v x)(a:RQ rs v f u):RQ rs x (λj=>∃i,f i/\Y i j) w:=by refine⟨T4 h a.C,Mz b a.I,?_⟩;obtain⟨s,i,rfl,c⟩:=a.M;obtain⟨d,rfl,e⟩:=My b;refine⟨d,i,U,λj p g=> ?_⟩;let⟨k,r,l,m,t⟩:=c j p g;let⟨y,z,n⟩:=e _ l;obtain⟨o,rfl,q⟩:=Aa n;let⟨B,C,D⟩:=Ad h k o j _ q m;grind [Mx,Aa,arG]
def CB(k:W.heap[b]?=w.heap[b]?)(h:w.cell? ⟨b,i,Á⟩=Â z):W.cell? ⟨b,i,Á⟩=Â z:=by simp only[à,k];exact h
def arI(l:kK nB X w)(k:∀b,X b->W.heap[b]?=w.heap[b]?){r:Nat}{p:PR}(d:X r)(h:yi r p w):yi r p W:=by
 refine⟨λi e=>CB (k r d)<|h.c i e,?_⟩;let⟨u,n,v,m,x,y⟩:=h.b;refine⟨u,n,v,CB (k r d) m,x,λj t z=> ?_⟩;let⟨tb,a,o,q,f⟩:=y j t z;have s:X tb:=by have:=l.r d m;rw[o]at this;exact Cr this
 have g:=Cq<|l.r s q;exact⟨tb,a,o,CB (k tb s) q,⟨by rw[k a g];exact f.r,λi e=>CB (k a g)<|f.c i e,CB (k a g) f.p⟩⟩
def RQ.r(h:RQ rs v f w)(k:∀b,f b->W.heap[b]?=w.heap[b]?):RQ rs v f W:=by
 refine⟨h.C.C k,h.I,?_⟩;obtain⟨g,i,rfl,l⟩:=h.M;refine⟨g,i,U,λj p m=> ?_⟩;let⟨a,r,c,d,n⟩:=l j p m;have e:f a:=by have:=h.I;rw[c]at this;exact Cr this
 exact⟨a,r,c,CB (k a e) d,arI h.C k (Cq<|h.C.r e d) n⟩
def abN{v:Ñ}(h:mZ m i v):fp (lq (λd=>m<=d/\d<i) nB) v v:=by
 cases v with
 |int k n=>exact .iF k n
 |bool b=>exact .mC b
 |string i=>exact .kV i
 |pointer a=>cases a with
  |none=>exact .lQ
  |some a=>exact fp.jW (Y:=lq (λd=>m<=d/\d<i) nB) ⟨⟨U,h⟩,U,U⟩
 |slice a n c=>cases a with
  |none=>exact .ov n c
  |some a=>exact fp.kL (Y:=lq (λd=>m<=d/\d<i) nB) ⟨⟨U,h⟩,U,U⟩ n c
 |_=>exact absurd h<|by simp[mZ]
def arJ{v:Ñ}(h:mZ m i v):yn v=Ë:=by
 cases v with
 |int k n=>cases k<;>first|rfl|exact absurd h<|by simp[mZ]
 |_=>rfl
def arK(h:jC m w):kK nB (λi=>m<=i/\i<w.heap.size) w:=λb i=>by let⟨c,e,f,g,j,k,l,n,d⟩:=h b _ i.1<|å i.2;exact⟨c,e,f,by rw[å i.2,g],j,pL λv a=>abN<|d v a,k,Ac λv a=>arJ<|d v a,l,n⟩
theorem Lz{base:Nat}(h:w.ownsRow base e 1 v jJ.length (nP jJ)):∃b f,v=Ç b jJ.length f/\∀(j r:Nat),jJ[j]?=Â r->∃a,b=Â ⟨a,0,Á⟩/\base<=a/\w.cell? ⟨a,j,Á⟩=Â (Ã<|Â ⟨r,0,Á⟩):=by
 obtain⟨m,⟨n,o⟩|⟨g,p,q,rfl,i,k,s,t,u,l⟩⟩:=h
 .grind
 .refine⟨_,_,U,λj r c=>⟨g,U,i,?_⟩⟩;have x:=(Õ.1 c).1;have d:(nP jJ)[j]?=Â (Ã<|Â ⟨r,0,Á⟩):=by simp[nP,c]
  rw[<-l,List.getElem?_take_of_lt Z]at d;simp only[à,k,ö,ì,if_false];simpa using d
def abO(h:fj n (oI zQ++[z]) T w)(a:i<zQ.length):w.cell? ⟨n,i,Á⟩=Â (Å É<|zQ.getD i 0):=h.r i _<|Ug a z
def abP(h:fj i (oI zQ++[z]) T w)(a:zQ.length=n):w.cell? ⟨i,n,Á⟩=Â z:=h.r n _<|by rw[<-a];exact Cx zQ z
def arL{r:PR}(h:wi i n r w):yi n r w:=by
 let⟨x,tb,e,l,y,b⟩:=h.I;refine⟨λa c=>abO e (by rwa[h.C]),?_⟩;obtain⟨m,o,rfl,p⟩:=Lz l;refine⟨m,_,o,abP e h.C,b.r,λj t f=> ?_⟩;have g:j<tb.length:=by rw[b.r];exact(Õ.1 f).1
 let⟨s,u,z,v⟩:=p j tb[j]<|Ó g;let⟨_,_,k,d⟩:=b.I j tb[j] t (Ó g) f;exact⟨s,tb[j],u,v,⟨_,_,d⟩,λa c=>abO d (by rwa[k]),abP d k⟩
def arM(h:Cz m v rs w):RQ rs v (λi=>m<=i/\i<w.heap.size) w:=by
 let⟨f,i,b,c⟩:=h;obtain⟨d,k,rfl,l⟩:=Lz b;refine⟨arK f,?_,d,k,by rw[c.I],λj p e=> ?_⟩
 .cases d with
  |none=>exact .ov _ _
  |some a=>
   have:=b.lt a.block (by rcases b.2 with⟨q,_⟩|⟨g,n,o,q,_⟩<;>(cases q;try rfl));exact abN this
 .have a:j<i.length:=by rw[c.I];exact(Õ.1 e).1
  let⟨g,q,o,n⟩:=l j i[j]<|Ó a;exact⟨g,i[j],q,n,arL<|c.M j i[j] p (Ó a) e⟩
end
def abQ(B:ByteArray)(z:Ñ)(u:Í):Prop:=∃v,z=ë #[v,Å É (ik B).1,Å É (ik B).2.1]/\((ik B).1=0->∃a,RQ (ik B).2.2 v a u)
def arN(B:ByteArray):wT (abQ B):=λv u T D h=>by let⟨x,a,b⟩:=h;refine⟨x,a,λe=> ?_⟩;let⟨U,c⟩:=b e;exact⟨U,c.r λ_ _=>rfl⟩
def arO{l:ff}(f:gD l)(s:¬l.q)(t:nB<=l.w.heap.size)(u:B.size<=ī)(m:Bool)(h:Ē)(k:List Ē): fy.fl À m (λa n=>jK l a/\a.d=l.d/\∃v,n=G (h.finish<|ë #[v,Å É (ik B).1,Å É (ik B).2.1]) k/\((ik B).1=0->∃V,RQ (ik B).2.2 v V a.w/\∀b,V b->a.O b/\l.w.heap.size<=b)) l (G (è À 19 #[Ä B] ă)<|h::k):=by
 let⟨X,c,C,V⟩:=zC 19 fZ;have D:∀T,Ò À 19 #[Ä B] (World.tp (ln (λj=>False/\¬(mj l).O j) l.w) T 0) fun|Æ v,j=>abQ B v j/\kn j|_,_=>False:=λT=>by refine(arE u).mono ?_;rintro e p ⟨g,v,rfl,i,o⟩;exact⟨⟨v,U,λe=>⟨_,arM<|i e⟩⟩,g.gU Fa⟩
 refine((Eu yp Lu zC (arN B) fZ C V (Ev f) s (λb q=>q.elim) ⟨λb q=>q.elim,t⟩ (λg q=>by cases q) (pL λv g=>by simp at g;subst g;exact .kV B) D m h k).mj f).fQ ?_;rintro a n ⟨x',⟨Y,j,v,v',_,E,F,⟨v0,rfl,o⟩,H,I,_,J⟩,rfl,K,L,_,_⟩;cases F with
 |@nR _ cs'' hs mG=>
  let⟨M⟩:=cs'';match M,hs with
  |[x,y,z],_=>
   have g:=mG 0 fq fq;have p:=mG 1 fq fq;have r:=mG 2 fq fq;simp at g p r;cases p;cases r;refine⟨K,J,x,H,λe=> ?_⟩;let⟨U,N⟩:=o e;refine⟨_,arH E g (N.r λ_ _=>rfl),λb V=> ?_⟩;let⟨i,_,P⟩:=V;let⟨Q,S⟩:=I i b P;have W:l.w.heap.size<=b:=S.elim (λq=>q.elim) λq=>q.elim (λq=>q.elim) id;refine⟨È (Q.resolve_right λq=> ?_),W⟩;rw[L]at q;have:=f.fw b q;omega
end Go.Proofs.Y.kt
namespace Go.Proofs.Y.gp
open Go Go.Proofs Go.RowKit Go.Proofs.Y.Lift
def CC:List Ñ:=iw (kj 8)++[Ç Á 0 0,Å É 0,Ç Á 0 0]
def arP(w:Í):Ò À 27 #[] w λe a=>∃c B,e=Æ (Ç (Â ⟨c,0,Á⟩) 1 1)/\fj B CC 139 a/\fj c [Ã<|Â ⟨B,0,Á⟩] 128 a/\fe fi w a:=by
 have d:(iw<|kj 8).length=144:=si _;have j:(iw (kj 8)++[Ç Á 0 0]).length=145:=by rw[Ø,d];rfl
 have f:=fg<|Ê d j;unfold CC;have k:=fg λW=>anZ W;generalize kj 8=s at*;go_enter Tryz.func27,Tryz.ntmps27;go_wp2_with (first
  |(go_at_call 44;refine(k.out _).mono ?_;rintro e W ⟨rfl,b⟩;have l:=fg b;clear b)
  |(with_reducible refine Ď U (Â 2) U _ _ (Tm U U f.out.1) ?_)
  |(with_reducible refine Ď U (Â 3) U _ _ (aog U U f.out.2) ?_)
  |(with_reducible refine Ď U (Â 4) U _ _ (S' U U) ?_))
 have g:=fj.N (W.alloc<|Û (iw s++[Ç Á 0 0,Å É 0,Ç Á 0 0]).toArray 139) [Ã<|Â ⟨W.heap.size,0,Á⟩] 128;have i:=fe.gJ fi (W.alloc<|Û (iw s++[Ç Á 0 0,Å É 0,Ç Á 0 0]).toArray 139) #[Ã<|Â ⟨W.heap.size,0,Á⟩] 128;have m:(W.alloc<|Û (iw s++[Ç Á 0 0,Å É 0,Ç Á 0 0]).toArray 139).heap.size=W.heap.size+1:=fq
 rw[m]at g;have b:=fg<|Ê ((fj.N W (iw s++[Ç Á 0 0,Å É 0,Ç Á 0 0]) 139).I i id)<|Ê g<|(l.out.fh<|fe.gJ fi W (iw s++[Ç Á 0 0,Å É 0,Ç Á 0 0]).toArray 139).fh i;go_ret;exact⟨W.heap.size+1,W.heap.size,U,b.out.1,b.out.2.1,b.out.2.2⟩
def arQ(n:Int)(k:1<=n)(l:n<=8)(w:Í):Ò À 17 #[Å É n] w λe b=>∃g a B,e=Æ (ë #[Ã<|Â ⟨g,0,Á⟩,Å É 0])/\fj g [Å É n,Ç (Â ⟨a,0,Á⟩) 1 1] 59 b/\fj B CC 139 b/\fj a [Ã<|Â ⟨B,0,Á⟩] 128 b/\fe fi w b:=by go_enter ε,Tryz.ntmps17;go_wp2_with (go_at_call 27;refine(arP _).mono ?_;rintro e c ⟨a,B,rfl,f,i,j⟩;have d:=fg<|Ê f<|Ê i j;clear f i j);go_ret2;have f:=fe.gJ fi c #[Å É n,Ç (Â ⟨a,0,Á⟩) 1 1] 59;exact⟨c.heap.size,a,B,U,fj.N c [Å É n,Ç (Â ⟨a,0,Á⟩) 1 1] 59,d.out.1.I f id,d.out.2.1.I f id,d.out.2.2.fh f⟩
end Go.Proofs.Y.gp
namespace Go.Proofs.Y.kt
open Go Go.Conc Go.Proofs Go.RowKit Go.Proofs.Y.Lift Go.Proofs.Y.gp Go.Proofs.Y.fy Go.Proofs.Y.mO
section
variable{Y:fu}{a:Nat->Prop}
def abR:∀v∈CC,(∃k n,v=Å k n/\k≠Ū)\/(∃p,v=Ä p)\/v=Ç Á 0 0:=λv k=>by
 unfold CC at k;rcases â.1 k with q|q
 .rcases T3 _ v q with⟨n,rfl⟩|⟨p,rfl⟩
  .exact È ⟨_,_,U,A⟩
  .exact Ï<|È ⟨p,U⟩
 .simp at q;rcases q with rfl|rfl|rfl
  .exact Ï<|Ï U
  .exact È ⟨_,_,U,A⟩
  .exact Ï<|Ï U
def abS:lV [gp.jM]:=⟨A,A,λv b=>by simp at b;subst b;exact⟨⟨(λp a=>by cases a),(λp a=>by cases a),Ù _,Ù _⟩,aas,Ť _,show(0:Int)<1 by decide⟩⟩
def arR(d:gp.fj n CC 139 w)(f:gp.fj i [Ã<|Â ⟨n,0,Á⟩] 128 w):RD [gp.jM] (Ç (Â ⟨i,0,Á⟩) 1 1) (λk=>k=i\/k=n) w:=by
 refine⟨[(n,gp.jM)],U,abS,⟨_,1,1,U,æ _,⟨U,λj b v e=> ?_⟩⟩,?_,fp.kL (Y:=lq (λk=>k=i\/k=n) nB) ⟨⟨U,È U⟩,U,U⟩ 1 1⟩
 .cases j with
  |zero=>
   cases e;exact⟨_,0,U,f.r 0 _ U,(aoh aas<|by rwa[ő])⟩
  |succ j=>simp at e
 .rintro b (rfl|rfl)
  .refine⟨_,_,_,f,fq,pL λv c=> ?_,fq,Ac λv c=> ?_,A,A⟩
   .simp at c;subst c;exact fp.jW (Y:=lq (λk=>k=b\/k=n) nB) ⟨⟨U,Ï U⟩,U,U⟩
   .simp at c;subst c;rfl
  .refine⟨_,_,_,d,fq,pL λv c=> ?_,by simp[CC],Ac λv c=> ?_,A,A⟩
   .rcases abR v (by simpa using c)with⟨k,a,rfl,_⟩|⟨p,rfl⟩|rfl
    .exact .iF k a
    .exact .kV p
    .exact .ov 0 0
   .rcases abR v (by simpa using c)with⟨k,a,rfl,g⟩|⟨p,rfl⟩|rfl
    .cases k<;>first|rfl|exact absurd U g
    .rfl
    .rfl
def Fs(b:Nat)(n:Int)(c:Ñ)(w:Í):Prop:=∃a,w.heap[b]?=Â (Û #[Å É n,c] 59 a)/\a=(0,0)
def Fs.r(h:Fs i c v w)(k:W.heap[i]?=w.heap[i]?):Fs i c v W:=by let⟨a,b,d⟩:=h;exact⟨a,k.trans b,d⟩
def arS(h:ji Y a u w)(g:∀b,¬a b)(q:Y i j)(k:gp.fj i [Å É c,v] 59 u):∃l,fp Y v l/\Fs j c l w:=by
 let⟨d,r,e,D,s,m,t,z,_,B,_⟩:=h.r i j q;unfold gp.fj at k;rw[k]at m;cases m;have f:=z.N<|g j;let⟨C⟩:=r;match C,f.r with
 |[x,y],_=>
  have o:=f.C 0 fq fq;have p:=f.C 1 fq fq;simp at o p;cases o;exact⟨y,p,s,t,(B<|g j).symm⟩
end
def abT(n:Int)(z:Ñ)(u:Í):Prop:=∃a b B,z=ë #[Ã<|Â ⟨a,0,Á⟩,Å É 0]/\gp.fj a [Å É n,Ç (Â ⟨b,0,Á⟩) 1 1] 59 u/\RD [gp.jM] (Ç (Â ⟨b,0,Á⟩) 1 1) (λi=>i=b\/i=B) u/\a≠b/\a≠B
def arT(n:Int):wT (abT n):=λv u T D h=>by let⟨b,c,B,d,e,a⟩:=h;exact⟨b,c,B,d,e,a.1.r λ_ _=>rfl,a.2⟩
def arU{l:ff}(p:gD l)(K:¬l.q)(L:nB<=l.w.heap.size){n:Int}(M:1<=n)(N:n<=8)(C:Bool)(r:Ē)(s:List Ē): fy.fl À C (λf D=>jK l f/\f.d=l.d/\∃a e,D=G (r.finish<|ë #[Ã<|Â ⟨a,0,Á⟩,Å É 0]) s/\Fs a n e f.w/\f.O a/\l.w.heap.size<=a/\∃V,RD [gp.jM] e V f.w/\¬V a/\∀b,V b->f.O b/\l.w.heap.size<=b) l (G (è À 17 #[Å É n] ă)<|r::s):=by
 let⟨fn,c,P,t⟩:=zC 17 fZ;have Q:∀T,Ò À 17 #[Å É n] (World.tp (ln (λj=>False/\¬(mj l).O j) l.w) T 0) fun|Æ v,h=>abT n v h/\kn h|_,_=>False:=λT=>by refine(arQ n M N _).mono ?_;rintro e z ⟨a,k,B,rfl,V,m,o,g⟩;exact⟨⟨a,k,B,U,V,arR m o,gp.fj.S V o A,gp.fj.S V m A⟩,g.gU Fa⟩
 refine((Eu yp Lu zC (arT n) fZ P t (Ev p) K (λb q=>q.elim) ⟨λb q=>q.elim,L⟩ (λg q=>by cases q) (pL λv e=>by simp at e;subst e;exact .iF _ _) Q C r s).mj p).fQ ?_;rintro f D ⟨u,⟨Y,h,v,v',_,g,S,⟨a,k,B,rfl,V,m,o,W⟩,X,q7,_,q6⟩,rfl,ha,hR,_,_⟩;have E:∀i j,Y i j->(qN l u).O j/\l.w.heap.size<=j:=λi j e=>by let⟨z,F⟩:=q7 i j e;have H:l.w.heap.size<=j:=F.elim (λq=>q.elim) λq=>q.elim (λq=>q.elim) id;refine⟨È (z.resolve_right λq=> ?_),H⟩;rw[hR]at q;have:=p.fw j q;omega
 cases S with
 |@nR _ cs'' hs mG=>
  let⟨ls⟩:=cs'';match ls,hs with
  |[x,y],_=>
   have F:=mG 0 fq fq;have H:=mG 1 fq fq;simp at F H;cases H;obtain⟨a2,rfl,m3⟩:=Mx F;obtain⟨I,rfl,z⟩:=Aa m3;have h2':RD [gp.jM] (Ç (Â ⟨k,0,Á⟩) 1 1) (λi=>i=k\/i=B) {h with tape:=u.w.tape,drawn:=u.w.drawn}:=m.r λ_ _=>rfl;let⟨tu,J,e2⟩:=arS g (λj q=>q.1) z V;let⟨vs,k1,k2,k3,k4,k5⟩:=h2';let⟨vs',n1,n2⟩:=Iu (Ad g) J k3;let⟨p1,p2⟩:=E a I z;refine⟨ha,q6,I,tu,X,e2,p1,p2,_,⟨vs',n1.trans k1,k2,n2,T4 g k4,Mz J k5⟩,?_,λb t=> ?_⟩
   .rintro⟨i,hi,e⟩;have:=g.C.2.1 _ _ _ z e;subst this;exact hi.elim o W
   .let⟨i,_,e⟩:=t;exact E i b e
end Go.Proofs.Y.kt
namespace Go.Proofs.Y.kt
open Go Go.Conc Go.Proofs Go.RowKit Go.Proofs.Y.Lift Go.Proofs.Y.gp Go.Proofs.Y.fy Go.Proofs.Y.mO
structure vd(an:Nat)(xs:List ByteArray)(w:Í):Prop where
 r:∀(p:Nat) (x:ByteArray),xs[p]?=Â x->w.cell? ⟨an,p,Á⟩=Â (Ä x)
 C:w.cell? ⟨an,xs.length,Á⟩=Á
section
variable{an:Nat}{xs:List ByteArray}
theorem vd.rC(h:vd an xs w)(j:0<xs.length):∃c e d,w.heap[an]?=Â (Û c e d)/\c.size=xs.length/\∀v∈c.toList,∃x,v=Ä x:=by
 have i:∀p,p<xs.length->w.cell? ⟨an,p,Á⟩=Â (Ä xs[p]!):=λp a=>h.r p _ (by simp[a]);have b:=i 0 j;have f:=h.C;simp only[à]at b f;cases g:w.heap[an]? with
 |none=>rw[g]at b;cases b
 |some o=>
  cases o<;>rw[g]at b f<;>simp only[ö,ì,if_false]at b f<;>first|cases b|skip
  rename_i c e d;have k:c.size<=xs.length:=by grind
  have l:=λp a=>by have:=i p a;simp only[à,g,ö,ì,if_false]at this;exact this
  have m:xs.length<=c.size:=by grind
  refine⟨c,e,d,U,Nat.le_antisymm k m,λv n=> ?_⟩;let⟨p,a⟩:=ĕ n;have q:p<c.size:=by have:=(Õ.1 a).1;simpa using this
  have:=l p Z;rw[ķ]at a;rw[this]at a;cases a;exact⟨_,U⟩
end
def arV{l:ff}(o:gD l)(F:¬l.q)(H:nB<=l.w.heap.size)(h:vd i vX l.w)(I:0<vX.length)(J:l.M i)(p:lA i=Ë)(f:kX l.w i=Â (0,0))(hn:vX.length<=1000)(K:B.size=1)(L:iN vX+vX.length<=140737488355328)(r:Bool)(k:Ē)(m:List Ē): fy.fl À r (λn s=>jK l n/\n.d=l.d/\s=G (k.finish<|Ä<|jB B vX) m) l (G (è À 21 #[Ç (Â ⟨i,0,Á⟩) vX.length vX.length,Ä B] ă)<|k::m):=by
 let⟨fn,c,N,P⟩:=zC 21 fZ;let⟨t,e,Q,y,b2,z⟩:=h.rC I;have C:(λj=>j=i/\¬(mj l).O j)=λj=>j=i:=by funext j;exact propext ⟨λq=>q.1,λq=>⟨q,id⟩⟩
 have S:∀T,Ò À 21 #[Ç (Â ⟨i,0,Á⟩) vX.length vX.length,Ä B] (World.tp (ln (λj=>j=i) l.w) T 0) fun|Æ v,E=>v=Ä (jB B vX)/\kn E|_,_=>False:=λT=>by
  refine(TW U Z (æ _) K (λj v a=> ?_) L).mono ?_
  .unfold kJ at a;rw[Ī]at a;obtain⟨x,b,rfl⟩:=ò.1 a;exact⟨i,0,U,by rw[œ];exact pN (È p)<|h.r j x b⟩
  .rintro e g ⟨rfl,b⟩;exact⟨U,b.gU Fa⟩
 have V:∀v∈t.toList,fp (qj (λj=>j=i) À.globals.size) v v:=λv a=>by obtain⟨x,rfl⟩:=z v a;exact .kV x
 have X:fT (qj (λj=>j=i) À.globals.size) #[Ç (Â ⟨i,0,Á⟩) vX.length vX.length,Ä B] #[Ç (Â ⟨i,0,Á⟩) vX.length vX.length,Ä B]:=pL λv a=>by
  have b:v=Ç (Â ⟨i,0,Á⟩) vX.length vX.length\/v=Ä B:=by simpa using a
  rcases b with rfl|rfl
  .exact fp.kL (Y:=qj (λj=>j=i) À.globals.size) ⟨⟨U,U⟩,U,U⟩ _ _
  .exact .kV B
 have W:=Eu yp Lu zC (λv u T D h=>h) fZ N P (Ev o) F (λb q=>Ï<|by rwa[q]) (by rw[C];refine⟨λb q=> ?_,H⟩;subst q;exact⟨t,e,Q,y,(by unfold kX at f;rw[y]at f;cases f;exact Ù _),pL V,λ_=>⟨Z,(λq=>by rw[p]at q;cases q),λ_=>Ac λv a=>by obtain⟨x,rfl⟩:=z v a;rfl⟩⟩) (λg q=>by cases q) X (by rwa[C]) r k m;refine(W.mj o).fQ ?_;rintro n s ⟨D,⟨Y,E,v,v',_,_,b,rfl,g,_,_,u⟩,rfl,x,_,_,_⟩;cases b;exact⟨x,u,g⟩
end Go.Proofs.Y.kt
namespace Go.Proofs.Y.fy
open Go Go.Conc Go.Proofs.Y.Lift
open Go.ConcN (sumTo sumTo_congr)
def Uw(P:ω)(a:Ñ->Í->Prop):Jd:=λl g=>g.status=.running/\∃v,(∀w,stepG P Î g w=.ended (.done v) w)/\a v l.w
section
variable{Y:Nat->Prop}{e:Nat->ff}
def kH.mZ{J:Jd}{T:gB}(c:kH P Y zX i J T D e E w qJ){sl:Option (Nat×Nat)}(k:vQ v u):Ν P vQ (Į E w sl) (.done v) u qJ:=by
 have C:=c.r.r;have f:∀a g,E[a]?=Â g->a≠0->QuitsD P (D a) (Deaf qJ a) g:=λa g b d=>by
  let⟨g0,j,h,_,_⟩:=c.r.C a g b;obtain rfl:g=g0:=by cases h;rfl
  simp only[d,if_false]at j;rw[C.f a<|(á.1 b).1];exact j _<|fJ.fX _ _
 refine⟨v,U,k,C.l,c.N,⟨λg l=> ?_,U⟩,λa g b d=>⟨D a,(f a g b d).hears _⟩⟩;let⟨j,h⟩:=ĕ l;rw[List.getElem?_drop]at h;exact⟨_,(f (1+j) g (by rwa[<-ķ]) Z).leaves⟩
theorem arW{J:Jd}{T:gB}{l:ff}(u:l.w=W)(v:l.d=0)(m:¬l.q)(n:∀b,¬l.I b)(r:∀a,¬l.r a)(o:∀a,¬l.N a)(y:∀a,¬l.K a)(z:∀b,l.O b->b<W.heap.size)(B:g.status=.running)(C:lj P Î J T l g):rX P (λ_=>False) 0 J T (λ_=>0) (λ_=>l) #[g] W #[]:=by
 have f:∀(p:Nat) a,touchAt #[] p=Â a->False:=λp a h=>by unfold touchAt Trace.act? at h;simp at h
 refine⟨fq,⟨⟨λi j s D E=> ?_,λi j s D E=> ?_,λi _ b _=>n b,λi _ a _=>o a,λ_ _ _ _=>id,λi _ a e=>e.elim (λq=>absurd q<|r a) λq=>absurd q<|o a,λi _ b F=>F.elim (z b) λq=>absurd q<|n b,λ_ h=>h.elim,λi _=>by rw[u];exact fJ.fX _ _,λi _=>⟨λa e p x k=>(f p x k).elim,λa e=>(n _ e).elim,λa e=>(r a e).elim,λa e=>(o a e).elim⟩,λi _=>by rw[v];rfl,λH q=> ?_,λI G=>by simp at G,λp a c h=>(f p a h).elim,λi _ a e=>absurd e<|y a⟩,λi x k=> ?_,λj _=>rfl⟩,λi L s=> ?_,m,λp a h=>(f p a h).elim,λp a x h=>(f p a h).elim,λa _ q m=> ?_,?_⟩
 .grind
 .grind
 .let⟨i,j,_,⟨a,b,e,_⟩,_⟩:=q;simp[Trace.act?]at e
 .have t:i<1:=(á.1 k).1;obtain rfl:i=0:=Z
  obtain rfl:g=x:=by simpa using k
  exact⟨g,C,.gf,È B,È U⟩
 .grind
 .simp[Trace.act?]at m
 .intro i g t;simp[Trace.g?]at t
end
end Go.Proofs.Y.fy
namespace Go.Proofs.Y.kt
open Go Go.Conc Go.Proofs Go.RowKit Go.Proofs.Y.Lift Go.Proofs.Y.gp Go.Proofs.Y.fy Go.Proofs.Y.mO
open Go.ConcN (sumTo)
def Ah(f:Ñ->Í->Prop)(c:Array Ċ)(w:Í)(d:Option (Nat×Nat))(t:ż):Prop:=
 ∃N a v b e,ž À (N+1) (Į c w d) t=(.ended (.done v) b,e)/\runN À N (Į c w d)=.next a/\step À a=.ended (.done v) b/\Ν À f a (.done v) b e
section
variable{f:Array Ċ}{w':Í}{sl e:Option (Nat×Nat)}{t:ż}{l:ff}
def Ah.fQ{a:Ñ->Í->Prop}(h:Ah vQ E w sl t)(b:∀v u,vQ v u->a v u):Ah a E w sl t:=by let⟨M,c,v,x,d,e,f,g,i⟩:=h;exact⟨M,c,v,x,d,e,f,g,i.mono λv q=>b v x q⟩
def Ah.qN{N:Nat}(r:ž À N (Į E w sl) t=(.next<|Į f w' e,qJ))(h:Ah vQ f w' e qJ):Ah vQ E w sl t:=by
 let⟨M,a,v,x,b,c,d,g,i⟩:=h;refine⟨N+M,a,v,x,b,?_,?_,g,i⟩
 .rwa[Nat.add_assoc,runNT_add,r]
 .rw[<-Ţ À (N+M) (Į E w sl) t,runNT_add,r];rwa[Ţ]
def sG(vQ:Ñ->Í->Prop)(E:Array Ċ)(w:Í)(sl:Option (Nat×Nat))(t:ż):Prop:=Ah (λv u=>vQ v u/\u.os=w.os/\u.output=w.output) E w sl t
def sG.r{N:Nat}(r:ž À N (Į E w sl) t=(.next<|Į f w' e,qJ))(a:w'.os=w.os/\w'.output=w.output)(h:sG vQ f w' e qJ):sG vQ E w sl t:= Ah.qN r<|h.fQ λ_ _ q=>⟨q.1,q.2.1.trans a.1,q.2.2.trans a.2⟩
def kH.arX{Y:Nat->Prop}:∀(s:Nat) (h:Nat->Nat) (j:Nat->ff) (E:Array Ċ) (w:Í) (sl:Option (Nat×Nat)) (t:ż),sumTo E.size h=s->kH À Y zX n (Uw À vQ) .fD h j E w t->sG vQ E w sl t:=by
 intro s
 induction s using Nat.strongRecOn with
 |_ s r=>
  intro h j E w sl t I c;have J:=c.C;obtain⟨g0,a⟩:∃g,E[0]?=Â g:=⟨_,å Z⟩;have o:∀d,Uw À vQ {j 0 with w:=w.at d} g0:=λd=>by
   let⟨u,b,k,_,_⟩:=(c.I d).r.C 0 g0 a;obtain rfl:g0=u:=by cases k;rfl
   exact b (w.at d)<|(c.I d).r.r.r 0 Z
  obtain⟨i,g,d,e,l,x,m⟩:=crowd_pick c.Km ⟨0,g0,a,(o 0).1⟩;by_cases p:i=0
  .subst p;rw[a]at l;obtain rfl:=ag l;let⟨_,v,q,y⟩:=o d;have u:stepT À (Į E w sl)=(.ended (.done v)<|w.at d,#[]):=by
    rw[m,ConcN.runT_crowd_ended a<|q<|w.at d];rfl
   refine⟨0,Į E w sl,v,w.at d,t,?_,U,?_,c.mZ ⟨y,U,U⟩⟩
   .simp[ž,u]
   .have:=stepT_fst À (Į E w sl) Î;rw[<-this];rw[u]
  .let⟨q,y,f,u,b,k,K,L,z⟩:=(c.I d).ZJ (sl:=e) l p x;let⟨N,B,v,w',qJ,C,D,F,G⟩:=r (sumTo f.size q) (by rw[k];omega) q y f (w.at d) e (t++u) U z;refine⟨N+1,B,v,w',qJ,by simp only[ž,m,b];exact C,?_,F,G⟩;have:=Ţ À (N+1) (Į E w sl) t;rw[<-this];simp only[ž,m,b];rwa[Ţ]
structure iy(l:ff):Prop where
 r:gD l
 d:l.d=0
 q:¬l.q
 N:∀b,¬l.I b
 I:∀a,¬l.r a
 M:∀a,¬l.N a
 k:∀a,¬l.K a
def iy.C(h:iy l)(r:fJ l l.w u):iy {l with w:=u}:= ⟨⟨h.r.c,h.r.Y,h.r.N,λb q=>Ġ (h.r.fw b q) r.r,λa q=>q.elim (λz=>(h.I a z).elim) λz=>(h.M a z).elim,λa q=>(h.k a q).elim⟩,h.d,h.q,h.N,h.I,h.M,h.k⟩
def jc(vQ:Ñ->Í->Prop)(l:ff)(g:Ċ):Prop:=
 iy l->g.status=.running->∀(a:Loc->Prop) (H:Nat) (J:Jd) (c:Nat->Nat) (b:Nat->ff) (E:Array Ċ) (sl:Option (Nat×Nat)) (t:ż),vS a H l->fy.rX À a H J .fD c b E l.w t->(b 0).d=0->E[0]?=Â g->sG vQ E l.w sl t
def arY{a:ff}(h:vS zX i l)(k:qW l a l.w a.w):vS zX i a:= ⟨h.r,λb c x d q=>by
  rcases k.N b c with z|z
  .exact h.ft b z x d q
  .have:=h.r x q;have:=h.C;omega,Ì h.C k.r⟩
def Ux{J f:Jd}{e:Nat->ff}(a:iy l)(h:g.status=.running)(j:vS zX i l)(c:fy.rX À zX i J .fD D e E l.w t)(m:(e 0).d=0)(n:E[0]?=Â g)(W:fy.fl À Î f l g):∃T,fy.rX À zX i f T D (fy.vt e l) E l.w t:=by let⟨T,o⟩:=jl W;exact⟨T,kH.Y c m n h U a.d a.q a.N a.I a.M a.k (λb q=>⟨a.r.fw b<|È q,j.ft b q⟩) o⟩
def abU{Y:Nat->Prop}{J:Jd}{a:Nat->ff}(c:kH À Y zX i J .fD D a E w t):∃g,E[0]?=Â g/\J {a 0 with w:=w} g:=by
 obtain⟨g0,b⟩:∃g,E[0]?=Â g:=⟨_,å c.C⟩;let⟨d,e,f,_,_⟩:=c.r.C 0 g0 b;obtain rfl:g0=d:=by cases f;rfl
 exact⟨g0,b,e w<|c.r.r.r 0 c.C⟩
def IJ(vQ:Ñ->Í->Prop):Jd:=λl g=>iy l/\g.status=.running/\jc vQ l g
def arZ{b:Nat->ff}{T:gB}(m:(b 0).w=w)(n:vS zX i (b 0))(c:fy.rX À zX i (IJ vQ) T D b E w t):sG vQ E w sl t:=by let⟨N,o,p,f,w',e,qJ,r,_,a,j⟩:=kH.G (λl g h=>È h.2.1) T _ D b E w sl t U c;let⟨v,q,h,s,u⟩:=abU j;refine sG.r r ⟨a.C,a.I⟩<|u h s zX i (IJ vQ) o p f e qJ ?_ j h.d q;apply arY n;rw[m];exact⟨a.r,a.N,a.c,a.S,a.b,a.k,a.jZ,a.M,a.Y,a.C,a.I,a.d⟩
def pU(W:fy.fl À Î (IJ vQ) l g):jc vQ l g:=by intro b d i H J j k E sl t a c e f;let⟨T,h⟩:=Ux b d a c e f W;exact arZ (by rw[fy.Sn]) (by rwa[fy.Sn]) h
def ar0(W:fy.fl À Î (Uw À vQ) l g):jc vQ l g:=by intro b d s H J i u E sl t j c k m;let⟨T,n⟩:=Ux b d j c k m W;let⟨N,o,p,f,w',e,qJ,r,_,a,q⟩:=kH.G (λl g h=>È h.1) T _ i _ E l.w sl t U n;exact sG.r r ⟨a.C,a.I⟩<|kH.arX _ o p f w' e qJ U q
def Ae.N{e:vY}{R:Nat}{kd:Nat->Int}{f:List fM}{c:ff}(h:Ae X e R kd f l i v c)(r:fJ c c.w u):Ae X e R kd f l i v {c with w:=u}:=by have a:=λb q=>r.I b<|È q;let⟨V,j,g⟩:=h.Y;exact⟨λb q=>⟨(h.M b q).1,(a b (h.M b q).1).trans (h.M b q).2⟩,⟨h.r.1,λp k=>(gN<|a i h.r.1).trans<|h.r.2 p k⟩,⟨V,j.r λb q=>a b (g b q).1,g⟩,h.d,h.q,h.S,h.C,(gN<|a i h.r.1).trans h.I.1,(wV<|a i h.r.1).trans h.I.2⟩
def ar1{kd:Nat->Int}{bt:vY}{V0 h:Nat->Prop}{s0:List fM}{B:Option û}{I:Option û}{R:Nat}{C:Ē}{z:Array ĝ} (Hp:0<R->I=Â ⟨j7,0,Á⟩) (vM:0<R->l.M j7) (Hq:∀i,i<R->l.w.cell? ⟨j7,i,Á⟩=Â (Ã<|Â ⟨D i,0,Á⟩)) (Hr:∀i,i<R->l.w.cell? ⟨D i,4,Á⟩=Â (Å É<|kd i)) (K:Iz l bt kd D R X) (hZ:(∀b,X b->h b)/\∀b,b=1\/b=2\/b=3\/b=4->h b) (hZO:∀b,h b->l.O b) (hVZ:∀b,V0 b->h b) (B1:RD s0 (Ç B j j9) V0 l.w) (hn:1<=n) (hs:n+R<1000) (hJ:∀o v p m c,iy o->Ae h bt R kd s0 l v (Ç p m c) o->jc vQ o (G (C.at (y.put ((z[i]?).bind (·.dst))<|ë #[Ç (Â ⟨v,0,Á⟩) R R,Ç p m c])<|Ð z jJ::L) qX)): jc vQ l (Ek (Ç B j j9) (Ç I R j6) n<|C.at y (Ð z (i::jJ)::L)::qX):=by
 intro s hr jm H J lv lot E sl t MC c hd P;have W:fy.fl À Î (Lf kd D R n (Ç B j j9) l<|C.at y (Ð z (i::jJ)::L)::qX) l (Ek (Ç B j j9) (Ç I R j6) n<|C.at y (Ð z (i::jJ)::L)::qX):= ajE s.r s.q s.d Z Hp vM Hq (λi P=>È<|K.ft _<|K.r i P) Hr λg S o u x F v T V Y bw bf v1 h1 h2=>⟨g,S,u,x,F,v,T,V,Y,bw,bf,v1,h1,h2,U⟩;let⟨T,c'⟩:=Ux s hr MC c hd P W;let⟨N,jz,HL,f,w',e,qJ,r,_,x,c''⟩:=kH.G (λlx gx S=>by obtain⟨_,_,_,_,_,_,_,_,_,_,_,_,_,_,rfl⟩:=S;exact È U) T _ lv _ E l.w sl t U c';apply sG.r r ⟨x.C,x.I⟩;let⟨N2,ar2,V,T2,Lg,Sv,gs2,w2,Lh,t2,r2,io2,c2⟩:=aqc (J:=λu V o F=>vS u V o/\IJ vQ o F) U c'' e s.r s.N s.q s.d MC K hZ hZO hVZ B1 ⟨x.C,x.I⟩ hn hs λEs H' o v p m c Y z2 u=> .fD λw₁ F=>by have ll:iy o:=⟨z2,u.d,u.q,u.S,u.C.1,u.C.2.1,u.C.2.2⟩;exact⟨⟨Y.r,Y.ft,Ì Y.C F.r⟩,ll.C F,U,hJ _ v p m c (ll.C F)<|u.N F⟩
 apply sG.r r2 ⟨io2.1.trans x.C.symm,io2.2.trans x.I.symm⟩;let⟨N3,Ta,ar3,gs3,w3,sl3,t3,r3,_,wn3,c3⟩:=kH.G (λlx gx S=>È S.2.2.1) T2 _ Lg Sv gs2 w2 Lh t2 U c2;apply sG.r r3 ⟨wn3.C,wn3.I⟩;let⟨g3,Uy,pZ,S,hr3,hs3⟩:=abU c3;exact hs3 S hr3 ar2 V _ Ta ar3 gs3 sl3 t3 pZ c3 S.d Uy
end
end Go.Proofs.Y.kt
namespace Go.Proofs.Y.kt
open Go Go.Conc Go.Proofs Go.RowKit Go.Proofs.Y.Lift Go.Proofs.Y.gp Go.Proofs.Y.fy Go.Proofs.Y.mO
open Go.Conc.Lib Go.ConcR.Gen Go.Proofs.YtgpphkdoanciiabGreatDoor
def toTx(t:PT):Tx:=⟨(t.c.getD 0 0).toNat,(t.c.getD 1 0).toNat,t.c.getD 2 0,t.c.getD 3 0,t.c.getD 4 0,t.p⟩
def toQn(r:PR):Qn:=⟨(r.c.getD 0 0).toNat,(r.c.getD 1 0).toNat,(r.c.getD 2 0).toNat,(r.c.getD 3 0).toNat,r.c.getD 4 0,r.c.getD 5 0,r.c.getD 6 0,(r.c.getD 7 0).toNat⟩
def o5:PR:=⟨[],[]⟩
def wo(a:List PR):vY where
 r:=λp=>((a.getD p o5).c.getD 5 0,((a.getD p o5).c.getD 0 0).toNat,(a.getD p o5).r.map toTx)
 C:=λp=>toQn<|a.getD p o5
def kU(a:List PR)(p:Nat):Int:=(a.getD p o5).c.getD 4 0
section
variable{p:PR}{t:PT}{a:Nat}{rs:List PR}{l:ff}
theorem toTx_ok(h:oc t):(toTx t).Ok:=by have d:=h.c.r 0 A;have e:=h.c.r 1 A;have a:=h.c.r 2 A;have b:=h.c.r 3 A;simp only[lO]at d e a b;exact⟨by show(t.c.getD 0 0).toNat<8;omega,by show(t.c.getD 1 0).toNat<8;omega,a.1,a.2,b.1,b.2,h.p⟩
theorem Ai(a:0<=c)(h:w.cell? ⟨b,i,Á⟩=Â (Å É c)):w.cell? ⟨b,i,Á⟩=Â (Å É (c.toNat:Nat)):=by grind
theorem ar4(h:oc t)(k:IH a t w):mb a (toTx t) w:=by have b:=h.c.r 0 A;have d:=h.c.r 1 A;simp only[lO]at b d;exact⟨k.r,Ai b.1<|k.c 0 A,Ai d.1<|k.c 1 A,k.c 2 A,k.c 3 A,k.c 4 A,k.p⟩
theorem ar5(h:uY p)(k:yi i p w):Cs i (p.c.getD 5 0) (p.c.getD 0 0).toNat (p.r.map toTx) w:=by
 have e:=h.c.r 0 A;simp only[lO]at e;let⟨f,n,g,l,m,o⟩:=k.b;let⟨r,s,u⟩:=wE (R:=λj t (y:Nat×Tx)=>y.2=toTx t/\∃d,f=Â ⟨d,0,Á⟩/\w.cell? ⟨d,j,Á⟩=Â (Ã<|Â ⟨y.1,0,Á⟩)/\IH y.1 t w) p.r 0 λj t v=>by let⟨d,a,y,q,x⟩:=o j t v;simp_all
 refine⟨f,n,g,r,⟨Ai e.1<|k.c 0 A,k.c 5 A,l⟩,⟨by rw[m,s],λj a t q=> ?_⟩,?_,by have:=h.n;omega⟩
 .let⟨x,z,y,d,D,B,C⟩:=u j (a,t) q;simp only at y B C;subst y;have E:=h.C x<|ç z;grind [ar4,toTx_ok]
 .refine Ŕ λj=> ?_;unfold lM;grind
def ar6(h:uY p)(k:yi i p w):Ix i (toQn p) w:=by have a:=h.c.r 0 A;have b:=h.c.r 1 A;have d:=h.c.r 2 A;have e:=h.c.r 3 A;have f:=h.c.r 7 A;simp only[lO]at a b d e f;exact⟨Ai a.1<|k.c 0 A,Ai b.1<|k.c 1 A,Ai d.1<|k.c 2 A,Ai e.1<|k.c 3 A,k.c 4 A,k.c 5 A,k.c 6 A,Ai f.1<|k.c 7 A⟩
def abV(h:uY p)(k:p.c.getD 4 0≠1):(toQn p).Ok:=by
 have d:=h.c.r 0 A;have e:=h.c.r 1 A;have f:=h.c.r 2 A;have g:=h.c.r 3 A;have i:=h.c.r 4 A;have a:=h.c.r 5 A;have b:=h.c.r 6 A;have j:=h.c.r 7 A;simp only[lO]at d e f g i a b j;refine⟨?_,?_,?_,?_,?_,?_,a.1,b.1,?_⟩
 .show(p.c.getD 0 0).toNat<8;omega
 .show(p.c.getD 1 0).toNat<8;omega
 .show(p.c.getD 2 0).toNat<1000000;omega
 .show(p.c.getD 3 0).toNat<18446744073709551616;omega
 .show 2<=p.c.getD 4 0;omega
 .show p.c.getD 4 0<=9;omega
 .show(p.c.getD 7 0).toNat<16;omega
theorem ar7(h:RQ rs v X l.w)(k:∀i∈rs,uY i)(B:mB l.w)(C:∀b,b=1\/b=2\/b=3\/b=4->l.O b)(m:∀b,X b->l.O b): ∃d e f g,v=Ç d rs.length e/\(0<rs.length->d=Â ⟨f,0,Á⟩)/\(0<rs.length->l.O f)/\(∀a,a<rs.length->l.w.cell? ⟨f,a,Á⟩=Â (Ã<|Â ⟨g a,0,Á⟩))/\(∀a,a<rs.length->l.w.cell? ⟨g a,4,Á⟩=Â (Å É<|kU rs a))/\Iz l (wo rs) (kU rs) g rs.length X:=by
 obtain⟨o,D,rfl,E⟩:=h.M;have p:∀a,a<rs.length->rs[a]?=Â (rs.getD a o5):=λa d=>by simp[Ğ,d]
 have r:=λa d=>ç<|p a d;obtain⟨f,s⟩:∃f,∀a,a<rs.length->o=Â ⟨f,0,Á⟩:=by
  by_cases e:0<rs.length
  .let⟨j,i,q,_⟩:=E 0 _<|p 0 e;exact⟨j,λ_ _=>q⟩
  .simp_all
 have F:∀a,∃i,a<rs.length->l.w.cell? ⟨f,a,Á⟩=Â (Ã<|Â ⟨i,0,Á⟩)/\yi i (rs.getD a o5) l.w:=λa=>by grind
 let⟨g,j⟩:=Classical.axiomOfChoice F;have u:=λe=>by have:=h.I;rw[s 0 e]at this;exact Cr this
 refine⟨o,D,f,g,U,λe=>s 0 e,λe=>m _<|u e,λa d=>(j a d).1,λa d=>(j a d).2.c 4 A,B,C,h.C,m,λa d=>(Cq<|h.C.r (u Z) (j a d).1),λa d y=> ?_,λa d y=> ?_⟩
 .have q:=k _<|r a d;have e:=q.c.r 0 A;have z:=q.c.r 5 A;simp only[lO]at e z;refine⟨ar5 q (j a d).2,?_,z.1,λt G=> ?_,?_⟩
  .show((rs.getD a o5).c.getD 0 0).toNat<8;omega
  .obtain⟨x,H,rfl⟩:=Ú.1 G;exact toTx_ok<|q.C x H
  .show((rs.getD a o5).r.map toTx).length<=1000;rw[ù];have:=q.n;omega
 .have q:=k _<|r a d;exact⟨ar6 q (j a d).2,abV q y⟩
end
theorem Uz:(∀r∈(ik B).2.2,uY r)/\(ik B).2.2.length<=24:=by
 unfold ik;split
 .grind
 .split
  .unfold lP;split
   .grind
   .have:=(Uq B.size 0 nO (Up B)<|Ù _).1.d;exact⟨this.G,this.C⟩
  .grind
def k9(rs:List PR)(s:List fM):List ByteArray:=(ĳ rs.length).map λp=>vZ (wo rs) (kU rs) p<|pO (wo rs) (gZ (kU rs) rs.length) s<|fN (kU rs) p
def wq(rs:List PR)(s:List fM):List fM:=pO (wo rs) (gZ (kU rs) rs.length) s<|fN (kU rs) rs.length
def nQ(s:List fM)(B:ByteArray):ByteArray×Int×List fM:=
 if(ik B).1=0 then(jB ⟨#[59]⟩<|k9 (ik B).2.2 s,0,wq (ik B).2.2 s)else(⟨#[]⟩,(ik B).1,s)
section
variable{b:Ē}{k:List Item}{l:ff}{a:Ĉ}
def abW{md:Ŀ}(I:Array Bool->Ĉ->ff->Prop) (p:∀c a l i m,I c a l->i∈ä md Q c->(∀f g,I (c.setIfInBounds i Î) f g->jc vQ g (G (b.at f<|Ð Q m::k) qX))->jc vQ l (G (b.at a<|Ð Q (i::m)::k) qX)) (n:∀c a l,I c a l->c.size=Q.size->ä md Q c=[]->jc vQ l (G (b.at a<|Ð Q []::k) qX)): ∀(d t:Nat) (c:Array Bool) (a:Ĉ) (l:ff),c.size=Q.size->jr c<=d->I c a l->jc vQ l (G (b.at a<|Ð Q (ć md Q d t c [])::k) qX):=by
 intro d
 induction d with
 |zero=>
  intro t c a l e q h;simpa[ć]using n c a l h e<|Q6 e Z
 |succ d r=>
  intro t c a l e q h;simp only[ć];change jc vQ l (G (b.at a (Ð Q (match(ä md Q c)[t%(ä md Q c).length]? with
   |some i=>ć md Q d (t/(ä md Q c).length) (c.setIfInBounds i Î) [i]
   |none=>[].reverse)::k)) qX)
  cases j:(ä md Q c)[t%(ä md Q c).length]? with
  |none=>
   have s:ä md Q c=[]:=by
    cases u:ä md Q c with
    |nil=>rfl
    |cons x o=>
     rw[u]at j;have v:t%(x::o).length<(x::o).length:=Nat.mod_lt _ fq;simp at j;simp at v;omega
   simpa using n c a l h e s
  |some i=>
   simp only[];rw[linearise_go_acc,List.reverse_singleton,List.singleton_append];have o:=ç j;refine p c a l i _ h o λf g s=>(r _ _ f g (by simpa using e) (by have:=Ku (Α.1 o).1;omega) s)
def ar8{id:Nat}(I:Array Bool->Ĉ->ff->Prop)(e:iy l) (j:∀f,fJ l l.w f->I (ũ Q.size Ë) a {l with w:=f}) (m:∀g c a l i n,I c a l->i∈ä g Q c->(∀o p,I (c.setIfInBounds i Î) o p->jc vQ p (G (b.at o<|Ð Q n::k) qX))->jc vQ l (G (b.at a<|Ð Q (i::n)::k) qX)) (s:∀g c a l,I c a l->c.size=Q.size->ä g Q c=[]->jc vQ l (G (b.at a<|Ð Q []::k) qX)): jc vQ l (G (b.at a<|ax (.region id Q Î)::k) qX):=by
 refine pU (.mk U λf r=>⟨_,_,_,_,stepG_region_draw,Q5 (mI e.r.r r) e.q,.fD λt d=> ?_⟩);have h:=r.fh ⟨d.r,d.I,d.N,d.Y,d.S⟩;refine⟨e.C h,U,?_⟩;unfold Region.schedule;split
 .exact abW I (m _) (s _) _ _ _ _ _ fq (by rw[DN];exact æ _)<|j t h
 .exact abW I (m _) (s _) _ _ _ _ _ fq (by rw[DN];exact æ _)<|j t h
def ar9{I:Ĉ->ff->Prop}(W:fy.fl À Î (λa d=>∃c,d=G (b.at c<|Ð Q jJ::k) qX/\I c a) l g)(f:∀c a,I c a->iy a)(i:∀c a,I c a->jc vQ a (G (b.at c<|Ð Q jJ::k) qX)):jc vQ l g:= pU (W.fQ λa d h=>by obtain⟨c,rfl,e⟩:=h;exact⟨f c a e,U,i c a e⟩)
def CF{f:FuncId}{fn:Func}(xs:List Value)(n:Nat)(hf:Tryz.prog.funcs[f]?=some fn)(hb:fn.body=some (lX fn []):=by kernel_rfl)(hn:fn.ntmps=xs.length+n:=by kernel_rfl):Frame.enter Tryz.prog f xs.toArray .normal=(base f).at ⟨(xs++List.replicate n undef).toArray,[]⟩ [.code<|lX fn []]:=by rw[enter_at _ hf hb,hn,ř,Nat.add_sub_cancel_left,show xs.toArray++ũ n ĸ=(xs++Ą n ĸ).toArray from Array.ext' fq]
def Aj{J:Jd}{f:Ξ}{args:Array Ñ}(d:Q[i]?=Â o)(e:đ o (Θ Q a.tmps)=Î)(g:b.kind≠.early)(h:ko l) (j:∀w,(ś a.eval o).run À w=.ok (.enter f args) w) (m:∀w,(ś a.eval o).events À w #[]=#[]) (n:∀c,fJ l l.w c->fy.fl À Î J {l with w:=c} (G (è À f args ă)<|b.at a (Ð Q (i::jJ)::k)::qX)): fy.fl À Î J l (G (b.at a<|Ð Q (i::jJ)::k) qX):=by refine .mk U λc r=>⟨G (è À f args ă)<|b.at a (Ð Q (i::jJ)::k)::qX,c,#[],{l with w:=c},?_,PE c<|mI h r,n c r⟩;rw[stepG_enter d e g<|j c];unfold ay;rw[m c,seen_none]
def CG{f:Ξ}{args:Array Ñ}(e:iy l)(j:Q[i]?=Â o)(m:đ o (Θ Q a.tmps)=Î)(n:b.kind≠.early) (p:∀w,(ś a.eval o).run À w=.ok (.enter f args) w) (q:∀w,(ś a.eval o).events À w #[]=#[]) (s:∀d,fJ l l.w d->jc vQ {l with w:=d} (G (è À f args ă)<|b.at a (Ð Q (i::jJ)::k)::qX)): jc vQ l (G (b.at a<|Ð Q (i::jJ)::k) qX):= pU (Aj j m n e.r.r p q λd r=> .fD λg c=>by have h:fJ l l.w g:=r.fh ⟨c.r,c.I,c.N,c.Y,c.S⟩;exact⟨e.C h,U,s g h⟩)
def jK.zx{c:ff}(e:iy l)(h:jK l c)(m:c.d=l.d):iy c:=by
 have g:∀b,¬c.I b:=by rw[h.I];exact e.N
 have f:∀a,¬c.r a:=by rw[h.N];exact e.I
 have i:∀a,¬c.N a:=by rw[h.S];exact e.M
 have j:∀a,¬c.K a:=by rw[h.K];exact e.k
 exact⟨⟨λb _=>g b,λa q=>(f a q).elim,λa q=>q.elim (λz=>(f a z).elim) λz=>(i a z).elim,λb q=>q.elim (λz=>h.fw b z) λz=>(g b z).elim,λa q=>q.elim (λz=>(f a z).elim) λz=>(i a z).elim,λa q=>(j a q).elim⟩,m.trans e.d,by rw[h.q];exact e.q,g,f,i,j⟩
end
def IK:ĝ:=⟨Â 21,.move<|ň 0,25, "attic.go:46",#[],Á⟩
def IL:ĝ:=⟨Â 22,.nilCheck<|ň 21,0, "attic.go:46",#[⟨0,ĉ⟩],Á⟩
def IN:ĝ:=⟨Â 23,.fieldAddr 59 (ň 22) 1,0, "attic.go:46",#[⟨1,ĉ⟩],Á⟩
def IP:ĝ:=⟨Â 24,.load 56<|ň 23,56, "attic.go:46",#[⟨2,ĉ⟩],Á⟩
def IQ:ĝ:=⟨Â 25,.move<|ň 6,51, "attic.go:46",#[],Á⟩
def IT:ĝ:=⟨Â 26,.move<|ň 0,25, "attic.go:46",#[],Á⟩
def IU:ĝ:=⟨Â 27,.nilCheck<|ň 26,0, "attic.go:46",#[⟨5,ĉ⟩],Á⟩
def IV:ĝ:=⟨Â 28,.fieldAddr 59 (ň 27) 0,0, "attic.go:46",#[⟨6,ĉ⟩],Á⟩
def IW:ĝ:=⟨Â 29,.load 3<|ň 28,3, "attic.go:46",#[⟨7,ĉ⟩],Á⟩
def yj:ĝ:=⟨Â 30,.call {callee:=.value<|.func 20,args:=#[ň 24,ň 25,ň 29],argTypes:=#[56,51,3]},57, "attic.go:46",#[⟨3,ĉ⟩,⟨4,ĉ⟩,⟨8,ĉ⟩],Á⟩
def Ak:ĝ:=⟨Â 20,.move<|ň 30,57, "attic.go:46",#[⟨9,ĉ⟩],Á⟩
def CH:ĝ:=⟨Â 31,.extract (ň 20) 0,54, "attic.go:46",#[⟨10,ĉ⟩],Á⟩
def CI:ĝ:=⟨Â 32,.extract (ň 20) 1,56, "attic.go:46",#[⟨10,ĉ⟩,{on:=13,ground:=Ground.gcOnly Departure.lateStores}],Á⟩
def CJ:ĝ:=⟨Â 9,.assign<|ň 31,54, "attic.go:46",#[⟨11,ĉ⟩,⟨9,.chain⟩,⟨0,ñ⟩,⟨1,ñ⟩,⟨2,ñ⟩,⟨3,ñ⟩,⟨4,ñ⟩,⟨5,ñ⟩,⟨6,ñ⟩,⟨7,ñ⟩,⟨8,ñ⟩,⟨9,ñ⟩,⟨10,ñ⟩,⟨11,ñ⟩,{on:=12,ground:=Ground.textOnly Departure.lateStores}],Á⟩
def CK:ĝ:=⟨Â 10,.assign<|ň 32,56, "attic.go:46",#[⟨12,ĉ⟩,⟨13,.chain⟩,⟨0,ñ⟩,⟨1,ñ⟩,⟨2,ñ⟩,⟨3,ñ⟩,⟨4,ñ⟩,⟨5,ñ⟩,⟨6,ñ⟩,⟨7,ñ⟩,⟨8,ñ⟩,⟨9,ñ⟩,⟨10,ñ⟩,⟨11,ñ⟩,⟨12,ñ⟩,⟨13,ñ⟩],Á⟩
def oJ:Array ĝ:=#[IK,IL,IN,IP,IQ,IT,IU,IV,IW,yj,Ak,CH,CI,CJ,CK]
noncomputable def UA:Ο:=lX Tryz.f13 [1,1,1,1]
structure ot(l:ff)(ab n:Nat)(s:List fM)(sl:Ñ)(V:Nat->Prop):Prop where
 r:mB l.w
 C:∀b,b=1\/b=2\/b=3\/b=4->l.O b
 Y:Fs ab n sl l.w
 ft:l.O ab
 I:RD s sl V l.w
 a:∀b,V b->l.O b
 e:¬V ab
 c:1<=n
 d:n<=8
 M:¬(ab=1\/ab=2\/ab=3\/ab=4)
structure MW(l l':ff)(ab n:Nat)(s':List fM)(V:Nat->Prop):Prop where
 vw:∀b,l.O b->b≠ab->l'.O b/\l'.w.heap[b]?=l.w.heap[b]?
 att:∃tu V',ot l' ab n s' tu V'/\∀b,V' b->V b\/(b=1\/b=2\/b=3\/b=4)\/l.w.heap.size<=b
section
variable{l d:ff}{ab:Nat}{s:List fM}{sl:Ñ}{V:Nat->Prop}
def ot.S{a:ff}(h:ot l ab n s sl V)(c:∀b,l.O b->a.O b)(d:∀b,l.O b->a.w.heap[b]?=l.w.heap[b]?)(e:l.w.heap.size<=a.w.heap.size):ot a ab n s sl V:= ⟨h.r.r (Ì h.r.fw e) λb q=>d b<|h.C b q,λb q=>c b<|h.C b q,h.Y.r<|d ab h.ft,c ab h.ft,h.I.r λb q=>d b<|h.a b q,λb q=>c b<|h.a b q,h.e,h.c,h.d,h.M⟩
def ot.N(h:ot l ab n s sl V)(r:fJ l l.w u):ot {l with w:=u} ab n s sl V:=h.S (λ_ q=>q) (λb q=>r.I b<|È q) r.r
def kl(ab:Nat)(n:Nat)(sl rs:Ñ)(x:Value×Value):Nat->Ñ
 |0=>Ã<|Â ⟨ab,0,Á⟩
 |1=>Ã<|Â ⟨ab,0,Á⟩
 |2=>Ã<|Â ⟨ab,1,Á⟩
 |3=>sl
 |4=>rs
 |5=>Ã<|Â ⟨ab,0,Á⟩
 |6=>Ã<|Â ⟨ab,0,Á⟩
 |7=>Ã<|Â ⟨ab,0,Á⟩
 |8=>Å É n
 |9=>ë #[x.1,x.2]
 |10=>ë #[x.1,x.2]
 |11=>x.1
 |12=>x.2
 |13=>x.1
 |14=>x.2
 |_=>ĸ
def wv(d:ff)(V:Nat->Prop)(rs:List PR)(s:List fM)(listed:Array Bool)(x:Value×Value)(l:ff):Prop:=
 iy l/\(listed.getD 9 Ë=Ë->gq fi d l)/\(listed.getD 9 Ë=Î->∃a e p m c,gq fi d a/\x=(Ç (Â ⟨e,0,Á⟩) rs.length rs.length,Ç p m c)/\Ae (λb=>V b\/b=1\/b=2\/b=3\/b=4) (wo rs) rs.length (kU rs) s a e (Ç p m c) l)
def wv.jw{V:Nat->Prop}{a:List PR}{s:List fM}{listed:Array Bool}{x:Value×Value}(h:wv d V a s listed x l)(b:i≠9){w₁:Í}(r:fJ l l.w w₁):wv d V a s (listed.setIfInBounds i Î) x {l with w:=w₁}:=by
 have e:(listed.setIfInBounds i Î).getD 9 Ë=listed.getD 9 Ë:=by simp[Array.getD_eq_getD_getElem?,Array.getElem?_setIfInBounds_ne b]
 refine⟨h.1.C r,λq=> ?_,λq=> ?_⟩
 .rw[e]at q;exact(h.2.1 q).G r
 .rw[e]at q;let⟨f,g,p,m,c,j,k,n⟩:=h.2.2 q;exact⟨f,g,p,m,c,j,k,n.N r⟩
theorem asa{D:Array Ñ}{I:List PR}(J:ot d ab n s sl V)(T:D.size=39)(W:D[0]?=Â (Ã<|Â ⟨ab,0,Á⟩))(Y:D[6]?=Â z) (md:Ŀ) (listed:Array Bool) (a:Ĉ) (l:ff) (i:Nat) (O:List Nat) (hI:II oJ D (kl ab n sl z) (wv d X I s) listed a l) (p:i∈ä md oJ listed) (F:i≠9): fy.fl À Î (λc e=>∃b,e=G ((base 13).at b<|Ð oJ O::L) qX/\II oJ D (kl ab n sl z) (wv d X I s) (listed.setIfInBounds i Î) b c) l (G ((base 13).at a<|Ð oJ (i::O)::L) qX):=by
 let⟨x,g,H⟩:=hI;have t:uC oJ D.size=Î:=by rw[T];decide
 have K:=DR p;have u:=H.1.r.r;have y:=H.1.q;have P:=(g.C A).trans W;have Ft:=(g.C A).trans Y;have B:∀c,fJ l l.w c->wv d X I s (listed.setIfInBounds i Î) x {l with w:=c}:=λc r=>H.jw F r;let⟨fr,mG,_⟩:=J.Y;have early:∀m,m<15->listed.getD m Ë=Ë->(∃e,e∈yj.after/\e.on=m/\za e=Î)->listed.getD 9 Ë=Ë:=λm _ hm ⟨e,h1,h2,h3⟩=>by
  cases q:listed.getD 9 Ë with
  |false=>rfl
  |true=>
   have:=g.N 9 yj e U q h1 h3;rw[h2,hm]at this;cases this
 have kg:oJ.size=15:=A
 rw[kg]at K;have Oe:listed.getD i Ë=Ë:=by have:=(Α.1 p).1;grind
 have S:∀{j v},(∃e,e∈yj.after/\e.on=i/\za e=Î)->#[Å É n,sl][j]?=Â v->hD l ⟨ab,j,Á⟩/\l.w.cell? ⟨ab,j,Á⟩=Â v:=λq h=>by have b:=H.2.1<|early i K Oe q;exact⟨È<|b.M<|È J.ft,(gN<|b.r ab (È J.ft) id).trans<|by simp[à,mG,h]⟩
 match i,K,F with
 |9,_,F=>exact absurd U F
 |0,_,_=>
  exact iq (o:=IK) t g U U p (by k_ne) u y (λc r=>by simp only[kl,IK];go_simp) (λc r e f=>by simp[go_sem,IK,P]at f) B
 |1,_,_=>
  have b:=g.r 0 IK 21 U (il p U U) U;simp only[kl]at b;exact iq (o:=IL) t g U U p (by k_ne) u y (λc r=>by simp only[kl,IL];go_simp) (λc r e f=>by simp[go_sem,IL,b]at f) B
 |2,_,_=>
  have b:=g.r 1 IL 22 U (il p U U) U;simp only[kl]at b;exact iq (o:=IN) t g U U p (by k_ne) u y (λc r=>by simp only[kl,IN];go_simp) (λc r e f=>by simp[go_sem,IN,b]at f) B
 |3,_,_=>
  have b:=g.r 2 IN 23 U (il p U U) U;simp only[kl]at b;let⟨C,E⟩:=S (j:=1) ⟨⟨3,ĉ⟩,by simp[yj],U,U⟩ U;refine iq (o:=IP) t g U U p (by k_ne) u y (λc r=> ?_) (λc r e f=> ?_) B
  .have N:=(C.r r).trans E;simp only[kl,IP];go_simp
  .have N:=(C.r r).trans E;simp[go_sem,IP,b,N]at f;subst f;exact C.C
 |4,_,_=>
  exact iq (o:=IQ) t g U U p (by k_ne) u y (λc r=>by simp only[kl,IQ];go_simp) (λc r e f=>by simp[go_sem,IQ,Ft]at f) B
 |5,_,_=>
  exact iq (o:=IT) t g U U p (by k_ne) u y (λc r=>by simp only[kl,IT];go_simp) (λc r e f=>by simp[go_sem,IT,P]at f) B
 |6,_,_=>
  have b:=g.r 5 IT 26 U (il p U U) U;simp only[kl]at b;exact iq (o:=IU) t g U U p (by k_ne) u y (λc r=>by simp only[kl,IU];go_simp) (λc r e f=>by simp[go_sem,IU,b]at f) B
 |7,_,_=>
  have b:=g.r 6 IU 27 U (il p U U) U;simp only[kl]at b;exact iq (o:=IV) t g U U p (by k_ne) u y (λc r=>by simp only[kl,IV];go_simp) (λc r e f=>by simp[go_sem,IV,b]at f) B
 |8,_,_=>
  have b:=g.r 7 IV 28 U (il p U U) U;simp only[kl]at b;let⟨C,E⟩:=S (j:=0) ⟨⟨8,ĉ⟩,by simp[yj],U,U⟩ U;refine iq (o:=IW) t g U U p (by k_ne) u y (λc r=> ?_) (λc r e f=> ?_) B
  .have N:=(C.r r).trans E;simp only[kl,IW];go_simp
  .simp[go_sem,IW,b,(C.r r).trans E]at f;subst f;exact C.C
 |10,_,_=>
  have b:=g.r 9 yj 30 U (il p U U) U;simp only[kl]at b;exact iq (o:=Ak) t g U U p (by k_ne) u y (λc r=>by simp only[kl,Ak];go_simp) (λc r e f=>by simp[go_sem,Ak,b]at f) B
 |11,_,_=>
  have b:=g.r 10 Ak 20 U (il p U U) U;simp only[kl]at b;exact iq (o:=CH) t g U U p (by k_ne) u y (λc r=>by simp only[kl,CH];go_simp) (λc r e f=>by simp[go_sem,CH,b]at f) B
 |12,_,_=>
  have b:=g.r 10 Ak 20 U (il p U U) U;simp only[kl]at b;exact iq (o:=CI) t g U U p (by k_ne) u y (λc r=>by simp only[kl,CI];go_simp) (λc r e f=>by simp[go_sem,CI,b]at f) B
 |13,_,_=>
  have b:=g.r 11 CH 31 U (il p U U) U;simp only[kl]at b;exact iq (o:=CJ) t g U U p (by k_ne) u y (λc r=>by simp only[kl,CJ];go_simp) (λc r e f=>by simp[go_sem,CJ,b]at f) B
 |14,_,_=>
  have b:=g.r 12 CI 32 U (il p U U) U;simp only[kl]at b;exact iq (o:=CK) t g U U p (by k_ne) u y (λc r=>by simp only[kl,CK];go_simp) (λc r e f=>by simp[go_sem,CK,b]at f) B
end
def asb(x y:Ñ)(n:Nat)(a:List Ē):G (è À 20 #[x,y,Å É n] ă) a=Ek x y n a:=by unfold Ek;rw[enter_at #[x,y,Å É n] ζ (c:=lX Tryz.f20 []) fv];kernel_rfl
section
variable{l g:ff}{s:List fM}{V:Nat->Prop}{d:List PR}
theorem asc{F:Array Ñ}(D:ot g i n s x V)(W:RQ d v X g.w)(M:∀b,X b->g.O b)(Y:∀r∈d,uY r)(Kx:d.length<=24)(ht:F.size=39) (md:Ŀ) (listed:Array Bool) (a:Ĉ) (l:ff) (N:List Nat) (hI:II oJ F (kl i n x v) (wv g (λb=>V b\/X b) d s) listed a l) (B:9∈ä md oJ listed) (hn:∀P E,II oJ F (kl i n x v) (wv g (λb=>V b\/X b) d s) (listed.setIfInBounds 9 Î) P E->jc vQ E (G ((base 13).at P<|Ð oJ N::L) qX)): jc vQ l (G ((base 13).at a<|Ð oJ (9::N)::L) qX):=by
 let⟨t,y,Q⟩:=hI;have Oe:=(Α.1 B).1;have h9s:9<listed.size:=by grind
 have H:listed.getD 9 Ë=Ë:=by grind
 have e24:a.tmps[24]?=Â x:=y.r 3 IP 24 U (il B U U) U;have e25:a.tmps[25]?=Â v:=y.r 4 IQ 25 U (il B U U) U;have e29:a.tmps[29]?=Â (Å É n):=y.r 8 IW 29 U (il B U U) U;have late:∀(S:Value×Value) j,listed.getD j Ë=Î->kl i n x v S j=kl i n x v t j:=λS j u=>by
  have c:listed.getD 10 Ë=Ë:=by
   cases q:listed.getD 10 Ë with
   |false=>rfl
   |true=>exact absurd (y.N 10 Ak ⟨9,ĉ⟩ U q (by simp[Ak]) U)<|by rw[H];decide
  have e:listed.getD 11 Ë=Ë:=by
   cases q:listed.getD 11 Ë with
   |false=>rfl
   |true=>exact absurd (y.N 11 CH ⟨10,ĉ⟩ U q (by simp[CH]) U)<|by rw[c];decide
  have h:listed.getD 12 Ë=Ë:=by
   cases q:listed.getD 12 Ë with
   |false=>rfl
   |true=>exact absurd (y.N 12 CI ⟨10,ĉ⟩ U q (by simp[CI]) U)<|by rw[c];decide
  have m:listed.getD 13 Ë=Ë:=by
   cases q:listed.getD 13 Ë with
   |false=>rfl
   |true=>exact absurd (y.N 13 CJ ⟨11,ĉ⟩ U q (by simp[CJ]) U)<|by rw[e];decide
  have p:listed.getD 14 Ë=Ë:=by
   cases q:listed.getD 14 Ë with
   |false=>rfl
   |true=>exact absurd (y.N 14 CK ⟨12,ĉ⟩ U q (by simp[CK]) U)<|by rw[h];decide
  match j with
  |9=>rw[H]at u;cases u
  |10=>rw[c]at u;cases u
  |11=>rw[e]at u;cases u
  |12=>rw[h]at u;cases u
  |13=>rw[m]at u;cases u
  |14=>rw[p]at u;cases u
  |0|1|2|3|4|5|6|7|8=>rfl
  |j+15=>rfl
 refine CG (f:=20) (args:=#[x,v,Å É n]) Q.1 (o:=yj) U (Kw U _) (by k_ne) (λw=> ?_) (λw=> ?_) λw₁ r=> ?_
 .simp only[yj];go_simp
 .exact ô U ζ U U #[]
 have z:=(Q.2.1 H).G r;have C:=D.S (λb q=>z.O b q) (λb q=>z.r b (È q) id) z.I;have T:=λb q=>z.O b<|M b q;obtain⟨ra,cr,rb,rq,rfl,Hp,vM,Hq,Hr,ready⟩:=ar7 (W.r λb q=>z.r b (È<|M b q) id) Y C.r C.C T;obtain⟨I,J,K,rfl⟩:∃I J K,x=Ç I J K:=by let⟨_,_,_,⟨I,J,K,e,_⟩,_⟩:=D.I;grind
 rw[asb];refine ar1 Hp (λh=>È<|vM h) Hq Hr ready ⟨λb q=>È<|Ï q,λb q=>Ï q⟩ (λb q=>q.elim (λq=>q.elim (C.a b)<|T b)<|C.C b) (λb q=>È<|È q) C.I D.c (by have:=D.d;omega) λE e p m c h hT=> ?_;refine hn _ E ⟨(Ç (Â ⟨e,0,Á⟩) d.length d.length,Ç p m c),(y.YK<|late _).fS (by rw[ht];decide) U B λ_=>rfl,h,λq=> ?_,λ_=>⟨_,e,p,m,c,z,U,hT⟩⟩;simp_all
end
section
variable{l o l4:ff}{ab:Nat}{s:List fM}{sl:Ñ}{V:Nat->Prop}{rs:List PR}
structure abX(l l4:ff)(ab n:Nat)(s:List fM)(sl:Ñ)(V:Nat->Prop)(rs:List PR)(an:Nat)(tu:Ñ):Prop where
 r:∀b,l.O b->l4.O b/\l4.w.heap[b]?=l.w.heap[b]?
 fw:nB<=l4.w.heap.size
 C:l4.O an/\vd an (k9 rs s) l4.w/\kX l4.w an=Â (0,0)
 HJ:∃V',RD (wq rs s) tu V' l4.w/\(∀b,V' b->l4.O b)/\¬V' ab/\∀b,V' b->V b\/(b=1\/b=2\/b=3\/b=4)\/l.w.heap.size<=b
def ase{kd:Nat->Int}(h:∀p,p<rs.length->w.cell? ⟨i,p,Á⟩=Â (Ä<|vZ (wo rs) (kU rs) p<|pO (wo rs) (gZ (kU rs) rs.length) s<|fN (kU rs) p))(d:w.cell? ⟨i,rs.length,Á⟩=Á):vd i (k9 rs s) w:=by refine⟨λp x a=> ?_,by unfold k9;simpa using d⟩;unfold k9 at a;rw[Ī]at a;obtain⟨q,e,rfl⟩:=ò.1 a;let⟨b,c⟩:=Õ.1 e;simp at b c;subst c;exact h p b
def UB:(k9 rs s).length=rs.length:=by simp[k9]
def asf:nB<=5:=by show À.globals.size<=5;decide+kernel
def asg{f:ff}{p:Option û}(d:ot l ab n s sl V)(t:gD l)(u:∀b,X b->l.w.heap.size<=b)(v:∀b,l.O b->o.O b/\o.w.heap[b]?=l.w.heap[b]?)(x:l.w.heap.size<=o.w.heap.size)(y:gD l4)(e:gq fi o f)(a:Ae (λb=>(V b\/X b)\/b=1\/b=2\/b=3\/b=4) (wo rs) rs.length (kU rs) s f i (Ç p m j) l4):abX l l4 ab n s sl V rs i (Ç p m j):=by
 have g:∀b,l.O b->l4.O b/\l4.w.heap[b]?=l.w.heap[b]?:=λb q=>by let⟨z,h⟩:=v b q;let⟨k,r⟩:=a.M b<|e.O b z;exact⟨k,r.trans<|(e.r b (È z) id).trans h⟩
 refine⟨g,?_,⟨a.r.1,ase (kd:=kU rs) a.r.2 a.I.1,a.I.2⟩,?_⟩
 .have:=y.fw 4<|È (g 4<|d.C 4 A).1;have:=asf;omega
 .let⟨h,B,k⟩:=a.Y;have r:∀b,h b->V b\/(b=1\/b=2\/b=3\/b=4)\/l.w.heap.size<=b:=λb q=>by
   rcases(k b q).2 with((z|z)|z)|z
   .exact È z
   .exact Ï<|Ï<|u b z
   .exact Ï<|È z
   .exact Ï<|Ï<|Ì (Ì x e.I) z
  refine⟨h,B,λb q=>(k b q).1,λq=> ?_,r⟩;rcases r ab q with z|z|z
  .exact d.e z
  .exact d.M z
  .have:=t.fw ab<|È d.ft;omega
def ash{f:ff}{p:Option û}(d:ot l ab n s sl V)(h:abX l l4 ab n s sl V rs i (Ç p m j))(E:gD l4)(g:∀b,l4.O b->f.O b)(r:∀b,l4.O b->f.w.heap[b]?=(l4.w.setCell ⟨ab,1,Á⟩<|Ç p m j).heap[b]?)(v:l4.w.heap.size<=f.w.heap.size):MW l f ab n (wq rs s) V:=by
 let⟨x,y,t,u,z⟩:=h.HJ;have k:∀b,l4.O b->b≠ab->f.w.heap[b]?=l4.w.heap[b]?:=λb q e=>(r b q).trans<|lu (a:=⟨ab,1,Á⟩) e;have o:=h.r ab d.ft;refine⟨λb q e=>⟨g b (h.r b q).1,(k b (h.r b q).1 e).trans (h.r b q).2⟩,Ç p m j,x,⟨?_,λb q=>g b (h.r b<|d.C b q).1,?_,g ab o.1,y.r λb q=>k b (t b q) λe=>u<|e▸q,λb q=>g b<|t b q,u,d.c,d.d,d.M⟩,z⟩
 .exact d.r.r (Ì h.fw v) λb q=>(k b (h.r b<|d.C b q).1 λe=>d.M<|e▸q).trans (h.r b<|d.C b q).2
 .let⟨B,C,D⟩:=d.Y;refine⟨B,?_,D⟩;rw[r ab o.1];unfold Ż;simp[Ķ,o.2,C]
def asi{J:Jd}(b:ko l)(d:fy.fl À Î J l (G (f.at (y.put ((Q[i]?).bind (·.dst))<|Ä ⟨#[]⟩)<|Ð Q jJ::L) qX)): fy.fl À Î J l (G (è À 21 #[Ç O 0 j,Ä B] ă)<|f.at y (Ð Q (i::jJ)::L)::qX):=by
 have hF:True:=trivial;rw[CF [_,_] 73 ē];simp only[Ą,Đ,ę];conv in lX _ _=>whnf
 apply gl (n:=60) b;repeat w_go fC
 u_in fC hF
 refine Ŧ (t:=4) U U ē U ⟨by u_nil,?_⟩;refine ï λ_ _=> ?_;exact d
def vd.I{w':Í}{xs:List ByteArray}(h:vd i xs w)(k:w'.heap[i]?=w.heap[i]?):vd i xs w':= ⟨λp x a=>CB k<|h.r p x a,by have:=h.C;simp only[à,k]at this|-;exact this⟩
def asj{xs:List ByteArray}(g:mB w)(h:vd i xs w):lA i=Ë:=by
 have b:∀e,MA i e w->False:=λe ⟨c,o,j,_,_,d,l⟩=>by
  have f:w.cell? ⟨i,0,Á⟩=Â c[0]:=by simp only[à,j,ö,ì,if_false];exact å d
  rcases ģ xs.length with q|q
  .have a:=h.C;rw[q,f]at a;cases a
  .have a:=h.r 0 _<|Ó q;let⟨k,n,m⟩:=l c[0]<|î.2<|Ă d;rw[f,m]at a;cases a
 cases q:lA i with
 |false=>rfl
 |true=>
  unfold lA at q;simp at q;rcases q with rfl|rfl
  .exact(b _ g.I).elim
  .exact(b _ g.C).elim
def jK.asl(a:ko l)(r:fJ l l.w u):jK l {l with w:=u}:=⟨λ_ q=>q,λ_ q=>È q,U,U,U,U,U,r,mI a r⟩
def asn{a:Ĉ}{xs:List ByteArray}(b:iy l)(j:nB<=l.w.heap.size)(h:vd n xs l.w)(m:l.O n)(o:lA n=Ë)(p:kX l.w n=Â (0,0))(s:xs.length<=1000){N:Nat}(t:xs.length=N)(u:B.size=1)(v:iN xs+xs.length<=140737488355328): fy.fl À Î (λc g=>jK l c/\c.d=l.d/\g=G (f.at (a.put ((Q[i]?).bind (·.dst))<|Ä<|jB B xs)<|Ð Q jJ::L) qX) l (G (è À 21 #[Ç (Â ⟨n,0,Á⟩) N N,Ä B] ă)<|f.at a (Ð Q (i::jJ)::L)::qX):=by
 subst t;rcases ģ xs.length with e|e
 .have x:=Ý e;subst x;exact asi b.r.r<|.fD λy r=>⟨jK.asl b.r.r r,U,U⟩
 .refine(arV b.r b.q j h e (È m) o p s u v Î _ qX).fQ ?_;rintro c g ⟨r,x,rfl⟩;exact⟨r,x,by rw[Ě]⟩
def aso{N:Array Ñ}{cf:Ē}(C:ot l ab n s sl V)(El:gD l)(UC:∀b,X b->l.w.heap.size<=b)(hl:∀b,l.O b->o.O b/\o.w.heap[b]?=l.w.heap[b]?)(kg:l.w.heap.size<=o.w.heap.size)(Kx:rs.length<=24)(sV:iN (k9 rs s)+rs.length<=140737488355328)(ht:N.size=39)(ht0:N[0]?=Â (Ã<|Â ⟨ab,0,Á⟩)) (hJ:∀P,iy P->MW l P ab n (wq rs s) V->jc vQ P (G (cf.at (y.put ((Q[i]?).bind (·.dst))<|ë #[Ä<|jB ⟨#[59]⟩<|k9 rs s,Å É 0])<|Ð Q jJ::L) qX)) (md:Ŀ) (listed:Array Bool) (a:Ĉ) (l4:ff) (hI:II oJ N (kl ab n sl v) (wv o (λb=>V b\/X b) rs s) listed a l4) (H:listed.size=oJ.size) (I:ä md oJ listed=[]): jc vQ l4 (G ((base 13).at a<|Ð oJ []::[ax UA])<|cf.at y (Ð Q (i::jJ)::L)::qX):=by
 have hF:True:=trivial;let⟨x,D,g,_,hS⟩:=hI;have J:∀i∈ĳ 15,listed.getD i Ë=Î:=by
  cases md
  .exact qh I H (ĳ 15) [] fZ λi c=>by cases c
  .exact λi c=>qh I H [0,1,2,3,4,5,6,7,8,9,10,11,13,12,14] [] fZ (λi c=>by cases c) i (by have:=ŵ.1 c;revert i;decide)
  .exact qh I H (ĳ 15) [] fZ λi c=>by cases c
 obtain⟨l1,r,p,m,c,k1,rfl,hT⟩:=hS<|J 9 A;have h:=asg (rs:=rs) C El UC hl kg g.r k1 hT;let⟨F,ds⟩:=a;obtain rfl:ds=[]:=D.S;have S:F[0]?=Â (Ã<|Â ⟨ab,0,Á⟩):=(D.C A).trans ht0;have T:F[9]?=Â (Ç (Â ⟨r,0,Á⟩) rs.length rs.length):=D.r 13 CJ 9 U (J 13 A) U;have W:F[10]?=Â (Ç p m c):=D.r 14 CK 10 U (J 14 A) U;have Hw:F.size=39:=D.M.trans ht;clear D J hS hT k1 I H;obtain⟨u,rfl⟩:=zg F Hw;simp only[List.getElem?_toArray,Ī,List.getElem?_range,Nat.reduceLT,ā,Ô]at S T W;simp only[ĳ,List.range.loop,List.map,S,T,W];clear S T W Hw;let⟨fr,mG,hfr⟩:=C.Y;let⟨MX,hab⟩:=h.r ab C.ft;have Y:l4.w.heap[ab]?=Â (Û #[Å É n,sl] 59 (0,0)):=by rw[hab,mG,hfr]
 have c1:l4.w.cell? ⟨ab,1,Á⟩=Â sl:=by simp[à,Y]
 have z1:l4.w.frozen? ⟨ab,1,Á⟩=Ë:=by simp[World.frozen?,Y]
 have BH:=g.q;apply pU;apply gl (n:=20) g.r.r;conv in UA=>whnf
 iterate 7 w_go fC
 refine ï λ_ _=> ?_;apply G7 (p:=ab) (off:=1) (v:=Ç p m c) (u:=sl) U U (by k_ne) g.r.r BH MX c1 z1 U (λw z B=>by go_simp) (λw z B=>by simp[go_sem,events_store _ _ _ _ _ _ (show Value.oneCell' (Ç p m c)=Î from rfl),z,B]);have k5:=KF (X:=λb=>b=ab) (p:=ab) (w':=l4.w.setCell ⟨ab,1,Á⟩<|Ç p m c) g.r (fJ.fX _ _) MX U fy.j4 λj hj=>fy.lu hj;have rW:=k5.N g.r;have auS:(l4.w.setCell ⟨ab,1,Á⟩<|Ç p m c).heap.size=l4.w.heap.size:=fy.j4;have uE:iy ({l4 with w:=l4.w.setCell ⟨ab,1,Á⟩ (Ç p m c)}:ff):=⟨rW,g.d,g.q,g.N,g.I,g.M,g.k⟩;have c0:l4.w.cell? ⟨ab,0,Á⟩=Â (Å É n):=by simp[à,Y]
 have asq:r≠ab:=λe=>by
  rcases ģ (k9 rs s).length with q|q
  .have z:=h.C.2.1.C;rw[q,e,c0]at z;cases z
  .have B:=h.C.2.1.r 0 _<|Ó q;rw[e,c0]at B;cases B
 have abY:(l4.w.setCell ⟨ab,1,Á⟩<|Ç p m c).heap[r]?=l4.w.heap[r]?:=fy.lu (a:=⟨ab,1,Á⟩) asq;have T8:=h.C.2.1.I abY;have Br:kX (l4.w.setCell ⟨ab,1,Á⟩<|Ç p m c) r=Â (0,0):=(wV abY).trans h.C.2.2;have asr:lA r=Ë:=asj (C.r.r h.fw λb q=>(h.r b<|C.C b q).2) h.C.2.1;have hlen:(k9 rs s).length=rs.length:=UB;apply gl (n:=20) rW.r;iterate 4 w_go fC
 refine ï λ_ _=> ?_;refine Aj (f:=21) (args:=#[Ç (Â ⟨r,0,Á⟩) rs.length rs.length,Ä ⟨#[59]⟩]) U fZ (by k_ne) rW.r (λw=>by go_simp) (λw=>ô U ē U U #[]) λw₁ E=> ?_;have Ft:=uE.C E;have asu:vd r (k9 rs s) w₁:=T8.I<|E.I r<|È h.C.1;refine fy.fl.lS ?_ (asn (xs:=k9 rs s) Ft (Ì (by rw[fy.j4];exact h.fw) E.r) asu h.C.1 asr ((wV<|E.I r<|È h.C.1).trans Br) Z hlen U Z);rintro K g6 ⟨M,hd,rfl⟩;have Fu:iy K:=jK.zx Ft M hd;have hk6:∀b,l4.O b->K.w.heap[b]?=(l4.w.setCell ⟨ab,1,Á⟩<|Ç p m c).heap[b]?:=λb q=>(M.r.I b<|È q).trans<|E.I b<|È q;have hs6:l4.w.heap.size<=K.w.heap.size:=by have z:=M.r.r;have B:=E.r;have h3:(l4.w.setCell ⟨ab,1,Á⟩<|Ç p m c).heap.size=l4.w.heap.size:=fy.j4;exact Ì (Nat.le_of_eq h3.symm)<|Ì B z
 have B:∀b,l4.O b->K.O b:=λb q=>M.O b q;generalize jB ⟨#[59]⟩ (k9 rs s)=ans at*;walk_nrm;apply gl (n:=20) Fu.r.r;repeat w_go fC
 u_in fC hF
 refine η (t:=4) (u:=5) U U Ł U ⟨by u_nil,?_⟩;refine ï λ_ _=> ?_;refine .fD λwS z=>⟨Fu.C z,U,hJ _ (Fu.C z)<|ash C h g.r B (λb q=>(z.I b<|È<|B b q).trans<|hk6 b q)<|Ì hs6 z.r⟩
end
section
variable{l:ff}{s:List fM}
theorem asv{e:ff}{c:Nat->Prop}{g:List PR}(B:ot l j n s v X)(C:gD l)(D:ot e j n s v X)(k:iy e)(W:RQ g z c e.w)(Y:∀b,c b->e.O b)(hok:∀r∈g,uY r)(E:g.length<=24)(F:∀b,c b->l.w.heap.size<=b)(H:∀b,l.O b->e.O b/\e.w.heap[b]?=l.w.heap[b]?)(I:l.w.heap.size<=e.w.heap.size)(J:iN (k9 g s)+g.length<=140737488355328)(t:d.size=39)(u:d[0]?=Â (Ã<|Â ⟨j,0,Á⟩))(K:d[6]?=Â z) (M:∀h,iy h->MW l h j n (wq g s) X->jc vQ h (G (f.at (y.put ((Q[i]?).bind (·.dst))<|ë #[Ä<|jB ⟨#[59]⟩<|k9 g s,Å É 0])<|Ð Q jJ::L) qX)): jc vQ e (G ((base 13).at ⟨d,[]⟩<|ax (.region 4 oJ Î)::[ax UA])<|f.at y (Ð Q (i::jJ)::L)::qX):=by
 refine ar8 (II oJ d (kl j n v z)<|wv e (λb=>X b\/c b) g s) k (λa x=> ?_) (λm o a l i jJ p N P=> ?_) λm o a l p S T=> ?_
 .refine⟨(ĸ,ĸ),mW.G _ _ _,k.C x,λ_=>(gq.fX k.r.r).G x,λq=> ?_⟩;exact absurd q A
 .by_cases V:i=9
  .grind [asc]
  .exact ar9 (asa D t u K m o a l i jJ p N V) (λN h q=>by let⟨x,_,q⟩:=q;exact q.1) P
 .exact aso B C F H I E J t u M m o a l p S T
def abZ(p:iy l)(r:ot l j n s v X)(I:B.size<=ī)(J:(ik B).1=0->iN (k9 (ik B).2.2 s)+(ik B).2.2.length<=140737488355328) (t:∀z,iy z->MW l z j n (nQ s B).2.2 X->jc vQ z (G (f.at (y.put ((Q[i]?).bind (·.dst))<|ë #[Ä (nQ s B).1,Å É (nQ s B).2.1])<|Ð Q jJ::L) qX)): jc vQ l (G (è À 13 #[Ã<|Â ⟨j,0,Á⟩,Ä B] ă)<|f.at y (Ð Q (i::jJ)::L)::qX):=by
 have hF:=trivial;rw[CF [_,_] 37 Ł];simp only[Ą,Đ,ę];conv in lX _ _=>whnf
 apply pU;apply gl (n:=20) p.r.r;iterate 8 w_go fC
 refine ï λ_ _=> ?_;refine Aj (f:=19) (args:=#[Ä B]) U fZ (by k_ne) p.r.r (λw=>by go_simp) (λw=>ô U ļ U U #[]) λw₁ m=> ?_;have C:=p.C m;refine fy.fl.lS ?_<|arO C.r C.q (Ì r.r.fw m.r) I Î _ _;rintro u g1 ⟨x,K,a,rfl,M⟩;have g:=jK.zx C x K;have h:∀b,l.O b->u.O b/\u.w.heap[b]?=l.w.heap[b]?:=λb q=>⟨x.O b q,(x.r.I b<|È q).trans<|m.I b<|È q⟩;have F:=Ì m.r x.r.r;rw[Ě];by_cases k:(ik B).1=0
 .have D:nQ s B=(jB ⟨#[59]⟩<|k9 (ik B).2.2 s,0,wq (ik B).2.2 s):=if_pos k;let⟨c,N,E⟩:=M k;have P:=J k;rw[D]at t;obtain⟨S,T⟩:=Uz;rw[k];generalize(ik B).2.2=rs at*;generalize(ik B).2.1=at1 at*;walk_nrm;apply gl (n:=40) g.r.r;repeat w_go fC
  refine ï λ_ _=> ?_;refine .fD λo d=>⟨g.C d,U,?_⟩;have V:=g.C d;have e:∀b,l.O b->({u with w:=o}:ff).O b/\o.heap[b]?=l.w.heap[b]?:=λb q=>⟨(h b q).1,(d.I b<|È (h b q).1).trans (h b q).2⟩;have H:=Ì F d.r;have W:=r.S (λb q=>(e b q).1) (λb q=>(e b q).2) H;have Y:=N.r λb q=>d.I b<|È (E b q).1;have hQ3:=λb q=>(E b q).1;have UC:=λb q=>Ì m.r (E b q).2;exact asv r p.r W V Y hQ3 S T UC e H P U U U t
 .have D:nQ s B=(⟨#[]⟩,(ik B).1,s):=if_neg k;rw[D]at t;have c:((ik B).1 !=0)=Î:=by rwa[bne_iff_ne]
  generalize(ik B).1=er at*;generalize(ik B).2.1=at1 at*;walk_nrm;apply gl (n:=40) g.r.r;repeat w_go fC
  u_in fC hF
  refine η U U Ł U ⟨by u_nil,?_⟩;refine ï λ_ _=> ?_;refine .fD λo d=>⟨g.C d,U,t _ (g.C d) ?_⟩;have e:∀b,l.O b->({u with w:=o}:ff).O b/\o.heap[b]?=l.w.heap[b]?:=λb q=>⟨(h b q).1,(d.I b<|È (h b q).1).trans (h b q).2⟩;exact⟨λb q _=>e b q,v,X,r.S (λb q=>(e b q).1) (λb q=>(e b q).2)<|Ì F d.r,λb q=>È q⟩
end
def UD(a:ByteArray)(c:a.size=1):∀b:List ByteArray,(jB a b).size<=iN b+b.length
 |[]=>Ù _
 |x::r=>by
  show(x.data.toList++nK a r).toArray.size<=_;have d:iN (x::r)=x.size+iN r:=by simp[iN]
  have e:x.data.toList.length=x.size:=by rw[ě];rfl
  simp only[ř,Ø,Mn a c r,d,e,ď];omega
def UE{M:Nat}(a:∀z∈vX,z.size<=M)(b:M<=100)(c:vX.length<=400000):(E8 vX).size<=100000000:=by
 unfold E8;split
 .decide
 .have d:=UD ⟨#[44]⟩ U vX;have e:=E4 vX a;have:M*vX.length<=100*400000:=Ű b c;omega
theorem Fv(i:Nat):(nV i).size<=3:=by
 unfold nV oD;rw[ø];split
 .show 1+1<=3;decide
 .show 1+2<=3;decide
theorem ab0(s:gp.St)(x y:Nat)(k:Int):∀(m i:Nat),i+m<=1000->(oX s x y k i m).size<=20
 |0,i,_=>by unfold oX;decide
 |m+1,i,h=>by
  unfold oX;split
  .exact pI i Z
  .exact ab0 s x y k m (i+1) Z
theorem asw(s t:gp.St):(rj s t 8).length<=400000:=by
 unfold rj;have a:∀l:List Nat,(l.flatMap<|zY s t).length<=18*l.length:=λl=>by
  induction l with
  |nil=>simp
  |cons i l b=>
   rw[List.flatMap_cons,Ø,ď];have:(zY s t i).length<=18:=by unfold zY;grind [Ø,Mi,aaB]
   omega
 grind
theorem asx{i:List (Nat×fM)}{q:Qn}(n:lV (ku i))(ok:q.Ok):(rm i q).size<=100000000:=by
 unfold rm;split
 .grind [Fv]
 .rename_i p o;let⟨b,f,v,w⟩:=n.r _<|Ú.2 ⟨p,Iq o,U⟩;have j:∀u,u<18446744073709551616->(fH u).size<=100000000:=λu r=>by have:=pI u r;omega
  unfold Cp;split
  .have c:=f.C q.x q.I;exact j _ (by have:=c.1;have:=c.2;omega)
  .split
   .have c:=f.fx q.x;exact j _ (by have:=c.1;have:=c.2;omega)
   .split
    .split
     .grind [Fv]
     .rename_i B;have l:gk (q.k:Int):=⟨Z,by have:=ok.k;omega⟩;have e:=LK p.2.s [] q.x q.y q.g q.k f ok.x ok.y l Z Z (by simp;omega);unfold E5;have C:=e.r;have m:=e.M;have t:=e.I;simp at t;have D:=UD ⟨#[44]⟩ U<|[fH (gf p.2.s [] q.x q.y q.g q.k).C.toNat,fH (gf p.2.s [] q.x q.y q.g q.k).I.toNat,fH (gf p.2.s [] q.x q.y q.g q.k).r.toNat]++(gf p.2.s [] q.x q.y q.g q.k).M.map sw;have E:=E4 (M:=21) ([fH (gf p.2.s [] q.x q.y q.g q.k).C.toNat,fH (gf p.2.s [] q.x q.y q.g q.k).I.toNat,fH (gf p.2.s [] q.x q.y q.g q.k).r.toNat]++(gf p.2.s [] q.x q.y q.g q.k).M.map sw) λz d=>by
       rcases â.1 d with h|h
       .simp at h;rcases h with rfl|rfl|rfl
        .have:=pI (gf p.2.s [] q.x q.y q.g q.k).C.toNat (by cases(gf p.2.s [] q.x q.y q.g q.k).C<;>decide);omega
        .have:=pI (gf p.2.s [] q.x q.y q.g q.k).I.toNat (by have:=m.1;have:=m.2;omega);omega
        .grind [pI]
       .obtain⟨e,a,rfl⟩:=Ú.1 h;exact Mr ((TF p.2.s [] q.x q.y q.g q.k f ok.x ok.y l Z Z (by simp;omega) λ_ q=>by cases q) e a).2
      grind
    .split
     .grind [ab0]
     .split
      .have:=aaQ<|ER p.2.s;have:=aaR<|16-(nL<|ER p.2.s).size;unfold Mv;rw[ø];omega
      .split
       .exact UE (λz d=>by obtain⟨e,a,rfl⟩:=Ú.1 d;exact Mr (b.C e a).2) Z<|by rw[ù];exact b.I
       .split
        .exact UE (λz d=>by obtain⟨e,a,rfl⟩:=Ú.1 d;exact aaK (b.r e a).1 (b.r e a).2) Z (by rw[ù];have:=b.M;omega)
        .split
         .grind [Fv]
         .exact UE (aaS _ _) Z<|asw _ _
theorem asy(a:List (Nat×fM))(v:Int)(x:Nat)(gL:List Tx):(rh a v x gL).2.size<=3:=by
 unfold rh;split
 .exact Fv 3
 .split
  .exact Fv 4
  .split
   .exact Fv 5
   .show(oD a.length).size<=3;unfold oD;split
    .show 1<=3;decide
    .show 2<=3;decide
def asz{s:List fM}{i:Int×Nat×List Tx}(h:lV s)(a:∀t∈i.2.2,t.Ok)(b:i.2.2.length<=1000):lV (Ct s i):= lV.M (by rwa[Iy]) a b
def ab1{a:List PR}{s:List fM}(h:lV s)(b:∀r∈a,uY r):∀k,k<=(gZ (kU a) a.length).length->lV (pO (wo a) (gZ (kU a) a.length) s k)
 |0,_=>h
 |k+1,hk=>by
  have c:a.getD ((gZ (kU a) a.length).getD k 0) o5∈a:=ç (i:=(gZ (kU a) a.length).getD k 0) (by have q:=(HF<|vR (l:=gZ (kU a) a.length)<|show k<_ from hk).1;generalize(gZ (kU a) a.length).getD k 0=j at q;simp[Ğ,q]);have q:=b _ c;refine asz (ab1 h b k Z) (λt d=> ?_) ?_
  .obtain⟨x,t,rfl⟩:=Ú.1 d;exact toTx_ok<|q.C x t
  .show((a.getD _ o5).r.map toTx).length<=1000;rw[ù];have:=q.n;omega
def RZ(kd:Nat->Int):∀{p R:Nat},p<=R->fN kd p<=(gZ kd R).length:=λ{p R} h=>by
 show(gZ kd p).length<=(gZ kd R).length
 induction h with
 |refl=>exact æ _
 |@step R _ ih=>
  by_cases q:kd R=1
  .rw[tq q];simp;omega
  .rwa[vL q]
theorem asA{a:List PR}{s:List fM}(h:lV s)(b:∀r∈a,uY r)(l:a.length<=24):iN (k9 a s)+a.length<=2400000024:=by
 have d:=E4 (M:=100000000) (k9 a s) λz c=>by
  unfold k9 at c;obtain⟨p,e,rfl⟩:=Ú.1 c;have f:=ŵ.1 e;have g:=ab1 h b (fN (kU a) p)<|RZ _ Z;unfold vZ;split
  .grind [Ì,asy]
  .rename_i j;have k:a.getD p o5∈a:=ç (i:=p) (by simp[Ğ,f]);exact asx (by rwa[Iy])<|abV (b _ k) j
 rw[UB]at d;omega
def ab2{s:List fM}(h:lV s):iN (k9 (ik B).2.2 s)+(ik B).2.2.length<=140737488355328:=Ì (asA h Uz.1 Uz.2) A
def IX(c:Int):Int:=if c<0 then(-(c+1))%8 else c%8
def asB(c:Int)(b:-9223372036854775808<=c)(d:c<=9223372036854775807)(w:Í):Ò À 6 #[Å É c,Å É 8] w λe a=>e=Æ (Å É<|IX c)/\a=w:=by
 unfold IX;by_cases h:c<0
 .rw[if_pos h];have e:-(c+1).tmod 8=(-(c+1))%8:=by rw[<-Int.neg_tmod,Int.tmod_eq_emod_of_nonneg Z]
  have H:=fg e.symm;clear e;go_enter Ŷ,θ;go_wp2;go_ret;exact⟨by rw[H.out];rfl,U⟩
 .rw[if_neg h];go_enter Ŷ,θ;go_wp2;go_ret;exact⟨U,U⟩
def UF(a:û)(w:Í):Sem.events À (binOp BinOp.eql 25 (Ã<|Â a)<|Ã Á) w #[]=#[]:=fv
theorem MY{l:ff}(a:iy l)(p:nB<=l.w.heap.size){f:Ξ}{args:Array Ñ}{r:Ñ}(m:Ez f=Î)(s:∀v∈args.toList,fp (qj (λ_=>False) À.globals.size) v v)(t:∀{Y v},fp Y r v->v=r)(x:∀w,Ò À f args w λe y=>e=Æ r/\y=w)(n:Bool)(c:Ē)(i:List Ē): fy.fl À n (λk o=>jK l k/\k.d=l.d/\o=G (c.finish r) i) l (G (è À f args ă)<|c::i):=by
 let⟨E,F,z,B⟩:=zC f m;have C:∀T,Ò À f args (World.tp (ln (λj=>False/\¬(mj l).O j) l.w) T 0) fun|Æ v,j=>v=r/\kn j|_,_=>False:=λT=>by refine(x _).mono ?_;grind [Fa]
 refine((Eu yp Lu zC (λv u T D h=>h) m z B (Ev a.r) a.q (λb q=>q.elim) ⟨λb q=>q.elim,p⟩ (λg q=>by cases q) (pL s) C n c i).mj a.r).fQ ?_;rintro k o ⟨D,⟨Y,j,v,H,_,_,g,rfl,b,_,_,h⟩,rfl,u,_,_,_⟩;rw[t g]at b;exact⟨u,h,b⟩
def UG:ByteArray:=⟨#[98,48,58,97,59,98,48,58,104,59,117,48,59,98,49,58,97]⟩
def asC:(nQ [gp.jM] UG).1=⟨#[49,48,48,48,59,49,48,48,48,59,45,59,33,51]⟩:=fv
def asD:(nQ [gp.jM] UG).2=(0,[gp.jM]):=fv
structure asE(l l':ff)(ab n:Nat)(sl:Ñ)(V:Nat->Prop):Prop where
 asF:ot l' ab n [gp.jM] sl V
 r:∀b,l.O b->l'.O b/\l'.w.heap[b]?=l.w.heap[b]?
 vj:l.w.heap.size<=ab
 auT:∀b,V b->(b=1\/b=2\/b=3\/b=4)\/l.w.heap.size<=b
section
variable{l:ff}
def asG{J:Jd}{s:List fM}(c:iy l)(d:ot l j n s z X)(g:fy.fl À Î J l (G (f.at (y.put ((Q[i]?).bind (·.dst))<|Å É s.length)<|Ð Q jJ::L) qX)): fy.fl À Î J l (G (è À 18 #[Ã<|Â ⟨j,0,Á⟩] ă)<|f.at y (Ð Q (i::jJ)::L)::qX):=by
 have hF:True:=trivial;obtain⟨a,b,rfl⟩:∃a b,z=Ç a s.length b:=by
  let⟨o,h,_,⟨a,k,b,e,_,m⟩,_⟩:=d.I;have:k=s.length:=by rw[m.r,<-h];simp[ku]
  exact⟨a,b,by rw[e,this]⟩
 have o:s.length<=40:=by let⟨_,_,e,_⟩:=d.I;exact e.C
 let⟨p,k,_⟩:=d.Y;have m:l.w.cell? ⟨j,1,Á⟩=Â (Ç a s.length b):=by simp[à,k]
 rw[CF [_] 7 ŧ];simp only[Ą,Đ,ę];conv in lX _ _=>whnf
 refine gl (n:=20) c.r.r ?_;repeat w_go fC
 refine ï λ_ _=> ?_;refine pC (x:=⟨j,1,Á⟩) (v:=Ç a s.length b) U fZ (by k_ne) c.r.r c.q (È<|È d.ft) m (λw h=>by go_simp) (λw h=>by simp[go_sem,h]) ?_;walk_nrm;refine gl (n:=20) c.r.r ?_;repeat w_go fC
 u_in fC hF
 refine Ŧ (t:=2) U U ŧ U ⟨by u_nil,?_⟩;refine ï λ_ _=> ?_;exact g
def asH(j:iy l)(p:mB l.w)(I:∀b,b=1\/b=2\/b=3\/b=4->l.O b)(c:Int)(tY:-9223372036854775808<=c)(Af:c<=9223372036854775807) (hJ:∀J a n K V,iy J->asE l J a n K V->jc vQ J (G (f.at (y.put ((Q[i]?).bind (·.dst))<|Ã<|Â ⟨a,0,Á⟩)<|Ð Q jJ::L) qX)): jc vQ l (G (è À 12 #[Å É c] ă)<|f.at y (Ð Q (i::jJ)::L)::qX):=by
 have hF:True:=trivial;rw[CF [_] 36 ι];simp only[Ą,Đ,ę];conv in lX _ _=>whnf
 apply pU;apply gl (n:=20) j.r.r;repeat w_go fC
 refine ï λ_ _=> ?_;refine Aj (f:=6) (args:=#[Å É c,Å É 8]) U fZ (by k_ne) j.r.r (λw=>by go_simp) (λw=>ô U Ŷ U U #[]) λw₁ r=> ?_;have T:=j.C r;refine fy.fl.lS ?_ (MY T (Ì p.fw r.r) fZ (λv h=>by simp at h;rcases h with rfl|rfl<;>exact .iF _ _) (λh=>by cases h;rfl) (asB c tY Af) Î _ _);rintro s g1 ⟨u,hd,rfl⟩;obtain⟨z,hz,H4,Er⟩:∃z,IX c=z/\0<=z/\z<8:=⟨_,U,by unfold IX;split<;>omega,by unfold IX;split<;>omega⟩;rw[hz];have M:iy s:=jK.zx T u hd;have x:∀b,l.O b->s.O b/\s.w.heap[b]?=l.w.heap[b]?:=λb q=>⟨u.O b q,(u.r.I b<|È q).trans<|r.I b<|È q⟩;have B:l.w.heap.size<=s.w.heap.size:=Ì r.r u.r.r;rw[Ě];walk_nrm;refine gl (n:=20) M.r.r ?_;repeat w_go fC
 refine ï λ_ _=> ?_;have oy:É.wrap (1+z)=1+z:=Ļ _ ⟨Z,Z⟩;refine Aj (f:=17) (args:=#[Å É<|1+z]) U fZ (by k_ne) M.r.r (λw=>by go_simp) (λw=>ô U ε U U #[]) λwS h=> ?_;have N:=M.C h;obtain⟨n,hn⟩:∃n:Nat,1+z=n:=⟨(1+z).toNat,Z⟩;rw[hn];refine fy.fl.lS ?_<|arU N.r N.q (Ì (Ì p.fw B) h.r) (n:=(n:Int)) Z Z Î _ _;rintro d g3 ⟨C,xr,a,K,rfl,mG,MX,hab,V,qV,hnV,W⟩;have g:iy d:=jK.zx N C xr;have k:∀b,l.O b->d.O b/\d.w.heap[b]?=l.w.heap[b]?:=λb q=>⟨C.O b (x b q).1,(C.r.I b<|È (x b q).1).trans<|(h.I b<|È (x b q).1).trans (x b q).2⟩;have X:l.w.heap.size<=d.w.heap.size:=Ì B<|Ì h.r C.r.r;have asI:l.w.heap.size<=a:=Ì B<|Ì h.r hab;have asJ:∀b,b=1\/b=2\/b=3\/b=4->b<l.w.heap.size:=λb q=>j.r.fw b<|È<|I b q;have hin:ot d a n [gp.jM] K V:=⟨p.r (Ì p.fw X) λb q=>(k b<|I b q).2,λb q=>(k b<|I b q).1,mG,MX,qV,λb q=>(W b q).1,hnV,Z,Z,λq=>by have:=asJ a q;omega⟩;have hVn:∀b,V b->l.w.heap.size<=b:=λb q=>Ì B<|Ì h.r (W b q).2;rw[Ě];walk_nrm;apply gl (n:=60) g.r.r;repeat w_go fC
 refine ï λ_ _=> ?_;apply rQ (v:=õ Ë) U fZ (by k_ne) g.r.r g.q (λw _=>by go_simp) (λw _ e m=>by simp[go_sem,UF]at m);walk_nrm;apply gl (n:=60) g.r.r;repeat w_go fC
 refine ï λ_ _=> ?_;refine .fD λY m=>⟨g.C m,U,?_⟩;have uE:=g.C m;have asK:=hin.N m;have P:∀b,l.O b->({d with w:=Y}:ff).O b/\Y.heap[b]?=l.w.heap[b]?:=λb q=>⟨(k b q).1,(m.I b<|È (k b q).1).trans (k b q).2⟩;refine CG (f:=13) (args:=#[Ã<|Â ⟨a,0,Á⟩,Ä ⟨#[98,48,58,97,59,98,48,58,104,59,117,48,59,98,49,58,97]⟩]) uE U fZ (by k_ne) (λw=>by go_simp) (λw=>ô U Ł U U #[]) λasL D=> ?_;change jc vQ _ (G (è À 13 #[Ã<|Â ⟨a,0,Á⟩,Ä UG] ă) _);refine abZ (uE.C D) (asK.N D) A (λ_=>ab2 abS) λl6 E ab3=> ?_;rw[asD]at ab3|-;rw[asC];let⟨Kh,sl6,V6,ab4,hV6⟩:=ab3;have lF:∀b,l.O b->b≠a:=λb q e=>by have:=j.r.fw b<|È q;omega
 have F:∀b,l.O b->l6.O b/\l6.w.heap[b]?=l.w.heap[b]?:=λb q=>by let⟨o,H⟩:=Kh b (P b q).1<|lF b q;exact⟨o,H.trans<|(D.I b<|È (P b q).1).trans (P b q).2⟩
 have hV7:∀b,V6 b->(b=1\/b=2\/b=3\/b=4)\/l.w.heap.size<=b:=λb q=>by
  rcases hV6 b q with z|z|z
  .exact Ï<|hVn b z
  .exact È z
  .exact Ï<|Ì X<|Ì (Ì m.r D.r) z
 walk_nrm;apply pU;apply gl (n:=60) E.r.r;repeat w_go fC
 refine ï λ_ _=> ?_;refine Aj (f:=18) (args:=#[Ã<|Â ⟨a,0,Á⟩]) U fZ (by k_ne) E.r.r (λw=>by go_simp) (λw=>ô U ŧ U U #[]) λEj o=> ?_;apply asG (E.C o) (ab4.N o);have S:=E.C o;have asM:=ab4.N o;walk_nrm;apply gl (n:=60) S.r.r;repeat w_go fC
 u_in fC hF
 refine Ŧ (t:=2) U U ι U ⟨by u_nil,?_⟩;refine ï λ_ _=> ?_;exact .fD λauU H=>⟨S.C H,U,hJ _ a n sl6 V6 (S.C H) ⟨asM.N H,λb q=>⟨(F b q).1,(H.I b<|È (F b q).1).trans<|(o.I b<|È (F b q).1).trans (F b q).2⟩,asI,hV7⟩⟩
end
def asN{t:Tmp}(d:f.kind=ă)(e:y.defers=[])(g:P.funcs[f.fn]?=Â s)(c:s.results=#[.tmp t])(h:P.inits.idxOf? f.fn=Á):stepG P Î (G {f.at y L with mode:=.returning} []) w=.ended (.done<|y.tmps.getD t ĸ) w:=by have i:=results_tmp c y.tmps P w;have j:=events_results_tmp (P:=P) (w:=w) c y.tmps;simp[G,stepG,unwind,doReturn,Frame.at,d,e,g,i,j,h,seen,GStep.after]
def asO{l:ff}(e:jc vQ l g)(a:iy l)(c:g.status=.running):sG vQ #[g] l.w Á #[]:=e a c (λ_=>False) 0 _ _ _ _ Á _ ⟨λx q=>q.elim,λ_ _ _ _ q=>q,Ù _⟩ (arW (P:=À) (J:=λ_ _=>True) (T:=.fD) U a.d a.q a.N a.I a.M a.k (λb q=>a.r.fw b<|È q) c λ_ _=>trivial) a.d U
def ab5(W:Í):ff:={O:=λb=>b<W.heap.size,I:=λ_=>False,r:=λ_=>False,N:=λ_=>False,K:=λ_=>False,d:=0,q:=False,w:=W}
def ab6(W:Í):iy (ab5 W):= ⟨⟨λ_ _=>id,λ_ q=>q.elim,λ_ q=>q.elim (λz=>z.elim) λz=>z.elim,λ_ q=>q.elim id λz=>z.elim,λ_ q=>q.elim (λz=>z.elim) λz=>z.elim,λ_ q=>q.elim⟩,U,id,λ_=>id,λ_=>id,λ_=>id,λ_=>id⟩
structure nS(W w':Í):Prop where
 rC:∀b,b<W.heap.size->w'.heap[b]?=W.heap[b]?
 Dh:W.heap.size<=w'.heap.size
def asP(g:mB W):∀b,b=1\/b=2\/b=3\/b=4->b<W.heap.size:=λb q=>by let⟨c,a,h,_⟩:=g.C;have:=(á.1 h).1;omega
end Go.Proofs.Y.kt
