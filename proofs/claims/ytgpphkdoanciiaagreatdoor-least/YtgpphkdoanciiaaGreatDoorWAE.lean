import Derived.Test.YtgpphkdoanciiaaGreatDoorWAD
import Derived.Lib.Bytealg
import Derived.WalkKit
import Derived.WalkSpells
import Derived.WalkLawsBesides
import Derived.Deep.Light
import Derived.WalkMore
import Derived.Deep.QuietTactic
import Derived.BigQuiet
import Derived.Conc.LeavingOf
import Derived.Conc.CrowdStepC
import Derived.Listen
import Derived.ProofKit
import Derived.Deep.Slices
set_option linter.all false
set_option maxRecDepth 1000000
set_option maxHeartbeats 8000000
open Go.Proofs.Tryz renaming prog->À,ntmps67->í,func67->ó,zeroCells292->ú,ntmps100->û,func100->Ā,func38->ē,results45->Ģ,underlying25->ĩ,func36->ļ,results36->Ľ,func17->Ł,ntmps160->Ŋ,ntmps147->ŋ,ntmps38->Ŏ,func160->Œ,func147->Ŗ,ntmps95->ŗ,ntmps36->Ř,func95->ť,func30->ŧ,func22->Ũ,ntmps123->Ÿ,ntmps101->ż,func123->Δ,func101->Κ,ntmps96->Μ,ntmps45->Ν,ntmps30->Ο,func96->Ω,func45->ε,func35->ζ,func37->η,func15->ι,f38->ai
open Option renaming none->Á,some->Â,bind_eq_some_iff->Ü,bind_eq_bind->ê,map->ð,map_eq_some_iff->ò,isSome_none->ö,pure_def->ā,map_some->Ă,bind_some->ş
open Go.Value renaming pointer->Ã,string->Ä,int->Å,slice->Ç,tuple->ë,bool->õ,cells->Ĺ
open Go.Ending renaming returned->Æ
open Or renaming inl->È,inr->Ï
open Go.IntKind renaming i64->É,u64->ã,wrap_u64->Ć,wrap_i64->ŝ,u8->ū
open And renaming intro->Ê
open Bool renaming false->Ë,true->Î,false_eq_true->ì,eq_iff_iff->Ę
open Nat renaming le_trans->Ì,zero_le->Ø,le_refl->æ,lt_of_lt_of_le->Ġ,eq_zero_or_pos->ģ,zero_add->œ,mul_le_mul->ű
open Go renaming World->Í,Value->Ñ,Calls->Ò,Addr->ü,bodyPost_ret->ÿ,Act->Ĉ,Goroutine->Ċ,TypeId->č,Frame->Ē,Oper->ĝ,TypeInfo->ħ,maxLen->ī,undef->ĸ,results->Ń,execOp->ś,runNT_fst->Ţ,run_underlying->Ů,info_parts->ů,heap_alloc_new->Ŵ,Tape->ŷ,Trace->Ž,runNT->ſ,mem_ready->Β,wp_loop->Γ,wpList_plain->Ε,yielded->Ι,cell_one_new->Λ,FuncId->Ρ,Code->Τ,storeCells->ν,resolve->ρ,builtin->ς,Program->ω,invoke->ar
open Go.Item renaming inRegion->Ð,code->ax
open List renaming getElem?_eq_getElem->Ó,getElem?_eq_some_iff->Õ,length_append->Ù,mem_map->Ú,eq_nil_of_length_eq_zero->Ý,mem_append->â,mem_of_getElem?->ç,setIfInBounds_toArray->é,length_map->ù,set_cons_zero->ý,set_cons_succ->þ,replicate->ą,length_cons->ď,cons_append->Đ,mem_cons_of_mem->Ĕ,getElem?_of_mem->ĕ,append_nil->Ė,nil_append->ę,getElem_of_mem->Ĝ,getD->Ğ,getElem?_append_right->ğ,getElem?_append_left->Ĥ,extract_eq_take_drop->ĥ,mem_or_eq_of_mem_set->Ħ,take_add_one->Ĩ,getElem?_map->Ī,all_eq_true->ĭ,range->ĳ,set_append_right->Ĵ,length_pos_iff->Ņ,map_cons->ŉ,mem_singleton->ō,map_nil->Ő,append_assoc->ő,ext_getElem?->Ŕ,size_toArray->ř,length_take->Ś,map_toArray->Ŝ,mem_flatMap->Ş,length_nil->ũ,mem_range->Ŷ
open Option.some renaming injEq->Ô,inj->ag
open Go.Lib renaming byteCells->Ö,indexByte->Þ,strCells->į,hasPrefix->ź,TabIs->χ
open Go.Obj renaming cells->Û
open Go.Code renaming wp->ß,wp_mono->İ,loop->ń,skip->aj
open Go.World renaming cell?->à,setCell->Ż,drew->ξ,var?->ο
open Array renaming getElem?_eq_some_iff->á,getElem?_eq_getElem->å,mem_toList_iff->î,getElem_mem->ă,length_toList->ě,size_setIfInBounds->Ĭ,getElem?_eq_none->ı,mem_of_getElem?->ĵ,getElem?_modify->Ķ,getElem?_toList->ķ,toList_extract->ĺ,replicate->Ū
open Go.Region renaming ready->ä,wanted->đ,Mode->Ŀ
open Go.Frame renaming enter->è,finish_at->Ě
open Go.Conc.Goes renaming stop->ï
open Go.Ground renaming phase->ñ,data->ĉ
open Go.Conc renaming events_call_body->ô,crowd->Į,goes_leave1->Ŧ,Good->Ξ,goes_leave2->θ,listed->ay
open ByteArray renaming size_append->ø,getElem_eq_getElem_data->ċ,size_extract->Č,data_extract->Ĳ,size->ŭ,data->Ű,extract->σ,mk->aB
open Go.CallKind renaming normal->Ą
open Go.Region.linearise renaming go->ć
open Go.Great renaming wpList_runTo->Ď
open Go.Builtin renaming append_->ė,firstCells->Ō,lenOf->Ź,append->κ,zeroCells->φ
open Go.RowKit.Below renaming heap_setCell->ġ,heap_alloc->Š
open Go.IntWalk renaming i64_in->Ļ,i64_left->š
open Go.Made renaming word->ł,reckonStruct->ŕ,infoAt->ţ,mostCells->Ų,reckon->Χ
open Int renaming toNat_of_nonneg->ņ,le_refl->Ť
open Go.Operand renaming tmp->ň
open Go.Result renaming andThen_ok->ŏ,andThen->ų
variable{i n j b k m J j9 j7 j6:Nat}{w u W jX:Í}{v x z jQ:Ñ}{g:Ċ}{a p:ü}{h c:Int}{e t T:č}{d q:Array Ñ}{P:ω}{y:Ĉ}{B:ByteArray}{X:Nat->Prop}{O:Option ü}{l:List Ñ}{yQ:Bool}{K H:Ĉ->Í->Prop}{o:ĝ}{D:Nat->Nat}{E:Array Ċ}{L:List Go.Item}{jJ:List Nat}{qX:List Ē}{qJ:Ž}{zX:Go.Loc->Prop}{zQ:List Int}{zJ:ħ}{xQ:ŷ}{xJ:Nat×Nat}{vX:List ByteArray}{vQ:Ñ->Í->Prop}{vJ:Go.Exit->Ĉ->Í->Prop}{Q:Array ĝ}{f:Ē}{F:Ρ}{s:Go.Func}
namespace Go.Proofs.Y.fR
open Go Go.Proofs Go.RowKit Go.Proofs.Y.Lift
def CG:Τ->Option Τ
 |ń c=>Â c
 |.seq a b=>match CG b with
  |some c=>Â c
  |none=>CG a
 |.block _ c=>CG c
 |.scope c=>CG c
 |.cond _ a b=>match CG b with
  |some c=>Â c
  |none=>CG a
 |_=>Á
noncomputable def MV:Τ:=(ai.body.bind kv).getD aj
noncomputable def MW:Τ:=(ai.body.bind CG).getD aj
def QE(k:Nat)(X:Ĉ->Í->Prop):Exit->Ĉ->Í->Prop
 |.exit i,a,w=>i=k/\X a w
 |_,_,_=>False
def ly(a:ByteArray)(b:List ByteArray):List UInt8:=b.flatMap λy=>a.data.toList++y.data.toList
def Ft(a:ByteArray):List ByteArray->List UInt8
 |[]=>[]
 |x::r=>x.data.toList++ly a r
def iQ(xs:List ByteArray):Nat:=(xs.map ŭ).sum
def Ur(a b:List ByteArray):iQ (a++b)=iQ a+iQ b:=by simp[iQ]
def aa9(a:List ByteArray)(j:Nat):iQ (a.take j)<=iQ a:=by have h:=Ur (a.take j)<|a.drop j;simp_all
theorem MX(a:ByteArray)(c:a.size=1):∀b:List ByteArray,(ly a b).length=iQ b+b.length
 |[]=>rfl
 |x::r=>by
  have e:ly a (x::r)=(a.data.toList++x.data.toList)++ly a r:=U;have d:a.data.toList.length=1:=by simpa using c
  have f:x.data.toList.length=x.size:=fq
  have g:iQ (x::r)=x.size+iQ r:=by simp[iQ]
  rw[e,Ù,Ù,MX a c r,d,f,g,ď];omega
def Fu(a:Option ü)(n b:Nat)(c:ByteArray)(m i:Int)(u:Nat->Ñ):Ĉ:=⟨#[Ç a n b,Ä c,u 2,u 3,u 4,Å É m,u 6,u 7,u 8,u 9,u 10,u 11,u 12,u 13,u 14,u 15,u 16,u 17,u 18,u 19,u 20,u 21,u 22,u 23,u 24,u 25,u 26,u 27,u 28,u 29,u 30,u 31,u 32,u 33,u 34,u 35,u 36,u 37,u 38,Ç a n b,Å É n,Å É i,u 42,u 43,u 44,u 45,u 46,u 47,u 48,u 49,u 50,u 51,u 52,u 53,u 54,u 55,u 56,u 57,u 58,u 59,u 60,u 61,u 62,u 63,u 64,u 65,u 66,u 67,u 68,u 69,u 70,u 71,u 72,u 73,u 74],[]⟩
def Fv(b:Option ü)(n c:Nat)(d:ByteArray)(m i:Int)(a:Ĉ):Prop:=∃u,a=Fu b n c d m i u
def qN(a:Option ü)(n c b:Nat)(d:ByteArray)(i:Int)(u:Nat->Ñ):Ĉ:=⟨#[u 0,Ä d,u 2,u 3,u 4,u 5,u 6,u 7,Ã<|Â ⟨b,0,Á⟩,u 9,u 10,u 11,u 12,u 13,u 14,u 15,u 16,u 17,u 18,u 19,u 20,u 21,u 22,u 23,u 24,u 25,u 26,u 27,u 28,u 29,u 30,u 31,u 32,u 33,u 34,u 35,u 36,u 37,u 38,u 39,u 40,u 41,u 42,u 43,u 44,u 45,u 46,u 47,u 48,u 49,u 50,u 51,u 52,u 53,u 54,u 55,u 56,u 57,u 58,u 59,u 60,u 61,u 62,Ç a n c,Å É n,Å É i,u 66,u 67,u 68,u 69,u 70,u 71,u 72,u 73,u 74],[]⟩
def Fw(c:Option ü)(n d b:Nat)(e:ByteArray)(i:Int)(a:Ĉ):Prop:=∃u,a=qN c n d b e i u
section
variable{X:Ĉ->Í->Prop}{sep:ByteArray}{xs:List ByteArray}
def apG(u:Nat->Ñ)(m:Int)(b:∀a,Fv O n i sep m n a->X a w): ß À MV (Exit.then K<|QE 1 X) (Fu O n i sep m n u) w:=by
 unfold Fu;conv=>arg 2;whnf
 go_wp2_with fail
 exact⟨U,b _ (gu _)⟩
def apH(u:Nat->Ñ)(m j:Nat)(f:j<n)(g:n<=1000000)(b c:Nat)(e:O=Â ⟨b,c,Á⟩)(x:ByteArray)(h:w.cell? ⟨b,c+j,Á⟩=Â (Ä x))(k:m+x.size<=140737488355328) (d:∀a,Fv O n i sep ((m+x.size:Nat):Int) ((j+1:Nat):Int) a->K a w): ß À MV (Exit.then K<|QE 1 X) (Fu O n i sep m j u) w:=by
 unfold Fu;conv=>arg 2;whnf
 subst e;have H:=fg d;clear d;go_wp2_with fail;exact H.out _ (gu _)
def J1(O:Option ü)(n i:Nat)(sep:ByteArray)(b:Nat)(xs:List ByteArray)(u:Í)(a:Ĉ)(w:Í):Prop:=
 ∃j:Nat,Fv O n i sep ((b+iQ (xs.take j):Nat):Int) j a/\j<=n/\w=u
def J1E(O:Option ü)(n i:Nat)(sep:ByteArray)(b:Nat)(xs:List ByteArray)(u:Í)(a:Ĉ)(w:Í):Prop:=
 Fv O n i sep ((b+iQ xs:Nat):Int) n a/\w=u
def MY(n:Nat)(a:Ĉ)(_:Í):Nat:=match a.tmps.getD 41 ĸ with
 |Å _ i=>n-i.toNat
 |_=>0
def abb(b:Fv O n i sep h j y):MY n y w=n-j:=by obtain⟨u,rfl⟩:=b;show n-(j:Int).toNat=_;simp
theorem apI(r:n=xs.length)(f:n<=1000000)(g:nN O (jw xs) u)(s:j+iQ xs<=140737488355328)(a:Ĉ)(w:Í)(h:J1 O n i sep j xs u a w): ß À MV (Exit.then (λb c=>J1 O n i sep j xs u b c/\MY n b c<MY n a w)<|QE 1<|J1E O n i sep j xs u) a w:=by
 obtain⟨b,d,t,rfl⟩:=h;rw[abb d];obtain⟨c,rfl⟩:=d;by_cases k:b=n
 .subst k;refine apG c _ λa q=>⟨?_,U⟩;grind
 .obtain⟨x,e⟩:∃x,xs[b]?=Â x:=⟨_,Ó Z⟩;let⟨l,m,o,p⟩:=g b (Ä x) (by simp[jw,e]);have v:iQ (xs.take<|b+1)=iQ (xs.take b)+x.size:=by
   rw[Ĩ,e,Ur];simp[iQ]
  have y:=aa9 xs<|b+1;refine apH c _ b Z f l m o x p Z λa q=>⟨⟨b+1,?_,Z,U⟩,by rw[abb q];omega⟩;grind
def apJ(u:Nat->Ñ)(c:∀a,Fw O n i b sep n a->X a w): ß À MW (Exit.then K<|QE 3 X) (qN O n i b sep n u) w:=by
 unfold qN;conv=>arg 2;whnf
 go_wp2_with fail
 exact⟨U,c _ (gu _)⟩
def apK(c:Nat->Ñ)(j:Nat)(y:j<n)(z:n<=1000000)(d f:Nat)(o:O=Â ⟨d,f,Á⟩)(x:ByteArray)(p:u.cell? ⟨d,f+j,Á⟩=Â (Ä x))(l:List UInt8)(g:pd u b (Ö l) w)(q:sep.size=1)(B:l.length+1+x.size<=140737488355328) (r:∀a h,Fw O n i b sep ((j+1:Nat):Int) a->pd u b (Ö<|l++(sep.data.toList++x.data.toList)) h->K a h): ß À MW (Exit.then K<|QE 3 X) (qN O n i b sep j c) w:=by
 unfold qN;conv=>arg 2;whnf
 subst o;have C:=g.r.r p id;have k:=Lib.byteCells_length l;have s:(Ö l++į sep).length=l.length+1:=by rw[Ù,k,Lib.strCells_length,q]
 have E:Ö l++į sep++į x=Ö (l++(sep.data.toList++x.data.toList)):=by simp[Ö,į]
 have H:=fg<|Ê g<|Ê r<|Ê k<|Ê s E;go_wp2_with (first
  |(go_at_call 55;refine(Uq t.out x<|by rw[H.out.2.2.2.1];omega).mono ?_;rintro e D ⟨rfl,m⟩;have v:=fg m;clear m)
  |(go_at_call 55;refine(Uq H.out.1 sep (by rw[H.out.2.2.1];omega)).mono ?_;rintro e D ⟨rfl,m⟩;have t:=fg m;clear m))
 apply H.out.2.1 _ _ (gu _);rw[<-H.out.2.2.2.2];exact v.out
def J2(O:Option ü)(n i b:Nat)(sep:ByteArray)(c:List UInt8)(xs:List ByteArray)(u:Í)(a:Ĉ)(w:Í):Prop:=
 ∃j:Nat,Fw O n i b sep j a/\j<=n/\pd u b (Ö<|c++ly sep (xs.take j)) w
def J2E(O:Option ü)(n i b:Nat)(sep:ByteArray)(c:List UInt8)(xs:List ByteArray)(u:Í)(a:Ĉ)(w:Í):Prop:=
 Fw O n i b sep n a/\pd u b (Ö<|c++ly sep xs) w
def MZ(n:Nat)(a:Ĉ)(_:Í):Nat:=match a.tmps.getD 65 ĸ with
 |Å _ i=>n-i.toNat
 |_=>0
def abd(c:Fw O n i b sep j y):MZ n y w=n-j:=by obtain⟨u,rfl⟩:=c;show n-(j:Int).toNat=_;simp
theorem apL{d:List UInt8}(z:n=xs.length)(h:n<=1000000)(k:sep.size=1)(l:nN O (jw xs) u)(B:d.length+iQ xs+n<=140737488355328)(a:Ĉ)(w:Í)(m:J2 O n i b sep d xs u a w): ß À MW (Exit.then (λc e=>J2 O n i b sep d xs u c e/\MZ n c e<MZ n a w)<|QE 3<|J2E O n i b sep d xs u) a w:=by
 let⟨j,g,C,o⟩:=m;rw[abd g];obtain⟨c,rfl⟩:=g;by_cases p:j=n
 .subst p;refine apJ c λa q=>⟨q,?_⟩;grind
 .obtain⟨x,f⟩:∃x,xs[j]?=Â x:=⟨_,Ó Z⟩;let⟨r,s,t,v⟩:=l j (Ä x) (by simp[jw,f]);have D:iQ (xs.take<|j+1)=iQ (xs.take j)+x.size:=by
   rw[Ĩ,f,Ur];simp[iQ]
  have E:=aa9 xs<|j+1;have y:(d++ly sep (xs.take j)).length=d.length+iQ (xs.take j)+j:=by grind [Ù,MX,Ś]
  have F:ly sep (xs.take<|j+1)=ly sep (xs.take j)++(sep.data.toList++x.data.toList):=by rw[Ĩ,f];simp[ly]
  refine apK c j Z h r s t x v _ o k (by rw[y];omega) λa e q G=>⟨⟨j+1,q,Z,?_⟩,by rw[abd q];omega⟩;grind
end
section
variable{sep:ByteArray}{xs:List ByteArray}
def iI(sep:ByteArray)(xs:List ByteArray):ByteArray:=⟨(Ft sep xs).toArray⟩
def apM:Ò À 38 #[Ç O 0 i,Ä sep] w λe a=>e=Æ (Ä ⟨#[]⟩)/\fe fh w a:=by go_enter ē,Ŏ;go_wp2_with fail;go_ret;exact⟨U,fe.gd _ _⟩
def apN(a b:Nat)(x:ByteArray)(d:w.cell? ⟨a,b,Á⟩=Â (Ä x)):Ò À 38 #[Ç (Â ⟨a,b,Á⟩) 1 i,Ä sep] w λe c=>e=Æ (Ä x)/\fe fh w c:=by go_enter ē,Ŏ;go_wp2_with fail;go_ret;exact⟨U,fe.gd _ _⟩
theorem apO(k:Nat)(K:1<=k)(L:k<1000000)(c d:Nat)(M:k+1<=i)(B:sep.size=1)(x:ByteArray)(g:k=xs.length)(f:nN (Â ⟨c,d,Á⟩) (jw<|x::xs) w)(C:iQ (x::xs)+(k+1)<=140737488355328): Ò À 38 #[Ç (Â ⟨c,d,Á⟩) (k+1) i,Ä sep] w λe b=>e=Æ (Ä<|iI sep<|x::xs)/\fe fh w b:=by
 have D:iQ (x::xs)=x.size+iQ xs:=by simp[iQ]
 have m:∀a,Fv (Â ⟨c,d,Á⟩) (k+1) i sep ((k+iQ ((x::xs).take 0):Nat):Int) (0:Nat) a->ß À (ń MV) (QE 1<|J1E (Â ⟨c,d,Á⟩) (k+1) i sep k (x::xs) w) a w:=λa h=>
  Γ (J1 (Â ⟨c,d,Á⟩) (k+1) i sep k (x::xs) w) (MY<|k+1) ⟨0,h,Ø _,U⟩<|apI (by simp[g]) Z f Z
 have n:nN (Â ⟨c,d+1,Á⟩) (jw xs) w:=λj u E=>by let⟨b,o,z,l⟩:=f (j+1) u (by simpa[jw]using E);grind
 have p:∀a W,Fw (Â ⟨c,d+1,Á⟩) k (i-1) w.heap.size sep (0:Nat) a->pd w w.heap.size (Ö<|x.data.toList++ly sep (xs.take 0)) W->ß À (ń MW) (QE 3<|J2E (Â ⟨c,d+1,Á⟩) k (i-1) w.heap.size sep x.data.toList xs w) a W:=λa W h o=>
  Γ (J2 (Â ⟨c,d+1,Á⟩) k (i-1) w.heap.size sep x.data.toList xs w) (MZ k) ⟨0,h,Ø _,o⟩<|apL g Z B n (by simp only[ě];have:x.data.size=x.size:=rfl;omega)
 let⟨_,_,F,q⟩:=f 0 (Ä x) U;cases F;have r:w.cell? ⟨c,d,Á⟩=Â (Ä x):=q;have s:x.data.toList++ly sep xs≠[]:=by grind [Ù,MX,ũ]
 have N:(1:Int)<9223372036854775807/(k:Int):=by rw[Int.lt_iff_add_one_le,Int.le_ediv_iff_mul_le Z];omega
 have t:0<k+iQ (x::xs)/\k+iQ (x::xs)<=281474976710656:=Z
 have y:(Ö []).length+x.size<=140737488355328:=by simp[Ö];omega
 have H:=fg<|Ê m<|Ê p<|Ê t<|Ê y<|Ê s r;clear m p t y s q r f n g C D;generalize G:iQ (x::xs)=S at*;go_enter ē,Ŏ;go_wp2_with fail;refine İ ?_ (H.out.1 _ (gu _));rintro(_|_|_|_|_|_) a v hq;all_goals first|exact absurd hq id|skip
 obtain⟨rfl,b,rfl⟩:=hq;rw[G]at b;obtain⟨u,rfl⟩:=b;unfold Fu;go_wp2_with (first
  |(go_at_call 54;refine(apE ⟨æ _,fe.gL _ _ _ _,fj.N v [Ã Á,Ç Á 0 0] 109⟩ (k+S) H.out.2.2.1.1 H.out.2.2.1.2).mono ?_;rintro e I ⟨rfl,l⟩;have J:=l.r.r H.out.2.2.2.2.2 id;have z:=fg l;clear l)
  |(go_at_call 55;refine(Uq z.out x H.out.2.2.2.1).mono ?_;rintro e l ⟨rfl,z⟩;have I:=fg z;clear z))
 have J:pd v v.heap.size (Ö<|x.data.toList++ly sep (xs.take 0)) l:=by have:=I.out;show pd v v.heap.size (Ö<|x.data.toList++[]) l;rw[Ė];exact this
 refine İ ?_ (H.out.2.1 _ _ (gu _) J);rintro(_|_|_|_|_|_) a w3 hq;all_goals first|exact absurd hq id|skip
 obtain⟨rfl,b,o⟩:=hq;obtain⟨v,rfl⟩:=b;unfold qN;go_wp2_with (go_at_call 56;refine(apF (fg o).out H.out.2.2.2.2.1).mono ?_;rintro e O ⟨rfl,z⟩;have I:=fg z;clear z);go_ret;exact⟨U,I.out⟩
def Us(a:n=xs.length)(f:n<=1000000)(g:n<=i)(h:sep.size=1)(b:nN O (jw xs) w)(j:iQ xs+n<=140737488355328): Ò À 38 #[Ç O n i,Ä sep] w λe c=>e=Æ (Ä<|iI sep xs)/\fe fh w c:=by
 cases xs with
 |nil=>subst a;exact apM
 |cons x r=>
  let⟨c,d,k,l⟩:=b 0 (Ä x) U;subst k;cases r with
  |nil=>
   subst a;have e:iI sep [x]=x:=by show aB ((x.data.toList++[]).toArray)=x;rw[Ė]
   rw[e];exact apN c d x l
  |cons y r=>
   subst a;exact apO (r.length+1) Z (by simp at f;omega) c d g h x U b j
def apP(a:n=xs.length)(c:n<=1000000)(d:n<=i)(h:nN O (jw xs) w)(f:iQ xs+n<=140737488355328): Ò À 123 #[Ç O n i] w λe b=>e=Æ (Ä<|if xs=[]then⟨#[45]⟩else iI ⟨#[44]⟩ xs)/\fe fh w b:=by
 have H:=fg<|Us (sep:=⟨#[44]⟩) a c d U h f;by_cases b:xs=[]
 .subst b;have e:=a;subst e;rw[if_pos U];clear a f H c d;go_enter Δ,Ÿ;go_wp2_with fail;go_ret;exact⟨U,fe.gd _ _⟩
 .rw[if_neg b];have k:0<n:=by rw[a];exact Ņ.2 b
  have l:((n:Int)==0)=Ë:=by simp;omega
  clear a;generalize iI ⟨#[44]⟩ xs=z at*;go_enter Δ,Ÿ;go_wp2_with (go_at_call 38;apply H.out.mono;rintro e m ⟨rfl,g⟩;have j:=fg g;clear g);go_ret;exact⟨U,j.out⟩
end
def Fy{M:Nat}:∀(a:List ByteArray),(∀z∈a,z.size<=M)->iQ a<=M*a.length
 |[],_=>Ø _
 |x::r,h=>by
  have c:=Fy r λz b=>h z<|Ĕ _ b;have d:=h x fq;have e:iQ (x::r)=x.size+iQ r:=by simp[iQ]
  rw[e,ď,Nat.mul_add];omega
def M0{e:Nat×Int}(h:gp e.2):(oJ e).size<=21:=by unfold oJ;rw[ø];have:=yp e.1;have:=pP e.2.toNat (by have:=h.1;have:=h.2;omega);omega
def abe{e:Int×Bool}(a:0<=e.1)(h:e.1<=400):(Fp e).size<=41:=by unfold Fp;rw[ø,ø];have:=pP e.1.toNat Z;have:=pP e.2.toNat (by cases e.2<;>decide);have:ŭ ⟨#[58]⟩=1:=rfl;omega
section
variable{b:List ByteArray}
def abf{ty:č}{base:Nat}(b:P.underlying t=Â (.slice e))(d:P.info? e=Â zJ)(h:w.ownsRow base e j v n l)(a:Option ü)(c:Nat): (ė #[t,t] ty #[v,Ç a 0 c]).run P w=.ok v w:=by
 have f:(Ō zJ.size 0<|Ç a 0 c).run P w=.ok #[] w:=by cases a<;>simp[Ō,loadCells,loadCellsFrom]
 rcases h.2 with⟨rfl,rfl⟩|⟨g,m,o,rfl,_,_,k,_⟩
 .simp[ė,Ů b,sizeOf,typeInfo,d,Ź,f,ν]
 .simp[ė,Ů b,sizeOf,typeInfo,d,Ź,f,k,ν]
def apQ{r:Array ĝ}{t:List ĝ}(l:o.guard=Á)(s c:Operand) (m:o.op=.call {callee:=.builtin κ,args:=#[s,c],argTypes:=#[25,25]}) (d:il u v vX w) (n:y.eval s=v) {base:Nat} (B:w.ownsRow base 9 1 x b.length (jw b)) (e:y.eval c=x) (I:vX.length+b.length<=1000000) (h:∀j k,il u j (vX++b) k->wpList À r vJ t (y.put o.dst j) k):wpList À r vJ (o::t) y w:=by
 let⟨J,p,D,E,F⟩:=ů Ak;rcases B.2 with⟨f,G⟩|⟨g,H,L,f,_⟩
 .have z:=Ý G;subst z;rw[f]at e;refine Ε l λK i=> ?_;have q:=abf (ty:=o.type) ĩ p d.ft Á 0;unfold Oper.wp ś;simp only[m,ρ,ar,ς,Sem.run_bind,Sem.run_pure,ŏ,Ŝ,ŉ,Ő,n,e,q];exact i _ _<|h v w<|by rwa[Ė]
 .by_cases C:b=[]
  .subst C;rw[f]at e;refine Ε l λK i=> ?_;have q:=abf (ty:=o.type) ĩ p d.ft (Â ⟨g,0,Á⟩) H;unfold Oper.wp ś;simp only[m,ρ,ar,ς,Sem.run_bind,Sem.run_pure,ŏ,Ŝ,ŉ,Ő,n,e,q,ũ];exact i _ _<|h v w<|by rwa[Ė]
  .have K:=Ņ.2 C;refine Ck l s c 25 m ĩ p D E F U n d.ft ⟨g,0,Á⟩ (jw b) (e.trans f) K (by simp[jw]) (B.cells<|by rw[f];rfl) (λi q=>by unfold jw at q;obtain⟨z,_,rfl⟩:=Ú.1 q;rfl) (by unfold ī;omega) Z d.r.M ?_;intro j k z;refine h j k ⟨?_,d.r.C z.r λi M q=> ?_⟩
   .have:=z.ft;rwa[show jw vX++jw b=jw (vX++b) by simp[jw],show vX.length+b.length=(vX++b).length by simp]at this
   .have:=(d.ft.lt i q).1;omega
end
def il.I(h:il u (Ç O n i) vX w):nN O (jw vX) w/\n=vX.length/\n<=i:=by
 rcases h.ft.2 with⟨b,d⟩|⟨g,f,k,b,_,_,d,_⟩
 .cases b;refine⟨λj x e=> ?_,d.symm,æ _⟩;rw[Ý d]at e;cases e
 .have e:n=vX.length:=by injection b
  subst e;injection b with _ _ h4;exact⟨nN.r h.ft,U,by rwa[h4]⟩
def ou(r:uU):ByteArray:=iI ⟨#[44]⟩<|[fy r.C.toNat,fy r.M.toNat,fy r.r.toNat]++r.I.map oJ
theorem apR(x y:Nat)(g k:Int)(b c:Nat)(a:Bool)(f:List (Nat×Int))(L:b<18446744073709551616)(M:c<18446744073709551616)(S:f.length<=400000)(V:ym f)(W:lS w) (T:Ò À 158 #[Ã<|Â ⟨i,0,Á⟩,Å É x,Å É y,Å ã g,Å ã k] w λe h=>∃B,e=Æ (ë #[.agg #[Å ã b,õ a,Å ã c],B])/\h.ownsRow 0 257 2 B f.length (ku f)/\fe fh w h): Ò À 119 #[Ã<|Â ⟨i,0,Á⟩,Å É x,Å É y,Å ã g,Å ã k] w λe h=>e=Æ (Ä<|iI ⟨#[44]⟩<|[fy a.toNat,fy c,fy b]++f.map oJ)/\fe fh w h:=by
 have N:a.toNat<18446744073709551616:=by cases a<;>decide
 have H:=fg<|Ê T<|Ê W V;go_enter Tryz.func119,Tryz.ntmps119;go_wp2_with (go_at_call 158;apply H.out.1.mono;rintro e j ⟨B,rfl,q,d⟩;obtain⟨v,Q,rfl⟩:=jl q;have C:=fg<|Ê d q;clear d q);change ß À _ _ _ (j.alloc<|Û #[Å ã b,õ a,Å ã c] 252);have D:=(fe.gL fh j #[Å ã b,õ a,Å ã c] 252).fi<|fe.fY _ _;have E:=(H.out.2.1.r C.out.1).r D;have o:=(fj.N j [Å ã b,õ a,Å ã c] 252).I (fe.fY fh _) id;have O:=C.out.1.fi D;have X:=ik C.out.2 D λ_ _=>id;refine mC (λh=>h.cell? ⟨j.heap.size,0,Á⟩=Â (Å ã b)/\h.cell? ⟨j.heap.size,1,Á⟩=Â (õ a)/\h.cell? ⟨j.heap.size,2,Á⟩=Â (Å ã c)) [] fw ?_;have l:=fg<|Ê (o.r 0 _ rfl)<|Ê (o.r 1 _ rfl)<|o.r 2 _ rfl;generalize j.heap.size=ob at*;generalize ξ (j.alloc<|Û #[Å ã b,õ a,Å ã c] 252)=w5 at*;iterate 3 apply tk l.out
 apply tk l.out 5;apply tk l.out 6;apply tk l.out 8;apply tk l.out 9;apply tk l.out 10;apply gE 3;intro K d;go_simp;go_at_call 159;refine(Ip _ _).mono ?_;rintro e Y ⟨rfl,rf⟩;subst Y;rw[aa1];apply d.out _ _ λ_=>l.out;apply gE 4;intro K d;go_simp;go_at_call 118;refine(yn a.toNat N _ E).mono ?_;rintro e wa ⟨rfl,p⟩;have r:=o.I p id;have P:=E.r p;apply d.out _ _ λ_=>⟨r.r 0 _ U,r.r 1 _ U,r.r 2 _ U⟩;apply gE 7;intro K d;go_simp;go_at_call 118;refine(yn c M _ P).mono ?_;rintro e wb ⟨rfl,s⟩;have t:=r.I s id;have Pb:=P.r s;apply d.out _ _ λ_=>⟨t.r 0 _ U,t.r 1 _ U,t.r 2 _ U⟩;apply gE 11;intro K d;go_simp;go_at_call 118;refine(yn b L _ Pb).mono ?_;rintro e m ⟨rfl,F⟩;have u:=t.I F id;have n:=u.I (fe.gL fh m #[Ä<|fy a.toNat,Ä<|fy c,Ä<|fy b] 9) id;apply d.out _ _ λ_=>⟨u.r 0 _ U,u.r 1 _ U,u.r 2 _ U⟩;apply gE 12;intro K d;go_simp;apply d.out _ _ λ_=>⟨n.r 0 _ U,n.r 1 _ U,n.r 2 _ U⟩;apply gE 13;intro K d;go_simp;apply d.out _ _ λ_=>⟨n.r 0 _ U,n.r 1 _ U,n.r 2 _ U⟩;refine mf fw ?_ _;have G:fe fh w5 (m.alloc<|Û #[Ä<|fy a.toNat,Ä<|fy c,Ä<|fy b] 9):=((p.fi s).fi F).fi<|fe.gL _ _ _ _;have T6:il w (Ç (Â ⟨m.heap.size,0,Á⟩) 3 3) [fy a.toNat,fy c,fy b] (m.alloc<|Û #[Ä<|fy a.toNat,Ä<|fy c,Ä<|fy b] 9):=⟨World.ownsRow_lit m #[Ä<|fy a.toNat,Ä<|fy c,Ä<|fy b] 3 (Ì O.M ((p.fi s).fi F).M) (by unfold ī;omega) U,O.fi G⟩;have L6:=ik X G λ_ _=>id;have P6:=E.r G;have I:=fg<|Ê T6<|Ê L6 P6;generalize m.alloc (Û #[Ä<|fy a.toNat,Ä<|fy c,Ä<|fy b] 9)=w6 at*;generalize m.heap.size=tb at*;have kq:∀z∈[fy a.toNat,fy c,fy b]++f.map oJ,z.size<=21:=λz hz=>by
  rcases â.1 hz with q|q
  .have h1:=pP a.toNat N;have h2:=pP c M;have v:=pP b L;grind
  .obtain⟨e,v,rfl⟩:=Ú.1 q;exact M0 (H.out.2.2 e v).2
 have sY:=Fy _ kq;have hlen:([fy a.toNat,fy c,fy b]++f.map oJ).length=3+f.length:=by simp;omega
 have J:=fg<|Ê sY hlen;go_wp2_with (first
  |(go_at_call 124;refine(aa0 U S H.out.2.2 I.out.2.2<|nN.r I.out.2.1).mono ?_;rintro e v ⟨lt,rfl,q⟩;obtain⟨ta,tc,rfl⟩:=jl q.ft;rw[ù]at q;have Q:=fg q;clear q)
  |(at_builtin;refine apQ U _ _ U (I.out.1.fP Q.out.r) U Q.out.ft U (by simp;omega) ?_;intro cv w8 v;obtain⟨ca,cc,rfl⟩:=jl v.ft;generalize([fy a.toNat,fy c,fy b]++f.map oJ).length=cn at v|-;have q:=fg v;clear v)
  |(go_at_call 38;refine(Us q.out.I.2.1 (by have:=q.out.I.2.1;rw[this,J.out.2];omega) q.out.I.2.2 U q.out.I.1 (by have:=q.out.I.2.1;have h1:=J.out.1;have h2:=J.out.2;omega)).mono ?_;rintro e w9 ⟨rfl,v⟩;have Q:=fg v;clear v))
 go_ret;exact⟨U,q.out.r.fi Q.out⟩
def apS{s:St}(v:mE i s h w)(b:gM s)(z:iP w)(B:lS w)(x y:Nat)(g k:Int)(c:x<8)(d:y<8)(f:0<=g)(j:g<=100000)(l:gp k): Ò À 119 #[Ã<|Â ⟨i,0,Á⟩,Å É x,Å É y,Å ã g,Å ã k] w λe q=>e=Æ (Ä<|ou<|fX s [] x y g k)/\fe fh w q:=by have T:=aaX v b z x y g k c d f j l _ U;have e:=Ix s [] x y g k b c d l f j (by simp;omega);have m:=Uc s [] x y g k b c d l f j (by simp;omega) (λ_ q=>by cases q);obtain⟨q,o,a,t,p,C⟩:∃q o a t p,fX s [] x y g k=⟨q,o,a,t,p⟩:=⟨_,_,_,_,_,U⟩;rw[C]at T e m|-;have D:=e.C;have E:=e.r;have r:=e.M;have u:=e.I;simp only at D E r u m T;obtain⟨F,rfl⟩:∃n:Nat,q=n:=⟨q.toNat,Z⟩;obtain⟨G,rfl⟩:∃n:Nat,a=n:=⟨a.toNat,by have:=r.1;omega⟩;exact apR x y g k F G o p Z (by have:=r.2;omega) (by simp at u;omega) m B T
def qE(w:Í):Prop:=w.cell? ⟨4,15,Á⟩=Â (Å ū 4)
def qE.r(h:qE w)(k:fe fh w u):qE u:=k.r h id
def apT(c:qE w):Ò À 207 #[Å ã 16] w λe a=>e=Æ (Å É 4)/\a=w:=by
 unfold qE at c;have b:ã.wrap (bits BinOp.and ã 16 (ã.wrap<|-16)*285870213051353865)/288230376151711744=15:=A
 go_enter Tryz.func207,Tryz.ntmps207;go_wp2;go_ret;exact⟨U,U⟩
def tz(c:qE w):Ò À 201 #[Å ã 16] w λe a=>e=Æ (Å É 4)/\a=w:=by go_enter Tryz.func201,Tryz.ntmps201;go_wp2_with (go_at_call 207;refine(apT c).mono ?_;rintro e a ⟨rfl,b⟩;subst a);go_ret;exact⟨U,U⟩
def apU:Ò À 200 #[Å É 16] w λe a=>e=Æ (õ Î)/\a=w:=by
 have b:bits BinOp.and É 16 15=0:=A
 go_enter Tryz.func200,Tryz.ntmps200;go_wp2;go_ret;simp_all
def pQ(d:Nat):UInt8:=if h:d<36 then(⟨#[48,49,50,51,52,53,54,55,56,57,97,98,99,100,101,102,103,104,105,106,107,108,109,110,111,112,113,114,115,116,117,118,119,120,121,122]⟩:ByteArray)[d]'h else 0
def vd:Nat->Nat->List UInt8->List UInt8
 |0,_,acc=>acc
 |k+1,n,acc=>if n<16 then pQ n::acc else vd k (n/16) (pQ (n%16)::acc)
def abg:∀k n a,(vd k n a).length<=k+a.length
 |0,_,a=>by simp[vd]
 |k+1,n,a=>by
  unfold vd;split
  .simp;omega
  .have:=abg k (n/16)<|pQ (n%16)::a;simp at this;omega
noncomputable def M1:Τ:=(Tryz.f190.body.bind kv).getD aj
def Fz(a:Nat)(n i:Int)(u:Nat->Ñ):Ĉ:=⟨#[u 0,Å ã n,Å É 16,õ Ë,õ Ë,u 5,u 6,u 7,u 8,u 9,Ç Á 0 0,u 11,Ã<|Â ⟨a,0,Á⟩,Å É i,Å ã 4,Å ã 16,Å ã 15,u 17,u 18,u 19,u 20,u 21,u 22,u 23,u 24,u 25,u 26,u 27,u 28,u 29,u 30,u 31,u 32,u 33,u 34,u 35,u 36,u 37,u 38,u 39,u 40,u 41,u 42,u 43,u 44,u 45,u 46,u 47,u 48,u 49,u 50,u 51,u 52,u 53,u 54,u 55,u 56,u 57,u 58,u 59,u 60,u 61,u 62,u 63,u 64,u 65,u 66,u 67,u 68,u 69,u 70,u 71,u 72,u 73,u 74,u 75,u 76,u 77,u 78,u 79,u 80,u 81,u 82,u 83,u 84,u 85,u 86,u 87,u 88,u 89,u 90,u 91,u 92,u 93,u 94,u 95,u 96,u 97,u 98,u 99,u 100,u 101],[]⟩
def FA(b:Nat)(n i:Int)(a:Ĉ):Prop:=∃u,a=Fz b n i u
def zc(i:Nat)(a:List UInt8):List Ñ:=ą i (Å ū 0)++Ö a
def abh(i:Nat)(a:List UInt8):(zc i a).length=i+a.length:=by simp[zc,Ö]
theorem abj(i:Nat)(a:List UInt8)(c:UInt8):(zc (i+1) a).set i (Å ū c.toNat)=zc i (c::a):=by unfold zc;rw[List.replicate_succ',ő,Ĵ _ _ fq];simp[Ö]
section
variable{X:Ĉ->Í->Prop}
def apV(u:Nat->Ñ)(n b:Nat)(d:n<16)(c:∀a,FA i n b a->X a w): ß À M1 (Exit.then K<|QE 0 X) (Fz i n b u) w:=by
 unfold Fz;conv=>arg 2;whnf
 go_wp2_with fail
 exact⟨U,c _ (gu _)⟩
def apW(u:Nat->Ñ)(n b:Nat)(g:16<=n)(h:n<18446744073709551616)(j:b<65)(v:Ñ)(c:w.cell? ⟨i,b,Á⟩=Â v)(k:w.frozen? ⟨i,b,Á⟩=Ë) (e:∀a,FA i ((n/16:Nat):Int) b a->K a (w.setCell ⟨i,b,Á⟩<|Å ū (pQ<|n%16).toNat)): ß À M1 (Exit.then K<|QE 0 X) (Fz i n ((b+1:Nat):Int) u) w:=by
 unfold Fz;conv=>arg 2;whnf
 have l:bits BinOp.and ã (n:Int) 15=((n%16:Nat):Int):=by have:=(bits_nat ã 64 A (λn f H=>by rw[Ć];omega) n 15 Z A).1;rwa[show(15:Nat)=2^4-1 from rfl,Nat.and_two_pow_sub_one_eq_mod]at this
 have f:n%16<36:=Z
 have m:(⟨#[48,49,50,51,52,53,54,55,56,57,97,98,99,100,101,102,103,104,105,106,107,108,109,110,111,112,113,114,115,116,117,118,119,120,121,122]⟩:ByteArray)[n%16]'f=pQ (n%16):=by unfold pQ;rw[dif_pos f]
 have H:=fg e;clear e;generalize o:n%16=d at*;go_wp2_with fail;exact H.out _ (gu _)
def XI(i:Nat)(u:Í)(d:List UInt8)(a:Ĉ)(w:Í):Prop:=
 ∃(n b:Nat) (c:List UInt8),FA i n b a/\50<=b/\b+c.length=65/\n<16^(b-49)/\n<18446744073709551616/\fe (λk=>k=i) u w/\fj i (zc b c) 292 w/\vd (b-49) n c=d
def XE(i:Nat)(u:Í)(d:List UInt8)(a:Ĉ)(w:Í):Prop:=
 ∃(n b:Nat) (c:List UInt8),FA i n b a/\n<16/\50<=b/\b+c.length=65/\fe (λk=>k=i) u w/\fj i (zc b c) 292 w/\pQ n::c=d
def M3(a:Ĉ)(_:Í):Nat:=match a.tmps.getD 1 ĸ with
 |Å _ i=>i.toNat
 |_=>0
def abk(b:FA i n j y):M3 y w=n:=by obtain⟨u,rfl⟩:=b;show(n:Int).toNat=_;simp
theorem apX{h:List UInt8}(a:Ĉ)(w:Í)(o:XI i u h a w): ß À M1 (Exit.then (λb c=>XI i u h b c/\M3 b c<M3 a w)<|QE 0<|XE i u h) a w:=by
 let⟨n,b,f,l,p,r,s,t,m,e,d⟩:=o;rw[abk l];obtain⟨c,rfl⟩:=l;obtain⟨j,rfl⟩:∃j,b=j+1:=⟨b-1,Z⟩;have x:j+1-49=(j-49)+1:=Z
 rw[x]at d s;unfold vd at d;by_cases g:n<16
 .rw[if_pos g]at d;exact apV c n (j+1) g λa q=>⟨n,j+1,f,q,g,p,r,m,e,d⟩
 .rw[if_neg g]at d;have y:50<=j:=by
   grind
  have C:(zc (j+1) f).length=65:=by rw[abh];omega
  obtain⟨v,z⟩:∃v,(zc (j+1) f)[j]?=Â v:=⟨_,Ó Z⟩;have B:n/16<16^(j-49):=by grind
  refine apW c n j Z t Z v (e.r j v z) (e.C j) λa q=>⟨⟨n/16,j,pQ (n%16)::f,q,y,by simp;omega,B,Z,m.fi (fe.I (X:=λk=>k=i) U _<|Ï e.G),?_,d⟩,by rw[abk q];omega⟩;have:=e.fV j<|Å ū (pQ<|n%16).toNat;grind [abj]
end
def apY:ú=(zc 65 []).toArray:=fw
def nO(n:Nat):ByteArray:=⟨(vd 16 n []).toArray⟩
theorem apZ(n:Nat)(l:n<18446744073709551616)(o:qE w):Ò À 190 #[Ç Á 0 0,Å ã n,Å É 16,õ Ë,õ Ë] w λe p=>e=Æ (ë #[Ç Á 0 0,Ä<|nO n])/\fe fh w p:=by
 have L:∀a,FA w.heap.size n (65:Nat) a->ß À (ń M1) (QE 0<|XE w.heap.size (w.alloc<|Û ú 292)<|vd 16 n []) a (w.alloc<|Û ú 292):=λa r=>
  Γ (XI w.heap.size (w.alloc<|Û ú 292)<|vd 16 n []) M3 ⟨n,65,[],r,Z,U,by show n<16^16;omega,l,fe.gd _ _,by rw[apY];exact fj.N w (zc 65 []) 292,U⟩ apX
 have H:=fg<|Ê o L;unfold nO;generalize vd 16 n []=res at*;go_enter Tryz.func190,Tryz.ntmps190;go_wp2_with (first
  |(go_at_call 200;refine apU.mono ?_;rintro e b ⟨rfl,c⟩;subst b)
  |(go_at_call 201;refine(tz (H.out.1.r kp)).mono ?_;rintro e b ⟨rfl,c⟩;subst b))
 refine İ (Q:=QE 0<|XE w.heap.size (w.alloc<|Û ú 292) res) ?_ (H.out.2 _ (gu _));rintro(_|_|_|_|_|_) a v hq;all_goals first|exact absurd hq id|skip
 obtain⟨rfl,m,i,c,s,E,F,G,x,b,d⟩:=hq;obtain⟨u,rfl⟩:=s;unfold Fz;obtain⟨j,rfl⟩:∃j,i=j+1:=⟨i-1,Z⟩;have I:(zc (j+1) c).length=65:=by rw[abh];omega
 obtain⟨z,y⟩:∃z,(zc (j+1) c)[j]?=Â z:=⟨_,Ó Z⟩;have J:=b.r j z y;have K:=b.C j;have M:(0:Int)<=(j:Int):=Z
 have N:(j:Int)<65:=Z
 have O:(j:Int)<=65:=Z
 have S:(0:Int)<=(m:Int):=Z
 have T:(m:Int)<36:=Z
 have f:m<36:=Z
 have V:(⟨#[48,49,50,51,52,53,54,55,56,57,97,98,99,100,101,102,103,104,105,106,107,108,109,110,111,112,113,114,115,116,117,118,119,120,121,122]⟩:ByteArray)[m]'f=pQ m:=by unfold pQ;rw[dif_pos f]
 have B:=(fe.gL fh w ú 292).C x λi C q=>by omega
 have g:=b.fV j<|Å ū (pQ m).toNat;rw[abj,d]at g;have D:fe fh w (v.setCell ⟨w.heap.size,j,Á⟩<|Å ū (pQ m).toNat):=B.C (fe.I (X:=λk=>k=w.heap.size) U _<|Ï b.G) λi C q=>by omega
 have W:res.length=65-j:=by rw[<-d];simp;omega
 have Y:(convert 107 9<|Ç (Â ⟨w.heap.size,j,Á⟩) (65-j)<|65-j).run À (v.setCell ⟨w.heap.size,j,Á⟩<|Å ū (pQ m).toNat)=.ok (Ä ⟨res.toArray⟩) (v.setCell ⟨w.heap.size,j,Á⟩<|Å ū (pQ m).toNat):=by have h:=run_convert_bytes_back (P:=À) (v.setCell ⟨w.heap.size,j,Á⟩<|Å ū (pQ m).toNat) 107 9 5 ⟨w.heap.size,j,Á⟩ (65-j) res fw fw fw (λt k=>by rw[Addr.add_mid];apply g.r (j+t) _;unfold zc;rw[ğ fq];simp[Ö,Ó k]);grind
 have k:=fg D;go_wp2;go_ret2;simp_all
def ap0(n:Nat)(b:n<18446744073709551616)(c:qE w):Ò À 172 #[Å ã n,Å É 16] w λe a=>e=Æ (Ä<|nO n)/\fe fh w a:=by go_enter Tryz.func172,Tryz.ntmps172;go_wp2_with (go_at_call 190;refine(apZ n b c).mono ?_;rintro e a ⟨rfl,d⟩);go_ret;exact⟨U,d⟩
def ap1(n:Nat)(b:n<18446744073709551616)(c:qE w):Ò À 157 #[Å ã n,Å É 16] w λe a=>e=Æ (Ä<|nO n)/\fe fh w a:=by go_enter Tryz.func157,Tryz.ntmps157;go_wp2_with (go_at_call 172;refine(ap0 n b c).mono ?_;rintro e a ⟨rfl,d⟩);go_ret;exact⟨U,d⟩
def ap2(s:ByteArray)(w:Í)(h:s.data.toList.head?=Â 48):Ò À 175 #[Ä s,Ä ⟨#[48]⟩] w λe b=>e=Æ (õ Î)/\b=w:=by
 have H:=Tryz.strings_HasPrefix s ⟨#[48]⟩ w;have e:ź s.data.toList (Ű ⟨#[48]⟩).toList=Î:=by
  generalize s.data.toList=l at h;cases l with
  |nil=>cases h
  |cons a r=>cases h;rfl
 rwa[e]at H
def ap3(s:ByteArray)(w:Í)(h:¬s.data.toList.head?=Â 48):Ò À 175 #[Ä s,Ä ⟨#[48]⟩] w λe b=>e=Æ (õ Ë)/\b=w:=by
 have H:=Tryz.strings_HasPrefix s ⟨#[48]⟩ w;have e:ź s.data.toList (Ű ⟨#[48]⟩).toList=Ë:=by
  generalize s.data.toList=l at h;cases l with
  |nil=>rfl
  |cons a r=>
   have c:¬a=48:=λq=>h (by rw[q];rfl);show((48:UInt8)==a&&List.isPrefixOf [] r)=Ë;have:((48:UInt8)==a)=Ë:=beq_eq_false_iff_ne.2 λq=>c q.symm;rw[this];rfl
 rwa[e]at H
def An(k:Nat):ByteArray:=σ ⟨#[48,48,48,48,48,48,48,48,48,48,48,48,48,48,48,48,48,48,48,48,48,48,48,48,48,48,48,48,48,48,48,48,48,48,48,48,48,48,48,48,48,48,48,48,48,48,48,48,48,48,48,48,48,48,48,48,48,48,48,48,48,48,48,48]⟩ 0 k
def ap4(k:Nat)(d:2<=k)(f:k<=64):Ò À 160 #[Ä ⟨#[48]⟩,Å É k] w λe a=>e=Æ (Ä<|An k)/\a=w:=by
 have g:((k:Int)==0)=Ë:=by simp;omega
 have h:((k:Int)==1)=Ë:=by simp;omega
 have i:¬(k:Int)<0:=Z
 have j:(0:Int)<=(k:Int):=Z
 have l:(k:Int)<=64:=Z
 have m:ã.wrap (k:Int)=(k:Int):=by rw[Ć];omega
 have n:É.wrap (k:Int)=(k:Int):=by rw[ŝ];omega
 have M:=Tryz.bits_Mul 1 k A Z w;rw[show 1*k/18446744073709551616=0 by omega,show 1*k%18446744073709551616=k by omega]at M;have c:=fg M;go_enter Œ,Ŋ;go_wp2_with (first
  |(go_at_call 174;refine c.out.mono ?_;rintro e a ⟨rfl,b⟩;subst a)
  |(go_at_call 175;refine(ap3 _ _ A).mono ?_;rintro e a ⟨rfl,b⟩;subst a)
  |(go_at_call 175;refine(ap2 _ _ A).mono ?_;rintro e a ⟨rfl,b⟩;subst a))
 go_ret;exact⟨U,U⟩
def ap5:Ò À 160 #[Ä ⟨#[48]⟩,Å É 0] w λe a=>e=Æ (Ä ⟨#[]⟩)/\a=w:=by go_enter Œ,Ŋ;go_wp2;go_ret;exact⟨U,U⟩
def ap6:Ò À 160 #[Ä ⟨#[48]⟩,Å É 1] w λe a=>e=Æ (Ä ⟨#[48]⟩)/\a=w:=by go_enter Œ,Ŋ;go_wp2;go_ret;exact⟨U,U⟩
def ap7(k:Nat)(a:k<=64):Ò À 160 #[Ä ⟨#[48]⟩,Å É k] w λe b=>e=Æ (Ä<|An k)/\b=w:=by
 match k with
 |0=>exact ap5
 |1=>exact ap6
 |k+2=>exact ap4 (k+2) Z a
def M4(n:Nat):ByteArray:=An (16-(nO n).size)++nO n
def abl(n:Nat):(nO n).size<=16:=by show(vd 16 n []).toArray.size<=16;have:=abg 16 n [];simpa using this
def abm(k:Nat):(An k).size<=k:=by unfold An;rw[Č];omega
def ap8(n:Nat)(c:n<18446744073709551616)(d:qE w):Ò À 121 #[Å ã n] w λe a=>e=Æ (Ä<|M4 n)/\fe fh w a:=by
 have g:=abl n;have h:=abm<|16-(nO n).size;have T:=ap1 n c d;have R:∀W:Í,Ò À 160 #[Ä ⟨#[48]⟩,Å É ((16-(nO n).size:Nat):Int)] W λe a=>e=Æ (Ä<|An<|16-(nO n).size)/\a=W:=λW=>ap7 _ Z;have i:É.wrap ((16:Int)-((nO n).size:Int))=((16-(nO n).size:Nat):Int):=by rw[ŝ];omega
 have j:(16:Int)-((nO n).size:Int)=((16-(nO n).size:Nat):Int):=Z
 have l:¬9223372036854775807<(An<|16-(nO n).size).size+(nO n).size:=Z
 unfold M4;have H:=fg<|Ê T R;generalize m:An (16-(nO n).size)=zs at*;generalize o:16-(nO n).size=k at*;generalize nO n=fs at*;go_enter Tryz.func121,Tryz.ntmps121;go_wp2_with (first
  |(go_at_call 157;refine H.out.1.mono ?_;rintro e p ⟨rfl,b⟩;have f:=fg b;clear b)
  |(go_at_call 160;refine(H.out.2 _).mono ?_;rintro e b ⟨rfl,p⟩;subst b))
 go_ret;exact⟨U,f.out⟩
structure pR(r:Nat)(x y g k:Nat)(kind v v2:Int)(slot:Nat)(w:Í):Prop where
 I:w.cell? ⟨r,0,Á⟩=Â (Å É x)
 S:w.cell? ⟨r,1,Á⟩=Â (Å É y)
 a:w.cell? ⟨r,2,Á⟩=Â (Å É g)
 Y:w.cell? ⟨r,3,Á⟩=Â (Å É k)
 N:w.cell? ⟨r,4,Á⟩=Â (Å É kind)
 M:w.cell? ⟨r,5,Á⟩=Â (Å É v)
 c:w.cell? ⟨r,6,Á⟩=Â (Å É v2)
 b:w.cell? ⟨r,7,Á⟩=Â (Å É slot)
def il.N(h:il u v vX W)(k:fe fh w u):il w v vX W:=by
 refine⟨⟨h.ft.1,?_⟩,k.fi h.r⟩;rcases h.ft.2 with q|⟨g,a,b,c,d,q⟩
 .exact È q
 .exact Ï ⟨g,a,b,c,Ì k.M d,q⟩
section
variable{cp r x y g slot:Nat}{v v2:Int}
def pR.C{w:Í}(h:pR r x y g k c v v2 slot w)(q:fe fh w u):pR r x y g k c v v2 slot u:= ⟨q.r h.I id,q.r h.S id,q.r h.a id,q.r h.Y id,q.r h.N id,q.r h.M id,q.r h.c id,q.r h.b id⟩
def ap9(F:Ò À 113 #[Ç O n cp,Å É v] w λe b=>e=Æ (j1<|Â i)/\fe fh w b)(h:pR r x y g k 2 v v2 slot w)(p:x<8)(q:slot<16)(z:Nat)(j:w.cell? ⟨i,x*18+2+slot,Á⟩=Â (Å ã z)) (C:∀W,fe fh w W->Ò À 118 #[Å ã z] W λe b=>e=Æ (Ä B)/\fe fh W b): Ò À 67 #[Ç O n cp,Ã<|Â ⟨r,0,Á⟩] w λe b=>e=Æ (Ä B)/\fe fh w b:=by
 have s:=h.M;have m:=h.N;have t:(0:Int)<=(x:Int):=Z
 have u:(x:Int)<8:=Z
 have D:(0:Int)<=(slot:Int):=Z
 have E:(slot:Int)<16:=Z
 have H:=fg<|Ê F C;have d:=fg h;clear F C h;go_enter ó,í;go_wp2_with (go_at_call 113;apply H.out.1.mono;rintro e f ⟨rfl,c⟩;dsimp only[j1,ð];have l:=c.r m id;have a:=fg c;clear c);refine mC (λb=>b.cell? ⟨r,0,Á⟩=Â (Å É x)/\b.cell? ⟨r,7,Á⟩=Â (Å É slot)/\b.cell? ⟨i,x*18+2+slot,Á⟩=Â (Å ã z)) [] fw ?_;have o:=fg<|Ê ((d.out.C a.out).C<|fe.fY fh _).I<|Ê ((d.out.C a.out).C<|fe.fY fh _).b<|(a.out.fi<|fe.fY _ _).r j id;iterate 17 apply tk o.out
 apply gE 17;intro K f;go_simp;go_at_call 118;refine(H.out.2 _<|a.out.fi<|fe.fY _ _).mono ?_;rintro e G ⟨rfl,l⟩;have c:=fg l;clear l;dsimp only;apply f.out _ _ λ_=>⟨(d.out.C<|(a.out.fi<|fe.fY _ _).fi c.out).I,(d.out.C<|(a.out.fi<|fe.fY _ _).fi c.out).b,(((a.out.fi<|fe.fY _ _).fi c.out).r j id)⟩;clear f K;apply gE 18;intro K f;go_simp;apply f.out _ _ λ_=>⟨(d.out.C<|(a.out.fi<|fe.fY _ _).fi c.out).I,(d.out.C<|(a.out.fi<|fe.fY _ _).fi c.out).b,(((a.out.fi<|fe.fY _ _).fi c.out).r j id)⟩;clear f K;try simp only[Act.put,é,ý,þ]
 refine mf fw ?_ _;go_wp2_with fail;go_ret;exact⟨U,(a.out.fi<|fe.fY _ _).fi c.out⟩
def aqa(F:Ò À 113 #[Ç O n cp,Å É v] w λe a=>e=Æ (j1<|Â i)/\fe fh w a)(f:pR r x y g k 3 v v2 slot w)(p:x<8)(z:Nat)(h:w.cell? ⟨i,x*18,Á⟩=Â (Å ã z)) (C:∀W,fe fh w W->Ò À 118 #[Å ã z] W λe a=>e=Æ (Ä B)/\fe fh W a): Ò À 67 #[Ç O n cp,Ã<|Â ⟨r,0,Á⟩] w λe a=>e=Æ (Ä B)/\fe fh w a:=by
 have q:=f.M;have m:=f.N;have s:(0:Int)<=(x:Int):=Z
 have t:(x:Int)<8:=Z
 have H:=fg<|Ê F C;have j:=fg f;clear F C f;go_enter ó,í;go_wp2_with (go_at_call 113;apply H.out.1.mono;rintro e d ⟨rfl,c⟩;dsimp only[j1,ð];have l:=c.r m id;have b:=fg c;clear c);refine mC (λa=>a.cell? ⟨r,0,Á⟩=Â (Å É x)/\a.cell? ⟨i,x*18,Á⟩=Â (Å ã z)) [] fw ?_;have o:=fg<|Ê ((j.out.C b.out).C<|fe.fY fh _).I<|(b.out.fi<|fe.fY _ _).r h id;iterate 12 apply tk o.out
 apply gE 12;intro K c;go_simp;go_at_call 118;refine(H.out.2 _<|b.out.fi<|fe.fY _ _).mono ?_;rintro e u ⟨rfl,l⟩;have d:=fg l;clear l;dsimp only;apply c.out _ _ λ_=>⟨(j.out.C<|(b.out.fi<|fe.fY _ _).fi d.out).I,(((b.out.fi<|fe.fY _ _).fi d.out).r h id)⟩;clear c K;apply gE 13;intro K c;go_simp;apply c.out _ _ λ_=>⟨(j.out.C<|(b.out.fi<|fe.fY _ _).fi d.out).I,(((b.out.fi<|fe.fY _ _).fi d.out).r h id)⟩;clear c K;try simp only[Act.put,é,ý,þ]
 refine mf fw ?_ _;go_wp2_with fail;go_ret;exact⟨U,(b.out.fi<|fe.fY _ _).fi d.out⟩
def aqb(F:Ò À 113 #[Ç O n cp,Å É v] w λe c=>e=Æ (j1<|Â i)/\fe fh w c)(h:pR r x y g k 4 v v2 slot w)(o:g<=400)(p:k<18446744073709551616) (C:∀W,fe fh w W->Ò À 119 #[Ã<|Â ⟨i,0,Á⟩,Å É x,Å É y,Å ã g,Å ã k] W λe c=>e=Æ (Ä B)/\fe fh W c): Ò À 67 #[Ç O n cp,Ã<|Â ⟨r,0,Á⟩] w λe c=>e=Æ (Ä B)/\fe fh w c:=by
 have q:=h.M;have l:=h.N;have s:ã.wrap (k:Int)=(k:Int):=by rw[Ć];omega
 have t:ã.wrap (g:Int)=(g:Int):=by rw[Ć];omega
 have u:¬(400:Int)<(g:Int):=Z
 have z:(g:Int)<=400:=Z
 have H:=fg<|Ê F C;have b:=fg h;clear F C h;go_enter ó,í;go_wp2_with (go_at_call 113;apply H.out.1.mono;rintro e f ⟨rfl,d⟩;dsimp only[j1,ð];have j:=d.r l id;have m:=d.r b.out.a id;have a:=fg d;clear d);refine mC (λc=>c.cell? ⟨r,0,Á⟩=Â (Å É x)/\c.cell? ⟨r,1,Á⟩=Â (Å É y)/\c.cell? ⟨r,2,Á⟩=Â (Å É g)/\c.cell? ⟨r,3,Á⟩=Â (Å É k)) [] fw ?_;have m:=fg<|Ê ((b.out.C a.out).C<|fe.fY fh _).I<|Ê ((b.out.C a.out).C<|fe.fY fh _).S<|Ê ((b.out.C a.out).C<|fe.fY fh _).a ((b.out.C a.out).C<|fe.fY fh _).Y;iterate 23 apply tk m.out
 apply gE 23;intro K f;go_simp;go_at_call 119;refine(H.out.2 _<|a.out.fi<|fe.fY _ _).mono ?_;rintro e D ⟨rfl,j⟩;have d:=fg j;clear j;dsimp only;apply f.out _ _ λ_=>⟨(b.out.C<|(a.out.fi<|fe.fY _ _).fi d.out).I,(b.out.C<|(a.out.fi<|fe.fY _ _).fi d.out).S,(b.out.C<|(a.out.fi<|fe.fY _ _).fi d.out).a,(b.out.C<|(a.out.fi<|fe.fY _ _).fi d.out).Y⟩;clear f K;apply gE 24;intro K f;go_simp;apply f.out _ _ λ_=>⟨(b.out.C<|(a.out.fi<|fe.fY _ _).fi d.out).I,(b.out.C<|(a.out.fi<|fe.fY _ _).fi d.out).S,(b.out.C<|(a.out.fi<|fe.fY _ _).fi d.out).a,(b.out.C<|(a.out.fi<|fe.fY _ _).fi d.out).Y⟩;clear f K;try simp only[Act.put,é,ý,þ]
 refine mf fw ?_ _;go_wp2_with fail;go_ret;exact⟨U,(a.out.fi<|fe.fY _ _).fi d.out⟩
def aqc(F:Ò À 113 #[Ç O n cp,Å É v] w λe b=>e=Æ (j1<|Â i)/\fe fh w b)(h:pR r x y g k 5 v v2 slot w)(o:k<18446744073709551616) (C:∀W,fe fh w W->Ò À 120 #[Ã<|Â ⟨i,0,Á⟩,Å É x,Å É y,Å ã k] W λe b=>e=Æ (Ä B)/\fe fh W b): Ò À 67 #[Ç O n cp,Ã<|Â ⟨r,0,Á⟩] w λe b=>e=Æ (Ä B)/\fe fh w b:=by
 have p:=h.M;have l:=h.N;have q:ã.wrap (k:Int)=(k:Int):=by rw[Ć];omega
 have H:=fg<|Ê F C;have c:=fg h;clear F C h;go_enter ó,í;go_wp2_with (go_at_call 113;apply H.out.1.mono;rintro e f ⟨rfl,d⟩;dsimp only[j1,ð];have j:=d.r l id;have a:=fg d;clear d);refine mC (λb=>b.cell? ⟨r,0,Á⟩=Â (Å É x)/\b.cell? ⟨r,1,Á⟩=Â (Å É y)/\b.cell? ⟨r,3,Á⟩=Â (Å É k)) [] fw ?_;have m:=fg<|Ê ((c.out.C a.out).C<|fe.fY fh _).I<|Ê ((c.out.C a.out).C<|fe.fY fh _).S ((c.out.C a.out).C<|fe.fY fh _).Y;iterate 17 apply tk m.out
 apply gE 17;intro K f;go_simp;go_at_call 120;refine(H.out.2 _<|a.out.fi<|fe.fY _ _).mono ?_;rintro e s ⟨rfl,j⟩;have d:=fg j;clear j;dsimp only;apply f.out _ _ λ_=>⟨(c.out.C<|(a.out.fi<|fe.fY _ _).fi d.out).I,(c.out.C<|(a.out.fi<|fe.fY _ _).fi d.out).S,(c.out.C<|(a.out.fi<|fe.fY _ _).fi d.out).Y⟩;clear f K;apply gE 18;intro K f;go_simp;apply f.out _ _ λ_=>⟨(c.out.C<|(a.out.fi<|fe.fY _ _).fi d.out).I,(c.out.C<|(a.out.fi<|fe.fY _ _).fi d.out).S,(c.out.C<|(a.out.fi<|fe.fY _ _).fi d.out).Y⟩;clear f K;try simp only[Act.put,é,ý,þ]
 refine mf fw ?_ _;go_wp2_with fail;go_ret;exact⟨U,(a.out.fi<|fe.fY _ _).fi d.out⟩
def aqd(F:Ò À 113 #[Ç O n cp,Å É v] w λe a=>e=Æ (j1<|Â i)/\fe fh w a)(b:pR r x y g k 6 v v2 slot w)(z:Nat)(C:∀W,fe fh w W->Ò À 122 #[Ã<|Â ⟨i,0,Á⟩] W λe a=>e=Æ (Å ã z)/\fe fh W a)(d:∀W,fe fh w W->Ò À 121 #[Å ã z] W λe a=>e=Æ (Ä B)/\fe fh W a): Ò À 67 #[Ç O n cp,Ã<|Â ⟨r,0,Á⟩] w λe a=>e=Æ (Ä B)/\fe fh w a:=by
 have m:=b.M;have j:=b.N;have l:=fg d;clear d;have H:=fg<|Ê F C;have o:=fg b;clear F C b;go_enter ó,í;go_wp2_with (first
  |(go_at_call 113;refine H.out.1.mono ?_;rintro e h ⟨rfl,c⟩;dsimp only[j1,ð];have p:=c.r j id;have f:=fg c;clear c)
  |(go_at_call 122;refine(H.out.2 _ f.out).mono ?_;rintro e p ⟨rfl,c⟩;have h:=fg<|f.out.fi c;clear c)
  |(go_at_call 121;refine(l.out _ h.out).mono ?_;rintro e p ⟨rfl,c⟩;have f:=fg (h.out.fi c);clear c))
 go_ret;exact⟨U,f.out⟩
def aqe(F:Ò À 113 #[Ç O n cp,Å É v] w λe b=>e=Æ (j1<|Â i)/\fe fh w b)(d:pR r x y g k 7 v v2 slot w)(l:Option ü)(o p:Nat)(u:w.cell? ⟨i,144,Á⟩=Â (Ç l o p))(f:List ByteArray)(C:∀W,fe fh w W->Ò À 124 #[Ç l o p] W λe b=>∃j,e=Æ j/\il W j f b)(q:∀W a m c,il w (Ç a m c) f W->Ò À 123 #[Ç a m c] W λe b=>e=Æ (Ä B)/\fe fh W b): Ò À 67 #[Ç O n cp,Ã<|Â ⟨r,0,Á⟩] w λe b=>e=Æ (Ä B)/\fe fh w b:=by
 have J:=d.M;have z:=d.N;have D:=fg q;clear q;have H:=fg<|Ê F C;have K:=fg d;clear F C d;go_enter ó,í;go_wp2_with (first
  |(go_at_call 113;refine H.out.1.mono ?_;rintro e t ⟨rfl,h⟩;dsimp only[j1,ð];have E:=h.r z id;have G:=h.r u id;have s:=fg h;clear h)
  |(go_at_call 124;refine(H.out.2 _ s.out).mono ?_;rintro e E ⟨j,rfl,h⟩;obtain⟨G,I,rfl⟩:=jl h.ft;generalize f.length=tn at h|-;have t:=fg (show il w (Ç G tn I) f E from h.N s.out);clear h)
  |(go_at_call 123;refine(D.out _ _ _ _ t.out).mono ?_;rintro e E ⟨rfl,h⟩;have s:=fg (t.out.r.fi h);clear h))
 go_ret;exact⟨U,s.out⟩
def aqf(F:Ò À 113 #[Ç O n cp,Å É v] w λe b=>e=Æ (j1<|Â i)/\fe fh w b)(d:pR r x y g k 8 v v2 slot w)(l:Option ü)(o p:Nat)(u:w.cell? ⟨i,146,Á⟩=Â (Ç l o p))(f:List ByteArray)(C:∀W,fe fh w W->Ò À 125 #[Ç l o p] W λe b=>∃j,e=Æ j/\il W j f b)(q:∀W a m c,il w (Ç a m c) f W->Ò À 123 #[Ç a m c] W λe b=>e=Æ (Ä B)/\fe fh W b): Ò À 67 #[Ç O n cp,Ã<|Â ⟨r,0,Á⟩] w λe b=>e=Æ (Ä B)/\fe fh w b:=by
 have J:=d.M;have z:=d.N;have D:=fg q;clear q;have H:=fg<|Ê F C;have K:=fg d;clear F C d;go_enter ó,í;go_wp2_with (first
  |(go_at_call 113;refine H.out.1.mono ?_;rintro e t ⟨rfl,h⟩;dsimp only[j1,ð];have E:=h.r z id;have G:=h.r u id;have s:=fg h;clear h)
  |(go_at_call 125;refine(H.out.2 _ s.out).mono ?_;rintro e E ⟨j,rfl,h⟩;obtain⟨G,I,rfl⟩:=jl h.ft;generalize f.length=tn at h|-;have t:=fg (show il w (Ç G tn I) f E from h.N s.out);clear h)
  |(go_at_call 123;refine(D.out _ _ _ _ t.out).mono ?_;rintro e E ⟨rfl,h⟩;have s:=fg (t.out.r.fi h);clear h))
 go_ret;exact⟨U,s.out⟩
def aqg(F:Ò À 113 #[Ç O n cp,Å É v] w λe c=>e=Æ (j1<|Â i)/\fe fh w c)(a:pR r x y g k 4 v v2 slot w)(j:400<g)(C:B=nY 6): Ò À 67 #[Ç O n cp,Ã<|Â ⟨r,0,Á⟩] w λe c=>e=Æ (Ä B)/\fe fh w c:=by
 have l:=a.M;have d:=a.N;have m:(400:Int)<(g:Int):=Z
 have H:=fg<|Ê F C;have f:=fg a;clear F C a;go_enter ó,í;go_wp2_with (first
  |(go_at_call 113;refine H.out.1.mono ?_;rintro e o ⟨rfl,b⟩;dsimp only[j1,ð];have p:=b.r d id;have q:=b.r f.out.a id;have h:=fg b;clear b)
  |(go_at_call 114;refine(E5 6 A _).mono ?_;rintro e b ⟨rfl,o⟩;subst b))
 go_ret;exact⟨by rw[H.out.2];rfl,h.out⟩
def aqh(F:Ò À 113 #[Ç O n cp,Å É v] w λe a=>e=Æ (j1<|Â i)/\fe fh w a)(b:pR r x y g k 9 v v2 slot w)(C:B=nY 3)(d:∀W,fe fh w W->Ò À 113 #[Ç O n cp,Å É v2] W λe a=>e=Æ (j1 Á)/\fe fh W a): Ò À 67 #[Ç O n cp,Ã<|Â ⟨r,0,Á⟩] w λe a=>e=Æ (Ä B)/\fe fh w a:=by
 have p:=b.M;have j:=b.N;have l:=fg d;clear d;have H:=fg<|Ê F C;have m:=fg b;clear F C b;go_enter ó,í;go_wp2_with (first
  |(go_at_call 113;with_reducible refine H.out.1.mono ?_;rintro e h ⟨rfl,c⟩;dsimp only[j1,ð];have o:=c.r j id;have q:=c.r m.out.c id;have f:=fg c;clear c)
  |(go_at_call 113;refine(l.out _ f.out).mono ?_;rintro e c ⟨rfl,h⟩;dsimp only[j1,ð];have o:=fg<|f.out.fi h;clear h)
  |(go_at_call 114;refine(E5 3 A _).mono ?_;rintro e c ⟨rfl,h⟩;subst c))
 go_ret;exact⟨by rw[H.out.2];rfl,o.out⟩
def aqi(F:Ò À 113 #[Ç O n cp,Å É v] w λe b=>e=Æ (j1<|Â i)/\fe fh w b)(f:pR r x y g k 9 v v2 slot w)(C:True)(p:∀W,fe fh w W->Ò À 113 #[Ç O n cp,Å É v2] W λe b=>e=Æ (j1<|Â j)/\fe fh W b)(l:List ByteArray)(q:∀W,fe fh w W->Ò À 126 #[Ã<|Â ⟨i,0,Á⟩,Ã<|Â ⟨j,0,Á⟩] W λe b=>∃o,e=Æ o/\il W o l b)(s:∀W a m c,il w (Ç a m c) l W->Ò À 123 #[Ç a m c] W λe b=>e=Æ (Ä B)/\fe fh W b): Ò À 67 #[Ç O n cp,Ã<|Â ⟨r,0,Á⟩] w λe b=>e=Æ (Ä B)/\fe fh w b:=by
 have L:=f.M;have D:=f.N;have E:=fg p;have t:=fg<|Ê q s;clear p q s;have H:=fg<|Ê F C;have G:=fg f;clear F C f;go_enter ó,í;go_wp2_with (first
  |(go_at_call 113;with_reducible refine H.out.1.mono ?_;rintro e u ⟨rfl,d⟩;dsimp only[j1,ð];have z:=d.r D id;have I:=d.r G.out.c id;have h:=fg d;clear d)
  |(go_at_call 113;refine(E.out _ h.out).mono ?_;rintro e z ⟨rfl,d⟩;dsimp only[j1,ð];have u:=fg (h.out.fi d);clear d))
 apply mC (λb=>True/\True) [] fw;have I:=fg<|Ê trivial trivial;iterate 8 apply tk I.out
 apply gE 8;intro K d;go_simp;go_at_call 126;refine(t.out.1 _<|u.out.fi<|fe.fY _ _).mono ?_;rintro e M ⟨o,rfl,h⟩;obtain⟨N,P,rfl⟩:=jl h.ft;generalize l.length=tn at h|-;have z:=fg<|h.N<|u.out.fi<|fe.fY _ _;clear h;dsimp only;apply d.out _ _ λ_=>⟨trivial,trivial⟩;clear d K;apply gE 9;intro K d;go_simp;go_at_call 123;refine(t.out.2 _ _ _ _ z.out).mono ?_;rintro e Q ⟨rfl,u⟩;have J:=fg<|z.out.r.fi u;clear u;dsimp only;apply d.out _ _ λ_=>⟨trivial,trivial⟩;clear d K;apply gE 10;intro K d;go_simp;apply d.out _ _ λ_=>⟨trivial,trivial⟩;clear d K;try simp only[Act.put,é,ý,þ]
 refine mf fw ?_ _;go_wp2_with fail;go_ret;exact⟨U,J.out⟩
def aqj(F:Ò À 113 #[Ç O n cp,Å É v] w λe a=>e=Æ (j1 Á)/\fe fh w a)(b:pR r x y g k h v v2 slot w): Ò À 67 #[Ç O n cp,Ã<|Â ⟨r,0,Á⟩] w λe a=>e=Æ (Ä<|nY 3)/\fe fh w a:=by
 have f:=b.M;have H:=fg F;clear F b;go_enter ó,í;go_wp2_with (first
  |(go_at_call 113;refine H.out.mono ?_;rintro e i ⟨rfl,c⟩;dsimp only[j1,ð];have d:=fg c;clear c)
  |(go_at_call 114;refine(E5 3 A _).mono ?_;rintro e c ⟨rfl,i⟩;subst c))
 go_ret;exact⟨U,d.out⟩
end
structure Qn where
 x:Nat
 y:Nat
 g:Nat
 k:Nat
 r:Int
 v:Int
 C:Int
 I:Nat
structure Qn.Ok(q:Qn):Prop where
 x:q.x<8
 y:q.y<8
 g:q.g<1000000
 k:q.k<18446744073709551616
 avz:2<=q.r
 avA:q.r<=9
 v:-1<=q.v
 v2:-1<=q.C
 avB:q.I<16
def FB(a:List ByteArray):ByteArray:=if a=[]then⟨#[45]⟩else iI ⟨#[44]⟩ a
def Ao(a:List (Nat×fL))(p:fL)(q:Qn):ByteArray:=
 if q.r=2 then fy ((p.s q.x).C q.I).toNat
 else if q.r=3 then fy (p.s q.x).fB.toNat
 else if q.r=4 then if 400<q.g then nY 6 else ou (fX p.s [] q.x q.y q.g q.k)
 else if q.r=5 then pO p.s q.x q.y q.k 0 401
 else if q.r=6 then M4 (Fg p.s)
 else if q.r=7 then FB (p.r.map oJ)
 else if q.r=8 then FB (p.C.map Fp)
 else match mF a q.C with
  |none=>nY 3
  |some b=>FB<|rA p.s b.2.s 8
def qF(a:List (Nat×fL))(q:Qn):ByteArray:=
 match mF a q.v with
 |none=>nY 3
 |some p=>Ao a p.2 q
def Ut{M:Nat}(b:∀z∈vX,z.size<=M)(d:M<=100)(f:vX.length<=400000)(h:il w (Ç O m i) vX W): Ò À 123 #[Ç O m i] W λe g=>e=Æ (Ä<|FB vX)/\fe fh W g:=by obtain⟨e,g,j⟩:=h.I;have k:=Fy vX b;have:M*vX.length<=100*400000:=ű d f;exact apP g Z j e Z
def aqk(s:St):Fg s<18446744073709551616:=by unfold Fg ME;exact T0 _ _<|aaN λi=>aaQ _ _ _
theorem Uu{b:ByteArray}(c:B.size<=1)(d:b.size<=1):(B++b).size<=2:=by grind
def abn(s t:St):∀z∈rA s t 8,z.size<=2:=λz a=>by
 unfold rA at a;obtain⟨i,_,h⟩:=Ş.1 a;unfold Al yo at h;rcases â.1 h with h|h
 .rcases â.1 h with h|h
  .split at h
   .cases h
   .simp at h;subst h;exact Uu (yp i)<|æ _
  .split at h
   .cases h
   .simp at h;subst h;exact Uu (yp i)<|æ _
 .unfold rz at h;obtain⟨j,_,h⟩:=Ş.1 h;unfold CF at h;split at h
  .cases h
  .simp at h;subst h;exact Uu (yp i)<|aa5 j
section
variable{cp:Nat}{vs:List (Nat×fL)}{q:Qn}
def aql(u:qD O n vs w)(S:n<=1000)(T:0<n)(hvo:∀p∈vs,Ud p.2)(d:pR i q.x q.y q.g q.k q.r q.v q.C q.I w)(ok:q.Ok)(V:iP w)(o:lS w)(hd:qE w): Ò À 67 #[Ç O n cp,Ã<|Â ⟨i,0,Á⟩] w λe G=>e=Æ (Ä<|qF vs q)/\fe fh w G:=by
 have F:=MJ (cp:=cp) u S T q.v ok.v;unfold qF;cases B:mF vs q.v with
 |none=>
  rw[B]at F;exact aqj F d
 |some p=>
  rw[B]at F;have h:=F;have X:=IX B;have f:=u.M X;have j:=hvo p X;obtain⟨x,y,g,k,kind,v,C,Y⟩:=q;obtain⟨r,H,hg,I,rv,qU,hv,M5,J⟩:=ok;simp only at r H hg I rv qU hv M5 J d h B|-;obtain⟨cb,_,cs⟩:=f.r.gW r;have GX:gp (k:Int):=⟨Z,Z⟩;unfold Ao;simp only;split
  .rename_i e;subst e;have c:=cs Y J;have l:=f.C.C x Y;rw[<-ņ l.1]at c;exact ap9 h d r J _ c λW b=>yn _ (by have:=l.1;have:=l.2;omega) W<|o.r b
  .split
   .rename_i e;subst e;have l:=f.C.fB x;rw[<-ņ l.1]at cb;exact aqa h d r _ cb λW b=>yn _ (by have:=l.1;have:=l.2;omega) W<|o.r b
   .split
    .rename_i e;subst e;split
     .rename_i hh;exact aqg h d hh U
     .exact aqb h d Z I λW b=>apS (f.r.r b id) f.C (V.r b id) (o.r b) x y g k r H Z Z GX
    .split
     .rename_i e;subst e;exact aqc h d I λW b=>apa (f.r.r b id) f.C (V.r b id) (o.r b) r H GX
     .split
      .rename_i e;subst e;exact aqd h d _ (λW b=>aou (f.r.r b id) f.C) λW b=>ap8 _ (aqk _)<|hd.r b
      .split
       .rename_i e;subst e;obtain⟨K,L,M,N⟩:=f.N;exact aqe h d K _ L M _ (λW b=>aa0 U j.I j.C (o.r b)<|nN.C N b) λW a m c t=>Ut (λz P=>by obtain⟨e,D,rfl⟩:=Ú.1 P;exact M0 (j.C e D).2) Z (by rw[ù];exact j.I) t
       .split
        .rename_i e;subst e;obtain⟨K,L,M,N⟩:=f.S;exact aqf h d K _ L M _ (λW b=>aph U j.M j.r (o.r b)<|nN.C N b) λW a m c t=>Ut (λz P=>by obtain⟨e,D,rfl⟩:=Ú.1 P;exact abe (j.r e D).1 (j.r e D).2) Z (by rw[ù];have:=j.M;omega) t
        .have e:kind=9:=Z
         subst e;have E:∀W,fe fh w W->Ò À 113 #[Ç O n cp,Å É C] W λe G=>e=Æ (j1 ((mF vs C).map (·.1)))/\fe fh W G:=λW b=>MJ (u.I b) S T C M5;cases Q:mF vs C with
         |none=>
          rw[Q]at E;exact aqh h d U E
         |some p2=>
          rw[Q]at E;exact aqi h d trivial E _ (λW b=>apv (f.r.r b id)<|(u.M<|IX Q).r.r b id) λW a m c t=>Ut (abn _ _) Z (by have:=Ul p.2.s p2.2.s 8;omega) t
end
end Go.Proofs.Y.fR
namespace Go.Proofs.Y.k9
open Go Go.Proofs Go.RowKit Go.Proofs.Y.Lift Go.Proofs.Y.fR
def kx(a:List (Nat×fL)):List fL:=a.map (·.2)
def abo(d:fL)(l:List fL):fL:=l.foldl (λa b=>if a.h<b.h then b else a) d
theorem abp:∀(a:List (Nat×fL)) (d:Nat×fL),(u7 d a).2=abo d.2 (kx a)
 |[],_=>rfl
 |x::r,d=>by show(u7 (Ag d x) r).2=abo (if d.2.h<x.2.h then x.2 else d.2) (kx r);rw[abp r];unfold Ag;split<;>rfl
theorem Uv{a b:List (Nat×fL)}(h:kx a=kx b)(v:Int):(mF a v).map (·.2)=(mF b v).map (·.2):=by
 have c:∀i:Nat,(a[i]?).map (·.2)=(b[i]?).map (·.2):=λi=>by have:=congrArg (λl:List fL=>l[i]?) h;simpa[kx]using this
 unfold mF;grind [abp]
theorem aqm{a b:List (Nat×fL)}(h:kx a=kx b):a.length=b.length:=by have:=congrArg List.length h;simpa[kx]using this
theorem abq{a b:List (Nat×fL)}(h:kx a=kx b)(v:Int)(x:Nat)(gN:List Tx):ry a v x gN=ry b v x gN:=by have c:=Uv h v;unfold ry;grind [aqm]
theorem aqn{a b:List (Nat×fL)}(h:kx a=kx b)(q:Qn):qF a q=qF b q:=by
 have c:=Uv h q.v;have d:=Uv h q.C;have e:∀p:fL,Ao a p q=Ao b p q:=λp=>by unfold Ao;grind
 unfold qF;grind
structure lC(s:List fL):Prop where
 I:0<s.length
 C:s.length<=40
 r:∀v∈s,Ud v/\gM v.s/\0<=v.h/\v.h<s.length
def sD(a:List (Nat×fL))(v:Int)(x:Nat)(gN:List Tx):List fL:=kx a++(ry a v x gN).1.toList
def lC.M{f:List (Nat×fL)}(h:lC (kx f)){gN:List Tx}(j:∀t∈gN,t.Ok)(l:gN.length<=1000):lC (sD f c i gN):=by
 unfold k9.sD;have z:(kx f).length=f.length:=by simp[kx]
 unfold ry;cases m:mF f c with
 |none=>simpa using h
 |some p=>
  have n:p.2∈kx f:=Ú.2 ⟨p,IX m,U⟩;let⟨B,k,C,D⟩:=h.r _ n;simp only;split
  .simpa using h
  .rename_i E;cases g:wj i p.2.s gN with
   |none=>simpa using h
   |some r=>
    simp only[Option.toList];have F:=h.C;have o:gM r.1:=by unfold wj at g;obtain⟨G,w,rfl⟩:=ò.1 g;exact(Ue gN j k (λ_ q=>by cases q) (λ_ q=>by cases q) (by simp;omega) (by simp;omega) w).1.r i<|zY _
    refine⟨fq,by simp;omega,λu y=> ?_⟩;rcases â.1 y with q|q
    .let⟨a,b,e,d⟩:=h.r u q;refine⟨a,b,e,?_⟩;rw[Ù];simp;omega
    .simp at q;subst q;refine⟨aoY j k l g,o,by show 0<=p.2.h+1;omega,?_⟩;rw[Ù];show p.2.h+1<_;simp;omega
def jb(Y:fv)(u w:Í):Prop:=∀(i j o:Nat) (v:Ñ),Y i j->u.cell? ⟨i,o,Á⟩=Â v->∃a,w.cell? ⟨j,o,Á⟩=Â a/\fp Y v a
section
variable{Y:fv}
theorem aqo{k:IntKind}(h:fp Y (Å k c) v):v=Å k c:=by cases h;rfl
theorem aqp(h:fp Y (Ä B) v):v=Ä B:=by cases h;rfl
theorem M6(h:fp Y (Ã<|Â a) v):∃b,v=Ã (Â b)/\ie Y a b:=by
 cases h with
 |jW q=>exact⟨_,U,q⟩
def M7(h:fp Y (Ç O n i) v):∃b,v=Ç b n i/\∀a,O=Â a->∃d,b=Â d/\ie Y a d:=by
 cases h with
 |oz=>exact⟨Á,U,λa q=>by cases q⟩
 |kO q=>exact⟨_,U,λa e=>by cases e;exact⟨_,U,q⟩⟩
theorem aqr(a:kt v=Î)(h:fp Y v x):x=v:=by cases h<;>first|rfl|(simp[kt]at a;done)
theorem Ap(h:ie Y ⟨b,i,Á⟩ a):∃c,a=⟨c,i,Á⟩/\Y b c:=by let⟨d,e,f⟩:=h;let⟨c,g,j⟩:=a;grind
theorem jb.r(a:jb Y u w){k:IntKind}(h:Y i j)(d:u.cell? ⟨i,b,Á⟩=Â (Å k c)):w.cell? ⟨j,b,Á⟩=Â (Å k c):=by let⟨e,f,g⟩:=a i j b _ h d;grind [aqo]
theorem jb.C(a:jb Y u w)(h:Y i j)(b:u.cell? ⟨i,n,Á⟩=Â (Ä B)):w.cell? ⟨j,n,Á⟩=Â (Ä B):=by let⟨c,d,e⟩:=a i j n _ h b;grind [aqp]
theorem jb.aqs(a:jb Y u w)(c:kt v=Î)(h:Y i j)(b:u.cell? ⟨i,n,Á⟩=Â v):w.cell? ⟨j,n,Á⟩=Â v:=by let⟨d,e,f⟩:=a i j n _ h b;grind [aqr]
def Uw(s:fR.St):∀v∈iA s,(∃n,v=Å ã n)\/∃p,v=Ä p:=λv n=>by
 unfold iA at n;obtain⟨i,_,rfl⟩:=Ú.1 n;unfold qw qu;split
 .exact È ⟨_,U⟩
 .split
  .exact Ï ⟨_,U⟩
  .exact È ⟨_,U⟩
def aqt(a:jb Y u w){s:fR.St}(c:Y b i)(d:mE b s h u):mE i s h w:=by
 refine⟨λj v e=> ?_,a.r c d.h⟩;have f:=d.C j v e;rcases Uw s v (ç e)with⟨n,rfl⟩|⟨p,rfl⟩
 .exact a.r c f
 .exact a.C c f
def abr(a:jb Y u w)(f:Y b i)(g:∀v∈l,kt v=Î)(h:Af ⟨b,j,Á⟩ n l u):Af ⟨i,j,Á⟩ n l w:=by let⟨p,c,k,m⟩:=h;let⟨G,q,r⟩:=a b i j _ f k;obtain⟨s,rfl,t⟩:=M7 r;refine⟨s,c,q,λd x e=> ?_⟩;let⟨H,y,z,B⟩:=m d x e;let⟨I,C,D⟩:=t _ z;obtain⟨E,rfl,F⟩:=Ap D;exact⟨E,y,C,a.aqs (g x<|ç e) F B⟩
def aqu(a:jb Y u w){v:fL}(c:Y b i)(h:sB b v u):sB i v w:= ⟨aqt a c h.r,h.C,h.I,h.M,abr a c (R_ _) h.N,abr a c (aax _) h.S⟩
def wS{α β:Type}{R:Nat->α->β->Prop}:∀(l:List α) (k:Nat),(∀j x,l[j]?=Â x->∃y,R (k+j) x y)->∃a:List β,a.length=l.length/\∀j y,a[j]?=Â y->∃x,l[j]?=Â x/\R (k+j) x y
 |[],_,_=>⟨[],U,λj y h=>by simp at h⟩
 |x::r,k,h=>by
  let⟨y,c⟩:=h 0 x U;obtain⟨a,d,e⟩:=wS r (k+1) λj z b=>by let⟨q,f⟩:=h (j+1) z b;exact⟨q,by rwa[show k+1+j=k+(j+1) by omega]⟩
  refine⟨y::a,by simp[d],λj z b=> ?_⟩;cases j with
  |zero=>cases b;exact⟨x,U,c⟩
  |succ j=>
   let⟨q,f,g⟩:=e j z b;exact⟨q,f,by rwa[show k+(j+1)=k+1+j by omega]⟩
theorem I1(a:jb Y u w){e:List (Nat×fL)}(i:fp Y z jQ)(h:MK z e u):∃c,kx c=kx e/\MK jQ c w:=by
 obtain⟨J,n,k,rfl,l,f⟩:=h;obtain⟨g,rfl,m⟩:=M7 i;let⟨c,o,K⟩:=wS (R:=λj (x y:Nat×fL)=>x.2=y.2/\∃q d,g=Â ⟨q,d,Á⟩/\w.cell? ⟨q,d+j,Á⟩=Â (Ã<|Â ⟨y.1,0,Á⟩)/\sB y.1 y.2 w) e 0 λj x p=>by let⟨b,v⟩:=x;let⟨q,d,r,s,t⟩:=f.C j b v p;let⟨L,B,C⟩:=m _ r;obtain⟨y,rfl,D⟩:=Ap C;let⟨M,E,F⟩:=a q y _ _ D s;obtain⟨N,rfl,G⟩:=M6 F;obtain⟨H,rfl,I⟩:=Ap G;exact⟨(H,v),U,y,d,B,by rwa[œ],aqu a I t⟩
 refine⟨c,?_,g,n,k,U,l,⟨by rw[o];exact f.r,λj b v q=> ?_⟩⟩
 .refine Ŕ λj=> ?_;unfold kx;grind
 .grind
end
def lz(a:Nat->Prop)(B:Nat):fv:=⟨λi j=>i=j/\a i,B⟩
def aqv(a:Nat->Prop)(B:Nat):Bi (lz a B):= ⟨λ_ _ _ h k=>h.1.symm.trans k.1,λ_ _ _ h k=>h.1.trans k.1.symm,λi j h=>by rw[h.1]⟩
def Aq{V:Nat->Prop}{B:Nat}(h:∀i,X i->V i):(lz X B).r (lz V B):=⟨λ_ _ q=>⟨q.1,h _ q.2⟩,λ_=>aqv V B,U⟩
def kN(B:Nat)(a:Nat->Prop)(w:Í):Prop:=∀b,a b->∃c e d,w.heap[b]?=Â (Û c e d)/\d.2<=c.size/\fW (lz a B) c c/\0<c.size/\Di c/\e≠304/\e≠305
section
variable{B:Nat}{V:Nat->Prop}
def kN.I(h:kN B X w)(k:kN B V w):kN B (λb=>X b\/V b) w:=by
 rintro b (q|q)
 .let⟨c,e,a,d,f,g,i⟩:=h b q;exact⟨c,e,a,d,f,g.I (Aq λ_=>È),i⟩
 .let⟨c,e,a,d,f,g,i⟩:=k b q;exact⟨c,e,a,d,f,g.I (Aq λ_=>Ï),i⟩
def kN.C(h:kN B X w)(k:∀b,X b->u.heap[b]?=w.heap[b]?):kN B X u:=λb q=>by let⟨c,e,a,d,f⟩:=h b q;exact⟨c,e,a,by rwa[k b q],f⟩
theorem kN.r(h:kN B X w)(a:X b)(d:w.cell? ⟨b,i,Á⟩=Â v):fp (lz X B) v v:=by let⟨c,e,j,f,_,g,_⟩:=h b a;simp only[à,f,ö,ì,if_false]at d;rcases g.S i with⟨q,_⟩|⟨x,k,l,m,n⟩;all_goals grind
def CH(h:fp (lz X B) (Ã<|Â a) v):X a.block:=by
 cases h with
 |jW q=>exact q.1.2
def CI(h:fp (lz X B) (Ç (Â a) n i) v):X a.block:=by
 cases h with
 |kO q=>exact q.1.2
def aqw{Y:fv}(h:kt v=Î):fp Y v v:=by cases v<;>first|exact .mG _|exact .iG _ _|(simp[kt]at h;done)
def pS{Y:fv}(h:∀v∈d.toList,fp Y v v):fW Y d d:=⟨U,λi a _=>h _<|î.2<|ă a⟩
def aqx(h:kt v=Î):yD v=Ë:=by
 cases v with
 |int k n=>cases k<;>first|rfl|(simp[kt]at h;done)
 |_=>rfl
def Ar(h:∀v∈d.toList,yD v=Ë):Di d:=λk v a=>h v<|î.2<|ĵ a
def I2(v:Ñ)(i:Nat):Prop:=v.ownBlock=Â i
def I3(X:Nat->Prop)(g b:Nat)(a c:Ñ)(i:Nat):Prop:=X i\/i=g\/i=b\/I2 a i\/I2 c i
def abt{G:Í}(a:my T=Î)(h:tE v T u)(o:∀j,v.ownBlock=Â j->G.heap.size<=j)(p:sj G.heap.size u):∀i,I2 v i->∃c e f,u.heap[i]?=Â (Û c e f)/\f.2<=c.size/\fW (lz V B) c c/\0<c.size/\Di c/\e≠304/\e≠305:=λi b=>by
 rcases h with rfl|⟨g,n,c,k,rfl,l⟩
 .cases b
 .have e:g=i:=by unfold I2 at b;simpa[Value.ownBlock]using b
  subst e;let⟨r,m⟩:=p g k T (0,0) (o g U) l a;exact⟨k,T,(0,0),l,Ø _,pS λv d=>aqw<|m v d,r,Ar λv d=>aqx<|m v d,(λq=>by rw[q]at a;cases a),(λq=>by rw[q]at a;cases a)⟩
def abu(h:tE v T u)(a:∀i,I2 v i->V i):fp (lz V B) v v:=by
 rcases h with rfl|⟨g,n,c,b,rfl,d⟩
 .exact .oz _ _
 .exact fp.kO (Y:=lz V B) ⟨⟨U,a g U⟩,U,U⟩ n c
theorem aqy{G:Í}(J:kN B X G)(k:fe fh G u)(K:∀i,X i->i<G.heap.size){l:List (Nat×fL)}{s:fR.St}(o:T8 b s h G u)(r:T5 l b G u m)(L:∀p∈l,X p.1): ∃e,(∀i,X i->e i)/\e m/\kN B e u/\∀i,e i->X i\/G.heap.size<=i:=by
 have t:=k.Y _ λi c T w M y=>by rw[ı M]at y;cases y
 let⟨a,d,N,z,C,D,E⟩:=o.r;refine⟨I3 X m b a d,λi q=>È q,Ï<|È U,?_,?_⟩
 .rintro i (q|rfl|rfl|q|q)
  .let⟨c,e,w,n,x,f,j⟩:=J i q;exact⟨c,e,w,by rwa[k.N i (K i q) id],x,f.I (Aq λ_=>È),j⟩
  .let⟨F,n,x,f⟩:=r.r;have H:∀v∈F.toList,v=Ã Á\/∃j,v=Ã (Â ⟨j,0,Á⟩)/\I3 X i b a d j:=λv e=>by
    rcases f v e with q|q|q
    .unfold sC at q;obtain⟨p,I,rfl⟩:=Ú.1 q;exact Ï ⟨_,U,È<|L p I⟩
    .exact Ï ⟨_,q,Ï<|Ï<|È U⟩
    .exact È q
   refine⟨F,136,(0,0),n,Ø _,pS λv e=> ?_,x,Ar λv e=> ?_,A,A⟩
   .rcases H v e with rfl|⟨j,rfl,I⟩
    .exact .lW
    .exact .jW ⟨⟨U,I⟩,U,U⟩
   .rcases H v e with rfl|⟨j,rfl,I⟩<;>rfl
  .have f:∀v∈jm s a++[Å É h,d],fp (lz (I3 X m i a d) B) v v/\yD v=Ë:=λv e=>by
    rw[Ac]at e;have I:=abu (B:=B) (V:=I3 X m i a d) z λj q=>Ï<|Ï<|Ï<|È q;have F:=abu (B:=B) (V:=I3 X m i a d) C λj q=>Ï<|Ï<|Ï<|Ï q;have H:∀{x:Ñ} {T:č},tE x T u->yD x=Ë:=λ{x T} q=>by rcases q with rfl|⟨_,_,_,_,rfl,_⟩<;>rfl
    rcases â.1 e with q|q
    .rcases â.1 q with q|q
     .rcases Uw s v q with⟨n,rfl⟩|⟨p,rfl⟩
      .exact⟨.iG _ _,U⟩
      .exact⟨.kz _,U⟩
     .grind
    .simp at q;rcases q with rfl|rfl
     .exact⟨.iG _ _,U⟩
     .grind
   exact⟨_,147,(0,0),N,Ø _,pS λv e=>(f v<|by simpa using e).1,by simp[mO],Ar λv e=>(f v<|by simpa using e).2,A,A⟩
  .exact abt U z D t i q
  .exact abt U C E t i q
 .rintro i (q|rfl|rfl|q|q)
  .exact È q
  .exact Ï r.C
  .exact Ï o.C
  .exact Ï<|D i q
  .exact Ï<|E i q
def M8{Y:fv}(h:fp Y v x):fp (lz X B) v v->fp (lz (λj=>∃i,X i/\Y i j) B) x x:=by
 induction h with
 |mG b=>exact λ_=> .mG b
 |iG k n=>exact λ_=> .iG k n
 |kz s=>exact λ_=> .kz s
 |lW=>exact λ_=> .lW
 |@jW a a' q=>exact λz=>fp.jW (Y:=lz (λj=>∃i,X i/\Y i j) B) ⟨⟨U,_,CH z,q.1⟩,U,U⟩
 |oz n c=>exact λ_=> .oz n c
 |@kO a a' q n c=>exact λz=>fp.kO (Y:=lz (λj=>∃i,X i/\Y i j) B) ⟨⟨U,_,CI z,q.1⟩,U,U⟩ n c
 |vl=>exact λ_=> .vl
 |fn f=>exact λ_=> .fn f
 |vm=>exact λ_=> .vm
 |vn=>exact λ_=> .vn
 |vo=>exact λ_=> .vo
 |yA t _ b=>exact λz=> .yA t (b (by cases z with|yA _ y=>exact y))
 |oQ f _ b=>exact λz=> .oQ U λi c _=>b i (by rwa[f]) c (by cases z with|oQ _ y=>exact y i _ _)
 |nU f _ b=>exact λz=> .nU U λi c _=>b i (by rwa[f]) c (by cases z with|nU _ y=>exact y i _ _)
def aqz{Y:fv}(h:fp Y v x):yD x=yD v:=by cases h<;>rfl
theorem Ux{Y:fv}{r:Nat->Prop}(h:jk Y r u w)(s:kN B X u):kN B (λj=>∃i,X i/\Y i j) w:=by
 rintro j ⟨i,t,x⟩;let⟨c,a,e,F,y,z,C,b,G,H,I⟩:=h.r i j x;let⟨d,J,qN,m,_,D,K,E,n,o⟩:=s i t;rw[z]at m;cases m;have L:=b.C.resolve_right λq=>q.2.1.elim n o;refine⟨a,e,y,C,?_,pS λv f=> ?_,Z,Ar λv f=> ?_,n,o⟩
 .grind
 .obtain⟨k,g,rfl⟩:=Ĝ f;have l:k<a.size:=by simpa using g
  have:=M8 (b.r k Z l)<|D.C k Z Z;simpa using this
 .obtain⟨k,g,rfl⟩:=Ĝ f;have l:k<a.size:=by simpa using g
  have p:=aqz<|b.r k Z l;rw[(E k c[k]<|å Z)]at p;simpa using p
def As{Y:fv}(h:jk Y X u w):jb Y u w:=λi j o v b c=>h.gD (a:=⟨i,o,Á⟩) (a':=⟨j,o,Á⟩) ⟨b,U,U⟩ c
end
end Go.Proofs.Y.k9
namespace Go.Proofs.Y.Lift
open Go
def abv{α β:Type}{c:α->β->Option (ForInStep β)}{I:β->Prop}(d:∀a b s,I b->c a b=Â s->I s.value): ∀(l:List α) (b r:β),I b->forIn l b c=Â r->I r
 |[],b,r,hi,h=>by simp at h;subst h;exact hi
 |a::l,b,r,hi,h=>by
  rw[List.forIn_cons]at h;cases e:c a b with
  |none=>rw[e]at h;simp at h
  |some s=>
   rw[e]at h;have:=d a b s hi e;cases s with
   |done x=>simp at h;subst h;exact this
   |yield x=>simp at h;exact abv d l x r this h
def jY.gW(h:jY v):∀x∈v.cells,jY x:=by
 intro x a;cases h with
 |oQ h=>
  obtain⟨i,b,rfl⟩:=Array.mem_iff_getElem.1 a;exact h i b
 |nU h=>simp[Ĺ]at a;subst a;exact .nU h
 |_=>simp[Ĺ]at a;subst a;constructor
def ZP(a:č->Option ħ):Prop:=∀t i z,a t=Â i->i.zero=Â z->jY z
def Uy(h:∀x∈d,jY x):jY (.agg d):=.oQ λ_ a=>h _<|ă a
theorem aqA{l:č->Option ħ}(h:ZP l){m:Array Field}(g:ŕ l m=Â zJ)(q:zJ.zero=Â z):jY z:=by
 unfold ŕ at g;simp only[<-Array.forIn_toList]at g;generalize t:(forIn m.toList _ _:Option _)=L at g;cases L with
 |none=>simp at g
 |some r=>
  have u:=abv (I:=λx=>∀a,x.2.2.2.2.2.2.2.1=Â a->∀v∈a,jY v) ?_ _ _ _ ?_ t
  .have:∃a,r.2.2.2.2.2.2.2.1=Â a/\z=.agg a:=by
    grind [ò]
   obtain⟨a,e,rfl⟩:=this;exact Uy<|u a e
  .intro f b s w d;have y:∀(e:Option Ñ) (k:Nat) (x:Option (Array Ñ)),(∀z,e=Â z->jY z)->x=(if k>Ų then Á else do pure ((<-b.2.2.2.2.2.2.2.1)++(<-e).cells))->∀a,x=Â a->∀v∈a,jY v:=by
    intro e k x B C a c v n;subst C;split at c
    .simp at c
    .cases j:b.2.2.2.2.2.2.2.1 with
     |none=>rw[j]at c;simp at c
     |some E=>
      cases o:e with
      |none=>rw[j,o]at c;simp at c
      |some D=>
       rw[j,o]at c;simp at c;subst c;rcases Array.mem_append.1 n with p|p
       .exact w _ j v p
       .exact(B D o).gW v p
   cases e:l f.type with
   |none=>rw[e]at d;simp at d
   |some j=>
    rw[e,ê,ş]at d;have k:=y j.zero (b.2.1+j.size) _ (λz q=>h _ _ _ e q) U;generalize(if b.2.1+j.size>Ų then Á else(do pure ((<-b.2.2.2.2.2.2.2.1)++(<-j.zero).cells):Option (Array Ñ)))=X at d k;generalize(if b.1.size+1<m.size then ";" else "")=Y at d;simp only[bind,pure,Option.bind]at d;repeat' split at d
    all_goals first
     |(simp only[Ô]at d;subst d;exact k)
     |(simp at d;done)
  .intro a c v n;simp at c;subst c;simp at n
def aqB{c:č->Option ħ}(h:ZP c){d:TypeDesc}(a:Χ c d=Â zJ)(b:zJ.zero=Â z):jY z:=by
 unfold Χ at a;cases d with
 |struct k=>exact aqA h a b
 |array n e=>
  simp only[ê,Ü,ā,Ô]at a;obtain⟨f,v,st,_,rfl⟩:=a;simp only at b;split at b
  .simp at b
  .split at b
   .simp at b;subst b;exact Uy fq
   .simp only[ò]at b;obtain⟨j,g,rfl⟩:=b;refine Uy λx k=> ?_;simp only[Array.mem_flatten,Array.mem_replicate]at k;obtain⟨l,⟨_,rfl⟩,k⟩:=k;exact(h _ _ _ v g).gW x k
 |pointer e=>
  simp only[ê,Ü,ā]at a;let⟨f,v,a⟩:=a;repeat' split at a
  all_goals first
   |(simp at a;done)
   |(simp only[Ü,Ô]at a;obtain⟨_,_,rfl⟩:=a;simp only[ł,Ô]at b;subst b;constructor)
 |slice e=>
  simp only[ê,Ü,ā,Ô]at a;obtain⟨_,_,_,_,rfl⟩:=a;simp only[ł,Ô]at b;subst b;constructor
 |map k e=>
  simp only[ê,Ü,ā,Ô]at a;obtain⟨_,_,_,_,_,_,_,_,rfl⟩:=a;simp only[ł,Ô]at b;subst b;constructor
 |chan k e=>
  simp only[ê,Ü,ā,Ô]at a;obtain⟨_,_,_,_,rfl⟩:=a;simp only[ł,Ô]at b;subst b;constructor
 |func k e v=>
  simp only[ê,Ü,ā,Ô]at a;obtain⟨_,_,rfl⟩:=a;simp only[ł,Ô]at b;subst b;constructor
 |_=>simp at a
def abw{T:Tables}(a:∀(t:Nat) (i:ħ) (z:Ñ),T.types[t]?=Â i->i.zero=Â z->jY z):∀f,ZP<|ţ T f
 |0=>λt i z h=>by simp[ţ]at h
 |f+1=>λt i z h b=>by
  unfold ţ at h;split at h
  .exact a t i z h b
  .simp only[Ü]at h;let⟨d,_,c⟩:=h;exact aqB (abw a f) c b
def aqC(a:∀(t:Nat) (i:ħ) (z:Ñ),P.types[t]?=Â i->i.zero=Â z->jY z):nW P:=λt i z h b=>by
 have h:P.toTables.info? t=Â i:=h;unfold Tables.info? at h;split at h
 .exact a t i z h b
 .exact abw a _ t i z h b
end Go.Proofs.Y.Lift
namespace Go.Proofs.Y.fx
open Go Go.Conc Go.Proofs.Y.Lift Go.RowKit Go.Conc.Lib Go.ConcR.Gen
open Go.Proofs Go.Proofs.YtgpphkdoanciiaaGreatDoor
def Uz:Ñ->Bool
 |.agg a=>a.toList.all yL
 |v=>yL v
def abx(h:Uz v=Î):jY v:=by
 cases v with
 |agg b=>exact .oQ λi a=>Gt<|(ĭ.1 h) _<|î.2<|ă a
 |_=>exact Gt h
def aby:Ñ->Bool
 |ë a=>a.toList.all Uz
 |v=>Uz v
def aqD(h:aby v=Î):jY v:=by
 cases v with
 |tuple b=>exact .nU λi a=>abx<|(ĭ.1 h) _<|î.2<|ă a
 |_=>exact abx h
def FC(i:ħ):Bool:=match i.zero with
 |some z=>aby z
 |none=>Î
def aqE(h:P.types.toList.all FC=Î):nW P:=aqC λt i z a b=>by have:=(ĭ.1 h) i<|î.2<|ĵ a;unfold FC at this;rw[b]at this;exact aqD this
def yF:nW À:=aqE fS
end Go.Proofs.Y.fx
namespace Go.Proofs.Y.k9
open Go Go.Conc Go.Proofs Go.RowKit Go.Proofs.Y.Lift Go.Proofs.Y.fR Go.Proofs.Y.fx
noncomputable def nB:Nat:=À.globals.size
def pT(a:Nat->Prop)(b:Nat):Prop:=a b\/b=1\/b=2\/b=3\/b=4
def M9(b:Nat)(e:č)(w:Í):Prop:=∃c a,w.heap[b]?=Â (Û c e a)/\a.2<=c.size/\a.2<=16/\0<c.size/\∀v∈c.toList,∃k n,v=Å k n
structure mQ(w:Í):Prop where
 fA:nB<=w.heap.size
 M:kN nB (λb=>b=1\/b=2) w
 I:M9 3 304 w
 C:M9 4 305 w
 S:fR.lS w
 jd:iP w
 N:qE w
section
variable{V:Nat->Prop}
theorem mQ.r{w':Í}(h:mQ w)(f:nB<=w'.heap.size)(k:∀b,b=1\/b=2\/b=3\/b=4->w'.heap[b]?=w.heap[b]?):mQ w':=by
 have d:∀b o,b=1\/b=2\/b=3\/b=4->w'.cell? ⟨b,o,Á⟩=w.cell? ⟨b,o,Á⟩:=λb o e=>by simp only[à,k b e]
 refine⟨f,h.M.C λb e=>k b<|e.imp id È,?_,?_,?_,?_,?_⟩
 .let⟨c,i,a,r⟩:=h.I;exact⟨c,i,by rwa[k 3 fq],r⟩
 .let⟨c,i,a,r⟩:=h.C;exact⟨c,i,by rwa[k 4 fq],r⟩
 .have c:=h.S;have i:À.globalNamed "internal/strconv.uint64pow10"=Â 1:=fw
  unfold fR.lS χ ο at*;grind
 .let⟨c,g,a⟩:=h.jd.M;refine⟨⟨c,g,by rwa[k 2 fq]⟩,λi r j=> ?_⟩;rw[d 2 _ fq,d 2 _ fq,d 2 _ fq];exact h.jd.I i r j
 .have:=h.N;unfold qE at*;grind
def abz(u:kN nB X w)(x:∀b,X b->lG b=Ë)(g:mQ w):L5 (pT X) (pT X) nB w:=by
 have p:∀{a:Nat->Prop} {c:Array Ñ},(∀b,a b->pT X b)->fW (lz a nB) c c->fW (qp (pT X) nB) c c:=λ{a c} hX r=>r.I<|Aq hX;refine⟨?_,g.fA⟩;have s:∀b e,(e=304\/e=305)->lG b=Î->M9 b e w->∃c e d,w.heap[b]?=Â (Û c e d)/\d.2<=c.size/\fW (qp (pT X) nB) c c/\(pT X b->0<c.size/\(lG b=Î->(e=304\/e=305)/\d.2<=16)/\(lG b=Ë->Di c)):=λb e y B h=>by let⟨c,d,f,j,l,m,o⟩:=h;exact⟨c,e,d,f,j,pS λv i=>by obtain⟨k,n,rfl⟩:=o v i;exact .iG _ _,λ_=>⟨m,λ_=>⟨y,l⟩,λq=>by rw[B]at q;cases q⟩⟩
 rintro b (q|q|q|rfl|rfl)
 .let⟨c,e,d,f,j,l,m,o,_⟩:=u b q;exact⟨c,e,d,f,j,p (λ_=>È) l,λ_=>⟨m,λt=>(by rw[x b q]at t;cases t),λ_=>o⟩⟩
 .let⟨c,e,d,f,j,l,m,o,_⟩:=g.M b<|È q;exact⟨c,e,d,f,j,p (λi k=>k.elim (λz=>Ï<|È z) λz=>Ï<|Ï<|È z) l,λ_=>⟨m,λt=>(by rw[q]at t;cases t),λ_=>o⟩⟩
 .let⟨c,e,d,f,j,l,m,o,_⟩:=g.M b<|Ï q;exact⟨c,e,d,f,j,p (λi k=>k.elim (λz=>Ï<|È z) λz=>Ï<|Ï<|È z) l,λ_=>⟨m,λt=>(by rw[q]at t;cases t),λ_=>o⟩⟩
 .exact s 3 304 (È U) U g.I
 .exact s 4 305 (Ï U) U g.C
def pU(a:lG b=Ë\/i<16)(h:w.cell? ⟨b,i,Á⟩=Â v):(World.tp (lu V w) xQ 0).cell? ⟨b,i,Á⟩=Â v:=by
 have j:(World.tp (lu V w) xQ 0).heap[b]?=(w.heap[b]?).map (pL V b):=EO b;simp only[à,j];simp only[à]at h;cases g:w.heap[b]? with
 |none=>rw[g]at h;cases h
 |some k=>
  rw[g]at h;cases k with
  |cells c e m=>
   simp only[Ă,pL,ö,ì,if_false]at h|-;split
   .rename_i d;split at d
    .split at d
     .rename_i l;cases d;rcases a with a|a
      .rw[l]at a;cases a
      .unfold uT;rw[Array.getElem?_extract];simp;exact⟨by have:=(á.1 h).1;omega,h⟩
     .cases d;exact h
    .cases d;exact h
   .rename_i f;split at f
    .split at f<;>exact absurd U<|f _ _ _
    .exact absurd U<|f _ _ _
  |_=>cases h
def abA{T:ŷ}(d:kN nB X w)(e:∀b,X b->lG b=Ë):jb (lz X nB) w (World.tp (lu V w) T 0):=by rintro i j o v ⟨rfl,a⟩ c;exact⟨v,pU (È<|e i a) c,d.r a c⟩
end
def RD(s:List fL)(b:Ñ)(a:Nat->Prop)(w:Í):Prop:=∃c,kx c=s/\lC s/\MK b c w/\kN nB a w/\fp (lz a nB) b b
section
variable{V:Nat->Prop}{s:List fL}
def abB(h:kN nB X w)(k:∀b,X b->u.heap[b]?=w.heap[b]?):jb (lz X nB) w u:=by rintro i j o v ⟨rfl,a⟩ c;exact⟨v,by simp only[à,k i a];exact c,h.r a c⟩
def RD.r(h:RD s v X w)(k:∀b,X b->u.heap[b]?=w.heap[b]?):RD s v X u:=by let⟨l,d,e,f,a,c⟩:=h;let⟨g,i,j⟩:=I1 (abB a k) c f;exact⟨g,i.trans d,e,j,a.C k,c⟩
def I4(r:Nat)(q:Qn)(w:Í):Prop:=pR r q.x q.y q.g q.k q.r q.v q.C q.I w
def abC{Y:fv}(a:jb Y u w){r:Nat}{q:Qn}(b:Y r i)(h:I4 r q u):I4 i q w:= ⟨a.r b h.I,a.r b h.S,a.r b h.a,a.r b h.Y,a.r b h.N,a.r b h.M,a.r b h.c,a.r b h.b⟩
def aqF{T:ŷ}(g:mQ w):fR.lS (World.tp (lu V w) T 0):=by
 have a:=g.S;have h:À.globalNamed "internal/strconv.uint64pow10"=Â 1:=fw
 unfold fR.lS χ ο at*;rw[h]at a|-;simp only[ş]at a|-;have i:(World.tp (lu V w) T 0).heap[1]?=(w.heap[1]?).map (pL V 1):=EO 1;rw[i];cases f:w.heap[1]? with
 |none=>rw[f]at a;cases a
 |some j=>
  rw[f]at a;cases j with
  |cells c e k=>
   simp only[Ă,pL,lG]at a|-;split
   .rename_i b;split at b<;>(simp at b;obtain⟨rfl,_⟩:=b;exact a)
   .rename_i d;split at d
    .exact absurd U<|d _ _ _
    .exact absurd U<|d _ _ _
  |_=>cases a
theorem abD{T:ŷ}(g:mQ w):iP (World.tp (lu V w) T 0):=by
 let⟨f,h,d⟩:=g.jd.M;refine⟨?_,λi r e=> ?_⟩
 .have a:(World.tp (lu V w) T 0).heap[2]?=(w.heap[2]?).map (pL V 2):=EO 2;rw[a,d];simp only[Ă,pL,lG];grind
 .let⟨a,b,c⟩:=g.jd.I i r e;exact⟨pU (È U) a,pU (È U) b,pU (È U) c⟩
def aqG{T:ŷ}(g:mQ w):qE (World.tp (lu V w) T 0):=pU (Ï A) g.N
theorem FD{T:ŷ}:ko (World.tp (lu V w) T 0):=λi o h=>F_ (Sh:=V) (w:=w) i o h
theorem aqH{l:ff}{q:Qn}{r:Nat}(x:RD s v X l.w)(I:∀b,X b->l.M b)(y:kN nB V l.w)(J:∀b,V b->l.M b)(h:V r)(z:I4 r q l.w)(ok:q.Ok)(g:mQ l.w)(K:∀b,b=1\/b=2\/b=3\/b=4->l.M b)(j:∀b,X b\/V b->lG b=Ë)(m:List (Nat×fL))(B:kx m=s): EU (λg=>xU g=Î) 67 #[v,Ã<|Â ⟨r,0,Á⟩] l (pT λb=>X b\/V b) λe _=>e=Ä (qF m q):=by
 let⟨L,c,d,D,E,o⟩:=x;have t:=E.I y;refine⟨?_,abz t j g,?_,?_,λT=> ?_⟩
 .rintro b (q|q);all_goals grind
 .intro b a;unfold xU at a;simp at a;exact Ï a
 .refine pS λe a=> ?_;simp at a;rcases a with rfl|rfl
  .exact o.fT<|Aq λi k=>È<|È k
  .exact fp.jW (Y:=qp (pT λb=>X b\/V b) nB) ⟨⟨U,È<|Ï h⟩,U,U⟩
 .have a:=abA (V:=pT λb=>X b\/V b) (T:=T) t j;obtain⟨F,f,N,n,G,rfl,O,u⟩:=I1 a (o.fT<|Aq λi k=>È k) D;have i:n=(kx F).length:=by rw[u.r];simp[kx]
  have P:=d.I;have Q:=d.C;rw[f,c]at i;have C:=aql (cp:=G) u Z Z (λp H=> ?_) (abC a ⟨U,Ï h⟩ z) ok (abD g) (aqF g)<|aqG g
  .apply C.mono;rintro e S ⟨rfl,k⟩;exact⟨by rw[aqn<|f.trans<|c.trans B.symm],k.gW FD⟩
  .have:p.2∈s:=by rw[<-c,<-f];exact Ú.2 ⟨p,H,U⟩
   exact(d.r _ this).1
end
def CJ(r:Nat)(v:Int)(x:Nat)(gN:List Tx)(w:Í):Prop:=∃a n c b,Cz r v x a n c w/\Ct a n b w/\lR b=gN/\n<=1000
section
variable{V:Nat->Prop}{s:List fL}
def abE(h:kN nB X w):∀i,X i->i<w.heap.size:=λi a=>by let⟨c,e,d,b,_⟩:=h i a;exact(á.1 b).1
theorem abF{T:ŷ}(f:lG b=Ë)(h:w.heap[b]?=Â (Û d e xJ))(i:xJ.2<=d.size):∃a,(World.tp (lu V w) T 0).heap[b]?=Â (Û d e a)/\a.2<=d.size:=by have g:(World.tp (lu V w) T 0).heap[b]?=(w.heap[b]?).map (pL V b):=EO b;rw[g,h];simp only[Ă,pL,f,ì,if_false];grind
def aqI{T:ŷ}(h:kN nB X w)(d:∀b,X b->lG b=Ë):kN nB X (World.tp (lu V w) T 0):=λb a=>by let⟨c,e,m,f,g,i⟩:=h b a;let⟨j,k,l⟩:=abF (V:=V) (T:=T) (d b a) f g;exact⟨c,e,j,k,l,i⟩
def aqJ{T:ŷ}(k:kN nB X w)(l:∀b,X b->lG b=Ë){r:Nat}{v:Int}{gN:List Tx}(o:X r)(h:CJ r v i gN w):CJ r v i gN (World.tp (lu V w) T 0):=by
 let⟨D,n,E,F,g,p,G,H⟩:=h;have m:=l r o;refine⟨D,n,E,F,⟨pU (È m) g.M,pU (È m) g.N,pU (È m) g.I⟩,⟨p.r,λj a t q=> ?_⟩,G,H⟩;let⟨tb,I,s,u,d,J⟩:=p.C j a t q;have y:X tb:=by have:=k.r o g.I;rw[s]at this;exact CI this
 have z:=CH<|k.r y u;have f:=l a z;let⟨K,O,B⟩:=d.b;let⟨c,e,P,C,L,_⟩:=k a z;rw[B]at C;cases C;obtain⟨M,N,_⟩:=abF f B L;exact⟨tb,I,s,pU (È<|l tb y) u,⟨⟨K,M,N⟩,pU (È f) d.r,pU (È f) d.C,pU (È f) d.I,pU (È f) d.M,pU (È f) d.Y,pU (È f) d.N⟩,J⟩
def Rg(s:List fL)(v:Ñ)(u:Í):Prop:=∃X,RD s v X u
def Rg.tp{T:ŷ}(h:Rg s v w):Rg s v (World.tp w T n):=by let⟨X,h⟩:=h;exact⟨X,h.r λ_ _=>rfl⟩
def aqK{Y:fv}{d:Nat->Prop}(h:rN Y d u w)(a:fp Y v x)(e:Rg s v u):∃c,RD s x c w/\∀b,c b->∃i,Y i b:=by let⟨X,f⟩:=e;have g:RD s v X {u with tape:=w.tape,drawn:=w.drawn}:=f.r λ_ _=>rfl;let⟨t,j,k,l,m,n⟩:=g;let⟨o,p,q⟩:=I1 (As h) a l;exact⟨_,⟨o,p.trans j,k,q,Ux h m,M8 a n⟩,λb ⟨i,_,r⟩=>⟨i,r⟩⟩
theorem aqL{l:ff}{r:Nat}{gN:List Tx}(hRD:RD s v X l.w)(hU:∀b,X b->l.M b)(L:kN nB V l.w)(hV:∀b,V b->l.M b)(N:V r)(hq:CJ r h m gN l.w)(hx:m<8)(o:-1<=h)(UA:∀t∈gN,t.Ok)(hn:gN.length<=1000)(g:mQ l.w)(hG:∀b,b=1\/b=2\/b=3\/b=4->l.M b)(y:∀b,X b\/V b->lG b=Ë)(B:List (Nat×fL))(H:kx B=s): EU (λg=>xU g=Î) 66 #[v,Ã<|Â ⟨r,0,Á⟩] l (pT λb=>X b\/V b) λz u=>∃p n c,z=ë #[Ç p n c,Ä (ry B h m gN).2]/\Rg (sD B h m gN) (Ç p n c) u:=by
 let⟨vs,h1,D,h3,O,d⟩:=hRD;have P:=O.I L;refine⟨?_,abz P y g,?_,?_,λT=> ?_⟩
 .rintro b (q|q);all_goals grind
 .intro b u;unfold xU at u;simp at u;exact Ï u
 .refine pS λh o=> ?_;simp at o;rcases o with rfl|rfl
  .exact d.fT<|Aq λi j=>È<|È j
  .exact fp.jW (Y:=qp (pT λb=>X b\/V b) nB) ⟨⟨U,È<|Ï N⟩,U,U⟩
 .have f:=aqI (V:=pT λb=>X b\/V b) (T:=T) O λb q=>y b<|È q;obtain⟨z,k1,Q,n,S,rfl,W,E⟩:=I1 (abA (V:=pT λb=>X b\/V b) (T:=T) P y) (d.fT<|Aq λi j=>È j) h3;obtain⟨tp,tn,tc,a,q1,q2,rfl,q4⟩:=(aqJ (V:=pT λb=>X b\/V b) (T:=T) L (λb q=>y b<|Ï q) N hq);have c:=k1.trans h1;have hlen:n=s.length:=by rw[E.r,<-c];simp[kx]
  have avC:=D.I;have hle:=D.C;have nK:ko (World.tp (lu (pT λb=>X b\/V b) l.w) T 0):=FD;have C:=aoS E Z Z W (λp I=>by
   have:p.2∈s:=by rw[<-c];exact Ú.2 ⟨p,I,U⟩
   have:=(D.r _ this).2.2.2;omega) q1 q2 q4 (abD g) hx o
  have u:sD z h m (lR a)=sD B h m (lR a):=by unfold sD;rw[abq<|c.trans H.symm,c,H]
  have F:lC (sD z h m<|lR a):=lC.M (by rwa[c]) UA hn;have ha:=abq (c.trans H.symm) h m<|lR a;generalize World.tp (lu (pT λb=>X b\/V b) l.w) T 0=G at*;refine C.mono ?_;rintro e u' ⟨k,hA⟩;rcases hA with⟨J,rfl⟩|⟨nv,b,tA,J,rfl,e3,e4,gb,gn,gc,rfl,e6⟩
  .refine⟨⟨Q,n,S,by rw[ha],?_⟩,k.gW nK⟩;rw[<-u];have K:sD z h m (lR a)=s:=by unfold sD;rw[J,c];simp
   rw[K]at F|-;exact⟨X,z,c,F,⟨Q,n,S,U,W,E.I k⟩,f.C λi j=>k.N i (abE f i j) id,d⟩
  .let⟨i,m1,m2,m3,_⟩:=aqy f k (abE f) e4 e6 λp I=>by
    let⟨j,hj⟩:=ĕ I;let⟨sb,so,f1,f2,_⟩:=E.C j p.1 p.2 hj;have:X sb:=by rw[f1]at d;exact CI d
    exact CH<|f.r this f2
   refine⟨⟨Â ⟨gb,0,Á⟩,gn,gc,by rw[ha],?_⟩,k.gW nK⟩;rw[<-u];have K:sD z h m (lR a)=kx (z++[(b,nv)]):=by unfold sD;rw[J];simp[kx]
   rw[K]at F|-;exact⟨i,_,U,F,e3,m3,fp.kO (Y:=lz i nB) ⟨⟨U,m2⟩,U,U⟩ gn gc⟩
end
structure wq where
 r:Nat->Int×Nat×List Tx
 C:Nat->Qn
def nP(s:List fL):List (Nat×fL):=s.map λv=>(0,v)
theorem I5(s:List fL):kx (nP s)=s:=by simp[kx,nP,Function.comp_def]
def CK(s:List fL)(i:Int×Nat×List Tx):List fL:=sD (nP s) i.1 i.2.1 i.2.2
def pV(a:wq)(I:List Nat)(b:List fL):Nat->List fL
 |0=>b
 |k+1=>CK (pV a I b k)<|a.r<|I.getD k 0
def wv(a:wq)(kd:Nat->Int)(p:Nat)(s:List fL):ByteArray:=if kd p=1 then(ry (nP s) (a.r p).1 (a.r p).2.1 (a.r p).2.2).2 else qF (nP s) (a.C p)
def iE(e:ff)(a:Nat->Prop)(c:wq)(kd:Nat->Int)(R:Nat)(d:List fL)(f:Nat->Prop):xS where
 γ:=List fL
 C:=d
 M:=λk s g=>g=CK s (c.r<|(ia kd R).getD k 0)
 RD:=λs h V w=>RD s h V w/\∀b,V b->a b\/e.w.heap.size<=b
 I:=λp=>wv c kd p<|pV c (ia kd R) d<|fO kd p
 r:=f
def UB{kd:Nat->Int}:∀(R k:Nat),k<(ia kd R).length->fO kd ((ia kd R).getD k 0)=k
 |0,k,h=>by simp[ia]at h
 |R+1,k,h=>by
  by_cases q:kd R=1
  .rw[tx q]at h|-;rcases Nat.lt_or_ge k (ia kd R).length with z|z
   .have e:(ia kd R++[R]).getD k 0=(ia kd R).getD k 0:=by simp[Ğ,Ĥ z]
    rw[e];exact UB R k z
   .have e:k=(ia kd R).length:=by simp at h;omega
    subst e;simp[Ğ,fO]
  .rw[vR q]at h|-;exact UB R k h
section
variable{y:Nat->Prop}
def Na(h:kN nB y w)(g:mQ w):∀b,y b->lG b=Ë:=λb i=>by
 let⟨c,e,m,f,_,_,_,_,j,k⟩:=h b i;cases d:lG b with
 |false=>rfl
 |true=>
  unfold lG at d;simp at d;rcases d with rfl|rfl
  .let⟨l,qN,a,_⟩:=g.I;rw[f]at a;cases a;exact absurd U j
  .let⟨l,qN,a,_⟩:=g.C;rw[f]at a;cases a;exact absurd U k
def aqM(p:kN nB X w)(k:∀b,X b->u.heap[b]?=w.heap[b]?){r:Nat}{gN:List Tx}(g:X r)(h:CJ r c i gN w):CJ r c i gN u:=by
 have d:∀{b o:Nat} {z:Ñ},X b->w.cell? ⟨b,o,Á⟩=Â z->u.cell? ⟨b,o,Á⟩=Â z:=λ{b o z} l q=>by simp only[à,k b l];exact q
 let⟨C,n,D,E,m,s,F,G⟩:=h;refine⟨C,n,D,E,⟨d g m.M,d g m.N,d g m.I⟩,⟨s.r,λj a t q=> ?_⟩,F,G⟩;let⟨tb,H,y,B,e,I⟩:=s.C j a t q;have l:X tb:=by have:=p.r g m.I;rw[y]at this;exact CI this
 have f:=CH<|p.r l B;let⟨J,K,L⟩:=e.b;exact⟨tb,H,y,d l B,⟨⟨J,K,by rwa[k a f]⟩,d f e.r,d f e.C,d f e.I,d f e.M,d f e.Y,d f e.N⟩,I⟩
end
structure I6(l0:ff)(bt:wq)(kd:Nat->Int)(rq:Nat->Nat)(R:Nat)(Q:Nat->Prop):Prop where
 M:mQ l0.w
 I:∀b,b=1\/b=2\/b=3\/b=4->l0.O b
 C:kN nB Q l0.w
 ft:∀b,Q b->l0.O b
 r:∀p,p<R->Q (rq p)
 kR:∀p,p<R->kd p=1->CJ (rq p) (bt.r p).1 (bt.r p).2.1 (bt.r p).2.2 l0.w/\(bt.r p).2.1<8/\-1<=(bt.r p).1/\(∀t∈(bt.r p).2.2,t.Ok)/\(bt.r p).2.2.length<=1000
 S2:∀p,p<R->kd p≠1->I4 (rq p) (bt.C p) l0.w/\(bt.C p).Ok
def abG{V:Nat->Prop}{l:ff}{a:Ñ->Í->Prop}(h:EU X F d l V vQ)(b:∀v u,vQ v u->a v u):EU X F d l V a:= ⟨h.N,h.S,h.I,h.r,λT=>(h.C T).mono λe u q=>by
  cases e with
  |returned v=>exact⟨b v u q.1,q.2⟩
  |_=>exact q⟩
section
variable{l0:ff}{bt:wq}{kd:Nat->Int}{rq:Nat->Nat}{R:Nat}{Q C d:Nat->Prop}{B:List fL}{E F:Option ü}
def abH{s:List fL}(h:fx.nG ((kL (iE l0 d bt kd R B C) i n R kd rq D E F j9 j7 k m J j qX l0).r À) b s):s=pV bt (ia kd R) B b:=by
 have c:∀(b:Nat) (s:((kL (iE l0 d bt kd R B C) i n R kd rq D E F j9 j7 k m J j qX l0).r À).γ),fx.nG ((kL (iE l0 d bt kd R B C) i n R kd rq D E F j9 j7 k m J j qX l0).r À) b s->s=pV bt (ia kd R) B b:=λb s h=>by
  induction h with
  |vx=>rfl
  |DL _ a e=>
   rwa[e]at a
 exact c b s h
def aqN(h:I6 l0 bt kd rq R Q)(N:l0.w.heap.size<=m):EL (kL (iE l0 d bt kd R B C) i n R kd rq D E F j9 j7 k m J j qX l0):=by
 apply alz yF I' I_ U;intro a s O W l q t f x y P g G;let⟨f,S⟩:=f;have T:=y.fA m<|g m<|Ï U;have H:l0.w.heap.size<=l.w.heap.size:=Z
 have o:=G;have p:=h.M.r (Ì h.M.fA H) λb c=>o b<|h.I b c;have r:=h.C.C λb c=>o b<|h.ft b c;have e:=Ic<|we q;let⟨I,K⟩:=h.S2 _ e.1 e.2;refine⟨_,abG (aqH f x r (λb c=>g b<|È<|h.ft b c) (h.r _ e.1) (abC (abB h.C λb c=>o b<|h.ft b c) ⟨U,h.r _ e.1⟩ I) K p (λb c=>g b<|È<|h.I b c) (λb c=>c.elim (Na (by let⟨_,_,_,_,z,_⟩:=f;exact z) p b)<|Na r p b) (nP s)<|I5 s) λv u L=> ?_⟩;rw[L];have z:=abH t;have M:(kL (iE l0 d bt kd R B C) i n R kd rq D E F j9 j7 k m J j qX l0).b a=fO kd ((jE kd R).getD a 0):=if_pos q;rw[M]at z;show _=Ä (wv bt kd ((jE kd R).getD a 0)<|pV bt (ia kd R) B<|fO kd<|(jE kd R).getD a 0);rw[<-z];unfold wv;rw[if_neg e.2]
theorem aqO(h:I6 l0 bt kd rq R Q)(hZ:(∀b,Q b->d b)/\∀b,b=1\/b=2\/b=3\/b=4->d b)(Z9:l0.w.heap.size<=m):EK (kL (iE l0 d bt kd R B C) i n R kd rq D E F j9 j7 k m J j qX l0):=by
 refine alA yF I' I_ U (λs o u=>Rg s o u) (λs o u T n q=>Rg.tp q) ?_;intro T s o W l H I g K L hq r M;let⟨g,PO⟩:=g;have hs:=L.fA m<|r m<|Ï U;have N:l0.w.heap.size<=l.w.heap.size:=Z
 have t:=M;have x:=h.M.r (Ì h.M.fA N) λb a=>t b<|h.I b a;have y:=h.C.C λb a=>t b<|h.ft b a;have G:=H;have f:=Ib<|we G;let⟨O,P,S,V,X⟩:=h.kR _ f.1 f.2;refine⟨_,abG (aqL g K y (λb a=>r b<|È<|h.ft b a) (h.r _ f.1) (aqM h.C (λb a=>t b<|h.ft b a) (h.r _ f.1) O) P S V X x (λb a=>r b<|È<|h.I b a) (λb a=>a.elim (Na (by let⟨_,_,_,_,z,_⟩:=g;exact z) x b)<|Na y x b) (nP s)<|I5 s) λv u hv=> ?_,?_⟩
 .obtain⟨p,z,c,rfl,Y⟩:=hv;refine⟨p,z,c,CK s<|bt.r<|(ia kd R).getD T 0,?_,U,Y⟩;have e:(kL (iE l0 d bt kd R B C) i n R kd rq D E F j9 j7 k m J j qX l0).e (T+1)=wv bt kd ((ia kd R).getD T 0) (pV bt (ia kd R) B<|fO kd<|(ia kd R).getD T 0):=U;rw[e,UB R T G,<-(abH I)];unfold wv;rw[if_pos f.2]
 .intro Y Sh u w s' B' LX e p h3 h4;let⟨V',k1,c⟩:=aqK e p h3;refine⟨V',⟨k1,λb a=> ?_⟩,c⟩;let⟨z,hi⟩:=c b a;rcases h4 z b hi with((q|q)|q)|q;all_goals grind
end
section
variable{R:Nat}{kd:Nat->Int}{o:Nat->Nat}{r:List Ē}{l:ff}{u:Nat->ff}{bt:wq}{j f:Nat->Prop}{s0:List fL}
def aqP{s:List fL}(h:zN (iE l f bt kd R s0 j) k s):s=pV bt (ia kd R) s0 k:=by
 have b:∀(k:Nat) (s:(iE l f bt kd R s0 j).γ),zN (iE l f bt kd R s0 j) k s->s=pV bt (ia kd R) s0 k:=λk s h=>by
  induction h with
  |vx=>rfl
  |DL _ a c=>
   rwa[c]at a
 exact b k s h
structure At(f:Nat->Prop)(bt:wq)(R:Nat)(kd:Nat->Int)(s0:List fL)(l:ff)(an:Nat)(sl:Ñ)(l':ff):Prop where
 M:∀b,l.O b->l'.O b/\l'.w.heap[b]?=l.w.heap[b]?
 r:l'.O an/\∀p,p<R->l'.w.cell? ⟨an,p,Á⟩=Â (Ä<|wv bt kd p<|pV bt (ia kd R) s0<|fO kd p)
 S:∃V,RD (pV bt (ia kd R) s0<|fO kd R) sl V l'.w/\∀b,V b->l'.O b/\(f b\/l.w.heap.size<=b)
 d:l'.d=0
 q:¬l'.q
 rd:∀b,¬l'.I b
 C:(∀a,¬l'.r a)/\(∀a,¬l'.N a)/\∀a,¬l'.K a
 I:l'.w.cell? ⟨an,R,Á⟩=Á/\kY l'.w an=Â (0,0)
def aqQ{a:ff}(h:Gr (iE l f bt kd R s0 j) R kd l i v a):At f bt R kd s0 l i v a:=by let⟨s,V,g,c,k⟩:=h.Ie;have e:=aqP g;subst e;exact⟨h.vB,h.kG,⟨V,c.1,λb q=>⟨k b q,c.2 b q⟩⟩,h.d,h.q,h.rd,h.xT,h.Dm⟩
def aqR{J:(Loc->Prop)->Nat->Jd}{F:Ē}(P:qX=F.at y (Ð Q (j9::jJ)::L)::r)(c:fx.si À zX i (LV kd o R n v l qX) .fD D u E w qJ)(C:Option (Nat×Nat))(s:gC l)(S:∀b,¬l.I b)(W:¬l.q)(Y:l.d=0)(Nb:wh zX i l)(H:I6 l bt kd o R X)(hZ:(∀b,X b->f b)/\∀b,b=1\/b=2\/b=3\/b=4->f b)(I:∀b,f b->l.O b)(K:∀b,j b->f b)(Ch:RD s0 v j l.w)(xP:w.os=l.w.os/\w.output=l.w.output)(hn:1<=n)(hs:n+R<1000) (hJ:∀t x z B p m c,wh t x z->gC z->At f bt R kd s0 l B (Ç p m c) z->fx.fl À Î (J t x) z (G (F.at (y.put ((Q[j9]?).bind (·.dst))<|ë #[Ç (Â ⟨B,0,Á⟩) R R,Ç p m c])<|Ð Q jJ::L) r)): ∃N t x T V Ig g e tA h,ſ À N (Į E w C) qJ=(.next<|Į g e tA,h)/\(e.os=l.w.os/\e.output=l.w.output)/\fx.si À t x (J t x) T V Ig g e h:= alq (M:=iE l f bt kd R s0 j) P c C s S W Y Nb (λb q=>I b<|K b q) (λs C V w e h L=>⟨h.1.r L,h.2⟩) (λs C V w h=>⟨by let⟨_,_,_,⟨g,n,N,e,_⟩,_⟩:=h.1;exact⟨g,n,N,e⟩,λb q=>(h.2 b q).imp (I b) id⟩) ⟨Ch,λb h=>È<|K b h⟩ xP hn hs (λg N V T cq B ba bi all e=>⟨aqO H hZ e,aqN H e⟩) λt x z B p m c e g N=>hJ t x z B p m c e g<|aqQ N
end
end Go.Proofs.Y.k9
namespace Go.Proofs.Y.nQ
open Go Go.Proofs Go.RowKit Go.Proofs.Y.Lift Go.Proofs.Y.fR
def jo(c:Int):Bool:=decide (48<=c)&&decide (c<=57)
def sE(c:Int):Bool:=decide (97<=c)&&decide (c<=104)
def wx(c:Int):Int:=
 if c=105 then 1 else if c=103 then 2 else if c=98 then 3 else if c=99 then 4 else if c=109 then 5
 else if c=114 then 6 else if c=108 then 7 else if c=117 then 8 else if c=100 then 9 else 0
def Nc(c:Int):Int:=if c=62 then 1 else if c=123 then 2 else if c=58 then 3 else 0
def abI(h:48<=c/\c<=57):jo c=Î:=by simp[jo,h]
theorem FE(c:Int):jo c=Î↔(48<=c/\c<=57):=by simp[jo]
def aqS(c:Int):sE c=Î↔(97<=c/\c<=104):=by simp[sE]
def rB(k:Int):List Int:=
 if k=1 then[86,58,120,47,66]else if k=2 then[86,58,120,115]else if k=3 then[86,58,120]
 else if k=4 then[86,58,120,62,121,40,110,44,107,41]else if k=5 then[86,58,120,62,121,40,107,41]
 else if k=9 then[86,58,87]else[86]
def sF(k:Int):List Int:=
 if k=1 then[121,61,110]else if k=2 then[80]else[121,40,110,44,107,41]
def pe(a c:Int):Bool:=
 if a=86\/a=87 then c==104||jo c
 else if a=110\/a=107 then jo c
 else if a=120\/a=121 then sE c
 else if a=115 then jo c||(decide (97<=c)&&decide (c<=102))
 else c==a
def qG(a c:Int):Int:=
 if c=48\/jo c=Ë then 0
 else if a=86\/a=87 then 1
 else if a=110\/a=107 then 5
 else 0
def j2(s:ByteArray):List Int:=s.data.toList.map λc=>((c.toNat:Nat):Int)
def aqT(B:ByteArray)(k:Nat)(h:k<B.size):(j2 B).drop k=((B[k].toNat:Nat):Int)::(j2 B).drop (k+1):=by
 have a:k<(j2 B).length:=by simpa[j2]using h
 rw[List.drop_eq_getElem_cons a];congr 1;simp[j2,ċ]
theorem UC(B:ByteArray):(j2 B).length=B.size:=by unfold j2;simp_all
theorem wy(s:ByteArray)(h:0<s.size):j2 s=((s[0].toNat:Nat):Int)::(j2 s).tail:=by have:=aqT s 0 h;grind
theorem abJ(s:ByteArray)(h:s.size=0):j2 s=[]:=by grind [Ý,UC]
def aqU(s:ByteArray):j2 (s.extract 1 s.size)=(j2 s).tail:=by unfold j2;rw[Ĳ,ĺ,<-List.map_tail];congr 1;rw[ĥ,<-List.drop_one];apply List.take_of_length_le;simp_all
theorem aqV(s:ByteArray)(h:s.size<=10):(s.extract 1 s.size).size<=10:=by grind [Č]
theorem aqW(a c:Int):0<=qG a c/\qG a c<=5:=by unfold qG;grind
structure PT where
 c:List Int
 p:ByteArray
structure PR where
 c:List Int
 r:List PT
structure PD where
 S:List PR
 r:Bool
 I:PR
 M:Bool
 N:PT
structure PS where
 C:List Int
 r:Int
 I:Int
 M:Int
 d:PD
namespace PD
def Y(d:PD):List PT:=if d.M then d.I.r++[d.N]else d.I.r
def C(d:PD):List PR:=if d.r then d.S++[⟨d.I.c,d.Y⟩]else d.S
def ov(d:PD)(i:Nat)(z:Int):PD:={d with I:={d.I with c:=d.I.c.set i z}}
def oK(d:PD)(i:Nat)(z:Int):PD:={d with N:={d.N with c:=d.N.c.set i z}}
def iz(d:PD)(i:Nat)(z:Int):PD:=if d.M then d.oK i z else d.ov i z
def oL(d:PD)(p:ByteArray):PD:={d with N:={d.N with p:=p}}
def FC:PT:=⟨[0,0,0,0,0],⟨#[]⟩⟩
def abK(k:Int):PR:=⟨[0,0,0,0,k,0,0,0],[]⟩
def nR(d:PD):PD:={d with I:=⟨d.I.c,d.Y⟩,M:=Î,N:=FC}
def FF(d:PD)(k:Int):PD:={S:=d.C,r:=Î,I:=abK k,M:=Ë,N:=d.N}
def fV(d:PD)(want z:Int):PD:=
 if want=86 then d.ov 5 z else if want=87 then d.ov 6 z else if want=120 then d.iz 0 z else if want=121 then d.iz 1 z
 else if want=110 then d.iz 2 z else if want=107 then d.iz 3 z else if want=115 then d.ov 7 z else d
def tH(d:PD)(i:Nat):Int:=if d.M then d.N.c.getD i 0 else d.I.c.getD i 0
def G(d:PD)(a:Int):Int:=if a=86 then d.I.c.getD 5 0 else if a=87 then d.I.c.getD 6 0 else if a=110 then d.tH 2 else d.tH 3
end PD
def nj(a c:Int):Int:=
 if a=120\/a=121 then Þ [97,98,99,100,101,102,103,104] c.toNat.toUInt8
 else if a=115 then Þ [48,49,50,51,52,53,54,55,56,57,97,98,99,100,101,102] c.toNat.toUInt8
 else if c=104 then-1 else(c-48)%256
def pW(z c:Int):Int:=É.wrap<|É.wrap (z*10)+(c-48)%256
def pX(st:PS)(c:Int):Option PS:=
 if c=59/\st.d.S.length+1<24 then Â {st with C:=[82]}
 else if c=44/\0<st.d.Y.length/\st.d.Y.length<8 then Â {st with C:=[120,84],d:=st.d.nR}
 else Á
def yr(st:PS)(k:Int):Option PS:=if k=0 then Á else Â {st with C:=rB k,d:=st.d.FF k}
def yt(st:PS)(k:Int):Option PS:=if k=0 then Á else Â {st with C:=sF k,I:=0,d:=st.d.oK 4 k}
def ow(st:PS)(a c:Int):PS:={st with r:=qG a c,M:=a,d:=st.d.fV a (nj a c)}
def jU(B:ByteArray)(k:Nat)(st:PS)(c:Int):Option PS:=
 match st.C with
 |[]=>pX st c
 |want::tl=>
  if want=82 then yr st (wx c)
  else if want=66 then
   if sE c=Î then Â (ow {st with C:=[84],d:=st.d.nR} 120 c)else pX st c
  else if want=84 then yt st (Nc c)
  else if want=80 then
   if c=125 then Â {st with C:=tl,d:=st.d.oL (B.extract (k-st.I.toNat) k)}
   else if st.I=40\/lH c=0 then Á else Â {st with I:=st.I+1}
  else if pe want c=Î then Â {ow st want c with C:=tl}
  else Á
def CL(st:PS)(c:Int):PS:={st with r:=st.r-1,d:=st.d.fV st.M (pW (st.d.G st.M) c)}
def kU(B:ByteArray)(k:Nat)(st:PS)(c:Int):Option PS:=
 if 0<st.r/\jo c=Î then Â (CL st c)else jU B k {st with r:=0} c
def jV(B:ByteArray):Nat->Nat->PS->Nat×PS
 |0,k,st=>(k,st)
 |f+1,k,st=>if h:k<B.size then match kU B k st (B[k].toNat:Int)with
  |none=>(k,st)
  |some a=>jV B f (k+1) a
  else(k,st)
def pd0:PD:=⟨[],Ë,⟨[],[]⟩,Ë,⟨[],⟨#[]⟩⟩⟩
def nS:PS:=⟨[82],0,0,0,pd0⟩
def sG(c:Int)(w:Í): Ò À 94 #[Å ū c] w λe a=>e=Æ (õ<|jo c)/\a=w:=by
 go_enter Tryz.func94,Tryz.ntmps94;go_wp2;all_goals go_ret
 all_goals exact⟨M_ (by simp only[jo];first|(simp[*];done)|(rw[Ę];simp;omega)),U⟩
def aqX(s:ByteArray)(c:Int)(w:Í): Ò À 167 #[Ä s,Å ū c] w λe a=>e=Æ (Å É<|Þ s.data.toList c.toNat.toUInt8)/\a=w:=by go_enter Tryz.func167,Tryz.ntmps167;go_wp2;rw[run_callFunc_extern Tryz.func185 fw fw fw fw,Lib.run_indexByteString];simp only[ų];rw[Oper.upon_value];go_wp2;go_ret;exact⟨U,U⟩
def I7(s:ByteArray)(c:Int)(w:Í): Ò À 146 #[Ä s,Å ū c] w λe a=>e=Æ (Å É<|Þ s.data.toList c.toNat.toUInt8)/\a=w:=by go_enter Tryz.func146,Tryz.ntmps146;go_wp2_with (go_at_call 167;refine(aqX _ _ _).mono ?_;rintro e a ⟨rfl,rfl⟩);go_ret;exact⟨U,U⟩
def Nd(c:Int):Bool:=jo c||(decide (97<=c)&&decide (c<=102))
def aqY:∀n:Fin 256,decide (0<=Þ [97,98,99,100,101,102,103,104] n.val.toUInt8)=sE (n.val:Int):=by decide+kernel
def aqZ:∀n:Fin 256,decide (0<=Þ [48,49,50,51,52,53,54,55,56,57,97,98,99,100,101,102] n.val.toUInt8)=Nd (n.val:Int):=by decide+kernel
def aq0(a:0<=c)(b:c<256):decide (0<=Þ [97,98,99,100,101,102,103,104] c.toNat.toUInt8)=sE c:=by have:=aqY ⟨c.toNat,Z⟩;rwa[show((c.toNat:Nat):Int)=c from by omega]at this
def aq1(a:0<=c)(b:c<256):decide (0<=Þ [48,49,50,51,52,53,54,55,56,57,97,98,99,100,101,102] c.toNat.toUInt8)=Nd c:=by have:=aqZ ⟨c.toNat,Z⟩;rwa[show((c.toNat:Nat):Int)=c from by omega]at this
def UD(c:Int)(b:0<=c)(d:c<256)(w:Í): Ò À 98 #[Å ū c] w λe a=>e=Æ (õ<|sE c)/\a=w:=by
 have f:=aq0 b d;go_enter Tryz.func98,Tryz.ntmps98;go_wp2_with (go_at_call 146;refine(I7 _ _ _).mono ?_;rintro e a ⟨rfl,rfl⟩);all_goals go_ret
 all_goals exact⟨U,U⟩
def aq2(c:Int)(b:0<=c)(d:c<256)(w:Í): Ò À 149 #[Å ū c] w λe a=>e=Æ (õ<|Nd c)/\a=w:=by
 have f:=aq1 b d;go_enter Tryz.func149,Tryz.ntmps149;go_wp2_with (go_at_call 146;refine(I7 _ _ _).mono ?_;rintro e a ⟨rfl,rfl⟩);all_goals go_ret
 all_goals exact⟨U,U⟩
def aq3(c:Int)(w:Í): Ò À 102 #[Å ū c] w λe a=>e=Æ (Å É<|Nc c)/\a=w:=by
 go_enter Tryz.func102,Tryz.ntmps102;go_wp2;all_goals go_ret
 all_goals refine⟨EY ?_,U⟩
 all_goals simp only[beq_iff_eq,beq_eq_false_iff_ne,ne_eq]at*
 all_goals simp[Nc, *]
def aq4(c:Int)(w:Í): Ò À 97 #[Å ū c] w λe a=>e=Æ (Å É<|wx c)/\a=w:=by
 go_enter Tryz.func97,Tryz.ntmps97;go_wp2;all_goals go_ret
 all_goals refine⟨EY ?_,U⟩
 all_goals simp only[beq_iff_eq,beq_eq_false_iff_ne,ne_eq]at*
 all_goals simp[wx, *]
def abL(b c:Int)(d:0<=c)(f:c<256)(w:Í): Ò À 104 #[Å ū b,Å ū c] w λe a=>e=Æ (õ<|pe b c)/\a=w:=by
 go_enter Tryz.func104,Tryz.ntmps104;go_wp2_with (first|(go_at_call 94;refine(sG _ _).mono ?_;rintro e a ⟨rfl,rfl⟩)|(go_at_call 98;refine(UD _ d f _).mono ?_;rintro e a ⟨rfl,rfl⟩)|(go_at_call 149;refine(aq2 _ d f _).mono ?_;rintro e a ⟨rfl,rfl⟩));all_goals go_ret
 all_goals refine⟨M_ ?_,U⟩
 all_goals try go_light
 all_goals simp only[beq_iff_eq,beq_eq_false_iff_ne,ne_eq]at*
 all_goals unfold pe
 all_goals first|(simp[Nd, *];done)|(rw[Ę];simp[*];done)|(rw[Ę];simp[*];omega)
def aq5(k:Int)(w:Í): Ò À 145 #[Å É k] w λe a=>(∃b:ByteArray,e=Æ (Ä b)/\b.size<=10/\j2 b=rB k)/\a=w:=by
 go_enter Tryz.func145,Tryz.ntmps145;go_wp2;all_goals go_ret
 all_goals refine⟨⟨_,U,?_,?_⟩,U⟩
 all_goals try go_light
 all_goals simp only[beq_iff_eq,beq_eq_false_iff_ne,ne_eq]at*
 all_goals first|(simp[j2,rB, *];done)|decide
def aq6(k:Int)(w:Í): Ò À 148 #[Å É k] w λe a=>(∃b:ByteArray,e=Æ (Ä b)/\b.size<=10/\j2 b=sF k)/\a=w:=by
 go_enter Tryz.func148,Tryz.ntmps148;go_wp2;all_goals go_ret
 all_goals refine⟨⟨_,U,?_,?_⟩,U⟩
 all_goals try go_light
 all_goals simp only[beq_iff_eq,beq_eq_false_iff_ne,ne_eq]at*
 all_goals first|(simp[j2,sF, *];done)|decide
def nk(m s:Nat):Ñ->Prop
 |Å ū _=>False
 |Å _ _=>True
 |õ _=>True
 |Ä _=>True
 |Ã Á=>True
 |Ã (Â a)=>m<=a.block/\a.block<s
 |Ç Á _ _=>True
 |Ç (Â a) _ _=>m<=a.block/\a.block<s
 |_=>False
def nk.r(h:nk m i v)(d:i<=n):nk m n v:=by
 cases v with
 |int k b=>cases k<;>exact h
 |pointer a=>cases a with
  |none=>trivial
  |some a=>exact⟨h.1,Ġ h.2 d⟩
 |slice a b c=>cases a with
  |none=>trivial
  |some a=>exact⟨h.1,Ġ h.2 d⟩
 |_=>exact h
def Nf(m s:Nat)(o:Obj):Prop:=∃c e a,o=Û c e a/\a.2<=c.size/\0<c.size/\e≠304/\e≠305/\∀v∈c.toList,nk m s v
def jH(m:Nat)(w:Í):Prop:=∀i o,m<=i->w.heap[i]?=Â o->Nf m w.heap.size o
def Nf.r{o:Obj}(h:Nf m i o)(a:i<=n):Nf m n o:=by let⟨c,e,b,d,f,g,j,k,l⟩:=h;exact⟨c,e,b,d,f,g,j,k,λv p=>(l v p).r a⟩
def jH.I(w:Í):jH w.heap.size w:=λi o a h=>by rw[ı a]at h;cases h
def jH.fY(h:jH m w):jH m w.drew:=h
def jH.iV(h:jH m w)(n:Nat):jH m (w.drewN n):=h
theorem jH.gL(h:jH m w)(cs:Array Ñ)(t:č)(c:0<cs.size)(b:t≠304/\t≠305)(d:∀v∈cs.toList,nk m w.heap.size v):jH m (w.alloc<|Û cs t):=by
 intro i o f a;have k:(w.alloc<|Û cs t).heap.size=w.heap.size+1:=fq
 by_cases e:i<w.heap.size
 .rw[Š _ _ _ e]at a;exact(h i o f a).r Z
 .by_cases g:i=w.heap.size
  .subst g;rw[Ŵ]at a;cases a;exact⟨cs,t,(0,0),U,Ø _,c,b.1,b.2,λv j=>(d v j).r Z⟩
  .grind
def jH.r(h:jH m w)(p:ü)(l:nk m w.heap.size v):jH m (w.setCell p v):=by
 intro i o f a;have n:(w.setCell p v).heap.size=w.heap.size:=fq
 rw[n];by_cases e:i=p.block
 .subst e;unfold Ż at a;simp only[Ķ,if_true]at a;cases d:w.heap[p.block]? with
  |none=>rw[d]at a;cases a
  |some x=>
   rw[d]at a;obtain⟨c,e,r,rfl,g,j,s,t,k⟩:=h _ _ f d;simp only[Ă,Ô]at a;subst a;refine⟨_,e,r,U,?_,?_,s,t,λu b=> ?_⟩
   .split
    .exact g
    .rwa[Ĭ]
   .split
    .exact j
    .rwa[Ĭ]
   .split at b
    .exact k u b
    .rw[Array.toList_setIfInBounds]at b;rcases Ħ b with q|q
     .exact k u q
     .rwa[q]
 .rw[ġ _ _ _ _ (by simpa using e)]at a;exact h i o f a
theorem aq7{ty:č}{bytes base:Nat}(y:P.underlying t=Â (.slice e))(B:P.info? e=Â zJ)(G:zJ.zero=Â (Ã Á)) (s:zJ.size=1) (H:zJ.bytes=bytes) (f:w.ownsRow base e 1 v n l) (a:ü) (c:Nat) (C:∀j M,[z][j]?=Â M->w.cell? (a.add j)=Â M) (N:z.oneCell'=Î) (O:n+1<=ī) (I:(n+1)*bytes<=140737488355328) (W:base<=w.heap.size) (X:my e=Ë) (hm:m<=base) (D:jH m w) (hg:nk m w.heap.size z) (Y:e≠304/\e≠305): ∃h u,(ė #[t,t] ty #[v,Ç (Â a) 1 c]).run P w=.ok h u/\qt w base e 1 v n l 1 [z] h u/\jH m u/\nk m u.heap.size h:=by
 obtain⟨h,u,J,E⟩:=Td y B G s H U f a c [z] Z U C (λx b=>by simp at b;subst b;exact N) O I W<|È X;have hgv:nk m u.heap.size h:=by
  obtain⟨p,o,rfl⟩:=jl E.ft;cases p with
  |none=>trivial
  |some p=>
   have k:=E.ft.lt p.block (by rcases E.ft.2 with⟨q,_⟩|⟨g,r,d,q,_⟩<;>(cases q;try rfl));exact⟨Z,k.2⟩
 refine⟨h,u,J,E,?_,hgv⟩;have q:[z].length=1*zJ.size:=by rw[s];rfl
 have hlx:l.length=n*zJ.size:=by rw[s];exact f.1
 have alU:n+1<=9223372036854775807:=by simp only[ī]at O;omega
 have um:∀x∈l,nk m w.heap.size x:=λx b=>by
  rcases f.2 with⟨_,rfl⟩|⟨g,r,d,rfl,hbg,p,hnc,hcm,Q,htake⟩
  .grind
  .let⟨c2,e2,qN,S,_,_,_,_,q6⟩:=D g _ Z p;grind
 have gr:∀T,jH m (w.drew.alloc<|Û (l.toArray++[z].toArray++φ (Ĺ<|Ã Á) (grownCap w (n+1) T e-(n+1))) e):=λT=>by
  refine jH.gL D _ _ (by simp;omega) Y λx b=> ?_;simp only[Array.toList_append,â]at b;rcases b with(b|b)|b
  .exact um x b
  .grind
  .have:=Ta b;simp[Ĺ]at this;subst this;trivial
 rcases f.2 with⟨rfl,rfl⟩|⟨g,r,d,rfl,hbg,p,hnc,hcm,Q,htake⟩
 .have b:=Ý (by simpa using f.1);subst b;have K:=run_append_nil w t ty e zJ (Ã Á) y B G a 1 c [z] q C Z Z (by rw[H];have k:=I;simp only[œ]at k;omega);grind
 .by_cases aq8:n+1<=r
  .have Te:n*zJ.size+[z].length<=d.size:=by rw[q,Q,s];omega
   have K:=run_append_room w t ty e zJ y B g n r d p a 1 c [z] q C (λx b=>by simp at b;subst b;exact N) aq8 Te;rw[K]at J;cases J;have aq9:=setRow_heap w g d (d.toList.take (n*zJ.size)++[z]++d.toList.drop (n*zJ.size+[z].length)).toArray e _ p;have ara:=λk (L:k≠g)=>setRow_other w g k (d.toList.take (n*zJ.size)++[z]++d.toList.drop (n*zJ.size+[z].length)).toArray L;let⟨c2,e2,qN,S,q2,q3,q4,q5,q6⟩:=D g _ Z p;cases S;intro k o L F;have kq:(w.setRow g (d.toList.take (n*zJ.size)++[z]++d.toList.drop (n*zJ.size+[z].length)).toArray).heap.size=w.heap.size:=fq
   rw[kq];by_cases V:k=g
   .subst V;rw[aq9]at F;cases F;refine⟨_,_,_,U,fq,(by simp;omega),q4,q5,λx b=> ?_⟩;grind
   .rw[ara k V]at F;exact D k o L F
  .have k:w.ownsRow base e zJ.size (Ç (Â ⟨g,0,Á⟩) n r) n l:=by rwa[s]
   have K:=run_append_grow w t ty e zJ (Ã Á) y B G ⟨g,0,Á⟩ n r l hlx (k.cells U) a 1 c [z] q C Z Z (by rw[H];exact growslice_fits Z I);grind
def abM{f:Array ĝ}{E:Prop}{base:Nat} (k:o.guard=Á) (s x:Operand) (t:č) (p:o.op=Op.call {callee:=Callee.builtin κ,args:=#[s,x],argTypes:=#[t,t]}) {bytes:Nat} (q:P.underlying t=Â (.slice e)) (r:P.info? e=Â zJ) (B:zJ.zero=Â (Ã Á)) (C:zJ.size=1) (D:zJ.bytes=bytes) (F:y.eval s=v) (G:w.ownsRow base e 1 v n l) (ad:ü) (H:y.eval x=Ç (Â ad) 1 b) (I:∀j g,[z][j]?=Â g->w.cell? (ad.add j)=Â g) (J:z.oneCell'=Î) (L:n+1<=ī) (M:(n+1)*bytes<=140737488355328) (N:base<=w.heap.size) (O:my e=Ë) (S:m<=base) (T:jH m w) (V:nk m w.heap.size z) (W:e≠304/\e≠305) (h:∀d u,qt w base e 1 v n l 1 [z] d u->jH m u->nk m u.heap.size d->K (y.put o.dst d) u): if đ o (Ι f y.tmps)=Î then Oper.wp P o y w K vJ else E:=by
 have X:đ o (Ι f y.tmps)=Î:=by simp[đ,k]
 rw[if_pos X];let⟨d,u,Y,h2,h3,h4⟩:=aq7 (ty:=o.type) q r B C D G ad b I J L M N O S T V W;unfold Oper.wp;simp[ś,p,ρ,ar,ς,F,H,Y,ų];exact h d u h2 h3 h4
def nT(l:List Nat):List Ñ:=l.map λa=>Ã<|Â ⟨a,0,Á⟩
def oM(l:List Int):List Ñ:=l.map λz=>Å É z
def FG(p:PT):List Ñ:=oM p.c++[Ä p.p]
def CM(c:List Int)(a:Ñ):List Ñ:=oM c++[a]
structure pf(lo hi:Nat)(tb:List Nat)(l:List PT)(w:Í):Prop where
 r:tb.length=l.length
 I:∀(j a:Nat) (p:PT),tb[j]?=Â a->l[j]?=Â p->lo<=a/\a<hi/\p.c.length=5/\fj a (FG p) 200 w
structure wz(B q:Nat)(r:PR)(w:Í):Prop where
 M:q<B
 C:r.c.length=8
 I:∃vb tb,fj q (CM r.c vb) 161 w/\w.ownsRow 0 149 1 vb tb.length (nT tb)/\(∀j,vb.ownBlock=Â j->j<B)/\pf 0 B tb r.r w
structure pY(B:Nat)(qs:List Nat)(rs:List PR)(w:Í):Prop where
 I:qs.length=rs.length
 M:∀(j q:Nat) (r:PR),qs[j]?=Â q->rs[j]?=Â r->wz B q r w
section
variable{w':Í}{lo hi B q:Nat}{tb qs:List Nat}{l:List PT}{r:PR}{rs:List PR}
def pf.C(h:pf lo hi tb l w)(k:fe X w w')(f:∀a c g,lo<=a->a<hi->w.heap[a]?=Â (Û c 200 g)->¬X a):pf lo hi tb l w':= ⟨h.r,λj a p i m=>by let⟨b,d,n,e⟩:=h.I j a p i m;exact⟨b,d,n,e.I k<|f a _ _ b d e⟩⟩
def pf.M(h:pf lo hi tb l w)(f:i<=lo)(g:hi<=n):pf i n tb l w:= ⟨h.r,λj a p b c=>by let⟨k,m,d,e⟩:=h.I j a p b c;exact⟨Z,Z,d,e⟩⟩
theorem pf.N(lo hi:Nat)(w:Í):pf lo hi [] [] w:=⟨U,λj a p h=>by cases h⟩
theorem FH{α:Type}{l:List α}{a x:α}(h:(l++[a])[j]?=Â x):l[j]?=Â x\/j=l.length/\x=a:=by grind
theorem pf.UE{p:PT}(h:pf lo hi tb l w)(g:lo<=i)(k:i<hi)(m:p.c.length=5)(n:fj i (FG p) 200 w):pf lo hi (tb++[i]) (l++[p]) w:=by
 refine⟨by simp[h.r],λj x y d b=> ?_⟩;rcases FH d with e|⟨e,rfl⟩
 .rcases FH b with f|⟨f,rfl⟩
  .exact h.I j x y e f
  .have:=(Õ.1 e).1;have:=h.r;omega
 .rcases FH b with f|⟨f,rfl⟩
  .have:=(Õ.1 f).1;have:=h.r;omega
  .grind
def UF(B:Nat)(w:Í)(i:Nat):Prop:=B<=i\/∃c T a,w.heap[i]?=Â (Û c T a)/\(T=153\/T=148)
theorem UG(a:UF B w i)(hi:i<B)(h:w.heap[i]?=Â (Û d T xJ))(b:T≠153/\T≠148):False:=by rcases a with q|⟨e,f,qN,g,j⟩;all_goals grind
theorem wz.vB(h:wz B q r w)(k:fe X w w')(d:∀i,i<w.heap.size->X i->UF B w i):wz B q r w':=by let⟨f,tb,b,g,l,m⟩:=h.I;refine⟨h.M,h.C,f,tb,b.I k λx=>UG (d q b.M x) h.M b A,ik g k λj o x=> ?_,l,m.C k λa c p _ n e x=>UG (d a (á.1 e).1 x) n e A⟩;grind [mb,UG]
def wz.fT(h:wz B q r w)(a:B<=i):wz i q r w:=by let⟨b,tb,c,d,e,f⟩:=h.I;exact⟨by have:=h.M;omega,h.C,b,tb,c,d,λj g=>by have:=e j g;omega,f.M (æ _) a⟩
def pY.C(h:pY B qs rs w)(k:fe X w w')(a:∀i,i<w.heap.size->X i->UF B w i):pY B qs rs w':= ⟨h.I,λj q r b c=>(h.M j q r b c).vB k a⟩
def pY.UE(h:pY B qs rs w)(b:B<=i)(c:wz i q r w):pY i (qs++[q]) (rs++[r]) w:=by
 refine⟨by simp[h.I],λj x y d a=> ?_⟩;rcases FH d with e|⟨e,rfl⟩
 .rcases FH a with f|⟨f,rfl⟩
  .exact(h.M j x y e f).fT b
  .have:=(Õ.1 e).1;have:=h.I;omega
 .rcases FH a with f|⟨f,rfl⟩
  .have:=(Õ.1 f).1;have:=h.I;omega
  .exact c
theorem pY.N(B:Nat)(w:Í):pY B [] [] w:=⟨U,λj q r h=>by cases h⟩
end
structure Gh where
 a:List Nat
 q:Nat
 t:Nat
 B:Nat
 tb:List Nat
 N:Ñ
 r:Ñ
 b:Option ü
namespace Gh
def C(g:Gh)(d:PD):List Nat:=if d.r then g.a++[g.q]else g.a
def I(g:Gh)(d:PD):List Nat:=if d.M then g.tb++[g.t]else g.tb
def S(g:Gh)(d:PD):Option ü:=if d.r then Â ⟨g.q,0,Á⟩else Á
def Y(g:Gh)(d:PD):Option ü:=if d.M then Â ⟨g.t,0,Á⟩else g.b
def M(g:Gh)(d:PD):Nat:=if d.M then g.t else g.q
def G(g:Gh)(d:PD):Option ü:=if d.r then Â ⟨g.M d,0,Á⟩else Á
def CN(g:Gh)(d:PD)(a:Int):ü:=if a=86 then⟨g.q,5,Á⟩else if a=87 then⟨g.q,6,Á⟩else if a=110 then⟨g.M d,2,Á⟩else⟨g.M d,3,Á⟩
end Gh
structure wA(m:Nat)(g:Gh)(d:PD)(w:Í):Prop where
 S:m<=g.B
 N:g.B<=g.q
 M:d.I.c.length=8
 r:fj g.q (CM d.I.c g.r) 161 w
 I:w.ownsRow g.B 149 1 g.r (g.I d).length (nT<|g.I d)
 Y:pf g.B g.t g.tb d.I.r w
 C:d.M=Î->g.B<=g.t/\d.N.c.length=5/\fj g.t (FG d.N) 200 w
 a:d.M=Ë->g.tb=[]/\d.I.r=[]
structure lb(m:Nat)(g:Gh)(d:PD)(w:Í):Prop where
 C:w.ownsRow m 148 1 g.N (g.C d).length (nT<|g.C d)
 I:pY g.B g.a d.S w
 r:d.r=Î->wA m g d w
 N:d.r=Ë->d.M=Ë
def UH(s:ByteArray)(g:Gh)(d:PD)(a:Option ü)(lA b:Int):List Ñ:=
 [Ä s,g.N,Ã<|g.S d,Ã<|g.Y d,Ã<|g.G d,Ã a,Å É lA,Å É b]
structure gT(m b:Nat)(g:Gh)(c:Option ü)(s:ByteArray)(st:PS)(w:Í):Prop where
 S:m<=b
 a:jH m w
 r:fj b (UH s g st.d c st.r st.I) 153 w
 M:s.size<=10
 I:j2 s=st.C
 C:lb m g st.d w
 c:0<st.r->st.d.r=Î/\c=Â (g.CN st.d st.M)
 N:st.d.r=Î\/st.C=[82]
def sH(m b:Nat)(st:PS)(w a:Í):Prop:=fe (λi=>m<=i) w a/\∃g i s,gT m b g i s st a
section
variable{w':Í}{g:Gh}{d:PD}{s:ByteArray}{st:PS}
theorem wA.vB(h:wA m g d w)(k:fe X w w')(p:∀i c T b,w.heap[i]?=Â (Û c T b)->X i->T=153\/T=148):wA m g d w':=by
 have l:∀{i:Nat} {c:Array Ñ} {T:č} {b:Nat×Nat},w.heap[i]?=Â (Û c T b)->(T≠153/\T≠148)->¬X i:=λ{i c T b} n f x=>(p i c T b n x).elim f.1 f.2;refine⟨h.S,h.N,h.M,h.r.I k<|l h.r A,ik h.I k λj r=> ?_,h.Y.C k λa c b _ _ q=>l q A,λe=> ?_,h.a⟩
 .let⟨o,s⟩:=mb h.I r;grind
 .let⟨n,f,o⟩:=h.C e;exact⟨n,f,o.I k<|l o A⟩
theorem lb.rd(h:lb m g d w)(k:fe X w w')(b:∀i c T a,w.heap[i]?=Â (Û c T a)->X i->T=153)(f:∀i,i<w.heap.size->X i->∃c a,w.heap[i]?=Â (Û c 153 a)):lb m g d w':=by
 refine⟨ik h.C k λj l x=> ?_,h.I.C k λi n x=> ?_,λe=>(h.r e).vB k λi c T a q x=>È<|b i c T a q x,h.N⟩
 .let⟨o,q⟩:=mb h.C l;grind
 .let⟨c,a,q⟩:=f i n x;exact Ï ⟨c,_,a,q,È U⟩
def lb.M(h:lb m g d w)(a:fj b l 153 w)(k:fe (λi=>i=b) w w'):lb m g d w':= h.rd k (λi c T e q x=>by subst x;unfold fj at a;rw[a]at q;cases q;rfl) λi _ x=>⟨l.toArray,(0,0),by rwa[x]⟩
def pZ{i:Nat}{v:Value}{j:Nat}{vs:List Value}{T:TypeId}(h:fj j vs T w)(hT:my T=false:=by decide):fe (λk=>k=j) w (w.setCell ⟨j,i,none⟩ v):=fe.I (X:=λk=>k=j) U v<|Ï<|h.G hT
def lb.G(h:lb m g d w):(g.C d).length=d.C.length:=by unfold Gh.C PD.C;split<;>simp[h.I.I]
def wA.G(h:wA m g d w):(g.I d).length=d.Y.length:=by unfold Gh.I PD.Y;split<;>simp[h.Y.r]
def UI(h:i<zQ.length)(v:Ñ):(oM zQ++[v])[i]?=Â (Å É<|zQ.getD i 0):=by rw[Ĥ (by simpa[oM]using h)];simp[oM,Ğ,h]
def abN(l:List Int)(i:Nat)(z:Int)(v:Ñ)(h:i<l.length):(oM l++[v]).set i (Å É z)=oM (l.set i z)++[v]:=by rw[List.set_append_left _ _ (by simpa[oM]using h)];simp[oM,List.map_set]
def abO(l:List Int)(v u:Ñ):(oM l++[v]).set l.length u=oM l++[u]:=by rw[Ĵ _ _ (by simp[oM])];simp[oM]
def CO(l:List Int)(v:Ñ):(oM l++[v])[l.length]?=Â v:=by rw[ğ (by simp[oM])];simp[oM]
theorem lb.S(h:lb m g d w)(on:d.r=Î)(n:i<8)(z:Int):lb m g (d.ov i z) (w.setCell ⟨g.q,i,Á⟩<|Å É z):=by
 have l:=h.r on;have k:fe (λk=>k=g.q) w (w.setCell ⟨g.q,i,Á⟩<|Å É z):=pZ l.r;have r:=l.N;refine⟨ik h.C k λj b x=>jG h.C l.r A (by rw[b,x]),h.I.C k λi _ x=>È Z,λ_=>⟨l.S,l.N,by simp[PD.ov,l.M],?_,ik l.I k λj b x=>jG l.I l.r A (by rw[b,x]),l.Y.C k λa c s _ _ q x=> ?_,λe=> ?_,l.a⟩,h.N⟩
 .have:=l.r.fV i<|Å É z;unfold CM at this;rw[abN _ _ _ _ (by rwa[l.M])]at this;exact this
 .have:=l.r;unfold fj at this;grind
 .let⟨o,p,f⟩:=l.C e;exact⟨o,p,f.I k λx=>(fj.S f l.r A) x⟩
theorem lb.iz(h:lb m g d w)(on:d.r=Î)(f:d.M=Î){p:PT}(n:p.c.length=5)(r:(FG d.N).set i v=FG p):lb m g {d with N:=p} (w.setCell ⟨g.t,i,Á⟩ v):=by have l:=h.r on;let⟨o,s,b⟩:=l.C f;have k:fe (λk=>k=g.t) w (w.setCell ⟨g.t,i,Á⟩ v):=pZ b;refine⟨ik h.C k λj e x=>jG h.C b A (by rw[e,x]),h.I.C k λi _ x=>È Z,λ_=>⟨l.S,l.N,l.M,l.r.I k λx=>(fj.S l.r b A) x,ik l.I k λj e x=>jG l.I b A (by rw[e,x]),l.Y.C k λa c u _ q _ x=>by omega,λ_=>⟨o,n,?_⟩,l.a⟩,h.N⟩;have:=b.fV i v;grind
def lb.Y(h:lb m g d w)(on:d.r=Î)(a:d.M=Î)(c:i<5)(z:Int):lb m g (d.oK i z) (w.setCell ⟨g.t,i,Á⟩<|Å É z):=by let⟨e,b,f⟩:=(h.r on).C a;exact h.iz on a (by simp[b])<|abN _ _ _ _<|by rwa[b]
def lb.oL(h:lb m g d w)(on:d.r=Î)(a:d.M=Î)(p:ByteArray):lb m g (d.oL p) (w.setCell ⟨g.t,5,Á⟩<|Ä p):=by let⟨e,b,f⟩:=(h.r on).C a;refine h.iz on a b ?_;have:=abO d.N.c (Ä d.N.p)<|Ä p;rwa[b]at this
structure qH(m b:Nat)(g:Gh)(d:PD)(ab ao:Nat)(f:Int->PD)(x:Int)(w:Í):Prop where
 r:ab≠b
 N:m<=ab
 Y:ab<w.heap.size
 C:w.cell? ⟨ab,ao,Á⟩=Â (Å É x)
 I:w.frozen? ⟨ab,ao,Á⟩=Ë
 nf:NF ab w
 S:∀W,lb m g d W->∀z,lb m g (f z)<|W.setCell ⟨ab,ao,Á⟩<|Å É z
 M:∀z,g.S (f z)=g.S d/\g.Y (f z)=g.Y d/\g.G (f z)=g.G d/\(f z).r=d.r/\∀n,g.CN (f z) n=g.CN d n
theorem FI(h:lb m g d w)(f:fj b l 153 w)(on:d.r=Î)(e:i<8):qH m b g d g.q i (λz=>d.ov i z) (d.I.c.getD i 0) w:=by have a:=h.r on;exact⟨fj.S a.r f A,Ì a.S a.N,a.r.M,a.r.r i _ (UI (by rwa[a.M]) _),a.r.C i,a.r.G,λW j z=>j.S on e z,λz=>⟨U,U,U,U,λn=>rfl⟩⟩
theorem abP(h:lb m g d w)(k:fj b l 153 w)(on:d.r=Î)(f:d.M=Î)(j:i<5):qH m b g d g.t i (λz=>d.oK i z) (d.N.c.getD i 0) w:=by have a:=h.r on;let⟨o,p,e⟩:=a.C f;exact⟨fj.S e k A,Ì a.S o,e.M,e.r i _ (UI (by rwa[p]) _),e.C i,e.G,λW q z=>q.Y on f j z,λz=>⟨U,U,U,U,λn=>rfl⟩⟩
theorem FJ(h:lb m g d w)(a:fj b l 153 w)(on:d.r=Î)(c:i<4):qH m b g d (g.M d) i (λz=>d.iz i z) (d.tH i) w:=by unfold PD.iz PD.tH Gh.M;split;all_goals grind [abP,FI]
theorem gT.G{f:Int->PD}(h:gT m b g O s st w)(n:qH m b g st.d i j f c w)(z:Int):gT m b g O s {st with d:=f z} (w.setCell ⟨i,j,Á⟩<|Å É z):=by
 let⟨e,l,o,a,p⟩:=n.M z;have k:fe (λk=>k=i) w (w.setCell ⟨i,j,Á⟩<|Å É z):=fe.I (X:=λk=>k=i) U _<|È U;refine⟨h.S,h.a.r _ trivial,?_,h.M,h.I,n.S w h.C z,λq=> ?_,?_⟩
 .have:=h.r.I k λc=>n.r c.symm;unfold UH at this|-;grind
 .let⟨r,t⟩:=h.c q;grind
 .simp only[a];exact h.N
def gT.Ng(h:gT m b g O s st w)(a:ByteArray)(r:List Int)(c:a.size<=10)(e:j2 a=r)(f:st.d.r=Î\/r=[82]):gT m b g O a {st with C:=r} (w.setCell ⟨b,0,Á⟩<|Ä a):= ⟨h.S,h.a.r _ trivial,h.r.fV 0 _,c,e,h.C.M h.r<|pZ h.r,h.c,f⟩
def gT.Y(h:gT m b g O s st w)(z:Int)(a:0<z->st.d.r=Î/\O=Â (g.CN st.d st.M)):gT m b g O s {st with r:=z} (w.setCell ⟨b,6,Á⟩<|Å É z):= ⟨h.S,h.a.r _ trivial,h.r.fV 6 _,h.M,h.I,h.C.M h.r<|pZ h.r,a,h.N⟩
def gT.abQ(h:gT m b g O s st w)(z:Int):gT m b g O s {st with I:=z} (w.setCell ⟨b,7,Á⟩<|Å É z):= ⟨h.S,h.a.r _ trivial,h.r.fV 7 _,h.M,h.I,h.C.M h.r<|pZ h.r,h.c,h.N⟩
def gT.abR(h:gT m b g O s st w)(a:ü)(n:Int)(d:st.r=0)(c:m<=a.block/\a.block<w.heap.size):gT m b g (Â a) s {st with M:=n} (w.setCell ⟨b,5,Á⟩<|Ã<|Â a):= ⟨h.S,h.a.r _ c,h.r.fV 5 _,h.M,h.I,h.C.M h.r<|pZ h.r,λq=>by have:0<st.r:=q;omega,h.N⟩
def gT.fY(h:gT m b g O s st w):gT m b g O s st w.drew:=by have k:=fe.fY fh w;exact⟨h.S,h.a,h.r.I k id,h.M,h.I,h.C.rd k (λ_ _ _ _ _ x=>x.elim) λ_ _ x=>x.elim,h.c,h.N⟩
end
section
variable{w':Í}{g:Gh}{s:ByteArray}{st:PS}{f:Int->PD}{x:Int}
def qH.rd{d:PD}(h:qH m b g d n j f x w)(i:Nat)(v:Ñ):qH m b g d n j f x (w.setCell ⟨b,i,Á⟩ v):= ⟨h.r,h.N,by simpa using h.Y,by rw[Ij<|Ne.symm h.r];exact h.C,by rw[World.frozen?_setCell];exact h.I,λc T a q=>h.nf c T a (by rwa[ġ _ _ _ _ (by simpa using h.r)]at q),h.S,h.M⟩
def gT.UJ(h:gT m b g O s st w)(n:Int)(a:st.r=0):gT m b g O s {st with M:=n} w:= ⟨h.S,h.a,h.r,h.M,h.I,h.C,λq=>by have:0<st.r:=q;omega,h.N⟩
def mR(h:gT m b g O s st w)(i:Nat)(v:Ñ):fe (λi=>m<=i) w (w.setCell ⟨b,i,Á⟩ v):=fe.I (X:=λi=>m<=i) (p:=⟨b,i,Á⟩) h.S v<|Ï h.r.G
def FK(h:qH m b g st.d n j f x w)(z:Int):fe (λi=>m<=i) w (w.setCell ⟨n,j,Á⟩<|Å É z):=fe.I (X:=λi=>m<=i) (p:=⟨n,j,Á⟩) h.N _<|È U
def wB(c a:Int):Int:=if c=104\/c=48 then 0 else a-1
def je(c:Int):Int:=if c=104 then-1 else(c-48)%256
def UK{st:PS}(h:st.r=0)(n:Int)(d:PD):({st with r:=0,M:=n,d:=d}:PS)={st with M:=n,d:=d}:=by rw[<-h]
def Nh(h:gT m b g O s st w)(i:qH m b g st.d n j f x w)(k:st.r=0)(o:st.d.r=Î)(c l a:Int)(B:0<=l)(C:l<=6)(p:∀z,g.CN (f z) a=⟨n,j,Á⟩): Ò À 147 #[Ã<|Â ⟨b,0,Á⟩,Ã<|Â ⟨n,j,Á⟩,Å ū c,Å É l] w λe w'=>
  e=Æ (ë #[])/\sH m b {st with r:=wB c l,M:=a,d:=f (je c)} w w':=by
 have D:=h.r.r 5 _ U;have E:=h.r.r 6 _ U;have F:=h.r.C 5;have G:=h.r.C 6;have I:=i.C;have J:=i.I;have K:=i.r;have L:¬b=n:=λe=>i.r e.symm;have t:m<=n/\n<w.heap.size:=⟨i.N,i.Y⟩;have H:=fg<|Ê h<|Ê i<|Ê p<|Ê k o;by_cases r:c=104
 .subst r;go_enter Ŗ,ŋ;go_wp2;first|go_end0|refine ÿ (results_none U _ _ _) U ?_
  let⟨h,i,p,k,o⟩:=H.out;refine⟨U,FK i _,g,O,s,?_⟩;have:=(h.G i<|-1).UJ a k;rw[show wB 104 l=0 from if_pos<|È U,UK k];exact this
 .have M:(c==104)=Ë:=by rwa[beq_eq_false_iff_ne]
  have u:je c=(c-48)%256:=if_neg r;by_cases y:c=48
  .subst y;go_enter Ŗ,ŋ;go_wp2;go_end0;let⟨h,i,p,k,o⟩:=H.out;have v:=h.abR ⟨n,j,Á⟩ a k t;have q:=i.rd 5<|Ã<|Â ⟨n,j,Á⟩;refine⟨U,(mR h 5 _).fi<|FK q _,g,Â ⟨n,j,Á⟩,s,?_⟩;have:=v.G q 0;rw[show wB 48 l=0 from if_pos<|Ï U,UK k,u];exact this
  .go_enter Ŗ,ŋ;go_wp2;go_end0;let⟨h,i,p,k,o⟩:=H.out;have q:=i.rd 5<|Ã<|Â ⟨n,j,Á⟩;have v:=(h.abR ⟨n,j,Á⟩ a k t).G q<|(c-48)%256;refine⟨U,((mR h 5 _).fi<|FK q _).fi<|mR v 6 _,g,Â ⟨n,j,Á⟩,s,?_⟩;rw[show wB c l=l-1 from if_neg Z,u];exact(v.Y (l-1) λ_=>⟨by simp only;rwa[(i.M _).2.2.2.1],by simp only;rw[p]⟩)
theorem Ni{b a:Int}(h:pe a c=Î)(d:(a=86\/a=87)/\b=2\/(a=110\/a=107)/\b=6):wB c b=qG a c:=by unfold wB qG;unfold pe at h;grind [FE]
theorem Nj{a:Int}(h:¬(a=86\/a=87)/\¬(a=110\/a=107)):qG a c=0:=by unfold qG;grind
theorem Nk{a:Int}(h:a=86\/a=87\/a=110\/a=107):nj a c=je c:=by unfold nj je;grind
def UL(h:gT m b g O s st w)(i:qH m b g st.d n j f x w)(k:st.r=0){a z:Int}(e:c=0)(l:w'=(w.setCell ⟨n,j,Á⟩<|Å É z).drew):sH m b {st with r:=c,M:=a,d:=f z} w w':=by subst l;subst e;rw[UK k];exact⟨(FK i z).fi<|fe.fY _ _,g,O,s,((h.G i z).UJ a k).fY⟩
end
section
variable{g:Gh}{st:PS}
def I8{d:PD}(a:d.M=Î):g.Y d=Â ⟨g.t,0,Á⟩:=if_pos a
def arb:yt st 0=Á:=rfl
def ard(h:gT m b g O B st w)(r:st.r=0)(on:st.d.r=Î)(f:st.d.M=Î)(k:Int): Ò À 101 #[Ã<|Â ⟨b,0,Á⟩,Å É k] w λe u=>match yt st k with
  |none=>e=Æ (õ Ë)/\u=w
  |some a=>e=Æ (õ Î)/\sH m b a w u:=by
 have s:=h.r.r 0 _ U;have o:=h.r.r 3 _ U;have v:=h.r.r 7 _ U;rw[I8 f]at o;have x:=h.r.C 0;have y:=h.r.C 7;have a:=abP h.C h.r on f (i:=4) A;have z:=a.C;have C:=a.I;have D:=a.r;have E:¬b=g.t:=λe=>a.r e.symm;have H:=fg<|Ê h a;by_cases c:k=0
 .subst c;rw[arb];go_enter Κ,ż;go_wp2;go_ret;exact⟨U,U⟩
 .have F:(k==0)=Ë:=by rwa[beq_eq_false_iff_ne]
  have e:yt st k=Â {st with C:=sF k,I:=0,d:=st.d.oK 4 k}:=if_neg c;rw[e];go_enter Κ,ż;go_wp2_with (go_at_call 148;refine(aq6 _ _).mono ?_;rintro e u ⟨⟨j,rfl,p,q⟩,l⟩;subst u);go_ret;let⟨h,a⟩:=H.out;have l:=h.G a k;have n:=l.abQ 0;exact⟨U,((FK a k).fi<|mR l 7 _).fi<|mR n 0 _,g,O,j,n.Ng j _ p q<|È on⟩
end
def arf:(À.info? 149).map (λi=>(i.zero,i.size,i.bytes))=Â (Â<|Ã Á,1,8):=fw
def arh:(À.info? 148).map (λi=>(i.zero,i.size,i.bytes))=Â (Â<|Ã Á,1,8):=fw
section
variable{g:Gh}{nm:Option ü}{s:ByteArray}{st:PS}{d:PD}{T:Nat}
structure ve(m:Nat)(g:Gh)(d:PD)(T:Nat)(w:Í):Prop where
 C:w.ownsRow m 148 1 g.N (g.C d).length (nT<|g.C d)
 I:pY g.B g.a d.S w
 N:pf g.B T (g.I d) d.Y w
 tb:fj T (FG PD.FC) 200 w
def I9(x:i=j)(h:fj j l t w):w.heap[i]?=Â (Û l.toArray t (0,0)):=by rwa[x]
theorem ve.r(h:ve m g d T w)(k:fe X w u)(f:∀i,i<w.heap.size->X i->∃c t b,w.heap[i]?=Â (Û c t b)/\(t=153\/(t=161\/t=149)/\g.B<=i)):ve m g d T u:=by
 have e:∀{i:Nat} {c:Array Ñ} {t:č} {b:Nat×Nat},w.heap[i]?=Â (Û c t b)->(t≠153/\t≠161/\t≠149)->¬X i:=λ{i c t b} q1 q2 x=>by grind
 refine⟨ik h.C k λj l=> ?_,h.I.C k λi n x=> ?_,h.N.C k λa c b _ _ q=>e q A,h.tb.I k<|e h.tb A⟩
 .let⟨o,p⟩:=mb h.C l;grind
 .let⟨r,s,qN,o,p⟩:=f i n x;rcases p with rfl|⟨_,z⟩
  .exact Ï ⟨_,_,_,o,È U⟩
  .exact È z
def ve.fP(h:ve m g d T w)(k:fe fh w u):ve m g d T u:=h.r k λ_ _ x=>x.elim
def ve.M(h:ve m g d T w)(a:fj b l 153 w):ve m g d T (w.setCell ⟨b,i,Á⟩ v):= h.r (pZ a) λi _ x=>⟨_,_,_,I9 x a,È U⟩
theorem wA.abS(l:wA m g d w):pf g.B w.heap.size (g.I d) d.Y w:=by
 unfold Gh.I PD.Y;split
 .rename_i e;let⟨b,c,a⟩:=l.C e;have:=a.M;exact(l.Y.M (æ _) Z).UE b a.M c a
 .rename_i e;let⟨b,c⟩:=l.a (by simpa using e);grind [pf.N]
theorem jH.C(n:jH m w)(g:fj b l e w)(C:m<=b)(p:e≠304/\e≠305)(d:Array Ñ)(t:č)(u:0<d.size)(r:t≠304/\t≠305)(h:∀v∈d.toList,nk m (w.heap.size+1) v):jH m ((w.setCell ⟨b,i,Á⟩<|Ã<|Â ⟨w.heap.size,0,Á⟩).alloc<|Û d t):=by
 have s:(w.setCell ⟨b,i,Á⟩<|Ã<|Â ⟨w.heap.size,0,Á⟩).heap.size=w.heap.size:=fq
 have D:=g.M;intro j o k c;have x:((w.setCell ⟨b,i,Á⟩<|Ã<|Â ⟨w.heap.size,0,Á⟩).alloc<|Û d t).heap.size=w.heap.size+1:=fq
 rw[x];by_cases a:j<w.heap.size
 .rw[Š _ _ _ (by rwa[s])]at c;by_cases f:j=b
  .subst f;have:=g.fV i<|Ã<|Â ⟨w.heap.size,0,Á⟩;unfold fj at this;rw[this]at c;cases c;let⟨E,F,G,y,H,z,I,J,B⟩:=n j _ k g;cases y;refine⟨_,_,_,U,fq,by simpa using z,p.1,p.2,λv h=> ?_⟩;rcases Ħ (by simpa using h)with q|q
   .exact(B v<|by simpa using q).r Z
   .rw[q];exact⟨Ì k<|Nat.le_of_lt a,Nat.lt_succ_self _⟩
  .rw[ġ _ _ _ _ (by simpa using f)]at c;exact(n j o k c).r Z
 .by_cases f:j=w.heap.size
  .have:=Ŵ (w.setCell ⟨b,i,Á⟩<|Ã<|Â ⟨w.heap.size,0,Á⟩)<|Û d t;rw[s]at this;rw[f,this]at c;cases c;exact⟨_,_,_,U,Ø _,u,r.1,r.2,h⟩
  .grind
def Nl(b:Nat)(w:Í):Í:=(w.setCell ⟨b,3,Á⟩<|Ã<|Â ⟨w.heap.size,0,Á⟩).alloc<|Û #[Å É 0,Å É 0,Å É 0,Å É 0,Å É 0,Ä ⟨#[]⟩] 200
def rdM(s:ByteArray)(g:Gh)(d:PD)(a b nm:Option ü)(lA c:Int):List Ñ:=
 [Ä s,g.N,Ã<|g.S d,Ã a,Ã b,Ã nm,Å É lA,Å É c]
structure FL(m b:Nat)(g:Gh)(d:PD)(T:Nat)(s:ByteArray)(tm nm:Option ü)(lA UM:Int)(w0 w:Í):Prop where
 S:fe (λi=>m<=i) w0 w
 N:jH m w
 r:fj b (rdM s g d (Â ⟨T,0,Á⟩) tm nm lA UM) 153 w
 M:ve m g d T w
 I:fj g.q (CM d.I.c g.r) 161 w
 C:w.ownsRow g.B 149 1 g.r (g.I d).length (nT<|g.I d)
def FL.fP{lA:Int}(h:FL m b g d T s O nm lA c W w)(k:fe fh w u)(a:jH m u):FL m b g d T s O nm lA c W u:= ⟨h.S.C k λ_ _ x=>x.elim,a,h.r.I k id,h.M.fP k,h.I.I k id,ik h.C k λ_ _=>id⟩
theorem gT.ari(h:gT m b g nm s st w)(on:st.d.r=Î):FL m b g st.d w.heap.size s (g.G st.d) nm st.r st.I w (Nl b w):=by
 have l:=h.C.r on;have p:(w.setCell ⟨b,3,Á⟩<|Ã<|Â ⟨w.heap.size,0,Á⟩).heap.size=w.heap.size:=fq
 have n:fe fh (w.setCell ⟨b,3,Á⟩<|Ã<|Â ⟨w.heap.size,0,Á⟩) (Nl b w):=fe.gL _ _ _ _;have r:fe (λk=>k=b) w (w.setCell ⟨b,3,Á⟩<|Ã<|Â ⟨w.heap.size,0,Á⟩):=pZ h.r;have e:=r.C n λ_ _ x=>x.elim;refine⟨e.S λk _ x=>by rw[x];exact h.S,?_,(h.r.fV 3 _).I n id,⟨ik h.C.C e λj f x=>jG h.C.C h.r A (by rw[f,x]),h.C.I.C e λi _ x=>Ï ⟨_,_,_,I9 x h.r,È U⟩,l.abS.C e λa c t _ _ q x=> ?_,?_⟩,l.r.I e λx=>fj.S l.r h.r A x,ik l.I e λj f x=>jG l.I h.r A<|by rw[f,x]⟩
 .exact h.a.C h.r h.S A _ _ fq A λv o=>by simp at o;rcases o with rfl|rfl<;>trivial
 .have o:=h.r;unfold fj at o;grind
 .have:=fj.N (w.setCell ⟨b,3,Á⟩<|Ã<|Â ⟨w.heap.size,0,Á⟩) [Å É 0,Å É 0,Å É 0,Å É 0,Å É 0,Ä ⟨#[]⟩] 200;rwa[p]at this
def UN(g:Gh)(d:PD)(T:Nat)(v:Ñ):Gh:={g with t:=T,tb:=g.I d,r:=v}
theorem FL.jP(h:FL m b g st.d T s O nm st.r st.I w u)(C:m<=b)(on:st.d.r=Î)(a:m<=g.B/\g.B<=g.q/\st.d.I.c.length=8)(D:g.B<=T)(hd:st.r=0) (l:qt u g.B 149 1 g.r (g.I st.d).length (nT<|g.I st.d) 1 [Ã<|Â ⟨T,0,Á⟩] v W) (K:jH m W) (L:nk m W.heap.size v) (n:jX=((W.setCell ⟨g.q,8,Á⟩ v).setCell ⟨b,4,Á⟩<|Ã<|Â ⟨T,0,Á⟩).setCell ⟨b,0,Á⟩ (Ä ⟨#[84]⟩)): fe (λi=>m<=i) w jX/\gT m b (UN g st.d T v) nm ⟨#[84]⟩ {st with C:=[84],d:=st.d.nR} jX:=by
 have E:∀{j:Nat} {M:List Ñ} {t:č},fj j M t u->149≠t->¬g.r.ownBlock=Â j:=λN f=>jG h.C N f;have F:=h.r.I l.r<|E h.r A;have f:=h.I.I l.r<|E h.I A;have P:=h.M.r l.r λi _ x=>by let⟨k,z⟩:=mb h.C x;exact⟨_,_,_,z,Ï ⟨Ï U,(h.C.lt i x).1⟩⟩
 have o:fe (λk=>k=g.q) W (W.setCell ⟨g.q,8,Á⟩ v):=pZ f;have G:fj g.q (CM st.d.I.c v) 161 (W.setCell ⟨g.q,8,Á⟩ v):=by have:=f.fV 8 v;have e:=abO st.d.I.c g.r v;rw[a.2.2]at e;unfold CM at this|-;grind
 have z:=F.I o λx=>fj.S F f A x;have H:=P.r o λi _ x=>⟨_,_,_,I9 x f,Ï ⟨È U,by rw[x];exact a.2.1⟩⟩;have I:=ik l.ft o λj p x=>jG l.ft f A (by rw[p,x]);have Q:jH m (W.setCell ⟨g.q,8,Á⟩ v):=K.r _ L;have S:fe (λk=>k=b) (W.setCell ⟨g.q,8,Á⟩ v) ((W.setCell ⟨g.q,8,Á⟩ v).setCell ⟨b,4,Á⟩<|Ã<|Â ⟨T,0,Á⟩):=pZ z;have r:=z.fV 4<|Ã<|Â ⟨T,0,Á⟩;have V:fe (λk=>k=b) ((W.setCell ⟨g.q,8,Á⟩ v).setCell ⟨b,4,Á⟩<|Ã<|Â ⟨T,0,Á⟩) jX:=by rw[n];exact pZ r
 have J:=r.fV 0<|Ä ⟨#[84]⟩;rw[<-n]at J;have k:ve m g st.d T jX:=by rw[n];exact(H.M z).M r
 have y:=S.fi V;have X:=G.I y λx=>fj.S G z A x;have Y:=ik I y λj p x=>jG I z A (by rw[p,x]);have hTl:=H.tb.M;have c5:jH m jX:=by rw[n];refine(Q.r _ ?_).r _ trivial;exact⟨Ì a.1 D,hTl⟩
 have e1:(g.I st.d++[T]).length=(g.I st.d).length+1:=fq
 have e2:nT (g.I st.d++[T])=nT (g.I st.d)++[Ã<|Â ⟨T,0,Á⟩]:=by simp[nT]
 refine⟨((h.S.C l.r λi _ x=> ?_).C o λi _ x=> ?_).C y λi _ x=> ?_,C,c5,?_,A,U,⟨k.C,k.I,λ_=>⟨a.1,a.2.1,a.2.2,X,?_,k.N,λ_=>⟨D,U,k.tb⟩,λe=>by cases e⟩,λe=> ?_⟩,λe=> ?_,È on⟩
 .have:=(h.C.lt i x).1;have:=a.1;omega
 .grind
 .rwa[x]
 .have e:(UN g st.d T v).S st.d.nR=g.S st.d:=U;unfold UH;rw[e];have e4:(UN g st.d T v).G st.d.nR=Â ⟨T,0,Á⟩:=if_pos on;rwa[e4]
 .show jX.ownsRow g.B 149 1 v (g.I st.d++[T]).length (nT<|g.I st.d++[T]);rwa[e1,e2]
 .have:st.d.r=Ë:=e;grind
 .grind
def abT(h:gT m b g nm s st w)(C:st.r=0)(o:st.d.r=Î)(D:st.d.Y.length<=100000): Ò À 99 #[Ã<|Â ⟨b,0,Á⟩] w λe u=>e=Æ (ë #[])/\sH m b {st with C:=[84],d:=st.d.nR} w u:=by
 have Y:=h.r.r 3 _ U;have f3:=h.r.C 3;have gV:=h.r.M;have l:=h.C.r o;have y:=h.ari o;have E:=λv=>by have:=CO st.d.I.c v;rwa[l.M]at this
 have F:m<=g.B/\g.B<=g.q/\st.d.I.c.length=8:=⟨l.S,l.N,l.M⟩;have G:g.B<=w.heap.size:=by have:=l.r.M;have:=l.N;omega
 have I:(g.I st.d).length<=100000:=by rwa[l.G]
 have J:=h.S;have H:=fg<|Ê F<|Ê G<|Ê I<|Ê J<|Ê C o;have j:=fg<|E g.r;have x:g.S st.d=Â ⟨g.q,0,Á⟩:=if_pos o;go_enter Tryz.func99,Tryz.ntmps99;go_wp2_with fail;change ß À _ _ _ (Nl b w);have k:=y.fP (fe.fY _ _) y.N.fY;generalize hT:w.heap.size=T at*;generalize L:(Nl b w).drew=w1 at*;let⟨i0,M,N,O,P⟩:=ů arf;have p:=fg<|Ê M<|Ê N<|Ê O P;refine mC (λu=>u.cell? ⟨b,2,Á⟩=Â (Ã<|g.S st.d)/\u.cell? ⟨b,3,Á⟩=Â (Ã<|Â ⟨T,0,Á⟩)/\u.cell? ⟨g.q,8,Á⟩=Â g.r) [19] fw ?_;rw[L];rw[x];have Q:Hid (w1.cell? ⟨b,2,Á⟩=Â (Ã<|Â ⟨g.q,0,Á⟩)/\w1.cell? ⟨b,3,Á⟩=Â (Ã<|Â ⟨T,0,Á⟩)/\w1.cell? ⟨g.q,8,Á⟩=Â g.r):=fg ⟨by rw[<-x];exact k.r.r 2 _ U,k.r.r 3 _ U,k.I.r 8 _ j.out⟩;have r:=fg x;iterate 15 apply tk Q.out
 have S:=k.M.tb.M;have a:=k.fP (fe.gL fh w1 #[Ã<|Â ⟨T,0,Á⟩] 149) (k.N.gL _ _ fq A λv f=>by simp at f;subst f;exact⟨Ì H.out.1.1 H.out.2.1,S⟩);apply gE 15;intro K i;go_simp;refine i.out _ _ (λ_=>⟨by rw[<-r.out];exact a.r.r 2 _ U,a.r.r 3 _ U,a.I.r 8 _ j.out⟩) ?_;apply gE 16;intro K i;refine abM fS _ _ 159 fS Tryz.underlying159 p.out.1 p.out.2.1 p.out.2.2.1 p.out.2.2.2 fS a.C ⟨w1.heap.size,0,Á⟩ fS (Λ w1 _ _) U (by have:=H.out.2.2.1;unfold ī;omega) (by have:=H.out.2.2.1;omega) (by have:=H.out.2.1;have:=a.M.tb.M;omega) A H.out.1.1 a.N ⟨Ì H.out.1.1 H.out.2.1,a.M.tb.M⟩ A ?_;intro v9 w9 t V W;obtain⟨a9,n9c,rfl⟩:=jl t.ft;have f:=a.r.I t.r<|jG a.C a.r A;have n:=a.I.I t.r<|jG a.C a.I A;refine i.out _ _ (λ_=>⟨by rw[<-r.out];exact f.r 2 _ U,f.r 3 _ U,n.r 8 _ j.out⟩) ?_;apply gE 17;intro K i;go_simp;refine i.out _ _ (λ_=>⟨by rw[<-r.out];exact f.r 2 _ U,f.r 3 _ U,n.r 8 _ j.out⟩) ?_;apply gE 18;intro K i;go_simp;refine i.out _ _ (λ_=>⟨by rw[<-r.out];exact f.r 2 _ U,f.r 3 _ U,n.r 8 _ j.out⟩) ?_;have cq8:=n.r 8 _ j.out;have fq8:=n.C 8;have cb4:=f.r 4 _ U;have fb4:=f.C 4;have cb0:=f.r 0 _ U;have fb0:=f.C 0;have cb3:=f.r 3 _ U;have X:=fj.S n f A;have hbq:¬b=g.q:=λe=>X e.symm;apply gE 19;intro K i;go_simp;apply i.out _ _ λz=>absurd A z;refine mf fw ?_ _;have z:=fg<|a.jP H.out.2.2.2.1 o H.out.1 H.out.2.1 H.out.2.2.2.2.1 t V W U;go_wp2_with fail;go_end0;exact⟨U,z.out.1,_,_,_,z.out.2⟩
end
section
variable{g:Gh}{nm:Option ü}{s:ByteArray}{f:PS}{d:PD}{Q:Nat}{k:Int}
def arj(h:w.ownsRow i e 1 v n l)(c:j<=i):w.ownsRow j e 1 v n l:= ⟨h.1,h.2.imp id λ⟨g,d,f,a,b,r⟩=>⟨g,d,f,a,Ì c b,r⟩⟩
def wA.gl(l:wA m g d w):wz w.heap.size g.q ⟨d.I.c,d.Y⟩ w:= ⟨l.r.M,l.M,g.r,g.I d,l.r,arj l.I<|Ø _,λj a=>(l.I.lt j a).2,l.abS.M (Ø _)<|æ _⟩
theorem lb.abU(h:lb m g d w)(a:d.r=Ë->d.S=[]):pY w.heap.size (g.C d) d.C w:=by
 unfold Gh.C PD.C;split
 .rename_i e;have l:=h.r e;have b:=l.r.M;have c:=l.N;exact h.I.UE Z l.gl
 .rename_i e;have f:=a (by simpa using e);have:=h.I.I;grind [Ý,pY.N]
def Nn(b:Nat)(k:Int)(w:Í):Í:=(w.setCell ⟨b,2,Á⟩<|Ã<|Â ⟨w.heap.size,0,Á⟩).alloc<|Û #[Å É 0,Å É 0,Å É 0,Å É 0,Å É k,Å É 0,Å É 0,Å É 0,Ç Á 0 0] 161
def rdQ(s:ByteArray)(g:Gh)(d:PD)(Q:Nat)(nm:Option ü)(lA a:Int):List Ñ:=
 [Ä s,g.N,Ã<|Â ⟨Q,0,Á⟩,Ã<|g.Y d,Ã<|g.G d,Ã nm,Å É lA,Å É a]
structure FM(m b:Nat)(g:Gh)(d:PD)(Q:Nat)(k:Int)(s:ByteArray)(nm:Option ü)(lA UM:Int)(w0 w:Í):Prop where
 S:fe (λi=>m<=i) w0 w
 M:jH m w
 r:fj b (rdQ s g d Q nm lA UM) 153 w
 I:fj Q (CM (PD.abK k).c<|Ç Á 0 0) 161 w
 N:pY Q (g.C d) d.C w
 C:w.ownsRow m 148 1 g.N (g.C d).length (nT<|g.C d)
def FM.fP{lA:Int}(h:FM m b g d Q k s nm lA c W w)(a:fe fh w u)(e:jH m u):FM m b g d Q k s nm lA c W u:= ⟨h.S.C a λ_ _ x=>x.elim,e,h.r.I a id,h.I.I a id,h.N.C a λ_ _ x=>x.elim,ik h.C a λ_ _=>id⟩
def gT.ark(h:gT m b g nm s f w)(k:Int)(l:f.d.r=Ë->f.d.S=[]):FM m b g f.d w.heap.size k s nm f.r f.I w (Nn b k w):=by
 have n:(w.setCell ⟨b,2,Á⟩<|Ã<|Â ⟨w.heap.size,0,Á⟩).heap.size=w.heap.size:=fq
 have c:fe fh (w.setCell ⟨b,2,Á⟩<|Ã<|Â ⟨w.heap.size,0,Á⟩) (Nn b k w):=fe.gL _ _ _ _;have o:fe (λk=>k=b) w (w.setCell ⟨b,2,Á⟩<|Ã<|Â ⟨w.heap.size,0,Á⟩):=pZ h.r;have a:=o.C c λ_ _ x=>x.elim;refine⟨a.S λk _ x=>by rw[x];exact h.S,?_,(h.r.fV 2 _).I c id,?_,(h.C.abU l).C a λi _ x=>Ï ⟨_,_,_,I9 x h.r,È U⟩,ik h.C.C a λj p x=>jG h.C.C h.r A<|by rw[p,x]⟩
 .exact h.a.C h.r h.S A _ _ fq A λv e=>by simp at e;rcases e with rfl|rfl|rfl|rfl<;>trivial
 .have:=fj.N (w.setCell ⟨b,2,Á⟩<|Ã<|Â ⟨w.heap.size,0,Á⟩) [Å É 0,Å É 0,Å É 0,Å É 0,Å É k,Å É 0,Å É 0,Å É 0,Ç Á 0 0] 161;rwa[n]at this
def arl(g:Gh)(d:PD)(Q:Nat)(v:Ñ):Gh:={a:=g.C d,q:=Q,t:=Q,B:=Q,tb:=[],N:=v,r:=Ç Á 0 0,b:=g.Y d}
theorem FM.jP{sb:ByteArray}(h:FM m b g f.d Q k s nm f.r f.I w u)(o:m<=b)(p:m<=Q)(S:f.r=0)(y:sb.size<=10)(B:j2 sb=rB k) (a:qt u m 148 1 g.N (g.C f.d).length (nT<|g.C f.d) 1 [Ã<|Â ⟨Q,0,Á⟩] v W) (C:jH m W) (D:nk m W.heap.size v) (l:jX=((W.setCell ⟨b,1,Á⟩ v).setCell ⟨b,4,Á⟩<|Ã<|Â ⟨Q,0,Á⟩).setCell ⟨b,0,Á⟩ (Ä sb)): fe (λi=>m<=i) w jX/\gT m b (arl g f.d Q v) nm sb {f with C:=rB k,d:=f.d.FF k} jX:=by
 have c:=h.r.I a.r<|jG h.C h.r A;have n:=h.I.I a.r<|jG h.C h.I A;have E:=h.N.C a.r λi _ x=>by let⟨e,z⟩:=mb h.C x;exact Ï ⟨_,_,_,z,Ï U⟩
 have F:fe (λk=>k=b) W (W.setCell ⟨b,1,Á⟩ v):=pZ c;have q:=c.fV 1 v;have G:fe (λk=>k=b) (W.setCell ⟨b,1,Á⟩ v) ((W.setCell ⟨b,1,Á⟩ v).setCell ⟨b,4,Á⟩<|Ã<|Â ⟨Q,0,Á⟩):=pZ q;have r:=q.fV 4<|Ã<|Â ⟨Q,0,Á⟩;have H:fe (λk=>k=b) ((W.setCell ⟨b,1,Á⟩ v).setCell ⟨b,4,Á⟩<|Ã<|Â ⟨Q,0,Á⟩) jX:=by rw[l];exact pZ r
 have t:=r.fV 0<|Ä sb;rw[<-l]at t;have z:=(F.fi G).fi H;have I:=n.I z λx=>fj.S n c A x;have J:=E.C z λi _ x=>Ï ⟨_,_,_,I9 x c,È U⟩;have K:=ik a.ft z λj L x=>jG a.ft c A (by rw[L,x]);have M:Q<(W.setCell ⟨b,1,Á⟩ v).heap.size:=by simpa using n.M
 have N:jH m jX:=by rw[l];refine((C.r _ D).r _ ?_).r _ trivial;exact⟨p,M⟩
 have O:(g.C f.d++[Q]).length=(g.C f.d).length+1:=fq
 have P:nT (g.C f.d++[Q])=nT (g.C f.d)++[Ã<|Â ⟨Q,0,Á⟩]:=by simp[nT]
 refine⟨(h.S.C a.r λi _ x=> ?_).C z λi _ x=> ?_,o,N,t,y,B,⟨?_,J,λ_=>⟨p,æ _,U,I,?_,pf.N _ _ _,(λe=>by cases e),λ_=>⟨rfl,rfl⟩⟩,(λe=>by cases e)⟩,λe=> ?_,È rfl⟩
 .exact(h.C.lt i x).1
 .rwa[x]
 .show jX.ownsRow m 148 1 v (g.C f.d++[Q]).length (nT<|g.C f.d++[Q]);rwa[O,P]
 .exact⟨U,È ⟨U,U⟩⟩
 .grind
def arn:yr f 0=Á:=rfl
def aro(h:gT m b g nm s f w)(r:f.r=0)(t:f.d.r=Ë->f.d.S=[])(x:f.d.C.length<=100000)(k:Int): Ò À 96 #[Ã<|Â ⟨b,0,Á⟩,Å É k] w λe u=>match yr f k with
  |none=>e=Æ (õ Ë)/\u=w
  |some c=>e=Æ (õ Î)/\sH m b c w u:=by
 by_cases l:k=0
 .subst l;rw[arn];go_enter Ω,Μ;go_wp2;go_ret;exact⟨U,U⟩
 have Q:(k==0)=Ë:=by rwa[beq_eq_false_iff_ne]
 have e:yr f k=Â {f with C:=rB k,d:=f.d.FF k}:=if_neg l;rw[e];have S:=h.r.r 2 _ U;have V:=h.r.C 2;have W:=h.r.M;have p:=h.ark k t;have y:(g.C f.d).length<=100000:=by rwa[h.C.G]
 have z:=h.S;have B:m<=w.heap.size:=Z
 have H:=fg<|Ê z<|Ê B<|Ê y r;go_enter Ω,Μ;go_wp2_with fail;change ß À _ _ _ (Nn b k w);have i:=p.fP (fe.fY _ _) p.M.fY;generalize X:w.heap.size=T at*;generalize C:(Nn b k w).drew=w1 at*;let⟨Y,D,E,F,G⟩:=ů arh;have j:=fg<|Ê D<|Ê E<|Ê F G;refine mC (λu=>u.cell? ⟨b,1,Á⟩=Â g.N/\u.cell? ⟨b,2,Á⟩=Â (Ã<|Â ⟨T,0,Á⟩)) [13] fw ?_;rw[C];have I:Hid (w1.cell? ⟨b,1,Á⟩=Â g.N/\w1.cell? ⟨b,2,Á⟩=Â (Ã<|Â ⟨T,0,Á⟩)):=fg ⟨i.r.r 1 _ U,i.r.r 2 _ U⟩;iterate 9 apply tk I.out
 have J:=i.I.M;have a:=i.fP (fe.gL fh w1 #[Ã<|Â ⟨T,0,Á⟩] 148) (i.M.gL _ _ fq A λv c=>by simp at c;subst c;exact⟨H.out.2.1,J⟩);apply gE 9;intro K c;go_simp;apply c.out _ _ λ_=>⟨a.r.r 1 _ U,a.r.r 2 _ U⟩;apply gE 10;intro K c;refine abM fS _ _ 61 fS Tryz.underlying61 j.out.1 j.out.2.1 j.out.2.2.1 j.out.2.2.2 fS a.C ⟨w1.heap.size,0,Á⟩ fS (Λ w1 _ _) U (by have:=H.out.2.2.1;unfold ī;omega) (by have:=H.out.2.2.1;omega) (by have:=H.out.2.1;have:=a.I.M;omega) A (æ _) a.M ⟨H.out.2.1,a.I.M⟩ A ?_;intro v9 w9 n L M;obtain⟨a9,n9c,rfl⟩:=jl n.ft;have v:=a.r.I n.r<|jG a.C a.r A;apply c.out _ _ λ_=>⟨v.r 1 _ U,v.r 2 _ U⟩;apply gE 11;intro K c;go_simp;apply c.out _ _ λ_=>⟨v.r 1 _ U,v.r 2 _ U⟩;apply gE 12;intro K c;go_simp;apply c.out _ _ λ_=>⟨v.r 1 _ U,v.r 2 _ U⟩;have cb1:=v.r 1 _ U;have fb1:=v.C 1;have cb4:=v.r 4 _ U;have fb4:=v.C 4;have cb0:=v.r 0 _ U;have fb0:=v.C 0;have cb2:=v.r 2 _ U;apply gE 13;intro K c;go_simp;apply c.out _ _ λo=>absurd A o;refine mf fw ?_ _;have N:=fg λo q O=>a.jP (sb:=o) H.out.1 H.out.2.1 H.out.2.2.2 q O n L M U;go_wp2_with (go_at_call 145;refine(aq5 _ _).mono ?_;rintro e u ⟨⟨o,rfl,O,P⟩,q⟩;subst u);go_ret;have q:=N.out o O P;exact⟨U,q.1,_,_,_,q.2⟩
end
def lT(i:Nat)(z:Int):Prop:=match i with
 |0=>0<=z/\z<8
 |1=>0<=z/\z<8
 |2=>0<=z/\z<1000000
 |3=>0<=z/\z<1000000
 |4=>1<=z/\z<10
 |5=>-1<=z/\z<1000000
 |6=>-1<=z/\z<1000000
 |7=>0<=z/\z<16
 |_=>True
structure FN(n m:Nat)(c:List Int):Prop where
 C:c.length=n
 r:∀i,i<m->lT i (c.getD i 0)
theorem FN.I(h:FN n m zQ)(i:Nat)(z:Int)(b:i<m->lT i z):FN n m (zQ.set i z):=by refine⟨by simp[h.C],λj a=> ?_⟩;have:=h.r j a;grind
def abV(h:i<zQ.length)(z:Int):(zQ.set i z).getD i 0=z:=by simp[Ğ,h]
structure ot(t:PT):Prop where
 c:FN 5 4 t.c
 p:t.p.size<=40/\∀c∈t.p.data.toList,ye c=Î
structure vf(r:PR):Prop where
 c:FN 8 8 r.c
 C:∀t∈r.r,ot t
 n:r.r.length<=8
structure ky(d:PD):Prop where
 N:d.r=Ë->d.S=[]/\d.M=Ë
 b:d.M=Ë->d.I.r=[]
 C:d.C.length<=24
 I:d.Y.length<=8
 S:∀r∈d.S,vf r
 M:d.r=Î->FN 8 8 d.I.c
 a:d.r=Î->∀t∈d.I.r,ot t
 Y:d.M=Î->ot d.N
structure jB(B:ByteArray)(k:Nat)(st:PS):Prop where
 M:0<=st.r
 r:st.r<=5
 C:0<=st.I
 I:st.I<=40
 e:0<st.r->(st.M=86\/st.M=87\/st.M=110\/st.M=107)/\st.d.r=Î/\0<=st.d.G st.M/\st.d.G st.M<10^(6-st.r.toNat)
 d:ky st.d
 c:st.d.r=Î\/st.C=[82]
 b:82∈st.C->st.d.C.length<24
 N:84∈st.C\/80∈st.C->st.d.M=Î
 a:66∈st.C->st.d.M=Ë
 S:80∈st.C->st.C=[80]/\st.r=0
 Y:80∈st.C->st.I.toNat<=k/\∀j (h:j<B.size),k-st.I.toNat<=j->j<k->ye B[j]=Î
section
variable{d:PD}{st o:PS}
def ky.abW(h:ky d)(on:d.r=Î):∀t∈d.Y,ot t:=by
 unfold PD.Y;split
 .rename_i e;intro t a;rcases â.1 a with q|q
  .exact h.a on t q
  .rw[ō]at q;rw[q];exact h.Y e
 .exact h.a on
def ky.G(h:ky d):∀r∈d.C,vf r:=by
 unfold PD.C;split
 .rename_i e;intro r a;rcases â.1 a with q|q
  .exact h.S r q
  .rw[ō]at q;rw[q];exact⟨h.M e,h.abW e,h.I⟩
 .exact h.S
def yu(d:PD):d.C.length=d.S.length+(if d.r then 1 else 0):=by unfold PD.C;split<;>simp
def Ja(d:PD):d.Y.length=d.I.r.length+(if d.M then 1 else 0):=by unfold PD.Y;split<;>simp
def ky.r(h:ky d)(i:Nat)(z:Int)(a:lT i z):ky (d.ov i z):= ⟨h.N,h.b,by have:=h.C;rw[yu]at this|-;exact this,by have:=h.I;rw[Ja]at this|-;exact this,h.S,λe=>(h.M e).I i z λ_=>a,h.a,h.Y⟩
def ky.oK(h:ky d)(i:Nat)(z:Int)(a:i<4->lT i z):ky (d.oK i z):= ⟨h.N,h.b,by have:=h.C;rw[yu]at this|-;exact this,by have:=h.I;rw[Ja]at this|-;exact this,h.S,h.M,h.a,λe=>⟨(h.Y e).c.I i z a,(h.Y e).p⟩⟩
def ky.iz(h:ky d)(i:Nat)(z:Int)(a:lT i z):ky (d.iz i z):=by
 unfold PD.iz;split
 .exact h.oK i z λ_=>a
 .exact h.r i z a
def ky.oL(h:ky d)(p:ByteArray)(a:p.size<=40/\∀c∈p.data.toList,ye c=Î):ky (d.oL p):= ⟨h.N,h.b,by have:=h.C;rw[yu]at this|-;exact this,by have:=h.I;rw[Ja]at this|-;exact this,h.S,h.M,h.a,λe=>⟨(h.Y e).c,a⟩⟩
def arp:ot PD.FC:=⟨⟨U,λi a=>by
 match i,a with
 |0,_=>exact⟨A,A⟩
 |1,_=>exact⟨A,A⟩
 |2,_=>exact⟨A,A⟩
 |3,_=>exact⟨A,A⟩⟩,⟨A,λc b=>by cases b⟩⟩
def ky.nR(h:ky d)(on:d.r=Î)(a:d.Y.length<8):ky d.nR:= ⟨(λe=>by have:d.r=Ë:=e;rw[on]at this;cases this),(λe=>by cases e),by have:=h.C;rw[yu]at this|-;exact this,by rwa[Ja],h.S,λe=>h.M e,λ_=>h.abW on,λ_=>arp⟩
def ky.FF(h:ky d)(q:Int)(a:1<=q/\q<10)(b:d.C.length<24):ky (d.FF q):= ⟨(λe=>by cases e),λ_=>rfl,by rwa[yu],by show(0:Nat)<=8;decide,h.G,λ_=>⟨U,λi c=>by
   match i,c with
   |0,_=>exact⟨by show(0:Int)<=0;decide,by show(0:Int)<8;decide⟩
   |1,_=>exact⟨by show(0:Int)<=0;decide,by show(0:Int)<8;decide⟩
   |2,_=>exact⟨by show(0:Int)<=0;decide,by show(0:Int)<1000000;decide⟩
   |3,_=>exact⟨by show(0:Int)<=0;decide,by show(0:Int)<1000000;decide⟩
   |4,_=>exact a
   |5,_=>exact⟨by show(-1:Int)<=0;decide,by show(0:Int)<1000000;decide⟩
   |6,_=>exact⟨by show(-1:Int)<=0;decide,by show(0:Int)<1000000;decide⟩
   |7,_=>exact⟨by show(0:Int)<=0;decide,by show(0:Int)<16;decide⟩⟩,(λ_ t f=>by cases f),(λe=>by cases e)⟩
def ky.fV(h:ky d)(want z:Int)(a:(want=86->lT 5 z)/\(want=87->lT 6 z)/\(want=120->lT 0 z)/\(want=121->lT 1 z)/\(want=110->lT 2 z)/\(want=107->lT 3 z)/\(want=115->lT 7 z)):ky (d.fV want z):=by
 let⟨b,c,e,f,g,i,j⟩:=a;unfold PD.fV;repeat' split
 .exact h.r 5 z<|b ‹_›
 .exact h.r 6 z<|c ‹_›
 .exact h.iz 0 z<|e ‹_›
 .exact h.iz 1 z<|f ‹_›
 .exact h.iz 2 z<|g ‹_›
 .exact h.iz 3 z<|i ‹_›
 .exact h.r 7 z<|j ‹_›
 .exact h
def UO(d:PD)(a z:Int):(d.fV a z).r=d.r/\(d.fV a z).M=d.M/\(d.fV a z).C.length=d.C.length:=by
 unfold PD.fV PD.iz;repeat' split
 all_goals exact⟨U,U,(yu _).trans (yu d).symm⟩
theorem UP(h:ky d)(on:d.r=Î)(a z:Int)(f:a=86\/a=87\/a=110\/a=107):(d.fV a z).G a=z:=by
 have g:=(h.M on).C;have b:∀i,i<4->(d.iz i z).tH i=z:=λi j=>by
  unfold PD.iz;split
  .rename_i e;have k:=(h.Y e).c.C;show(if d.M=Î then(d.N.c.set i z).getD i 0 else d.I.c.getD i 0)=z;grind
  .rename_i e;show(if d.M=Î then d.N.c.getD i 0 else(d.I.c.set i z).getD i 0)=z;grind
 rcases f with rfl|rfl|rfl|rfl
 .exact abV Z z
 .exact abV Z z
 .exact b 2 A
 .exact b 3 A
def Np:∀(l:List UInt8) (c:UInt8),Þ l c<l.length
 |[],_=>by show(-1:Int)<0;decide
 |a::l,c=>by
  have:=Np l c;unfold Þ;split
  .simp
  .split<;>(simp;omega)
def UQ:∀(l:List UInt8) (c:UInt8),c∈l->0<=Þ l c
 |[],_,h=>by cases h
 |a::l,c,h=>by
  unfold Þ;split
  .decide
  .rename_i e;rcases List.mem_cons.1 h with q|q
   .subst q;simp at e
   .have:=UQ l c q;split
    .rename_i b;rw[beq_iff_eq]at b;omega
    .omega
def abX{l:List UInt8}(h:c.toNat∈l.map UInt8.toNat):c.toNat.toUInt8∈l:=by let⟨x,a,b⟩:=Ú.1 h;rw[<-b];simpa using a
def abY(h:sE c=Î):0<=Þ [97,98,99,100,101,102,103,104] c.toNat.toUInt8:=by rw[aqS]at h;refine UQ _ _<|abX ?_;simp;omega
def arq(h:(jo c||(decide (97<=c)&&decide (c<=102)))=Î):0<=Þ [48,49,50,51,52,53,54,55,56,57,97,98,99,100,101,102] c.toNat.toUInt8:=by simp only[Bool.or_eq_true,FE,Bool.and_eq_true,decide_eq_true_eq]at h;refine UQ _ _<|abX ?_;simp;omega
theorem ars(a:pe h c=Î):(h=86->lT 5 (nj h c))/\(h=87->lT 6 (nj h c))/\(h=120->lT 0 (nj h c))/\(h=121->lT 1 (nj h c))/\(h=110->lT 2 (nj h c))/\(h=107->lT 3 (nj h c))/\(h=115->lT 7 (nj h c)):=by
 unfold pe at a;have b:(c==104||jo c)=Î->-1<=(if c=104 then-1 else(c-48)%256)/\(if c=104 then(-1:Int)else(c-48)%256)<1000000:=λq=>by split<;>omega
 have d:jo c=Î->0<=(if c=104 then-1 else(c-48)%256)/\(if c=104 then(-1:Int)else(c-48)%256)<1000000:=λq=>by rw[FE]at q;grind
 refine⟨?_,?_,?_,?_,?_,?_,?_⟩<;>rintro rfl
 .exact b a
 .exact b a
 .exact⟨abY a,Np _ _⟩
 .exact⟨abY a,Np _ _⟩
 .exact d a
 .exact d a
 .exact⟨arq a,Np _ _⟩
theorem aru{lA:Int}(a:jo c=Î)(b:0<=h)(d:0<lA)(e:lA<=5)(f:h<10^(6-lA.toNat)):0<=pW h c/\pW h c<10^(6-(lA-1).toNat)/\pW h c<1000000:=by
 rw[FE]at a;have g:h<100000->pW h c=h*10+(c-48):=λq=>by unfold pW;rw[Ļ (h*10) ⟨Z,Z⟩,Ļ _ ⟨Z,Z⟩];omega
 have i:lA=1\/lA=2\/lA=3\/lA=4\/lA=5:=Z
 grind
def ky.lA(h:ky d)(a z:Int)(c:a=86\/a=87\/a=110\/a=107)(b:0<=z/\z<1000000):ky (d.fV a z):= h.fV a z ⟨λ_=>⟨Z,b.2⟩,λ_=>⟨Z,b.2⟩,λe=>by omega,λe=>by omega,λ_=>b,λ_=>b,λe=>by omega⟩
def jB.arv(h:jB B k st)(e:0<st.r)(j:jo c=Î):jB B (k+1) (CL st c):=by
 let⟨a,b,l,m⟩:=h.e e;let⟨f,n,o⟩:=aru j l e h.r m;let⟨g,i,p⟩:=UO st.d st.M<|pW (st.d.G st.M) c;refine⟨by show 0<=st.r-1;omega,by have:=h.r;show st.r-1<=5;omega,h.C,h.I,λ_=>⟨a,g.trans b,?_⟩,h.d.lA _ _ a ⟨f,o⟩,?_,λq=> ?_,λq=>i.trans<|h.N q,λq=>i.trans<|h.a q,λq=> ?_,λq=> ?_⟩
 .show 0<=(st.d.fV st.M<|pW (st.d.G st.M) c).G st.M/\(st.d.fV st.M<|pW (st.d.G st.M) c).G st.M<10^(6-(st.r-1).toNat);rw[UP h.d b _ _ a];exact⟨f,n⟩
 .exact È<|g.trans b
 .show(st.d.fV st.M<|pW (st.d.G st.M) c).C.length<24;rw[p];exact h.b q
 .have:=(h.S q).2;omega
 .have:=(h.S q).2;omega
def jB.vx(h:jB B k st):jB B k {st with r:=0}:= ⟨Ť _,by show(0:Int)<=5;decide,h.C,h.I,(λq=>by cases q),h.d,h.c,h.b,h.N,h.a,λq=>⟨(h.S q).1,rfl⟩,h.Y⟩
theorem jB.on(h:jB B k st)(a:82∉st.C):st.d.r=Î:=by rcases h.c with q|q;all_goals grind
def ky.arw(h:ky d)(a:d.M=Î):d.r=Î:=by
 cases e:d.r with
 |true=>rfl
 |false=>have:=(h.N e).2;rw[a]at this;cases this
theorem abZ(h:jB B k st)(b:st.r=0)(on:st.d.r=Î)(a:pX st c=Â o):jB B (k+1) o:=by
 unfold pX at a;split at a
 .rename_i e;cases a;refine⟨h.M,h.r,h.C,h.I,λq=> ?_,h.d,Ï U,λ_=> ?_,λq=> ?_,λq=> ?_,λq=> ?_,λq=> ?_⟩
  .grind
  .rw[yu,on];exact e.2
  .simp at q
  .simp at q
  .simp at q
  .simp at q
 .split at a
  .rename_i e;cases a;refine⟨h.M,h.r,h.C,h.I,λq=> ?_,h.d.nR on e.2.2,È on,λq=> ?_,λ_=>rfl,λq=> ?_,λq=> ?_,λq=> ?_⟩;all_goals grind
  .cases a
def arx(q:Int):82∉rB q/\84∉rB q/\80∉rB q:=by
 unfold rB;repeat' split
 all_goals decide
theorem arz(q:Int):82∉sF q/\84∉sF q/\66∉sF q/\(80∈sF q->sF q=[80]):=by unfold sF;grind
def arA(c:Int):0<=wx c/\wx c<10:=by
 unfold wx;repeat' split
 all_goals decide
theorem arB(h:jB B k st)(i:st.r=0)(f:82∈st.C)(a:yr st (wx c)=Â o):jB B (k+1) o:=by
 unfold yr at a;split at a
 .cases a
 .rename_i e;cases a;let⟨g,j,b⟩:=arx<|wx c;have l:=arA c;refine⟨h.M,h.r,h.C,h.I,λq=> ?_,h.d.FF _ Z<|h.b f,È U,λq=>absurd q g,λq=> ?_,λ_=>rfl,λq=>absurd q b,λq=>absurd q b⟩;all_goals grind
theorem arC(h:jB B k st)(c:st.r=0)(q:Int)(f:84∈st.C)(a:yt st q=Â o):jB B (k+1) o:=by
 unfold yt at a;split at a
 .cases a
 .cases a;let⟨g,m,i,l⟩:=arz q;have b:=h.N<|È f;refine⟨h.M,h.r,Ť _,by show(0:Int)<=40;decide,λq=> ?_,h.d.oK 4 q λe=>by omega,È<|h.d.arw b,λq=>absurd q g,λ_=>b,λq=>absurd q i,λq=>⟨l q,c⟩,λ_=>⟨Ø _,λj _ n p=> ?_⟩⟩;all_goals grind
theorem arD{a:Int}(h:0<qG a c):(a=86\/a=87)/\qG a c=1/\jo c=Î/\c≠48\/(a=110\/a=107)/\qG a c=5/\jo c=Î/\c≠48:=by unfold qG at h|-;grind
theorem ab0(h:jB B k st)(on:st.d.r=Î){want:Int}(l:pe want c=Î)(r:List Int)(a:∀x∈r,x∈st.C)(g:80∉r):jB B (k+1) {ow st want c with C:=r}:=by
 let⟨m,i,n⟩:=UO st.d want<|nj want c;have j:=aqW want c;refine⟨j.1,j.2,h.C,h.I,λq=> ?_,h.d.fV _ _<|ars l,È<|m.trans on,λq=> ?_,λq=>i.trans<|h.N<|q.imp (a _)<|a _,λq=>i.trans<|h.a<|a _ q,λq=>absurd q g,λq=>absurd q g⟩
 .have q:=q;show(want=86\/want=87\/want=110\/want=107)/\(st.d.fV want<|nj want c).r=Î/\0<=(st.d.fV want<|nj want c).G want/\(st.d.fV want<|nj want c).G want<10^(6-(qG want c).toNat);rcases arD q with⟨o,b,e,p⟩|⟨o,b,e,p⟩
  .have f:want=86\/want=87\/want=110\/want=107:=Z
   rw[UP h.d on _ _ f,b];rw[FE]at e;have:nj want c=(c-48)%256:=by unfold nj;grind
   grind
  .have f:want=86\/want=87\/want=110\/want=107:=Z
   rw[UP h.d on _ _ f,b];rw[FE]at e;have:nj want c=(c-48)%256:=by unfold nj;grind
   grind
 .show(st.d.fV want<|nj want c).C.length<24;rw[n];exact h.b<|a _ q
def arE{x:UInt8}(h:x∈(B.extract i b).data.toList):∃j,∃e:j<B.size,i<=j/\j<b/\B[j]=x:=by rw[Ĳ,ĺ,ĥ]at h;obtain⟨c,d,rfl⟩:=Ĝ h;simp only[Ś,List.length_drop,ě]at d;have f:B.data.size=B.size:=rfl;exact⟨i+c,Z,Z,Z,by simp[ċ]⟩
theorem arF(h:jB B k st)(l:st.r=0)(F:k<B.size)(a:jU B k st (B[k].toNat:Int)=Â o):jB B (k+1) o:=by
 unfold jU at a;split at a
 .rename_i e;exact abZ h l (h.on<|by rw[e];decide) a
 .rename_i t p e;have c:t∈st.C:=by rw[e];exact List.mem_cons_self ..
  split at a
  .rename_i f;subst f;exact arB h l c a
  rename_i G;have i:st.d.r=Î:=by rcases h.c with q|q;all_goals grind
  split at a
  .rename_i f;subst f;split at a
   .rename_i u;cases a;have n:=h.a c;have b:st.d.Y.length<8:=by rw[Ja,h.d.b n,n];decide
    have v:jB B k {st with C:=[84],d:=st.d.nR}:=by refine⟨h.M,h.r,h.C,h.I,λq=> ?_,h.d.nR i b,È i,λq=> ?_,λ_=>rfl,λq=> ?_,λq=> ?_,λq=> ?_⟩;all_goals grind
    exact ab0 (want:=120) v i u [84] (λx b=>b) A
   .exact abZ h l i a
  split at a
  .rename_i f;subst f;exact arC h l _ c a
  split at a
  .rename_i f;subst f;let⟨H,w⟩:=h.Y c;have n:=h.N<|Ï c;have y:=(h.S c).1;have I:=h.C;have J:=h.I;split at a
   .cases a;have z:p=[]:=by rw[y]at e;cases e;rfl
    subst z;refine⟨h.M,h.r,h.C,h.I,λq=> ?_,h.d.oL _ ⟨by rw[Č];omega,λx b=> ?_⟩,È i,λq=> ?_,λq=> ?_,λq=> ?_,λq=> ?_,λq=> ?_⟩
    .grind
    .obtain⟨j,r,m,s,rfl⟩:=arE b;exact w j r m s
    .cases q
    .grind
    .cases q
    .cases q
    .cases q
   .split at a
    .cases a
    .rename_i g;cases a;have K:=λq=>g<|È q;have C:=λq=>g<|Ï q;refine⟨h.M,h.r,by show 0<=st.I+1;omega,by show st.I+1<=40;omega,h.e,h.d,h.c,h.b,h.N,h.a,h.S,λ_=>⟨by show(st.I+1).toNat<=k+1;omega,λj r m s=> ?_⟩⟩;have m:k+1-(st.I+1).toNat<=j:=m;by_cases D:j=k
     .subst D;unfold ye;simpa using C
     .grind
  split at a
  .rename_i L M N E;cases a;refine ab0 h i E p (λx b=>by rw[e];exact Ĕ _ b) λq=> ?_;have:=(h.S<|by rw[e];exact Ĕ _ q).1;grind
  .cases a
def ab1(h:jB B k st)(b:k<B.size)(a:kU B k st (B[k].toNat:Int)=Â o):jB B (k+1) o:=by
 unfold kU at a;split at a
 .rename_i e;cases a;exact h.arv e.1 e.2
 .exact arF h.vx U b a
def UR(B:ByteArray):jB B 0 nS:= ⟨A,A,A,A,(λq=>by cases q),⟨λ_=>⟨rfl,rfl⟩,λ_=>rfl,A,A,(λr e=>by cases e),(λe=>by cases e),(λe=>by cases e),(λe=>by cases e)⟩,Ï rfl,λ_=>by decide,(λq=>by rcases q with q|q<;>simp[nS]at q),(λq=>by simp[nS]at q),(λq=>by simp[nS]at q),(λq=>by simp[nS]at q)⟩
def US:∀(f k:Nat) (st:PS),jB B k st->k<=B.size->jB B (jV B f k st).1 (jV B f k st).2/\(jV B f k st).1<=B.size
 |0,k,st,h,hk=>⟨h,hk⟩
 |f+1,k,st,h,hk=>by
  unfold jV;split
  .rename_i a;split
   .exact⟨h,hk⟩
   .rename_i o e;exact US f (k+1) o (ab1 h a e) Z
  .exact⟨h,hk⟩
end
section
variable{g:Gh}{st:PS}
def ab2{d:PD}(i:Nat)(z:Int):g.M (d.iz i z)=g.M d:=by unfold PD.iz Gh.M;split<;>simp[PD.oK,PD.ov, *]
def ab3{d:PD}(h:i=2\/i=3)(z:Int):g.CN (d.iz i z) (if i=2 then 110 else 107)=⟨g.M d,i,Á⟩:=by
 rcases h with rfl|rfl
 .show(⟨g.M<|d.iz 2 z,2,Á⟩:ü)=_;rw[ab2]
 .show(⟨g.M<|d.iz 3 z,3,Á⟩:ü)=_;rw[ab2]
def ab4{d:PD}(on:d.r=Î):g.S d=Â ⟨g.q,0,Á⟩:=if_pos on
def arG{d:PD}(on:d.r=Î):g.G d=Â ⟨g.M d,0,Á⟩:=if_pos on
def Mi(h:gT m b g O B st w)(j:st.r=0)(on:st.d.r=Î)(a c:Int)(v:pe a c=Î): Ò À 100 #[Ã<|Â ⟨b,0,Á⟩,Å ū a,Å ū c] w λe u=>e=Æ (ë #[])/\sH m b (ow st a c) w u:=by
 have G:w.cell? ⟨b,2,Á⟩=Â (Ã<|g.S st.d):=h.r.r 2 _ U;have x:w.cell? ⟨b,4,Á⟩=Â (Ã<|g.G st.d):=h.r.r 4 _ U;rw[ab4 on]at G;rw[arG on]at x;have H:=fg<|Ê h v;clear h v;generalize y:g.M st.d=tm at x;have n:=fg y;clear y;by_cases o:a=86
 .subst o;have k:=fg (show ow st 86 c={st with r:=wB c 2,M:=86,d:=st.d.ov 5 (je c)}from by unfold ow;rw[<-Ni H.out.2 (È ⟨È U,U⟩),Nk A];rfl);go_enter Ā,û;go_wp2_with (go_at_call 147;refine(Nh H.out.1 (FI H.out.1.C H.out.1.r on (i:=5) A) j on _ _ 86 A A λz=>rfl).mono ?_;rintro e u ⟨rfl,l⟩);go_end0;exact⟨U,by rwa[k.out]⟩
 have I:(a==86)=Ë:=by rwa[beq_eq_false_iff_ne]
 by_cases p:a=87
 .subst p;have k:=fg (show ow st 87 c={st with r:=wB c 2,M:=87,d:=st.d.ov 6 (je c)}from by unfold ow;rw[<-Ni H.out.2 (È ⟨Ï U,U⟩),Nk A];rfl);go_enter Ā,û;go_wp2_with (go_at_call 147;refine(Nh H.out.1 (FI H.out.1.C H.out.1.r on (i:=6) A) j on _ _ 87 A A λz=>rfl).mono ?_;rintro e u ⟨rfl,l⟩);go_end0;exact⟨U,by rwa[k.out]⟩
 have J:(a==87)=Ë:=by rwa[beq_eq_false_iff_ne]
 by_cases q:a=120
 .subst q;have f:=fg ((by have:=FJ H.out.1.C H.out.1.r on (i:=0) A;rw[n.out]at this;exact this:qH m b g st.d tm 0 (λz=>st.d.iz 0 z) (st.d.tH 0) w));have C:=f.out.C;have D:=f.out.I;have E:=f.out.r;go_enter Ā,û;go_wp2_with fail;go_region_with (go_at_call 146;refine(I7 _ _ _).mono ?_;rintro e u ⟨rfl,F⟩;subst u);all_goals go_end0
  all_goals exact⟨U,UL H.out.1 f.out j (Nj A) U⟩
 have K:(a==120)=Ë:=by rwa[beq_eq_false_iff_ne]
 by_cases r:a=121
 .subst r;have f:=fg ((by have:=FJ H.out.1.C H.out.1.r on (i:=1) A;rw[n.out]at this;exact this:qH m b g st.d tm 1 (λz=>st.d.iz 1 z) (st.d.tH 1) w));have C:=f.out.C;have D:=f.out.I;have E:=f.out.r;go_enter Ā,û;go_wp2_with fail;go_region_with (go_at_call 146;refine(I7 _ _ _).mono ?_;rintro e u ⟨rfl,F⟩;subst u);all_goals go_end0
  all_goals exact⟨U,UL H.out.1 f.out j (Nj A) U⟩
 have L:(a==121)=Ë:=by rwa[beq_eq_false_iff_ne]
 by_cases s:a=110
 .subst s;have k:=fg (show ow st 110 c={st with r:=wB c 6,M:=110,d:=st.d.iz 2 (je c)}from by unfold ow;rw[<-Ni H.out.2 (Ï ⟨È U,U⟩),Nk A];rfl);go_enter Ā,û;go_wp2_with (go_at_call 147;refine(Nh H.out.1 ((by have:=FJ H.out.1.C H.out.1.r on (i:=2) A;rw[n.out]at this;exact this:qH m b g st.d tm 2 (λz=>st.d.iz 2 z) (st.d.tH 2) w)) j on _ _ 110 A A λz=>(by have:=ab3 (g:=g) (d:=st.d) (i:=2) (È U) z;rwa[n.out]at this)).mono ?_;rintro e u ⟨rfl,l⟩);go_end0;exact⟨U,by rwa[k.out]⟩
 have M:(a==110)=Ë:=by rwa[beq_eq_false_iff_ne]
 by_cases t:a=107
 .subst t;have k:=fg (show ow st 107 c={st with r:=wB c 6,M:=107,d:=st.d.iz 3 (je c)}from by unfold ow;rw[<-Ni H.out.2 (Ï ⟨Ï U,U⟩),Nk A];rfl);go_enter Ā,û;go_wp2_with (go_at_call 147;refine(Nh H.out.1 ((by have:=FJ H.out.1.C H.out.1.r on (i:=3) A;rw[n.out]at this;exact this:qH m b g st.d tm 3 (λz=>st.d.iz 3 z) (st.d.tH 3) w)) j on _ _ 107 A A λz=>(by have:=ab3 (g:=g) (d:=st.d) (i:=3) (Ï U) z;rwa[n.out]at this)).mono ?_;rintro e u ⟨rfl,l⟩);go_end0;exact⟨U,by rwa[k.out]⟩
 have l:(a==107)=Ë:=by rwa[beq_eq_false_iff_ne]
 by_cases k:a=115
 .subst k;have f:=fg<|FI H.out.1.C H.out.1.r on (i:=7) A;have C:=f.out.C;have D:=f.out.I;have E:=f.out.r;go_enter Ā,û;go_wp2_with fail;go_region_with (go_at_call 146;refine(I7 _ _ _).mono ?_;rintro e u ⟨rfl,F⟩;subst u);all_goals go_end0
  all_goals exact⟨U,UL H.out.1 f.out j (Nj A) U⟩
 have f:(a==115)=Ë:=by rwa[beq_eq_false_iff_ne]
 go_enter Ā,û;go_wp2;go_end0;refine⟨U,fe.gd _ _,g,O,B,?_⟩;have e:ow st a c={st with M:=a}:=by unfold ow PD.fV;rw[Nj ⟨Z,Z⟩,if_neg o,if_neg p,if_neg q,if_neg r,if_neg s,if_neg t,if_neg k,<-j]
 rw[e];exact H.out.1.UJ a j
end
section
variable{g:Gh}{s:ByteArray}{st:PS}{d:PD}
def Nq(m b:Nat)(o:Option PS)(e:Ending)(w u:Í):Prop:=
 (o=Á/\e=Æ (õ Ë)/\u=w)\/∃a,o=Â a/\e=Æ (õ Î)/\sH m b a w u
def ab5{o:Option PS}{e:Ending}(h:match o with
 |none=>e=Æ (õ Ë)/\u=w
 |some a=>e=Æ (õ Î)/\sH m b a w u):Nq m b o e w u:=by
 cases o with
 |none=>exact È ⟨U,h⟩
 |some a=>exact Ï ⟨a,U,h⟩
def arH{d:PD}(on:d.r=Î):d.C.length=d.S.length+1:=by rw[yu,on];rfl
def ab6(h:gT m b g O s st w)(j:st.r=0)(on:st.d.r=Î)(y:st.d.Y.length<=8)(z:st.d.C.length<=24)(c:Int): Ò À 95 #[Ã<|Â ⟨b,0,Á⟩,Å ū c] w λe u=>Nq m b (pX st c) e w u:=by
 have l:=h.C.r on;let⟨I,J,p⟩:=jl h.C.C;let⟨K,L,q⟩:=jl l.I;rw[h.C.G]at p;rw[l.G]at q;have M:=h.r.r 0 _ U;have r:=h.r.r 1 _ U;have B:=h.r.r 2 _ U;rw[ab4 on]at B;rw[p]at r;have t:=l.r.r 8 _ (by have:=CO st.d.I.c g.r;rwa[l.M]at this);rw[q]at t;have N:=h.r.C 0;obtain⟨v,f⟩:∃n,st.d.C.length=n:=⟨_,U⟩;obtain⟨x,i⟩:∃n,st.d.Y.length=n:=⟨_,U⟩;rw[f]at r z;rw[i]at t y;have k:st.d.S.length+1=v:=by rw[<-f];exact(arH on).symm
 have H:=fg<|Ê h<|Ê f<|Ê i<|Ê k j;by_cases C:c=59/\v<24
 .obtain⟨rfl,a⟩:=C;go_enter ť,ŗ;go_wp2;go_ret;let⟨h,f,i,k,j⟩:=H.out;exact Ï ⟨_,by rw[pX,if_pos ⟨U,Z⟩],U,mR h 0 _,g,O,_,h.Ng _ [82] A A<|È on⟩
 by_cases D:c=44/\0<x/\x<8
 .obtain⟨rfl,P,Q⟩:=D;go_enter ť,ŗ;go_wp2_with (go_at_call 99;refine(abT H.out.1 H.out.2.2.2.2 on (by have:=H.out.2.2.1;omega)).mono ?_;rintro e u ⟨rfl,o,E,F,S,a⟩;have T:=a.r.r 0 _ U;have V:=a.r.C 0;have G:=fg<|Ê o a;clear o a);go_ret;let⟨h,f,i,k,j⟩:=H.out;let⟨o,a⟩:=G.out;exact Ï ⟨_,by rw[pX,if_neg Z,if_pos ⟨U,Z,Z⟩],U,o.fi<|mR a 0 _,E,F,_,a.Ng _ [120,84] A A<|È on⟩
 .have a:=fg (show pX st c=Á by
   let⟨h,f,i,k,j⟩:=H.out;rw[pX,if_neg Z,if_neg Z])
  go_enter ť,ŗ;go_wp2_with fail;all_goals first|(go_ret;exact È ⟨a.out,U,U⟩)|(exfalso;simp only[beq_iff_eq,decide_eq_true_eq]at*;omega)
def kv:Τ->Option Τ
 |ń c=>Â c
 |.seq a b=>match kv a with
  |some c=>Â c
  |none=>kv b
 |.block _ c=>kv c
 |.scope c=>kv c
 |.cond _ a b=>match kv a with
  |some c=>Â c
  |none=>kv b
 |_=>Á
noncomputable def qI:Τ:=(Tryz.f61.body.bind kv).getD aj
def p6(b:Nat)(B:ByteArray)(i:Ñ)(u:Nat->Ñ):Ĉ:=⟨#[Ã<|Â ⟨b,0,Á⟩,Ä B,ĸ,ĸ,Å É 0,i,u 6,u 7,u 8,u 9,u 10,u 11,u 12,u 13,u 14,u 15,u 16,u 17,u 18,u 19,u 20,u 21,u 22,u 23,u 24,u 25,u 26,u 27,u 28,u 29,u 30,u 31,u 32,u 33,u 34,u 35,u 36,u 37,u 38,u 39,u 40,u 41,u 42,u 43,u 44,u 45,u 46,u 47,u 48,u 49,u 50,u 51,u 52,u 53,u 54,u 55,u 56,u 57,u 58,u 59,u 60,u 61,u 62,u 63,u 64,u 65,u 66,u 67,u 68,u 69,u 70,u 71,u 72,u 73,u 74,u 75,u 76,u 77,u 78,u 79,u 80,u 81,u 82,u 83,u 84,u 85,u 86,u 87,u 88,u 89,u 90,u 91,u 92,u 93,u 94,u 95,u 96,u 97,u 98,u 99,u 100,u 101,u 102,u 103,u 104,u 105,u 106,u 107,u 108,u 109,u 110,u 111,u 112,u 113,u 114,u 115,u 116,u 117,u 118,u 119,u 120,u 121,u 122,u 123,u 124,u 125,u 126,u 127,u 128,u 129,u 130,u 131,u 132,u 133,u 134,u 135,u 136,u 137,u 138,u 139,u 140,u 141,u 142,u 143,u 144,u 145,u 146],[]⟩
def Fr(b:Nat)(B:ByteArray)(i:Ñ)(a:Ĉ):Prop:=∃u,a=p6 b B i u
def gu{b:Nat}{B:ByteArray}{i:Value}{a:Act}(h:a=p6 b B i (λn=>a.tmps.getD n undef):=by rfl):Fr b B i a:=⟨_,h⟩
def QQ(X:Ĉ->Í->Prop):Exit->Ĉ->Í->Prop
 |.exit 0,a,w=>X a w
 |_,_,_=>False
def sI(m b:Nat)(B:ByteArray)(k:Nat)(st:PS)(a u:Í):Prop:=∃(h:k<B.size) (h:PS),kU B k st (B[k].toNat:Int)=Â h/\sH m b h a u
def sJ(m b:Nat)(B:ByteArray)(k:Nat)(st:PS)(a u:Í):Prop:=∃h:k<B.size,kU B k st (B[k].toNat:Int)=Á/\∃c,sH m b c a u
theorem vg{d:Int}(h:(0<d/\yQ=Ë)\/d<=0):¬(0<d/\yQ=Î):=by grind
def vh(h:¬(0<st.r/\jo c=Î)):kU B k st c=jU B k {st with r:=0} c:=if_neg h
def arI(a:0<st.r)(b:jo c=Î):kU B k st c=Â (CL st c):=if_pos ⟨a,b⟩
section
variable{want:Int}
def arJ(h:st.C=[]):jU B k st c=pX st c:=by rw[jU,h]
def arK(h:st.C=want::zQ)(a:want=82):jU B k st c=yr st (wx c):=by rw[jU,h];simp only;rw[if_pos a]
def arL(h:st.C=want::zQ)(a:want=66)(b:sE c=Î):jU B k st c=Â (ow {st with C:=[84],d:=st.d.nR} 120 c):=by rw[jU,h];simp only;rw[if_neg Z,if_pos a,if_pos b]
def arM(h:st.C=want::zQ)(a:want=66)(b:sE c=Ë):jU B k st c=pX st c:=by rw[jU,h];simp only;rw[if_neg Z,if_pos a,if_neg (by rw[b];decide)]
def arN(h:st.C=want::zQ)(a:want=84):jU B k st c=yt st (Nc c):=by rw[jU,h];simp only;rw[if_neg Z,if_neg Z,if_pos a]
def arO(h:st.C=want::zQ)(a:want=80)(b:c=125):jU B k st c=Â {st with C:=zQ,d:=st.d.oL (B.extract (k-st.I.toNat) k)}:=by rw[jU,h];simp only;rw[if_neg Z,if_neg Z,if_neg Z,if_pos a,if_pos b]
def ab7(h:st.C=want::zQ)(a:want=80)(b:¬c=125)(d:st.I=40\/lH c=0):jU B k st c=Á:=by rw[jU,h];simp only;rw[if_neg Z,if_neg Z,if_neg Z,if_pos a,if_neg b,if_pos d]
def arP(h:st.C=want::zQ)(a:want=80)(b:¬c=125)(d:¬st.I=40)(e:¬lH c=0):jU B k st c=Â {st with I:=st.I+1}:=by rw[jU,h];simp only;rw[if_neg Z,if_neg Z,if_neg Z,if_pos a,if_neg b,if_neg Z]
def arQ(h:st.C=want::zQ)(a:¬want=82)(b:¬want=66)(d:¬want=84)(e:¬want=80)(f:pe want c=Î):jU B k st c=Â {ow st want c with C:=zQ}:=by rw[jU,h];simp only;rw[if_neg a,if_neg b,if_neg d,if_neg e,if_pos f]
def arR(h:st.C=want::zQ)(a:¬want=82)(b:¬want=66)(d:¬want=84)(e:¬want=80)(f:pe want c=Ë):jU B k st c=Á:=by rw[jU,h];simp only;rw[if_neg a,if_neg b,if_neg d,if_neg e,if_neg (by rw[f];decide)]
end
def vi(c:UInt8):(0:Int)<=(c.toNat:Int)/\(c.toNat:Int)<256:=⟨Int.natCast_nonneg _,by have:=c.toNat_lt;omega⟩
def UT(s:ByteArray)(h:s.size=0):(s.toList==[])=Î:=by simp_all
theorem tJ(s:ByteArray)(h:¬s.size=0):(s.toList==[])=Ë:=by
 rw[beq_eq_false_iff_ne];intro e;have:s.toList.length=s.size:=by rw[ByteArray.toList_eq];rfl
 grind
def gT.arS(h:gT m b g O s st w)(on:st.d.r=Î)(i:c=86\/c=87\/c=110\/c=107):∃a e f,g.CN st.d c=⟨a,e,Á⟩/\qH m b g st.d a e f (st.d.G c) w/\∀z,f z=st.d.fV c z:=by
 rcases i with rfl|rfl|rfl|rfl
 .exact⟨_,_,_,U,FI h.C h.r on A,λz=>rfl⟩
 .exact⟨_,_,_,U,FI h.C h.r on A,λz=>rfl⟩
 .exact⟨_,_,_,U,FJ h.C h.r on A,λz=>rfl⟩
 .exact⟨_,_,_,U,FJ h.C h.r on A,λz=>rfl⟩
def gT.oL(h:gT m b g O s st w)(on:st.d.r=Î)(a:st.d.M=Î)(p:ByteArray):gT m b g O s {st with d:=st.d.oL p} (w.setCell ⟨g.t,5,Á⟩<|Ä p)/\fe (λi=>m<=i) w (w.setCell ⟨g.t,5,Á⟩<|Ä p):=by have l:=h.C.r on;let⟨f,j,c⟩:=l.C a;have e:fe (λi=>i=g.t) w (w.setCell ⟨g.t,5,Á⟩<|Ä p):=pZ c;exact⟨⟨h.S,h.a.r _ trivial,h.r.I e λx=>fj.S h.r c A x,h.M,h.I,h.C.oL on a p,h.c,h.N⟩,e.S λi _ x=>by have:=l.S;omega⟩
def gT.ab8(h:gT m b g O s st w)(on:st.d.r=Î)(a:st.C=c::zQ):gT m b g O (s.extract 1 s.size) {st with C:=zQ} (w.setCell ⟨b,0,Á⟩<|Ä<|s.extract 1 s.size):= h.Ng _ zQ (aqV s h.M) (by rw[aqU,h.I,a];rfl)<|È on
def gT.arT(h:gT m b g O s st w)(a:st.C=c::zQ):0<s.size:=by have:=UC s;rw[h.I,a]at this;simp at this;omega
end
section
variable{g:Gh}{s:ByteArray}{st:PS}{d:PD}
def arU(h:gT m b g O s st w)(a:st.r=0)(c:st.d.r=Ë->st.d.S=[])(f:st.d.C.length<=100000)(k:Int): Ò À 96 #[Ã<|Â ⟨b,0,Á⟩,Å É k] w λe u=>Nq m b (yr st k) e w u:=(aro h a c f k).mono λ_ _ q=>ab5 q
def arV(h:gT m b g O s st w)(a:st.r=0)(on:st.d.r=Î)(c:st.d.M=Î)(k:Int): Ò À 101 #[Ã<|Â ⟨b,0,Á⟩,Å É k] w λe u=>Nq m b (yt st k) e w u:=(ard h a on c k).mono λ_ _ q=>ab5 q
theorem arW{X:Ĉ->Í->Prop}{a:Ĉ}(G:Fr b B (Å É k) a) (h:gT m b g O s st w) (i:jB B k st) (Q:B.size<=1200) (H:k<B.size) (n:0<st.r) (I:jo (B[k].toNat:Int)=Î) (S:∀a u,Fr b B (Å É<|(k:Int)+1) a/\sI m b B k st w u->K a u) (_hQ:∀a u,Fr b B (Å É k) a/\sJ m b B k st w u->X a u): ß À qI (Exit.then K<|QQ X) a w:=by
 obtain⟨c,rfl⟩:=G;unfold p6;conv=>arg 2;whnf
 have T:w.cell? ⟨b,0,Á⟩=Â (Ä s):=h.r.r 0 _ U;have V:w.cell? ⟨b,6,Á⟩=Â (Å É st.r):=h.r.r 6 _ U;have W:w.cell? ⟨b,7,Á⟩=Â (Å É st.I):=h.r.r 7 _ U;have Y:=h.r.C 0;have f6:=h.r.C 6;have f7:=h.r.C 7;have d0:=i.M;have d1:=i.r;have e0:=i.C;have e1:=i.I;let⟨q,on,_,_⟩:=i.e n;let⟨r,ao,f,t,j,v⟩:=h.arS on q;have J:w.cell? ⟨b,5,Á⟩=Â (Ã O):=h.r.r 5 _ U;rw[(h.c n).2,t]at J;obtain⟨x,o⟩:∃x,st.d.G st.M=x:=⟨_,U⟩;have L:=j.C;rw[o]at L;have fm:=j.I;obtain⟨M,N⟩:∃y,wrap64 (x*10)=y:=⟨_,U⟩;obtain⟨l,P⟩:∃y,wrap64 (M+((B[k].toNat:Int)-48)%256)=y:=⟨_,U⟩;have Nr:¬r=b:=j.r;have Ns:¬b=r:=λe=>j.r e.symm;have z:=h.Y (st.r-1) λ_=>h.c n;have p:=j.rd 6<|Å É<|st.r-1;have C:=z.G p l;have D:pW (st.d.G st.M) (B[k].toNat:Int)=l:=by rw[pW,š,š,o,N,P]
 have E:CL st (B[k].toNat:Int)={st with r:=st.r-1,d:=f l}:=by rw[CL,D,v]
 have F:Hid (kU B k st (B[k].toNat:Int)=Â {st with r:=st.r-1,d:=f l}/\sH m b {st with r:=st.r-1,d:=f l} w (ξ _)):= fg ⟨by rw[arI n I,E],(((mR h 6 _).fi<|FK (st:=st) p _).C (fe.fY fh _) λ_ _ x=>x.elim),g,O,s,C.fY⟩;clear z p C D E j v t h i o q;go_wp2_with (go_at_call 94;refine(sG _ _).mono ?_;rintro e u ⟨rfl,hw⟩;subst u);go_region;all_goals
  go_wp2;exact⟨gu,⟨H,_,F.out.1,F.out.2⟩⟩
theorem arX{X:Ĉ->Í->Prop}(z:Fr b B (Å É k) y) (i:gT m b g O s st w) (j:jB B k st) (Q:B.size<=1200) (l:k<B.size) (n:(0<st.r/\jo (B[k].toNat:Int)=Ë)\/st.r<=0) (o:s.size=0) (S:∀y u,Fr b B (Å É<|(k:Int)+1) y/\sI m b B k st w u->K y u) (C:∀y u,Fr b B (Å É k) y/\sJ m b B k st w u->X y u): ß À qI (Exit.then K<|QQ X) y w:=by
 obtain⟨f,rfl⟩:=z;unfold p6;conv=>arg 2;whnf
 have T:w.cell? ⟨b,0,Á⟩=Â (Ä s):=i.r.r 0 _ U;have V:w.cell? ⟨b,6,Á⟩=Â (Å É st.r):=i.r.r 6 _ U;have W:w.cell? ⟨b,7,Á⟩=Â (Å É st.I):=i.r.r 7 _ U;have Y:=i.r.C 0;have f6:=i.r.C 6;have f7:=i.r.C 7;have d0:=j.M;have d1:=j.r;have e0:=j.C;have e1:=j.I;have p:=fg<|vh (B:=B) (k:=k)<|vg n;have r:=i.Y 0 λh=>absurd h A;have t:=fg<|mR i 6<|Å É 0;have D:=j.d.C;have E:=j.d.I;have F:=fg r;let⟨uh,Au⟩:=vi B[k];have rm:=UT s o;have h:st.C=[]:=by rw[<-i.I];exact abJ s o
 have G:st.d.r=Î:=by
  rcases i.N with q|q
  .exact q
  .rw[h]at q;cases q
 have v:=fg<|arJ (B:=B) (k:=k) (c:=(B[k].toNat:Int)) (st:={st with r:=0}) h;clear h i j;rcases n with⟨H,o6⟩|H;all_goals
  go_wp2_with (first|(go_at_call 94;refine(sG _ _).mono ?_;rintro e u ⟨rfl,x⟩;subst u)|(go_at_call 95;refine(ab6 r U G E D _).mono ?_;rintro e u (⟨q,rfl,x⟩|⟨I,q,rfl,J,L,M,N,P⟩)))
  .subst x;exact C _ _ ⟨gu,⟨l,p.out.trans<|v.out.trans q,_,t.out,_,_,_,F.out⟩⟩
  .exact⟨gu,⟨l,I,p.out.trans<|v.out.trans q,t.out.fi J,L,M,N,P⟩⟩
theorem arY{X:Ĉ->Í->Prop}(z:Fr b B (Å É k) y) (i:gT m b g O s st w) (j:jB B k st) (P:B.size<=1200) (o:k<B.size) (p:(0<st.r/\jo (B[k].toNat:Int)=Ë)\/st.r<=0) (q:0<s.size) (l:((s[0]'q).toNat:Int)=82) (Q:∀y u,Fr b B (Å É<|(k:Int)+1) y/\sI m b B k st w u->K y u) (C:∀y u,Fr b B (Å É k) y/\sJ m b B k st w u->X y u): ß À qI (Exit.then K<|QQ X) y w:=by
 obtain⟨f,rfl⟩:=z;unfold p6;conv=>arg 2;whnf
 have S:w.cell? ⟨b,0,Á⟩=Â (Ä s):=i.r.r 0 _ U;have T:w.cell? ⟨b,6,Á⟩=Â (Å É st.r):=i.r.r 6 _ U;have V:w.cell? ⟨b,7,Á⟩=Â (Å É st.I):=i.r.r 7 _ U;have W:=i.r.C 0;have Y:=i.r.C 6;have f7:=i.r.C 7;have d0:=j.M;have d1:=j.r;have e0:=j.C;have e1:=j.I;have r:=fg<|vh (B:=B) (k:=k)<|vg p;have t:=i.Y 0 λh=>absurd h A;have v:=fg<|mR i 6<|Å É 0;have Av:=j.d.C;have CP:=j.d.I;have D:=fg t;let⟨uh,Au⟩:=vi B[k];have rm:=tJ s Z;have tK:s.size<=10:=i.M;have E:=fg (show st.C=(s[0].toNat:Int)::(j2 s).tail by rw[<-i.I];exact wy s q);have x:=fg<|arK (B:=B) (k:=k) (c:=(B[k].toNat:Int)) (st:={st with r:=0}) E.out l;have yv:((s[0].toNat:Int)==82)=Î:=by rw[l];rfl
 have F:=fg λe=>(j.d.N e).1;clear l i j;rcases p with⟨G,o6⟩|G;all_goals
  go_wp2_with (first|(go_at_call 94;refine(sG _ _).mono ?_;rintro e u ⟨rfl,h⟩;subst u)|(go_at_call 97;refine(aq4 _ _).mono ?_;rintro e u ⟨rfl,h⟩;subst u)|(go_at_call 96;refine(arU t U F.out (by show st.d.C.length<=100000;omega) _).mono ?_;rintro e u (⟨n,rfl,h⟩|⟨H,n,rfl,I,J,L,M,N⟩)))
  .subst h;exact C _ _ ⟨gu,⟨o,r.out.trans<|x.out.trans n,_,v.out,_,_,_,D.out⟩⟩
  .exact⟨gu,⟨o,H,r.out.trans<|x.out.trans n,v.out.fi I,J,L,M,N⟩⟩
end
section
variable{g:Gh}{s:ByteArray}{st:PS}{d:PD}
def arZ{X:Ĉ->Í->Prop}(t:Fr b B (Å É k) y) (f:gT m b g O s st w) (i:jB B k st) (M:B.size<=1200) (v:k<B.size) (l:(0<st.r/\jo (B[k].toNat:Int)=Ë)\/st.r<=0) (n:0<s.size) (j:((s[0]'n).toNat:Int)=66) (o:sE (B[k].toNat:Int)=Î) (N:∀y u,Fr b B (Å É<|(k:Int)+1) y/\sI m b B k st w u->K y u) (_hQ:∀y u,Fr b B (Å É k) y/\sJ m b B k st w u->X y u): ß À qI (Exit.then K<|QQ X) y w:=by
 obtain⟨c,rfl⟩:=t;unfold p6;conv=>arg 2;whnf
 have P:w.cell? ⟨b,0,Á⟩=Â (Ä s):=f.r.r 0 _ U;have Q:w.cell? ⟨b,6,Á⟩=Â (Å É st.r):=f.r.r 6 _ U;have S:w.cell? ⟨b,7,Á⟩=Â (Å É st.I):=f.r.r 7 _ U;have T:=f.r.C 0;have V:=f.r.C 6;have W:=f.r.C 7;have Y:=i.M;have d1:=i.r;have e0:=i.C;have e1:=i.I;have x:=fg<|vh (B:=B) (k:=k)<|vg l;have p:=f.Y 0 λh=>absurd h A;have z:=fg<|mR f 6<|Å É 0;have Av:=i.d.C;have CP:=i.d.I;have HH1:=fg p;let⟨C,D⟩:=vi B[k];have rm:=tJ s Z;have tK:s.size<=10:=f.M;have h:=fg (show st.C=(s[0].toNat:Int)::(j2 s).tail by rw[<-f.I];exact wy s n);have r:st.d.r=Î:=by
  rcases f.N with q|q
  .exact q
  .rw[h.out]at q;injection q with q;omega
 have q:=fg<|arL (B:=B) (k:=k) (st:={st with r:=0}) h.out j o;have yv:((s[0].toNat:Int)==82)=Ë:=by rw[j];rfl
 have FO:((s[0].toNat:Int)==66)=Î:=by rw[j];rfl
 clear j f i;rcases l with⟨E,o6⟩|E;all_goals
  go_wp2_with (first|(go_at_call 94;refine(sG _ _).mono ?_;rintro e u ⟨rfl,F⟩;subst u)|(go_at_call 98;refine(UD _ C D _).mono ?_;rintro e u ⟨rfl,F⟩;subst u)|(go_at_call 99;refine(abT p U r<|by show st.d.Y.length<=100000;omega).mono ?_;rintro e u ⟨rfl,F,H,I,J,G⟩)|(go_at_call 100;refine(Mi G U r _ _<|show pe 120 _=Î from o).mono ?_;rintro e w'' ⟨rfl,G,H,I,J,L⟩))
  exact⟨gu,⟨v,_,x.out.trans q.out,z.out.fi<|F.fi G,H,I,J,L⟩⟩
def ar0{X:Ĉ->Í->Prop}(z:Fr b B (Å É k) y) (f:gT m b g O s st w) (i:jB B k st) (V:B.size<=1200) (l:k<B.size) (n:(0<st.r/\jo (B[k].toNat:Int)=Ë)\/st.r<=0) (o:0<s.size) (j:((s[0]'o).toNat:Int)=66) (C:sE (B[k].toNat:Int)=Ë) (W:∀y u,Fr b B (Å É<|(k:Int)+1) y/\sI m b B k st w u->K y u) (D:∀y u,Fr b B (Å É k) y/\sJ m b B k st w u->X y u): ß À qI (Exit.then K<|QQ X) y w:=by
 obtain⟨c,rfl⟩:=z;unfold p6;conv=>arg 2;whnf
 have Y:w.cell? ⟨b,0,Á⟩=Â (Ä s):=f.r.r 0 _ U;have c6:w.cell? ⟨b,6,Á⟩=Â (Å É st.r):=f.r.r 6 _ U;have c7:w.cell? ⟨b,7,Á⟩=Â (Å É st.I):=f.r.r 7 _ U;have f0:=f.r.C 0;have f6:=f.r.C 6;have f7:=f.r.C 7;have d0:=i.M;have d1:=i.r;have e0:=i.C;have e1:=i.I;have p:=fg<|vh (B:=B) (k:=k)<|vg n;have r:=f.Y 0 λh=>absurd h A;have t:=fg<|mR f 6<|Å É 0;have E:=i.d.C;have F:=i.d.I;have G:=fg r;let⟨H,I⟩:=vi B[k];have rm:=tJ s Z;have tK:s.size<=10:=f.M;have v:=fg (show st.C=(s[0].toNat:Int)::(j2 s).tail by rw[<-f.I];exact wy s o);have J:st.d.r=Î:=by
  rcases f.N with q|q
  .exact q
  .rw[v.out]at q;injection q with q;omega
 have x:=fg<|arM (B:=B) (k:=k) (st:={st with r:=0}) v.out j C;have yv:((s[0].toNat:Int)==82)=Ë:=by rw[j];rfl
 have FO:((s[0].toNat:Int)==66)=Î:=by rw[j];rfl
 clear j f i;rcases n with⟨L,o6⟩|L;all_goals
  go_wp2_with (first|(go_at_call 94;refine(sG _ _).mono ?_;rintro e u ⟨rfl,h⟩;subst u)|(go_at_call 98;refine(UD _ H I _).mono ?_;rintro e u ⟨rfl,h⟩;subst u)|(go_at_call 95;refine(ab6 r U J F E _).mono ?_;rintro e u (⟨q,rfl,h⟩|⟨M,q,rfl,N,P,Q,S,T⟩)))
  .subst h;exact D _ _ ⟨gu,⟨l,p.out.trans<|x.out.trans q,_,t.out,_,_,_,G.out⟩⟩
  .exact⟨gu,⟨l,M,p.out.trans<|x.out.trans q,t.out.fi N,P,Q,S,T⟩⟩
theorem ar1{X:Ĉ->Í->Prop}(C:Fr b B (Å É k) y) (i:gT m b g O s st w) (j:jB B k st) (Q:B.size<=1200) (o:k<B.size) (p:(0<st.r/\jo (B[k].toNat:Int)=Ë)\/st.r<=0) (r:0<s.size) (l:((s[0]'r).toNat:Int)=84) (S:∀y u,Fr b B (Å É<|(k:Int)+1) y/\sI m b B k st w u->K y u) (D:∀y u,Fr b B (Å É k) y/\sJ m b B k st w u->X y u): ß À qI (Exit.then K<|QQ X) y w:=by
 obtain⟨f,rfl⟩:=C;unfold p6;conv=>arg 2;whnf
 have T:w.cell? ⟨b,0,Á⟩=Â (Ä s):=i.r.r 0 _ U;have V:w.cell? ⟨b,6,Á⟩=Â (Å É st.r):=i.r.r 6 _ U;have W:w.cell? ⟨b,7,Á⟩=Â (Å É st.I):=i.r.r 7 _ U;have Y:=i.r.C 0;have f6:=i.r.C 6;have f7:=i.r.C 7;have d0:=j.M;have d1:=j.r;have e0:=j.C;have e1:=j.I;have t:=fg<|vh (B:=B) (k:=k)<|vg p;have v:=i.Y 0 λh=>absurd h A;have x:=fg<|mR i 6<|Å É 0;have Av:=j.d.C;have CP:=j.d.I;have E:=fg v;let⟨uh,Au⟩:=vi B[k];have rm:=tJ s Z;have tK:s.size<=10:=i.M;have h:=fg (show st.C=(s[0].toNat:Int)::(j2 s).tail by rw[<-i.I];exact wy s r);have F:st.d.r=Î:=by
  rcases i.N with q|q
  .exact q
  .rw[h.out]at q;injection q with q;omega
 have G:st.d.M=Î:=j.N (by rw[h.out,l];simp);have z:=fg<|arN (B:=B) (k:=k) (c:=(B[k].toNat:Int)) (st:={st with r:=0}) h.out l;have yv:((s[0].toNat:Int)==82)=Ë:=by rw[l];rfl
 have FO:((s[0].toNat:Int)==66)=Ë:=by rw[l];rfl
 have wC:((s[0].toNat:Int)==84)=Î:=by rw[l];rfl
 clear l i j;rcases p with⟨H,o6⟩|H;all_goals
  go_wp2_with (first|(go_at_call 94;refine(sG _ _).mono ?_;rintro e u ⟨rfl,q⟩;subst u)|(go_at_call 102;refine(aq3 _ _).mono ?_;rintro e u ⟨rfl,q⟩;subst u)|(go_at_call 101;refine(arV v U F G _).mono ?_;rintro e u (⟨n,rfl,q⟩|⟨I,n,rfl,J,L,M,N,P⟩)))
  .subst q;exact D _ _ ⟨gu,⟨o,t.out.trans<|z.out.trans n,_,x.out,_,_,_,E.out⟩⟩
  .exact⟨gu,⟨o,I,t.out.trans<|z.out.trans n,x.out.fi J,L,M,N,P⟩⟩
end
section
variable{g:Gh}{s:ByteArray}{st:PS}{d:PD}
theorem ar2{X:Ĉ->Í->Prop}(N:Fr b B (Å É k) y) (i:gT m b g O s st w) (j:jB B k st) (hB:B.size<=1200) (P:k<B.size) (E:(0<st.r/\jo (B[k].toNat:Int)=Ë)\/st.r<=0) (F:0<s.size) (l:((s[0]'F).toNat:Int)=80) (r:(B[k].toNat:Int)=125) (hK:∀y u,Fr b B (Å É<|(k:Int)+1) y/\sI m b B k st w u->K y u) (_hQ:∀y u,Fr b B (Å É k) y/\sJ m b B k st w u->X y u): ß À qI (Exit.then K<|QQ X) y w:=by
 obtain⟨f,rfl⟩:=N;unfold p6;conv=>arg 2;whnf
 have c0:w.cell? ⟨b,0,Á⟩=Â (Ä s):=i.r.r 0 _ U;have c6:w.cell? ⟨b,6,Á⟩=Â (Å É st.r):=i.r.r 6 _ U;have Q:w.cell? ⟨b,7,Á⟩=Â (Å É st.I):=i.r.r 7 _ U;have f0:=i.r.C 0;have f6:=i.r.C 6;have f7:=i.r.C 7;have d0:=j.M;have d1:=j.r;have S:=j.C;have T:=j.I;have G:=fg<|vh (B:=B) (k:=k)<|vg E;have v:=i.Y 0 λh=>absurd h A;have H:=fg<|mR i 6<|Å É 0;have Av:=j.d.C;have CP:=j.d.I;have V:=fg v;let⟨uh,Au⟩:=vi B[k];have rm:=tJ s Z;have tK:s.size<=10:=i.M;have h:=fg (show st.C=(s[0].toNat:Int)::(j2 s).tail by rw[<-i.I];exact wy s F);have z:st.d.r=Î:=by
  rcases i.N with q|q
  .exact q
  .rw[h.out]at q;injection q with q;omega
 have C:st.d.M=Î:=j.N (by rw[h.out,l];simp);have W:w.cell? ⟨b,3,Á⟩=Â (Ã<|g.Y st.d):=i.r.r 3 _ U;rw[I8 C]at W;let⟨Y,I,q⟩:=(i.C.r z).C C;have UU:w.cell? ⟨g.t,5,Á⟩=Â (Ä st.d.N.p):=q.r 5 _ (by have:=CO st.d.N.c<|Ä st.d.N.p;rwa[I]at this);have UW:=q.C 5;have Ns:¬b=g.t:=λe=>fj.S q i.r A e.symm;have Nr:¬g.t=b:=fj.S q i.r A;let⟨Nt,_⟩:=j.Y (by rw[h.out,l];simp);have yv:((s[0].toNat:Int)==82)=Ë:=by rw[l];rfl
 have FO:((s[0].toNat:Int)==66)=Ë:=by rw[l];rfl
 have wC:((s[0].toNat:Int)==84)=Ë:=by rw[l];rfl
 have Jb:((s[0].toNat:Int)==80)=Î:=by rw[l];rfl
 clear Y I q;have J:=fg<|arO (B:=B) (k:=k) (st:={st with r:=0}) h.out l r;have UX:((B[k].toNat:Int) !=125)=Ë:=by rw[r];rfl
 obtain⟨n,L⟩:∃t:Nat,st.I=(t:Int):=⟨st.I.toNat,Z⟩;have o:=v.oL z C<|B.extract (k-n) k;have M:=o.1.ab8 z h.out;have D:=fg (Ê (show kU B k st (B[k].toNat:Int)=Â {({st with r:=0}:PS)with C:=(j2 s).tail,d:=st.d.oL (B.extract (k-n) k)} by rw[G.out,J.out,show({st with r:=0}:PS).I.toNat=n by show st.I.toNat=n;omega])<|Ê ((H.out.fi o.2).fi<|mR o.1 0<|Ä<|s.extract 1 s.size) M);rw[L]at Q S T Nt;clear r l i j o M L J G H V v;rcases E with⟨B8,o6⟩|B8;all_goals
  go_wp2_with (first|(go_at_call 94;refine(sG _ _).mono ?_;rintro e u ⟨rfl,x⟩;subst u))
  go_region
  all_goals
   go_wp2;exact⟨gu,⟨P,_,D.out.1,D.out.2.1.C (fe.fY fh _) λ_ _ x=>x.elim,_,_,_,D.out.2.2.fY⟩⟩
theorem ar3{X:Ĉ->Í->Prop}(C:Fr b B (Å É k) y) (i:gT m b g O s st w) (j:jB B k st) (Q:B.size<=1200) (D:k<B.size) (v:(0<st.r/\jo (B[k].toNat:Int)=Ë)\/st.r<=0) (x:0<s.size) (l:((s[0]'x).toNat:Int)=80) (o:¬(B[k].toNat:Int)=125) (r:st.I=40) (_hK:∀y u,Fr b B (Å É<|(k:Int)+1) y/\sI m b B k st w u->K y u) (E:∀y u,Fr b B (Å É k) y/\sJ m b B k st w u->X y u): ß À qI (Exit.then K<|QQ X) y w:=by
 obtain⟨f,rfl⟩:=C;unfold p6;conv=>arg 2;whnf
 have S:w.cell? ⟨b,0,Á⟩=Â (Ä s):=i.r.r 0 _ U;have T:w.cell? ⟨b,6,Á⟩=Â (Å É st.r):=i.r.r 6 _ U;have V:w.cell? ⟨b,7,Á⟩=Â (Å É st.I):=i.r.r 7 _ U;have W:=i.r.C 0;have Y:=i.r.C 6;have f7:=i.r.C 7;have d0:=j.M;have d1:=j.r;have e0:=j.C;have e1:=j.I;have F:=fg<|vh (B:=B) (k:=k)<|vg v;have G:=i.Y 0 λh=>absurd h A;have H:=fg<|mR i 6<|Å É 0;have Av:=j.d.C;have CP:=j.d.I;have I:=fg G;let⟨uh,Au⟩:=vi B[k];have rm:=tJ s Z;have tK:s.size<=10:=i.M;have n:=fg (show st.C=(s[0].toNat:Int)::(j2 s).tail by rw[<-i.I];exact wy s x);have J:st.d.r=Î:=by
  rcases i.N with q|q
  .exact q
  .rw[n.out]at q;injection q with q;omega
 have q:st.d.M=Î:=j.N (by rw[n.out,l];simp);have L:w.cell? ⟨b,3,Á⟩=Â (Ã<|g.Y st.d):=i.r.r 3 _ U;rw[I8 q]at L;let⟨M,z,h⟩:=(i.C.r J).C q;have UU:w.cell? ⟨g.t,5,Á⟩=Â (Ä st.d.N.p):=h.r 5 _ (by have:=CO st.d.N.c<|Ä st.d.N.p;rwa[z]at this);have UW:=h.C 5;have Ns:¬b=g.t:=λe=>fj.S h i.r A e.symm;have Nr:¬g.t=b:=fj.S h i.r A;let⟨Nt,_⟩:=j.Y (by rw[n.out,l];simp);have yv:((s[0].toNat:Int)==82)=Ë:=by rw[l];rfl
 have FO:((s[0].toNat:Int)==66)=Ë:=by rw[l];rfl
 have wC:((s[0].toNat:Int)==84)=Ë:=by rw[l];rfl
 have Jb:((s[0].toNat:Int)==80)=Î:=by rw[l];rfl
 clear M z h;have UX:((B[k].toNat:Int) !=125)=Î:=by rwa[bne_iff_ne]
 have N:=fg<|ab7 (B:=B) (k:=k) (st:={st with r:=0}) n.out l o<|È r;have ab9:(st.I==40)=Î:=by rw[r];rfl
 clear r o l i j;rcases v with⟨P,o6⟩|P;all_goals
  go_wp2_with (first|(go_at_call 94;refine(sG _ _).mono ?_;rintro e u ⟨rfl,hw⟩;subst u))
  exact E _ _ ⟨gu,⟨D,F.out.trans N.out,_,H.out,_,_,_,I.out⟩⟩
theorem ar4{X:Ĉ->Í->Prop}(E:Fr b B (Å É k) y) (i:gT m b g O s st w) (j:jB B k st) (S:B.size<=1200) (F:k<B.size) (v:(0<st.r/\jo (B[k].toNat:Int)=Ë)\/st.r<=0) (x:0<s.size) (l:((s[0]'x).toNat:Int)=80) (o:¬(B[k].toNat:Int)=125) (r:¬st.I=40) (z:¬lH (B[k].toNat:Int)=0) (T:∀y u,Fr b B (Å É<|(k:Int)+1) y/\sI m b B k st w u->K y u) (_hQ:∀y u,Fr b B (Å É k) y/\sJ m b B k st w u->X y u): ß À qI (Exit.then K<|QQ X) y w:=by
 obtain⟨f,rfl⟩:=E;unfold p6;conv=>arg 2;whnf
 have V:w.cell? ⟨b,0,Á⟩=Â (Ä s):=i.r.r 0 _ U;have W:w.cell? ⟨b,6,Á⟩=Â (Å É st.r):=i.r.r 6 _ U;have Y:w.cell? ⟨b,7,Á⟩=Â (Å É st.I):=i.r.r 7 _ U;have f0:=i.r.C 0;have f6:=i.r.C 6;have f7:=i.r.C 7;have d0:=j.M;have d1:=j.r;have e0:=j.C;have e1:=j.I;have G:=fg<|vh (B:=B) (k:=k)<|vg v;have H:=i.Y 0 λh=>absurd h A;have I:=fg<|mR i 6<|Å É 0;have Av:=j.d.C;have CP:=j.d.I;have C:=fg H;let⟨uh,Au⟩:=vi B[k];have rm:=tJ s Z;have tK:s.size<=10:=i.M;have n:=fg (show st.C=(s[0].toNat:Int)::(j2 s).tail by rw[<-i.I];exact wy s x);have J:st.d.r=Î:=by
  rcases i.N with q|q
  .exact q
  .rw[n.out]at q;injection q with q;omega
 have q:st.d.M=Î:=j.N (by rw[n.out,l];simp);have L:w.cell? ⟨b,3,Á⟩=Â (Ã<|g.Y st.d):=i.r.r 3 _ U;rw[I8 q]at L;let⟨M,D,h⟩:=(i.C.r J).C q;have UU:w.cell? ⟨g.t,5,Á⟩=Â (Ä st.d.N.p):=h.r 5 _ (by have:=CO st.d.N.c<|Ä st.d.N.p;rwa[D]at this);have UW:=h.C 5;have Ns:¬b=g.t:=λe=>fj.S h i.r A e.symm;have Nr:¬g.t=b:=fj.S h i.r A;let⟨Nt,_⟩:=j.Y (by rw[n.out,l];simp);have yv:((s[0].toNat:Int)==82)=Ë:=by rw[l];rfl
 have FO:((s[0].toNat:Int)==66)=Ë:=by rw[l];rfl
 have wC:((s[0].toNat:Int)==84)=Ë:=by rw[l];rfl
 have Jb:((s[0].toNat:Int)==80)=Î:=by rw[l];rfl
 clear M D h;have UX:((B[k].toNat:Int) !=125)=Î:=by rwa[bne_iff_ne]
 have N:=fg<|arP (B:=B) (k:=k) (st:={st with r:=0}) n.out l o r z;have ab9:(st.I==40)=Ë:=by rwa[beq_eq_false_iff_ne]
 have zC:((lH (B[k].toNat:Int):Int)==0)=Ë:=by rw[beq_eq_false_iff_ne];omega
 clear r o l i j z;rcases v with⟨P,o6⟩|P;all_goals
  go_wp2_with (first|(go_at_call 94;refine(sG _ _).mono ?_;rintro e u ⟨rfl,Q⟩;subst u)|(go_at_call 103;refine(qz _ _).mono ?_;rintro e u ⟨rfl,Q⟩;subst u))
  exact⟨gu,⟨F,_,G.out.trans N.out,I.out.fi<|mR C.out 7 _,_,_,_,C.out.abQ _⟩⟩
theorem ar5{X:Ĉ->Í->Prop}(D:Fr b B (Å É k) y) (i:gT m b g O s st w) (j:jB B k st) (T:B.size<=1200) (E:k<B.size) (v:(0<st.r/\jo (B[k].toNat:Int)=Ë)\/st.r<=0) (x:0<s.size) (l:((s[0]'x).toNat:Int)=80) (o:¬(B[k].toNat:Int)=125) (z:¬st.I=40) (r:lH (B[k].toNat:Int)=0) (_hK:∀y u,Fr b B (Å É<|(k:Int)+1) y/\sI m b B k st w u->K y u) (F:∀y u,Fr b B (Å É k) y/\sJ m b B k st w u->X y u): ß À qI (Exit.then K<|QQ X) y w:=by
 obtain⟨f,rfl⟩:=D;unfold p6;conv=>arg 2;whnf
 have V:w.cell? ⟨b,0,Á⟩=Â (Ä s):=i.r.r 0 _ U;have W:w.cell? ⟨b,6,Á⟩=Â (Å É st.r):=i.r.r 6 _ U;have Y:w.cell? ⟨b,7,Á⟩=Â (Å É st.I):=i.r.r 7 _ U;have f0:=i.r.C 0;have f6:=i.r.C 6;have f7:=i.r.C 7;have d0:=j.M;have d1:=j.r;have e0:=j.C;have e1:=j.I;have G:=fg<|vh (B:=B) (k:=k)<|vg v;have H:=i.Y 0 λh=>absurd h A;have I:=fg<|mR i 6<|Å É 0;have Av:=j.d.C;have CP:=j.d.I;have J:=fg H;let⟨uh,Au⟩:=vi B[k];have rm:=tJ s Z;have tK:s.size<=10:=i.M;have n:=fg (show st.C=(s[0].toNat:Int)::(j2 s).tail by rw[<-i.I];exact wy s x);have L:st.d.r=Î:=by
  rcases i.N with q|q
  .exact q
  .rw[n.out]at q;injection q with q;omega
 have q:st.d.M=Î:=j.N (by rw[n.out,l];simp);have M:w.cell? ⟨b,3,Á⟩=Â (Ã<|g.Y st.d):=i.r.r 3 _ U;rw[I8 q]at M;let⟨N,C,h⟩:=(i.C.r L).C q;have UU:w.cell? ⟨g.t,5,Á⟩=Â (Ä st.d.N.p):=h.r 5 _ (by have:=CO st.d.N.c<|Ä st.d.N.p;rwa[C]at this);have UW:=h.C 5;have Ns:¬b=g.t:=λe=>fj.S h i.r A e.symm;have Nr:¬g.t=b:=fj.S h i.r A;let⟨Nt,_⟩:=j.Y (by rw[n.out,l];simp);have yv:((s[0].toNat:Int)==82)=Ë:=by rw[l];rfl
 have FO:((s[0].toNat:Int)==66)=Ë:=by rw[l];rfl
 have wC:((s[0].toNat:Int)==84)=Ë:=by rw[l];rfl
 have Jb:((s[0].toNat:Int)==80)=Î:=by rw[l];rfl
 clear N C h;have UX:((B[k].toNat:Int) !=125)=Î:=by rwa[bne_iff_ne]
 have P:=fg<|ab7 (B:=B) (k:=k) (st:={st with r:=0}) n.out l o<|Ï r;have ab9:(st.I==40)=Ë:=by rwa[beq_eq_false_iff_ne]
 have zC:((lH (B[k].toNat:Int):Int)==0)=Î:=by rw[r];rfl
 clear z o l i j r;rcases v with⟨Q,o6⟩|Q;all_goals
  go_wp2_with (first|(go_at_call 94;refine(sG _ _).mono ?_;rintro e u ⟨rfl,S⟩;subst u)|(go_at_call 103;refine(qz _ _).mono ?_;rintro e u ⟨rfl,S⟩;subst u))
  exact F _ _ ⟨gu,⟨E,G.out.trans P.out,_,I.out,_,_,_,J.out⟩⟩
end
section
variable{g:Gh}{s:ByteArray}{st:PS}{d:PD}
def ar6{X:Ĉ->Í->Prop}(D:Fr b B (Å É k) y) (f:gT m b g O s st w) (i:jB B k st) (Q:B.size<=1200) (E:k<B.size) (v:(0<st.r/\jo (B[k].toNat:Int)=Ë)\/st.r<=0) (j:0<s.size) (n:¬((s[0]'j).toNat:Int)=82) (o:¬((s[0]'j).toNat:Int)=66) (p:¬((s[0]'j).toNat:Int)=84) (r:¬((s[0]'j).toNat:Int)=80) (x:pe ((s[0]'j).toNat:Int) (B[k].toNat:Int)=Î) (S:∀y u,Fr b B (Å É<|(k:Int)+1) y/\sI m b B k st w u->K y u) (_hQ:∀y u,Fr b B (Å É k) y/\sJ m b B k st w u->X y u): ß À qI (Exit.then K<|QQ X) y w:=by
 obtain⟨c,rfl⟩:=D;unfold p6;conv=>arg 2;whnf
 have T:w.cell? ⟨b,0,Á⟩=Â (Ä s):=f.r.r 0 _ U;have V:w.cell? ⟨b,6,Á⟩=Â (Å É st.r):=f.r.r 6 _ U;have W:w.cell? ⟨b,7,Á⟩=Â (Å É st.I):=f.r.r 7 _ U;have Y:=f.r.C 0;have f6:=f.r.C 6;have f7:=f.r.C 7;have d0:=i.M;have d1:=i.r;have e0:=i.C;have e1:=i.I;have F:=fg<|vh (B:=B) (k:=k)<|vg v;have G:=f.Y 0 λh=>absurd h A;have H:=fg<|mR f 6<|Å É 0;have Av:=i.d.C;let⟨I,J⟩:=vi B[k];have rm:=tJ s Z;have tK:s.size<=10:=f.M;have l:=fg (show st.C=(s[0].toNat:Int)::(j2 s).tail by rw[<-f.I];exact wy s j);have z:st.d.r=Î:=by
  rcases f.N with q|q
  .exact q
  .rw[l.out]at q;injection q with q;omega
 have yv:((s[0].toNat:Int)==82)=Ë:=by rwa[beq_eq_false_iff_ne]
 have ar7:((s[0].toNat:Int)==66)=Ë:=by rwa[beq_eq_false_iff_ne]
 have wC:((s[0].toNat:Int)==84)=Ë:=by rwa[beq_eq_false_iff_ne]
 have Jb:((s[0].toNat:Int)==80)=Ë:=by rwa[beq_eq_false_iff_ne]
 have L:=fg<|arQ (B:=B) (k:=k) (st:={st with r:=0}) l.out n o p r x;have M:=fg x;clear n o p r f i;rcases v with⟨N,o6⟩|N;all_goals
  go_wp2_with (first|(go_at_call 94;refine(sG _ _).mono ?_;rintro e u ⟨rfl,h⟩;subst u)|(go_at_call 104;refine(abL _ _ I J _).mono ?_;rintro e u ⟨rfl,h⟩;subst u)|(go_at_call 100;refine(Mi G U z _ _ M.out).mono ?_;rintro e P ⟨rfl,C,g',nm',q,h⟩;have k0:P.cell? ⟨b,0,Á⟩=Â (Ä q):=h.r.r 0 _ U;have kf0:=h.r.C 0;have ui:0<q.size:=h.arT l.out;have avD:q.size<=10:=h.M;have t:=fg<|Ê C h;clear C h))
  exact⟨gu,⟨E,_,F.out.trans L.out,H.out.fi<|t.out.1.fi<|mR t.out.2 0 _,_,_,_,t.out.2.ab8 ((UO _ _ _).1.trans z) l.out⟩⟩
def ar8{X:Ĉ->Í->Prop}(t:Fr b B (Å É k) y) (f:gT m b g O s st w) (i:jB B k st) (L:B.size<=1200) (v:k<B.size) (r:(0<st.r/\jo (B[k].toNat:Int)=Ë)\/st.r<=0) (j:0<s.size) (l:¬((s[0]'j).toNat:Int)=82) (n:¬((s[0]'j).toNat:Int)=66) (o:¬((s[0]'j).toNat:Int)=84) (p:¬((s[0]'j).toNat:Int)=80) (x:pe ((s[0]'j).toNat:Int) (B[k].toNat:Int)=Ë) (_hK:∀y u,Fr b B (Å É<|(k:Int)+1) y/\sI m b B k st w u->K y u) (z:∀y u,Fr b B (Å É k) y/\sJ m b B k st w u->X y u): ß À qI (Exit.then K<|QQ X) y w:=by
 obtain⟨c,rfl⟩:=t;unfold p6;conv=>arg 2;whnf
 have M:w.cell? ⟨b,0,Á⟩=Â (Ä s):=f.r.r 0 _ U;have N:w.cell? ⟨b,6,Á⟩=Â (Å É st.r):=f.r.r 6 _ U;have P:w.cell? ⟨b,7,Á⟩=Â (Å É st.I):=f.r.r 7 _ U;have Q:=f.r.C 0;have S:=f.r.C 6;have T:=f.r.C 7;have V:=i.M;have W:=i.r;have Y:=i.C;have e1:=i.I;have C:=fg<|vh (B:=B) (k:=k)<|vg r;have D:=f.Y 0 λh=>absurd h A;have E:=fg<|mR f 6<|Å É 0;have Av:=i.d.C;have CP:=i.d.I;have F:=fg D;let⟨G,H⟩:=vi B[k];have rm:=tJ s Z;have tK:s.size<=10:=f.M;have h:=fg (show st.C=(s[0].toNat:Int)::(j2 s).tail by rw[<-f.I];exact wy s j);have on:st.d.r=Î:=by
  rcases f.N with q|q
  .exact q
  .rw[h.out]at q;injection q with q;omega
 have yv:((s[0].toNat:Int)==82)=Ë:=by rwa[beq_eq_false_iff_ne]
 have ar7:((s[0].toNat:Int)==66)=Ë:=by rwa[beq_eq_false_iff_ne]
 have wC:((s[0].toNat:Int)==84)=Ë:=by rwa[beq_eq_false_iff_ne]
 have Jb:((s[0].toNat:Int)==80)=Ë:=by rwa[beq_eq_false_iff_ne]
 have q:=fg<|arR (B:=B) (k:=k) (st:={st with r:=0}) h.out l n o p x;clear l n o p f i;rcases r with⟨I,o6⟩|I;all_goals
  go_wp2_with (first|(go_at_call 94;refine(sG _ _).mono ?_;rintro e u ⟨rfl,J⟩;subst u)|(go_at_call 104;refine(abL _ _ G H _).mono ?_;rintro e u ⟨rfl,J⟩;subst u))
  exact z _ _ ⟨gu,⟨v,C.out.trans q.out,_,E.out,_,_,_,F.out⟩⟩
end
section
variable{g:Gh}{st:PS}{d:PD}
theorem ar9{X:Ĉ->Í->Prop}{c:ByteArray}(d:Fr b c (Å É k) y) (e:gT m b g O B st w) (f:jB c k st) (h:c.size<=1200) (i:k<c.size) (j:∀y v,Fr b c (Å É<|(k:Int)+1) y/\sI m b c k st w v->K y v) (l:∀y v,Fr b c (Å É k) y/\sJ m b c k st w v->X y v): ß À qI (Exit.then K<|QQ X) y w:=by
 by_cases u:0<st.r/\jo (c[k].toNat:Int)=Î
 .grind [arW]
 have n:(0<st.r/\jo (c[k].toNat:Int)=Ë)\/st.r<=0:=by grind
 by_cases x:B.size=0
 .grind [arX]
 have o:0<B.size:=Z
 by_cases q:(B[0].toNat:Int)=82
 .grind [arY]
 by_cases p:(B[0].toNat:Int)=66
 .cases r:sE (c[k].toNat:Int)with
  |true=>exact arZ d e f h i n o p r j l
  |false=>exact ar0 d e f h i n o p r j l
 by_cases r:(B[0].toNat:Int)=84
 .grind [ar1]
 by_cases s:(B[0].toNat:Int)=80
 .grind [ar2,ar3,ar5,ar4]
 cases t:pe (B[0].toNat:Int) (c[k].toNat:Int)with
 |true=>exact ar6 d e f h i n o q p r s t j l
 |false=>exact ar8 d e f h i n o q p r s t j l
def asa{X:Ĉ->Í->Prop}(c:Fr b B (Å É k) y)(_hB:B.size<=1200)(e:¬k<B.size)(_hk:k<=B.size) (d:∀y v,Fr b B (Å É k) y/\v=w->X y v): ß À qI (Exit.then K<|QQ X) y w:=by
 obtain⟨u,rfl⟩:=c;unfold p6;conv=>arg 2;whnf
 go_wp2;exact d _ _ ⟨gu,U⟩
def lI(B:ByteArray):Nat×PS:=jV B B.size 0 nS
def RI(m b:Nat)(c:ByteArray)(w:Í)(a:Ĉ)(d:Í):Prop:=
 ∃(k:Nat) (g:Gh) (O:Option ü) (B:ByteArray) (st:PS),k<=c.size/\Fr b c (Å É k) a/\gT m b g O B st d/\fe (λi=>m<=i) w d/\jB c k st/\lI c=jV c (c.size-k) k st
def Rmu(B:ByteArray)(a:Ĉ)(_:Í):Nat:=B.size-(intOf<|a.tmps.getD 5 ĸ).toNat
def RX(m b:Nat)(B:ByteArray)(w:Í)(a:Ĉ)(d:Í):Prop:=
 ∃(k:Nat) (c:PS),k<=B.size/\Fr b B (Å É k) a/\sH m b c w d/\(lI B).1=k/\(k=B.size->(lI B).2=c)
def acd{w:Í}(h:Fr b B (Å É c) y):Rmu B y w=B.size-c.toNat:=by obtain⟨u,rfl⟩:=h;rfl
def asb{a:PS}(b:k<B.size)(c:kU B k st (B[k].toNat:Int)=Â a):jV B (B.size-k) k st=jV B (B.size-(k+1)) (k+1) a:=by rw[show B.size-k=(B.size-(k+1))+1 by omega,jV,dif_pos b,c]
def asc(a:k<B.size)(b:kU B k st (B[k].toNat:Int)=Á):jV B (B.size-k) k st=(k,st):=by rw[show B.size-k=(B.size-(k+1))+1 by omega,jV,dif_pos a,b]
def ase{c:ByteArray}(f:Fr b c (Å É 0) y)(h:gT m b g O B nS w)(q:c.size<=1200): ß À (ń qI) (QQ<|RX m b c w) y w:=by
 apply Γ (RI m b c w) (Rmu c) ⟨0,g,O,B,nS,Ø _,f,h,fe.gd _ _,UR c,U⟩;rintro y u ⟨k,g,O,B,st,l,f,r,n,s,o⟩;by_cases i:k<c.size
 .refine ar9 f r s q i ?_ ?_
  .rintro t v ⟨d,x,e,j,p,z,C,D,E⟩;refine⟨⟨k+1,z,C,D,e,Z,by simpa using d,E,n.fi p,ab1 s i j,o.trans<|asb i j⟩,?_⟩;rw[acd d,acd (w:=u) f];omega
  .rintro t v ⟨d,x,j,z,p,C⟩;have:=o.trans<|asc i j;exact⟨k,z,l,d,⟨n.fi p,C⟩,by rw[this],λe=>by omega⟩
 .apply asa f q i l;rintro t v ⟨d,rfl⟩;have:lI c=(k,st):=by rw[o,show c.size-k=0 by omega];rfl
  exact⟨k,st,l,d,⟨n,g,O,B,r⟩,by rw[this],λ_=>by rw[this]⟩
def asf{c:ByteArray}(h:gT m b g O B nS w)(f:c.size<=1200): Ò À 61 #[Ã<|Â ⟨b,0,Á⟩,Ä c] w λe u=>
  ∃(k:Nat) (d:PS),k<=c.size/\e=Æ (Å É k)/\sH m b d w u/\(lI c).1=k/\(k=c.size->(lI c).2=d):=by
 go_enter Tryz.func61,Tryz.ntmps61;go_wp2;go_step3;go_wp2;go_step3;go_wp2;refine İ ?_ (ase gu h f);rintro(_|(_|_)|_|_|_|_) a v hq;all_goals first|exact absurd hq id|skip
 let⟨k,d,i,j,l⟩:=hq;obtain⟨e,rfl⟩:=j;unfold p6;go_wp2;(try rw[Exit.noGoto_ret]);go_ret;exact⟨k,d,i,U,(fg l).out⟩
end
def lU(B:ByteArray):Int×Bool×List PR:=
 if B.size=0 then(0,Î,[])else(((lI B).1:Int),decide ((lI B).1=B.size)&&(decide ((lI B).2.C=[])||decide ((lI B).2.C=[66])),(lI B).2.d.C)
def gR(B:ByteArray):Int×Int×List PR:=
 if 1200<B.size then(1,0,[])else if(lU B).2.1=Î then(0,0,(lU B).2.2)else(2,(lU B).1,[])
def CQ(m:Nat)(v:Ñ)(b:List PR)(w:Í):Prop:=jH m w/\∃a,w.ownsRow m 148 1 v a.length (nT a)/\pY w.heap.size a b w
section
variable{g:Gh}{s:ByteArray}{st:PS}
def CQ.pw(w:Í):CQ w.heap.size (Ç Á 0 0) [] w:=⟨jH.I w,[],⟨U,È ⟨U,U⟩⟩,pY.N _ _⟩
def gT.iR(h:gT m b g O s st w)(a:st.d.r=Ë->st.d.S=[])(n:Nat):CQ m g.N st.d.C (w.drewN n):= ⟨h.a.iV n,g.C st.d,ik h.C.C (fe.iV fh w n) λ_ _=>id,(h.C.abU a).C (fe.iV fh w n) λ_ _ x=>x.elim⟩
def g0(m:Nat):Gh:={a:=[],q:=0,t:=0,B:=m,tb:=[],N:=Ç Á 0 0,r:=Ç Á 0 0,b:=Á}
def asg(w:Í):gT w.heap.size w.heap.size (g0 w.heap.size) Á ⟨#[82]⟩ nS (w.alloc<|Û #[Ä ⟨#[82]⟩,Ç Á 0 0,Ã Á,Ã Á,Ã Á,Ã Á,Å É 0,Å É 0] 153):= ⟨æ _,(jH.I w).gL _ _ A A (λv e=>by simp at e;rcases e with rfl|rfl|rfl|rfl<;>trivial),fj.N w [Ä ⟨#[82]⟩,Ç Á 0 0,Ã Á,Ã Á,Ã Á,Ã Á,Å É 0,Å É 0] 153,A,A,⟨⟨U,È ⟨U,U⟩⟩,pY.N _ _,(λe=>by cases e),λ_=>rfl⟩,(λq=>by cases q),Ï rfl⟩
def ash(s:ByteArray):j2 s=[66]↔s.toList=[66]:=by
 unfold j2;rw[ByteArray.toList_eq];constructor
 .intro h;match hl:s.data.toList with
  |[]=>rw[hl]at h;simp at h
  |[x]=>
   rw[hl]at h;simp only[ŉ,Ő,List.cons.injEq,and_true]at h;have:x=66:=UInt8.toNat_inj.1 (by have:x.toNat=66:=Z;rw[this];rfl);rw[this]
  |x::y::r=>rw[hl]at h;simp at h
 .intro h;rw[h];rfl
def UY(a:¬B.size=0):(lU B).1=((lI B).1:Int):=by rw[lU,if_neg a]
def ace(a:¬B.size=0):(lU B).2.2=(lI B).2.d.C:=by rw[lU,if_neg a]
def asi(a:¬B.size=0)(h:¬(lI B).1=B.size):(lU B).2.1=Ë:=by rw[lU,if_neg a];simp[h]
def acf(a:¬B.size=0)(h:(lI B).1=B.size){x:Bool}(b:x=(decide ((lI B).2.C=[])||decide ((lI B).2.C=[66]))):(lU B).2.1=x:=by rw[lU,if_neg a,b];simp[h]
def asj(B:ByteArray):(lI B).2.d.r=Ë->(lI B).2.d.S=[]:=λe=>((US B.size 0 nS (UR B)<|Ø _).1.d.N e).1
theorem acg(q:B.size<=1200): Ò À 45 #[Ä B] w λe u=>
  fe fh w u/\∃v,e=Æ (ë #[v,Å É (lU B).1,õ (lU B).2.1])/\((lU B).2.1=Î->CQ w.heap.size v (lU B).2.2 u):=by
 by_cases a:B.size=0
 .have f:=UT B a;have n:=fg (show lU B=(0,Î,[])from if_pos a);go_enter ε,Ν;go_wp2;apply ÿ (v:=ë #[Ç Á 0 0,Å É 0,õ Î]) (by simp[Ń,Ģ,go_sem]) U;exact⟨fe.gd _ _,_,by rw[n.out],λ_=>by rw[n.out];exact CQ.pw w⟩
 .have f:=tJ B a;have b:=fg a;go_enter ε,Ν;go_wp2_with (go_at_call 61;refine(asf (asg w) q).mono ?_;rintro e r ⟨k,d,i,rfl,⟨n,g,O,s,c⟩,h,t⟩);have l:fe fh w r:=((fe.gL (λi=>w.heap.size<=i) w _ _).fi n).S λi D x=>by omega
  have E:=c.r.r 0 _ U;have F:=c.r.r 1 _ U;by_cases m:k=B.size
  .subst m;have y:=t U;subst y;have o:=fg c.I;have p:=fg λn=>c.iR (asj B) n;have n:=fg h;have d:=fg l;have z:((B.size:Int)==(B.size:Int))=Î:=fq
   by_cases a:s.size=0
   .have f:=UT s a;have j:=fg (acf b.out n.out (x:=Î)<|by rw[<-o.out,abJ s a];rfl);go_quiet (fail);go_wp2;apply ÿ (v:=ë #[g.N,Å É B.size,õ Î]) (by simp[Ń,Ģ,go_sem]) U;exact⟨d.out.fi<|fe.iV _ _ _,_,by rw[UY b.out,n.out,j.out],λ_=>by rw[ace b.out];exact p.out _⟩
   .have f:=tJ s a;have j:=fg (acf b.out n.out (x:=(s.toList==[66])) (by
     rw[<-o.out];have C:¬j2 s=[]:=λe=>by have:=UC s;grind
     rw[decide_eq_false C,Bool.false_or,Ę,beq_iff_eq,decide_eq_true_iff,ash]))
    go_quiet (fail)
    go_wp2;apply ÿ (v:=ë #[g.N,Å É B.size,õ<|s.toList==[66]]) (by simp[Ń,Ģ,go_sem]) U;exact⟨d.out.fi<|fe.iV _ _ _,_,by rw[UY b.out,n.out,j.out],λ_=>by rw[ace b.out];exact p.out _⟩
  .have z:((k:Int)==(B.size:Int))=Ë:=by rw[beq_eq_false_iff_ne];omega
   have n:=fg (Ê h<|asi b.out<|by rwa[h]);have d:=fg l;go_quiet (fail);go_wp2;apply ÿ (v:=ë #[g.N,Å É k,õ Ë]) (by simp[Ń,Ģ,go_sem]) U;exact⟨d.out.fi<|fe.iV _ _ _,_,by rw[UY b.out,n.out.1,n.out.2],λe=>by rw[n.out.2]at e;cases e⟩
def asl(h:B.size<=ī): Ò À 36 #[Ä B] w λe u=>
  fe fh w u/\∃v,e=Æ (ë #[v,Å É (gR B).1,Å É (gR B).2.1])/\((gR B).1=0->CQ w.heap.size v (gR B).2.2 u)/\((gR B).1≠0->v=Ç Á 0 0):=by
 unfold ī at h;by_cases b:1200<B.size
 .have a:=fg (show gR B=(1,0,[]) by rw[gR,if_pos b]);go_enter ļ,Ř;go_wp2;apply ÿ (v:=ë #[Ç Á 0 0,Å É 1,Å É 0]) (by simp[Ń,Ľ,go_sem]) U;exact⟨fe.gd _ _,_,by rw[a.out],(λe=>by rw[a.out]at e;cases e),λ_=>rfl⟩
 .have f:B.size<=1200:=Z
  cases c:(lU B).2.1 with
  |true=>
   have a:=fg (show gR B=(0,0,(lU B).2.2) by rw[gR,if_neg b,if_pos c]);go_enter ļ,Ř;go_wp2_with (go_at_call 45;refine(acg f).mono ?_;rintro e i ⟨d,v,rfl,g⟩);apply ÿ (v:=ë #[v,Å É 0,Å É 0]) (by simp[Ń,Ľ,go_sem]) U;exact⟨d,_,by rw[a.out],(λ_=>by rw[a.out];exact g c),λe=>by rw[a.out]at e;exact absurd U e⟩
  |false=>
   have a:=fg (show gR B=(2,(lU B).1,[]) by rw[gR,if_neg b,if_neg (by rw[c];exact Bool.false_ne_true)]);go_enter ļ,Ř;go_wp2_with (go_at_call 45;refine(acg f).mono ?_;rintro e i ⟨d,v,rfl,g⟩);apply ÿ (v:=ë #[Ç Á 0 0,Å É 2,Å É (lU B).1]) (by simp[Ń,Ľ,go_sem]) U;exact⟨d,_,by rw[a.out],(λe=>by rw[a.out]at e;cases e),λ_=>rfl⟩
end
end Go.Proofs.Y.nQ
namespace Go.Proofs.Y.k9
open Go Go.Conc Go.Proofs Go.RowKit Go.Proofs.Y.Lift Go.Proofs.Y.fR Go.Proofs.Y.fx Go.Proofs.Y.nQ
structure Jc(a:Nat)(t:PT)(w:Í):Prop where
 r:∃cs fz,w.heap[a]?=Â (Û cs 200 fz)
 c:∀i,i<5->w.cell? ⟨a,i,Á⟩=Â (Å É<|t.c.getD i 0)
 p:w.cell? ⟨a,5,Á⟩=Â (Ä t.p)
structure yw(r:Nat)(p:PR)(w:Í):Prop where
 c:∀i,i<8->w.cell? ⟨r,i,Á⟩=Â (Å É<|p.c.getD i 0)
 b:∃bp n cp,w.cell? ⟨r,8,Á⟩=Â (Ç bp n cp)/\n=p.r.length/\∀(j:Nat) (t:PT),p.r[j]?=Â t->∃tb a,bp=Â ⟨tb,0,Á⟩/\w.cell? ⟨tb,j,Á⟩=Â (Ã<|Â ⟨a,0,Á⟩)/\Jc a t w
structure RQ(rs:List PR)(v:Ñ)(U:Nat->Prop)(w:Í):Prop where
 C:kN nB U w
 I:fp (lz U nB) v v
 M:∃bp cp,v=Ç bp rs.length cp/\∀(j:Nat) (p:PR),rs[j]?=Â p->∃sb r,bp=Â ⟨sb,0,Á⟩/\w.cell? ⟨sb,j,Á⟩=Â (Ã<|Â ⟨r,0,Á⟩)/\yw r p w
section
variable{f:Nat->Prop}{rs:List PR}{Y:fv}
theorem asn(h:jk Y X u w){t:PT}(d:Y i n)(k:Jc i t u):Jc n t w:=by refine⟨?_,λb f=>(As h).r d<|k.c b f,(As h).C d k.p⟩;let⟨c,g,e,j,l,m,o,_⟩:=h.r i n d;let⟨r,s,q⟩:=k.r;grind
theorem aso(h:jk Y X u w){r:Nat}{p:PR}(e:Y r i)(k:yw r p u):yw i p w:=by refine⟨λd f=>(As h).r e<|k.c d f,?_⟩;let⟨G,n,g,l,m,o⟩:=k.b;let⟨x,q,s⟩:=As h r i 8 _ e l;obtain⟨v,rfl,y⟩:=M7 s;refine⟨v,n,g,q,m,λj t z=> ?_⟩;let⟨tb,a,B,C,H⟩:=o j t z;let⟨I,J,D⟩:=y _ B;obtain⟨E,rfl,F⟩:=Ap D;let⟨K,L,M⟩:=As h tb E j _ F C;grind [M6,Ap,asn]
theorem asq(h:jk Y X u w)(b:fp Y v x)(a:RQ rs v f u):RQ rs x (λj=>∃i,f i/\Y i j) w:=by refine⟨Ux h a.C,M8 b a.I,?_⟩;obtain⟨s,i,rfl,c⟩:=a.M;obtain⟨d,rfl,e⟩:=M7 b;refine⟨d,i,U,λj p g=> ?_⟩;let⟨k,r,l,m,t⟩:=c j p g;let⟨y,z,n⟩:=e _ l;obtain⟨o,rfl,q⟩:=Ap n;let⟨B,C,D⟩:=As h k o j _ q m;grind [M6,Ap,aso]
def CR(k:W.heap[b]?=w.heap[b]?)(h:w.cell? ⟨b,i,Á⟩=Â z):W.cell? ⟨b,i,Á⟩=Â z:=by simp only[à,k];exact h
def asr(l:kN nB X w)(k:∀b,X b->W.heap[b]?=w.heap[b]?){r:Nat}{p:PR}(d:X r)(h:yw r p w):yw r p W:=by
 refine⟨λi e=>CR (k r d)<|h.c i e,?_⟩;let⟨u,n,v,m,x,y⟩:=h.b;refine⟨u,n,v,CR (k r d) m,x,λj t z=> ?_⟩;let⟨tb,a,o,q,f⟩:=y j t z;have s:X tb:=by have:=l.r d m;rw[o]at this;exact CI this
 have g:=CH<|l.r s q;exact⟨tb,a,o,CR (k tb s) q,⟨by rw[k a g];exact f.r,λi e=>CR (k a g)<|f.c i e,CR (k a g) f.p⟩⟩
def RQ.r(h:RQ rs v f w)(k:∀b,f b->W.heap[b]?=w.heap[b]?):RQ rs v f W:=by
 refine⟨h.C.C k,h.I,?_⟩;obtain⟨g,i,rfl,l⟩:=h.M;refine⟨g,i,U,λj p m=> ?_⟩;let⟨a,r,c,d,n⟩:=l j p m;have e:f a:=by have:=h.I;rw[c]at this;exact CI this
 exact⟨a,r,c,CR (k a e) d,asr h.C k (CH<|h.C.r e d) n⟩
def ach{v:Ñ}(h:nk m i v):fp (lz (λd=>m<=d/\d<i) nB) v v:=by
 cases v with
 |int k n=>exact .iG k n
 |bool b=>exact .mG b
 |string i=>exact .kz i
 |pointer a=>cases a with
  |none=>exact .lW
  |some a=>exact fp.jW (Y:=lz (λd=>m<=d/\d<i) nB) ⟨⟨U,h⟩,U,U⟩
 |slice a n c=>cases a with
  |none=>exact .oz n c
  |some a=>exact fp.kO (Y:=lz (λd=>m<=d/\d<i) nB) ⟨⟨U,h⟩,U,U⟩ n c
 |_=>exact absurd h<|by simp[nk]
def asu{v:Ñ}(h:nk m i v):yD v=Ë:=by
 cases v with
 |int k n=>cases k<;>first|rfl|exact absurd h<|by simp[nk]
 |_=>rfl
def asv(h:jH m w):kN nB (λi=>m<=i/\i<w.heap.size) w:=λb i=>by let⟨c,e,f,g,j,k,l,n,d⟩:=h b _ i.1<|å i.2;exact⟨c,e,f,by rw[å i.2,g],j,pS λv a=>ach<|d v a,k,Ar λv a=>asu<|d v a,l,n⟩
theorem Mh{base:Nat}(h:w.ownsRow base e 1 v jJ.length (nT jJ)):∃b f,v=Ç b jJ.length f/\∀(j r:Nat),jJ[j]?=Â r->∃a,b=Â ⟨a,0,Á⟩/\base<=a/\w.cell? ⟨a,j,Á⟩=Â (Ã<|Â ⟨r,0,Á⟩):=by
 obtain⟨m,⟨n,o⟩|⟨g,p,q,rfl,i,k,s,t,u,l⟩⟩:=h
 .grind
 .refine⟨_,_,U,λj r c=>⟨g,U,i,?_⟩⟩;have x:=(Õ.1 c).1;have d:(nT jJ)[j]?=Â (Ã<|Â ⟨r,0,Á⟩):=by simp[nT,c]
  rw[<-l,List.getElem?_take_of_lt Z]at d;simp only[à,k,ö,ì,if_false];simpa using d
def aci(h:fj n (oM zQ++[z]) T w)(a:i<zQ.length):w.cell? ⟨n,i,Á⟩=Â (Å É<|zQ.getD i 0):=h.r i _<|UI a z
def acj(h:fj i (oM zQ++[z]) T w)(a:zQ.length=n):w.cell? ⟨i,n,Á⟩=Â z:=h.r n _<|by rw[<-a];exact CO zQ z
def asw{r:PR}(h:wz i n r w):yw n r w:=by
 let⟨x,tb,e,l,y,b⟩:=h.I;refine⟨λa c=>aci e (by rwa[h.C]),?_⟩;obtain⟨m,o,rfl,p⟩:=Mh l;refine⟨m,_,o,acj e h.C,b.r,λj t f=> ?_⟩;have g:j<tb.length:=by rw[b.r];exact(Õ.1 f).1
 let⟨s,u,z,v⟩:=p j tb[j]<|Ó g;let⟨_,_,k,d⟩:=b.I j tb[j] t (Ó g) f;exact⟨s,tb[j],u,v,⟨_,_,d⟩,λa c=>aci d (by rwa[k]),acj d k⟩
def asx(h:CQ m v rs w):RQ rs v (λi=>m<=i/\i<w.heap.size) w:=by
 let⟨f,i,b,c⟩:=h;obtain⟨d,k,rfl,l⟩:=Mh b;refine⟨asv f,?_,d,k,by rw[c.I],λj p e=> ?_⟩
 .cases d with
  |none=>exact .oz _ _
  |some a=>
   have:=b.lt a.block (by rcases b.2 with⟨q,_⟩|⟨g,n,o,q,_⟩<;>(cases q;try rfl));exact ach this
 .have a:j<i.length:=by rw[c.I];exact(Õ.1 e).1
  let⟨g,q,o,n⟩:=l j i[j]<|Ó a;exact⟨g,i[j],q,n,asw<|c.M j i[j] p (Ó a) e⟩
end
def acn(B:ByteArray)(z:Ñ)(u:Í):Prop:=∃v,z=ë #[v,Å É (gR B).1,Å É (gR B).2.1]/\((gR B).1=0->∃a,RQ (gR B).2.2 v a u)
def asy(B:ByteArray):xf (acn B):=λv u T D h=>by let⟨x,a,b⟩:=h;refine⟨x,a,λe=> ?_⟩;let⟨U,c⟩:=b e;exact⟨U,c.r λ_ _=>rfl⟩
def aco{l:ff}(f:gC l)(s:¬l.q)(t:nB<=l.w.heap.size)(u:B.size<=ī)(m:Bool)(h:Ē)(k:List Ē): fx.fl À m (λa n=>jv l a/\a.d=l.d/\∃v,n=G (h.finish<|ë #[v,Å É (gR B).1,Å É (gR B).2.1]) k/\((gR B).1=0->∃V,RQ (gR B).2.2 v V a.w/\∀b,V b->a.O b/\l.w.heap.size<=b)) l (G (è À 36 #[Ä B] Ą)<|h::k):=by
 let⟨X,c,C,V⟩:=zS 36 fS;have D:∀T,Ò À 36 #[Ä B] (World.tp (lu (λj=>False/\¬(mo l).O j) l.w) T 0) fun|Æ v,j=>acn B v j/\ko j|_,_=>False:=λT=>by refine(asl u).mono ?_;rintro e p ⟨g,v,rfl,i,o⟩;exact⟨⟨v,U,λe=>⟨_,asx<|i e⟩⟩,g.gW FD⟩
 refine((EP yF Mc zS (asy B) fS C V (ES f) s (λb q=>q.elim) ⟨λb q=>q.elim,t⟩ (λg q=>by cases q) (pS λv g=>by simp at g;subst g;exact .kz B) D m h k).mo f).fT ?_;rintro a n ⟨x',⟨Y,j,v,v',_,E,F,⟨v0,rfl,o⟩,H,I,_,J⟩,rfl,K,L,_,_⟩;cases F with
 |@nU _ cs'' hs mK=>
  let⟨M⟩:=cs'';match M,hs with
  |[x,y,z],_=>
   have g:=mK 0 fq fq;have p:=mK 1 fq fq;have r:=mK 2 fq fq;simp at g p r;cases p;cases r;refine⟨K,J,x,H,λe=> ?_⟩;let⟨U,N⟩:=o e;refine⟨_,asq E g (N.r λ_ _=>rfl),λb V=> ?_⟩;let⟨i,_,P⟩:=V;let⟨Q,S⟩:=I i b P;have W:l.w.heap.size<=b:=S.elim (λq=>q.elim) λq=>q.elim (λq=>q.elim) id;refine⟨È (Q.resolve_right λq=> ?_),W⟩;rw[L]at q;have:=f.fA b q;omega
end Go.Proofs.Y.k9
namespace Go.Proofs.Y.fR
open Go Go.Proofs Go.RowKit Go.Proofs.Y.Lift
def CS:List Ñ:=iA (kj 8)++[Ç Á 0 0,Å É 0,Ç Á 0 0]
def asz(w:Í):Ò À 44 #[] w λe a=>∃c B,e=Æ (Ç (Â ⟨c,0,Á⟩) 1 1)/\fj B CS 147 a/\fj c [Ã<|Â ⟨B,0,Á⟩] 136 a/\fe fh w a:=by
 have d:(iA<|kj 8).length=144:=sw _;have i:(iA (kj 8)++[Ç Á 0 0]).length=145:=by rw[Ù,d];rfl
 have f:=fg<|Ê d i;unfold CS;have j:=fg λW=>aoD W;generalize kj 8=s at*;go_enter Tryz.func44,Tryz.ntmps44;go_wp2_with (first
  |(go_at_call 60;refine(j.out _).mono ?_;rintro e W ⟨rfl,b⟩;have k:=fg b;clear b)
  |(with_reducible refine Ď U (Â 2) U _ _ (TS U U f.out.1) ?_)
  |(with_reducible refine Ď U (Â 3) U _ _ (aoU U U f.out.2) ?_)
  |(with_reducible refine Ď U (Â 4) U _ _ (aav U U) ?_))
 have g:=fj.N (W.alloc<|Û (iA s++[Ç Á 0 0,Å É 0,Ç Á 0 0]).toArray 147) [Ã<|Â ⟨W.heap.size,0,Á⟩] 136;have h:=fe.gL fh (W.alloc<|Û (iA s++[Ç Á 0 0,Å É 0,Ç Á 0 0]).toArray 147) #[Ã<|Â ⟨W.heap.size,0,Á⟩] 136;have l:(W.alloc<|Û (iA s++[Ç Á 0 0,Å É 0,Ç Á 0 0]).toArray 147).heap.size=W.heap.size+1:=fq
 rw[l]at g;have b:=fg<|Ê ((fj.N W (iA s++[Ç Á 0 0,Å É 0,Ç Á 0 0]) 147).I h id)<|Ê g<|(k.out.fi<|fe.gL fh W (iA s++[Ç Á 0 0,Å É 0,Ç Á 0 0]).toArray 147).fi h;go_ret;exact⟨W.heap.size+1,W.heap.size,U,b.out.1,b.out.2.1,b.out.2.2⟩
def asA(n:Int)(j:1<=n)(k:n<=8)(w:Í):Ò À 35 #[Å É n] w λe b=>∃g a B,e=Æ (ë #[Ã<|Â ⟨g,0,Á⟩,Å É 0])/\fj g [Å É n,Ç (Â ⟨a,0,Á⟩) 1 1] 68 b/\fj B CS 147 b/\fj a [Ã<|Â ⟨B,0,Á⟩] 136 b/\fe fh w b:=by go_enter ζ,Tryz.ntmps35;go_wp2_with (go_at_call 44;refine(asz _).mono ?_;rintro e c ⟨a,B,rfl,f,h,i⟩;have d:=fg<|Ê f<|Ê h i;clear f h i);go_ret2;have f:=fe.gL fh c #[Å É n,Ç (Â ⟨a,0,Á⟩) 1 1] 68;exact⟨c.heap.size,a,B,U,fj.N c [Å É n,Ç (Â ⟨a,0,Á⟩) 1 1] 68,d.out.1.I f id,d.out.2.1.I f id,d.out.2.2.fi f⟩
end Go.Proofs.Y.fR
namespace Go.Proofs.Y.k9
open Go Go.Conc Go.Proofs Go.RowKit Go.Proofs.Y.Lift Go.Proofs.Y.fR Go.Proofs.Y.fx Go.Proofs.Y.nQ
section
variable{Y:fv}{a:Nat->Prop}
def acp:∀v∈CS,(∃k n,v=Å k n/\k≠ū)\/(∃p,v=Ä p)\/v=Ç Á 0 0:=λv k=>by
 unfold CS at k;rcases â.1 k with q|q
 .rcases Uw _ v q with⟨n,rfl⟩|⟨p,rfl⟩
  .exact È ⟨_,_,U,A⟩
  .exact Ï<|È ⟨p,U⟩
 .simp at q;rcases q with rfl|rfl|rfl
  .exact Ï<|Ï U
  .exact È ⟨_,_,U,A⟩
  .exact Ï<|Ï U
def acr:lC [fR.je]:=⟨A,A,λv b=>by simp at b;subst b;exact⟨⟨(λp a=>by cases a),(λp a=>by cases a),Ø _,Ø _⟩,aaU,Ť _,show(0:Int)<1 by decide⟩⟩
def asB(d:fR.fj n CS 147 w)(f:fR.fj i [Ã<|Â ⟨n,0,Á⟩] 136 w):RD [fR.je] (Ç (Â ⟨i,0,Á⟩) 1 1) (λk=>k=i\/k=n) w:=by
 refine⟨[(n,fR.je)],U,acr,⟨_,1,1,U,æ _,⟨U,λj b v e=> ?_⟩⟩,?_,fp.kO (Y:=lz (λk=>k=i\/k=n) nB) ⟨⟨U,È U⟩,U,U⟩ 1 1⟩
 .cases j with
  |zero=>
   cases e;exact⟨_,0,U,f.r 0 _ U,(aoV aaU<|by rwa[ő])⟩
  |succ j=>simp at e
 .rintro b (rfl|rfl)
  .refine⟨_,_,_,f,fq,pS λv c=> ?_,fq,Ar λv c=> ?_,A,A⟩
   .simp at c;subst c;exact fp.jW (Y:=lz (λk=>k=b\/k=n) nB) ⟨⟨U,Ï U⟩,U,U⟩
   .simp at c;subst c;rfl
  .refine⟨_,_,_,d,fq,pS λv c=> ?_,by simp[CS],Ar λv c=> ?_,A,A⟩
   .rcases acp v (by simpa using c)with⟨k,a,rfl,_⟩|⟨p,rfl⟩|rfl
    .exact .iG k a
    .exact .kz p
    .exact .oz 0 0
   .rcases acp v (by simpa using c)with⟨k,a,rfl,g⟩|⟨p,rfl⟩|rfl
    .cases k<;>first|rfl|exact absurd U g
    .rfl
    .rfl
def FP(b:Nat)(n:Int)(c:Ñ)(w:Í):Prop:=∃a,w.heap[b]?=Â (Û #[Å É n,c] 68 a)/\a=(0,0)
def FP.r(h:FP i c v w)(k:W.heap[i]?=w.heap[i]?):FP i c v W:=by let⟨a,b,d⟩:=h;exact⟨a,k.trans b,d⟩
def asC(h:jk Y a u w)(g:∀b,¬a b)(q:Y i j)(k:fR.fj i [Å É c,v] 68 u):∃l,fp Y v l/\FP j c l w:=by
 let⟨d,r,e,D,s,m,t,z,_,B,_⟩:=h.r i j q;unfold fR.fj at k;rw[k]at m;cases m;have f:=z.N<|g j;let⟨C⟩:=r;match C,f.r with
 |[x,y],_=>
  have o:=f.C 0 fq fq;have p:=f.C 1 fq fq;simp at o p;cases o;exact⟨y,p,s,t,(B<|g j).symm⟩
end
def acs(n:Int)(z:Ñ)(u:Í):Prop:=∃a b B,z=ë #[Ã<|Â ⟨a,0,Á⟩,Å É 0]/\fR.fj a [Å É n,Ç (Â ⟨b,0,Á⟩) 1 1] 68 u/\RD [fR.je] (Ç (Â ⟨b,0,Á⟩) 1 1) (λi=>i=b\/i=B) u/\a≠b/\a≠B
def asD(n:Int):xf (acs n):=λv u T D h=>by let⟨b,c,B,d,e,a⟩:=h;exact⟨b,c,B,d,e,a.1.r λ_ _=>rfl,a.2⟩
def asE{l:ff}(p:gC l)(K:¬l.q)(L:nB<=l.w.heap.size){n:Int}(M:1<=n)(N:n<=8)(C:Bool)(r:Ē)(s:List Ē): fx.fl À C (λf D=>jv l f/\f.d=l.d/\∃a e,D=G (r.finish<|ë #[Ã<|Â ⟨a,0,Á⟩,Å É 0]) s/\FP a n e f.w/\f.O a/\l.w.heap.size<=a/\∃V,RD [fR.je] e V f.w/\¬V a/\∀b,V b->f.O b/\l.w.heap.size<=b) l (G (è À 35 #[Å É n] Ą)<|r::s):=by
 let⟨fn,c,P,t⟩:=zS 35 fS;have Q:∀T,Ò À 35 #[Å É n] (World.tp (lu (λj=>False/\¬(mo l).O j) l.w) T 0) fun|Æ v,h=>acs n v h/\ko h|_,_=>False:=λT=>by refine(asA n M N _).mono ?_;rintro e z ⟨a,k,B,rfl,V,m,o,g⟩;exact⟨⟨a,k,B,U,V,asB m o,fR.fj.S V o A,fR.fj.S V m A⟩,g.gW FD⟩
 refine((EP yF Mc zS (asD n) fS P t (ES p) K (λb q=>q.elim) ⟨λb q=>q.elim,L⟩ (λg q=>by cases q) (pS λv e=>by simp at e;subst e;exact .iG _ _) Q C r s).mo p).fT ?_;rintro f D ⟨u,⟨Y,h,v,v',_,g,S,⟨a,k,B,rfl,V,m,o,W⟩,X,q7,_,q6⟩,rfl,ha,hR,_,_⟩;have E:∀i j,Y i j->(qW l u).O j/\l.w.heap.size<=j:=λi j e=>by let⟨z,F⟩:=q7 i j e;have H:l.w.heap.size<=j:=F.elim (λq=>q.elim) λq=>q.elim (λq=>q.elim) id;refine⟨È (z.resolve_right λq=> ?_),H⟩;rw[hR]at q;have:=p.fA j q;omega
 cases S with
 |@nU _ cs'' hs mK=>
  let⟨ls⟩:=cs'';match ls,hs with
  |[x,y],_=>
   have F:=mK 0 fq fq;have H:=mK 1 fq fq;simp at F H;cases H;obtain⟨a2,rfl,m3⟩:=M6 F;obtain⟨I,rfl,z⟩:=Ap m3;have h2':RD [fR.je] (Ç (Â ⟨k,0,Á⟩) 1 1) (λi=>i=k\/i=B) {h with tape:=u.w.tape,drawn:=u.w.drawn}:=m.r λ_ _=>rfl;let⟨tA,J,e2⟩:=asC g (λj q=>q.1) z V;let⟨vs,k1,k2,k3,k4,k5⟩:=h2';let⟨vs',n1,n2⟩:=I1 (As g) J k3;let⟨p1,p2⟩:=E a I z;refine⟨ha,q6,I,tA,X,e2,p1,p2,_,⟨vs',n1.trans k1,k2,n2,Ux g k4,M8 J k5⟩,?_,λb t=> ?_⟩
   .rintro⟨i,hi,e⟩;have:=g.C.2.1 _ _ _ z e;subst this;exact hi.elim o W
   .let⟨i,_,e⟩:=t;exact E i b e
end Go.Proofs.Y.k9
namespace Go.Proofs.Y.k9
open Go Go.Conc Go.Proofs Go.RowKit Go.Proofs.Y.Lift Go.Proofs.Y.fR Go.Proofs.Y.fx Go.Proofs.Y.nQ
structure vj(an:Nat)(xs:List ByteArray)(w:Í):Prop where
 r:∀(p:Nat) (x:ByteArray),xs[p]?=Â x->w.cell? ⟨an,p,Á⟩=Â (Ä x)
 C:w.cell? ⟨an,xs.length,Á⟩=Á
section
variable{an:Nat}{xs:List ByteArray}
theorem vj.rL(h:vj an xs w)(j:0<xs.length):∃c e d,w.heap[an]?=Â (Û c e d)/\c.size=xs.length/\∀v∈c.toList,∃x,v=Ä x:=by
 have i:∀p,p<xs.length->w.cell? ⟨an,p,Á⟩=Â (Ä xs[p]!):=λp a=>h.r p _ (by simp[a]);have b:=i 0 j;have f:=h.C;simp only[à]at b f;cases g:w.heap[an]? with
 |none=>rw[g]at b;cases b
 |some o=>
  cases o<;>rw[g]at b f<;>simp only[ö,ì,if_false]at b f<;>first|cases b|skip
  rename_i c e d;have k:c.size<=xs.length:=by grind
  have l:=λp a=>by have:=i p a;simp only[à,g,ö,ì,if_false]at this;exact this
  have m:xs.length<=c.size:=by grind
  refine⟨c,e,d,U,Nat.le_antisymm k m,λv n=> ?_⟩;let⟨p,a⟩:=ĕ n;have q:p<c.size:=by have:=(Õ.1 a).1;simpa using this
  have:=l p Z;rw[ķ]at a;rw[this]at a;cases a;exact⟨_,U⟩
end
def asF{l:ff}(o:gC l)(F:¬l.q)(H:nB<=l.w.heap.size)(h:vj i vX l.w)(I:0<vX.length)(J:l.M i)(p:lG i=Ë)(f:kY l.w i=Â (0,0))(hn:vX.length<=1000)(K:B.size=1)(L:iQ vX+vX.length<=140737488355328)(r:Bool)(k:Ē)(m:List Ē): fx.fl À r (λn s=>jv l n/\n.d=l.d/\s=G (k.finish<|Ä<|iI B vX) m) l (G (è À 38 #[Ç (Â ⟨i,0,Á⟩) vX.length vX.length,Ä B] Ą)<|k::m):=by
 let⟨fn,c,N,P⟩:=zS 38 fS;let⟨t,e,Q,y,b2,z⟩:=h.rL I;have C:(λj=>j=i/\¬(mo l).O j)=λj=>j=i:=by funext j;exact propext ⟨λq=>q.1,λq=>⟨q,id⟩⟩
 have S:∀T,Ò À 38 #[Ç (Â ⟨i,0,Á⟩) vX.length vX.length,Ä B] (World.tp (lu (λj=>j=i) l.w) T 0) fun|Æ v,E=>v=Ä (iI B vX)/\ko E|_,_=>False:=λT=>by
  refine(Us U Z (æ _) K (λj v a=> ?_) L).mono ?_
  .unfold jw at a;rw[Ī]at a;obtain⟨x,b,rfl⟩:=ò.1 a;exact⟨i,0,U,by rw[œ];exact pU (È p)<|h.r j x b⟩
  .rintro e g ⟨rfl,b⟩;exact⟨U,b.gW FD⟩
 have V:∀v∈t.toList,fp (qp (λj=>j=i) À.globals.size) v v:=λv a=>by obtain⟨x,rfl⟩:=z v a;exact .kz x
 have X:fW (qp (λj=>j=i) À.globals.size) #[Ç (Â ⟨i,0,Á⟩) vX.length vX.length,Ä B] #[Ç (Â ⟨i,0,Á⟩) vX.length vX.length,Ä B]:=pS λv a=>by
  have b:v=Ç (Â ⟨i,0,Á⟩) vX.length vX.length\/v=Ä B:=by simpa using a
  rcases b with rfl|rfl
  .exact fp.kO (Y:=qp (λj=>j=i) À.globals.size) ⟨⟨U,U⟩,U,U⟩ _ _
  .exact .kz B
 have W:=EP yF Mc zS (λv u T D h=>h) fS N P (ES o) F (λb q=>Ï<|by rwa[q]) (by rw[C];refine⟨λb q=> ?_,H⟩;subst q;exact⟨t,e,Q,y,(by unfold kY at f;rw[y]at f;cases f;exact Ø _),pS V,λ_=>⟨Z,(λq=>by rw[p]at q;cases q),λ_=>Ar λv a=>by obtain⟨x,rfl⟩:=z v a;rfl⟩⟩) (λg q=>by cases q) X (by rwa[C]) r k m;refine(W.mo o).fT ?_;rintro n s ⟨D,⟨Y,E,v,v',_,_,b,rfl,g,_,_,u⟩,rfl,x,_,_,_⟩;cases b;exact⟨x,u,g⟩
end Go.Proofs.Y.k9
namespace Go.Proofs.Y.fx
open Go Go.Conc Go.Proofs.Y.Lift
open Go.ConcN (sumTo sumTo_congr)
def UZ(P:ω)(a:Ñ->Í->Prop):Jd:=λl g=>g.status=.running/\∃v,(∀w,stepG P Î g w=.ended (.done v) w)/\a v l.w
section
variable{Y:Nat->Prop}{e:Nat->ff}
def kK.nk{J:Jd}{T:gB}(c:kK P Y zX i J T D e E w qJ){sl:Option (Nat×Nat)}(k:vQ v u):Ξ P vQ (Į E w sl) (.done v) u qJ:=by
 have C:=c.r.r;have f:∀a g,E[a]?=Â g->a≠0->QuitsD P (D a) (Deaf qJ a) g:=λa g b d=>by
  let⟨g0,j,h,_,_⟩:=c.r.C a g b;obtain rfl:g=g0:=by cases h;rfl
  simp only[d,if_false]at j;rw[C.f a<|(á.1 b).1];exact j _<|fI.gd _ _
 refine⟨v,U,k,C.l,c.N,⟨λg l=> ?_,U⟩,λa g b d=>⟨D a,(f a g b d).hears _⟩⟩;let⟨j,h⟩:=ĕ l;rw[List.getElem?_drop]at h;exact⟨_,(f (1+j) g (by rwa[<-ķ]) Z).leaves⟩
theorem asG{J:Jd}{T:gB}{l:ff}(u:l.w=W)(v:l.d=0)(m:¬l.q)(n:∀b,¬l.I b)(r:∀a,¬l.r a)(o:∀a,¬l.N a)(y:∀a,¬l.K a)(z:∀b,l.O b->b<W.heap.size)(B:g.status=.running)(C:ln P Î J T l g):si P (λ_=>False) 0 J T (λ_=>0) (λ_=>l) #[g] W #[]:=by
 have f:∀(p:Nat) a,touchAt #[] p=Â a->False:=λp a h=>by unfold touchAt Trace.act? at h;simp at h
 refine⟨fq,⟨⟨λi j s D E=> ?_,λi j s D E=> ?_,λi _ b _=>n b,λi _ a _=>o a,λ_ _ _ _=>id,λi _ a e=>e.elim (λq=>absurd q<|r a) λq=>absurd q<|o a,λi _ b F=>F.elim (z b) λq=>absurd q<|n b,λ_ h=>h.elim,λi _=>by rw[u];exact fI.gd _ _,λi _=>⟨λa e p x k=>(f p x k).elim,λa e=>(n _ e).elim,λa e=>(r a e).elim,λa e=>(o a e).elim⟩,λi _=>by rw[v];rfl,λH q=> ?_,λI G=>by simp at G,λp a c h=>(f p a h).elim,λi _ a e=>absurd e<|y a⟩,λi x k=> ?_,λj _=>rfl⟩,λi L s=> ?_,m,λp a h=>(f p a h).elim,λp a x h=>(f p a h).elim,λa _ q m=> ?_,?_⟩
 .grind
 .grind
 .let⟨i,j,_,⟨a,b,e,_⟩,_⟩:=q;simp[Trace.act?]at e
 .have t:i<1:=(á.1 k).1;obtain rfl:i=0:=Z
  obtain rfl:g=x:=by simpa using k
  exact⟨g,C,.fX,È B,È U⟩
 .grind
 .simp[Trace.act?]at m
 .intro i g t;simp[Trace.g?]at t
end
end Go.Proofs.Y.fx
namespace Go.Proofs.Y.k9
open Go Go.Conc Go.Proofs Go.RowKit Go.Proofs.Y.Lift Go.Proofs.Y.fR Go.Proofs.Y.fx Go.Proofs.Y.nQ
open Go.ConcN (sumTo)
def Aw(f:Ñ->Í->Prop)(c:Array Ċ)(w:Í)(d:Option (Nat×Nat))(t:Ž):Prop:=
 ∃N a v b e,ſ À (N+1) (Į c w d) t=(.ended (.done v) b,e)/\runN À N (Į c w d)=.next a/\step À a=.ended (.done v) b/\Ξ À f a (.done v) b e
section
variable{f:Array Ċ}{w':Í}{sl e:Option (Nat×Nat)}{t:Ž}{l:ff}
def Aw.fT{a:Ñ->Í->Prop}(h:Aw vQ E w sl t)(b:∀v u,vQ v u->a v u):Aw a E w sl t:=by let⟨M,c,v,x,d,e,f,g,i⟩:=h;exact⟨M,c,v,x,d,e,f,g,i.mono λv q=>b v x q⟩
def Aw.qW{N:Nat}(r:ſ À N (Į E w sl) t=(.next<|Į f w' e,qJ))(h:Aw vQ f w' e qJ):Aw vQ E w sl t:=by
 let⟨M,a,v,x,b,c,d,g,i⟩:=h;refine⟨N+M,a,v,x,b,?_,?_,g,i⟩
 .rwa[Nat.add_assoc,runNT_add,r]
 .rw[<-Ţ À (N+M) (Į E w sl) t,runNT_add,r];rwa[Ţ]
def sK(vQ:Ñ->Í->Prop)(E:Array Ċ)(w:Í)(sl:Option (Nat×Nat))(t:Ž):Prop:=Aw (λv u=>vQ v u/\u.os=w.os/\u.output=w.output) E w sl t
def sK.r{N:Nat}(r:ſ À N (Į E w sl) t=(.next<|Į f w' e,qJ))(a:w'.os=w.os/\w'.output=w.output)(h:sK vQ f w' e qJ):sK vQ E w sl t:= Aw.qW r<|h.fT λ_ _ q=>⟨q.1,q.2.1.trans a.1,q.2.2.trans a.2⟩
def kK.asH{Y:Nat->Prop}:∀(s:Nat) (h:Nat->Nat) (j:Nat->ff) (E:Array Ċ) (w:Í) (sl:Option (Nat×Nat)) (t:Ž),sumTo E.size h=s->kK À Y zX n (UZ À vQ) .fD h j E w t->sK vQ E w sl t:=by
 intro s
 induction s using Nat.strongRecOn with
 |_ s r=>
  intro h j E w sl t I c;have J:=c.C;obtain⟨g0,a⟩:∃g,E[0]?=Â g:=⟨_,å Z⟩;have o:∀d,UZ À vQ {j 0 with w:=w.at d} g0:=λd=>by
   let⟨u,b,k,_,_⟩:=(c.I d).r.C 0 g0 a;obtain rfl:g0=u:=by cases k;rfl
   exact b (w.at d)<|(c.I d).r.r.r 0 Z
  obtain⟨i,g,d,e,l,x,m⟩:=crowd_pick c.KV ⟨0,g0,a,(o 0).1⟩;by_cases p:i=0
  .subst p;rw[a]at l;obtain rfl:=ag l;let⟨_,v,q,y⟩:=o d;have u:stepT À (Į E w sl)=(.ended (.done v)<|w.at d,#[]):=by
    rw[m,ConcN.runT_crowd_ended a<|q<|w.at d];rfl
   refine⟨0,Į E w sl,v,w.at d,t,?_,U,?_,c.nk ⟨y,U,U⟩⟩
   .simp[ſ,u]
   .have:=stepT_fst À (Į E w sl) Î;rw[<-this];rw[u]
  .let⟨q,y,f,u,b,k,K,L,z⟩:=(c.I d).q_ (sl:=e) l p x;let⟨N,B,v,w',qJ,C,D,F,G⟩:=r (sumTo f.size q) (by rw[k];omega) q y f (w.at d) e (t++u) U z;refine⟨N+1,B,v,w',qJ,by simp only[ſ,m,b];exact C,?_,F,G⟩;have:=Ţ À (N+1) (Į E w sl) t;rw[<-this];simp only[ſ,m,b];rwa[Ţ]
structure gG(l:ff):Prop where
 r:gC l
 d:l.d=0
 q:¬l.q
 rd:∀b,¬l.I b
 I:∀a,¬l.r a
 M:∀a,¬l.N a
 k:∀a,¬l.K a
def gG.C(h:gG l)(r:fI l l.w u):gG {l with w:=u}:= ⟨⟨h.r.c,h.r.Y,h.r.N,λb q=>Ġ (h.r.fA b q) r.r,λa q=>q.elim (λz=>(h.I a z).elim) λz=>(h.M a z).elim,λa q=>(h.k a q).elim⟩,h.d,h.q,h.rd,h.I,h.M,h.k⟩
def iM(vQ:Ñ->Í->Prop)(l:ff)(g:Ċ):Prop:=
 gG l->g.status=.running->∀(a:Loc->Prop) (H:Nat) (J:Jd) (c:Nat->Nat) (b:Nat->ff) (E:Array Ċ) (sl:Option (Nat×Nat)) (t:Ž),wh a H l->fx.si À a H J .fD c b E l.w t->(b 0).d=0->E[0]?=Â g->sK vQ E l.w sl t
def asI{a:ff}(h:wh zX i l)(k:rj l a l.w a.w):wh zX i a:= ⟨h.r,λb c x d q=>by
  rcases k.N b c with z|z
  .exact h.ft b z x d q
  .have:=h.r x q;have:=h.C;omega,Ì h.C k.r⟩
def U0{J f:Jd}{e:Nat->ff}(a:gG l)(h:g.status=.running)(j:wh zX i l)(c:fx.si À zX i J .fD D e E l.w t)(m:(e 0).d=0)(n:E[0]?=Â g)(W:fx.fl À Î f l g):∃T,fx.si À zX i f T D (fx.vy e l) E l.w t:=by let⟨T,o⟩:=jq W;exact⟨T,kK.Y c m n h U a.d a.q a.rd a.I a.M a.k (λb q=>⟨a.r.fA b<|È q,j.ft b q⟩) o⟩
def acu{Y:Nat->Prop}{J:Jd}{a:Nat->ff}(c:kK À Y zX i J .fD D a E w t):∃g,E[0]?=Â g/\J {a 0 with w:=w} g:=by
 obtain⟨g0,b⟩:∃g,E[0]?=Â g:=⟨_,å c.C⟩;let⟨d,e,f,_,_⟩:=c.r.C 0 g0 b;obtain rfl:g0=d:=by cases f;rfl
 exact⟨g0,b,e w<|c.r.r.r 0 c.C⟩
def Je(vQ:Ñ->Í->Prop):Jd:=λl g=>gG l/\g.status=.running/\iM vQ l g
def asJ{b:Nat->ff}{T:gB}(m:(b 0).w=w)(n:wh zX i (b 0))(c:fx.si À zX i (Je vQ) T D b E w t):sK vQ E w sl t:=by let⟨N,o,p,f,w',e,qJ,r,_,a,j⟩:=kK.G (λl g h=>È h.2.1) T _ D b E w sl t U c;let⟨v,q,h,s,u⟩:=acu j;refine sK.r r ⟨a.C,a.I⟩<|u h s zX i (Je vQ) o p f e qJ ?_ j h.d q;apply asI n;rw[m];exact⟨a.r,a.N,a.rd,a.S,a.b,a.k,a.jZ,a.M,a.Y,a.C,a.I,a.c⟩
def lB(W:fx.fl À Î (Je vQ) l g):iM vQ l g:=by intro b d i H J j k E sl t a c e f;let⟨T,h⟩:=U0 b d a c e f W;exact asJ (by rw[fx.SY]) (by rwa[fx.SY]) h
def U1(W:fx.fl À Î (UZ À vQ) l g):iM vQ l g:=by intro b d s H J i u E sl t j c k m;let⟨T,n⟩:=U0 b d j c k m W;let⟨N,o,p,f,w',e,qJ,r,_,a,q⟩:=kK.G (λl g h=>È h.1) T _ i _ E l.w sl t U n;exact sK.r r ⟨a.C,a.I⟩<|kK.asH _ o p f w' e qJ U q
def At.N{e:wq}{R:Nat}{kd:Nat->Int}{f:List fL}{c:ff}(h:At X e R kd f l i v c)(r:fI c c.w u):At X e R kd f l i v {c with w:=u}:=by have a:=λb q=>r.I b<|È q;let⟨V,j,g⟩:=h.S;exact⟨λb q=>⟨(h.M b q).1,(a b (h.M b q).1).trans (h.M b q).2⟩,⟨h.r.1,λp k=>(gO<|a i h.r.1).trans<|h.r.2 p k⟩,⟨V,j.r λb q=>a b (g b q).1,g⟩,h.d,h.q,h.rd,h.C,(gO<|a i h.r.1).trans h.I.1,(xh<|a i h.r.1).trans h.I.2⟩
def asK{kd:Nat->Int}{bt:wq}{V0 h:Nat->Prop}{s0:List fL}{B:Option ü}{I:Option ü}{R:Nat}{C:Ē}{z:Array ĝ} (HY:0<R->I=Â ⟨j7,0,Á⟩) (vT:0<R->l.M j7) (HZ:∀i,i<R->l.w.cell? ⟨j7,i,Á⟩=Â (Ã<|Â ⟨D i,0,Á⟩)) (H0:∀i,i<R->l.w.cell? ⟨D i,4,Á⟩=Â (Å É<|kd i)) (K:I6 l bt kd D R X) (hZ:(∀b,X b->h b)/\∀b,b=1\/b=2\/b=3\/b=4->h b) (hZO:∀b,h b->l.O b) (hVZ:∀b,V0 b->h b) (Ch:RD s0 (Ç B j j9) V0 l.w) (hn:1<=n) (hs:n+R<1000) (hJ:∀o v p m c,gG o->At h bt R kd s0 l v (Ç p m c) o->iM vQ o (G (C.at (y.put ((z[i]?).bind (·.dst))<|ë #[Ç (Â ⟨v,0,Á⟩) R R,Ç p m c])<|Ð z jJ::L) qX)): iM vQ l (EH (Ç B j j9) (Ç I R j6) n<|C.at y (Ð z (i::jJ)::L)::qX):=by
 intro s hr jr H J lv lot E sl t Nb c hd P;have W:fx.fl À Î (LV kd D R n (Ç B j j9) l<|C.at y (Ð z (i::jJ)::L)::qX) l (EH (Ç B j j9) (Ç I R j6) n<|C.at y (Ð z (i::jJ)::L)::qX):= akg s.r s.q s.d Z HY vT HZ (λi P=>È<|K.ft _<|K.r i P) H0 λg S o u x F v T V Y bw bf v1 h1 h2=>⟨g,S,u,x,F,v,T,V,Y,bw,bf,v1,h1,h2,U⟩;let⟨T,c'⟩:=U0 s hr Nb c hd P W;let⟨N,jF,Ig,f,w',e,qJ,r,_,x,c''⟩:=kK.G (λlx gx S=>by obtain⟨_,_,_,_,_,_,_,_,_,_,_,_,_,_,rfl⟩:=S;exact È U) T _ lv _ E l.w sl t U c';apply sK.r r ⟨x.C,x.I⟩;let⟨N2,asL,V,T2,LW,S5,gs2,w2,LX,t2,r2,io2,c2⟩:=aqR (J:=λu V o F=>wh u V o/\Je vQ o F) U c'' e s.r s.rd s.q s.d Nb K hZ hZO hVZ Ch ⟨x.C,x.I⟩ hn hs λEN H' o v p m c Y z2 u=> .fD λw₁ F=>by have lr:gG o:=⟨z2,u.d,u.q,u.rd,u.C.1,u.C.2.1,u.C.2.2⟩;exact⟨⟨Y.r,Y.ft,Ì Y.C F.r⟩,lr.C F,U,hJ _ v p m c (lr.C F)<|u.N F⟩
 apply sK.r r2 ⟨io2.1.trans x.C.symm,io2.2.trans x.I.symm⟩;let⟨N3,TJ,asM,gs3,w3,sl3,t3,r3,_,wn3,c3⟩:=kK.G (λlx gx S=>È S.2.2.1) T2 _ LW S5 gs2 w2 LX t2 U c2;apply sK.r r3 ⟨wn3.C,wn3.I⟩;let⟨g3,U2,p9,S,hr3,hs3⟩:=acu c3;exact hs3 S hr3 asL V _ TJ asM gs3 sl3 t3 p9 c3 S.d U2
end
end Go.Proofs.Y.k9
namespace Go.Proofs.Y.k9
open Go Go.Conc Go.Proofs Go.RowKit Go.Proofs.Y.Lift Go.Proofs.Y.fR Go.Proofs.Y.fx Go.Proofs.Y.nQ
open Go.Conc.Lib Go.ConcR.Gen Go.Proofs.YtgpphkdoanciiaaGreatDoor
def toTx(t:PT):Tx:=⟨(t.c.getD 0 0).toNat,(t.c.getD 1 0).toNat,t.c.getD 2 0,t.c.getD 3 0,t.c.getD 4 0,t.p⟩
def toQn(r:PR):Qn:=⟨(r.c.getD 0 0).toNat,(r.c.getD 1 0).toNat,(r.c.getD 2 0).toNat,(r.c.getD 3 0).toNat,r.c.getD 4 0,r.c.getD 5 0,r.c.getD 6 0,(r.c.getD 7 0).toNat⟩
def pg:PR:=⟨[],[]⟩
def wD(a:List PR):wq where
 r:=λp=>((a.getD p pg).c.getD 5 0,((a.getD p pg).c.getD 0 0).toNat,(a.getD p pg).r.map toTx)
 C:=λp=>toQn<|a.getD p pg
def kV(a:List PR)(p:Nat):Int:=(a.getD p pg).c.getD 4 0
section
variable{p:PR}{t:PT}{a:Nat}{rs:List PR}{l:ff}
theorem toTx_ok(h:ot t):(toTx t).Ok:=by have d:=h.c.r 0 A;have e:=h.c.r 1 A;have a:=h.c.r 2 A;have b:=h.c.r 3 A;simp only[lT]at d e a b;exact⟨by show(t.c.getD 0 0).toNat<8;omega,by show(t.c.getD 1 0).toNat<8;omega,a.1,a.2,b.1,b.2,h.p⟩
theorem Ax(a:0<=c)(h:w.cell? ⟨b,i,Á⟩=Â (Å É c)):w.cell? ⟨b,i,Á⟩=Â (Å É (c.toNat:Nat)):=by grind
theorem asN(h:ot t)(k:Jc a t w):mg a (toTx t) w:=by have b:=h.c.r 0 A;have d:=h.c.r 1 A;simp only[lT]at b d;exact⟨k.r,Ax b.1<|k.c 0 A,Ax d.1<|k.c 1 A,k.c 2 A,k.c 3 A,k.c 4 A,k.p⟩
theorem asO(h:vf p)(k:yw i p w):CJ i (p.c.getD 5 0) (p.c.getD 0 0).toNat (p.r.map toTx) w:=by
 have e:=h.c.r 0 A;simp only[lT]at e;let⟨f,n,g,l,m,o⟩:=k.b;let⟨r,s,u⟩:=wS (R:=λj t (y:Nat×Tx)=>y.2=toTx t/\∃d,f=Â ⟨d,0,Á⟩/\w.cell? ⟨d,j,Á⟩=Â (Ã<|Â ⟨y.1,0,Á⟩)/\Jc y.1 t w) p.r 0 λj t v=>by let⟨d,a,y,q,x⟩:=o j t v;simp_all
 refine⟨f,n,g,r,⟨Ax e.1<|k.c 0 A,k.c 5 A,l⟩,⟨by rw[m,s],λj a t q=> ?_⟩,?_,by have:=h.n;omega⟩
 .let⟨x,z,y,d,D,B,C⟩:=u j (a,t) q;simp only at y B C;subst y;have E:=h.C x<|ç z;grind [asN,toTx_ok]
 .refine Ŕ λj=> ?_;unfold lR;grind
def asP(h:vf p)(k:yw i p w):I4 i (toQn p) w:=by have a:=h.c.r 0 A;have b:=h.c.r 1 A;have d:=h.c.r 2 A;have e:=h.c.r 3 A;have f:=h.c.r 7 A;simp only[lT]at a b d e f;exact⟨Ax a.1<|k.c 0 A,Ax b.1<|k.c 1 A,Ax d.1<|k.c 2 A,Ax e.1<|k.c 3 A,k.c 4 A,k.c 5 A,k.c 6 A,Ax f.1<|k.c 7 A⟩
def acv(h:vf p)(k:p.c.getD 4 0≠1):(toQn p).Ok:=by
 have d:=h.c.r 0 A;have e:=h.c.r 1 A;have f:=h.c.r 2 A;have g:=h.c.r 3 A;have i:=h.c.r 4 A;have a:=h.c.r 5 A;have b:=h.c.r 6 A;have j:=h.c.r 7 A;simp only[lT]at d e f g i a b j;refine⟨?_,?_,?_,?_,?_,?_,a.1,b.1,?_⟩
 .show(p.c.getD 0 0).toNat<8;omega
 .show(p.c.getD 1 0).toNat<8;omega
 .show(p.c.getD 2 0).toNat<1000000;omega
 .show(p.c.getD 3 0).toNat<18446744073709551616;omega
 .show 2<=p.c.getD 4 0;omega
 .show p.c.getD 4 0<=9;omega
 .show(p.c.getD 7 0).toNat<16;omega
theorem asQ(h:RQ rs v X l.w)(k:∀i∈rs,vf i)(B:mQ l.w)(C:∀b,b=1\/b=2\/b=3\/b=4->l.O b)(m:∀b,X b->l.O b): ∃d e f g,v=Ç d rs.length e/\(0<rs.length->d=Â ⟨f,0,Á⟩)/\(0<rs.length->l.O f)/\(∀a,a<rs.length->l.w.cell? ⟨f,a,Á⟩=Â (Ã<|Â ⟨g a,0,Á⟩))/\(∀a,a<rs.length->l.w.cell? ⟨g a,4,Á⟩=Â (Å É<|kV rs a))/\I6 l (wD rs) (kV rs) g rs.length X:=by
 obtain⟨o,D,rfl,E⟩:=h.M;have p:∀a,a<rs.length->rs[a]?=Â (rs.getD a pg):=λa d=>by simp[Ğ,d]
 have r:=λa d=>ç<|p a d;obtain⟨f,s⟩:∃f,∀a,a<rs.length->o=Â ⟨f,0,Á⟩:=by
  by_cases e:0<rs.length
  .let⟨j,i,q,_⟩:=E 0 _<|p 0 e;exact⟨j,λ_ _=>q⟩
  .simp_all
 have F:∀a,∃i,a<rs.length->l.w.cell? ⟨f,a,Á⟩=Â (Ã<|Â ⟨i,0,Á⟩)/\yw i (rs.getD a pg) l.w:=λa=>by grind
 let⟨g,j⟩:=Classical.axiomOfChoice F;have u:=λe=>by have:=h.I;rw[s 0 e]at this;exact CI this
 refine⟨o,D,f,g,U,λe=>s 0 e,λe=>m _<|u e,λa d=>(j a d).1,λa d=>(j a d).2.c 4 A,B,C,h.C,m,λa d=>(CH<|h.C.r (u Z) (j a d).1),λa d y=> ?_,λa d y=> ?_⟩
 .have q:=k _<|r a d;have e:=q.c.r 0 A;have z:=q.c.r 5 A;simp only[lT]at e z;refine⟨asO q (j a d).2,?_,z.1,λt G=> ?_,?_⟩
  .show((rs.getD a pg).c.getD 0 0).toNat<8;omega
  .obtain⟨x,H,rfl⟩:=Ú.1 G;exact toTx_ok<|q.C x H
  .show((rs.getD a pg).r.map toTx).length<=1000;rw[ù];have:=q.n;omega
 .have q:=k _<|r a d;exact⟨asP q (j a d).2,acv q y⟩
end
theorem Jf:(∀r∈(gR B).2.2,vf r)/\(gR B).2.2.length<=24:=by
 unfold gR;split
 .grind
 .split
  .unfold lU;split
   .grind
   .have:=(US B.size 0 nS (UR B)<|Ø _).1.d;exact⟨this.G,this.C⟩
  .grind
def kX(rs:List PR)(s:List fL):List ByteArray:=(ĳ rs.length).map λp=>wv (wD rs) (kV rs) p<|pV (wD rs) (ia (kV rs) rs.length) s<|fO (kV rs) p
def wE(rs:List PR)(s:List fL):List fL:=pV (wD rs) (ia (kV rs) rs.length) s<|fO (kV rs) rs.length
def lV(s:List fL)(B:ByteArray):ByteArray×Int×List fL:=
 if(gR B).1=0 then(iI ⟨#[59]⟩<|kX (gR B).2.2 s,0,wE (gR B).2.2 s)else(⟨#[]⟩,(gR B).1,s)
section
variable{b:Ē}{k:List Item}{l:ff}{a:Ĉ}
def acw{md:Ŀ}(I:Array Bool->Ĉ->ff->Prop) (p:∀c a l i m,I c a l->i∈ä md Q c->(∀f g,I (c.setIfInBounds i Î) f g->iM vQ g (G (b.at f<|Ð Q m::k) qX))->iM vQ l (G (b.at a<|Ð Q (i::m)::k) qX)) (n:∀c a l,I c a l->c.size=Q.size->ä md Q c=[]->iM vQ l (G (b.at a<|Ð Q []::k) qX)): ∀(d t:Nat) (c:Array Bool) (a:Ĉ) (l:ff),c.size=Q.size->jz c<=d->I c a l->iM vQ l (G (b.at a<|Ð Q (ć md Q d t c [])::k) qX):=by
 intro d
 induction d with
 |zero=>
  intro t c a l e q h;simpa[ć]using n c a l h e<|Rz e Z
 |succ d r=>
  intro t c a l e q h;simp only[ć];change iM vQ l (G (b.at a (Ð Q (match(ä md Q c)[t%(ä md Q c).length]? with
   |some i=>ć md Q d (t/(ä md Q c).length) (c.setIfInBounds i Î) [i]
   |none=>[].reverse)::k)) qX)
  cases j:(ä md Q c)[t%(ä md Q c).length]? with
  |none=>
   have s:ä md Q c=[]:=by
    cases u:ä md Q c with
    |nil=>rfl
    |cons x o=>
     rw[u]at j;have v:t%(x::o).length<(x::o).length:=Nat.mod_lt _ fq;simp at j;simp at v;omega
   simpa using n c a l h e s
  |some i=>
   simp only[];rw[linearise_go_acc,List.reverse_singleton,List.singleton_append];have o:=ç j;refine p c a l i _ h o λf g s=>(r _ _ f g (by simpa using e) (by have:=K3 (Β.1 o).1;omega) s)
def asR{id:Nat}(I:Array Bool->Ĉ->ff->Prop)(e:gG l) (j:∀f,fI l l.w f->I (Ū Q.size Ë) a {l with w:=f}) (m:∀g c a l i n,I c a l->i∈ä g Q c->(∀o p,I (c.setIfInBounds i Î) o p->iM vQ p (G (b.at o<|Ð Q n::k) qX))->iM vQ l (G (b.at a<|Ð Q (i::n)::k) qX)) (s:∀g c a l,I c a l->c.size=Q.size->ä g Q c=[]->iM vQ l (G (b.at a<|Ð Q []::k) qX)): iM vQ l (G (b.at a<|ax (.region id Q Î)::k) qX):=by
 refine lB (.mk U λf r=>⟨_,_,_,_,stepG_region_draw,Ry (mM e.r.r r) e.q,.fD λt d=> ?_⟩);have h:=r.fi ⟨d.r,d.I,d.N,d.Y,d.S⟩;refine⟨e.C h,U,?_⟩;unfold Region.schedule;split
 .exact acw I (m _) (s _) _ _ _ _ _ fq (by rw[Eh];exact æ _)<|j t h
 .exact acw I (m _) (s _) _ _ _ _ _ fq (by rw[Eh];exact æ _)<|j t h
def asS{I:Ĉ->ff->Prop}(W:fx.fl À Î (λa d=>∃c,d=G (b.at c<|Ð Q jJ::k) qX/\I c a) l g)(f:∀c a,I c a->gG a)(i:∀c a,I c a->iM vQ a (G (b.at c<|Ð Q jJ::k) qX)):iM vQ l g:= lB (W.fT λa d h=>by obtain⟨c,rfl,e⟩:=h;exact⟨f c a e,U,i c a e⟩)
def wF{f:FuncId}{fn:Func}(xs:List Value)(n:Nat)(hf:Tryz.prog.funcs[f]?=some fn)(hb:fn.body=some (kJ fn []):=by kernel_rfl)(hn:fn.ntmps=xs.length+n:=by kernel_rfl):Frame.enter Tryz.prog f xs.toArray .normal=(base f).at ⟨(xs++List.replicate n undef).toArray,[]⟩ [.code<|kJ fn []]:=by rw[enter_at _ hf hb,hn,ř,Nat.add_sub_cancel_left,show xs.toArray++Ū n ĸ=(xs++ą n ĸ).toArray from Array.ext' fq]
def wG{J:Jd}{f:Ρ}{args:Array Ñ}(d:Q[i]?=Â o)(e:đ o (Ι Q a.tmps)=Î)(g:b.kind≠.early)(h:kr l) (j:∀w,(ś a.eval o).run À w=.ok (.enter f args) w) (m:∀w,(ś a.eval o).events À w #[]=#[]) (n:∀c,fI l l.w c->fx.fl À Î J {l with w:=c} (G (è À f args Ą)<|b.at a (Ð Q (i::jJ)::k)::qX)): fx.fl À Î J l (G (b.at a<|Ð Q (i::jJ)::k) qX):=by refine .mk U λc r=>⟨G (è À f args Ą)<|b.at a (Ð Q (i::jJ)::k)::qX,c,#[],{l with w:=c},?_,Qe c<|mM h r,n c r⟩;rw[stepG_enter d e g<|j c];unfold ay;rw[m c,seen_none]
def wH{f:Ρ}{args:Array Ñ}(e:gG l)(j:Q[i]?=Â o)(m:đ o (Ι Q a.tmps)=Î)(n:b.kind≠.early) (p:∀w,(ś a.eval o).run À w=.ok (.enter f args) w) (q:∀w,(ś a.eval o).events À w #[]=#[]) (s:∀d,fI l l.w d->iM vQ {l with w:=d} (G (è À f args Ą)<|b.at a (Ð Q (i::jJ)::k)::qX)): iM vQ l (G (b.at a<|Ð Q (i::jJ)::k) qX):= lB (wG j m n e.r.r p q λd r=> .fD λg c=>by have h:fI l l.w g:=r.fi ⟨c.r,c.I,c.N,c.Y,c.S⟩;exact⟨e.C h,U,s g h⟩)
def jv.xT{c:ff}(e:gG l)(h:jv l c)(m:c.d=l.d):gG c:=by
 have g:∀b,¬c.I b:=by rw[h.I];exact e.rd
 have f:∀a,¬c.r a:=by rw[h.N];exact e.I
 have i:∀a,¬c.N a:=by rw[h.Y];exact e.M
 have j:∀a,¬c.K a:=by rw[h.K];exact e.k
 exact⟨⟨λb _=>g b,λa q=>(f a q).elim,λa q=>q.elim (λz=>(f a z).elim) λz=>(i a z).elim,λb q=>q.elim (λz=>h.fA b z) λz=>(g b z).elim,λa q=>q.elim (λz=>(f a z).elim) λz=>(i a z).elim,λa q=>(j a q).elim⟩,m.trans e.d,by rw[h.q];exact e.q,g,f,i,j⟩
end
def Jg:ĝ:=⟨Â 21,.move<|ň 0,26, "attic.go:46",#[],Á⟩
def Jh:ĝ:=⟨Â 22,.nilCheck<|ň 21,0, "attic.go:46",#[⟨0,ĉ⟩],Á⟩
def Ji:ĝ:=⟨Â 23,.fieldAddr 68 (ň 22) 1,0, "attic.go:46",#[⟨1,ĉ⟩],Á⟩
def Jj:ĝ:=⟨Â 24,.load 65<|ň 23,65, "attic.go:46",#[⟨2,ĉ⟩],Á⟩
def Jk:ĝ:=⟨Â 25,.move<|ň 6,61, "attic.go:46",#[],Á⟩
def Jl:ĝ:=⟨Â 26,.move<|ň 0,26, "attic.go:46",#[],Á⟩
def Jm:ĝ:=⟨Â 27,.nilCheck<|ň 26,0, "attic.go:46",#[⟨5,ĉ⟩],Á⟩
def Jn:ĝ:=⟨Â 28,.fieldAddr 68 (ň 27) 0,0, "attic.go:46",#[⟨6,ĉ⟩],Á⟩
def Jo:ĝ:=⟨Â 29,.load 3<|ň 28,3, "attic.go:46",#[⟨7,ĉ⟩],Á⟩
def yx:ĝ:=⟨Â 30,.call {callee:=.value<|.func 37,args:=#[ň 24,ň 25,ň 29],argTypes:=#[65,61,3]},66, "attic.go:46",#[⟨3,ĉ⟩,⟨4,ĉ⟩,⟨8,ĉ⟩],Á⟩
def Ay:ĝ:=⟨Â 20,.move<|ň 30,66, "attic.go:46",#[⟨9,ĉ⟩],Á⟩
def CU:ĝ:=⟨Â 31,.extract (ň 20) 0,25, "attic.go:46",#[⟨10,ĉ⟩],Á⟩
def CV:ĝ:=⟨Â 32,.extract (ň 20) 1,65, "attic.go:46",#[⟨10,ĉ⟩,{on:=13,ground:=Ground.gcOnly Departure.lateStores}],Á⟩
def CW:ĝ:=⟨Â 9,.assign<|ň 31,25, "attic.go:46",#[⟨11,ĉ⟩,⟨9,.chain⟩,⟨0,ñ⟩,⟨1,ñ⟩,⟨2,ñ⟩,⟨3,ñ⟩,⟨4,ñ⟩,⟨5,ñ⟩,⟨6,ñ⟩,⟨7,ñ⟩,⟨8,ñ⟩,⟨9,ñ⟩,⟨10,ñ⟩,⟨11,ñ⟩,{on:=12,ground:=Ground.textOnly Departure.lateStores}],Á⟩
def CX:ĝ:=⟨Â 10,.assign<|ň 32,65, "attic.go:46",#[⟨12,ĉ⟩,⟨13,.chain⟩,⟨0,ñ⟩,⟨1,ñ⟩,⟨2,ñ⟩,⟨3,ñ⟩,⟨4,ñ⟩,⟨5,ñ⟩,⟨6,ñ⟩,⟨7,ñ⟩,⟨8,ñ⟩,⟨9,ñ⟩,⟨10,ñ⟩,⟨11,ñ⟩,⟨12,ñ⟩,⟨13,ñ⟩],Á⟩
def oN:Array ĝ:=#[Jg,Jh,Ji,Jj,Jk,Jl,Jm,Jn,Jo,yx,Ay,CU,CV,CW,CX]
noncomputable def U3:Τ:=kJ Tryz.f17 [1,1,1,1]
structure ox(l:ff)(ab n:Nat)(s:List fL)(sl:Ñ)(V:Nat->Prop):Prop where
 r:mQ l.w
 C:∀b,b=1\/b=2\/b=3\/b=4->l.O b
 Y:FP ab n sl l.w
 ft:l.O ab
 rd:RD s sl V l.w
 S:∀b,V b->l.O b
 d:¬V ab
 a:1<=n
 c:n<=8
 I:¬(ab=1\/ab=2\/ab=3\/ab=4)
structure Nu(l l':ff)(ab n:Nat)(s':List fL)(V:Nat->Prop):Prop where
 vB:∀b,l.O b->b≠ab->l'.O b/\l'.w.heap[b]?=l.w.heap[b]?
 att:∃tA V',ox l' ab n s' tA V'/\∀b,V' b->V b\/(b=1\/b=2\/b=3\/b=4)\/l.w.heap.size<=b
section
variable{l d:ff}{ab:Nat}{s:List fL}{sl:Ñ}{V:Nat->Prop}
def ox.N{a:ff}(h:ox l ab n s sl V)(c:∀b,l.O b->a.O b)(d:∀b,l.O b->a.w.heap[b]?=l.w.heap[b]?)(e:l.w.heap.size<=a.w.heap.size):ox a ab n s sl V:= ⟨h.r.r (Ì h.r.fA e) λb q=>d b<|h.C b q,λb q=>c b<|h.C b q,h.Y.r<|d ab h.ft,c ab h.ft,h.rd.r λb q=>d b<|h.S b q,λb q=>c b<|h.S b q,h.d,h.a,h.c,h.I⟩
def ox.M(h:ox l ab n s sl V)(r:fI l l.w u):ox {l with w:=u} ab n s sl V:=h.N (λ_ q=>q) (λb q=>r.I b<|È q) r.r
def kl(ab:Nat)(n:Nat)(sl rs:Ñ)(x:Value×Value):Nat->Ñ
 |0=>Ã<|Â ⟨ab,0,Á⟩
 |1=>Ã<|Â ⟨ab,0,Á⟩
 |2=>Ã<|Â ⟨ab,1,Á⟩
 |3=>sl
 |4=>rs
 |5=>Ã<|Â ⟨ab,0,Á⟩
 |6=>Ã<|Â ⟨ab,0,Á⟩
 |7=>Ã<|Â ⟨ab,0,Á⟩
 |8=>Å É n
 |9=>ë #[x.1,x.2]
 |10=>ë #[x.1,x.2]
 |11=>x.1
 |12=>x.2
 |13=>x.1
 |14=>x.2
 |_=>ĸ
def wI(d:ff)(V:Nat->Prop)(rs:List PR)(s:List fL)(listed:Array Bool)(x:Value×Value)(l:ff):Prop:=
 gG l/\(listed.getD 9 Ë=Ë->gq fh d l)/\(listed.getD 9 Ë=Î->∃a e p m c,gq fh d a/\x=(Ç (Â ⟨e,0,Á⟩) rs.length rs.length,Ç p m c)/\At (λb=>V b\/b=1\/b=2\/b=3\/b=4) (wD rs) rs.length (kV rs) s a e (Ç p m c) l)
def wI.kg{V:Nat->Prop}{a:List PR}{s:List fL}{listed:Array Bool}{x:Value×Value}(h:wI d V a s listed x l)(b:i≠9){w₁:Í}(r:fI l l.w w₁):wI d V a s (listed.setIfInBounds i Î) x {l with w:=w₁}:=by
 have e:(listed.setIfInBounds i Î).getD 9 Ë=listed.getD 9 Ë:=by simp[Array.getD_eq_getD_getElem?,Array.getElem?_setIfInBounds_ne b]
 refine⟨h.1.C r,λq=> ?_,λq=> ?_⟩
 .rw[e]at q;exact(h.2.1 q).G r
 .rw[e]at q;let⟨f,g,p,m,c,j,k,n⟩:=h.2.2 q;exact⟨f,g,p,m,c,j,k,n.N r⟩
theorem asT{D:Array Ñ}{I:List PR}(J:ox d ab n s sl V)(T:D.size=39)(W:D[0]?=Â (Ã<|Â ⟨ab,0,Á⟩))(Y:D[6]?=Â z) (md:Ŀ) (listed:Array Bool) (a:Ĉ) (l:ff) (i:Nat) (O:List Nat) (hI:II oN D (kl ab n sl z) (wI d X I s) listed a l) (p:i∈ä md oN listed) (F:i≠9): fx.fl À Î (λc e=>∃b,e=G ((base 17).at b<|Ð oN O::L) qX/\II oN D (kl ab n sl z) (wI d X I s) (listed.setIfInBounds i Î) b c) l (G ((base 17).at a<|Ð oN (i::O)::L) qX):=by
 let⟨x,g,H⟩:=hI;have t:uH oN D.size=Î:=by rw[T];decide
 have K:=Ei p;have u:=H.1.r.r;have y:=H.1.q;have P:=(g.C A).trans W;have CY:=(g.C A).trans Y;have B:∀c,fI l l.w c->wI d X I s (listed.setIfInBounds i Î) x {l with w:=c}:=λc r=>H.kg F r;let⟨fr,mK,_⟩:=J.Y;have early:∀m,m<15->listed.getD m Ë=Ë->(∃e,e∈yx.after/\e.on=m/\zv e=Î)->listed.getD 9 Ë=Ë:=λm _ hm ⟨e,h1,h2,h3⟩=>by
  cases q:listed.getD 9 Ë with
  |false=>rfl
  |true=>
   have:=g.Y 9 yx e U q h1 h3;rw[h2,hm]at this;cases this
 have kq:oN.size=15:=A
 rw[kq]at K;have OP:listed.getD i Ë=Ë:=by have:=(Β.1 p).1;grind
 have S:∀{j v},(∃e,e∈yx.after/\e.on=i/\zv e=Î)->#[Å É n,sl][j]?=Â v->ic l ⟨ab,j,Á⟩/\l.w.cell? ⟨ab,j,Á⟩=Â v:=λq h=>by have b:=H.2.1<|early i K OP q;exact⟨È<|b.M<|È J.ft,(gO<|b.r ab (È J.ft) id).trans<|by simp[à,mK,h]⟩
 match i,K,F with
 |9,_,F=>exact absurd U F
 |0,_,_=>
  exact iu (o:=Jg) t g U U p (by k_ne) u y (λc r=>by simp only[kl,Jg];go_simp) (λc r e f=>by simp[go_sem,Jg,P]at f) B
 |1,_,_=>
  have b:=g.r 0 Jg 21 U (im p U U) U;simp only[kl]at b;exact iu (o:=Jh) t g U U p (by k_ne) u y (λc r=>by simp only[kl,Jh];go_simp) (λc r e f=>by simp[go_sem,Jh,b]at f) B
 |2,_,_=>
  have b:=g.r 1 Jh 22 U (im p U U) U;simp only[kl]at b;exact iu (o:=Ji) t g U U p (by k_ne) u y (λc r=>by simp only[kl,Ji];go_simp) (λc r e f=>by simp[go_sem,Ji,b]at f) B
 |3,_,_=>
  have b:=g.r 2 Ji 23 U (im p U U) U;simp only[kl]at b;let⟨C,E⟩:=S (j:=1) ⟨⟨3,ĉ⟩,by simp[yx],U,U⟩ U;refine iu (o:=Jj) t g U U p (by k_ne) u y (λc r=> ?_) (λc r e f=> ?_) B
  .have N:=(C.r r).trans E;simp only[kl,Jj];go_simp
  .have N:=(C.r r).trans E;simp[go_sem,Jj,b,N]at f;subst f;exact C.rd
 |4,_,_=>
  exact iu (o:=Jk) t g U U p (by k_ne) u y (λc r=>by simp only[kl,Jk];go_simp) (λc r e f=>by simp[go_sem,Jk,CY]at f) B
 |5,_,_=>
  exact iu (o:=Jl) t g U U p (by k_ne) u y (λc r=>by simp only[kl,Jl];go_simp) (λc r e f=>by simp[go_sem,Jl,P]at f) B
 |6,_,_=>
  have b:=g.r 5 Jl 26 U (im p U U) U;simp only[kl]at b;exact iu (o:=Jm) t g U U p (by k_ne) u y (λc r=>by simp only[kl,Jm];go_simp) (λc r e f=>by simp[go_sem,Jm,b]at f) B
 |7,_,_=>
  have b:=g.r 6 Jm 27 U (im p U U) U;simp only[kl]at b;exact iu (o:=Jn) t g U U p (by k_ne) u y (λc r=>by simp only[kl,Jn];go_simp) (λc r e f=>by simp[go_sem,Jn,b]at f) B
 |8,_,_=>
  have b:=g.r 7 Jn 28 U (im p U U) U;simp only[kl]at b;let⟨C,E⟩:=S (j:=0) ⟨⟨8,ĉ⟩,by simp[yx],U,U⟩ U;refine iu (o:=Jo) t g U U p (by k_ne) u y (λc r=> ?_) (λc r e f=> ?_) B
  .have N:=(C.r r).trans E;simp only[kl,Jo];go_simp
  .simp[go_sem,Jo,b,(C.r r).trans E]at f;subst f;exact C.rd
 |10,_,_=>
  have b:=g.r 9 yx 30 U (im p U U) U;simp only[kl]at b;exact iu (o:=Ay) t g U U p (by k_ne) u y (λc r=>by simp only[kl,Ay];go_simp) (λc r e f=>by simp[go_sem,Ay,b]at f) B
 |11,_,_=>
  have b:=g.r 10 Ay 20 U (im p U U) U;simp only[kl]at b;exact iu (o:=CU) t g U U p (by k_ne) u y (λc r=>by simp only[kl,CU];go_simp) (λc r e f=>by simp[go_sem,CU,b]at f) B
 |12,_,_=>
  have b:=g.r 10 Ay 20 U (im p U U) U;simp only[kl]at b;exact iu (o:=CV) t g U U p (by k_ne) u y (λc r=>by simp only[kl,CV];go_simp) (λc r e f=>by simp[go_sem,CV,b]at f) B
 |13,_,_=>
  have b:=g.r 11 CU 31 U (im p U U) U;simp only[kl]at b;exact iu (o:=CW) t g U U p (by k_ne) u y (λc r=>by simp only[kl,CW];go_simp) (λc r e f=>by simp[go_sem,CW,b]at f) B
 |14,_,_=>
  have b:=g.r 12 CV 32 U (im p U U) U;simp only[kl]at b;exact iu (o:=CX) t g U U p (by k_ne) u y (λc r=>by simp only[kl,CX];go_simp) (λc r e f=>by simp[go_sem,CX,b]at f) B
end
def asU(x y:Ñ)(n:Nat)(a:List Ē):G (è À 37 #[x,y,Å É n] Ą) a=EH x y n a:=by unfold EH;rw[enter_at #[x,y,Å É n] η (c:=kJ Tryz.f37 []) fw];kernel_rfl
section
variable{l g:ff}{s:List fL}{V:Nat->Prop}{d:List PR}
theorem asV{F:Array Ñ}(D:ox g i n s x V)(W:RQ d v X g.w)(M:∀b,X b->g.O b)(Y:∀r∈d,vf r)(K6:d.length<=24)(ht:F.size=39) (md:Ŀ) (listed:Array Bool) (a:Ĉ) (l:ff) (N:List Nat) (hI:II oN F (kl i n x v) (wI g (λb=>V b\/X b) d s) listed a l) (B:9∈ä md oN listed) (hn:∀P E,II oN F (kl i n x v) (wI g (λb=>V b\/X b) d s) (listed.setIfInBounds 9 Î) P E->iM vQ E (G ((base 17).at P<|Ð oN N::L) qX)): iM vQ l (G ((base 17).at a<|Ð oN (9::N)::L) qX):=by
 let⟨t,y,Q⟩:=hI;have OP:=(Β.1 B).1;have h9s:9<listed.size:=by grind
 have H:listed.getD 9 Ë=Ë:=by grind
 have e24:a.tmps[24]?=Â x:=y.r 3 Jj 24 U (im B U U) U;have e25:a.tmps[25]?=Â v:=y.r 4 Jk 25 U (im B U U) U;have e29:a.tmps[29]?=Â (Å É n):=y.r 8 Jo 29 U (im B U U) U;have late:∀(S:Value×Value) j,listed.getD j Ë=Î->kl i n x v S j=kl i n x v t j:=λS j u=>by
  have c:listed.getD 10 Ë=Ë:=by
   cases q:listed.getD 10 Ë with
   |false=>rfl
   |true=>exact absurd (y.Y 10 Ay ⟨9,ĉ⟩ U q (by simp[Ay]) U)<|by rw[H];decide
  have e:listed.getD 11 Ë=Ë:=by
   cases q:listed.getD 11 Ë with
   |false=>rfl
   |true=>exact absurd (y.Y 11 CU ⟨10,ĉ⟩ U q (by simp[CU]) U)<|by rw[c];decide
  have h:listed.getD 12 Ë=Ë:=by
   cases q:listed.getD 12 Ë with
   |false=>rfl
   |true=>exact absurd (y.Y 12 CV ⟨10,ĉ⟩ U q (by simp[CV]) U)<|by rw[c];decide
  have m:listed.getD 13 Ë=Ë:=by
   cases q:listed.getD 13 Ë with
   |false=>rfl
   |true=>exact absurd (y.Y 13 CW ⟨11,ĉ⟩ U q (by simp[CW]) U)<|by rw[e];decide
  have p:listed.getD 14 Ë=Ë:=by
   cases q:listed.getD 14 Ë with
   |false=>rfl
   |true=>exact absurd (y.Y 14 CX ⟨12,ĉ⟩ U q (by simp[CX]) U)<|by rw[h];decide
  match j with
  |9=>rw[H]at u;cases u
  |10=>rw[c]at u;cases u
  |11=>rw[e]at u;cases u
  |12=>rw[h]at u;cases u
  |13=>rw[m]at u;cases u
  |14=>rw[p]at u;cases u
  |0|1|2|3|4|5|6|7|8=>rfl
  |j+15=>rfl
 refine wH (f:=37) (args:=#[x,v,Å É n]) Q.1 (o:=yx) U (K5 U _) (by k_ne) (λw=> ?_) (λw=> ?_) λw₁ r=> ?_
 .simp only[yx];go_simp
 .exact ô U η U U #[]
 have z:=(Q.2.1 H).G r;have C:=D.N (λb q=>z.O b q) (λb q=>z.r b (È q) id) z.I;have T:=λb q=>z.O b<|M b q;obtain⟨ra,cr,rb,rq,rfl,HY,vT,HZ,H0,ready⟩:=asQ (W.r λb q=>z.r b (È<|M b q) id) Y C.r C.C T;obtain⟨I,J,K,rfl⟩:∃I J K,x=Ç I J K:=by let⟨_,_,_,⟨I,J,K,e,_⟩,_⟩:=D.rd;grind
 rw[asU];refine asK HY (λh=>È<|vT h) HZ H0 ready ⟨λb q=>È<|Ï q,λb q=>Ï q⟩ (λb q=>q.elim (λq=>q.elim (C.S b)<|T b)<|C.C b) (λb q=>È<|È q) C.rd D.a (by have:=D.c;omega) λE e p m c h hT=> ?_;refine hn _ E ⟨(Ç (Â ⟨e,0,Á⟩) d.length d.length,Ç p m c),(y.Zp<|late _).fV (by rw[ht];decide) U B λ_=>rfl,h,λq=> ?_,λ_=>⟨_,e,p,m,c,z,U,hT⟩⟩;simp_all
end
section
variable{l o l4:ff}{ab:Nat}{s:List fL}{sl:Ñ}{V:Nat->Prop}{rs:List PR}
structure acy(l l4:ff)(ab n:Nat)(s:List fL)(sl:Ñ)(V:Nat->Prop)(rs:List PR)(an:Nat)(tA:Ñ):Prop where
 r:∀b,l.O b->l4.O b/\l4.w.heap[b]?=l.w.heap[b]?
 fA:nB<=l4.w.heap.size
 C:l4.O an/\vj an (kX rs s) l4.w/\kY l4.w an=Â (0,0)
 Ie:∃V',RD (wE rs s) tA V' l4.w/\(∀b,V' b->l4.O b)/\¬V' ab/\∀b,V' b->V b\/(b=1\/b=2\/b=3\/b=4)\/l.w.heap.size<=b
def asW{kd:Nat->Int}(h:∀p,p<rs.length->w.cell? ⟨i,p,Á⟩=Â (Ä<|wv (wD rs) (kV rs) p<|pV (wD rs) (ia (kV rs) rs.length) s<|fO (kV rs) p))(d:w.cell? ⟨i,rs.length,Á⟩=Á):vj i (kX rs s) w:=by refine⟨λp x a=> ?_,by unfold kX;simpa using d⟩;unfold kX at a;rw[Ī]at a;obtain⟨q,e,rfl⟩:=ò.1 a;let⟨b,c⟩:=Õ.1 e;simp at b c;subst c;exact h p b
def Nv:(kX rs s).length=rs.length:=by simp[kX]
def asX:nB<=5:=by show À.globals.size<=5;decide+kernel
def asY{f:ff}{p:Option ü}(d:ox l ab n s sl V)(t:gC l)(u:∀b,X b->l.w.heap.size<=b)(v:∀b,l.O b->o.O b/\o.w.heap[b]?=l.w.heap[b]?)(x:l.w.heap.size<=o.w.heap.size)(y:gC l4)(e:gq fh o f)(a:At (λb=>(V b\/X b)\/b=1\/b=2\/b=3\/b=4) (wD rs) rs.length (kV rs) s f i (Ç p m j) l4):acy l l4 ab n s sl V rs i (Ç p m j):=by
 have g:∀b,l.O b->l4.O b/\l4.w.heap[b]?=l.w.heap[b]?:=λb q=>by let⟨z,h⟩:=v b q;let⟨k,r⟩:=a.M b<|e.O b z;exact⟨k,r.trans<|(e.r b (È z) id).trans h⟩
 refine⟨g,?_,⟨a.r.1,asW (kd:=kV rs) a.r.2 a.I.1,a.I.2⟩,?_⟩
 .have:=y.fA 4<|È (g 4<|d.C 4 A).1;have:=asX;omega
 .let⟨h,B,k⟩:=a.S;have r:∀b,h b->V b\/(b=1\/b=2\/b=3\/b=4)\/l.w.heap.size<=b:=λb q=>by
   rcases(k b q).2 with((z|z)|z)|z
   .exact È z
   .exact Ï<|Ï<|u b z
   .exact Ï<|È z
   .exact Ï<|Ï<|Ì (Ì x e.I) z
  refine⟨h,B,λb q=>(k b q).1,λq=> ?_,r⟩;rcases r ab q with z|z|z
  .exact d.d z
  .exact d.I z
  .have:=t.fA ab<|È d.ft;omega
def asZ{f:ff}{p:Option ü}(d:ox l ab n s sl V)(h:acy l l4 ab n s sl V rs i (Ç p m j))(E:gC l4)(g:∀b,l4.O b->f.O b)(r:∀b,l4.O b->f.w.heap[b]?=(l4.w.setCell ⟨ab,1,Á⟩<|Ç p m j).heap[b]?)(v:l4.w.heap.size<=f.w.heap.size):Nu l f ab n (wE rs s) V:=by
 let⟨x,y,t,u,z⟩:=h.Ie;have k:∀b,l4.O b->b≠ab->f.w.heap[b]?=l4.w.heap[b]?:=λb q e=>(r b q).trans<|lD (a:=⟨ab,1,Á⟩) e;have o:=h.r ab d.ft;refine⟨λb q e=>⟨g b (h.r b q).1,(k b (h.r b q).1 e).trans (h.r b q).2⟩,Ç p m j,x,⟨?_,λb q=>g b (h.r b<|d.C b q).1,?_,g ab o.1,y.r λb q=>k b (t b q) λe=>u<|e▸q,λb q=>g b<|t b q,u,d.a,d.c,d.I⟩,z⟩
 .exact d.r.r (Ì h.fA v) λb q=>(k b (h.r b<|d.C b q).1 λe=>d.I<|e▸q).trans (h.r b<|d.C b q).2
 .let⟨B,C,D⟩:=d.Y;refine⟨B,?_,D⟩;rw[r ab o.1];unfold Ż;simp[Ķ,o.2,C]
def as0{J:Jd}(b:kr l)(d:fx.fl À Î J l (G (f.at (y.put ((Q[i]?).bind (·.dst))<|Ä ⟨#[]⟩)<|Ð Q jJ::L) qX)): fx.fl À Î J l (G (è À 38 #[Ç O 0 j,Ä B] Ą)<|f.at y (Ð Q (i::jJ)::L)::qX):=by
 have hF:True:=trivial;rw[wF [_,_] 73 ē];simp only[ą,Đ,ę];conv in kJ _ _=>whnf
 apply fN (n:=60) b;repeat w_go fu
 u_in fu hF
 refine Ŧ (t:=4) U U ē U ⟨by u_nil,?_⟩;refine ï λ_ _=> ?_;exact d
def vj.I{w':Í}{xs:List ByteArray}(h:vj i xs w)(k:w'.heap[i]?=w.heap[i]?):vj i xs w':= ⟨λp x a=>CR k<|h.r p x a,by have:=h.C;simp only[à,k]at this|-;exact this⟩
def as1{xs:List ByteArray}(g:mQ w)(h:vj i xs w):lG i=Ë:=by
 have b:∀e,M9 i e w->False:=λe ⟨c,o,j,_,_,d,l⟩=>by
  have f:w.cell? ⟨i,0,Á⟩=Â c[0]:=by simp only[à,j,ö,ì,if_false];exact å d
  rcases ģ xs.length with q|q
  .have a:=h.C;rw[q,f]at a;cases a
  .have a:=h.r 0 _<|Ó q;let⟨k,n,m⟩:=l c[0]<|î.2<|ă d;rw[f,m]at a;cases a
 cases q:lG i with
 |false=>rfl
 |true=>
  unfold lG at q;simp at q;rcases q with rfl|rfl
  .exact(b _ g.I).elim
  .exact(b _ g.C).elim
def jv.as2(a:kr l)(r:fI l l.w u):jv l {l with w:=u}:=⟨λ_ q=>q,λ_ q=>È q,U,U,U,U,U,r,mM a r⟩
def as3{a:Ĉ}{xs:List ByteArray}(b:gG l)(j:nB<=l.w.heap.size)(h:vj n xs l.w)(m:l.O n)(o:lG n=Ë)(p:kY l.w n=Â (0,0))(s:xs.length<=1000){N:Nat}(t:xs.length=N)(u:B.size=1)(v:iQ xs+xs.length<=140737488355328): fx.fl À Î (λc g=>jv l c/\c.d=l.d/\g=G (f.at (a.put ((Q[i]?).bind (·.dst))<|Ä<|iI B xs)<|Ð Q jJ::L) qX) l (G (è À 38 #[Ç (Â ⟨n,0,Á⟩) N N,Ä B] Ą)<|f.at a (Ð Q (i::jJ)::L)::qX):=by
 subst t;rcases ģ xs.length with e|e
 .have x:=Ý e;subst x;exact as0 b.r.r<|.fD λy r=>⟨jv.as2 b.r.r r,U,U⟩
 .refine(asF b.r b.q j h e (È m) o p s u v Î _ qX).fT ?_;rintro c g ⟨r,x,rfl⟩;exact⟨r,x,by rw[Ě]⟩
def as4{N:Array Ñ}{cf:Ē}(C:ox l ab n s sl V)(EI:gC l)(U4:∀b,X b->l.w.heap.size<=b)(hl:∀b,l.O b->o.O b/\o.w.heap[b]?=l.w.heap[b]?)(kq:l.w.heap.size<=o.w.heap.size)(K6:rs.length<=24)(sY:iQ (kX rs s)+rs.length<=140737488355328)(ht:N.size=39)(ht0:N[0]?=Â (Ã<|Â ⟨ab,0,Á⟩)) (hJ:∀P,gG P->Nu l P ab n (wE rs s) V->iM vQ P (G (cf.at (y.put ((Q[i]?).bind (·.dst))<|ë #[Ä<|iI ⟨#[59]⟩<|kX rs s,Å É 0])<|Ð Q jJ::L) qX)) (md:Ŀ) (listed:Array Bool) (a:Ĉ) (l4:ff) (hI:II oN N (kl ab n sl v) (wI o (λb=>V b\/X b) rs s) listed a l4) (H:listed.size=oN.size) (I:ä md oN listed=[]): iM vQ l4 (G ((base 17).at a<|Ð oN []::[ax U3])<|cf.at y (Ð Q (i::jJ)::L)::qX):=by
 have hF:True:=trivial;let⟨x,D,g,_,hS⟩:=hI;have J:∀i∈ĳ 15,listed.getD i Ë=Î:=by
  cases md
  .exact qm I H (ĳ 15) [] fS λi c=>by cases c
  .exact λi c=>qm I H [0,1,2,3,4,5,6,7,8,9,10,11,13,12,14] [] fS (λi c=>by cases c) i (by have:=Ŷ.1 c;revert i;decide)
  .exact qm I H (ĳ 15) [] fS λi c=>by cases c
 obtain⟨l1,r,p,m,c,k1,rfl,hT⟩:=hS<|J 9 A;have h:=asY (rs:=rs) C EI U4 hl kq g.r k1 hT;let⟨F,ds⟩:=a;obtain rfl:ds=[]:=D.M;have S:F[0]?=Â (Ã<|Â ⟨ab,0,Á⟩):=(D.C A).trans ht0;have T:F[9]?=Â (Ç (Â ⟨r,0,Á⟩) rs.length rs.length):=D.r 13 CW 9 U (J 13 A) U;have W:F[10]?=Â (Ç p m c):=D.r 14 CX 10 U (J 14 A) U;have H6:F.size=39:=D.S.trans ht;clear D J hS hT k1 I H;obtain⟨u,rfl⟩:=uJ F H6;simp only[List.getElem?_toArray,Ī,List.getElem?_range,Nat.reduceLT,Ă,Ô]at S T W;simp only[ĳ,List.range.loop,List.map,S,T,W];clear S T W H6;let⟨fr,mK,hfr⟩:=C.Y;let⟨Nw,hab⟩:=h.r ab C.ft;have Y:l4.w.heap[ab]?=Â (Û #[Å É n,sl] 68 (0,0)):=by rw[hab,mK,hfr]
 have c1:l4.w.cell? ⟨ab,1,Á⟩=Â sl:=by simp[à,Y]
 have z1:l4.w.frozen? ⟨ab,1,Á⟩=Ë:=by simp[World.frozen?,Y]
 have BZ:=g.q;apply lB;apply fN (n:=20) g.r.r;conv in U3=>whnf
 iterate 7 w_go fu
 refine ï λ_ _=> ?_;apply Ht (p:=ab) (off:=1) (v:=Ç p m c) (u:=sl) U U (by k_ne) g.r.r BZ Nw c1 z1 U (λw z B=>by go_simp) (λw z B=>by simp[go_sem,events_store _ _ _ _ _ _ (show Value.oneCell' (Ç p m c)=Î from rfl),z,B]);have k5:=Ld (X:=λb=>b=ab) (p:=ab) (w':=l4.w.setCell ⟨ab,1,Á⟩<|Ç p m c) g.r (fI.gd _ _) Nw U fx.j4 λj hj=>fx.lD hj;have sf:=k5.N g.r;have avE:(l4.w.setCell ⟨ab,1,Á⟩<|Ç p m c).heap.size=l4.w.heap.size:=fx.j4;have rX:gG ({l4 with w:=l4.w.setCell ⟨ab,1,Á⟩ (Ç p m c)}:ff):=⟨sf,g.d,g.q,g.rd,g.I,g.M,g.k⟩;have c0:l4.w.cell? ⟨ab,0,Á⟩=Â (Å É n):=by simp[à,Y]
 have as5:r≠ab:=λe=>by
  rcases ģ (kX rs s).length with q|q
  .have z:=h.C.2.1.C;rw[q,e,c0]at z;cases z
  .have B:=h.C.2.1.r 0 _<|Ó q;rw[e,c0]at B;cases B
 have acz:(l4.w.setCell ⟨ab,1,Á⟩<|Ç p m c).heap[r]?=l4.w.heap[r]?:=fx.lD (a:=⟨ab,1,Á⟩) as5;have UA:=h.C.2.1.I acz;have BK:kY (l4.w.setCell ⟨ab,1,Á⟩<|Ç p m c) r=Â (0,0):=(xh acz).trans h.C.2.2;have as6:lG r=Ë:=as1 (C.r.r h.fA λb q=>(h.r b<|C.C b q).2) h.C.2.1;have hlen:(kX rs s).length=rs.length:=Nv;apply fN (n:=20) sf.r;iterate 4 w_go fu
 refine ï λ_ _=> ?_;refine wG (f:=38) (args:=#[Ç (Â ⟨r,0,Á⟩) rs.length rs.length,Ä ⟨#[59]⟩]) U fS (by k_ne) sf.r (λw=>by go_simp) (λw=>ô U ē U U #[]) λw₁ E=> ?_;have CY:=rX.C E;have as7:vj r (kX rs s) w₁:=UA.I<|E.I r<|È h.C.1;refine fx.fl.lL ?_ (as3 (xs:=kX rs s) CY (Ì (by rw[fx.j4];exact h.fA) E.r) as7 h.C.1 as6 ((xh<|E.I r<|È h.C.1).trans BK) Z hlen U Z);rintro K g6 ⟨M,hd,rfl⟩;have U5:gG K:=jv.xT CY M hd;have hk6:∀b,l4.O b->K.w.heap[b]?=(l4.w.setCell ⟨ab,1,Á⟩<|Ç p m c).heap[b]?:=λb q=>(M.r.I b<|È q).trans<|E.I b<|È q;have hs6:l4.w.heap.size<=K.w.heap.size:=by have z:=M.r.r;have B:=E.r;have h3:(l4.w.setCell ⟨ab,1,Á⟩<|Ç p m c).heap.size=l4.w.heap.size:=fx.j4;exact Ì (Nat.le_of_eq h3.symm)<|Ì B z
 have B:∀b,l4.O b->K.O b:=λb q=>M.O b q;generalize iI ⟨#[59]⟩ (kX rs s)=ans at*;walk_nrm;apply fN (n:=20) U5.r.r;repeat w_go fu
 u_in fu hF
 refine θ (t:=4) (u:=5) U U Ł U ⟨by u_nil,?_⟩;refine ï λ_ _=> ?_;refine .fD λxe z=>⟨U5.C z,U,hJ _ (U5.C z)<|asZ C h g.r B (λb q=>(z.I b<|È<|B b q).trans<|hk6 b q)<|Ì hs6 z.r⟩
end
section
variable{l:ff}{s:List fL}
theorem as8{e:ff}{c:Nat->Prop}{g:List PR}(B:ox l j n s v X)(C:gC l)(D:ox e j n s v X)(k:gG e)(W:RQ g z c e.w)(Y:∀b,c b->e.O b)(hok:∀r∈g,vf r)(E:g.length<=24)(F:∀b,c b->l.w.heap.size<=b)(H:∀b,l.O b->e.O b/\e.w.heap[b]?=l.w.heap[b]?)(I:l.w.heap.size<=e.w.heap.size)(J:iQ (kX g s)+g.length<=140737488355328)(t:d.size=39)(u:d[0]?=Â (Ã<|Â ⟨j,0,Á⟩))(K:d[6]?=Â z) (M:∀h,gG h->Nu l h j n (wE g s) X->iM vQ h (G (f.at (y.put ((Q[i]?).bind (·.dst))<|ë #[Ä<|iI ⟨#[59]⟩<|kX g s,Å É 0])<|Ð Q jJ::L) qX)): iM vQ e (G ((base 17).at ⟨d,[]⟩<|ax (.region 4 oN Î)::[ax U3])<|f.at y (Ð Q (i::jJ)::L)::qX):=by
 refine asR (II oN d (kl j n v z)<|wI e (λb=>X b\/c b) g s) k (λa x=> ?_) (λm o a l i jJ p N P=> ?_) λm o a l p S T=> ?_
 .refine⟨(ĸ,ĸ),mZ.G _ _ _,k.C x,λ_=>(gq.gd k.r.r).G x,λq=> ?_⟩;exact absurd q A
 .by_cases V:i=9
  .grind [asV]
  .exact asS (asT D t u K m o a l i jJ p N V) (λN h q=>by let⟨x,_,q⟩:=q;exact q.1) P
 .exact as4 B C F H I E J t u M m o a l p S T
def acA(p:gG l)(r:ox l j n s v X)(I:B.size<=ī)(J:(gR B).1=0->iQ (kX (gR B).2.2 s)+(gR B).2.2.length<=140737488355328) (t:∀z,gG z->Nu l z j n (lV s B).2.2 X->iM vQ z (G (f.at (y.put ((Q[i]?).bind (·.dst))<|ë #[Ä (lV s B).1,Å É (lV s B).2.1])<|Ð Q jJ::L) qX)): iM vQ l (G (è À 17 #[Ã<|Â ⟨j,0,Á⟩,Ä B] Ą)<|f.at y (Ð Q (i::jJ)::L)::qX):=by
 have hF:=trivial;rw[wF [_,_] 37 Ł];simp only[ą,Đ,ę];conv in kJ _ _=>whnf
 apply lB;apply fN (n:=20) p.r.r;iterate 8 w_go fu
 refine ï λ_ _=> ?_;refine wG (f:=36) (args:=#[Ä B]) U fS (by k_ne) p.r.r (λw=>by go_simp) (λw=>ô U ļ U U #[]) λw₁ m=> ?_;have C:=p.C m;refine fx.fl.lL ?_<|aco C.r C.q (Ì r.r.fA m.r) I Î _ _;rintro u g1 ⟨x,K,a,rfl,M⟩;have g:=jv.xT C x K;have h:∀b,l.O b->u.O b/\u.w.heap[b]?=l.w.heap[b]?:=λb q=>⟨x.O b q,(x.r.I b<|È q).trans<|m.I b<|È q⟩;have F:=Ì m.r x.r.r;rw[Ě];by_cases k:(gR B).1=0
 .have D:lV s B=(iI ⟨#[59]⟩<|kX (gR B).2.2 s,0,wE (gR B).2.2 s):=if_pos k;let⟨c,N,E⟩:=M k;have P:=J k;rw[D]at t;obtain⟨S,T⟩:=Jf;rw[k];generalize(gR B).2.2=rs at*;generalize(gR B).2.1=U6 at*;walk_nrm;apply fN (n:=40) g.r.r;repeat w_go fu
  refine ï λ_ _=> ?_;refine .fD λo d=>⟨g.C d,U,?_⟩;have V:=g.C d;have e:∀b,l.O b->({u with w:=o}:ff).O b/\o.heap[b]?=l.w.heap[b]?:=λb q=>⟨(h b q).1,(d.I b<|È (h b q).1).trans (h b q).2⟩;have H:=Ì F d.r;have W:=r.N (λb q=>(e b q).1) (λb q=>(e b q).2) H;have Y:=N.r λb q=>d.I b<|È (E b q).1;have hQ3:=λb q=>(E b q).1;have U4:=λb q=>Ì m.r (E b q).2;exact as8 r p.r W V Y hQ3 S T U4 e H P U U U t
 .have D:lV s B=(⟨#[]⟩,(gR B).1,s):=if_neg k;rw[D]at t;have c:((gR B).1 !=0)=Î:=by rwa[bne_iff_ne]
  generalize(gR B).1=er at*;generalize(gR B).2.1=U6 at*;walk_nrm;apply fN (n:=40) g.r.r;repeat w_go fu
  u_in fu hF
  refine θ U U Ł U ⟨by u_nil,?_⟩;refine ï λ_ _=> ?_;refine .fD λo d=>⟨g.C d,U,t _ (g.C d) ?_⟩;have e:∀b,l.O b->({u with w:=o}:ff).O b/\o.heap[b]?=l.w.heap[b]?:=λb q=>⟨(h b q).1,(d.I b<|È (h b q).1).trans (h b q).2⟩;exact⟨λb q _=>e b q,v,X,r.N (λb q=>(e b q).1) (λb q=>(e b q).2)<|Ì F d.r,λb q=>È q⟩
end
def Nx(a:ByteArray)(c:a.size=1):∀b:List ByteArray,(iI a b).size<=iQ b+b.length
 |[]=>Ø _
 |x::r=>by
  show(x.data.toList++ly a r).toArray.size<=_;have d:iQ (x::r)=x.size+iQ r:=by simp[iQ]
  have e:x.data.toList.length=x.size:=by rw[ě];rfl
  simp only[ř,Ù,MX a c r,d,e,ď];omega
def U7{M:Nat}(a:∀z∈vX,z.size<=M)(b:M<=100)(c:vX.length<=400000):(FB vX).size<=100000000:=by
 unfold FB;split
 .decide
 .have d:=Nx ⟨#[44]⟩ U vX;have e:=Fy vX a;have:M*vX.length<=100*400000:=ű b c;omega
theorem FQ(i:Nat):(nY i).size<=3:=by
 unfold nY oG;rw[ø];split
 .show 1+1<=3;decide
 .show 1+2<=3;decide
theorem acB(s:fR.St)(x y:Nat)(k:Int):∀(m i:Nat),i+m<=1000->(pO s x y k i m).size<=20
 |0,i,_=>by unfold pO;decide
 |m+1,i,h=>by
  unfold pO;split
  .exact pP i Z
  .exact acB s x y k m (i+1) Z
theorem as9(s t:fR.St):(rA s t 8).length<=400000:=by
 unfold rA;have a:∀l:List Nat,(l.flatMap<|Al s t).length<=18*l.length:=λl=>by
  induction l with
  |nil=>simp
  |cons i l b=>
   rw[List.flatMap_cons,Ù,ď];have:(Al s t i).length<=18:=by unfold Al;grind [Ù,MS,aa3]
   omega
 grind
theorem ata{i:List (Nat×fL)}{q:Qn}(n:lC (kx i))(ok:q.Ok):(qF i q).size<=100000000:=by
 unfold qF;split
 .grind [FQ]
 .rename_i p o;let⟨b,f,v,w⟩:=n.r _<|Ú.2 ⟨p,IX o,U⟩;have j:∀u,u<18446744073709551616->(fy u).size<=100000000:=λu r=>by have:=pP u r;omega
  unfold Ao;split
  .have c:=f.C q.x q.I;exact j _ (by have:=c.1;have:=c.2;omega)
  .split
   .have c:=f.fB q.x;exact j _ (by have:=c.1;have:=c.2;omega)
   .split
    .split
     .grind [FQ]
     .rename_i B;have l:gp (q.k:Int):=⟨Z,by have:=ok.k;omega⟩;have e:=Ix p.2.s [] q.x q.y q.g q.k f ok.x ok.y l Z Z (by simp;omega);unfold ou;have C:=e.r;have m:=e.M;have t:=e.I;simp at t;have D:=Nx ⟨#[44]⟩ U<|[fy (fX p.2.s [] q.x q.y q.g q.k).C.toNat,fy (fX p.2.s [] q.x q.y q.g q.k).M.toNat,fy (fX p.2.s [] q.x q.y q.g q.k).r.toNat]++(fX p.2.s [] q.x q.y q.g q.k).I.map oJ;have E:=Fy (M:=21) ([fy (fX p.2.s [] q.x q.y q.g q.k).C.toNat,fy (fX p.2.s [] q.x q.y q.g q.k).M.toNat,fy (fX p.2.s [] q.x q.y q.g q.k).r.toNat]++(fX p.2.s [] q.x q.y q.g q.k).I.map oJ) λz d=>by
       rcases â.1 d with h|h
       .simp at h;rcases h with rfl|rfl|rfl
        .have:=pP (fX p.2.s [] q.x q.y q.g q.k).C.toNat (by cases(fX p.2.s [] q.x q.y q.g q.k).C<;>decide);omega
        .have:=pP (fX p.2.s [] q.x q.y q.g q.k).M.toNat (by have:=m.1;have:=m.2;omega);omega
        .grind [pP]
       .obtain⟨e,a,rfl⟩:=Ú.1 h;exact M0 ((Uc p.2.s [] q.x q.y q.g q.k f ok.x ok.y l Z Z (by simp;omega) λ_ q=>by cases q) e a).2
      grind
    .split
     .grind [acB]
     .split
      .have:=abl<|Fg p.2.s;have:=abm<|16-(nO<|Fg p.2.s).size;unfold M4;rw[ø];omega
      .split
       .exact U7 (λz d=>by obtain⟨e,a,rfl⟩:=Ú.1 d;exact M0 (b.C e a).2) Z<|by rw[ù];exact b.I
       .split
        .exact U7 (λz d=>by obtain⟨e,a,rfl⟩:=Ú.1 d;exact abe (b.r e a).1 (b.r e a).2) Z (by rw[ù];have:=b.M;omega)
        .split
         .grind [FQ]
         .exact U7 (abn _ _) Z<|as9 _ _
theorem atb(a:List (Nat×fL))(v:Int)(x:Nat)(gN:List Tx):(ry a v x gN).2.size<=3:=by
 unfold ry;split
 .exact FQ 3
 .split
  .exact FQ 4
  .split
   .exact FQ 5
   .show(oG a.length).size<=3;unfold oG;split
    .show 1<=3;decide
    .show 2<=3;decide
def atc{s:List fL}{i:Int×Nat×List Tx}(h:lC s)(a:∀t∈i.2.2,t.Ok)(b:i.2.2.length<=1000):lC (CK s i):= lC.M (by rwa[I5]) a b
def acC{a:List PR}{s:List fL}(h:lC s)(b:∀r∈a,vf r):∀k,k<=(ia (kV a) a.length).length->lC (pV (wD a) (ia (kV a) a.length) s k)
 |0,_=>h
 |k+1,hk=>by
  have c:a.getD ((ia (kV a) a.length).getD k 0) pg∈a:=ç (i:=(ia (kV a) a.length).getD k 0) (by have q:=(Ib<|we (l:=ia (kV a) a.length)<|show k<_ from hk).1;generalize(ia (kV a) a.length).getD k 0=j at q;simp[Ğ,q]);have q:=b _ c;refine atc (acC h b k Z) (λt d=> ?_) ?_
  .obtain⟨x,t,rfl⟩:=Ú.1 d;exact toTx_ok<|q.C x t
  .show((a.getD _ pg).r.map toTx).length<=1000;rw[ù];have:=q.n;omega
def Ss(kd:Nat->Int):∀{p R:Nat},p<=R->fO kd p<=(ia kd R).length:=λ{p R} h=>by
 show(ia kd p).length<=(ia kd R).length
 induction h with
 |refl=>exact æ _
 |@step R _ ih=>
  by_cases q:kd R=1
  .rw[tx q];simp;omega
  .rwa[vR q]
theorem acD{a:List PR}{s:List fL}(h:lC s)(b:∀r∈a,vf r)(l:a.length<=24):iQ (kX a s)+a.length<=2400000024:=by
 have d:=Fy (M:=100000000) (kX a s) λz c=>by
  unfold kX at c;obtain⟨p,e,rfl⟩:=Ú.1 c;have f:=Ŷ.1 e;have g:=acC h b (fO (kV a) p)<|Ss _ Z;unfold wv;split
  .grind [Ì,atb]
  .rename_i j;have k:a.getD p pg∈a:=ç (i:=p) (by simp[Ğ,f]);exact ata (by rwa[I5])<|acv (b _ k) j
 rw[Nv]at d;omega
def acE{s:List fL}(h:lC s):iQ (kX (gR B).2.2 s)+(gR B).2.2.length<=140737488355328:=Ì (acD h Jf.1 Jf.2) A
theorem acG{s:List fL}(h:lC s)(B:ByteArray):(lV s B).1.size<=10^12:=by
 unfold lV;split
 .have a:=Nx ⟨#[59]⟩ U<|kX (gR B).2.2 s;have b:=acD h (Jf (B:=B)).1 Jf.2;rw[Nv]at a;grind
 .exact Ø _
def Jp(c:Int):Int:=if c<0 then(-(c+1))%8 else c%8
def atd(c:Int)(b:-9223372036854775808<=c)(d:c<=9223372036854775807)(w:Í):Ò À 30 #[Å É c,Å É 8] w λe a=>e=Æ (Å É<|Jp c)/\a=w:=by
 unfold Jp;by_cases h:c<0
 .rw[if_pos h];have e:-(c+1).tmod 8=(-(c+1))%8:=by rw[<-Int.neg_tmod,Int.tmod_eq_emod_of_nonneg Z]
  have H:=fg e.symm;clear e;go_enter ŧ,Ο;go_wp2;go_ret;exact⟨by rw[H.out];rfl,U⟩
 .rw[if_neg h];go_enter ŧ,Ο;go_wp2;go_ret;exact⟨U,U⟩
def Ny(a:ü)(w:Í):Sem.events À (binOp BinOp.eql 26 (Ã<|Â a)<|Ã Á) w #[]=#[]:=fw
theorem CZ{l:ff}(a:gG l)(p:nB<=l.w.heap.size){f:Ρ}{args:Array Ñ}{r:Ñ}(m:EX f=Î)(s:∀v∈args.toList,fp (qp (λ_=>False) À.globals.size) v v)(t:∀{Y v},fp Y r v->v=r)(x:∀w,Ò À f args w λe y=>e=Æ r/\y=w)(n:Bool)(c:Ē)(i:List Ē): fx.fl À n (λk o=>jv l k/\k.d=l.d/\o=G (c.finish r) i) l (G (è À f args Ą)<|c::i):=by
 let⟨E,F,z,B⟩:=zS f m;have C:∀T,Ò À f args (World.tp (lu (λj=>False/\¬(mo l).O j) l.w) T 0) fun|Æ v,j=>v=r/\ko j|_,_=>False:=λT=>by refine(x _).mono ?_;grind [FD]
 refine((EP yF Mc zS (λv u T D h=>h) m z B (ES a.r) a.q (λb q=>q.elim) ⟨λb q=>q.elim,p⟩ (λg q=>by cases q) (pS s) C n c i).mo a.r).fT ?_;rintro k o ⟨D,⟨Y,j,v,H,_,_,g,rfl,b,_,_,h⟩,rfl,u,_,_,_⟩;rw[t g]at b;exact⟨u,h,b⟩
def U8:ByteArray:=⟨#[98,48,58,97,59,98,48,58,104,59,117,48,59,98,49,58,97]⟩
def ate:(lV [fR.je] U8).1=⟨#[49,48,48,48,59,49,48,48,48,59,45,59,33,51]⟩:=fw
def atf:(lV [fR.je] U8).2=(0,[fR.je]):=fw
structure atg(l l':ff)(ab n:Nat)(sl:Ñ)(V:Nat->Prop):Prop where
 r:ox l' ab n [fR.je] sl V
 C:∀b,l.O b->l'.O b/\l'.w.heap[b]?=l.w.heap[b]?
 I:l.w.heap.size<=ab
 M:∀b,V b->(b=1\/b=2\/b=3\/b=4)\/l.w.heap.size<=b
section
variable{l:ff}
def ath{J:Jd}{s:List fL}(c:gG l)(d:ox l j n s z X)(g:fx.fl À Î J l (G (f.at (y.put ((Q[i]?).bind (·.dst))<|Å É s.length)<|Ð Q jJ::L) qX)): fx.fl À Î J l (G (è À 22 #[Ã<|Â ⟨j,0,Á⟩] Ą)<|f.at y (Ð Q (i::jJ)::L)::qX):=by
 have hF:True:=trivial;obtain⟨a,b,rfl⟩:∃a b,z=Ç a s.length b:=by
  let⟨o,h,_,⟨a,k,b,e,_,m⟩,_⟩:=d.rd;have:k=s.length:=by rw[m.r,<-h];simp[kx]
  exact⟨a,b,by rw[e,this]⟩
 have o:s.length<=40:=by let⟨_,_,e,_⟩:=d.rd;exact e.C
 let⟨p,k,_⟩:=d.Y;have m:l.w.cell? ⟨j,1,Á⟩=Â (Ç a s.length b):=by simp[à,k]
 rw[wF [_] 7 Ũ];simp only[ą,Đ,ę];conv in kJ _ _=>whnf
 refine fN (n:=20) c.r.r ?_;repeat w_go fu
 refine ï λ_ _=> ?_;refine o5 (x:=⟨j,1,Á⟩) (v:=Ç a s.length b) U fS (by k_ne) c.r.r c.q (È<|È d.ft) m (λw h=>by go_simp) (λw h=>by simp[go_sem,h]) ?_;walk_nrm;refine fN (n:=20) c.r.r ?_;repeat w_go fu
 u_in fu hF
 refine Ŧ (t:=2) U U Ũ U ⟨by u_nil,?_⟩;refine ï λ_ _=> ?_;exact g
def ati(j:gG l)(p:mQ l.w)(I:∀b,b=1\/b=2\/b=3\/b=4->l.O b)(c:Int)(uh:-9223372036854775808<=c)(Au:c<=9223372036854775807) (hJ:∀J a n K V,gG J->atg l J a n K V->iM vQ J (G (f.at (y.put ((Q[i]?).bind (·.dst))<|Ã<|Â ⟨a,0,Á⟩)<|Ð Q jJ::L) qX)): iM vQ l (G (è À 15 #[Å É c] Ą)<|f.at y (Ð Q (i::jJ)::L)::qX):=by
 have hF:True:=trivial;rw[wF [_] 36 ι];simp only[ą,Đ,ę];conv in kJ _ _=>whnf
 apply lB;apply fN (n:=20) j.r.r;repeat w_go fu
 refine ï λ_ _=> ?_;refine wG (f:=30) (args:=#[Å É c,Å É 8]) U fS (by k_ne) j.r.r (λw=>by go_simp) (λw=>ô U ŧ U U #[]) λw₁ r=> ?_;have T:=j.C r;refine fx.fl.lL ?_ (CZ T (Ì p.fA r.r) fS (λv h=>by simp at h;rcases h with rfl|rfl<;>exact .iG _ _) (λh=>by cases h;rfl) (atd c uh Au) Î _ _);rintro s g1 ⟨u,hd,rfl⟩;obtain⟨z,hz,Iv,EM⟩:∃z,Jp c=z/\0<=z/\z<8:=⟨_,U,by unfold Jp;split<;>omega,by unfold Jp;split<;>omega⟩;rw[hz];have M:gG s:=jv.xT T u hd;have x:∀b,l.O b->s.O b/\s.w.heap[b]?=l.w.heap[b]?:=λb q=>⟨u.O b q,(u.r.I b<|È q).trans<|r.I b<|È q⟩;have B:l.w.heap.size<=s.w.heap.size:=Ì r.r u.r.r;rw[Ě];walk_nrm;refine fN (n:=20) M.r.r ?_;repeat w_go fu
 refine ï λ_ _=> ?_;have oY:É.wrap (1+z)=1+z:=Ļ _ ⟨Z,Z⟩;refine wG (f:=35) (args:=#[Å É<|1+z]) U fS (by k_ne) M.r.r (λw=>by go_simp) (λw=>ô U ζ U U #[]) λxe h=> ?_;have N:=M.C h;obtain⟨n,hn⟩:∃n:Nat,1+z=n:=⟨(1+z).toNat,Z⟩;rw[hn];refine fx.fl.lL ?_<|asE N.r N.q (Ì (Ì p.fA B) h.r) (n:=(n:Int)) Z Z Î _ _;rintro d g3 ⟨C,xE,a,K,rfl,mK,Nw,hab,V,ri,hnV,W⟩;have g:gG d:=jv.xT N C xE;have k:∀b,l.O b->d.O b/\d.w.heap[b]?=l.w.heap[b]?:=λb q=>⟨C.O b (x b q).1,(C.r.I b<|È (x b q).1).trans<|(h.I b<|È (x b q).1).trans (x b q).2⟩;have X:l.w.heap.size<=d.w.heap.size:=Ì B<|Ì h.r C.r.r;have atj:l.w.heap.size<=a:=Ì B<|Ì h.r hab;have atl:∀b,b=1\/b=2\/b=3\/b=4->b<l.w.heap.size:=λb q=>j.r.fA b<|È<|I b q;have hin:ox d a n [fR.je] K V:=⟨p.r (Ì p.fA X) λb q=>(k b<|I b q).2,λb q=>(k b<|I b q).1,mK,Nw,ri,λb q=>(W b q).1,hnV,Z,Z,λq=>by have:=atl a q;omega⟩;have hVn:∀b,V b->l.w.heap.size<=b:=λb q=>Ì B<|Ì h.r (W b q).2;rw[Ě];walk_nrm;apply fN (n:=60) g.r.r;repeat w_go fu
 refine ï λ_ _=> ?_;apply oa (v:=õ Ë) U fS (by k_ne) g.r.r g.q (λw _=>by go_simp) (λw _ e m=>by simp[go_sem,Ny]at m);walk_nrm;apply fN (n:=60) g.r.r;repeat w_go fu
 refine ï λ_ _=> ?_;refine .fD λY m=>⟨g.C m,U,?_⟩;have rX:=g.C m;have atm:=hin.M m;have P:∀b,l.O b->({d with w:=Y}:ff).O b/\Y.heap[b]?=l.w.heap[b]?:=λb q=>⟨(k b q).1,(m.I b<|È (k b q).1).trans (k b q).2⟩;refine wH (f:=17) (args:=#[Ã<|Â ⟨a,0,Á⟩,Ä ⟨#[98,48,58,97,59,98,48,58,104,59,117,48,59,98,49,58,97]⟩]) rX U fS (by k_ne) (λw=>by go_simp) (λw=>ô U Ł U U #[]) λacH D=> ?_;change iM vQ _ (G (è À 17 #[Ã<|Â ⟨a,0,Á⟩,Ä U8] Ą) _);refine acA (rX.C D) (atm.M D) A (λ_=>acE acr) λl6 E acI=> ?_;rw[atf]at acI|-;rw[ate];let⟨KQ,sl6,V6,acJ,hV6⟩:=acI;have ll:∀b,l.O b->b≠a:=λb q e=>by have:=j.r.fA b<|È q;omega
 have F:∀b,l.O b->l6.O b/\l6.w.heap[b]?=l.w.heap[b]?:=λb q=>by let⟨o,H⟩:=KQ b (P b q).1<|ll b q;exact⟨o,H.trans<|(D.I b<|È (P b q).1).trans (P b q).2⟩
 have hV7:∀b,V6 b->(b=1\/b=2\/b=3\/b=4)\/l.w.heap.size<=b:=λb q=>by
  rcases hV6 b q with z|z|z
  .exact Ï<|hVn b z
  .exact È z
  .exact Ï<|Ì X<|Ì (Ì m.r D.r) z
 walk_nrm;apply lB;apply fN (n:=60) E.r.r;repeat w_go fu
 refine ï λ_ _=> ?_;refine wG (f:=22) (args:=#[Ã<|Â ⟨a,0,Á⟩]) U fS (by k_ne) E.r.r (λw=>by go_simp) (λw=>ô U Ũ U U #[]) λrh o=> ?_;apply ath (E.C o) (acJ.M o);have S:=E.C o;have atn:=acJ.M o;walk_nrm;apply fN (n:=60) S.r.r;repeat w_go fu
 u_in fu hF
 refine Ŧ (t:=2) U U ι U ⟨by u_nil,?_⟩;refine ï λ_ _=> ?_;exact .fD λavF H=>⟨S.C H,U,hJ _ a n sl6 V6 (S.C H) ⟨atn.M H,λb q=>⟨(F b q).1,(H.I b<|È (F b q).1).trans<|(o.I b<|È (F b q).1).trans (F b q).2⟩,atj,hV7⟩⟩
end
def Nz{t:Tmp}(d:f.kind=Ą)(e:y.defers=[])(g:P.funcs[f.fn]?=Â s)(c:s.results=#[.tmp t])(h:P.inits.idxOf? f.fn=Á):stepG P Î (G {f.at y L with mode:=.returning} []) w=.ended (.done<|y.tmps.getD t ĸ) w:=by have i:=results_tmp c y.tmps P w;have j:=events_results_tmp (P:=P) (w:=w) c y.tmps;simp[G,stepG,unwind,doReturn,Frame.at,d,e,g,i,j,h,seen,GStep.after]
def ato{l:ff}(e:iM vQ l g)(a:gG l)(c:g.status=.running):sK vQ #[g] l.w Á #[]:=e a c (λ_=>False) 0 _ _ _ _ Á _ ⟨λx q=>q.elim,λ_ _ _ _ q=>q,Ø _⟩ (asG (P:=À) (J:=λ_ _=>True) (T:=.fD) U a.d a.q a.rd a.I a.M a.k (λb q=>a.r.fA b<|È q) c λ_ _=>trivial) a.d U
def acK(W:Í):ff:={O:=λb=>b<W.heap.size,I:=λ_=>False,r:=λ_=>False,N:=λ_=>False,K:=λ_=>False,d:=0,q:=False,w:=W}
def acM(W:Í):gG (acK W):= ⟨⟨λ_ _=>id,λ_ q=>q.elim,λ_ q=>q.elim (λz=>z.elim) λz=>z.elim,λ_ q=>q.elim id λz=>z.elim,λ_ q=>q.elim (λz=>z.elim) λz=>z.elim,λ_ q=>q.elim⟩,U,id,λ_=>id,λ_=>id,λ_=>id,λ_=>id⟩
structure nV(W w':Í):Prop where
 rL:∀b,b<W.heap.size->w'.heap[b]?=W.heap[b]?
 DU:W.heap.size<=w'.heap.size
def atp(g:mQ W):∀b,b=1\/b=2\/b=3\/b=4->b<W.heap.size:=λb q=>by let⟨c,a,h,_⟩:=g.C;have:=(á.1 h).1;omega
end Go.Proofs.Y.k9
