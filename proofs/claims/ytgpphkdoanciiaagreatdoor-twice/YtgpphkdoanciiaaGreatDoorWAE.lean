import Derived.Test.YtgpphkdoanciiaaGreatDoorWAD
import Derived.Lib.Bytealg
import Derived.WalkKit
import Derived.WalkSpells
import Derived.WalkLawsBesides
import Derived.Deep.Light
import Derived.WalkMore
import Derived.Deep.QuietTactic
import Derived.BigQuiet
import Derived.Conc.LeavingOf
import Derived.Conc.CrowdStepC
import Derived.Listen
import Derived.ProofKit
import Derived.Deep.Slices
set_option linter.all false
set_option maxRecDepth 1000000
set_option maxHeartbeats 8000000
open Go.Proofs.Tryz renaming prog->À,ntmps67->ñ,func67->ù,zeroCells292->þ,ntmps100->ÿ,func100->Ą,func38->Ě,results45->ĩ,underlying25->Ĳ,func36->ņ,results36->Ň,func17->ŋ,ntmps160->œ,ntmps147->Ŕ,ntmps38->ŗ,func160->Ś,func147->ŝ,ntmps95->Ş,ntmps36->ş,func95->Ŭ,func30->Ů,func22->ů,ntmps123->ſ,ntmps101->Δ,func123->Λ,func101->Τ,ntmps96->Χ,ntmps45->Ω,ntmps30->ζ,func96->ο,func45->π,func35->ρ,func37->ς,func15->υ,f38->aB
open Option renaming none->Á,some->Â,bind_eq_some_iff->ß,bind_eq_bind->ì,map->õ,map_eq_some_iff->ø,isSome_none->ü,map_some->ý,pure_def->ą,bind_some->ĵ,bind->ν
open Go.Value renaming pointer->Ã,string->Ä,int->Å,slice->Ç,tuple->ï,bool->û,cells->ł
open Go.Ending renaming returned->Æ
open Or renaming inl->È,inr->Ï
open Go.IntKind renaming i64->É,u64->å,wrap_u64->Ċ,wrap_i64->ť,u8->ű
open And renaming intro->Ê
open Bool renaming false->Ë,true->Î,false_eq_true->ð,eq_iff_iff->ğ
open Nat renaming le_trans->Ì,zero_le->Ü,le_refl->â,zero_add->Ĕ,lt_or_ge->ĥ,lt_of_lt_of_le->ħ,eq_zero_or_pos->ī,mul_le_mul->ŷ,add_assoc->ž
open Go renaming World->Í,Value->Ñ,Calls->Ò,Addr->Ā,bodyPost_ret->ă,Act->Ď,Goroutine->đ,TypeId->ĕ,Frame->ę,Oper->Ĥ,TypeInfo->į,maxLen->ĳ,undef->Ł,results->ō,execOp->ţ,runNT_fst->ũ,run_underlying->Ŵ,info_parts->ŵ,heap_alloc_new->ź,Tape->Ž,Trace->Ε,runNT->Η,mem_ready->Ι,wp_loop->Κ,wpList_plain->Μ,yielded->Ρ,cell_one_new->Υ,FuncId->η,Code->θ,storeCells->ψ,resolve->ah,builtin->ai,Program->ax,invoke->aE
open Go.Item renaming inRegion->Ð,code->aH
open List renaming eq_nil_of_length_eq_zero->Ó,getElem?_eq_getElem->Ô,getElem?_eq_some_iff->Ö,length_append->Ø,mem_map->Ý,mem_append->à,mem_of_getElem?->ç,setIfInBounds_toArray->ê,length_map->í,getElem?_map->ó,set_cons_zero->ā,set_cons_succ->Ă,replicate->Ĉ,length_cons->ĉ,getElem?_append_left->ċ,getD->ď,cons_append->ė,mem_cons_of_mem->ě,getElem?_of_mem->Ĝ,append_nil->ĝ,nil_append->Ġ,getElem_of_mem->Ģ,getElem?_append_right->Ħ,range->Ī,getElem?_eq_none_iff->Ĭ,extract_eq_take_drop->ĭ,mem_or_eq_of_mem_set->Į,take_add_one->İ,append_assoc->ı,all_eq_true->Ķ,length_nil->Ļ,set_append_right->ļ,getElem?_eq_none->Ľ,mem_of_mem_take->ń,length_pos_iff->ŏ,map_cons->Œ,mem_singleton->Ŗ,map_nil->ř,ext_getElem?->ś,size_toArray->Š,take_length->š,length_take->Ţ,map_toArray->Ť,mem_flatMap->Ŧ,mem_range->ż,length->ι
open Option.some renaming injEq->Õ,inj->az
open Array renaming getElem?_eq_some_iff->Ù,getElem?_eq_getElem->Û,getD_eq_getD_getElem?->é,getElem?_eq_none->ë,mem_toList_iff->ò,getElem_mem->Ć,length_toList->Č,size_setIfInBounds->Ĵ,mem_of_getElem?->ľ,getElem?_modify->Ŀ,getElem?_toList->ŀ,toList_extract->Ń,replicate->Ű
open Go.Lib renaming byteCells->Ú,indexByte->á,strCells->ĸ,hasPrefix->Β,TabIs->au
open Go.Obj renaming cells->Þ
open Go.Code renaming wp->ã,wp_mono->Ĺ,loop->Ŏ,skip->aC
open Go.World renaming cell?->ä,setCell->Γ,drew->ω,var?->ae
open Go.Region renaming ready->æ,wanted->Ę,Mode->ŉ
open Go.Frame renaming enter->è,finish_at->ġ
open ByteArray renaming size_append->î,getElem_eq_getElem_data->Ē,size_extract->ē,data_extract->ĺ,size->ų,data->Ŷ,size_data->χ,extract->aj,mk->aL
open Go.Conc.Goes renaming stop->ô
open Go.Ground renaming phase->ö,data->Đ
open Go.Conc renaming events_call_body->ú,crowd->ķ,goes_leave1->ŭ,Good->ε,goes_leave2->σ,listed->aI
open Go.CallKind renaming normal->ć
open Go.Region.linearise renaming go->č
open Go.Great renaming wpList_runTo->Ė
open Go.Builtin renaming append_->Ğ,firstCells->ŕ,lenOf->Α,append->φ,zeroCells->ar
open Go.ByteArray renaming toList_eq->ģ
open Go.RowKit.Below renaming heap_setCell->Ĩ,heap_alloc->ŧ
open Go.IntWalk renaming i64_in->Ņ,i64_left->Ũ
open Go.Made renaming word->Ō,reckonStruct->Ŝ,infoAt->Ū,mostCells->Ÿ,reckon->ξ
open Int renaming toNat_of_nonneg->Ő,le_refl->ū
open Go.Operand renaming tmp->ő
open Go.Result renaming andThen_ok->Ř,andThen->Ź
variable{i n j b k m J j9 j7 j6:Nat}{w u W jX:Í}{v x z jQ:Ñ}{g:đ}{a p:Ā}{h c:Int}{e t T:ĕ}{d q:Array Ñ}{P:ax}{y:Ď}{B:ByteArray}{X:Nat->Prop}{O:Option Ā}{l:List Ñ}{yQ:Bool}{K H:Ď->Í->Prop}{o:Ĥ}{D:Nat->Nat}{E:Array đ}{L:List Go.Item}{jJ:List Nat}{qX:List ę}{qJ:Ε}{zX:Go.Loc->Prop}{zQ:List Int}{zJ:į}{xQ:Ž}{xJ:Nat×Nat}{vX:List ByteArray}{vQ:Ñ->Í->Prop}{vJ:Go.Exit->Ď->Í->Prop}{Q:Array Ĥ}{f:ę}{F:η}{s:Go.Func}
namespace Go.Proofs.Y.gR
open Go Go.Proofs Go.RowKit Go.Proofs.Y.Lift
def DK:θ->Option θ
 |Ŏ c=>Â c
 |.seq a b=>match DK b with
  |some c=>Â c
  |none=>DK a
 |.block _ c=>DK c
 |.scope c=>DK c
 |.cond _ a b=>match DK b with
  |some c=>Â c
  |none=>DK a
 |_=>Á
noncomputable def Ny:θ:=(aB.body.bind ko).getD aC
noncomputable def Nz:θ:=(aB.body.bind DK).getD aC
def QE(k:Nat)(X:Ď->Í->Prop):Exit->Ď->Í->Prop
 |.exit i,a,w=>i=k/\X a w
 |_,_,_=>False
def n7(a:ByteArray)(b:List ByteArray):List UInt8:=b.flatMap λy=>a.data.toList++y.data.toList
def aaz(a:ByteArray):List ByteArray->List UInt8
 |[]=>[]
 |x::r=>x.data.toList++n7 a r
def iP(xs:List ByteArray):Nat:=(xs.map ų).sum
def T5(a b:List ByteArray):iP (a++b)=iP a+iP b:=by simp[iP]
def aaA(a:List ByteArray)(j:Nat):iP (a.take j)<=iP a:=by have h:=T5 (a.take j)<|a.drop j;rw[List.take_append_drop]at h;omega
def NA(a:ByteArray)(c:a.size=1):∀b:List ByteArray,(n7 a b).length=iP b+b.length
 |[]=>rfl
 |x::r=>by
  have e:n7 a (x::r)=(a.data.toList++x.data.toList)++n7 a r:=U;have d:a.data.toList.length=1:=by simpa using c
  have f:x.data.toList.length=x.size:=fj
  have g:iP (x::r)=x.size+iP r:=by simp[iP]
  rw[e,Ø,Ø,NA a c r,d,f,g,ĉ];omega
def F7(a:Option Ā)(n b:Nat)(c:ByteArray)(m i:Int)(u:Nat->Ñ):Ď:=⟨#[Ç a n b,Ä c,u 2,u 3,u 4,Å É m,u 6,u 7,u 8,u 9,u 10,u 11,u 12,u 13,u 14,u 15,u 16,u 17,u 18,u 19,u 20,u 21,u 22,u 23,u 24,u 25,u 26,u 27,u 28,u 29,u 30,u 31,u 32,u 33,u 34,u 35,u 36,u 37,u 38,Ç a n b,Å É n,Å É i,u 42,u 43,u 44,u 45,u 46,u 47,u 48,u 49,u 50,u 51,u 52,u 53,u 54,u 55,u 56,u 57,u 58,u 59,u 60,u 61,u 62,u 63,u 64,u 65,u 66,u 67,u 68,u 69,u 70,u 71,u 72,u 73,u 74],[]⟩
def F8(b:Option Ā)(n c:Nat)(d:ByteArray)(m i:Int)(a:Ď):Prop:=∃u,a=F7 b n c d m i u
def pS(a:Option Ā)(n c b:Nat)(d:ByteArray)(i:Int)(u:Nat->Ñ):Ď:=⟨#[u 0,Ä d,u 2,u 3,u 4,u 5,u 6,u 7,Ã<|Â ⟨b,0,Á⟩,u 9,u 10,u 11,u 12,u 13,u 14,u 15,u 16,u 17,u 18,u 19,u 20,u 21,u 22,u 23,u 24,u 25,u 26,u 27,u 28,u 29,u 30,u 31,u 32,u 33,u 34,u 35,u 36,u 37,u 38,u 39,u 40,u 41,u 42,u 43,u 44,u 45,u 46,u 47,u 48,u 49,u 50,u 51,u 52,u 53,u 54,u 55,u 56,u 57,u 58,u 59,u 60,u 61,u 62,Ç a n c,Å É n,Å É i,u 66,u 67,u 68,u 69,u 70,u 71,u 72,u 73,u 74],[]⟩
def F9(c:Option Ā)(n d b:Nat)(e:ByteArray)(i:Int)(a:Ď):Prop:=∃u,a=pS c n d b e i u
section
variable{X:Ď->Í->Prop}{sep:ByteArray}{xs:List ByteArray}
def aow(u:Nat->Ñ)(m:Int)(b:∀a,F8 O n i sep m n a->X a w): ã À Ny (Exit.then K<|QE 1 X) (F7 O n i sep m n u) w:=by
 unfold F7;conv=>arg 2;whnf
 go_wp2_with fail
 exact⟨U,b _ (gi _)⟩
def aox(u:Nat->Ñ)(m j:Nat)(f:j<n)(g:n<=1000000)(b c:Nat)(e:O=Â ⟨b,c,Á⟩)(x:ByteArray)(h:w.cell? ⟨b,c+j,Á⟩=Â (Ä x))(k:m+x.size<=140737488355328) (d:∀a,F8 O n i sep ((m+x.size:Nat):Int) ((j+1:Nat):Int) a->K a w): ã À Ny (Exit.then K<|QE 1 X) (F7 O n i sep m j u) w:=by
 unfold F7;conv=>arg 2;whnf
 subst e;have H:=ff d;clear d;go_wp2_with fail;exact H.out _ (gi _)
def J1(O:Option Ā)(n i:Nat)(sep:ByteArray)(b:Nat)(xs:List ByteArray)(u:Í)(a:Ď)(w:Í):Prop:=
 ∃j:Nat,F8 O n i sep ((b+iP (xs.take j):Nat):Int) j a/\j<=n/\w=u
def J1E(O:Option Ā)(n i:Nat)(sep:ByteArray)(b:Nat)(xs:List ByteArray)(u:Í)(a:Ď)(w:Í):Prop:=
 F8 O n i sep ((b+iP xs:Nat):Int) n a/\w=u
def NB(n:Nat)(a:Ď)(_:Í):Nat:=match a.tmps.getD 41 Ł with
 |Å _ i=>n-i.toNat
 |_=>0
def aaB(b:F8 O n i sep h j y):NB n y w=n-j:=by obtain⟨u,rfl⟩:=b;show n-(j:Int).toNat=_;simp
def aoy(d:n=xs.length)(g:n<=1000000)(h:nG O (ji xs) u)(t:j+iP xs<=140737488355328)(a:Ď)(w:Í)(k:J1 O n i sep j xs u a w): ã À Ny (Exit.then (λb c=>J1 O n i sep j xs u b c/\NB n b c<NB n a w)<|QE 1<|J1E O n i sep j xs u) a w:=by
 obtain⟨b,e,v,rfl⟩:=k;rw[aaB e];obtain⟨c,rfl⟩:=e;by_cases l:b=n
 .subst l;refine aow c _ λa q=>⟨?_,U⟩;rw[d,š]at q;rwa[d]
 .obtain⟨x,f⟩:∃x,xs[b]?=Â x:=⟨_,Ô Z⟩;let⟨m,o,p,r⟩:=h b (Ä x) (by simp[ji,f]);have s:iP (xs.take<|b+1)=iP (xs.take b)+x.size:=by
   rw[İ,f,T5];simp[iP]
  have y:=aaA xs<|b+1;refine aox c _ b Z g m o p x r Z λa q=>⟨⟨b+1,?_,Z,U⟩,by rw[aaB q];omega⟩;rwa[s,<-ž]
def aoz(u:Nat->Ñ)(c:∀a,F9 O n i b sep n a->X a w): ã À Nz (Exit.then K<|QE 3 X) (pS O n i b sep n u) w:=by
 unfold pS;conv=>arg 2;whnf
 go_wp2_with fail
 exact⟨U,c _ (gi _)⟩
def aoA(c:Nat->Ñ)(j:Nat)(y:j<n)(z:n<=1000000)(d f:Nat)(o:O=Â ⟨d,f,Á⟩)(x:ByteArray)(p:u.cell? ⟨d,f+j,Á⟩=Â (Ä x))(l:List UInt8)(g:oS u b (Ú l) w)(q:sep.size=1)(B:l.length+1+x.size<=140737488355328) (r:∀a h,F9 O n i b sep ((j+1:Nat):Int) a->oS u b (Ú<|l++(sep.data.toList++x.data.toList)) h->K a h): ã À Nz (Exit.then K<|QE 3 X) (pS O n i b sep j c) w:=by
 unfold pS;conv=>arg 2;whnf
 subst o;have C:=g.r.r p id;have k:=Lib.byteCells_length l;have s:(Ú l++ĸ sep).length=l.length+1:=by rw[Ø,k,Lib.strCells_length,q]
 have E:Ú l++ĸ sep++ĸ x=Ú (l++(sep.data.toList++x.data.toList)):=by simp[Ú,ĸ]
 have H:=ff<|Ê g<|Ê r<|Ê k<|Ê s E;go_wp2_with (first
  |(go_at_call 55;refine(T4 t.out x<|by rw[H.out.2.2.2.1];omega).mono ?_;rintro e D ⟨rfl,m⟩;have v:=ff m;clear m)
  |(go_at_call 55;refine(T4 H.out.1 sep (by rw[H.out.2.2.1];omega)).mono ?_;rintro e D ⟨rfl,m⟩;have t:=ff m;clear m))
 apply H.out.2.1 _ _ (gi _);rw[<-H.out.2.2.2.2];exact v.out
def J2(O:Option Ā)(n i b:Nat)(sep:ByteArray)(c:List UInt8)(xs:List ByteArray)(u:Í)(a:Ď)(w:Í):Prop:=
 ∃j:Nat,F9 O n i b sep j a/\j<=n/\oS u b (Ú<|c++n7 sep (xs.take j)) w
def J2E(O:Option Ā)(n i b:Nat)(sep:ByteArray)(c:List UInt8)(xs:List ByteArray)(u:Í)(a:Ď)(w:Í):Prop:=
 F9 O n i b sep n a/\oS u b (Ú<|c++n7 sep xs) w
def NC(n:Nat)(a:Ď)(_:Í):Nat:=match a.tmps.getD 65 Ł with
 |Å _ i=>n-i.toNat
 |_=>0
def aaC(c:F9 O n i b sep j y):NC n y w=n-j:=by obtain⟨u,rfl⟩:=c;show n-(j:Int).toNat=_;simp
def aoB{d:List UInt8}(l:n=xs.length)(m:n<=1000000)(h:sep.size=1)(o:nG O (ji xs) u)(D:d.length+iP xs+n<=140737488355328)(a:Ď)(w:Í)(p:J2 O n i b sep d xs u a w): ã À Nz (Exit.then (λc e=>J2 O n i b sep d xs u c e/\NC n c e<NC n a w)<|QE 3<|J2E O n i b sep d xs u) a w:=by
 let⟨j,k,E,f⟩:=p;rw[aaC k];obtain⟨c,rfl⟩:=k;by_cases r:j=n
 .subst r;refine aoz c λa q=>⟨q,?_⟩;rwa[l,š]at f
 .obtain⟨x,g⟩:∃x,xs[j]?=Â x:=⟨_,Ô Z⟩;let⟨s,t,v,y⟩:=o j (Ä x) (by simp[ji,g]);have F:iP (xs.take<|j+1)=iP (xs.take j)+x.size:=by
   rw[İ,g,T5];simp[iP]
  have G:=aaA xs<|j+1;have z:(d++n7 sep (xs.take j)).length=d.length+iP (xs.take j)+j:=by rw[Ø,NA sep h,Ţ];omega
  have B:n7 sep (xs.take<|j+1)=n7 sep (xs.take j)++(sep.data.toList++x.data.toList):=by rw[İ,g];simp[n7]
  refine aoA c j Z m s t v x y _ f h (by rw[z];omega) λa e q C=>⟨⟨j+1,q,Z,?_⟩,by rw[aaC q];omega⟩;rwa[B,<-ı]
end
section
variable{sep:ByteArray}{xs:List ByteArray}
def kC(sep:ByteArray)(xs:List ByteArray):ByteArray:=⟨(aaz sep xs).toArray⟩
def aoC:Ò À 38 #[Ç O 0 i,Ä sep] w λe a=>e=Æ (Ä ⟨#[]⟩)/\fc (λ_=>False) w a:=by go_enter Ě,ŗ;go_wp2_with fail;go_ret;exact⟨U,fc.fT _ _⟩
def aoD(a b:Nat)(x:ByteArray)(d:w.cell? ⟨a,b,Á⟩=Â (Ä x)):Ò À 38 #[Ç (Â ⟨a,b,Á⟩) 1 i,Ä sep] w λe c=>e=Æ (Ä x)/\fc (λ_=>False) w c:=by go_enter Ě,ŗ;go_wp2_with fail;go_ret;exact⟨U,fc.fT _ _⟩
def aoE(k:Nat)(K:1<=k)(L:k<1000000)(d c:Nat)(M:k+1<=i)(l:sep.size=1)(x:ByteArray)(g:k=xs.length)(f:nG (Â ⟨d,c,Á⟩) (ji<|x::xs) w)(C:iP (x::xs)+(k+1)<=140737488355328): Ò À 38 #[Ç (Â ⟨d,c,Á⟩) (k+1) i,Ä sep] w λe q=>e=Æ (Ä<|kC sep<|x::xs)/\fc (λ_=>False) w q:=by
 have D:iP (x::xs)=x.size+iP xs:=by simp[iP]
 have m:∀a,F8 (Â ⟨d,c,Á⟩) (k+1) i sep ((k+iP ((x::xs).take 0):Nat):Int) (0:Nat) a->ã À (Ŏ Ny) (QE 1<|J1E (Â ⟨d,c,Á⟩) (k+1) i sep k (x::xs) w) a w:=λa h=>
  Κ (J1 (Â ⟨d,c,Á⟩) (k+1) i sep k (x::xs) w) (NB<|k+1) ⟨0,h,Ü _,U⟩<|aoy (by simp[g]) Z f Z
 have n:nG (Â ⟨d,c+1,Á⟩) (ji xs) w:=λj u E=>by let⟨b,o,q,B⟩:=f (j+1) u (by simpa[ji]using E);cases q;exact⟨_,_,U,by rwa[show c+1+j=c+(j+1) by omega]⟩
 have p:∀a W,F9 (Â ⟨d,c+1,Á⟩) k (i-1) w.heap.size sep (0:Nat) a->oS w w.heap.size (Ú<|x.data.toList++n7 sep (xs.take 0)) W->ã À (Ŏ Nz) (QE 3<|J2E (Â ⟨d,c+1,Á⟩) k (i-1) w.heap.size sep x.data.toList xs w) a W:=λa W h o=>
  Κ (J2 (Â ⟨d,c+1,Á⟩) k (i-1) w.heap.size sep x.data.toList xs w) (NC k) ⟨0,h,Ü _,o⟩<|aoB g Z l n (by simp only[Č];have:x.data.size=x.size:=rfl;omega)
 let⟨_,_,F,r⟩:=f 0 (Ä x) U;cases F;have s:w.cell? ⟨d,c,Á⟩=Â (Ä x):=r;have t:x.data.toList++n7 sep xs≠[]:=by intro q;have:=congrArg ι q;rw[Ø,NA sep l,Ļ]at this;omega
 have N:(1:Int)<9223372036854775807/(k:Int):=by rw[Int.lt_iff_add_one_le,Int.le_ediv_iff_mul_le Z];omega
 have y:0<k+iP (x::xs)/\k+iP (x::xs)<=281474976710656:=Z
 have z:(Ú []).length+x.size<=140737488355328:=by simp[Ú];omega
 have H:=ff<|Ê m<|Ê p<|Ê y<|Ê z<|Ê t s;clear m p y z t r s f n g C D;generalize G:iP (x::xs)=S at*;go_enter Ě,ŗ;go_wp2_with fail;refine Ĺ ?_ (H.out.1 _ (gi _));rintro(_|_|_|_|_|_) a v hq;all_goals first|exact absurd hq id|skip
 obtain⟨rfl,b,rfl⟩:=hq;rw[G]at b;obtain⟨u,rfl⟩:=b;unfold F7;go_wp2_with (first
  |(go_at_call 54;refine(aou ⟨â _,fc.gE _ _ _ _,fh.N v [Ã Á,Ç Á 0 0] 109⟩ (k+S) H.out.2.2.1.1 H.out.2.2.1.2).mono ?_;rintro e I ⟨rfl,q⟩;have J:=q.r.r H.out.2.2.2.2.2 id;have B:=ff q;clear q)
  |(go_at_call 55;refine(T4 B.out x H.out.2.2.2.1).mono ?_;rintro e q ⟨rfl,B⟩;have I:=ff B;clear B))
 have J:oS v v.heap.size (Ú<|x.data.toList++n7 sep (xs.take 0)) q:=by have:=I.out;show oS v v.heap.size (Ú<|x.data.toList++[]) q;rw[ĝ];exact this
 refine Ĺ ?_ (H.out.2.1 _ _ (gi _) J);rintro(_|_|_|_|_|_) a w3 hq;all_goals first|exact absurd hq id|skip
 obtain⟨rfl,b,o⟩:=hq;obtain⟨v,rfl⟩:=b;unfold pS;go_wp2_with (go_at_call 56;refine(aov (ff o).out H.out.2.2.2.2.1).mono ?_;rintro e O ⟨rfl,B⟩;have I:=ff B;clear B);go_ret;exact⟨U,I.out⟩
def T7(a:n=xs.length)(f:n<=1000000)(g:n<=i)(h:sep.size=1)(b:nG O (ji xs) w)(j:iP xs+n<=140737488355328): Ò À 38 #[Ç O n i,Ä sep] w λe c=>e=Æ (Ä<|kC sep xs)/\fc (λ_=>False) w c:=by
 cases xs with
 |nil=>subst a;exact aoC
 |cons x r=>
  let⟨c,d,k,l⟩:=b 0 (Ä x) U;subst k;cases r with
  |nil=>
   subst a;have e:kC sep [x]=x:=by show aL ((x.data.toList++[]).toArray)=x;rw[ĝ]
   rw[e];exact aoD c d x l
  |cons y r=>
   subst a;exact aoE (r.length+1) Z (by simp at f;omega) c d g h x U b j
def aoF(a:n=xs.length)(c:n<=1000000)(d:n<=i)(h:nG O (ji xs) w)(f:iP xs+n<=140737488355328): Ò À 123 #[Ç O n i] w λe b=>e=Æ (Ä<|if xs=[]then⟨#[45]⟩else kC ⟨#[44]⟩ xs)/\fc (λ_=>False) w b:=by
 have H:=ff<|T7 (sep:=⟨#[44]⟩) a c d U h f;by_cases b:xs=[]
 .subst b;have e:=a;subst e;rw[if_pos U];clear a f H c d;go_enter Λ,ſ;go_wp2_with fail;go_ret;exact⟨U,fc.fT _ _⟩
 .rw[if_neg b];have k:0<n:=by rw[a];exact ŏ.2 b
  have l:((n:Int)==0)=Ë:=by simp;omega
  clear a;generalize kC ⟨#[44]⟩ xs=z at*;go_enter Λ,ſ;go_wp2_with (go_at_call 38;apply H.out.mono;rintro e m ⟨rfl,g⟩;have j:=ff g;clear g);go_ret;exact⟨U,j.out⟩
end
def DL{M:Nat}:∀(a:List ByteArray),(∀z∈a,z.size<=M)->iP a<=M*a.length
 |[],_=>Ü _
 |x::r,h=>by
  have c:=DL r λz b=>h z<|ě _ b;have d:=h x fj;have e:iP (x::r)=x.size+iP r:=by simp[iP]
  rw[e,ĉ,Nat.mul_add];omega
def ND{e:Nat×Int}(h:fX e.2):(oR e).size<=21:=by unfold oR;rw[î];have:=xY e.1;have:=ri e.2.toNat (by have:=h.1;have:=h.2;omega);omega
def aaD{e:Int×Bool}(a:0<=e.1)(h:e.1<=400):(xV e).size<=41:=by unfold xV;rw[î,î];have:=ri e.1.toNat Z;have:=ri e.2.toNat (by cases e.2<;>decide);have:ų ⟨#[58]⟩=1:=rfl;omega
section
variable{b:List ByteArray}
def aaE{ty:ĕ}{base:Nat}(b:P.underlying t=Â (.slice e))(d:P.info? e=Â zJ)(h:w.ownsRow base e j v n l)(a:Option Ā)(c:Nat): (Ğ #[t,t] ty #[v,Ç a 0 c]).run P w=.ok v w:=by
 have f:(ŕ zJ.size 0<|Ç a 0 c).run P w=.ok #[] w:=by cases a<;>simp[ŕ,loadCells,loadCellsFrom]
 rcases h.2 with⟨rfl,rfl⟩|⟨g,m,o,rfl,_,_,k,_⟩
 .simp[Ğ,Ŵ b,sizeOf,typeInfo,d,Α,f,ψ]
 .simp[Ğ,Ŵ b,sizeOf,typeInfo,d,Α,f,k,ψ]
def aoG{r:Array Ĥ}{t:List Ĥ}(l:o.guard=Á)(s c:Operand) (m:o.op=.call {callee:=.builtin φ,args:=#[s,c],argTypes:=#[25,25]}) (d:ie u v vX w) (n:y.eval s=v) {base:Nat} (B:w.ownsRow base 9 1 x b.length (ji b)) (e:y.eval c=x) (I:vX.length+b.length<=1000000) (h:∀j k,ie u j (vX++b) k->wpList À r vJ t (y.put o.dst j) k):wpList À r vJ (o::t) y w:=by
 let⟨J,p,D,E,F⟩:=ŵ zY;rcases B.2 with⟨f,G⟩|⟨g,H,L,f,_⟩
 .have z:=Ó G;subst z;rw[f]at e;refine Μ l λK i=> ?_;have q:=aaE (ty:=o.type) Ĳ p d.fq Á 0;unfold Oper.wp ţ;simp only[m,ah,aE,ai,Sem.run_bind,Sem.run_pure,Ř,Ť,Œ,ř,n,e,q];exact i _ _<|h v w<|by rwa[ĝ]
 .by_cases C:b=[]
  .subst C;rw[f]at e;refine Μ l λK i=> ?_;have q:=aaE (ty:=o.type) Ĳ p d.fq (Â ⟨g,0,Á⟩) H;unfold Oper.wp ţ;simp only[m,ah,aE,ai,Sem.run_bind,Sem.run_pure,Ř,Ť,Œ,ř,n,e,q,Ļ];exact i _ _<|h v w<|by rwa[ĝ]
  .have K:=ŏ.2 C;refine Df l s c 25 m Ĳ p D E F U n d.fq ⟨g,0,Á⟩ (ji b) (e.trans f) K (by simp[ji]) (B.cells<|by rw[f];rfl) (λi q=>by unfold ji at q;obtain⟨z,_,rfl⟩:=Ý.1 q;rfl) (by unfold ĳ;omega) Z d.r.M ?_;intro j k z;refine h j k ⟨?_,d.r.C z.r λi M q=> ?_⟩
   .have:=z.fq;rwa[show ji vX++ji b=ji (vX++b) by simp[ji],show vX.length+b.length=(vX++b).length by simp]at this
   .have:=(d.fq.lt i q).1;omega
end
def ie.I(h:ie u (Ç O n i) vX w):nG O (ji vX) w/\n=vX.length/\n<=i:=by
 rcases h.fq.2 with⟨b,d⟩|⟨g,f,k,b,_,_,d,_⟩
 .cases b;refine⟨λj x e=> ?_,d.symm,â _⟩;rw[Ó d]at e;cases e
 .have e:n=vX.length:=by injection b
  subst e;injection b with _ _ h4;exact⟨nG.r h.fq,U,by rwa[h4]⟩
def T8(r:Dk):ByteArray:=kC ⟨#[44]⟩<|[gH r.C.toNat,gH r.I.toNat,gH r.r.toNat]++r.M.map oR
def aoH(x y:Nat)(g k:Int)(b c:Nat)(a:Bool)(f:List (Nat×Int))(L:b<18446744073709551616)(M:c<18446744073709551616)(S:f.length<=400000)(V:nF f)(W:lI w) (T:Ò À 158 #[Ã<|Â ⟨i,0,Á⟩,Å É x,Å É y,Å å g,Å å k] w λe j=>∃B,e=Æ (ï #[.agg #[Å å b,û a,Å å c],B])/\j.ownsRow 0 257 2 B f.length (ki f)/\fc (λ_=>False) w j): Ò À 119 #[Ã<|Â ⟨i,0,Á⟩,Å É x,Å É y,Å å g,Å å k] w λe j=>e=Æ (Ä<|kC ⟨#[44]⟩<|[gH a.toNat,gH c,gH b]++f.map oR)/\fc (λ_=>False) w j:=by
 have N:a.toNat<18446744073709551616:=by cases a<;>decide
 have H:=ff<|Ê T<|Ê W V;go_enter Tryz.func119,Tryz.ntmps119;go_wp2_with (go_at_call 158;apply H.out.1.mono;rintro e l ⟨B,rfl,q,d⟩;obtain⟨v,Q,rfl⟩:=jh q;have C:=ff<|Ê d q;clear d q);change ã À _ _ _ (l.alloc<|Þ #[Å å b,û a,Å å c] 252);have D:=(fc.gE (λ_=>False) l #[Å å b,û a,Å å c] 252).fg<|fc.fR _ _;have E:=(H.out.2.1.r C.out.1).r D;have o:=(fh.N l [Å å b,û a,Å å c] 252).I (fc.fR (λ_=>False) _) id;have O:=C.out.1.fg D;have X:=ic C.out.2 D λ_ _=>id;refine mf (λj=>j.cell? ⟨l.heap.size,0,Á⟩=Â (Å å b)/\j.cell? ⟨l.heap.size,1,Á⟩=Â (û a)/\j.cell? ⟨l.heap.size,2,Á⟩=Â (Å å c)) [] ft ?_;have h:=ff<|Ê (o.r 0 _ rfl)<|Ê (o.r 1 _ rfl)<|o.r 2 _ rfl;generalize l.heap.size=ob at*;generalize ω (l.alloc<|Þ #[Å å b,û a,Å å c] 252)=w5 at*;apply tk 0 h.out;apply tk 1 h.out;apply tk 2 h.out;apply tk 5 h.out;apply tk 6 h.out;apply tk 8 h.out;apply tk 9 h.out;apply tk 10 h.out;apply gD 3;intro K d;go_simp;go_at_call 159;refine(I8 _ _).mono ?_;rintro e Y ⟨rfl,qT⟩;subst Y;rw[aar];apply d.out _ _ λ_=>h.out;apply gD 4;intro K d;go_simp;go_at_call 118;refine(xU a.toNat N _ E).mono ?_;rintro e wa ⟨rfl,p⟩;have r:=o.I p id;have P:=E.r p;apply d.out _ _ λ_=>⟨r.r 0 _ U,r.r 1 _ U,r.r 2 _ U⟩;apply gD 7;intro K d;go_simp;go_at_call 118;refine(xU c M _ P).mono ?_;rintro e wb ⟨rfl,s⟩;have t:=r.I s id;have Pb:=P.r s;apply d.out _ _ λ_=>⟨t.r 0 _ U,t.r 1 _ U,t.r 2 _ U⟩;apply gD 11;intro K d;go_simp;go_at_call 118;refine(xU b L _ Pb).mono ?_;rintro e m ⟨rfl,F⟩;have u:=t.I F id;have n:=u.I (fc.gE (λ_=>False) m #[Ä<|gH a.toNat,Ä<|gH c,Ä<|gH b] 9) id;apply d.out _ _ λ_=>⟨u.r 0 _ U,u.r 1 _ U,u.r 2 _ U⟩;apply gD 12;intro K d;go_simp;apply d.out _ _ λ_=>⟨n.r 0 _ U,n.r 1 _ U,n.r 2 _ U⟩;apply gD 13;intro K d;go_simp;apply d.out _ _ λ_=>⟨n.r 0 _ U,n.r 1 _ U,n.r 2 _ U⟩;refine lS ft ?_ _;have G:fc (λ_=>False) w5 (m.alloc<|Þ #[Ä<|gH a.toNat,Ä<|gH c,Ä<|gH b] 9):=((p.fg s).fg F).fg<|fc.gE _ _ _ _;have T6:ie w (Ç (Â ⟨m.heap.size,0,Á⟩) 3 3) [gH a.toNat,gH c,gH b] (m.alloc<|Þ #[Ä<|gH a.toNat,Ä<|gH c,Ä<|gH b] 9):=⟨World.ownsRow_lit m #[Ä<|gH a.toNat,Ä<|gH c,Ä<|gH b] 3 (Ì O.M ((p.fg s).fg F).M) (by unfold ĳ;omega) U,O.fg G⟩;have L6:=ic X G λ_ _=>id;have P6:=E.r G;have I:=ff<|Ê T6<|Ê L6 P6;generalize m.alloc (Þ #[Ä<|gH a.toNat,Ä<|gH c,Ä<|gH b] 9)=w6 at*;generalize m.heap.size=tb at*;have jH:∀z∈[gH a.toNat,gH c,gH b]++f.map oR,z.size<=21:=λz hz=>by
  rcases à.1 hz with q|q
  .have h1:=ri a.toNat N;have h2:=ri c M;have v:=ri b L;simp at q;rcases q with rfl|rfl|rfl<;>omega
  .obtain⟨e,v,rfl⟩:=Ý.1 q;exact ND (H.out.2.2 e v).2
 have sQ:=DL _ jH;have hlen:([gH a.toNat,gH c,gH b]++f.map oR).length=3+f.length:=by simp;omega
 have J:=ff<|Ê sQ hlen;go_wp2_with (first
  |(go_at_call 124;refine(aaq U S H.out.2.2 I.out.2.2<|nG.r I.out.2.1).mono ?_;rintro e v ⟨lt,rfl,q⟩;obtain⟨ta,tc,rfl⟩:=jh q.fq;rw[í]at q;have Q:=ff q;clear q)
  |(at_builtin;refine aoG U _ _ U (I.out.1.fL Q.out.r) U Q.out.fq U (by simp;omega) ?_;intro cv w8 v;obtain⟨ca,cc,rfl⟩:=jh v.fq;generalize([gH a.toNat,gH c,gH b]++f.map oR).length=cn at v|-;have q:=ff v;clear v)
  |(go_at_call 38;refine(T7 q.out.I.2.1 (by have:=q.out.I.2.1;rw[this,J.out.2];omega) q.out.I.2.2 U q.out.I.1 (by have:=q.out.I.2.1;have h1:=J.out.1;have h2:=J.out.2;omega)).mono ?_;rintro e w9 ⟨rfl,v⟩;have Q:=ff v;clear v))
 go_ret;exact⟨U,q.out.r.fg Q.out⟩
def aoI{s:St}(v:mh i s h w)(b:gI s)(z:iK w)(B:lI w)(x y:Nat)(g k:Int)(c:x<8)(d:y<8)(f:0<=g)(j:g<=100000)(l:fX k): Ò À 119 #[Ã<|Â ⟨i,0,Á⟩,Å É x,Å É y,Å å g,Å å k] w λe q=>e=Æ (Ä<|T8<|gk s [] x y g k)/\fc (λ_=>False) w q:=by have T:=aan v b z x y g k c d f j l _ U;have e:=M4 s [] x y g k b c d l f j (by simp;omega);have m:=TO s [] x y g k b c d l f j (by simp;omega) (λ_ q=>by cases q);obtain⟨q,o,a,t,p,C⟩:∃q o a t p,gk s [] x y g k=⟨q,o,a,t,p⟩:=⟨_,_,_,_,_,U⟩;rw[C]at T e m|-;have D:=e.C;have E:=e.r;have r:=e.M;have u:=e.I;simp only at D E r u m T;obtain⟨F,rfl⟩:∃n:Nat,q=n:=⟨q.toNat,Z⟩;obtain⟨G,rfl⟩:∃n:Nat,a=n:=⟨a.toNat,by have:=r.1;omega⟩;exact aoH x y g k F G o p Z (by have:=r.2;omega) (by simp at u;omega) m B T
def qx(w:Í):Prop:=w.cell? ⟨4,15,Á⟩=Â (Å ű 4)
def qx.r(h:qx w)(k:fc (λ_=>False) w u):qx u:=k.r h id
def aoJ(c:qx w):Ò À 207 #[Å å 16] w λe a=>e=Æ (Å É 4)/\a=w:=by
 unfold qx at c;have b:å.wrap (bits BinOp.and å 16 (å.wrap<|-16)*285870213051353865)/288230376151711744=15:=A
 go_enter Tryz.func207,Tryz.ntmps207;go_wp2;go_ret;exact⟨U,U⟩
def tz(c:qx w):Ò À 201 #[Å å 16] w λe a=>e=Æ (Å É 4)/\a=w:=by go_enter Tryz.func201,Tryz.ntmps201;go_wp2_with (go_at_call 207;refine(aoJ c).mono ?_;rintro e a ⟨rfl,b⟩;subst a);go_ret;exact⟨U,U⟩
def aoK:Ò À 200 #[Å É 16] w λe a=>e=Æ (û Î)/\a=w:=by
 have b:bits BinOp.and É 16 15=0:=A
 go_enter Tryz.func200,Tryz.ntmps200;go_wp2;go_ret;exact⟨by simp[b],U⟩
def oT(d:Nat):UInt8:=if h:d<36 then(⟨#[48,49,50,51,52,53,54,55,56,57,97,98,99,100,101,102,103,104,105,106,107,108,109,110,111,112,113,114,115,116,117,118,119,120,121,122]⟩:ByteArray)[d]'h else 0
def se:Nat->Nat->List UInt8->List UInt8
 |0,_,acc=>acc
 |k+1,n,acc=>if n<16 then oT n::acc else se k (n/16) (oT (n%16)::acc)
def aaF:∀k n a,(se k n a).length<=k+a.length
 |0,_,a=>by simp[se]
 |k+1,n,a=>by
  unfold se;split
  .simp;omega
  .have:=aaF k (n/16)<|oT (n%16)::a;simp at this;omega
noncomputable def NG:θ:=(Tryz.f190.body.bind ko).getD aC
def Gb(a:Nat)(n i:Int)(u:Nat->Ñ):Ď:=⟨#[u 0,Å å n,Å É 16,û Ë,û Ë,u 5,u 6,u 7,u 8,u 9,Ç Á 0 0,u 11,Ã<|Â ⟨a,0,Á⟩,Å É i,Å å 4,Å å 16,Å å 15,u 17,u 18,u 19,u 20,u 21,u 22,u 23,u 24,u 25,u 26,u 27,u 28,u 29,u 30,u 31,u 32,u 33,u 34,u 35,u 36,u 37,u 38,u 39,u 40,u 41,u 42,u 43,u 44,u 45,u 46,u 47,u 48,u 49,u 50,u 51,u 52,u 53,u 54,u 55,u 56,u 57,u 58,u 59,u 60,u 61,u 62,u 63,u 64,u 65,u 66,u 67,u 68,u 69,u 70,u 71,u 72,u 73,u 74,u 75,u 76,u 77,u 78,u 79,u 80,u 81,u 82,u 83,u 84,u 85,u 86,u 87,u 88,u 89,u 90,u 91,u 92,u 93,u 94,u 95,u 96,u 97,u 98,u 99,u 100,u 101],[]⟩
def Gc(b:Nat)(n i:Int)(a:Ď):Prop:=∃u,a=Gb b n i u
def zc(i:Nat)(a:List UInt8):List Ñ:=Ĉ i (Å ű 0)++Ú a
def aaG(i:Nat)(a:List UInt8):(zc i a).length=i+a.length:=by simp[zc,Ú]
def aaH(i:Nat)(a:List UInt8)(c:UInt8):(zc (i+1) a).set i (Å ű c.toNat)=zc i (c::a):=by unfold zc;rw[List.replicate_succ',ı,ļ _ _ fj];simp[Ú]
section
variable{X:Ď->Í->Prop}
def aoL(u:Nat->Ñ)(n b:Nat)(d:n<16)(c:∀a,Gc i n b a->X a w): ã À NG (Exit.then K<|QE 0 X) (Gb i n b u) w:=by
 unfold Gb;conv=>arg 2;whnf
 go_wp2_with fail
 exact⟨U,c _ (gi _)⟩
def aoM(u:Nat->Ñ)(n b:Nat)(g:16<=n)(h:n<18446744073709551616)(j:b<65)(v:Ñ)(c:w.cell? ⟨i,b,Á⟩=Â v)(k:w.frozen? ⟨i,b,Á⟩=Ë) (e:∀a,Gc i ((n/16:Nat):Int) b a->K a (w.setCell ⟨i,b,Á⟩<|Å ű (oT<|n%16).toNat)): ã À NG (Exit.then K<|QE 0 X) (Gb i n ((b+1:Nat):Int) u) w:=by
 unfold Gb;conv=>arg 2;whnf
 have l:bits BinOp.and å (n:Int) 15=((n%16:Nat):Int):=by have:=(bits_nat å 64 A (λn f H=>by rw[Ċ];omega) n 15 Z A).1;rwa[show(15:Nat)=2^4-1 from rfl,Nat.and_two_pow_sub_one_eq_mod]at this
 have f:n%16<36:=Z
 have m:(⟨#[48,49,50,51,52,53,54,55,56,57,97,98,99,100,101,102,103,104,105,106,107,108,109,110,111,112,113,114,115,116,117,118,119,120,121,122]⟩:ByteArray)[n%16]'f=oT (n%16):=by unfold oT;rw[dif_pos f]
 have H:=ff e;clear e;generalize o:n%16=d at*;go_wp2_with fail;exact H.out _ (gi _)
def XI(i:Nat)(u:Í)(d:List UInt8)(a:Ď)(w:Í):Prop:=
 ∃(n b:Nat) (c:List UInt8),Gc i n b a/\50<=b/\b+c.length=65/\n<16^(b-49)/\n<18446744073709551616/\fc (λk=>k=i) u w/\fh i (zc b c) 292 w/\se (b-49) n c=d
def XE(i:Nat)(u:Í)(d:List UInt8)(a:Ď)(w:Í):Prop:=
 ∃(n b:Nat) (c:List UInt8),Gc i n b a/\n<16/\50<=b/\b+c.length=65/\fc (λk=>k=i) u w/\fh i (zc b c) 292 w/\oT n::c=d
def NH(a:Ď)(_:Í):Nat:=match a.tmps.getD 1 Ł with
 |Å _ i=>i.toNat
 |_=>0
def aaI(b:Gc i n j y):NH y w=n:=by obtain⟨u,rfl⟩:=b;show(n:Int).toNat=_;simp
def aoN{l:List UInt8}(a:Ď)(w:Í)(p:XI i u l a w): ã À NG (Exit.then (λb c=>XI i u l b c/\NH b c<NH a w)<|QE 0<|XE i u l) a w:=by
 let⟨n,b,g,m,r,s,e,t,o,f,d⟩:=p;rw[aaI m];obtain⟨c,rfl⟩:=m;obtain⟨j,rfl⟩:∃j,b=j+1:=⟨b-1,Z⟩;have x:j+1-49=(j-49)+1:=Z
 rw[x]at d e;unfold se at d;by_cases h:n<16
 .rw[if_pos h]at d;exact aoL c n (j+1) h λa q=>⟨n,j+1,g,q,h,r,s,o,f,d⟩
 .rw[if_neg h]at d;have y:50<=j:=by
   rcases ĥ j 50 with q|q
   .have:j-49=0:=Z
    rw[this]at e;simp at e;omega
   .exact q
  have C:(zc (j+1) g).length=65:=by rw[aaG];omega
  obtain⟨v,z⟩:∃v,(zc (j+1) g)[j]?=Â v:=⟨_,Ô Z⟩;have B:n/16<16^(j-49):=by rw[Nat.pow_succ]at e;exact Nat.div_lt_of_lt_mul<|by rwa[Nat.mul_comm]
  refine aoM c n j Z t Z v (f.r j v z) (f.C j) λa q=>⟨⟨n/16,j,oT (n%16)::g,q,y,by simp;omega,B,Z,o.fg (fc.I (X:=λk=>k=i) U _<|Ï f.G),?_,d⟩,by rw[aaI q];omega⟩;have:=f.fZ j<|Å ű (oT<|n%16).toNat;rwa[aaH]at this
end
def aoO:þ=(zc 65 []).toArray:=ft
def nH(n:Nat):ByteArray:=⟨(se 16 n []).toArray⟩
def aoP(n:Nat)(l:n<18446744073709551616)(o:qx w):Ò À 190 #[Ç Á 0 0,Å å n,Å É 16,û Ë,û Ë] w λe p=>e=Æ (ï #[Ç Á 0 0,Ä<|nH n])/\fc (λ_=>False) w p:=by
 have L:∀a,Gc w.heap.size n (65:Nat) a->ã À (Ŏ NG) (QE 0<|XE w.heap.size (w.alloc<|Þ þ 292)<|se 16 n []) a (w.alloc<|Þ þ 292):=λa r=>
  Κ (XI w.heap.size (w.alloc<|Þ þ 292)<|se 16 n []) NH ⟨n,65,[],r,Z,U,by show n<16^16;omega,l,fc.fT _ _,by rw[aoO];exact fh.N w (zc 65 []) 292,U⟩ aoN
 have H:=ff<|Ê o L;unfold nH;generalize se 16 n []=res at*;go_enter Tryz.func190,Tryz.ntmps190;go_wp2_with (first
  |(go_at_call 200;refine aoK.mono ?_;rintro e b ⟨rfl,c⟩;subst b)
  |(go_at_call 201;refine(tz (H.out.1.r kp)).mono ?_;rintro e b ⟨rfl,c⟩;subst b))
 refine Ĺ (Q:=QE 0<|XE w.heap.size (w.alloc<|Þ þ 292) res) ?_ (H.out.2 _ (gi _));rintro(_|_|_|_|_|_) a v hq;all_goals first|exact absurd hq id|skip
 obtain⟨rfl,m,i,c,s,F,G,I,x,b,d⟩:=hq;obtain⟨u,rfl⟩:=s;unfold Gb;obtain⟨j,rfl⟩:∃j,i=j+1:=⟨i-1,Z⟩;have J:(zc (j+1) c).length=65:=by rw[aaG];omega
 obtain⟨z,y⟩:∃z,(zc (j+1) c)[j]?=Â z:=⟨_,Ô Z⟩;have K:=b.r j z y;have M:=b.C j;have N:(0:Int)<=(j:Int):=Z
 have O:(j:Int)<65:=Z
 have S:(j:Int)<=65:=Z
 have T:(0:Int)<=(m:Int):=Z
 have V:(m:Int)<36:=Z
 have f:m<36:=Z
 have W:(⟨#[48,49,50,51,52,53,54,55,56,57,97,98,99,100,101,102,103,104,105,106,107,108,109,110,111,112,113,114,115,116,117,118,119,120,121,122]⟩:ByteArray)[m]'f=oT m:=by unfold oT;rw[dif_pos f]
 have B:=(fc.gE (λ_=>False) w þ 292).C x λi C q=>by omega
 have g:=b.fZ j<|Å ű (oT m).toNat;rw[aaH,d]at g;have D:fc (λ_=>False) w (v.setCell ⟨w.heap.size,j,Á⟩<|Å ű (oT m).toNat):=B.C (fc.I (X:=λk=>k=w.heap.size) U _<|Ï b.G) λi C q=>by omega
 have k:res.length=65-j:=by rw[<-d];simp;omega
 have Y:(convert 107 9<|Ç (Â ⟨w.heap.size,j,Á⟩) (65-j)<|65-j).run À (v.setCell ⟨w.heap.size,j,Á⟩<|Å ű (oT m).toNat)=.ok (Ä ⟨res.toArray⟩) (v.setCell ⟨w.heap.size,j,Á⟩<|Å ű (oT m).toNat):=by have h:=run_convert_bytes_back (P:=À) (v.setCell ⟨w.heap.size,j,Á⟩<|Å ű (oT m).toNat) 107 9 5 ⟨w.heap.size,j,Á⟩ (65-j) res ft ft ft (λt E=>by rw[Addr.add_mid];apply g.r (j+t) _;unfold zc;rw[Ħ fj];simp[Ú,Ô E]);rwa[k]at h
 have h:=ff D;go_wp2;go_ret2;exact⟨U,h.out⟩
def aoQ(n:Nat)(b:n<18446744073709551616)(c:qx w):Ò À 172 #[Å å n,Å É 16] w λe a=>e=Æ (Ä<|nH n)/\fc (λ_=>False) w a:=by go_enter Tryz.func172,Tryz.ntmps172;go_wp2_with (go_at_call 190;refine(aoP n b c).mono ?_;rintro e a ⟨rfl,d⟩);go_ret;exact⟨U,d⟩
def aoR(n:Nat)(b:n<18446744073709551616)(c:qx w):Ò À 157 #[Å å n,Å É 16] w λe a=>e=Æ (Ä<|nH n)/\fc (λ_=>False) w a:=by go_enter Tryz.func157,Tryz.ntmps157;go_wp2_with (go_at_call 172;refine(aoQ n b c).mono ?_;rintro e a ⟨rfl,d⟩);go_ret;exact⟨U,d⟩
def aoS(s:ByteArray)(w:Í)(h:s.data.toList.head?=Â 48):Ò À 175 #[Ä s,Ä ⟨#[48]⟩] w λe b=>e=Æ (û Î)/\b=w:=by
 have H:=Tryz.strings_HasPrefix s ⟨#[48]⟩ w;have e:Β s.data.toList (Ŷ ⟨#[48]⟩).toList=Î:=by
  generalize s.data.toList=l at h;cases l with
  |nil=>cases h
  |cons a r=>cases h;rfl
 rwa[e]at H
def aoT(s:ByteArray)(w:Í)(h:¬s.data.toList.head?=Â 48):Ò À 175 #[Ä s,Ä ⟨#[48]⟩] w λe b=>e=Æ (û Ë)/\b=w:=by
 have H:=Tryz.strings_HasPrefix s ⟨#[48]⟩ w;have e:Β s.data.toList (Ŷ ⟨#[48]⟩).toList=Ë:=by
  generalize s.data.toList=l at h;cases l with
  |nil=>rfl
  |cons a r=>
   have c:¬a=48:=λq=>h (by rw[q];rfl);show((48:UInt8)==a&&List.isPrefixOf [] r)=Ë;have:((48:UInt8)==a)=Ë:=beq_eq_false_iff_ne.2 λq=>c q.symm;rw[this];rfl
 rwa[e]at H
def z8(k:Nat):ByteArray:=aj ⟨#[48,48,48,48,48,48,48,48,48,48,48,48,48,48,48,48,48,48,48,48,48,48,48,48,48,48,48,48,48,48,48,48,48,48,48,48,48,48,48,48,48,48,48,48,48,48,48,48,48,48,48,48,48,48,48,48,48,48,48,48,48,48,48,48]⟩ 0 k
def aoU(k:Nat)(d:2<=k)(f:k<=64):Ò À 160 #[Ä ⟨#[48]⟩,Å É k] w λe a=>e=Æ (Ä<|z8 k)/\a=w:=by
 have g:((k:Int)==0)=Ë:=by simp;omega
 have h:((k:Int)==1)=Ë:=by simp;omega
 have i:¬(k:Int)<0:=Z
 have j:(0:Int)<=(k:Int):=Z
 have l:(k:Int)<=64:=Z
 have m:å.wrap (k:Int)=(k:Int):=by rw[Ċ];omega
 have n:É.wrap (k:Int)=(k:Int):=by rw[ť];omega
 have M:=Tryz.bits_Mul 1 k A Z w;rw[show 1*k/18446744073709551616=0 by omega,show 1*k%18446744073709551616=k by omega]at M;have c:=ff M;go_enter Ś,œ;go_wp2_with (first
  |(go_at_call 174;refine c.out.mono ?_;rintro e a ⟨rfl,b⟩;subst a)
  |(go_at_call 175;refine(aoT _ _ A).mono ?_;rintro e a ⟨rfl,b⟩;subst a)
  |(go_at_call 175;refine(aoS _ _ A).mono ?_;rintro e a ⟨rfl,b⟩;subst a))
 go_ret;exact⟨U,U⟩
def aoV:Ò À 160 #[Ä ⟨#[48]⟩,Å É 0] w λe a=>e=Æ (Ä ⟨#[]⟩)/\a=w:=by go_enter Ś,œ;go_wp2;go_ret;exact⟨U,U⟩
def aoW:Ò À 160 #[Ä ⟨#[48]⟩,Å É 1] w λe a=>e=Æ (Ä ⟨#[48]⟩)/\a=w:=by go_enter Ś,œ;go_wp2;go_ret;exact⟨U,U⟩
def aoX(k:Nat)(a:k<=64):Ò À 160 #[Ä ⟨#[48]⟩,Å É k] w λe b=>e=Æ (Ä<|z8 k)/\b=w:=by
 match k with
 |0=>exact aoV
 |1=>exact aoW
 |k+2=>exact aoU (k+2) Z a
def Aa(n:Nat):ByteArray:=z8 (16-(nH n).size)++nH n
def aaJ(n:Nat):(nH n).size<=16:=by show(se 16 n []).toArray.size<=16;have:=aaF 16 n [];simpa using this
def aaK(k:Nat):(z8 k).size<=k:=by unfold z8;rw[ē];omega
def aoY(n:Nat)(c:n<18446744073709551616)(d:qx w):Ò À 121 #[Å å n] w λe a=>e=Æ (Ä<|Aa n)/\fc (λ_=>False) w a:=by
 have g:=aaJ n;have h:=aaK<|16-(nH n).size;have T:=aoR n c d;have R:∀W:Í,Ò À 160 #[Ä ⟨#[48]⟩,Å É ((16-(nH n).size:Nat):Int)] W λe a=>e=Æ (Ä<|z8<|16-(nH n).size)/\a=W:=λW=>aoX _ Z;have i:É.wrap ((16:Int)-((nH n).size:Int))=((16-(nH n).size:Nat):Int):=by rw[ť];omega
 have j:(16:Int)-((nH n).size:Int)=((16-(nH n).size:Nat):Int):=Z
 have l:¬9223372036854775807<(z8<|16-(nH n).size).size+(nH n).size:=Z
 unfold Aa;have H:=ff<|Ê T R;generalize m:z8 (16-(nH n).size)=zs at*;generalize o:16-(nH n).size=k at*;generalize nH n=fs at*;go_enter Tryz.func121,Tryz.ntmps121;go_wp2_with (first
  |(go_at_call 157;refine H.out.1.mono ?_;rintro e p ⟨rfl,b⟩;have f:=ff b;clear b)
  |(go_at_call 160;refine(H.out.2 _).mono ?_;rintro e b ⟨rfl,p⟩;subst b))
 go_ret;exact⟨U,f.out⟩
structure pD(r:Nat)(x y g k:Nat)(kind v v2:Int)(slot:Nat)(w:Í):Prop where
 I:w.cell? ⟨r,0,Á⟩=Â (Å É x)
 S:w.cell? ⟨r,1,Á⟩=Â (Å É y)
 a:w.cell? ⟨r,2,Á⟩=Â (Å É g)
 Y:w.cell? ⟨r,3,Á⟩=Â (Å É k)
 N:w.cell? ⟨r,4,Á⟩=Â (Å É kind)
 M:w.cell? ⟨r,5,Á⟩=Â (Å É v)
 c:w.cell? ⟨r,6,Á⟩=Â (Å É v2)
 b:w.cell? ⟨r,7,Á⟩=Â (Å É slot)
def ie.N(h:ie u v vX W)(k:fc (λ_=>False) w u):ie w v vX W:=by
 refine⟨⟨h.fq.1,?_⟩,k.fg h.r⟩;rcases h.fq.2 with q|⟨g,a,b,c,d,q⟩
 .exact È q
 .exact Ï ⟨g,a,b,c,Ì k.M d,q⟩
section
variable{cp r x y g slot:Nat}{v v2:Int}
def pD.C{w:Í}(h:pD r x y g k c v v2 slot w)(q:fc (λ_=>False) w u):pD r x y g k c v v2 slot u:= ⟨q.r h.I id,q.r h.S id,q.r h.a id,q.r h.Y id,q.r h.N id,q.r h.M id,q.r h.c id,q.r h.b id⟩
def aoZ(F:Ò À 113 #[Ç O n cp,Å É v] w λe c=>e=Æ (jT<|Â i)/\fc (λ_=>False) w c)(j:pD r x y g k 2 v v2 slot w)(p:x<8)(q:slot<16)(z:Nat)(l:w.cell? ⟨i,x*18+2+slot,Á⟩=Â (Å å z)) (C:∀W,fc (λ_=>False) w W->Ò À 118 #[Å å z] W λe c=>e=Æ (Ä B)/\fc (λ_=>False) W c): Ò À 67 #[Ç O n cp,Ã<|Â ⟨r,0,Á⟩] w λe c=>e=Æ (Ä B)/\fc (λ_=>False) w c:=by
 have s:=j.M;have o:=j.N;have t:(0:Int)<=(x:Int):=Z
 have u:(x:Int)<8:=Z
 have D:(0:Int)<=(slot:Int):=Z
 have E:(slot:Int)<16:=Z
 have H:=ff<|Ê F C;have f:=ff j;clear F C j;go_enter ù,ñ;go_wp2_with (go_at_call 113;apply H.out.1.mono;rintro e d ⟨rfl,a⟩;dsimp only[jT,õ];have h:=a.r o id;have b:=ff a;clear a);refine mf (λc=>c.cell? ⟨r,0,Á⟩=Â (Å É x)/\c.cell? ⟨r,7,Á⟩=Â (Å É slot)/\c.cell? ⟨i,x*18+2+slot,Á⟩=Â (Å å z)) [] ft ?_;have a:=ff (Ê ((f.out.C b.out).C<|fc.fR (λ_=>False) _).I<|Ê ((f.out.C b.out).C<|fc.fR (λ_=>False) _).b<|(b.out.fg<|fc.fR _ _).r l id);apply tk 0 a.out;apply tk 1 a.out;apply tk 2 a.out;apply tk 3 a.out;apply tk 4 a.out;apply tk 5 a.out;apply tk 6 a.out;apply tk 7 a.out;apply tk 8 a.out;apply tk 9 a.out;apply tk 10 a.out;apply tk 11 a.out;apply tk 12 a.out;apply tk 13 a.out;apply tk 14 a.out;apply tk 15 a.out;apply tk 16 a.out;apply gD 17;intro K h;go_simp;go_at_call 118;refine(H.out.2 _<|b.out.fg<|fc.fR _ _).mono ?_;rintro e G ⟨rfl,m⟩;have d:=ff m;clear m;dsimp only;apply h.out _ _ λ_=>⟨(f.out.C<|(b.out.fg<|fc.fR _ _).fg d.out).I,(f.out.C<|(b.out.fg<|fc.fR _ _).fg d.out).b,(((b.out.fg<|fc.fR _ _).fg d.out).r l id)⟩;clear h K;apply gD 18;intro K h;go_simp;apply h.out _ _ λ_=>⟨(f.out.C<|(b.out.fg<|fc.fR _ _).fg d.out).I,(f.out.C<|(b.out.fg<|fc.fR _ _).fg d.out).b,(((b.out.fg<|fc.fR _ _).fg d.out).r l id)⟩;clear h K;try simp only[Act.put,ê,ā,Ă]
 refine lS ft ?_ _;go_wp2_with fail;go_ret;exact⟨U,(b.out.fg<|fc.fR _ _).fg d.out⟩
def ao0(F:Ò À 113 #[Ç O n cp,Å É v] w λe b=>e=Æ (jT<|Â i)/\fc (λ_=>False) w b)(h:pD r x y g k 3 v v2 slot w)(p:x<8)(z:Nat)(j:w.cell? ⟨i,x*18,Á⟩=Â (Å å z)) (C:∀W,fc (λ_=>False) w W->Ò À 118 #[Å å z] W λe b=>e=Æ (Ä B)/\fc (λ_=>False) W b): Ò À 67 #[Ç O n cp,Ã<|Â ⟨r,0,Á⟩] w λe b=>e=Æ (Ä B)/\fc (λ_=>False) w b:=by
 have q:=h.M;have o:=h.N;have s:(0:Int)<=(x:Int):=Z
 have t:(x:Int)<8:=Z
 have H:=ff<|Ê F C;have l:=ff h;clear F C h;go_enter ù,ñ;go_wp2_with (go_at_call 113;apply H.out.1.mono;rintro e d ⟨rfl,a⟩;dsimp only[jT,õ];have f:=a.r o id;have c:=ff a;clear a);refine mf (λb=>b.cell? ⟨r,0,Á⟩=Â (Å É x)/\b.cell? ⟨i,x*18,Á⟩=Â (Å å z)) [] ft ?_;have a:=ff (Ê ((l.out.C c.out).C<|fc.fR (λ_=>False) _).I<|(c.out.fg<|fc.fR _ _).r j id);apply tk 0 a.out;apply tk 1 a.out;apply tk 2 a.out;apply tk 3 a.out;apply tk 4 a.out;apply tk 5 a.out;apply tk 6 a.out;apply tk 7 a.out;apply tk 8 a.out;apply tk 9 a.out;apply tk 10 a.out;apply tk 11 a.out;apply gD 12;intro K d;go_simp;go_at_call 118;refine(H.out.2 _<|c.out.fg<|fc.fR _ _).mono ?_;rintro e u ⟨rfl,m⟩;have f:=ff m;clear m;dsimp only;apply d.out _ _ λ_=>⟨(l.out.C<|(c.out.fg<|fc.fR _ _).fg f.out).I,(((c.out.fg<|fc.fR _ _).fg f.out).r j id)⟩;clear d K;apply gD 13;intro K d;go_simp;apply d.out _ _ λ_=>⟨(l.out.C<|(c.out.fg<|fc.fR _ _).fg f.out).I,(((c.out.fg<|fc.fR _ _).fg f.out).r j id)⟩;clear d K;try simp only[Act.put,ê,ā,Ă]
 refine lS ft ?_ _;go_wp2_with fail;go_ret;exact⟨U,(c.out.fg<|fc.fR _ _).fg f.out⟩
def ao1(F:Ò À 113 #[Ç O n cp,Å É v] w λe d=>e=Æ (jT<|Â i)/\fc (λ_=>False) w d)(j:pD r x y g k 4 v v2 slot w)(o:g<=400)(p:k<18446744073709551616) (C:∀W,fc (λ_=>False) w W->Ò À 119 #[Ã<|Â ⟨i,0,Á⟩,Å É x,Å É y,Å å g,Å å k] W λe d=>e=Æ (Ä B)/\fc (λ_=>False) W d): Ò À 67 #[Ç O n cp,Ã<|Â ⟨r,0,Á⟩] w λe d=>e=Æ (Ä B)/\fc (λ_=>False) w d:=by
 have q:=j.M;have m:=j.N;have s:å.wrap (k:Int)=(k:Int):=by rw[Ċ];omega
 have t:å.wrap (g:Int)=(g:Int):=by rw[Ċ];omega
 have u:¬(400:Int)<(g:Int):=Z
 have z:(g:Int)<=400:=Z
 have H:=ff<|Ê F C;have c:=ff j;clear F C j;go_enter ù,ñ;go_wp2_with (go_at_call 113;apply H.out.1.mono;rintro e f ⟨rfl,a⟩;dsimp only[jT,õ];have h:=a.r m id;have l:=a.r c.out.a id;have b:=ff a;clear a);refine mf (λd=>d.cell? ⟨r,0,Á⟩=Â (Å É x)/\d.cell? ⟨r,1,Á⟩=Â (Å É y)/\d.cell? ⟨r,2,Á⟩=Â (Å É g)/\d.cell? ⟨r,3,Á⟩=Â (Å É k)) [] ft ?_;have a:=ff (Ê ((c.out.C b.out).C<|fc.fR (λ_=>False) _).I<|Ê ((c.out.C b.out).C<|fc.fR (λ_=>False) _).S<|Ê ((c.out.C b.out).C<|fc.fR (λ_=>False) _).a ((c.out.C b.out).C<|fc.fR (λ_=>False) _).Y);apply tk 0 a.out;apply tk 1 a.out;apply tk 2 a.out;apply tk 3 a.out;apply tk 4 a.out;apply tk 5 a.out;apply tk 6 a.out;apply tk 7 a.out;apply tk 8 a.out;apply tk 9 a.out;apply tk 10 a.out;apply tk 11 a.out;apply tk 12 a.out;apply tk 13 a.out;apply tk 14 a.out;apply tk 15 a.out;apply tk 16 a.out;apply tk 17 a.out;apply tk 18 a.out;apply tk 19 a.out;apply tk 20 a.out;apply tk 21 a.out;apply tk 22 a.out;apply gD 23;intro K h;go_simp;go_at_call 119;refine(H.out.2 _<|b.out.fg<|fc.fR _ _).mono ?_;rintro e D ⟨rfl,l⟩;have f:=ff l;clear l;dsimp only;apply h.out _ _ λ_=>⟨(c.out.C<|(b.out.fg<|fc.fR _ _).fg f.out).I,(c.out.C<|(b.out.fg<|fc.fR _ _).fg f.out).S,(c.out.C<|(b.out.fg<|fc.fR _ _).fg f.out).a,(c.out.C<|(b.out.fg<|fc.fR _ _).fg f.out).Y⟩;clear h K;apply gD 24;intro K h;go_simp;apply h.out _ _ λ_=>⟨(c.out.C<|(b.out.fg<|fc.fR _ _).fg f.out).I,(c.out.C<|(b.out.fg<|fc.fR _ _).fg f.out).S,(c.out.C<|(b.out.fg<|fc.fR _ _).fg f.out).a,(c.out.C<|(b.out.fg<|fc.fR _ _).fg f.out).Y⟩;clear h K;try simp only[Act.put,ê,ā,Ă]
 refine lS ft ?_ _;go_wp2_with fail;go_ret;exact⟨U,(b.out.fg<|fc.fR _ _).fg f.out⟩
def ao2(F:Ò À 113 #[Ç O n cp,Å É v] w λe c=>e=Æ (jT<|Â i)/\fc (λ_=>False) w c)(j:pD r x y g k 5 v v2 slot w)(o:k<18446744073709551616) (C:∀W,fc (λ_=>False) w W->Ò À 120 #[Ã<|Â ⟨i,0,Á⟩,Å É x,Å É y,Å å k] W λe c=>e=Æ (Ä B)/\fc (λ_=>False) W c): Ò À 67 #[Ç O n cp,Ã<|Â ⟨r,0,Á⟩] w λe c=>e=Æ (Ä B)/\fc (λ_=>False) w c:=by
 have p:=j.M;have m:=j.N;have q:å.wrap (k:Int)=(k:Int):=by rw[Ċ];omega
 have H:=ff<|Ê F C;have d:=ff j;clear F C j;go_enter ù,ñ;go_wp2_with (go_at_call 113;apply H.out.1.mono;rintro e f ⟨rfl,a⟩;dsimp only[jT,õ];have h:=a.r m id;have b:=ff a;clear a);refine mf (λc=>c.cell? ⟨r,0,Á⟩=Â (Å É x)/\c.cell? ⟨r,1,Á⟩=Â (Å É y)/\c.cell? ⟨r,3,Á⟩=Â (Å É k)) [] ft ?_;have a:=ff (Ê ((d.out.C b.out).C<|fc.fR (λ_=>False) _).I<|Ê ((d.out.C b.out).C<|fc.fR (λ_=>False) _).S ((d.out.C b.out).C<|fc.fR (λ_=>False) _).Y);apply tk 0 a.out;apply tk 1 a.out;apply tk 2 a.out;apply tk 3 a.out;apply tk 4 a.out;apply tk 5 a.out;apply tk 6 a.out;apply tk 7 a.out;apply tk 8 a.out;apply tk 9 a.out;apply tk 10 a.out;apply tk 11 a.out;apply tk 12 a.out;apply tk 13 a.out;apply tk 14 a.out;apply tk 15 a.out;apply tk 16 a.out;apply gD 17;intro K h;go_simp;go_at_call 120;refine(H.out.2 _<|b.out.fg<|fc.fR _ _).mono ?_;rintro e s ⟨rfl,l⟩;have f:=ff l;clear l;dsimp only;apply h.out _ _ λ_=>⟨(d.out.C<|(b.out.fg<|fc.fR _ _).fg f.out).I,(d.out.C<|(b.out.fg<|fc.fR _ _).fg f.out).S,(d.out.C<|(b.out.fg<|fc.fR _ _).fg f.out).Y⟩;clear h K;apply gD 18;intro K h;go_simp;apply h.out _ _ λ_=>⟨(d.out.C<|(b.out.fg<|fc.fR _ _).fg f.out).I,(d.out.C<|(b.out.fg<|fc.fR _ _).fg f.out).S,(d.out.C<|(b.out.fg<|fc.fR _ _).fg f.out).Y⟩;clear h K;try simp only[Act.put,ê,ā,Ă]
 refine lS ft ?_ _;go_wp2_with fail;go_ret;exact⟨U,(b.out.fg<|fc.fR _ _).fg f.out⟩
def ao3(F:Ò À 113 #[Ç O n cp,Å É v] w λe a=>e=Æ (jT<|Â i)/\fc (λ_=>False) w a)(b:pD r x y g k 6 v v2 slot w)(z:Nat)(C:∀W,fc (λ_=>False) w W->Ò À 122 #[Ã<|Â ⟨i,0,Á⟩] W λe a=>e=Æ (Å å z)/\fc (λ_=>False) W a)(d:∀W,fc (λ_=>False) w W->Ò À 121 #[Å å z] W λe a=>e=Æ (Ä B)/\fc (λ_=>False) W a): Ò À 67 #[Ç O n cp,Ã<|Â ⟨r,0,Á⟩] w λe a=>e=Æ (Ä B)/\fc (λ_=>False) w a:=by
 have m:=b.M;have j:=b.N;have l:=ff d;clear d;have H:=ff<|Ê F C;have o:=ff b;clear F C b;go_enter ù,ñ;go_wp2_with (first
  |(go_at_call 113;refine H.out.1.mono ?_;rintro e h ⟨rfl,c⟩;dsimp only[jT,õ];have p:=c.r j id;have f:=ff c;clear c)
  |(go_at_call 122;refine(H.out.2 _ f.out).mono ?_;rintro e p ⟨rfl,c⟩;have h:=ff<|f.out.fg c;clear c)
  |(go_at_call 121;refine(l.out _ h.out).mono ?_;rintro e p ⟨rfl,c⟩;have f:=ff (h.out.fg c);clear c))
 go_ret;exact⟨U,f.out⟩
def ao4(F:Ò À 113 #[Ç O n cp,Å É v] w λe b=>e=Æ (jT<|Â i)/\fc (λ_=>False) w b)(d:pD r x y g k 7 v v2 slot w)(l:Option Ā)(o p:Nat)(u:w.cell? ⟨i,144,Á⟩=Â (Ç l o p))(f:List ByteArray)(C:∀W,fc (λ_=>False) w W->Ò À 124 #[Ç l o p] W λe b=>∃j,e=Æ j/\ie W j f b)(q:∀W a m c,ie w (Ç a m c) f W->Ò À 123 #[Ç a m c] W λe b=>e=Æ (Ä B)/\fc (λ_=>False) W b): Ò À 67 #[Ç O n cp,Ã<|Â ⟨r,0,Á⟩] w λe b=>e=Æ (Ä B)/\fc (λ_=>False) w b:=by
 have J:=d.M;have z:=d.N;have D:=ff q;clear q;have H:=ff<|Ê F C;have K:=ff d;clear F C d;go_enter ù,ñ;go_wp2_with (first
  |(go_at_call 113;refine H.out.1.mono ?_;rintro e t ⟨rfl,h⟩;dsimp only[jT,õ];have E:=h.r z id;have G:=h.r u id;have s:=ff h;clear h)
  |(go_at_call 124;refine(H.out.2 _ s.out).mono ?_;rintro e E ⟨j,rfl,h⟩;obtain⟨G,I,rfl⟩:=jh h.fq;generalize f.length=tn at h|-;have t:=ff (show ie w (Ç G tn I) f E from h.N s.out);clear h)
  |(go_at_call 123;refine(D.out _ _ _ _ t.out).mono ?_;rintro e E ⟨rfl,h⟩;have s:=ff (t.out.r.fg h);clear h))
 go_ret;exact⟨U,s.out⟩
def ao5(F:Ò À 113 #[Ç O n cp,Å É v] w λe b=>e=Æ (jT<|Â i)/\fc (λ_=>False) w b)(d:pD r x y g k 8 v v2 slot w)(l:Option Ā)(o p:Nat)(u:w.cell? ⟨i,146,Á⟩=Â (Ç l o p))(f:List ByteArray)(C:∀W,fc (λ_=>False) w W->Ò À 125 #[Ç l o p] W λe b=>∃j,e=Æ j/\ie W j f b)(q:∀W a m c,ie w (Ç a m c) f W->Ò À 123 #[Ç a m c] W λe b=>e=Æ (Ä B)/\fc (λ_=>False) W b): Ò À 67 #[Ç O n cp,Ã<|Â ⟨r,0,Á⟩] w λe b=>e=Æ (Ä B)/\fc (λ_=>False) w b:=by
 have J:=d.M;have z:=d.N;have D:=ff q;clear q;have H:=ff<|Ê F C;have K:=ff d;clear F C d;go_enter ù,ñ;go_wp2_with (first
  |(go_at_call 113;refine H.out.1.mono ?_;rintro e t ⟨rfl,h⟩;dsimp only[jT,õ];have E:=h.r z id;have G:=h.r u id;have s:=ff h;clear h)
  |(go_at_call 125;refine(H.out.2 _ s.out).mono ?_;rintro e E ⟨j,rfl,h⟩;obtain⟨G,I,rfl⟩:=jh h.fq;generalize f.length=tn at h|-;have t:=ff (show ie w (Ç G tn I) f E from h.N s.out);clear h)
  |(go_at_call 123;refine(D.out _ _ _ _ t.out).mono ?_;rintro e E ⟨rfl,h⟩;have s:=ff (t.out.r.fg h);clear h))
 go_ret;exact⟨U,s.out⟩
def ao6(F:Ò À 113 #[Ç O n cp,Å É v] w λe c=>e=Æ (jT<|Â i)/\fc (λ_=>False) w c)(a:pD r x y g k 4 v v2 slot w)(j:400<g)(C:B=n9 6): Ò À 67 #[Ç O n cp,Ã<|Â ⟨r,0,Á⟩] w λe c=>e=Æ (Ä B)/\fc (λ_=>False) w c:=by
 have l:=a.M;have d:=a.N;have m:(400:Int)<(g:Int):=Z
 have H:=ff<|Ê F C;have f:=ff a;clear F C a;go_enter ù,ñ;go_wp2_with (first
  |(go_at_call 113;refine H.out.1.mono ?_;rintro e o ⟨rfl,b⟩;dsimp only[jT,õ];have p:=b.r d id;have q:=b.r f.out.a id;have h:=ff b;clear b)
  |(go_at_call 114;refine(FP 6 A _).mono ?_;rintro e b ⟨rfl,o⟩;subst b))
 go_ret;exact⟨by rw[H.out.2];rfl,h.out⟩
def ao7(F:Ò À 113 #[Ç O n cp,Å É v] w λe a=>e=Æ (jT<|Â i)/\fc (λ_=>False) w a)(b:pD r x y g k 9 v v2 slot w)(C:B=n9 3)(d:∀W,fc (λ_=>False) w W->Ò À 113 #[Ç O n cp,Å É v2] W λe a=>e=Æ (jT Á)/\fc (λ_=>False) W a): Ò À 67 #[Ç O n cp,Ã<|Â ⟨r,0,Á⟩] w λe a=>e=Æ (Ä B)/\fc (λ_=>False) w a:=by
 have p:=b.M;have j:=b.N;have l:=ff d;clear d;have H:=ff<|Ê F C;have m:=ff b;clear F C b;go_enter ù,ñ;go_wp2_with (first
  |(go_at_call 113;with_reducible refine H.out.1.mono ?_;rintro e h ⟨rfl,c⟩;dsimp only[jT,õ];have o:=c.r j id;have q:=c.r m.out.c id;have f:=ff c;clear c)
  |(go_at_call 113;refine(l.out _ f.out).mono ?_;rintro e c ⟨rfl,h⟩;dsimp only[jT,õ];have o:=ff<|f.out.fg h;clear h)
  |(go_at_call 114;refine(FP 3 A _).mono ?_;rintro e c ⟨rfl,h⟩;subst c))
 go_ret;exact⟨by rw[H.out.2];rfl,o.out⟩
def ao8(F:Ò À 113 #[Ç O n cp,Å É v] w λe b=>e=Æ (jT<|Â i)/\fc (λ_=>False) w b)(h:pD r x y g k 9 v v2 slot w)(C:True)(q:∀W,fc (λ_=>False) w W->Ò À 113 #[Ç O n cp,Å É v2] W λe b=>e=Æ (jT<|Â j)/\fc (λ_=>False) W b)(o:List ByteArray)(s:∀W,fc (λ_=>False) w W->Ò À 126 #[Ã<|Â ⟨i,0,Á⟩,Ã<|Â ⟨j,0,Á⟩] W λe b=>∃p,e=Æ p/\ie W p o b)(t:∀W a m c,ie w (Ç a m c) o W->Ò À 123 #[Ç a m c] W λe b=>e=Æ (Ä B)/\fc (λ_=>False) W b): Ò À 67 #[Ç O n cp,Ã<|Â ⟨r,0,Á⟩] w λe b=>e=Æ (Ä B)/\fc (λ_=>False) w b:=by
 have L:=h.M;have E:=h.N;have G:=ff q;have u:=ff<|Ê s t;clear q s t;have H:=ff<|Ê F C;have I:=ff h;clear F C h;go_enter ù,ñ;go_wp2_with (first
  |(go_at_call 113;with_reducible refine H.out.1.mono ?_;rintro e z ⟨rfl,d⟩;dsimp only[jT,õ];have l:=d.r E id;have D:=d.r I.out.c id;have f:=ff d;clear d)
  |(go_at_call 113;refine(G.out _ f.out).mono ?_;rintro e l ⟨rfl,d⟩;dsimp only[jT,õ];have z:=ff (f.out.fg d);clear d))
 apply mf (λb=>True/\True) [] ft;have d:=ff<|Ê trivial trivial;apply tk 0 d.out;apply tk 1 d.out;apply tk 2 d.out;apply tk 3 d.out;apply tk 4 d.out;apply tk 5 d.out;apply tk 6 d.out;apply tk 7 d.out;apply gD 8;intro K f;go_simp;go_at_call 126;refine(u.out.1 _<|z.out.fg<|fc.fR _ _).mono ?_;rintro e M ⟨p,rfl,l⟩;obtain⟨N,P,rfl⟩:=jh l.fq;generalize o.length=tn at l|-;have D:=ff<|l.N<|z.out.fg<|fc.fR _ _;clear l;dsimp only;apply f.out _ _ λ_=>⟨trivial,trivial⟩;clear f K;apply gD 9;intro K f;go_simp;go_at_call 123;refine(u.out.2 _ _ _ _ D.out).mono ?_;rintro e Q ⟨rfl,z⟩;have J:=ff<|D.out.r.fg z;clear z;dsimp only;apply f.out _ _ λ_=>⟨trivial,trivial⟩;clear f K;apply gD 10;intro K f;go_simp;apply f.out _ _ λ_=>⟨trivial,trivial⟩;clear f K;try simp only[Act.put,ê,ā,Ă]
 refine lS ft ?_ _;go_wp2_with fail;go_ret;exact⟨U,J.out⟩
def ao9(F:Ò À 113 #[Ç O n cp,Å É v] w λe a=>e=Æ (jT Á)/\fc (λ_=>False) w a)(b:pD r x y g k h v v2 slot w): Ò À 67 #[Ç O n cp,Ã<|Â ⟨r,0,Á⟩] w λe a=>e=Æ (Ä<|n9 3)/\fc (λ_=>False) w a:=by
 have f:=b.M;have H:=ff F;clear F b;go_enter ù,ñ;go_wp2_with (first
  |(go_at_call 113;refine H.out.mono ?_;rintro e i ⟨rfl,c⟩;dsimp only[jT,õ];have d:=ff c;clear c)
  |(go_at_call 114;refine(FP 3 A _).mono ?_;rintro e c ⟨rfl,i⟩;subst c))
 go_ret;exact⟨U,d.out⟩
end
structure Qn where
 x:Nat
 y:Nat
 g:Nat
 k:Nat
 r:Int
 v:Int
 C:Int
 I:Nat
structure Qn.Ok(q:Qn):Prop where
 x:q.x<8
 y:q.y<8
 g:q.g<1000000
 k:q.k<18446744073709551616
 atS:2<=q.r
 atT:q.r<=9
 v:-1<=q.v
 v2:-1<=q.C
 atU:q.I<16
def qy(a:List ByteArray):ByteArray:=if a=[]then⟨#[45]⟩else kC ⟨#[44]⟩ a
def DN(a:List (Nat×fJ))(p:fJ)(q:Qn):ByteArray:=
 if q.r=2 then gH ((p.s q.x).C q.I).toNat
 else if q.r=3 then gH (p.s q.x).fu.toNat
 else if q.r=4 then if 400<q.g then n9 6 else T8 (gk p.s [] q.x q.y q.g q.k)
 else if q.r=5 then tu p.s q.x q.y q.k 0 401
 else if q.r=6 then Aa (xT p.s)
 else if q.r=7 then qy (p.r.map oR)
 else if q.r=8 then qy (p.C.map xV)
 else match kr a q.C with
  |none=>n9 3
  |some b=>qy<|pC p.s b.2.s 8
def pE(a:List (Nat×fJ))(q:Qn):ByteArray:=
 match kr a q.v with
 |none=>n9 3
 |some p=>DN a p.2 q
def T9{M:Nat}(b:∀z∈vX,z.size<=M)(d:M<=100)(f:vX.length<=400000)(h:ie w (Ç O m i) vX W): Ò À 123 #[Ç O m i] W λe g=>e=Æ (Ä<|qy vX)/\fc (λ_=>False) W g:=by obtain⟨e,g,j⟩:=h.I;have k:=DL vX b;have:M*vX.length<=100*400000:=ŷ d f;exact aoF g Z j e Z
def apa(s:St):xT s<18446744073709551616:=by unfold xT Ni;exact TD _ _<|aae λi=>aah _ _ _
def Ua{b:ByteArray}(c:B.size<=1)(d:b.size<=1):(B++b).size<=2:=by rw[î];omega
def aaL(s t:St):∀z∈pC s t 8,z.size<=2:=λz a=>by
 unfold pC at a;obtain⟨i,_,h⟩:=Ŧ.1 a;unfold xW vV at h;rcases à.1 h with h|h
 .rcases à.1 h with h|h
  .split at h
   .cases h
   .simp at h;subst h;exact Ua (xY i)<|â _
  .split at h
   .cases h
   .simp at h;subst h;exact Ua (xY i)<|â _
 .unfold qw at h;obtain⟨j,_,h⟩:=Ŧ.1 h;unfold DG at h;split at h
  .cases h
  .simp at h;subst h;exact Ua (xY i)<|aav j
section
variable{cp:Nat}{vs:List (Nat×fJ)}{q:Qn}
def apb(u:qu O n vs w)(S:n<=1000)(T:0<n)(hvo:∀p∈vs,TP p.2)(d:pD i q.x q.y q.g q.k q.r q.v q.C q.I w)(ok:q.Ok)(V:iK w)(o:lI w)(hd:qx w): Ò À 67 #[Ç O n cp,Ã<|Â ⟨i,0,Á⟩] w λe G=>e=Æ (Ä<|pE vs q)/\fc (λ_=>False) w G:=by
 have F:=Nn (cp:=cp) u S T q.v ok.v;unfold pE;cases B:kr vs q.v with
 |none=>
  rw[B]at F;exact ao9 F d
 |some p=>
  rw[B]at F;have h:=F;have X:=JA B;have f:=u.M X;have j:=hvo p X;obtain⟨x,y,g,k,kind,v,C,Y⟩:=q;obtain⟨r,H,hg,I,rU,rG,hv,NJ,J⟩:=ok;simp only at r H hg I rU rG hv NJ J d h B|-;obtain⟨cb,_,cs⟩:=f.r.gS r;have Hx:fX (k:Int):=⟨Z,Z⟩;unfold DN;simp only;split
  .rename_i e;subst e;have c:=cs Y J;have l:=f.C.C x Y;rw[<-Ő l.1]at c;exact aoZ h d r J _ c λW b=>xU _ (by have:=l.1;have:=l.2;omega) W<|o.r b
  .split
   .rename_i e;subst e;have l:=f.C.fu x;rw[<-Ő l.1]at cb;exact ao0 h d r _ cb λW b=>xU _ (by have:=l.1;have:=l.2;omega) W<|o.r b
   .split
    .rename_i e;subst e;split
     .rename_i hh;exact ao6 h d hh U
     .exact ao1 h d Z I λW b=>aoI (f.r.r b id) f.C (V.r b id) (o.r b) x y g k r H Z Z Hx
    .split
     .rename_i e;subst e;exact ao2 h d I λW b=>an1 (f.r.r b id) f.C (V.r b id) (o.r b) r H Hx
     .split
      .rename_i e;subst e;exact ao3 h d _ (λW b=>ang (f.r.r b id) f.C) λW b=>aoY _ (apa _)<|hd.r b
      .split
       .rename_i e;subst e;obtain⟨K,L,M,N⟩:=f.N;exact ao4 h d K _ L M _ (λW b=>aaq U j.I j.C (o.r b)<|nG.C N b) λW a m c t=>T9 (λz P=>by obtain⟨e,D,rfl⟩:=Ý.1 P;exact ND (j.C e D).2) Z (by rw[í];exact j.I) t
       .split
        .rename_i e;subst e;obtain⟨K,L,M,N⟩:=f.S;exact ao5 h d K _ L M _ (λW b=>an8 U j.M j.r (o.r b)<|nG.C N b) λW a m c t=>T9 (λz P=>by obtain⟨e,D,rfl⟩:=Ý.1 P;exact aaD (j.r e D).1 (j.r e D).2) Z (by rw[í];have:=j.M;omega) t
        .have e:kind=9:=Z
         subst e;have E:∀W,fc (λ_=>False) w W->Ò À 113 #[Ç O n cp,Å É C] W λe G=>e=Æ (jT ((kr vs C).map (·.1)))/\fc (λ_=>False) W G:=λW b=>Nn (u.I b) S T C NJ;cases Q:kr vs C with
         |none=>
          rw[Q]at E;exact ao7 h d U E
         |some p2=>
          rw[Q]at E;exact ao8 h d trivial E _ (λW b=>aol (f.r.r b id)<|(u.M<|JA Q).r.r b id) λW a m c t=>T9 (aaL _ _) Z (by have:=TX p.2.s p2.2.s 8;omega) t
end
end Go.Proofs.Y.gR
namespace Go.Proofs.Y.lb
open Go Go.Proofs Go.RowKit Go.Proofs.Y.Lift Go.Proofs.Y.gR
def kj(a:List (Nat×fJ)):List fJ:=a.map (·.2)
def aaM(d:fJ)(l:List fJ):fJ:=l.foldl (λa b=>if a.h<b.h then b else a) d
def aaN:∀(a:List (Nat×fJ)) (d:Nat×fJ),(uO d a).2=aaM d.2 (kj a)
 |[],_=>rfl
 |x::r,d=>by show(uO (zS d x) r).2=aaM (if d.2.h<x.2.h then x.2 else d.2) (kj r);rw[aaN r];unfold zS;split<;>rfl
def Ub{b a:List (Nat×fJ)}(h:kj b=kj a)(v:Int):(kr b v).map (·.2)=(kr a v).map (·.2):=by
 have d:∀i:Nat,(b[i]?).map (·.2)=(a[i]?).map (·.2):=λi=>by have:=congrArg (λl:List fJ=>l[i]?) h;simpa[kj]using this
 unfold kr;split
 .have l:=d 0;cases f:b[0]? with
  |none=>
   rw[f]at l;cases c:a[0]? with
   |none=>rfl
   |some y=>rw[c]at l;cases l
  |some x=>
   rw[f]at l;cases c:a[0]? with
   |none=>rw[c]at l;cases l
   |some y=>
    rw[c]at l;have e:x.2=y.2:=by simpa using l
    simp only[ý,aaN,h,e]
 .exact d _
def apc{a b:List (Nat×fJ)}(h:kj a=kj b):a.length=b.length:=by have:=congrArg ι h;simpa[kj]using this
def aaO{d b:List (Nat×fJ)}(h:kj d=kj b)(v:Int)(x:Nat)(f:List Tx):rh d v x f=rh b v x f:=by
 have a:=Ub h v;unfold rh;cases g:kr d v with
 |none=>
  rw[g]at a;cases c:kr b v with
  |none=>rfl
  |some y=>rw[c]at a;cases a
 |some p=>
  rw[g]at a;cases c:kr b v with
  |none=>rw[c]at a;cases a
  |some y=>
   rw[c]at a;have e:p.2=y.2:=by simpa using a
   simp only[apc h,e]
def apd{g f:List (Nat×fJ)}(h:kj g=kj f)(q:Qn):pE g q=pE f q:=by
 have c:=Ub h q.v;have d:=Ub h q.C;have j:∀p:fJ,DN g p q=DN f p q:=λp=>by
  unfold DN;cases i:kr g q.C with
  |none=>
   rw[i]at d;cases b:kr f q.C with
   |none=>rfl
   |some y=>rw[b]at d;cases d
  |some a=>
   rw[i]at d;cases b:kr f q.C with
   |none=>rw[b]at d;cases d
   |some y=>
    rw[b]at d;have e:a.2=y.2:=by simpa using d
    simp only[e]
 unfold pE;cases i:kr g q.v with
 |none=>
  rw[i]at c;cases b:kr f q.v with
  |none=>rfl
  |some y=>rw[b]at c;cases c
 |some p=>
  rw[i]at c;cases b:kr f q.v with
  |none=>rw[b]at c;cases c
  |some y=>
   rw[b]at c;have e:p.2=y.2:=by simpa using c
   simp only[j,e]
structure lz(s:List fJ):Prop where
 I:0<s.length
 r:s.length<=40
 C:∀v∈s,TP v/\gI v.s/\0<=v.h/\v.h<s.length
def sf(a:List (Nat×fJ))(v:Int)(x:Nat)(b:List Tx):List fJ:=kj a++(rh a v x b).1.toList
def lz.M{f:List (Nat×fJ)}(h:lz (kj f)){g:List Tx}(k:∀t∈g,t.Ok)(m:g.length<=1000):lz (sf f c i g):=by
 unfold lb.sf;have B:(kj f).length=f.length:=by simp[kj]
 unfold rh;cases n:kr f c with
 |none=>simpa using h
 |some p=>
  have o:p.2∈kj f:=Ý.2 ⟨p,JA n,U⟩;let⟨C,l,D,E⟩:=h.C _ o;simp only;split
  .simpa using h
  .rename_i F;cases j:uM i p.2.s g with
   |none=>simpa using h
   |some r=>
    simp only[Option.toList];have G:=h.r;have w:gI r.1:=by unfold uM at j;obtain⟨H,y,rfl⟩:=ø.1 j;exact(TQ g k l (λ_ q=>by cases q) (λ_ q=>by cases q) (by simp;omega) (by simp;omega) y).1.r i<|zI _
    refine⟨fj,by simp;omega,λu z=> ?_⟩;rcases à.1 z with q|q
    .let⟨a,b,e,d⟩:=h.C u q;refine⟨a,b,e,?_⟩;rw[Ø];simp;omega
    .simp at q;subst q;refine⟨anP k l m j,w,by show 0<=p.2.h+1;omega,?_⟩;rw[Ø];show p.2.h+1<_;simp;omega
def iV(Y:fp)(u w:Í):Prop:=∀(i j o:Nat) (v:Ñ),Y i j->u.cell? ⟨i,o,Á⟩=Â v->∃a,w.cell? ⟨j,o,Á⟩=Â a/\fl Y v a
section
variable{Y:fp}
def ape{k:IntKind}(h:fl Y (Å k c) v):v=Å k c:=by cases h;rfl
def apf(h:fl Y (Ä B) v):v=Ä B:=by cases h;rfl
def NK(h:fl Y (Ã<|Â a) v):∃b,v=Ã (Â b)/\gY Y a b:=by
 cases h with
 |jV q=>exact⟨_,U,q⟩
def NL(h:fl Y (Ç O n i) v):∃b,v=Ç b n i/\∀a,O=Â a->∃d,b=Â d/\gY Y a d:=by
 cases h with
 |nK=>exact⟨Á,U,λa q=>by cases q⟩
 |kO q=>exact⟨_,U,λa e=>by cases e;exact⟨_,U,q⟩⟩
def apg(a:kh v=Î)(h:fl Y v x):x=v:=by cases h<;>first|rfl|(simp[kh]at a;done)
def Ab(h:gY Y ⟨b,i,Á⟩ a):∃c,a=⟨c,i,Á⟩/\Y b c:=by let⟨d,e,f⟩:=h;let⟨c,g,j⟩:=a;simp only at d e f;subst e f;exact⟨c,U,d⟩
def iV.r(a:iV Y u w){k:IntKind}(h:Y i j)(e:u.cell? ⟨i,b,Á⟩=Â (Å k c)):w.cell? ⟨j,b,Á⟩=Â (Å k c):=by let⟨g,d,f⟩:=a i j b _ h e;rwa[ape f]at d
def iV.C(a:iV Y u w)(h:Y i j)(c:u.cell? ⟨i,n,Á⟩=Â (Ä B)):w.cell? ⟨j,n,Á⟩=Â (Ä B):=by let⟨e,b,d⟩:=a i j n _ h c;rwa[apf d]at b
def iV.aph(a:iV Y u w)(c:kh v=Î)(h:Y i j)(d:u.cell? ⟨i,n,Á⟩=Â v):w.cell? ⟨j,n,Á⟩=Â v:=by let⟨f,b,e⟩:=a i j n _ h d;rwa[apg c e]at b
def Uc(s:gR.St):∀v∈iq s,(∃n,v=Å å n)\/∃p,v=Ä p:=λv n=>by
 unfold iq at n;obtain⟨i,_,rfl⟩:=Ý.1 n;unfold qn qm;split
 .exact È ⟨_,U⟩
 .split
  .exact Ï ⟨_,U⟩
  .exact È ⟨_,U⟩
def apj(a:iV Y u w){s:gR.St}(c:Y b i)(d:mh b s h u):mh i s h w:=by
 refine⟨λj v e=> ?_,a.r c d.h⟩;have f:=d.C j v e;rcases Uc s v (ç e)with⟨n,rfl⟩|⟨p,rfl⟩
 .exact a.r c f
 .exact a.C c f
def aaP(a:iV Y u w)(f:Y b i)(g:∀v∈l,kh v=Î)(h:zR ⟨b,j,Á⟩ n l u):zR ⟨i,j,Á⟩ n l w:=by let⟨p,c,k,m⟩:=h;let⟨G,q,r⟩:=a b i j _ f k;obtain⟨s,rfl,t⟩:=NL r;refine⟨s,c,q,λd x e=> ?_⟩;let⟨H,y,z,B⟩:=m d x e;let⟨I,C,D⟩:=t _ z;obtain⟨E,rfl,F⟩:=Ab D;exact⟨E,y,C,a.aph (g x<|ç e) F B⟩
def apk(a:iV Y u w){v:fJ}(c:Y b i)(h:rZ b v u):rZ i v w:= ⟨apj a c h.r,h.C,h.I,h.M,aaP a c (q' _) h.N,aaP a c (R_ _) h.S⟩
def wD{α β:Type}{R:Nat->α->β->Prop}:∀(l:List α) (k:Nat),(∀j x,l[j]?=Â x->∃y,R (k+j) x y)->∃a:List β,a.length=l.length/\∀j y,a[j]?=Â y->∃x,l[j]?=Â x/\R (k+j) x y
 |[],_,_=>⟨[],U,λj y h=>by simp at h⟩
 |x::r,k,h=>by
  let⟨y,c⟩:=h 0 x U;obtain⟨a,d,e⟩:=wD r (k+1) λj z b=>by let⟨q,f⟩:=h (j+1) z b;exact⟨q,by rwa[show k+1+j=k+(j+1) by omega]⟩
  refine⟨y::a,by simp[d],λj z b=> ?_⟩;cases j with
  |zero=>cases b;exact⟨x,U,c⟩
  |succ j=>
   let⟨q,f,g⟩:=e j z b;exact⟨q,f,by rwa[show k+(j+1)=k+1+j by omega]⟩
def JG(a:iV Y u w){f:List (Nat×fJ)}(t:fl Y z jQ)(h:Np z f u):∃e,kj e=kj f/\Np jQ e w:=by
 obtain⟨L,n,B,rfl,C,l⟩:=h;obtain⟨m,rfl,D⟩:=NL t;let⟨e,E,o⟩:=wD (R:=λj (x y:Nat×fJ)=>x.2=y.2/\∃c d,m=Â ⟨c,d,Á⟩/\w.cell? ⟨c,d+j,Á⟩=Â (Ã<|Â ⟨y.1,0,Á⟩)/\rZ y.1 y.2 w) f 0 λj x F=>by let⟨b,v⟩:=x;let⟨c,d,i,g,k⟩:=l.C j b v F;let⟨M,p,r⟩:=D _ i;obtain⟨q,rfl,s⟩:=Ab r;let⟨N,G,H⟩:=a c q _ _ s g;obtain⟨O,rfl,I⟩:=NK H;obtain⟨J,rfl,K⟩:=Ab I;exact⟨(J,v),U,q,d,p,by rwa[Ĕ],apk a K k⟩
 refine⟨e,?_,m,n,B,U,C,⟨by rw[E];exact l.r,λj b v q=> ?_⟩⟩
 .refine ś λj=> ?_;unfold kj;rw[ó,ó];cases p:e[j]? with
  |none=>
   have:f[j]?=Á:=Ľ (by have:=Ĭ.1 p;omega);rw[this]
  |some y=>
   let⟨x,r,s,_⟩:=o j y p;rw[r];simp[s]
 .let⟨x,r,s,c,d,i,g,k⟩:=o j (b,v) q;exact⟨c,d,i,by rwa[Ĕ]at g,k⟩
end
def lh(a:Nat->Prop)(B:Nat):fp:=⟨λi j=>i=j/\a i,B⟩
def apl(a:Nat->Prop)(B:Nat):Bi (lh a B):= ⟨λ_ _ _ h k=>h.1.symm.trans k.1,λ_ _ _ h k=>h.1.trans k.1.symm,λi j h=>by rw[h.1]⟩
def Ac{V:Nat->Prop}{B:Nat}(h:∀i,X i->V i):(lh X B).r (lh V B):=⟨λ_ _ q=>⟨q.1,h _ q.2⟩,λ_=>apl V B,U⟩
def kD(B:Nat)(a:Nat->Prop)(w:Í):Prop:=∀b,a b->∃c e d,w.heap[b]?=Â (Þ c e d)/\d.2<=c.size/\fQ (lh a B) c c/\0<c.size/\Eh c/\e≠304/\e≠305
section
variable{B:Nat}{V:Nat->Prop}
def kD.I(h:kD B X w)(k:kD B V w):kD B (λb=>X b\/V b) w:=by
 rintro b (q|q)
 .let⟨c,e,a,d,f,g,i⟩:=h b q;exact⟨c,e,a,d,f,g.I (Ac λ_=>È),i⟩
 .let⟨c,e,a,d,f,g,i⟩:=k b q;exact⟨c,e,a,d,f,g.I (Ac λ_=>Ï),i⟩
def kD.C(h:kD B X w)(k:∀b,X b->u.heap[b]?=w.heap[b]?):kD B X u:=λb q=>by let⟨c,e,a,d,f⟩:=h b q;exact⟨c,e,a,by rwa[k b q],f⟩
def kD.r(h:kD B X w)(g:X b)(a:w.cell? ⟨b,i,Á⟩=Â v):fl (lh X B) v v:=by
 let⟨c,e,m,j,_,k,_⟩:=h b g;simp only[ä,j,ü,ð,if_false]at a;rcases k.S i with⟨q,_⟩|⟨x,n,d,f,l⟩
 .rw[q]at a;cases a
 .rw[d]at a;rw[d]at f;cases a;cases f;exact l
def DR(h:fl (lh X B) (Ã<|Â a) v):X a.block:=by
 cases h with
 |jV q=>exact q.1.2
def DU(h:fl (lh X B) (Ç (Â a) n i) v):X a.block:=by
 cases h with
 |kO q=>exact q.1.2
def apm{Y:fp}(h:kh v=Î):fl Y v v:=by cases v<;>first|exact .mo _|exact .iF _ _|(simp[kh]at h;done)
def pF{Y:fp}(h:∀v∈d.toList,fl Y v v):fQ Y d d:=⟨U,λi a _=>h _<|ò.2<|Ć a⟩
def apn(h:kh v=Î):yn v=Ë:=by
 cases v with
 |int k n=>cases k<;>first|rfl|(simp[kh]at h;done)
 |_=>rfl
def Ad(h:∀v∈d.toList,yn v=Ë):Eh d:=λk v a=>h v<|ò.2<|ľ a
def JH(v:Ñ)(i:Nat):Prop:=v.ownBlock=Â i
def JJ(X:Nat->Prop)(g b:Nat)(a c:Ñ)(i:Nat):Prop:=X i\/i=g\/i=b\/JH a i\/JH c i
def aaQ{G:Í}(a:mb T=Î)(h:tq v T u)(o:∀j,v.ownBlock=Â j->G.heap.size<=j)(p:rR G.heap.size u):∀i,JH v i->∃c e f,u.heap[i]?=Â (Þ c e f)/\f.2<=c.size/\fQ (lh V B) c c/\0<c.size/\Eh c/\e≠304/\e≠305:=λi b=>by
 rcases h with rfl|⟨g,n,c,k,rfl,l⟩
 .cases b
 .have e:g=i:=by unfold JH at b;simpa[Value.ownBlock]using b
  subst e;let⟨r,m⟩:=p g k T (0,0) (o g U) l a;exact⟨k,T,(0,0),l,Ü _,pF λv d=>apm<|m v d,r,Ad λv d=>apn<|m v d,(λq=>by rw[q]at a;cases a),(λq=>by rw[q]at a;cases a)⟩
def aaR(h:tq v T u)(a:∀i,JH v i->V i):fl (lh V B) v v:=by
 rcases h with rfl|⟨g,n,c,b,rfl,d⟩
 .exact .nK _ _
 .exact fl.kO (Y:=lh V B) ⟨⟨U,a g U⟩,U,U⟩ n c
def apo{G:Í}(J:kD B X G)(k:fc (λ_=>False) G u)(K:∀i,X i->i<G.heap.size){r:List (Nat×fJ)}{s:gR.St}(t:TM b s h G u)(w:TL r b G u m)(L:∀p∈r,X p.1): ∃e,(∀i,X i->e i)/\e m/\kD B e u/\∀i,e i->X i\/G.heap.size<=i:=by
 have y:=k.Y _ λi c T z M C=>by rw[ë M]at C;cases C
 let⟨a,d,N,f,l,D,E⟩:=t.r;refine⟨JJ X m b a d,λi q=>È q,Ï<|È U,?_,?_⟩
 .rintro i (q|rfl|rfl|q|q)
  .let⟨c,e,z,n,x,o,F⟩:=J i q;exact⟨c,e,z,by rwa[k.N i (K i q) id],x,o.I (Ac λ_=>È),F⟩
  .let⟨F,n,x,o⟩:=w.r;have H:∀v∈F.toList,v=Ã Á\/∃j,v=Ã (Â ⟨j,0,Á⟩)/\JJ X i b a d j:=λv e=>by
    rcases o v e with q|q|q
    .unfold sd at q;obtain⟨p,I,rfl⟩:=Ý.1 q;exact Ï ⟨_,U,È<|L p I⟩
    .exact Ï ⟨_,q,Ï<|Ï<|È U⟩
    .exact È q
   refine⟨F,136,(0,0),n,Ü _,pF λv e=> ?_,x,Ad λv e=> ?_,A,A⟩
   .rcases H v e with rfl|⟨j,rfl,I⟩
    .exact .lL
    .exact .jV ⟨⟨U,I⟩,U,U⟩
   .rcases H v e with rfl|⟨j,rfl,I⟩<;>rfl
  .have o:∀v∈iZ s a++[Å É h,d],fl (lh (JJ X m i a d) B) v v/\yn v=Ë:=λv e=>by
    rw[zN]at e;have I:=aaR (B:=B) (V:=JJ X m i a d) f λj q=>Ï<|Ï<|Ï<|È q;have H:=aaR (B:=B) (V:=JJ X m i a d) l λj q=>Ï<|Ï<|Ï<|Ï q;have F:∀{x:Ñ} {T:ĕ},tq x T u->yn x=Ë:=λ{x T} q=>by rcases q with rfl|⟨_,_,_,_,rfl,_⟩<;>rfl
    rcases à.1 e with q|q
    .rcases à.1 q with q|q
     .rcases Uc s v q with⟨n,rfl⟩|⟨p,rfl⟩
      .exact⟨.iF _ _,U⟩
      .exact⟨.kE _,U⟩
     .simp at q;subst q;exact⟨I,F f⟩
    .simp at q;rcases q with rfl|rfl
     .exact⟨.iF _ _,U⟩
     .exact⟨H,F l⟩
   exact⟨_,147,(0,0),N,Ü _,pF λv e=>(o v<|by simpa using e).1,by simp[mG],Ad λv e=>(o v<|by simpa using e).2,A,A⟩
  .exact aaQ U f D y i q
  .exact aaQ U l E y i q
 .rintro i (q|rfl|rfl|q|q)
  .exact È q
  .exact Ï w.C
  .exact Ï t.C
  .exact Ï<|D i q
  .exact Ï<|E i q
def NM{Y:fp}(h:fl Y v x):fl (lh X B) v v->fl (lh (λj=>∃i,X i/\Y i j) B) x x:=by
 induction h with
 |mo b=>exact λ_=> .mo b
 |iF k n=>exact λ_=> .iF k n
 |kE s=>exact λ_=> .kE s
 |lL=>exact λ_=> .lL
 |@jV a a' q=>exact λz=>fl.jV (Y:=lh (λj=>∃i,X i/\Y i j) B) ⟨⟨U,_,DR z,q.1⟩,U,U⟩
 |nK n c=>exact λ_=> .nK n c
 |@kO a a' q n c=>exact λz=>fl.kO (Y:=lh (λj=>∃i,X i/\Y i j) B) ⟨⟨U,_,DU z,q.1⟩,U,U⟩ n c
 |uZ=>exact λ_=> .uZ
 |fn f=>exact λ_=> .fn f
 |u9=>exact λ_=> .u9
 |va=>exact λ_=> .va
 |vd=>exact λ_=> .vd
 |yk t _ b=>exact λz=> .yk t (b (by cases z with|yk _ y=>exact y))
 |oy f _ b=>exact λz=> .oy U λi c _=>b i (by rwa[f]) c (by cases z with|oy _ y=>exact y i _ _)
 |nL f _ b=>exact λz=> .nL U λi c _=>b i (by rwa[f]) c (by cases z with|nL _ y=>exact y i _ _)
def apq{Y:fp}(h:fl Y v x):yn x=yn v:=by cases h<;>rfl
def Ud{Y:fp}{l:Nat->Prop}(h:jg Y l u w)(r:kD B X u):kD B (λj=>∃i,X i/\Y i j) w:=by
 rintro j ⟨i,t,x⟩;let⟨c,a,e,H,y,z,C,b,D,E,I⟩:=h.r i j x;let⟨d,J,pS,m,_,F,K,G,n,o⟩:=r i t;rw[z]at m;cases m;have L:=b.C.resolve_right λq=>q.2.1.elim n o;refine⟨a,e,y,C,?_,pF λv f=> ?_,Z,Ad λv f=> ?_,n,o⟩
 .by_cases s:l j
  .have:=(D s).2.2.1;omega
  .rw[<-E s];omega
 .obtain⟨k,s,rfl⟩:=Ģ f;have g:k<a.size:=by simpa using s
  have:=NM (b.r k Z g)<|F.C k Z Z;simpa using this
 .obtain⟨k,s,rfl⟩:=Ģ f;have g:k<a.size:=by simpa using s
  have p:=apq<|b.r k Z g;rw[(G k c[k]<|Û Z)]at p;simpa using p
def Ae{Y:fp}(h:jg Y X u w):iV Y u w:=λi j o v b c=>h.gy (a:=⟨i,o,Á⟩) (a':=⟨j,o,Á⟩) ⟨b,U,U⟩ c
end
end Go.Proofs.Y.lb
namespace Go.Proofs.Y.Lift
open Go
def aaS{α β:Type}{c:α->β->Option (ForInStep β)}{I:β->Prop}(d:∀a b s,I b->c a b=Â s->I s.value): ∀(l:List α) (b r:β),I b->forIn l b c=Â r->I r
 |[],b,r,hi,h=>by simp at h;subst h;exact hi
 |a::l,b,r,hi,h=>by
  rw[List.forIn_cons]at h;cases e:c a b with
  |none=>rw[e]at h;simp at h
  |some s=>
   rw[e]at h;have:=d a b s hi e;cases s with
   |done x=>simp at h;subst h;exact this
   |yield x=>simp at h;exact aaS d l x r this h
def jP.gS(h:jP v):∀x∈v.cells,jP x:=by
 intro x a;cases h with
 |oy h=>
  obtain⟨i,b,rfl⟩:=Array.mem_iff_getElem.1 a;exact h i b
 |nL h=>simp[ł]at a;subst a;exact .nL h
 |_=>simp[ł]at a;subst a;constructor
def ZP(a:ĕ->Option į):Prop:=∀t i z,a t=Â i->i.zero=Â z->jP z
def Ue(h:∀x∈d,jP x):jP (.agg d):=.oy λ_ a=>h _<|Ć a
def apr{m:ĕ->Option į}(h:ZP m){n:Array Field}(g:Ŝ m n=Â zJ)(j:zJ.zero=Â z):jP z:=by
 unfold Ŝ at g;simp only[<-Array.forIn_toList]at g;generalize t:(forIn n.toList _ _:Option _)=L at g;cases L with
 |none=>simp at g
 |some r=>
  have u:=aaS (I:=λx=>∀a,x.2.2.2.2.2.2.2.1=Â a->∀v∈a,jP v) ?_ _ _ _ ?_ t
  .have:∃a,r.2.2.2.2.2.2.2.1=Â a/\z=.agg a:=by
    simp only[bind,pure,ν]at g;split at g;all_goals
     simp only[Õ]at g;subst g;simp only[ø]at j;let⟨a,e,k⟩:=j;exact⟨a,e,k.symm⟩
   obtain⟨a,e,rfl⟩:=this;exact Ue<|u a e
  .intro f b s w d;have y:∀(e:Option Ñ) (k:Nat) (x:Option (Array Ñ)),(∀z,e=Â z->jP z)->x=(if k>Ÿ then Á else do pure ((<-b.2.2.2.2.2.2.2.1)++(<-e).cells))->∀a,x=Â a->∀v∈a,jP v:=by
    intro e k x B C a c v o;subst C;split at c
    .simp at c
    .cases l:b.2.2.2.2.2.2.2.1 with
     |none=>rw[l]at c;simp at c
     |some E=>
      cases p:e with
      |none=>rw[l,p]at c;simp at c
      |some D=>
       rw[l,p]at c;simp at c;subst c;rcases Array.mem_append.1 o with q|q
       .exact w _ l v q
       .exact(B D p).gS v q
   cases e:m f.type with
   |none=>rw[e]at d;simp at d
   |some k=>
    rw[e,ì,ĵ]at d;have l:=y k.zero (b.2.1+k.size) _ (λz j=>h _ _ _ e j) U;generalize(if b.2.1+k.size>Ÿ then Á else(do pure ((<-b.2.2.2.2.2.2.2.1)++(<-k.zero).cells):Option (Array Ñ)))=X at d l;generalize(if b.1.size+1<n.size then ";" else "")=Y at d;simp only[bind,pure,ν]at d;repeat' split at d
    all_goals first
     |(simp only[Õ]at d;subst d;exact l)
     |(simp at d;done)
  .intro a c v o;simp at c;subst c;simp at o
def aps{c:ĕ->Option į}(h:ZP c){d:TypeDesc}(a:ξ c d=Â zJ)(b:zJ.zero=Â z):jP z:=by
 unfold ξ at a;cases d with
 |struct k=>exact apr h a b
 |array n e=>
  simp only[ì,ß,ą,Õ]at a;obtain⟨f,v,st,_,rfl⟩:=a;simp only at b;split at b
  .simp at b
  .split at b
   .simp at b;subst b;exact Ue fj
   .simp only[ø]at b;obtain⟨j,g,rfl⟩:=b;refine Ue λx k=> ?_;simp only[Array.mem_flatten,Array.mem_replicate]at k;obtain⟨l,⟨_,rfl⟩,k⟩:=k;exact(h _ _ _ v g).gS x k
 |pointer e=>
  simp only[ì,ß,ą]at a;let⟨f,v,a⟩:=a;repeat' split at a
  all_goals first
   |(simp at a;done)
   |(simp only[ß,Õ]at a;obtain⟨_,_,rfl⟩:=a;simp only[Ō,Õ]at b;subst b;constructor)
 |slice e=>
  simp only[ì,ß,ą,Õ]at a;obtain⟨_,_,_,_,rfl⟩:=a;simp only[Ō,Õ]at b;subst b;constructor
 |map k e=>
  simp only[ì,ß,ą,Õ]at a;obtain⟨_,_,_,_,_,_,_,_,rfl⟩:=a;simp only[Ō,Õ]at b;subst b;constructor
 |chan k e=>
  simp only[ì,ß,ą,Õ]at a;obtain⟨_,_,_,_,rfl⟩:=a;simp only[Ō,Õ]at b;subst b;constructor
 |func k e v=>
  simp only[ì,ß,ą,Õ]at a;obtain⟨_,_,rfl⟩:=a;simp only[Ō,Õ]at b;subst b;constructor
 |_=>simp at a
def aaT{T:Tables}(a:∀(t:Nat) (i:į) (z:Ñ),T.types[t]?=Â i->i.zero=Â z->jP z):∀f,ZP<|Ū T f
 |0=>λt i z h=>by simp[Ū]at h
 |f+1=>λt i z h b=>by
  unfold Ū at h;split at h
  .exact a t i z h b
  .simp only[ß]at h;let⟨d,_,c⟩:=h;exact aps (aaT a f) c b
def apt(a:∀(t:Nat) (i:į) (z:Ñ),P.types[t]?=Â i->i.zero=Â z->jP z):nO P:=λt i z h b=>by
 have h:P.toTables.info? t=Â i:=h;unfold Tables.info? at h;split at h
 .exact a t i z h b
 .exact aaT a _ t i z h b
end Go.Proofs.Y.Lift
namespace Go.Proofs.Y.fv
open Go Go.Conc Go.Proofs.Y.Lift Go.RowKit Go.Conc.Lib Go.ConcR.Gen
open Go.Proofs Go.Proofs.YtgpphkdoanciiaaGreatDoor
def Uf:Ñ->Bool
 |.agg a=>a.toList.all yw
 |v=>yw v
def aaU(h:Uf v=Î):jP v:=by
 cases v with
 |agg b=>exact .oy λi a=>Hb<|(Ķ.1 h) _<|ò.2<|Ć a
 |_=>exact Hb h
def aaV:Ñ->Bool
 |ï a=>a.toList.all Uf
 |v=>Uf v
def apu(h:aaV v=Î):jP v:=by
 cases v with
 |tuple b=>exact .nL λi a=>aaU<|(Ķ.1 h) _<|ò.2<|Ć a
 |_=>exact aaU h
def Gd(i:į):Bool:=match i.zero with
 |some z=>aaV z
 |none=>Î
def apv(h:P.types.toList.all Gd=Î):nO P:=apt λt i z a b=>by have:=(Ķ.1 h) i<|ò.2<|ľ a;unfold Gd at this;rw[b]at this;exact apu this
def yp:nO À:=apv fP
end Go.Proofs.Y.fv
namespace Go.Proofs.Y.lb
open Go Go.Conc Go.Proofs Go.RowKit Go.Proofs.Y.Lift Go.Proofs.Y.gR Go.Proofs.Y.fv
noncomputable def nB:Nat:=À.globals.size
def pG(a:Nat->Prop)(b:Nat):Prop:=a b\/b=1\/b=2\/b=3\/b=4
def NN(b:Nat)(e:ĕ)(w:Í):Prop:=∃c a,w.heap[b]?=Â (Þ c e a)/\a.2<=c.size/\a.2<=16/\0<c.size/\∀v∈c.toList,∃k n,v=Å k n
structure nI(w:Í):Prop where
 fx:nB<=w.heap.size
 M:kD nB (λb=>b=1\/b=2) w
 I:NN 3 304 w
 C:NN 4 305 w
 S:gR.lI w
 iO:iK w
 N:qx w
section
variable{V:Nat->Prop}
def nI.r{w':Í}(h:nI w)(f:nB<=w'.heap.size)(k:∀b,b=1\/b=2\/b=3\/b=4->w'.heap[b]?=w.heap[b]?):nI w':=by
 have d:∀b o,b=1\/b=2\/b=3\/b=4->w'.cell? ⟨b,o,Á⟩=w.cell? ⟨b,o,Á⟩:=λb o e=>by simp only[ä,k b e]
 refine⟨f,h.M.C λb e=>k b<|e.imp id È,?_,?_,?_,?_,?_⟩
 .let⟨c,i,a,r⟩:=h.I;exact⟨c,i,by rwa[k 3 fj],r⟩
 .let⟨c,i,a,r⟩:=h.C;exact⟨c,i,by rwa[k 4 fj],r⟩
 .have i:=h.S;have r:À.globalNamed "internal/strconv.uint64pow10"=Â 1:=ft
  unfold gR.lI au ae at*;rw[r]at i|-;simp only[ĵ]at i|-;rwa[k 1 fj]
 .let⟨c,g,a⟩:=h.iO.M;refine⟨⟨c,g,by rwa[k 2 fj]⟩,λi r j=> ?_⟩;rw[d 2 _ fj,d 2 _ fj,d 2 _ fj];exact h.iO.I i r j
 .have:=h.N;unfold qx at*;rw[d 4 _ fj];exact this
def aaW(u:kD nB X w)(x:∀b,X b->lr b=Ë)(g:nI w):MI (pG X) (pG X) nB w:=by
 have p:∀{a:Nat->Prop} {c:Array Ñ},(∀b,a b->pG X b)->fQ (lh a nB) c c->fQ (qj (pG X) nB) c c:=λ{a c} hX r=>r.I<|Ac hX;refine⟨?_,g.fx⟩;have s:∀b e,(e=304\/e=305)->lr b=Î->NN b e w->∃c e d,w.heap[b]?=Â (Þ c e d)/\d.2<=c.size/\fQ (qj (pG X) nB) c c/\(pG X b->0<c.size/\(lr b=Î->(e=304\/e=305)/\d.2<=16)/\(lr b=Ë->Eh c)):=λb e y B h=>by let⟨c,d,f,j,l,m,o⟩:=h;exact⟨c,e,d,f,j,pF λv i=>by obtain⟨k,n,rfl⟩:=o v i;exact .iF _ _,λ_=>⟨m,λ_=>⟨y,l⟩,λq=>by rw[B]at q;cases q⟩⟩
 rintro b (q|q|q|rfl|rfl)
 .let⟨c,e,d,f,j,l,m,o,_⟩:=u b q;exact⟨c,e,d,f,j,p (λ_=>È) l,λ_=>⟨m,λt=>(by rw[x b q]at t;cases t),λ_=>o⟩⟩
 .let⟨c,e,d,f,j,l,m,o,_⟩:=g.M b<|È q;exact⟨c,e,d,f,j,p (λi k=>k.elim (λz=>Ï<|È z) λz=>Ï<|Ï<|È z) l,λ_=>⟨m,λt=>(by rw[q]at t;cases t),λ_=>o⟩⟩
 .let⟨c,e,d,f,j,l,m,o,_⟩:=g.M b<|Ï q;exact⟨c,e,d,f,j,p (λi k=>k.elim (λz=>Ï<|È z) λz=>Ï<|Ï<|È z) l,λ_=>⟨m,λt=>(by rw[q]at t;cases t),λ_=>o⟩⟩
 .exact s 3 304 (È U) U g.I
 .exact s 4 305 (Ï U) U g.C
def pH(a:lr b=Ë\/i<16)(h:w.cell? ⟨b,i,Á⟩=Â v):(World.tp (kZ V w) xQ 0).cell? ⟨b,i,Á⟩=Â v:=by
 have j:(World.tp (kZ V w) xQ 0).heap[b]?=(w.heap[b]?).map (pz V b):=FD b;simp only[ä,j];simp only[ä]at h;cases g:w.heap[b]? with
 |none=>rw[g]at h;cases h
 |some k=>
  rw[g]at h;cases k with
  |cells c e m=>
   simp only[ý,pz,ü,ð,if_false]at h|-;split
   .rename_i d;split at d
    .split at d
     .rename_i l;cases d;rcases a with a|a
      .rw[l]at a;cases a
      .unfold uG;rw[Array.getElem?_extract];simp;exact⟨by have:=(Ù.1 h).1;omega,h⟩
     .cases d;exact h
    .cases d;exact h
   .rename_i f;split at f
    .split at f<;>exact absurd U<|f _ _ _
    .exact absurd U<|f _ _ _
  |_=>cases h
def aaX{T:Ž}(d:kD nB X w)(e:∀b,X b->lr b=Ë):iV (lh X nB) w (World.tp (kZ V w) T 0):=by rintro i j o v ⟨rfl,a⟩ c;exact⟨v,pH (È<|e i a) c,d.r a c⟩
end
def RD(s:List fJ)(b:Ñ)(a:Nat->Prop)(w:Í):Prop:=∃c,kj c=s/\lz s/\Np b c w/\kD nB a w/\fl (lh a nB) b b
section
variable{V:Nat->Prop}{s:List fJ}
def aaY(h:kD nB X w)(k:∀b,X b->u.heap[b]?=w.heap[b]?):iV (lh X nB) w u:=by rintro i j o v ⟨rfl,a⟩ c;exact⟨v,by simp only[ä,k i a];exact c,h.r a c⟩
def RD.r(h:RD s v X w)(k:∀b,X b->u.heap[b]?=w.heap[b]?):RD s v X u:=by let⟨l,d,e,f,a,c⟩:=h;let⟨g,i,j⟩:=JG (aaY a k) c f;exact⟨g,i.trans d,e,j,a.C k,c⟩
def JK(r:Nat)(q:Qn)(w:Í):Prop:=pD r q.x q.y q.g q.k q.r q.v q.C q.I w
def aaZ{Y:fp}(a:iV Y u w){r:Nat}{q:Qn}(b:Y r i)(h:JK r q u):JK i q w:= ⟨a.r b h.I,a.r b h.S,a.r b h.a,a.r b h.Y,a.r b h.N,a.r b h.M,a.r b h.c,a.r b h.b⟩
def apw{T:Ž}(g:nI w):gR.lI (World.tp (kZ V w) T 0):=by
 have a:=g.S;have h:À.globalNamed "internal/strconv.uint64pow10"=Â 1:=ft
 unfold gR.lI au ae at*;rw[h]at a|-;simp only[ĵ]at a|-;have i:(World.tp (kZ V w) T 0).heap[1]?=(w.heap[1]?).map (pz V 1):=FD 1;rw[i];cases f:w.heap[1]? with
 |none=>rw[f]at a;cases a
 |some j=>
  rw[f]at a;cases j with
  |cells c e k=>
   simp only[ý,pz,lr]at a|-;split
   .rename_i b;split at b<;>(simp at b;obtain⟨rfl,_⟩:=b;exact a)
   .rename_i d;split at d
    .exact absurd U<|d _ _ _
    .exact absurd U<|d _ _ _
  |_=>cases a
def aa0{T:Ž}(g:nI w):iK (World.tp (kZ V w) T 0):=by
 let⟨d,h,e⟩:=g.iO.M;refine⟨?_,λi r f=> ?_⟩
 .have a:(World.tp (kZ V w) T 0).heap[2]?=(w.heap[2]?).map (pz V 2):=FD 2;rw[a,e];simp only[ý,pz,lr];split
  .exact⟨d,_,U⟩
  .exact⟨d,_,U⟩
 .let⟨a,b,c⟩:=g.iO.I i r f;exact⟨pH (È U) a,pH (È U) b,pH (È U) c⟩
def apx{T:Ž}(g:nI w):qx (World.tp (kZ V w) T 0):=pH (Ï A) g.N
def Ge{T:Ž}:j5 (World.tp (kZ V w) T 0):=λi o h=>Z6 (Sh:=V) (w:=w) i o h
def apy{l:fe}{q:Qn}{r:Nat}(x:RD s v X l.w)(y:∀b,X b->l.M b)(z:kD nB V l.w)(B:∀b,V b->l.M b)(h:V r)(D:JK r q l.w)(ok:q.Ok)(g:nI l.w)(E:∀b,b=1\/b=2\/b=3\/b=4->l.M b)(j:∀b,X b\/V b->lr b=Ë)(m:List (Nat×fJ))(F:kj m=s): FG (λg=>xC g=Î) 67 #[v,Ã<|Â ⟨r,0,Á⟩] l (pG λb=>X b\/V b) λe _=>e=Ä (pE m q):=by
 let⟨L,c,d,G,H,o⟩:=x;have t:=H.I z;refine⟨?_,aaW t j g,?_,?_,λT=> ?_⟩
 .rintro b (q|q)
  .exact q.elim (y b)<|B b
  .exact E b q
 .intro b a;unfold xC at a;simp at a;exact Ï a
 .refine pF λe a=> ?_;simp at a;rcases a with rfl|rfl
  .exact o.fN<|Ac λi k=>È<|È k
  .exact fl.jV (Y:=qj (pG λb=>X b\/V b) nB) ⟨⟨U,È<|Ï h⟩,U,U⟩
 .have a:=aaX (V:=pG λb=>X b\/V b) (T:=T) t j;obtain⟨I,f,N,n,J,rfl,O,u⟩:=JG a (o.fN<|Ac λi k=>È k) G;have i:n=(kj I).length:=by rw[u.r];simp[kj]
  have P:=d.I;have Q:=d.r;rw[f,c]at i;have C:=apb (cp:=J) u Z Z (λp K=> ?_) (aaZ a ⟨U,Ï h⟩ D) ok (aa0 g) (apw g)<|apx g
  .apply C.mono;rintro e S ⟨rfl,k⟩;exact⟨by rw[apd<|f.trans<|c.trans F.symm],k.gS Ge⟩
  .have:p.2∈s:=by rw[<-c,<-f];exact Ý.2 ⟨p,K,U⟩
   exact(d.C _ this).1
end
def DV(r:Nat)(v:Int)(x:Nat)(c:List Tx)(w:Í):Prop:=∃a n d b,Dz r v x a n d w/\Dq a n b w/\lH b=c/\n<=1000
section
variable{V:Nat->Prop}{s:List fJ}
def aa1(h:kD nB X w):∀i,X i->i<w.heap.size:=λi a=>by let⟨c,e,d,b,_⟩:=h i a;exact(Ù.1 b).1
def aa2{T:Ž}(f:lr b=Ë)(h:w.heap[b]?=Â (Þ d e xJ))(g:xJ.2<=d.size):∃a,(World.tp (kZ V w) T 0).heap[b]?=Â (Þ d e a)/\a.2<=d.size:=by
 have i:(World.tp (kZ V w) T 0).heap[b]?=(w.heap[b]?).map (pz V b):=FD b;rw[i,h];simp only[ý,pz,f,ð,if_false];split
 .exact⟨_,U,â _⟩
 .exact⟨_,U,g⟩
def apz{T:Ž}(h:kD nB X w)(d:∀b,X b->lr b=Ë):kD nB X (World.tp (kZ V w) T 0):=λb a=>by let⟨c,e,m,f,g,i⟩:=h b a;let⟨j,k,l⟩:=aa2 (V:=V) (T:=T) (d b a) f g;exact⟨c,e,j,k,l,i⟩
def apA{T:Ž}(k:kD nB X w)(l:∀b,X b->lr b=Ë){r:Nat}{v:Int}{o:List Tx}(p:X r)(h:DV r v i o w):DV r v i o (World.tp (kZ V w) T 0):=by
 let⟨E,n,F,G,g,s,H,I⟩:=h;have m:=l r p;refine⟨E,n,F,G,⟨pH (È m) g.M,pH (È m) g.N,pH (È m) g.I⟩,⟨s.r,λj a t q=> ?_⟩,H,I⟩;let⟨tb,J,u,y,d,K⟩:=s.C j a t q;have z:X tb:=by have:=k.r p g.I;rw[u]at this;exact DU this
 have B:=DR<|k.r z y;have f:=l a B;let⟨L,P,C⟩:=d.b;let⟨c,e,Q,D,M,_⟩:=k a B;rw[C]at D;cases D;obtain⟨N,O,_⟩:=aa2 f C M;exact⟨tb,J,u,pH (È<|l tb z) y,⟨⟨L,N,O⟩,pH (È f) d.r,pH (È f) d.C,pH (È f) d.I,pH (È f) d.M,pH (È f) d.Y,pH (È f) d.N⟩,K⟩
def Rg(s:List fJ)(v:Ñ)(u:Í):Prop:=∃X,RD s v X u
def Rg.tp{T:Ž}(h:Rg s v w):Rg s v (World.tp w T n):=by let⟨X,h⟩:=h;exact⟨X,h.r λ_ _=>rfl⟩
def apB{Y:fp}{d:Nat->Prop}(h:rB Y d u w)(a:fl Y v x)(e:Rg s v u):∃c,RD s x c w/\∀b,c b->∃i,Y i b:=by let⟨X,f⟩:=e;have g:RD s v X {u with tape:=w.tape,drawn:=w.drawn}:=f.r λ_ _=>rfl;let⟨t,j,k,l,m,n⟩:=g;let⟨o,p,q⟩:=JG (Ae h) a l;exact⟨_,⟨o,p.trans j,k,q,Ud h m,NM a n⟩,λb ⟨i,_,r⟩=>⟨i,r⟩⟩
def apC{l:fe}{r:Nat}{d:List Tx}(hRD:RD s v X l.w)(hU:∀b,X b->l.M b)(N:kD nB V l.w)(hV:∀b,V b->l.M b)(O:V r)(hq:DV r h m d l.w)(hx:m<8)(y:-1<=h)(Ug:∀t∈d,t.Ok)(hn:d.length<=1000)(g:nI l.w)(hG:∀b,b=1\/b=2\/b=3\/b=4->l.M b)(B:∀b,X b\/V b->lr b=Ë)(D:List (Nat×fJ))(I:kj D=s): FG (λg=>xC g=Î) 66 #[v,Ã<|Â ⟨r,0,Á⟩] l (pG λb=>X b\/V b) λz u=>∃p n c,z=ï #[Ç p n c,Ä (rh D h m d).2]/\Rg (sf D h m d) (Ç p n c) u:=by
 let⟨vs,h1,E,h3,P,f⟩:=hRD;have Q:=P.I N;refine⟨?_,aaW Q B g,?_,?_,λT=> ?_⟩
 .rintro b (q|q)
  .exact q.elim (hU b)<|hV b
  .exact hG b q
 .intro b u;unfold xC at u;simp at u;exact Ï u
 .refine pF λh y=> ?_;simp at y;rcases y with rfl|rfl
  .exact f.fN<|Ac λi j=>È<|È j
  .exact fl.jV (Y:=qj (pG λb=>X b\/V b) nB) ⟨⟨U,È<|Ï O⟩,U,U⟩
 .have o:=apz (V:=pG λb=>X b\/V b) (T:=T) P λb q=>B b<|È q;obtain⟨z,k1,S,n,W,rfl,hcp,F⟩:=JG (aaX (V:=pG λb=>X b\/V b) (T:=T) Q B) (f.fN<|Ac λi j=>È j) h3;obtain⟨tp,tn,tc,a,q1,q2,rfl,q4⟩:=(apA (V:=pG λb=>X b\/V b) (T:=T) N (λb q=>B b<|Ï q) O hq);have c:=k1.trans h1;have hlen:n=s.length:=by rw[F.r,<-c];simp[kj]
  have atV:=E.I;have hle:=E.r;have qR:j5 (World.tp (kZ (pG λb=>X b\/V b) l.w) T 0):=Ge;have C:=anI F Z Z hcp (λp J=>by
   have:p.2∈s:=by rw[<-c];exact Ý.2 ⟨p,J,U⟩
   have:=(E.C _ this).2.2.2;omega) q1 q2 q4 (aa0 g) hx y
  have u:sf z h m (lH a)=sf D h m (lH a):=by unfold sf;rw[aaO<|c.trans I.symm,c,I]
  have H:lz (sf z h m<|lH a):=lz.M (by rwa[c]) Ug hn;have ha:=aaO (c.trans I.symm) h m<|lH a;generalize World.tp (kZ (pG λb=>X b\/V b) l.w) T 0=G at*;refine C.mono ?_;rintro e u' ⟨k,hA⟩;rcases hA with⟨K,rfl⟩|⟨nv,b,td,K,rfl,e3,e4,gb,gn,gc,rfl,e6⟩
  .refine⟨⟨S,n,W,by rw[ha],?_⟩,k.gS qR⟩;rw[<-u];have L:sf z h m (lH a)=s:=by unfold sf;rw[K,c];simp
   rw[L]at H|-;exact⟨X,z,c,H,⟨S,n,W,U,hcp,F.I k⟩,o.C λi j=>k.N i (aa1 o i j) id,f⟩
  .let⟨i,m1,m2,m3,_⟩:=apo o k (aa1 o) e4 e6 λp J=>by
    let⟨j,hj⟩:=Ĝ J;let⟨sb,so,f1,f2,_⟩:=F.C j p.1 p.2 hj;have:X sb:=by rw[f1]at f;exact DU f
    exact DR<|o.r this f2
   refine⟨⟨Â ⟨gb,0,Á⟩,gn,gc,by rw[ha],?_⟩,k.gS qR⟩;rw[<-u];have L:sf z h m (lH a)=kj (z++[(b,nv)]):=by unfold sf;rw[K];simp[kj]
   rw[L]at H|-;exact⟨i,_,U,H,e3,m3,fl.kO (Y:=lh i nB) ⟨⟨U,m2⟩,U,U⟩ gn gc⟩
end
structure vZ where
 r:Nat->Int×Nat×List Tx
 C:Nat->Qn
def mW(s:List fJ):List (Nat×fJ):=s.map λv=>(0,v)
def Gf(s:List fJ):kj (mW s)=s:=by simp[kj,mW,Function.comp_def]
def DW(s:List fJ)(i:Int×Nat×List Tx):List fJ:=sf (mW s) i.1 i.2.1 i.2.2
def pI(a:vZ)(I:List Nat)(b:List fJ):Nat->List fJ
 |0=>b
 |k+1=>DW (pI a I b k)<|a.r<|I.getD k 0
def we(a:vZ)(kd:Nat->Int)(p:Nat)(s:List fJ):ByteArray:=if kd p=1 then(rh (mW s) (a.r p).1 (a.r p).2.1 (a.r p).2.2).2 else pE (mW s) (a.C p)
def iA(e:fe)(a:Nat->Prop)(c:vZ)(kd:Nat->Int)(R:Nat)(d:List fJ)(f:Nat->Prop):xB where
 γ:=List fJ
 C:=d
 M:=λk s g=>g=DW s (c.r<|(gX kd R).getD k 0)
 RD:=λs h V w=>RD s h V w/\∀b,V b->a b\/e.w.heap.size<=b
 I:=λp=>we c kd p<|pI c (gX kd R) d<|fK kd p
 r:=f
def Uh{kd:Nat->Int}:∀(R k:Nat),k<(gX kd R).length->fK kd ((gX kd R).getD k 0)=k
 |0,k,h=>by simp[gX]at h
 |R+1,k,h=>by
  by_cases q:kd R=1
  .rw[s8 q]at h|-;rcases ĥ k (gX kd R).length with z|z
   .have e:(gX kd R++[R]).getD k 0=(gX kd R).getD k 0:=by simp[ď,ċ z]
    rw[e];exact Uh R k z
   .have e:k=(gX kd R).length:=by simp at h;omega
    subst e;simp[ď,fK]
  .rw[vM q]at h|-;exact Uh R k h
section
variable{y:Nat->Prop}
def NO(h:kD nB y w)(g:nI w):∀b,y b->lr b=Ë:=λb i=>by
 let⟨c,e,m,f,_,_,_,_,j,k⟩:=h b i;cases d:lr b with
 |false=>rfl
 |true=>
  unfold lr at d;simp at d;rcases d with rfl|rfl
  .let⟨l,pS,a,_⟩:=g.I;rw[f]at a;cases a;exact absurd U j
  .let⟨l,pS,a,_⟩:=g.C;rw[f]at a;cases a;exact absurd U k
def apD(p:kD nB X w)(k:∀b,X b->u.heap[b]?=w.heap[b]?){r:Nat}{s:List Tx}(g:X r)(h:DV r c i s w):DV r c i s u:=by
 have d:∀{b o:Nat} {z:Ñ},X b->w.cell? ⟨b,o,Á⟩=Â z->u.cell? ⟨b,o,Á⟩=Â z:=λ{b o z} l q=>by simp only[ä,k b l];exact q
 let⟨D,n,E,F,m,y,G,H⟩:=h;refine⟨D,n,E,F,⟨d g m.M,d g m.N,d g m.I⟩,⟨y.r,λj a t q=> ?_⟩,G,H⟩;let⟨tb,I,B,C,e,J⟩:=y.C j a t q;have l:X tb:=by have:=p.r g m.I;rw[B]at this;exact DU this
 have f:=DR<|p.r l C;let⟨K,L,M⟩:=e.b;exact⟨tb,I,B,d l C,⟨⟨K,L,by rwa[k a f]⟩,d f e.r,d f e.C,d f e.I,d f e.M,d f e.Y,d f e.N⟩,J⟩
end
structure JL(l0:fe)(bt:vZ)(kd:Nat->Int)(rq:Nat->Nat)(R:Nat)(Q:Nat->Prop):Prop where
 M:nI l0.w
 I:∀b,b=1\/b=2\/b=3\/b=4->l0.O b
 C:kD nB Q l0.w
 fq:∀b,Q b->l0.O b
 r:∀p,p<R->Q (rq p)
 kH:∀p,p<R->kd p=1->DV (rq p) (bt.r p).1 (bt.r p).2.1 (bt.r p).2.2 l0.w/\(bt.r p).2.1<8/\-1<=(bt.r p).1/\(∀t∈(bt.r p).2.2,t.Ok)/\(bt.r p).2.2.length<=1000
 Sq:∀p,p<R->kd p≠1->JK (rq p) (bt.C p) l0.w/\(bt.C p).Ok
def aa3{V:Nat->Prop}{l:fe}{a:Ñ->Í->Prop}(h:FG X F d l V vQ)(b:∀v u,vQ v u->a v u):FG X F d l V a:= ⟨h.N,h.S,h.I,h.r,λT=>(h.C T).mono λe u q=>by
  cases e with
  |returned v=>exact⟨b v u q.1,q.2⟩
  |_=>exact q⟩
section
variable{l0:fe}{bt:vZ}{kd:Nat->Int}{rq:Nat->Nat}{R:Nat}{Q C d:Nat->Prop}{B:List fJ}{E F:Option Ā}
def aa4{s:List fJ}(h:fv.nt ((kB (iA l0 d bt kd R B C) i n R kd rq D E F j9 j7 k m J j qX l0).r À) b s):s=pI bt (gX kd R) B b:=by
 have c:∀(b:Nat) (s:((kB (iA l0 d bt kd R B C) i n R kd rq D E F j9 j7 k m J j qX l0).r À).γ),fv.nt ((kB (iA l0 d bt kd R B C) i n R kd rq D E F j9 j7 k m J j qX l0).r À) b s->s=pI bt (gX kd R) B b:=λb s h=>by
  induction h with
  |vm=>rfl
  |EC _ a e=>
   rwa[e]at a
 exact c b s h
def apE(h:JL l0 bt kd rq R Q)(N:l0.w.heap.size<=m):FB (kB (iA l0 d bt kd R B C) i n R kd rq D E F j9 j7 k m J j qX l0):=by
 apply akp yp b_ a_ U;intro a s O W l q t f x y P g G;let⟨f,S⟩:=f;have T:=y.fx m<|g m<|Ï U;have H:l0.w.heap.size<=l.w.heap.size:=Z
 have o:=G;have p:=h.M.r (Ì h.M.fx H) λb c=>o b<|h.I b c;have r:=h.C.C λb c=>o b<|h.fq b c;have e:=IW<|vS q;let⟨I,K⟩:=h.Sq _ e.1 e.2;refine⟨_,aa3 (apy f x r (λb c=>g b<|È<|h.fq b c) (h.r _ e.1) (aaZ (aaY h.C λb c=>o b<|h.fq b c) ⟨U,h.r _ e.1⟩ I) K p (λb c=>g b<|È<|h.I b c) (λb c=>c.elim (NO (by let⟨_,_,_,_,z,_⟩:=f;exact z) p b)<|NO r p b) (mW s)<|Gf s) λv u L=> ?_⟩;rw[L];have z:=aa4 t;have M:(kB (iA l0 d bt kd R B C) i n R kd rq D E F j9 j7 k m J j qX l0).a a=fK kd ((jy kd R).getD a 0):=if_pos q;rw[M]at z;show _=Ä (we bt kd ((jy kd R).getD a 0)<|pI bt (gX kd R) B<|fK kd<|(jy kd R).getD a 0);rw[<-z];unfold we;rw[if_neg e.2]
def apF(h:JL l0 bt kd rq R Q)(y:(∀b,Q b->d b)/\∀b,b=1\/b=2\/b=3\/b=4->d b)(Zz:l0.w.heap.size<=m):FA (kB (iA l0 d bt kd R B C) i n R kd rq D E F j9 j7 k m J j qX l0):=by
 refine akq yp b_ a_ U (λs o u=>Rg s o u) (λs o u T n q=>Rg.tp q) ?_;intro T s o W l K L g M N hq r O;let⟨g,P⟩:=g;have hs:=N.fx m<|r m<|Ï U;have G:l0.w.heap.size<=l.w.heap.size:=Z
 have t:=O;have x:=h.M.r (Ì h.M.fx G) λb a=>t b<|h.I b a;have H:=h.C.C λb a=>t b<|h.fq b a;have I:=K;have f:=IV<|vS I;let⟨S,V,X,q4,q5⟩:=h.kH _ f.1 f.2;refine⟨_,aa3 (apC g M H (λb a=>r b<|È<|h.fq b a) (h.r _ f.1) (apD h.C (λb a=>t b<|h.fq b a) (h.r _ f.1) S) V X q4 q5 x (λb a=>r b<|È<|h.I b a) (λb a=>a.elim (NO (by let⟨_,_,_,_,z,_⟩:=g;exact z) x b)<|NO H x b) (mW s)<|Gf s) λv u hv=> ?_,?_⟩
 .obtain⟨p,z,c,rfl,Y⟩:=hv;refine⟨p,z,c,DW s<|bt.r<|(gX kd R).getD T 0,?_,U,Y⟩;have e:(kB (iA l0 d bt kd R B C) i n R kd rq D E F j9 j7 k m J j qX l0).d (T+1)=we bt kd ((gX kd R).getD T 0) (pI bt (gX kd R) B<|fK kd<|(gX kd R).getD T 0):=U;rw[e,Uh R T I,<-(aa4 L)];unfold we;rw[if_pos f.2]
 .intro Y Sh u w s' Z1 MB e p h3 h4;let⟨V',k1,c⟩:=apB e p h3;refine⟨V',⟨k1,λb a=> ?_⟩,c⟩;let⟨z,hi⟩:=c b a;rcases h4 z b hi with((q|q)|q)|q
  .exact P b q
  .exact È<|y.1 b q
  .exact È<|y.2 b q
  .exact Ï<|Ì G q
end
section
variable{R:Nat}{kd:Nat->Int}{o:Nat->Nat}{r:List ę}{l:fe}{u:Nat->fe}{bt:vZ}{j f:Nat->Prop}{s0:List fJ}
def apG{s:List fJ}(h:zw (iA l f bt kd R s0 j) k s):s=pI bt (gX kd R) s0 k:=by
 have b:∀(k:Nat) (s:(iA l f bt kd R s0 j).γ),zw (iA l f bt kd R s0 j) k s->s=pI bt (gX kd R) s0 k:=λk s h=>by
  induction h with
  |vm=>rfl
  |EC _ a c=>
   rwa[c]at a
 exact b k s h
structure Af(f:Nat->Prop)(bt:vZ)(R:Nat)(kd:Nat->Int)(s0:List fJ)(l:fe)(an:Nat)(sl:Ñ)(l':fe):Prop where
 M:∀b,l.O b->l'.O b/\l'.w.heap[b]?=l.w.heap[b]?
 r:l'.O an/\∀p,p<R->l'.w.cell? ⟨an,p,Á⟩=Â (Ä<|we bt kd p<|pI bt (gX kd R) s0<|fK kd p)
 Y:∃V,RD (pI bt (gX kd R) s0<|fK kd R) sl V l'.w/\∀b,V b->l'.O b/\(f b\/l.w.heap.size<=b)
 d:l'.d=0
 q:¬l'.q
 S:∀b,¬l'.I b
 C:(∀a,¬l'.r a)/\(∀a,¬l'.N a)/\∀a,¬l'.K a
 I:l'.w.cell? ⟨an,R,Á⟩=Á/\kP l'.w an=Â (0,0)
def apH{a:fe}(h:G9 (iA l f bt kd R s0 j) R kd l i v a):Af f bt R kd s0 l i v a:=by let⟨s,V,g,c,k⟩:=h.IX;have e:=apG g;subst e;exact⟨h.vt,h.ky,⟨V,c.1,λb q=>⟨k b q,c.2 b q⟩⟩,h.d,h.q,h.rd,h.zx,h.Ek⟩
def apI{J:(Loc->Prop)->Nat->Jd}{F:ę}(P:qX=F.at y (Ð Q (j9::jJ)::L)::r)(c:fv.rQ À zX i (Mz kd o R n v l qX) .fB D u E w qJ)(C:Option (Nat×Nat))(s:gw l)(S:∀b,¬l.I b)(W:¬l.q)(Y:l.d=0)(NP:vT zX i l)(H:JL l bt kd o R X)(hZ:(∀b,X b->f b)/\∀b,b=1\/b=2\/b=3\/b=4->f b)(I:∀b,f b->l.O b)(K:∀b,j b->f b)(Dd:RD s0 v j l.w)(xy:w.os=l.w.os/\w.output=l.w.output)(hn:1<=n)(hs:n+R<1000) (hJ:∀t x z B p m c,vT t x z->gw z->Af f bt R kd s0 l B (Ç p m c) z->fv.fi À Î (J t x) z (G (F.at (y.put ((Q[j9]?).bind (·.dst))<|ï #[Ç (Â ⟨B,0,Á⟩) R R,Ç p m c])<|Ð Q jJ::L) r)): ∃N t x T V IY g e td h,Η À N (ķ E w C) qJ=(.next<|ķ g e td,h)/\(e.os=l.w.os/\e.output=l.w.output)/\fv.rQ À t x (J t x) T V IY g e h:= aki (M:=iA l f bt kd R s0 j) P c C s S W Y NP (λb q=>I b<|K b q) (λs C V w e h L=>⟨h.1.r L,h.2⟩) (λs C V w h=>⟨by let⟨_,_,_,⟨g,n,N,e,_⟩,_⟩:=h.1;exact⟨g,n,N,e⟩,λb q=>(h.2 b q).imp (I b) id⟩) ⟨Dd,λb h=>È<|K b h⟩ xy hn hs (λg N V T cq B ba bi all e=>⟨apF H hZ e,apE H e⟩) λt x z B p m c e g N=>hJ t x z B p m c e g<|apH N
end
end Go.Proofs.Y.lb
namespace Go.Proofs.Y.pJ
open Go Go.Proofs Go.RowKit Go.Proofs.Y.Lift Go.Proofs.Y.gR
def ja(c:Int):Bool:=decide (48<=c)&&decide (c<=57)
def si(c:Int):Bool:=decide (97<=c)&&decide (c<=104)
def ya(c:Int):Int:=
 if c=105 then 1 else if c=103 then 2 else if c=98 then 3 else if c=99 then 4 else if c=109 then 5
 else if c=114 then 6 else if c=108 then 7 else if c=117 then 8 else if c=100 then 9 else 0
def NQ(c:Int):Int:=if c=62 then 1 else if c=123 then 2 else if c=58 then 3 else 0
def apJ(h:48<=c/\c<=57):ja c=Î:=by simp[ja,h]
def Gi(c:Int):ja c=Î↔(48<=c/\c<=57):=by simp[ja]
def apK(c:Int):si c=Î↔(97<=c/\c<=104):=by simp[si]
def wh(k:Int):List Int:=
 if k=1 then[86,58,120,47,66]else if k=2 then[86,58,120,115]else if k=3 then[86,58,120]
 else if k=4 then[86,58,120,62,121,40,110,44,107,41]else if k=5 then[86,58,120,62,121,40,107,41]
 else if k=9 then[86,58,87]else[86]
def pK(k:Int):List Int:=
 if k=1 then[121,61,110]else if k=2 then[80]else[121,40,110,44,107,41]
def qz(a c:Int):Bool:=
 if a=86\/a=87 then c==104||ja c
 else if a=110\/a=107 then ja c
 else if a=120\/a=121 then si c
 else if a=115 then ja c||(decide (97<=c)&&decide (c<=102))
 else c==a
def sj(a c:Int):Int:=
 if c=48\/ja c=Ë then 0
 else if a=86\/a=87 then 1
 else if a=110\/a=107 then 5
 else 0
def jU(s:ByteArray):List Int:=s.data.toList.map λc=>((c.toNat:Nat):Int)
def apL(B:ByteArray)(k:Nat)(h:k<B.size):(jU B).drop k=((B[k].toNat:Nat):Int)::(jU B).drop (k+1):=by
 have a:k<(jU B).length:=by simpa[jU]using h
 rw[List.drop_eq_getElem_cons a];congr 1;simp[jU,Ē]
def Ui(B:ByteArray):(jU B).length=B.size:=by unfold jU;rw[í,Č];rfl
def wi(s:ByteArray)(h:0<s.size):jU s=((s[0].toNat:Nat):Int)::(jU s).tail:=by have:=apL s 0 h;rw[List.drop_zero]at this;rw[this];simp
def aa5(s:ByteArray)(h:s.size=0):jU s=[]:=by apply Ó;rw[Ui,h]
def apM(s:ByteArray):jU (s.extract 1 s.size)=(jU s).tail:=by unfold jU;rw[ĺ,Ń,<-List.map_tail];congr 1;rw[ĭ,<-List.drop_one];apply List.take_of_length_le;simp[<-χ]
def apN(s:ByteArray)(h:s.size<=10):(s.extract 1 s.size).size<=10:=by rw[ē];omega
def apO(a c:Int):0<=sj a c/\sj a c<=5:=by
 unfold sj;split
 .omega
 .split
  .omega
  .split<;>omega
structure PT where
 c:List Int
 p:ByteArray
structure PR where
 c:List Int
 r:List PT
structure PD where
 S:List PR
 r:Bool
 I:PR
 M:Bool
 N:PT
structure PS where
 C:List Int
 r:Int
 I:Int
 M:Int
 d:PD
namespace PD
def Y(d:PD):List PT:=if d.M then d.I.r++[d.N]else d.I.r
def C(d:PD):List PR:=if d.r then d.S++[⟨d.I.c,d.Y⟩]else d.S
def uR(d:PD)(i:Nat)(z:Int):PD:={d with I:={d.I with c:=d.I.c.set i z}}
def wj(d:PD)(i:Nat)(z:Int):PD:={d with N:={d.N with c:=d.N.c.set i z}}
def jB(d:PD)(i:Nat)(z:Int):PD:=if d.M then d.wj i z else d.uR i z
def tx(d:PD)(p:ByteArray):PD:={d with N:={d.N with p:=p}}
def Gd:PT:=⟨[0,0,0,0,0],⟨#[]⟩⟩
def aa6(k:Int):PR:=⟨[0,0,0,0,k,0,0,0],[]⟩
def sk(d:PD):PD:={d with I:=⟨d.I.c,d.Y⟩,M:=Î,N:=Gd}
def Gj(d:PD)(k:Int):PD:={S:=d.C,r:=Î,I:=aa6 k,M:=Ë,N:=d.N}
def fZ(d:PD)(a z:Int):PD:=
 if a=86 then d.uR 5 z else if a=87 then d.uR 6 z else if a=120 then d.jB 0 z else if a=121 then d.jB 1 z
 else if a=110 then d.jB 2 z else if a=107 then d.jB 3 z else if a=115 then d.uR 7 z else d
def yb(d:PD)(i:Nat):Int:=if d.M then d.N.c.getD i 0 else d.I.c.getD i 0
def G(d:PD)(a:Int):Int:=if a=86 then d.I.c.getD 5 0 else if a=87 then d.I.c.getD 6 0 else if a=110 then d.yb 2 else d.yb 3
end PD
def mX(a c:Int):Int:=
 if a=120\/a=121 then á [97,98,99,100,101,102,103,104] c.toNat.toUInt8
 else if a=115 then á [48,49,50,51,52,53,54,55,56,57,97,98,99,100,101,102] c.toNat.toUInt8
 else if c=104 then-1 else(c-48)%256
def sr(z c:Int):Int:=É.wrap<|É.wrap (z*10)+(c-48)%256
def su(st:PS)(c:Int):Option PS:=
 if c=59/\st.d.S.length+1<24 then Â {st with C:=[82]}
 else if c=44/\0<st.d.Y.length/\st.d.Y.length<8 then Â {st with C:=[120,84],d:=st.d.sk}
 else Á
def Ag(st:PS)(k:Int):Option PS:=if k=0 then Á else Â {st with C:=wh k,d:=st.d.Gj k}
def yc(st:PS)(k:Int):Option PS:=if k=0 then Á else Â {st with C:=pK k,I:=0,d:=st.d.wj 4 k}
def pL(st:PS)(a c:Int):PS:={st with r:=sj a c,M:=a,d:=st.d.fZ a (mX a c)}
def ly(B:ByteArray)(k:Nat)(st:PS)(c:Int):Option PS:=
 match st.C with
 |[]=>su st c
 |want::tl=>
  if want=82 then Ag st (ya c)
  else if want=66 then
   if si c=Î then Â (pL {st with C:=[84],d:=st.d.sk} 120 c)else su st c
  else if want=84 then yc st (NQ c)
  else if want=80 then
   if c=125 then Â {st with C:=tl,d:=st.d.tx (B.extract (k-st.I.toNat) k)}
   else if st.I=40\/lG c=0 then Á else Â {st with I:=st.I+1}
  else if qz want c=Î then Â {pL st want c with C:=tl}
  else Á
def JN(st:PS)(c:Int):PS:={st with r:=st.r-1,d:=st.d.fZ st.M (sr (st.d.G st.M) c)}
def rj(B:ByteArray)(k:Nat)(st:PS)(c:Int):Option PS:=
 if 0<st.r/\ja c=Î then Â (JN st c)else ly B k {st with r:=0} c
def ov(B:ByteArray):Nat->Nat->PS->Nat×PS
 |0,k,st=>(k,st)
 |f+1,k,st=>if h:k<B.size then match rj B k st (B[k].toNat:Int)with
  |none=>(k,st)
  |some a=>ov B f (k+1) a
  else(k,st)
def pd0:PD:=⟨[],Ë,⟨[],[]⟩,Ë,⟨[],⟨#[]⟩⟩⟩
def tA:PS:=⟨[82],0,0,0,pd0⟩
def sw(c:Int)(w:Í): Ò À 94 #[Å ű c] w λe a=>e=Æ (û<|ja c)/\a=w:=by
 go_enter Tryz.func94,Tryz.ntmps94;go_wp2;all_goals go_ret
 all_goals exact⟨h_ (by simp only[ja];first|(simp[*];done)|(rw[ğ];simp;omega)),U⟩
def apP(s:ByteArray)(c:Int)(w:Í): Ò À 167 #[Ä s,Å ű c] w λe a=>e=Æ (Å É<|á s.data.toList c.toNat.toUInt8)/\a=w:=by go_enter Tryz.func167,Tryz.ntmps167;go_wp2;rw[run_callFunc_extern Tryz.func185 ft ft ft ft,Lib.run_indexByteString];simp only[Ź];rw[Oper.upon_value];go_wp2;go_ret;exact⟨U,U⟩
def JO(s:ByteArray)(c:Int)(w:Í): Ò À 146 #[Ä s,Å ű c] w λe a=>e=Æ (Å É<|á s.data.toList c.toNat.toUInt8)/\a=w:=by go_enter Tryz.func146,Tryz.ntmps146;go_wp2_with (go_at_call 167;refine(apP _ _ _).mono ?_;rintro e a ⟨rfl,rfl⟩);go_ret;exact⟨U,U⟩
def NS(c:Int):Bool:=ja c||(decide (97<=c)&&decide (c<=102))
def apQ:∀n:Fin 256,decide (0<=á [97,98,99,100,101,102,103,104] n.val.toUInt8)=si (n.val:Int):=by decide+kernel
def apR:∀n:Fin 256,decide (0<=á [48,49,50,51,52,53,54,55,56,57,97,98,99,100,101,102] n.val.toUInt8)=NS (n.val:Int):=by decide+kernel
def apS(a:0<=c)(b:c<256):decide (0<=á [97,98,99,100,101,102,103,104] c.toNat.toUInt8)=si c:=by have:=apQ ⟨c.toNat,Z⟩;rwa[show((c.toNat:Nat):Int)=c from by omega]at this
def apT(a:0<=c)(b:c<256):decide (0<=á [48,49,50,51,52,53,54,55,56,57,97,98,99,100,101,102] c.toNat.toUInt8)=NS c:=by have:=apR ⟨c.toNat,Z⟩;rwa[show((c.toNat:Nat):Int)=c from by omega]at this
def Uj(c:Int)(b:0<=c)(d:c<256)(w:Í): Ò À 98 #[Å ű c] w λe a=>e=Æ (û<|si c)/\a=w:=by
 have f:=apS b d;go_enter Tryz.func98,Tryz.ntmps98;go_wp2_with (go_at_call 146;refine(JO _ _ _).mono ?_;rintro e a ⟨rfl,rfl⟩);all_goals go_ret
 all_goals exact⟨U,U⟩
def apU(c:Int)(b:0<=c)(d:c<256)(w:Í): Ò À 149 #[Å ű c] w λe a=>e=Æ (û<|NS c)/\a=w:=by
 have f:=apT b d;go_enter Tryz.func149,Tryz.ntmps149;go_wp2_with (go_at_call 146;refine(JO _ _ _).mono ?_;rintro e a ⟨rfl,rfl⟩);all_goals go_ret
 all_goals exact⟨U,U⟩
def apV(c:Int)(w:Í): Ò À 102 #[Å ű c] w λe a=>e=Æ (Å É<|NQ c)/\a=w:=by
 go_enter Tryz.func102,Tryz.ntmps102;go_wp2;all_goals go_ret
 all_goals refine⟨FK ?_,U⟩
 all_goals simp only[beq_iff_eq,beq_eq_false_iff_ne,ne_eq]at*
 all_goals simp[NQ, *]
def apW(c:Int)(w:Í): Ò À 97 #[Å ű c] w λe a=>e=Æ (Å É<|ya c)/\a=w:=by
 go_enter Tryz.func97,Tryz.ntmps97;go_wp2;all_goals go_ret
 all_goals refine⟨FK ?_,U⟩
 all_goals simp only[beq_iff_eq,beq_eq_false_iff_ne,ne_eq]at*
 all_goals simp[ya, *]
def aa7(b c:Int)(d:0<=c)(f:c<256)(w:Í): Ò À 104 #[Å ű b,Å ű c] w λe a=>e=Æ (û<|qz b c)/\a=w:=by
 go_enter Tryz.func104,Tryz.ntmps104;go_wp2_with (first|(go_at_call 94;refine(sw _ _).mono ?_;rintro e a ⟨rfl,rfl⟩)|(go_at_call 98;refine(Uj _ d f _).mono ?_;rintro e a ⟨rfl,rfl⟩)|(go_at_call 149;refine(apU _ d f _).mono ?_;rintro e a ⟨rfl,rfl⟩));all_goals go_ret
 all_goals refine⟨h_ ?_,U⟩
 all_goals try go_light
 all_goals simp only[beq_iff_eq,beq_eq_false_iff_ne,ne_eq]at*
 all_goals unfold qz
 all_goals first|(simp[NS, *];done)|(rw[ğ];simp[*];done)|(rw[ğ];simp[*];omega)
def apX(k:Int)(w:Í): Ò À 145 #[Å É k] w λe a=>(∃b:ByteArray,e=Æ (Ä b)/\b.size<=10/\jU b=wh k)/\a=w:=by
 go_enter Tryz.func145,Tryz.ntmps145;go_wp2;all_goals go_ret
 all_goals refine⟨⟨_,U,?_,?_⟩,U⟩
 all_goals try go_light
 all_goals simp only[beq_iff_eq,beq_eq_false_iff_ne,ne_eq]at*
 all_goals first|(simp[jU,wh, *];done)|decide
def apY(k:Int)(w:Í): Ò À 148 #[Å É k] w λe a=>(∃b:ByteArray,e=Æ (Ä b)/\b.size<=10/\jU b=pK k)/\a=w:=by
 go_enter Tryz.func148,Tryz.ntmps148;go_wp2;all_goals go_ret
 all_goals refine⟨⟨_,U,?_,?_⟩,U⟩
 all_goals try go_light
 all_goals simp only[beq_iff_eq,beq_eq_false_iff_ne,ne_eq]at*
 all_goals first|(simp[jU,pK, *];done)|decide
def mY(m s:Nat):Ñ->Prop
 |Å ű _=>False
 |Å _ _=>True
 |û _=>True
 |Ä _=>True
 |Ã Á=>True
 |Ã (Â a)=>m<=a.block/\a.block<s
 |Ç Á _ _=>True
 |Ç (Â a) _ _=>m<=a.block/\a.block<s
 |_=>False
def mY.r(h:mY m i v)(d:i<=n):mY m n v:=by
 cases v with
 |int k b=>cases k<;>exact h
 |pointer a=>cases a with
  |none=>trivial
  |some a=>exact⟨h.1,ħ h.2 d⟩
 |slice a b c=>cases a with
  |none=>trivial
  |some a=>exact⟨h.1,ħ h.2 d⟩
 |_=>exact h
def NT(m s:Nat)(o:Obj):Prop:=∃c e a,o=Þ c e a/\a.2<=c.size/\0<c.size/\e≠304/\e≠305/\∀v∈c.toList,mY m s v
def jC(m:Nat)(w:Í):Prop:=∀i o,m<=i->w.heap[i]?=Â o->NT m w.heap.size o
def NT.r{o:Obj}(h:NT m i o)(a:i<=n):NT m n o:=by let⟨c,e,b,d,f,g,j,k,l⟩:=h;exact⟨c,e,b,d,f,g,j,k,λv p=>(l v p).r a⟩
def jC.I(w:Í):jC w.heap.size w:=λi o a h=>by rw[ë a]at h;cases h
def jC.fR(h:jC m w):jC m w.drew:=h
def jC.iN(h:jC m w)(n:Nat):jC m (w.drewN n):=h
def jC.gE(h:jC m w)(cs:Array Ñ)(t:ĕ)(c:0<cs.size)(b:t≠304/\t≠305)(d:∀v∈cs.toList,mY m w.heap.size v):jC m (w.alloc<|Þ cs t):=by
 intro i o f a;have k:(w.alloc<|Þ cs t).heap.size=w.heap.size+1:=fj
 by_cases e:i<w.heap.size
 .rw[ŧ _ _ _ e]at a;exact(h i o f a).r Z
 .by_cases g:i=w.heap.size
  .subst g;rw[ź]at a;cases a;exact⟨cs,t,(0,0),U,Ü _,c,b.1,b.2,λv j=>(d v j).r Z⟩
  .rw[ë Z]at a;cases a
def jC.r(h:jC m w)(p:Ā)(l:mY m w.heap.size v):jC m (w.setCell p v):=by
 intro i o f a;have n:(w.setCell p v).heap.size=w.heap.size:=fj
 rw[n];by_cases e:i=p.block
 .subst e;unfold Γ at a;simp only[Ŀ,if_true]at a;cases d:w.heap[p.block]? with
  |none=>rw[d]at a;cases a
  |some x=>
   rw[d]at a;obtain⟨c,e,r,rfl,g,j,s,t,k⟩:=h _ _ f d;simp only[ý,Õ]at a;subst a;refine⟨_,e,r,U,?_,?_,s,t,λu b=> ?_⟩
   .split
    .exact g
    .rwa[Ĵ]
   .split
    .exact j
    .rwa[Ĵ]
   .split at b
    .exact k u b
    .rw[Array.toList_setIfInBounds]at b;rcases Į b with q|q
     .exact k u q
     .rwa[q]
 .rw[Ĩ _ _ _ _ (by simpa using e)]at a;exact h i o f a
def apZ{ty:ĕ}{bytes base:Nat}(B:P.underlying t=Â (.slice e))(C:P.info? e=Â zJ)(J:zJ.zero=Â (Ã Á)) (y:zJ.size=1) (K:zJ.bytes=bytes) (f:w.ownsRow base e 1 v n l) (a:Ā) (c:Nat) (D:∀j O,[z][j]?=Â O->w.cell? (a.add j)=Â O) (Q:z.oneCell'=Î) (S:n+1<=ĳ) (L:(n+1)*bytes<=140737488355328) (xH:base<=w.heap.size) (hfl:mb e=Ë) (hm:m<=base) (E:jC m w) (T:mY m w.heap.size z) (he:e≠304/\e≠305): ∃s u,(Ğ #[t,t] ty #[v,Ç (Â a) 1 c]).run P w=.ok s u/\qk w base e 1 v n l 1 [z] s u/\jC m u/\mY m u.heap.size s:=by
 obtain⟨s,u,h,F⟩:=SF B C J y K U f a c [z] Z U D (λx b=>by simp at b;subst b;exact Q) S L xH<|È hfl;have hgv:mY m u.heap.size s:=by
  obtain⟨p,o,rfl⟩:=jh F.fq;cases p with
  |none=>trivial
  |some p=>
   have k:=F.fq.lt p.block (by rcases F.fq.2 with⟨q,_⟩|⟨g,r,d,q,_⟩<;>(cases q;try rfl));exact⟨Z,k.2⟩
 refine⟨s,u,h,F,?_,hgv⟩;have G:[z].length=1*zJ.size:=by rw[y];rfl
 have hlx:l.length=n*zJ.size:=by rw[y];exact f.1
 have akK:n+1<=9223372036854775807:=by simp only[ĳ]at S;omega
 have tY:∀x∈l,mY m w.heap.size x:=λx b=>by
  rcases f.2 with⟨_,rfl⟩|⟨g,r,d,rfl,hbg,p,hnc,hcm,V,W⟩
  .have:=f.1;rw[Nat.zero_mul]at this;rw[Ó this]at b;cases b
  .let⟨c2,e2,pS,M,_,_,_,_,H⟩:=E g _ Z p;cases M;exact H x<|ń<|by rwa[W]
 have X:∀Y,jC m (w.drew.alloc<|Þ (l.toArray++[z].toArray++ar (ł<|Ã Á) (grownCap w (n+1) Y e-(n+1))) e):=λY=>by
  refine jC.gE E _ _ (by simp;omega) he λx b=> ?_;simp only[Array.toList_append,à]at b;rcases b with(b|b)|b
  .exact tY x b
  .simp at b;subst b;exact T
  .have:=SC b;simp[ł]at this;subst this;trivial
 rcases f.2 with⟨rfl,rfl⟩|⟨g,r,d,rfl,hbg,p,hnc,hcm,V,W⟩
 .have b:=Ó (by simpa using f.1);subst b;have q:=run_append_nil w t ty e zJ (Ã Á) B C J a 1 c [z] G D Z Z (by rw[K];have k:=L;simp only[Ĕ]at k;omega);rw[q]at h;have k:=X 0;simp only[Ĕ,List.toArray]at k;cases h;simpa using k
 .by_cases ap0:n+1<=r
  .have SG:n*zJ.size+[z].length<=d.size:=by rw[G,V,y];omega
   have q:=run_append_room w t ty e zJ B C g n r d p a 1 c [z] G D (λx b=>by simp at b;subst b;exact Q) ap0 SG;rw[q]at h;cases h;have ap1:=setRow_heap w g d (d.toList.take (n*zJ.size)++[z]++d.toList.drop (n*zJ.size+[z].length)).toArray e _ p;have ap2:=λk (N:k≠g)=>setRow_other w g k (d.toList.take (n*zJ.size)++[z]++d.toList.drop (n*zJ.size+[z].length)).toArray N;let⟨c2,e2,pS,M,q2,q3,q4,q5,H⟩:=E g _ Z p;cases M;intro k o N I;have jH:(w.setRow g (d.toList.take (n*zJ.size)++[z]++d.toList.drop (n*zJ.size+[z].length)).toArray).heap.size=w.heap.size:=fj
   rw[jH];by_cases e3:k=g
   .subst e3;rw[ap1]at I;cases I;refine⟨_,_,_,U,fj,(by simp;omega),q4,q5,λx b=> ?_⟩;simp only[à]at b;rcases b with(b|b)|b
    .exact H x<|ń b
    .simp at b;subst b;exact T
    .exact H x<|List.mem_of_mem_drop b
   .rw[ap2 k e3]at I;exact E k o N I
  .have k:w.ownsRow base e zJ.size (Ç (Â ⟨g,0,Á⟩) n r) n l:=by rwa[y]
   have q:=run_append_grow w t ty e zJ (Ã Á) B C J ⟨g,0,Á⟩ n r l hlx (k.cells U) a 1 c [z] G D Z Z (by rw[K];exact growslice_fits Z L);rw[q]at h;cases h;exact X r
def aa8{f:Array Ĥ}{E:Prop}{base:Nat} (k:o.guard=Á) (s x:Operand) (t:ĕ) (p:o.op=Op.call {callee:=Callee.builtin φ,args:=#[s,x],argTypes:=#[t,t]}) {bytes:Nat} (q:P.underlying t=Â (.slice e)) (r:P.info? e=Â zJ) (B:zJ.zero=Â (Ã Á)) (C:zJ.size=1) (D:zJ.bytes=bytes) (F:y.eval s=v) (G:w.ownsRow base e 1 v n l) (ad:Ā) (H:y.eval x=Ç (Â ad) 1 b) (I:∀j g,[z][j]?=Â g->w.cell? (ad.add j)=Â g) (J:z.oneCell'=Î) (L:n+1<=ĳ) (M:(n+1)*bytes<=140737488355328) (N:base<=w.heap.size) (O:mb e=Ë) (S:m<=base) (T:jC m w) (V:mY m w.heap.size z) (W:e≠304/\e≠305) (h:∀d u,qk w base e 1 v n l 1 [z] d u->jC m u->mY m u.heap.size d->K (y.put o.dst d) u): if Ę o (Ρ f y.tmps)=Î then Oper.wp P o y w K vJ else E:=by
 have X:Ę o (Ρ f y.tmps)=Î:=by simp[Ę,k]
 rw[if_pos X];let⟨d,u,Y,h2,h3,h4⟩:=apZ (ty:=o.type) q r B C D G ad b I J L M N O S T V W;unfold Oper.wp;simp[ţ,p,ah,aE,ai,F,H,Y,Ź];exact h d u h2 h3 h4
def nJ(l:List Nat):List Ñ:=l.map λa=>Ã<|Â ⟨a,0,Á⟩
def ow(l:List Int):List Ñ:=l.map λz=>Å É z
def Gk(p:PT):List Ñ:=ow p.c++[Ä p.p]
def DX(c:List Int)(a:Ñ):List Ñ:=ow c++[a]
structure oU(lo hi:Nat)(tb:List Nat)(l:List PT)(w:Í):Prop where
 r:tb.length=l.length
 I:∀(j a:Nat) (p:PT),tb[j]?=Â a->l[j]?=Â p->lo<=a/\a<hi/\p.c.length=5/\fh a (Gk p) 200 w
structure wm(B q:Nat)(r:PR)(w:Í):Prop where
 M:q<B
 C:r.c.length=8
 I:∃vb tb,fh q (DX r.c vb) 161 w/\w.ownsRow 0 149 1 vb tb.length (nJ tb)/\(∀j,vb.ownBlock=Â j->j<B)/\oU 0 B tb r.r w
structure pM(B:Nat)(qs:List Nat)(rs:List PR)(w:Í):Prop where
 I:qs.length=rs.length
 M:∀(j q:Nat) (r:PR),qs[j]?=Â q->rs[j]?=Â r->wm B q r w
section
variable{w':Í}{lo hi B q:Nat}{tb qs:List Nat}{l:List PT}{r:PR}{rs:List PR}
def oU.C(h:oU lo hi tb l w)(k:fc X w w')(f:∀a c g,lo<=a->a<hi->w.heap[a]?=Â (Þ c 200 g)->¬X a):oU lo hi tb l w':= ⟨h.r,λj a p i m=>by let⟨b,d,n,e⟩:=h.I j a p i m;exact⟨b,d,n,e.I k<|f a _ _ b d e⟩⟩
def oU.M(h:oU lo hi tb l w)(f:i<=lo)(g:hi<=n):oU i n tb l w:= ⟨h.r,λj a p b c=>by let⟨k,m,d,e⟩:=h.I j a p b c;exact⟨Z,Z,d,e⟩⟩
def oU.N(lo hi:Nat)(w:Í):oU lo hi [] [] w:=⟨U,λj a p h=>by cases h⟩
def Gl{α:Type}{l:List α}{a x:α}(h:(l++[a])[j]?=Â x):l[j]?=Â x\/j=l.length/\x=a:=by
 rcases Nat.lt_trichotomy j l.length with e|e|e
 .rw[ċ e]at h;exact È h
 .subst e;simp at h;exact Ï ⟨U,h.symm⟩
 .rw[Ľ (by simp;omega)]at h;cases h
def oU.Uk{p:PT}(h:oU lo hi tb l w)(d:lo<=i)(g:i<hi)(k:p.c.length=5)(m:fh i (Gk p) 200 w):oU lo hi (tb++[i]) (l++[p]) w:=by
 refine⟨by simp[h.r],λj x y n b=> ?_⟩;rcases Gl n with e|⟨e,rfl⟩
 .rcases Gl b with f|⟨f,rfl⟩
  .exact h.I j x y e f
  .have:=(Ö.1 e).1;have:=h.r;omega
 .rcases Gl b with f|⟨f,rfl⟩
  .have:=(Ö.1 f).1;have:=h.r;omega
  .exact⟨d,g,k,m⟩
def Ul(B:Nat)(w:Í)(i:Nat):Prop:=B<=i\/∃c T a,w.heap[i]?=Â (Þ c T a)/\(T=153\/T=148)
def Um(e:Ul B w i)(hi:i<B)(h:w.heap[i]?=Â (Þ d T xJ))(a:T≠153/\T≠148):False:=by
 rcases e with q|⟨g,j,pS,b,f⟩
 .omega
 .rw[h]at b;cases b;rcases f with rfl|rfl
  .exact a.1 U
  .exact a.2 U
def wm.vt(h:wm B q r w)(k:fc X w w')(b:∀i,i<w.heap.size->X i->Ul B w i):wm B q r w':=by let⟨n,tb,d,e,f,o⟩:=h.I;refine⟨h.M,h.C,n,tb,d.I k λx=>Um (b q d.M x) h.M d A,ic e k λj g x=> ?_,f,o.C k λa c s _ p l x=>Um (b a (Ù.1 l).1 x) p l A⟩;let⟨t,m⟩:=lF e g;exact Um (b j (Ù.1 m).1 x) (f j g) m A
def wm.fN(h:wm B q r w)(a:B<=i):wm i q r w:=by let⟨b,tb,c,d,e,f⟩:=h.I;exact⟨by have:=h.M;omega,h.C,b,tb,c,d,λj g=>by have:=e j g;omega,f.M (â _) a⟩
def pM.C(h:pM B qs rs w)(k:fc X w w')(a:∀i,i<w.heap.size->X i->Ul B w i):pM B qs rs w':= ⟨h.I,λj q r b c=>(h.M j q r b c).vt k a⟩
def pM.Uk(h:pM B qs rs w)(b:B<=i)(c:wm i q r w):pM i (qs++[q]) (rs++[r]) w:=by
 refine⟨by simp[h.I],λj x y d a=> ?_⟩;rcases Gl d with e|⟨e,rfl⟩
 .rcases Gl a with f|⟨f,rfl⟩
  .exact(h.M j x y e f).fN b
  .have:=(Ö.1 e).1;have:=h.I;omega
 .rcases Gl a with f|⟨f,rfl⟩
  .have:=(Ö.1 f).1;have:=h.I;omega
  .exact c
def pM.N(B:Nat)(w:Í):pM B [] [] w:=⟨U,λj q r h=>by cases h⟩
end
structure Gh where
 a:List Nat
 q:Nat
 t:Nat
 B:Nat
 tb:List Nat
 N:Ñ
 r:Ñ
 b:Option Ā
namespace Gh
def C(g:Gh)(d:PD):List Nat:=if d.r then g.a++[g.q]else g.a
def I(g:Gh)(d:PD):List Nat:=if d.M then g.tb++[g.t]else g.tb
def S(g:Gh)(d:PD):Option Ā:=if d.r then Â ⟨g.q,0,Á⟩else Á
def Y(g:Gh)(d:PD):Option Ā:=if d.M then Â ⟨g.t,0,Á⟩else g.b
def M(g:Gh)(d:PD):Nat:=if d.M then g.t else g.q
def G(g:Gh)(d:PD):Option Ā:=if d.r then Â ⟨g.M d,0,Á⟩else Á
def DY(g:Gh)(d:PD)(a:Int):Ā:=if a=86 then⟨g.q,5,Á⟩else if a=87 then⟨g.q,6,Á⟩else if a=110 then⟨g.M d,2,Á⟩else⟨g.M d,3,Á⟩
end Gh
structure wo(m:Nat)(g:Gh)(d:PD)(w:Í):Prop where
 S:m<=g.B
 N:g.B<=g.q
 M:d.I.c.length=8
 r:fh g.q (DX d.I.c g.r) 161 w
 I:w.ownsRow g.B 149 1 g.r (g.I d).length (nJ<|g.I d)
 Y:oU g.B g.t g.tb d.I.r w
 C:d.M=Î->g.B<=g.t/\d.N.c.length=5/\fh g.t (Gk d.N) 200 w
 a:d.M=Ë->g.tb=[]/\d.I.r=[]
structure kt(m:Nat)(g:Gh)(d:PD)(w:Í):Prop where
 C:w.ownsRow m 148 1 g.N (g.C d).length (nJ<|g.C d)
 I:pM g.B g.a d.S w
 r:d.r=Î->wo m g d w
 N:d.r=Ë->d.M=Ë
def Un(s:ByteArray)(g:Gh)(d:PD)(a:Option Ā)(lj b:Int):List Ñ:=
 [Ä s,g.N,Ã<|g.S d,Ã<|g.Y d,Ã<|g.G d,Ã a,Å É lj,Å É b]
structure gO(m b:Nat)(g:Gh)(c:Option Ā)(s:ByteArray)(st:PS)(w:Í):Prop where
 S:m<=b
 a:jC m w
 r:fh b (Un s g st.d c st.r st.I) 153 w
 M:s.size<=10
 I:jU s=st.C
 C:kt m g st.d w
 c:0<st.r->st.d.r=Î/\c=Â (g.DY st.d st.M)
 N:st.d.r=Î\/st.C=[82]
def sx(m b:Nat)(st:PS)(w a:Í):Prop:=fc (λi=>m<=i) w a/\∃g i s,gO m b g i s st a
section
variable{w':Í}{g:Gh}{d:PD}{s:ByteArray}{st:PS}
def wo.vt(h:wo m g d w)(k:fc X w w')(p:∀i c T b,w.heap[i]?=Â (Þ c T b)->X i->T=153\/T=148):wo m g d w':=by
 have f:∀{i:Nat} {c:Array Ñ} {T:ĕ} {b:Nat×Nat},w.heap[i]?=Â (Þ c T b)->(T≠153/\T≠148)->¬X i:=λ{i c T b} n l x=>(p i c T b n x).elim l.1 l.2;refine⟨h.S,h.N,h.M,h.r.I k<|f h.r A,ic h.I k λj r=> ?_,h.Y.C k λa c b _ _ q=>f q A,λe=> ?_,h.a⟩
 .let⟨s,o⟩:=lF h.I r;exact f o A
 .let⟨n,l,o⟩:=h.C e;exact⟨n,l,o.I k<|f o A⟩
def kt.S(h:kt m g d w)(k:fc X w w')(b:∀i c T a,w.heap[i]?=Â (Þ c T a)->X i->T=153)(f:∀i,i<w.heap.size->X i->∃c a,w.heap[i]?=Â (Þ c 153 a)):kt m g d w':=by
 refine⟨ic h.C k λj l x=> ?_,h.I.C k λi n x=> ?_,λe=>(h.r e).vt k λi c T a q x=>È<|b i c T a q x,h.N⟩
 .let⟨o,q⟩:=lF h.C l;exact absurd (b j _ _ _ q x) A
 .let⟨c,a,q⟩:=f i n x;exact Ï ⟨c,_,a,q,È U⟩
def kt.M(h:kt m g d w)(a:fh b l 153 w)(k:fc (λi=>i=b) w w'):kt m g d w':= h.S k (λi c T e q x=>by subst x;unfold fh at a;rw[a]at q;cases q;rfl) λi _ x=>⟨l.toArray,(0,0),by rwa[x]⟩
def pN{i:Nat}{v:Value}{j:Nat}{vs:List Value}{T:TypeId}(h:fh j vs T w)(hT:mb T=false:=by decide):fc (λk=>k=j) w (w.setCell ⟨j,i,none⟩ v):=fc.I (X:=λk=>k=j) U v<|Ï<|h.G hT
def kt.aa9(h:kt m g d w):(g.C d).length=d.C.length:=by unfold Gh.C PD.C;split<;>simp[h.I.I]
def wo.G(h:wo m g d w):(g.I d).length=d.Y.length:=by unfold Gh.I PD.Y;split<;>simp[h.Y.r]
def Uo(h:i<zQ.length)(v:Ñ):(ow zQ++[v])[i]?=Â (Å É<|zQ.getD i 0):=by rw[ċ (by simpa[ow]using h)];simp[ow,ď,h]
def abb(l:List Int)(i:Nat)(z:Int)(v:Ñ)(h:i<l.length):(ow l++[v]).set i (Å É z)=ow (l.set i z)++[v]:=by rw[List.set_append_left _ _ (by simpa[ow]using h)];simp[ow,List.map_set]
def abd(l:List Int)(v u:Ñ):(ow l++[v]).set l.length u=ow l++[u]:=by rw[ļ _ _ (by simp[ow])];simp[ow]
def DZ(l:List Int)(v:Ñ):(ow l++[v])[l.length]?=Â v:=by rw[Ħ (by simp[ow])];simp[ow]
def kt.Y(h:kt m g d w)(on:d.r=Î)(n:i<8)(z:Int):kt m g (d.uR i z) (w.setCell ⟨g.q,i,Á⟩<|Å É z):=by
 have l:=h.r on;have k:fc (λk=>k=g.q) w (w.setCell ⟨g.q,i,Á⟩<|Å É z):=pN l.r;have r:=l.N;refine⟨ic h.C k λj b x=>jA h.C l.r A (by rw[b,x]),h.I.C k λi _ x=>È Z,λ_=>⟨l.S,l.N,by simp[PD.uR,l.M],?_,ic l.I k λj b x=>jA l.I l.r A (by rw[b,x]),l.Y.C k λa c s _ _ q x=> ?_,λe=> ?_,l.a⟩,h.N⟩
 .have:=l.r.fZ i<|Å É z;unfold DX at this;rw[abb _ _ _ _ (by rwa[l.M])]at this;exact this
 .have:=l.r;unfold fh at this;rw[<-x,q]at this;cases this
 .let⟨o,p,f⟩:=l.C e;exact⟨o,p,f.I k λx=>(fh.S f l.r A) x⟩
def kt.jB(h:kt m g d w)(on:d.r=Î)(f:d.M=Î){p:PT}(n:p.c.length=5)(o:(Gk d.N).set i v=Gk p):kt m g {d with N:=p} (w.setCell ⟨g.t,i,Á⟩ v):=by have l:=h.r on;let⟨r,s,b⟩:=l.C f;have k:fc (λk=>k=g.t) w (w.setCell ⟨g.t,i,Á⟩ v):=pN b;refine⟨ic h.C k λj e x=>jA h.C b A (by rw[e,x]),h.I.C k λi _ x=>È Z,λ_=>⟨l.S,l.N,l.M,l.r.I k λx=>(fh.S l.r b A) x,ic l.I k λj e x=>jA l.I b A (by rw[e,x]),l.Y.C k λa c u _ q _ x=>by omega,λ_=>⟨r,n,?_⟩,l.a⟩,h.N⟩;have:=b.fZ i v;rwa[o]at this
def kt.G(h:kt m g d w)(on:d.r=Î)(a:d.M=Î)(c:i<5)(z:Int):kt m g (d.wj i z) (w.setCell ⟨g.t,i,Á⟩<|Å É z):=by let⟨e,b,f⟩:=(h.r on).C a;exact h.jB on a (by simp[b])<|abb _ _ _ _<|by rwa[b]
def kt.tx(h:kt m g d w)(on:d.r=Î)(a:d.M=Î)(p:ByteArray):kt m g (d.tx p) (w.setCell ⟨g.t,5,Á⟩<|Ä p):=by let⟨e,b,f⟩:=(h.r on).C a;refine h.jB on a b ?_;have:=abd d.N.c (Ä d.N.p)<|Ä p;rwa[b]at this
def kt.atW(h:kt m g d w)(on:d.r=Î)(a:i<4)(z:Int):kt m g (d.jB i z) (w.setCell ⟨g.M d,i,Á⟩<|Å É z):=by
 unfold PD.jB Gh.M;split
 .rename_i e;exact h.G on e Z z
 .exact h.Y on Z z
structure qA(m b:Nat)(g:Gh)(d:PD)(ab ao:Nat)(f:Int->PD)(x:Int)(w:Í):Prop where
 r:ab≠b
 N:m<=ab
 a:ab<w.heap.size
 C:w.cell? ⟨ab,ao,Á⟩=Â (Å É x)
 I:w.frozen? ⟨ab,ao,Á⟩=Ë
 nf:NF ab w
 Y:∀W,kt m g d W->∀z,kt m g (f z)<|W.setCell ⟨ab,ao,Á⟩<|Å É z
 M:∀z,g.S (f z)=g.S d/\g.Y (f z)=g.Y d/\g.G (f z)=g.G d/\(f z).r=d.r/\∀n,g.DY (f z) n=g.DY d n
def Gm(h:kt m g d w)(f:fh b l 153 w)(on:d.r=Î)(e:i<8):qA m b g d g.q i (λz=>d.uR i z) (d.I.c.getD i 0) w:=by have a:=h.r on;exact⟨fh.S a.r f A,Ì a.S a.N,a.r.M,a.r.r i _ (Uo (by rwa[a.M]) _),a.r.C i,a.r.G,λW j z=>j.Y on e z,λz=>⟨U,U,U,U,λn=>rfl⟩⟩
def abe(h:kt m g d w)(k:fh b l 153 w)(on:d.r=Î)(f:d.M=Î)(j:i<5):qA m b g d g.t i (λz=>d.wj i z) (d.N.c.getD i 0) w:=by have a:=h.r on;let⟨o,p,e⟩:=a.C f;exact⟨fh.S e k A,Ì a.S o,e.M,e.r i _ (Uo (by rwa[p]) _),e.C i,e.G,λW q z=>q.G on f j z,λz=>⟨U,U,U,U,λn=>rfl⟩⟩
def Gn(h:kt m g d w)(a:fh b l 153 w)(on:d.r=Î)(c:i<4):qA m b g d (g.M d) i (λz=>d.jB i z) (d.yb i) w:=by
 unfold PD.jB PD.yb Gh.M;split
 .rename_i e;exact abe h a on e Z
 .exact Gm h a on Z
def gO.G{f:Int->PD}(h:gO m b g O s st w)(n:qA m b g st.d i j f c w)(z:Int):gO m b g O s {st with d:=f z} (w.setCell ⟨i,j,Á⟩<|Å É z):=by
 let⟨e,l,o,a,p⟩:=n.M z;have k:fc (λk=>k=i) w (w.setCell ⟨i,j,Á⟩<|Å É z):=fc.I (X:=λk=>k=i) U _<|È U;refine⟨h.S,h.a.r _ trivial,?_,h.M,h.I,n.Y w h.C z,λq=> ?_,?_⟩
 .have:=h.r.I k λc=>n.r c.symm;unfold Un at this|-;simp only[e,l,o];exact this
 .let⟨r,t⟩:=h.c q;exact⟨by simp only[a];exact r,by simp only[p];exact t⟩
 .simp only[a];exact h.N
def gO.NU(h:gO m b g O s st w)(a:ByteArray)(r:List Int)(c:a.size<=10)(e:jU a=r)(f:st.d.r=Î\/r=[82]):gO m b g O a {st with C:=r} (w.setCell ⟨b,0,Á⟩<|Ä a):= ⟨h.S,h.a.r _ trivial,h.r.fZ 0 _,c,e,h.C.M h.r<|pN h.r,h.c,f⟩
def gO.Y(h:gO m b g O s st w)(z:Int)(a:0<z->st.d.r=Î/\O=Â (g.DY st.d st.M)):gO m b g O s {st with r:=z} (w.setCell ⟨b,6,Á⟩<|Å É z):= ⟨h.S,h.a.r _ trivial,h.r.fZ 6 _,h.M,h.I,h.C.M h.r<|pN h.r,a,h.N⟩
def gO.abf(h:gO m b g O s st w)(z:Int):gO m b g O s {st with I:=z} (w.setCell ⟨b,7,Á⟩<|Å É z):= ⟨h.S,h.a.r _ trivial,h.r.fZ 7 _,h.M,h.I,h.C.M h.r<|pN h.r,h.c,h.N⟩
def gO.abg(h:gO m b g O s st w)(a:Ā)(n:Int)(d:st.r=0)(c:m<=a.block/\a.block<w.heap.size):gO m b g (Â a) s {st with M:=n} (w.setCell ⟨b,5,Á⟩<|Ã<|Â a):= ⟨h.S,h.a.r _ c,h.r.fZ 5 _,h.M,h.I,h.C.M h.r<|pN h.r,λq=>by have:0<st.r:=q;omega,h.N⟩
def gO.fR(h:gO m b g O s st w):gO m b g O s st w.drew:=by have k:=fc.fR (λ_=>False) w;exact⟨h.S,h.a,h.r.I k id,h.M,h.I,h.C.S k (λ_ _ _ _ _ x=>x.elim) λ_ _ x=>x.elim,h.c,h.N⟩
end
section
variable{g:Gh}{st:PS}{f:Int->PD}
def qA.S{d:PD}(a:qA m b g d n j f h w)(i:Nat)(v:Ñ):qA m b g d n j f h (w.setCell ⟨b,i,Á⟩ v):= ⟨a.r,a.N,by simpa using a.a,by rw[I2<|Ne.symm a.r];exact a.C,by rw[World.frozen?_setCell];exact a.I,λc T e q=>a.nf c T e (by rwa[Ĩ _ _ _ _ (by simpa using a.r)]at q),a.Y,a.M⟩
def gO.Up(h:gO m b g O B st w)(n:Int)(a:st.r=0):gO m b g O B {st with M:=n} w:= ⟨h.S,h.a,h.r,h.M,h.I,h.C,λq=>by have:0<st.r:=q;omega,h.N⟩
def mH(h:gO m b g O B st w)(i:Nat)(v:Ñ):fc (λi=>m<=i) w (w.setCell ⟨b,i,Á⟩ v):=fc.I (X:=λi=>m<=i) (p:=⟨b,i,Á⟩) h.S v<|Ï h.r.G
def Gp(a:qA m b g st.d n j f h w)(z:Int):fc (λi=>m<=i) w (w.setCell ⟨n,j,Á⟩<|Å É z):=fc.I (X:=λi=>m<=i) (p:=⟨n,j,Á⟩) a.N _<|È U
def wq(c a:Int):Int:=if c=104\/c=48 then 0 else a-1
def k9(c:Int):Int:=if c=104 then-1 else(c-48)%256
def Uq{st:PS}(h:st.r=0)(n:Int)(d:PD):({st with r:=0,M:=n,d:=d}:PS)={st with M:=n,d:=d}:=by rw[<-h]
def NV(a:gO m b g O B st w)(k:qA m b g st.d n j f h w)(l:st.r=0)(p:st.d.r=Î)(c o i:Int)(C:0<=o)(D:o<=6)(q:∀z,g.DY (f z) i=⟨n,j,Á⟩): Ò À 147 #[Ã<|Â ⟨b,0,Á⟩,Ã<|Â ⟨n,j,Á⟩,Å ű c,Å É o] w λe u=>
  e=Æ (ï #[])/\sx m b {st with r:=wq c o,M:=i,d:=f (k9 c)} w u:=by
 have E:=a.r.r 5 _ U;have F:=a.r.r 6 _ U;have G:=a.r.C 5;have I:=a.r.C 6;have J:=k.C;have K:=k.I;have L:=k.r;have M:¬b=n:=λe=>k.r e.symm;have t:m<=n/\n<w.heap.size:=⟨k.N,k.a⟩;have H:=ff<|Ê a<|Ê k<|Ê q<|Ê l p;by_cases s:c=104
 .subst s;go_enter ŝ,Ŕ;go_wp2;first|go_end0|refine ă (results_none U _ _ _) U ?_
  let⟨a,k,q,l,p⟩:=H.out;refine⟨U,Gp k _,g,O,B,?_⟩;have:=(a.G k<|-1).Up i l;rw[show wq 104 o=0 from if_pos<|È U,Uq l];exact this
 .have N:(c==104)=Ë:=by rwa[beq_eq_false_iff_ne]
  have v:k9 c=(c-48)%256:=if_neg s;by_cases y:c=48
  .subst y;go_enter ŝ,Ŕ;go_wp2;go_end0;let⟨a,k,q,l,p⟩:=H.out;have x:=a.abg ⟨n,j,Á⟩ i l t;have r:=k.S 5<|Ã<|Â ⟨n,j,Á⟩;refine⟨U,(mH a 5 _).fg<|Gp r _,g,Â ⟨n,j,Á⟩,B,?_⟩;have:=x.G r 0;rw[show wq 48 o=0 from if_pos<|Ï U,Uq l,v];exact this
  .go_enter ŝ,Ŕ;go_wp2;go_end0;let⟨a,k,q,l,p⟩:=H.out;have r:=k.S 5<|Ã<|Â ⟨n,j,Á⟩;have x:=(a.abg ⟨n,j,Á⟩ i l t).G r<|(c-48)%256;refine⟨U,((mH a 5 _).fg<|Gp r _).fg<|mH x 6 _,g,Â ⟨n,j,Á⟩,B,?_⟩;rw[show wq c o=o-1 from if_neg Z,v];exact(x.Y (o-1) λ_=>⟨by simp only;rwa[(k.M _).2.2.2.1],by simp only;rw[q]⟩)
def NW{d b:Int}(h:qz b c=Î)(a:(b=86\/b=87)/\d=2\/(b=110\/b=107)/\d=6):wq c d=sj b c:=by
 unfold wq sj;unfold qz at h;by_cases f:ja c=Î
 .rw[Gi]at f;by_cases g:c=48
  .rw[if_pos<|Ï g,if_pos<|È g]
  .rw[if_neg Z,if_neg (by rintro(e|e);exact g e;rw[apJ f]at e;cases e)];rcases a with⟨a,rfl⟩|⟨a,rfl⟩
   .rw[if_pos a];rfl
   .rw[if_neg Z,if_pos a];rfl
 .have hF:ja c=Ë:=by cases e:ja c with|false=>rfl|true=>exact absurd e f
  rw[if_pos (show c=48\/ja c=Ë from Ï hF)];rcases a with⟨a,rfl⟩|⟨a,rfl⟩
  .rw[if_pos a,hF,Bool.or_false,beq_iff_eq]at h;rw[if_pos<|È h]
  .rw[if_neg Z,if_pos a,hF]at h;cases h
def NY{a:Int}(h:¬(a=86\/a=87)/\¬(a=110\/a=107)):sj a c=0:=by
 unfold sj;split
 .rfl
 .rw[if_neg h.1,if_neg h.2]
def NZ{a:Int}(h:a=86\/a=87\/a=110\/a=107):mX a c=k9 c:=by unfold mX k9;rw[if_neg Z,if_neg Z]
def Ur(a:gO m b g O B st w)(k:qA m b g st.d n j f h w)(l:st.r=0){i z:Int}(e:c=0)(o:u=(w.setCell ⟨n,j,Á⟩<|Å É z).drew):sx m b {st with r:=c,M:=i,d:=f z} w u:=by subst o;subst e;rw[Uq l];exact⟨(Gp k z).fg<|fc.fR _ _,g,O,B,((a.G k z).Up i l).fR⟩
end
section
variable{g:Gh}{st:PS}
def JP{d:PD}(a:d.M=Î):g.Y d=Â ⟨g.t,0,Á⟩:=if_pos a
def ap3:yc st 0=Á:=rfl
def ap4(h:gO m b g O B st w)(r:st.r=0)(on:st.d.r=Î)(f:st.d.M=Î)(k:Int): Ò À 101 #[Ã<|Â ⟨b,0,Á⟩,Å É k] w λe u=>match yc st k with
  |none=>e=Æ (û Ë)/\u=w
  |some a=>e=Æ (û Î)/\sx m b a w u:=by
 have s:=h.r.r 0 _ U;have o:=h.r.r 3 _ U;have v:=h.r.r 7 _ U;rw[JP f]at o;have x:=h.r.C 0;have y:=h.r.C 7;have a:=abe h.C h.r on f (i:=4) A;have z:=a.C;have C:=a.I;have D:=a.r;have E:¬b=g.t:=λe=>a.r e.symm;have H:=ff<|Ê h a;by_cases c:k=0
 .subst c;rw[ap3];go_enter Τ,Δ;go_wp2;go_ret;exact⟨U,U⟩
 .have F:(k==0)=Ë:=by rwa[beq_eq_false_iff_ne]
  have e:yc st k=Â {st with C:=pK k,I:=0,d:=st.d.wj 4 k}:=if_neg c;rw[e];go_enter Τ,Δ;go_wp2_with (go_at_call 148;refine(apY _ _).mono ?_;rintro e u ⟨⟨j,rfl,p,q⟩,l⟩;subst u);go_ret;let⟨h,a⟩:=H.out;have l:=h.G a k;have n:=l.abf 0;exact⟨U,((Gp a k).fg<|mH l 7 _).fg<|mH n 0 _,g,O,j,n.NU j _ p q<|È on⟩
end
def ap5:(À.info? 149).map (λi=>(i.zero,i.size,i.bytes))=Â (Â<|Ã Á,1,8):=ft
def ap6:(À.info? 148).map (λi=>(i.zero,i.size,i.bytes))=Â (Â<|Ã Á,1,8):=ft
section
variable{g:Gh}{nm:Option Ā}{s:ByteArray}{st:PS}{d:PD}{T:Nat}
structure uS(m:Nat)(g:Gh)(d:PD)(T:Nat)(w:Í):Prop where
 C:w.ownsRow m 148 1 g.N (g.C d).length (nJ<|g.C d)
 I:pM g.B g.a d.S w
 N:oU g.B T (g.I d) d.Y w
 tb:fh T (Gk PD.Gd) 200 w
def JQ(x:i=j)(h:fh j l t w):w.heap[i]?=Â (Þ l.toArray t (0,0)):=by rwa[x]
def uS.r(h:uS m g d T w)(k:fc X w u)(n:∀i,i<w.heap.size->X i->∃c t b,w.heap[i]?=Â (Þ c t b)/\(t=153\/(t=161\/t=149)/\g.B<=i)):uS m g d T u:=by
 have f:∀{i:Nat} {c:Array Ñ} {t:ĕ} {b:Nat×Nat},w.heap[i]?=Â (Þ c t b)->(t≠153/\t≠161/\t≠149)->¬X i:=λ{i c t b} q1 q2 x=>by
  let⟨o,p,pS,e,l⟩:=n i (Ù.1 q1).1 x;rw[q1]at e;cases e;rcases l with rfl|⟨rfl|rfl,_⟩
  .exact q2.1 U
  .exact q2.2.1 U
  .exact q2.2.2 U
 refine⟨ic h.C k λj r=> ?_,h.I.C k λi s x=> ?_,h.N.C k λa c b _ _ q=>f q A,h.tb.I k<|f h.tb A⟩
 .let⟨v,z⟩:=lF h.C r;exact f z A
 .let⟨o,p,pS,e,l⟩:=n i s x;rcases l with rfl|⟨_,z⟩
  .exact Ï ⟨_,_,_,e,È U⟩
  .exact È z
def uS.fL(h:uS m g d T w)(k:fc (λ_=>False) w u):uS m g d T u:=h.r k λ_ _ x=>x.elim
def uS.M(h:uS m g d T w)(a:fh b l 153 w):uS m g d T (w.setCell ⟨b,i,Á⟩ v):= h.r (pN a) λi _ x=>⟨_,_,_,JQ x a,È U⟩
def wo.abh(l:wo m g d w):oU g.B w.heap.size (g.I d) d.Y w:=by
 unfold Gh.I PD.Y;split
 .rename_i e;let⟨a,b,c⟩:=l.C e;have:=c.M;exact(l.Y.M (â _) Z).Uk a c.M b c
 .rename_i e;let⟨a,b⟩:=l.a (by simpa using e);rw[a,b];exact oU.N _ _ _
def jC.C(n:jC m w)(g:fh b l e w)(C:m<=b)(p:e≠304/\e≠305)(d:Array Ñ)(t:ĕ)(u:0<d.size)(r:t≠304/\t≠305)(h:∀v∈d.toList,mY m (w.heap.size+1) v):jC m ((w.setCell ⟨b,i,Á⟩<|Ã<|Â ⟨w.heap.size,0,Á⟩).alloc<|Þ d t):=by
 have s:(w.setCell ⟨b,i,Á⟩<|Ã<|Â ⟨w.heap.size,0,Á⟩).heap.size=w.heap.size:=fj
 have D:=g.M;intro j o k c;have x:((w.setCell ⟨b,i,Á⟩<|Ã<|Â ⟨w.heap.size,0,Á⟩).alloc<|Þ d t).heap.size=w.heap.size+1:=fj
 rw[x];by_cases a:j<w.heap.size
 .rw[ŧ _ _ _ (by rwa[s])]at c;by_cases f:j=b
  .subst f;have:=g.fZ i<|Ã<|Â ⟨w.heap.size,0,Á⟩;unfold fh at this;rw[this]at c;cases c;let⟨E,F,G,y,H,z,I,J,B⟩:=n j _ k g;cases y;refine⟨_,_,_,U,fj,by simpa using z,p.1,p.2,λv h=> ?_⟩;rcases Į (by simpa using h)with q|q
   .exact(B v<|by simpa using q).r Z
   .rw[q];exact⟨Ì k<|Nat.le_of_lt a,Nat.lt_succ_self _⟩
  .rw[Ĩ _ _ _ _ (by simpa using f)]at c;exact(n j o k c).r Z
 .by_cases f:j=w.heap.size
  .have:=ź (w.setCell ⟨b,i,Á⟩<|Ã<|Â ⟨w.heap.size,0,Á⟩)<|Þ d t;rw[s]at this;rw[f,this]at c;cases c;exact⟨_,_,_,U,Ü _,u,r.1,r.2,h⟩
  .rw[ë Z]at c;cases c
def N0(b:Nat)(w:Í):Í:=(w.setCell ⟨b,3,Á⟩<|Ã<|Â ⟨w.heap.size,0,Á⟩).alloc<|Þ #[Å É 0,Å É 0,Å É 0,Å É 0,Å É 0,Ä ⟨#[]⟩] 200
def rdM(s:ByteArray)(g:Gh)(d:PD)(a b nm:Option Ā)(lj c:Int):List Ñ:=
 [Ä s,g.N,Ã<|g.S d,Ã a,Ã b,Ã nm,Å É lj,Å É c]
structure Gq(m b:Nat)(g:Gh)(d:PD)(T:Nat)(s:ByteArray)(tm nm:Option Ā)(lj Us:Int)(w0 w:Í):Prop where
 S:fc (λi=>m<=i) w0 w
 N:jC m w
 r:fh b (rdM s g d (Â ⟨T,0,Á⟩) tm nm lj Us) 153 w
 M:uS m g d T w
 I:fh g.q (DX d.I.c g.r) 161 w
 C:w.ownsRow g.B 149 1 g.r (g.I d).length (nJ<|g.I d)
def Gq.fL{lj:Int}(h:Gq m b g d T s O nm lj c W w)(k:fc (λ_=>False) w u)(a:jC m u):Gq m b g d T s O nm lj c W u:= ⟨h.S.C k λ_ _ x=>x.elim,a,h.r.I k id,h.M.fL k,h.I.I k id,ic h.C k λ_ _=>id⟩
def gO.ap7(h:gO m b g nm s st w)(on:st.d.r=Î):Gq m b g st.d w.heap.size s (g.G st.d) nm st.r st.I w (N0 b w):=by
 have l:=h.C.r on;have p:(w.setCell ⟨b,3,Á⟩<|Ã<|Â ⟨w.heap.size,0,Á⟩).heap.size=w.heap.size:=fj
 have n:fc (λ_=>False) (w.setCell ⟨b,3,Á⟩<|Ã<|Â ⟨w.heap.size,0,Á⟩) (N0 b w):=fc.gE _ _ _ _;have r:fc (λk=>k=b) w (w.setCell ⟨b,3,Á⟩<|Ã<|Â ⟨w.heap.size,0,Á⟩):=pN h.r;have e:=r.C n λ_ _ x=>x.elim;refine⟨e.S λk _ x=>by rw[x];exact h.S,?_,(h.r.fZ 3 _).I n id,⟨ic h.C.C e λj f x=>jA h.C.C h.r A (by rw[f,x]),h.C.I.C e λi _ x=>Ï ⟨_,_,_,JQ x h.r,È U⟩,l.abh.C e λa c t _ _ q x=> ?_,?_⟩,l.r.I e λx=>fh.S l.r h.r A x,ic l.I e λj f x=>jA l.I h.r A<|by rw[f,x]⟩
 .exact h.a.C h.r h.S A _ _ fj A λv o=>by simp at o;rcases o with rfl|rfl<;>trivial
 .have v:=h.r;unfold fh at v;rw[<-x,q]at v;cases v
 .have:=fh.N (w.setCell ⟨b,3,Á⟩<|Ã<|Â ⟨w.heap.size,0,Á⟩) [Å É 0,Å É 0,Å É 0,Å É 0,Å É 0,Ä ⟨#[]⟩] 200;rwa[p]at this
def Ut(g:Gh)(d:PD)(T:Nat)(v:Ñ):Gh:={g with t:=T,tb:=g.I d,r:=v}
def Gq.jK(h:Gq m b g st.d T s O nm st.r st.I w u)(C:m<=b)(on:st.d.r=Î)(a:m<=g.B/\g.B<=g.q/\st.d.I.c.length=8)(D:g.B<=T)(hd:st.r=0) (l:qk u g.B 149 1 g.r (g.I st.d).length (nJ<|g.I st.d) 1 [Ã<|Â ⟨T,0,Á⟩] v W) (K:jC m W) (L:mY m W.heap.size v) (n:jX=((W.setCell ⟨g.q,8,Á⟩ v).setCell ⟨b,4,Á⟩<|Ã<|Â ⟨T,0,Á⟩).setCell ⟨b,0,Á⟩ (Ä ⟨#[84]⟩)): fc (λi=>m<=i) w jX/\gO m b (Ut g st.d T v) nm ⟨#[84]⟩ {st with C:=[84],d:=st.d.sk} jX:=by
 have E:∀{j:Nat} {M:List Ñ} {t:ĕ},fh j M t u->149≠t->¬g.r.ownBlock=Â j:=λN f=>jA h.C N f;have F:=h.r.I l.r<|E h.r A;have f:=h.I.I l.r<|E h.I A;have P:=h.M.r l.r λi _ x=>by let⟨k,z⟩:=lF h.C x;exact⟨_,_,_,z,Ï ⟨Ï U,(h.C.lt i x).1⟩⟩
 have o:fc (λk=>k=g.q) W (W.setCell ⟨g.q,8,Á⟩ v):=pN f;have G:fh g.q (DX st.d.I.c v) 161 (W.setCell ⟨g.q,8,Á⟩ v):=by have:=f.fZ 8 v;have e:=abd st.d.I.c g.r v;rw[a.2.2]at e;unfold DX at this|-;rwa[e]at this
 have z:=F.I o λx=>fh.S F f A x;have H:=P.r o λi _ x=>⟨_,_,_,JQ x f,Ï ⟨È U,by rw[x];exact a.2.1⟩⟩;have I:=ic l.fq o λj p x=>jA l.fq f A (by rw[p,x]);have Q:jC m (W.setCell ⟨g.q,8,Á⟩ v):=K.r _ L;have S:fc (λk=>k=b) (W.setCell ⟨g.q,8,Á⟩ v) ((W.setCell ⟨g.q,8,Á⟩ v).setCell ⟨b,4,Á⟩<|Ã<|Â ⟨T,0,Á⟩):=pN z;have r:=z.fZ 4<|Ã<|Â ⟨T,0,Á⟩;have V:fc (λk=>k=b) ((W.setCell ⟨g.q,8,Á⟩ v).setCell ⟨b,4,Á⟩<|Ã<|Â ⟨T,0,Á⟩) jX:=by rw[n];exact pN r
 have J:=r.fZ 0<|Ä ⟨#[84]⟩;rw[<-n]at J;have k:uS m g st.d T jX:=by rw[n];exact(H.M z).M r
 have y:=S.fg V;have X:=G.I y λx=>fh.S G z A x;have Y:=ic I y λj p x=>jA I z A (by rw[p,x]);have hTl:=H.tb.M;have c5:jC m jX:=by rw[n];refine(Q.r _ ?_).r _ trivial;exact⟨Ì a.1 D,hTl⟩
 have e1:(g.I st.d++[T]).length=(g.I st.d).length+1:=fj
 have e2:nJ (g.I st.d++[T])=nJ (g.I st.d)++[Ã<|Â ⟨T,0,Á⟩]:=by simp[nJ]
 refine⟨((h.S.C l.r λi _ x=> ?_).C o λi _ x=> ?_).C y λi _ x=> ?_,C,c5,?_,A,U,⟨k.C,k.I,λ_=>⟨a.1,a.2.1,a.2.2,X,?_,k.N,λ_=>⟨D,U,k.tb⟩,λe=>by cases e⟩,λe=> ?_⟩,λe=> ?_,È on⟩
 .have:=(h.C.lt i x).1;have:=a.1;omega
 .have:=a.2.1;have:=a.1;omega
 .rwa[x]
 .have e:(Ut g st.d T v).S st.d.sk=g.S st.d:=U;unfold Un;rw[e];have e4:(Ut g st.d T v).G st.d.sk=Â ⟨T,0,Á⟩:=if_pos on;rwa[e4]
 .show jX.ownsRow g.B 149 1 v (g.I st.d++[T]).length (nJ<|g.I st.d++[T]);rwa[e1,e2]
 .have:st.d.r=Ë:=e;rw[on]at this;cases this
 .have:0<st.r:=e;omega
def abj(h:gO m b g nm s st w)(D:st.r=0)(p:st.d.r=Î)(E:st.d.Y.length<=100000): Ò À 99 #[Ã<|Â ⟨b,0,Á⟩] w λe u=>e=Æ (ï #[])/\sx m b {st with C:=[84],d:=st.d.sk} w u:=by
 have Y:=h.r.r 3 _ U;have f3:=h.r.C 3;have gJ:=h.r.M;have l:=h.C.r p;have z:=h.ap7 p;have F:=λv=>by have:=DZ st.d.I.c v;rwa[l.M]at this
 have G:m<=g.B/\g.B<=g.q/\st.d.I.c.length=8:=⟨l.S,l.N,l.M⟩;have I:g.B<=w.heap.size:=by have:=l.r.M;have:=l.N;omega
 have J:(g.I st.d).length<=100000:=by rwa[l.G]
 have L:=h.S;have H:=ff<|Ê G<|Ê I<|Ê J<|Ê L<|Ê D p;have k:=ff<|F g.r;have y:g.S st.d=Â ⟨g.q,0,Á⟩:=if_pos p;go_enter Tryz.func99,Tryz.ntmps99;go_wp2_with fail;change ã À _ _ _ (N0 b w);have n:=z.fL (fc.fR _ _) z.N.fR;generalize hT:w.heap.size=T at*;generalize M:(N0 b w).drew=w1 at*;let⟨i0,N,O,P,Q⟩:=ŵ ap5;have r:=ff<|Ê N<|Ê O<|Ê P Q;refine mf (λu=>u.cell? ⟨b,2,Á⟩=Â (Ã<|g.S st.d)/\u.cell? ⟨b,3,Á⟩=Â (Ã<|Â ⟨T,0,Á⟩)/\u.cell? ⟨g.q,8,Á⟩=Â g.r) [19] ft ?_;rw[M];rw[y];have a:Hid (w1.cell? ⟨b,2,Á⟩=Â (Ã<|Â ⟨g.q,0,Á⟩)/\w1.cell? ⟨b,3,Á⟩=Â (Ã<|Â ⟨T,0,Á⟩)/\w1.cell? ⟨g.q,8,Á⟩=Â g.r):=ff ⟨by rw[<-y];exact n.r.r 2 _ U,n.r.r 3 _ U,n.I.r 8 _ k.out⟩;have t:=ff y;apply tk 0 a.out;apply tk 1 a.out;apply tk 2 a.out;apply tk 3 a.out;apply tk 4 a.out;apply tk 5 a.out;apply tk 6 a.out;apply tk 7 a.out;apply tk 8 a.out;apply tk 9 a.out;apply tk 10 a.out;apply tk 11 a.out;apply tk 12 a.out;apply tk 13 a.out;apply tk 14 a.out;have S:=n.M.tb.M;have f:=n.fL (fc.gE (λ_=>False) w1 #[Ã<|Â ⟨T,0,Á⟩] 149) (n.N.gE _ _ fj A λv i=>by simp at i;subst i;exact⟨Ì H.out.1.1 H.out.2.1,S⟩);apply gD 15;intro K j;go_simp;refine j.out _ _ (λ_=>⟨by rw[<-t.out];exact f.r.r 2 _ U,f.r.r 3 _ U,f.I.r 8 _ k.out⟩) ?_;apply gD 16;intro K j;refine aa8 fP _ _ 159 fP Tryz.underlying159 r.out.1 r.out.2.1 r.out.2.2.1 r.out.2.2.2 fP f.C ⟨w1.heap.size,0,Á⟩ fP (Υ w1 _ _) U (by have:=H.out.2.2.1;unfold ĳ;omega) (by have:=H.out.2.2.1;omega) (by have:=H.out.2.1;have:=f.M.tb.M;omega) A H.out.1.1 f.N ⟨Ì H.out.1.1 H.out.2.1,f.M.tb.M⟩ A ?_;intro v9 w9 x V W;obtain⟨a9,n9c,rfl⟩:=jh x.fq;have i:=f.r.I x.r<|jA f.C f.r A;have o:=f.I.I x.r<|jA f.C f.I A;refine j.out _ _ (λ_=>⟨by rw[<-t.out];exact i.r 2 _ U,i.r 3 _ U,o.r 8 _ k.out⟩) ?_;apply gD 17;intro K j;go_simp;refine j.out _ _ (λ_=>⟨by rw[<-t.out];exact i.r 2 _ U,i.r 3 _ U,o.r 8 _ k.out⟩) ?_;apply gD 18;intro K j;go_simp;refine j.out _ _ (λ_=>⟨by rw[<-t.out];exact i.r 2 _ U,i.r 3 _ U,o.r 8 _ k.out⟩) ?_;have cq8:=o.r 8 _ k.out;have fq8:=o.C 8;have cb4:=i.r 4 _ U;have fb4:=i.C 4;have cb0:=i.r 0 _ U;have fb0:=i.C 0;have cb3:=i.r 3 _ U;have X:=fh.S o i A;have hbq:¬b=g.q:=λe=>X e.symm;apply gD 19;intro K j;go_simp;apply j.out _ _ λC=>absurd A C;refine lS ft ?_ _;have C:=ff<|f.jK H.out.2.2.2.1 p H.out.1 H.out.2.1 H.out.2.2.2.2.1 x V W U;go_wp2_with fail;go_end0;exact⟨U,C.out.1,_,_,_,C.out.2⟩
end
section
variable{g:Gh}{nm:Option Ā}{s:ByteArray}{f:PS}{d:PD}{Q:Nat}{k:Int}
def ap8(h:w.ownsRow i e 1 v n l)(c:j<=i):w.ownsRow j e 1 v n l:= ⟨h.1,h.2.imp id λ⟨g,d,f,a,b,r⟩=>⟨g,d,f,a,Ì c b,r⟩⟩
def wo.gf(l:wo m g d w):wm w.heap.size g.q ⟨d.I.c,d.Y⟩ w:= ⟨l.r.M,l.M,g.r,g.I d,l.r,ap8 l.I<|Ü _,λj a=>(l.I.lt j a).2,l.abh.M (Ü _)<|â _⟩
def kt.abk(h:kt m g d w)(a:d.r=Ë->d.S=[]):pM w.heap.size (g.C d) d.C w:=by
 unfold Gh.C PD.C;split
 .rename_i e;have l:=h.r e;have c:=l.r.M;have f:=l.N;exact h.I.Uk Z l.gf
 .rename_i e;have b:=a (by simpa using e);have:=h.I.I;rw[b]at this|-;rw[Ó this];exact pM.N _ _
def N4(b:Nat)(k:Int)(w:Í):Í:=(w.setCell ⟨b,2,Á⟩<|Ã<|Â ⟨w.heap.size,0,Á⟩).alloc<|Þ #[Å É 0,Å É 0,Å É 0,Å É 0,Å É k,Å É 0,Å É 0,Å É 0,Ç Á 0 0] 161
def rdQ(s:ByteArray)(g:Gh)(d:PD)(Q:Nat)(nm:Option Ā)(lj a:Int):List Ñ:=
 [Ä s,g.N,Ã<|Â ⟨Q,0,Á⟩,Ã<|g.Y d,Ã<|g.G d,Ã nm,Å É lj,Å É a]
structure Gr(m b:Nat)(g:Gh)(d:PD)(Q:Nat)(k:Int)(s:ByteArray)(nm:Option Ā)(lj Us:Int)(w0 w:Í):Prop where
 S:fc (λi=>m<=i) w0 w
 M:jC m w
 r:fh b (rdQ s g d Q nm lj Us) 153 w
 I:fh Q (DX (PD.aa6 k).c<|Ç Á 0 0) 161 w
 N:pM Q (g.C d) d.C w
 C:w.ownsRow m 148 1 g.N (g.C d).length (nJ<|g.C d)
def Gr.fL{lj:Int}(h:Gr m b g d Q k s nm lj c W w)(a:fc (λ_=>False) w u)(e:jC m u):Gr m b g d Q k s nm lj c W u:= ⟨h.S.C a λ_ _ x=>x.elim,e,h.r.I a id,h.I.I a id,h.N.C a λ_ _ x=>x.elim,ic h.C a λ_ _=>id⟩
def gO.ap9(h:gO m b g nm s f w)(k:Int)(l:f.d.r=Ë->f.d.S=[]):Gr m b g f.d w.heap.size k s nm f.r f.I w (N4 b k w):=by
 have n:(w.setCell ⟨b,2,Á⟩<|Ã<|Â ⟨w.heap.size,0,Á⟩).heap.size=w.heap.size:=fj
 have c:fc (λ_=>False) (w.setCell ⟨b,2,Á⟩<|Ã<|Â ⟨w.heap.size,0,Á⟩) (N4 b k w):=fc.gE _ _ _ _;have o:fc (λk=>k=b) w (w.setCell ⟨b,2,Á⟩<|Ã<|Â ⟨w.heap.size,0,Á⟩):=pN h.r;have a:=o.C c λ_ _ x=>x.elim;refine⟨a.S λk _ x=>by rw[x];exact h.S,?_,(h.r.fZ 2 _).I c id,?_,(h.C.abk l).C a λi _ x=>Ï ⟨_,_,_,JQ x h.r,È U⟩,ic h.C.C a λj p x=>jA h.C.C h.r A<|by rw[p,x]⟩
 .exact h.a.C h.r h.S A _ _ fj A λv e=>by simp at e;rcases e with rfl|rfl|rfl|rfl<;>trivial
 .have:=fh.N (w.setCell ⟨b,2,Á⟩<|Ã<|Â ⟨w.heap.size,0,Á⟩) [Å É 0,Å É 0,Å É 0,Å É 0,Å É k,Å É 0,Å É 0,Å É 0,Ç Á 0 0] 161;rwa[n]at this
def aqa(g:Gh)(d:PD)(Q:Nat)(v:Ñ):Gh:={a:=g.C d,q:=Q,t:=Q,B:=Q,tb:=[],N:=v,r:=Ç Á 0 0,b:=g.Y d}
def Gr.jK{sb:ByteArray}(h:Gr m b g f.d Q k s nm f.r f.I w u)(o:m<=b)(p:m<=Q)(S:f.r=0)(y:sb.size<=10)(B:jU sb=wh k) (a:qk u m 148 1 g.N (g.C f.d).length (nJ<|g.C f.d) 1 [Ã<|Â ⟨Q,0,Á⟩] v W) (C:jC m W) (D:mY m W.heap.size v) (l:jX=((W.setCell ⟨b,1,Á⟩ v).setCell ⟨b,4,Á⟩<|Ã<|Â ⟨Q,0,Á⟩).setCell ⟨b,0,Á⟩ (Ä sb)): fc (λi=>m<=i) w jX/\gO m b (aqa g f.d Q v) nm sb {f with C:=wh k,d:=f.d.Gj k} jX:=by
 have c:=h.r.I a.r<|jA h.C h.r A;have n:=h.I.I a.r<|jA h.C h.I A;have E:=h.N.C a.r λi _ x=>by let⟨e,z⟩:=lF h.C x;exact Ï ⟨_,_,_,z,Ï U⟩
 have F:fc (λk=>k=b) W (W.setCell ⟨b,1,Á⟩ v):=pN c;have q:=c.fZ 1 v;have G:fc (λk=>k=b) (W.setCell ⟨b,1,Á⟩ v) ((W.setCell ⟨b,1,Á⟩ v).setCell ⟨b,4,Á⟩<|Ã<|Â ⟨Q,0,Á⟩):=pN q;have r:=q.fZ 4<|Ã<|Â ⟨Q,0,Á⟩;have H:fc (λk=>k=b) ((W.setCell ⟨b,1,Á⟩ v).setCell ⟨b,4,Á⟩<|Ã<|Â ⟨Q,0,Á⟩) jX:=by rw[l];exact pN r
 have t:=r.fZ 0<|Ä sb;rw[<-l]at t;have z:=(F.fg G).fg H;have I:=n.I z λx=>fh.S n c A x;have J:=E.C z λi _ x=>Ï ⟨_,_,_,JQ x c,È U⟩;have K:=ic a.fq z λj L x=>jA a.fq c A (by rw[L,x]);have M:Q<(W.setCell ⟨b,1,Á⟩ v).heap.size:=by simpa using n.M
 have N:jC m jX:=by rw[l];refine((C.r _ D).r _ ?_).r _ trivial;exact⟨p,M⟩
 have O:(g.C f.d++[Q]).length=(g.C f.d).length+1:=fj
 have P:nJ (g.C f.d++[Q])=nJ (g.C f.d)++[Ã<|Â ⟨Q,0,Á⟩]:=by simp[nJ]
 refine⟨(h.S.C a.r λi _ x=> ?_).C z λi _ x=> ?_,o,N,t,y,B,⟨?_,J,λ_=>⟨p,â _,U,I,?_,oU.N _ _ _,(λe=>by cases e),λ_=>⟨rfl,rfl⟩⟩,(λe=>by cases e)⟩,λe=> ?_,È rfl⟩
 .exact(h.C.lt i x).1
 .rwa[x]
 .show jX.ownsRow m 148 1 v (g.C f.d++[Q]).length (nJ<|g.C f.d++[Q]);rwa[O,P]
 .exact⟨U,È ⟨U,U⟩⟩
 .have:0<f.r:=e;omega
def aqb:Ag f 0=Á:=rfl
def aqc(h:gO m b g nm s f w)(t:f.r=0)(x:f.d.r=Ë->f.d.S=[])(y:f.d.C.length<=100000)(k:Int): Ò À 96 #[Ã<|Â ⟨b,0,Á⟩,Å É k] w λe u=>match Ag f k with
  |none=>e=Æ (û Ë)/\u=w
  |some i=>e=Æ (û Î)/\sx m b i w u:=by
 by_cases n:k=0
 .subst n;rw[aqb];go_enter ο,Χ;go_wp2;go_ret;exact⟨U,U⟩
 have Q:(k==0)=Ë:=by rwa[beq_eq_false_iff_ne]
 have e:Ag f k=Â {f with C:=wh k,d:=f.d.Gj k}:=if_neg n;rw[e];have S:=h.r.r 2 _ U;have V:=h.r.C 2;have W:=h.r.M;have q:=h.ap9 k x;have z:(g.C f.d).length<=100000:=by rwa[h.C.aa9]
 have B:=h.S;have C:m<=w.heap.size:=Z
 have H:=ff<|Ê B<|Ê C<|Ê z t;go_enter ο,Χ;go_wp2_with fail;change ã À _ _ _ (N4 b k w);have j:=q.fL (fc.fR _ _) q.M.fR;generalize X:w.heap.size=T at*;generalize D:(N4 b k w).drew=w1 at*;let⟨Y,E,F,G,I⟩:=ŵ ap6;have l:=ff<|Ê E<|Ê F<|Ê G I;refine mf (λu=>u.cell? ⟨b,1,Á⟩=Â g.N/\u.cell? ⟨b,2,Á⟩=Â (Ã<|Â ⟨T,0,Á⟩)) [13] ft ?_;rw[D];have c:Hid (w1.cell? ⟨b,1,Á⟩=Â g.N/\w1.cell? ⟨b,2,Á⟩=Â (Ã<|Â ⟨T,0,Á⟩)):=ff ⟨j.r.r 1 _ U,j.r.r 2 _ U⟩;apply tk 0 c.out;apply tk 1 c.out;apply tk 2 c.out;apply tk 3 c.out;apply tk 4 c.out;apply tk 5 c.out;apply tk 6 c.out;apply tk 7 c.out;apply tk 8 c.out;have J:=j.I.M;have a:=j.fL (fc.gE (λ_=>False) w1 #[Ã<|Â ⟨T,0,Á⟩] 148) (j.M.gE _ _ fj A λv i=>by simp at i;subst i;exact⟨H.out.2.1,J⟩);apply gD 9;intro K i;go_simp;apply i.out _ _ λ_=>⟨a.r.r 1 _ U,a.r.r 2 _ U⟩;apply gD 10;intro K i;refine aa8 fP _ _ 61 fP Tryz.underlying61 l.out.1 l.out.2.1 l.out.2.2.1 l.out.2.2.2 fP a.C ⟨w1.heap.size,0,Á⟩ fP (Υ w1 _ _) U (by have:=H.out.2.2.1;unfold ĳ;omega) (by have:=H.out.2.2.1;omega) (by have:=H.out.2.1;have:=a.I.M;omega) A (â _) a.M ⟨H.out.2.1,a.I.M⟩ A ?_;intro v9 w9 o L M;obtain⟨a9,n9c,rfl⟩:=jh o.fq;have v:=a.r.I o.r<|jA a.C a.r A;apply i.out _ _ λ_=>⟨v.r 1 _ U,v.r 2 _ U⟩;apply gD 11;intro K i;go_simp;apply i.out _ _ λ_=>⟨v.r 1 _ U,v.r 2 _ U⟩;apply gD 12;intro K i;go_simp;apply i.out _ _ λ_=>⟨v.r 1 _ U,v.r 2 _ U⟩;have cb1:=v.r 1 _ U;have fb1:=v.C 1;have cb4:=v.r 4 _ U;have fb4:=v.C 4;have cb0:=v.r 0 _ U;have fb0:=v.C 0;have cb2:=v.r 2 _ U;apply gD 13;intro K i;go_simp;apply i.out _ _ λp=>absurd A p;refine lS ft ?_ _;have N:=ff λp r O=>a.jK (sb:=p) H.out.1 H.out.2.1 H.out.2.2.2 r O o L M U;go_wp2_with (go_at_call 145;refine(apX _ _).mono ?_;rintro e u ⟨⟨p,rfl,O,P⟩,r⟩;subst u);go_ret;have r:=N.out p O P;exact⟨U,r.1,_,_,_,r.2⟩
end
def lJ(i:Nat)(z:Int):Prop:=match i with
 |0=>0<=z/\z<8
 |1=>0<=z/\z<8
 |2=>0<=z/\z<1000000
 |3=>0<=z/\z<1000000
 |4=>1<=z/\z<10
 |5=>-1<=z/\z<1000000
 |6=>-1<=z/\z<1000000
 |7=>0<=z/\z<16
 |_=>True
structure Gs(n m:Nat)(c:List Int):Prop where
 C:c.length=n
 r:∀i,i<m->lJ i (c.getD i 0)
def Gs.I(h:Gs n m zQ)(i:Nat)(z:Int)(d:i<m->lJ i z):Gs n m (zQ.set i z):=by
 refine⟨by simp[h.C],λj b=> ?_⟩;have:=h.r j b;by_cases e:i=j
 .subst e;by_cases f:i<zQ.length
  .have a:(zQ.set i z).getD i 0=z:=by simp[ď,f]
   rw[a];exact d b
  .rw[List.set_eq_of_length_le Z];exact this
 .have a:(zQ.set i z).getD j 0=zQ.getD j 0:=by simp[ď,List.getElem?_set_ne e]
  rw[a];exact this
def N5(h:i<zQ.length)(z:Int):(zQ.set i z).getD i 0=z:=by simp[ď,h]
structure nD(t:PT):Prop where
 c:Gs 5 4 t.c
 p:t.p.size<=40/\∀c∈t.p.data.toList,xL c=Î
structure uT(r:PR):Prop where
 c:Gs 8 8 r.c
 C:∀t∈r.r,nD t
 n:r.r.length<=8
structure kl(d:PD):Prop where
 N:d.r=Ë->d.S=[]/\d.M=Ë
 b:d.M=Ë->d.I.r=[]
 C:d.C.length<=24
 I:d.Y.length<=8
 S:∀r∈d.S,uT r
 M:d.r=Î->Gs 8 8 d.I.c
 a:d.r=Î->∀t∈d.I.r,nD t
 Y:d.M=Î->nD d.N
structure ju(B:ByteArray)(k:Nat)(st:PS):Prop where
 M:0<=st.r
 r:st.r<=5
 C:0<=st.I
 I:st.I<=40
 e:0<st.r->(st.M=86\/st.M=87\/st.M=110\/st.M=107)/\st.d.r=Î/\0<=st.d.G st.M/\st.d.G st.M<10^(6-st.r.toNat)
 d:kl st.d
 c:st.d.r=Î\/st.C=[82]
 b:82∈st.C->st.d.C.length<24
 N:84∈st.C\/80∈st.C->st.d.M=Î
 a:66∈st.C->st.d.M=Ë
 S:80∈st.C->st.C=[80]/\st.r=0
 Y:80∈st.C->st.I.toNat<=k/\∀j (h:j<B.size),k-st.I.toNat<=j->j<k->xL B[j]=Î
section
variable{d:PD}{st o:PS}
def kl.abl(h:kl d)(on:d.r=Î):∀t∈d.Y,nD t:=by
 unfold PD.Y;split
 .rename_i e;intro t a;rcases à.1 a with q|q
  .exact h.a on t q
  .rw[Ŗ]at q;rw[q];exact h.Y e
 .exact h.a on
def kl.G(h:kl d):∀r∈d.C,uT r:=by
 unfold PD.C;split
 .rename_i e;intro r a;rcases à.1 a with q|q
  .exact h.S r q
  .rw[Ŗ]at q;rw[q];exact⟨h.M e,h.abl e,h.I⟩
 .exact h.S
def yd(d:PD):d.C.length=d.S.length+(if d.r then 1 else 0):=by unfold PD.C;split<;>simp
def JR(d:PD):d.Y.length=d.I.r.length+(if d.M then 1 else 0):=by unfold PD.Y;split<;>simp
def kl.r(h:kl d)(i:Nat)(z:Int)(a:lJ i z):kl (d.uR i z):= ⟨h.N,h.b,by have:=h.C;rw[yd]at this|-;exact this,by have:=h.I;rw[JR]at this|-;exact this,h.S,λe=>(h.M e).I i z λ_=>a,h.a,h.Y⟩
def kl.wj(h:kl d)(i:Nat)(z:Int)(a:i<4->lJ i z):kl (d.wj i z):= ⟨h.N,h.b,by have:=h.C;rw[yd]at this|-;exact this,by have:=h.I;rw[JR]at this|-;exact this,h.S,h.M,h.a,λe=>⟨(h.Y e).c.I i z a,(h.Y e).p⟩⟩
def kl.jB(h:kl d)(i:Nat)(z:Int)(a:lJ i z):kl (d.jB i z):=by
 unfold PD.jB;split
 .exact h.wj i z λ_=>a
 .exact h.r i z a
def kl.tx(h:kl d)(p:ByteArray)(a:p.size<=40/\∀c∈p.data.toList,xL c=Î):kl (d.tx p):= ⟨h.N,h.b,by have:=h.C;rw[yd]at this|-;exact this,by have:=h.I;rw[JR]at this|-;exact this,h.S,h.M,h.a,λe=>⟨(h.Y e).c,a⟩⟩
def aqd:nD PD.Gd:=⟨⟨U,λi a=>by
 match i,a with
 |0,_=>exact⟨A,A⟩
 |1,_=>exact⟨A,A⟩
 |2,_=>exact⟨A,A⟩
 |3,_=>exact⟨A,A⟩⟩,⟨A,λc b=>by cases b⟩⟩
def kl.sk(h:kl d)(on:d.r=Î)(a:d.Y.length<8):kl d.sk:= ⟨(λe=>by have:d.r=Ë:=e;rw[on]at this;cases this),(λe=>by cases e),by have:=h.C;rw[yd]at this|-;exact this,by rwa[JR],h.S,λe=>h.M e,λ_=>h.abl on,λ_=>aqd⟩
def kl.Gj(h:kl d)(q:Int)(a:1<=q/\q<10)(b:d.C.length<24):kl (d.Gj q):= ⟨(λe=>by cases e),λ_=>rfl,by rwa[yd],by show(0:Nat)<=8;decide,h.G,λ_=>⟨U,λi c=>by
   match i,c with
   |0,_=>exact⟨by show(0:Int)<=0;decide,by show(0:Int)<8;decide⟩
   |1,_=>exact⟨by show(0:Int)<=0;decide,by show(0:Int)<8;decide⟩
   |2,_=>exact⟨by show(0:Int)<=0;decide,by show(0:Int)<1000000;decide⟩
   |3,_=>exact⟨by show(0:Int)<=0;decide,by show(0:Int)<1000000;decide⟩
   |4,_=>exact a
   |5,_=>exact⟨by show(-1:Int)<=0;decide,by show(0:Int)<1000000;decide⟩
   |6,_=>exact⟨by show(-1:Int)<=0;decide,by show(0:Int)<1000000;decide⟩
   |7,_=>exact⟨by show(0:Int)<=0;decide,by show(0:Int)<16;decide⟩⟩,(λ_ t f=>by cases f),(λe=>by cases e)⟩
def kl.fZ(h:kl d)(a z:Int)(b:(a=86->lJ 5 z)/\(a=87->lJ 6 z)/\(a=120->lJ 0 z)/\(a=121->lJ 1 z)/\(a=110->lJ 2 z)/\(a=107->lJ 3 z)/\(a=115->lJ 7 z)):kl (d.fZ a z):=by
 let⟨c,e,f,g,i,j,k⟩:=b;unfold PD.fZ;repeat' split
 .exact h.r 5 z<|c ‹_›
 .exact h.r 6 z<|e ‹_›
 .exact h.jB 0 z<|f ‹_›
 .exact h.jB 1 z<|g ‹_›
 .exact h.jB 2 z<|i ‹_›
 .exact h.jB 3 z<|j ‹_›
 .exact h.r 7 z<|k ‹_›
 .exact h
def Uu(d:PD)(a z:Int):(d.fZ a z).r=d.r/\(d.fZ a z).M=d.M/\(d.fZ a z).C.length=d.C.length:=by
 unfold PD.fZ PD.jB;repeat' split
 all_goals exact⟨U,U,(yd _).trans (yd d).symm⟩
def Uv(h:kl d)(on:d.r=Î)(a z:Int)(f:a=86\/a=87\/a=110\/a=107):(d.fZ a z).G a=z:=by
 have g:=(h.M on).C;have b:∀i,i<4->(d.jB i z).yb i=z:=λi j=>by
  unfold PD.jB;split
  .rename_i e;have k:=(h.Y e).c.C;show(if d.M=Î then(d.N.c.set i z).getD i 0 else d.I.c.getD i 0)=z;rw[if_pos e];exact N5 Z z
  .rename_i e;show(if d.M=Î then d.N.c.getD i 0 else(d.I.c.set i z).getD i 0)=z;rw[if_neg e];exact N5 Z z
 rcases f with rfl|rfl|rfl|rfl
 .exact N5 Z z
 .exact N5 Z z
 .exact b 2 A
 .exact b 3 A
def N6:∀(l:List UInt8) (c:UInt8),á l c<l.length
 |[],_=>by show(-1:Int)<0;decide
 |a::l,c=>by
  have:=N6 l c;unfold á;split
  .simp
  .split<;>(simp;omega)
def Uw:∀(l:List UInt8) (c:UInt8),c∈l->0<=á l c
 |[],_,h=>by cases h
 |a::l,c,h=>by
  unfold á;split
  .decide
  .rename_i e;rcases List.mem_cons.1 h with q|q
   .subst q;simp at e
   .have:=Uw l c q;split
    .rename_i b;rw[beq_iff_eq]at b;omega
    .omega
def abm{l:List UInt8}(h:c.toNat∈l.map UInt8.toNat):c.toNat.toUInt8∈l:=by let⟨x,a,b⟩:=Ý.1 h;rw[<-b];simpa using a
def abn(h:si c=Î):0<=á [97,98,99,100,101,102,103,104] c.toNat.toUInt8:=by rw[apK]at h;refine Uw _ _<|abm ?_;simp;omega
def aqe(h:(ja c||(decide (97<=c)&&decide (c<=102)))=Î):0<=á [48,49,50,51,52,53,54,55,56,57,97,98,99,100,101,102] c.toNat.toUInt8:=by simp only[Bool.or_eq_true,Gi,Bool.and_eq_true,decide_eq_true_eq]at h;refine Uw _ _<|abm ?_;simp;omega
def aqf(a:qz h c=Î):(h=86->lJ 5 (mX h c))/\(h=87->lJ 6 (mX h c))/\(h=120->lJ 0 (mX h c))/\(h=121->lJ 1 (mX h c))/\(h=110->lJ 2 (mX h c))/\(h=107->lJ 3 (mX h c))/\(h=115->lJ 7 (mX h c)):=by
 unfold qz at a;have b:(c==104||ja c)=Î->-1<=(if c=104 then-1 else(c-48)%256)/\(if c=104 then(-1:Int)else(c-48)%256)<1000000:=λq=>by split<;>omega
 have d:ja c=Î->0<=(if c=104 then-1 else(c-48)%256)/\(if c=104 then(-1:Int)else(c-48)%256)<1000000:=λq=>by rw[Gi]at q;rw[if_neg Z];omega
 refine⟨?_,?_,?_,?_,?_,?_,?_⟩<;>rintro rfl
 .exact b a
 .exact b a
 .exact⟨abn a,N6 _ _⟩
 .exact⟨abn a,N6 _ _⟩
 .exact d a
 .exact d a
 .exact⟨aqe a,N6 _ _⟩
def aqg{lj:Int}(a:ja c=Î)(f:0<=h)(g:0<lj)(i:lj<=5)(b:h<10^(6-lj.toNat)):0<=sr h c/\sr h c<10^(6-(lj-1).toNat)/\sr h c<1000000:=by
 rw[Gi]at a;have d:h<100000->sr h c=h*10+(c-48):=λq=>by unfold sr;rw[Ņ (h*10) ⟨Z,Z⟩,Ņ _ ⟨Z,Z⟩];omega
 have e:lj=1\/lj=2\/lj=3\/lj=4\/lj=5:=Z
 rcases e with rfl|rfl|rfl|rfl|rfl<;>(simp at b|-;rw[d Z];omega)
def kl.lj(h:kl d)(a z:Int)(c:a=86\/a=87\/a=110\/a=107)(b:0<=z/\z<1000000):kl (d.fZ a z):= h.fZ a z ⟨λ_=>⟨Z,b.2⟩,λ_=>⟨Z,b.2⟩,λe=>by omega,λe=>by omega,λ_=>b,λ_=>b,λe=>by omega⟩
def ju.aqh(h:ju B k st)(e:0<st.r)(j:ja c=Î):ju B (k+1) (JN st c):=by
 let⟨a,b,l,m⟩:=h.e e;let⟨f,n,o⟩:=aqg j l e h.r m;let⟨g,i,p⟩:=Uu st.d st.M<|sr (st.d.G st.M) c;refine⟨by show 0<=st.r-1;omega,by have:=h.r;show st.r-1<=5;omega,h.C,h.I,λ_=>⟨a,g.trans b,?_⟩,h.d.lj _ _ a ⟨f,o⟩,?_,λq=> ?_,λq=>i.trans<|h.N q,λq=>i.trans<|h.a q,λq=> ?_,λq=> ?_⟩
 .show 0<=(st.d.fZ st.M<|sr (st.d.G st.M) c).G st.M/\(st.d.fZ st.M<|sr (st.d.G st.M) c).G st.M<10^(6-(st.r-1).toNat);rw[Uv h.d b _ _ a];exact⟨f,n⟩
 .exact È<|g.trans b
 .show(st.d.fZ st.M<|sr (st.d.G st.M) c).C.length<24;rw[p];exact h.b q
 .have:=(h.S q).2;omega
 .have:=(h.S q).2;omega
def ju.vm(h:ju B k st):ju B k {st with r:=0}:= ⟨ū _,by show(0:Int)<=5;decide,h.C,h.I,(λq=>by cases q),h.d,h.c,h.b,h.N,h.a,λq=>⟨(h.S q).1,rfl⟩,h.Y⟩
def ju.on(h:ju B k st)(a:82∉st.C):st.d.r=Î:=by
 rcases h.c with q|q
 .exact q
 .rw[q]at a;exact absurd A a
def kl.aqi(h:kl d)(a:d.M=Î):d.r=Î:=by
 cases e:d.r with
 |true=>rfl
 |false=>have:=(h.N e).2;rw[a]at this;cases this
def abo(h:ju B k st)(b:st.r=0)(on:st.d.r=Î)(a:su st c=Â o):ju B (k+1) o:=by
 unfold su at a;split at a
 .rename_i e;cases a;refine⟨h.M,h.r,h.C,h.I,λq=> ?_,h.d,Ï U,λ_=> ?_,λq=> ?_,λq=> ?_,λq=> ?_,λq=> ?_⟩
  .have:0<st.r:=q;omega
  .rw[yd,on];exact e.2
  .simp at q
  .simp at q
  .simp at q
  .simp at q
 .split at a
  .rename_i e;cases a;refine⟨h.M,h.r,h.C,h.I,λq=> ?_,h.d.sk on e.2.2,È on,λq=> ?_,λ_=>rfl,λq=> ?_,λq=> ?_,λq=> ?_⟩
   .have:0<st.r:=q;omega
   .simp at q
   .simp at q
   .simp at q
   .simp at q
  .cases a
def aqj(q:Int):82∉wh q/\84∉wh q/\80∉wh q:=by
 unfold wh;repeat' split
 all_goals decide
def aqk(q:Int):82∉pK q/\84∉pK q/\66∉pK q/\(80∈pK q->pK q=[80]):=by
 unfold pK;repeat' split
 all_goals decide
def aql(c:Int):0<=ya c/\ya c<10:=by
 unfold ya;repeat' split
 all_goals decide
def aqm(h:ju B k st)(j:st.r=0)(f:82∈st.C)(a:Ag st (ya c)=Â o):ju B (k+1) o:=by
 unfold Ag at a;split at a
 .cases a
 .rename_i e;cases a;let⟨g,i,b⟩:=aqj<|ya c;have l:=aql c;refine⟨h.M,h.r,h.C,h.I,λq=> ?_,h.d.Gj _ Z<|h.b f,È U,λq=>absurd q g,λq=> ?_,λ_=>rfl,λq=>absurd q b,λq=>absurd q b⟩
  .have:0<st.r:=q;omega
  .exact q.elim (λq=>absurd q i) λq=>absurd q b
def aqn(h:ju B k st)(c:st.r=0)(q:Int)(f:84∈st.C)(a:yc st q=Â o):ju B (k+1) o:=by
 unfold yc at a;split at a
 .cases a
 .cases a;let⟨g,n,i,l⟩:=aqk q;have b:=h.N<|È f;refine⟨h.M,h.r,ū _,by show(0:Int)<=40;decide,λq=> ?_,h.d.wj 4 q λe=>by omega,È<|h.d.aqi b,λq=>absurd q g,λ_=>b,λq=>absurd q i,λq=>⟨l q,c⟩,λ_=>⟨Ü _,λj _ m p=> ?_⟩⟩
  .have:0<st.r:=q;omega
  .have:k+1-0<=j:=m;omega
def aqo{a:Int}(h:0<sj a c):(a=86\/a=87)/\sj a c=1/\ja c=Î/\c≠48\/(a=110\/a=107)/\sj a c=5/\ja c=Î/\c≠48:=by
 unfold sj at h|-;by_cases e:c=48\/ja c=Ë
 .rw[if_pos e]at h;omega
 .rw[if_neg e]at h|-;have d:ja c=Î:=by cases q:ja c with
   |true=>rfl
   |false=>exact absurd (Ï q) e
  have g:=λq=>e<|È q;by_cases f:a=86\/a=87
  .rw[if_pos f];exact È ⟨f,U,d,g⟩
  .rw[if_neg f]at h|-;by_cases b:a=110\/a=107
   .rw[if_pos b];exact Ï ⟨b,U,d,g⟩
   .rw[if_neg b]at h;omega
def abp(h:ju B k st)(on:st.d.r=Î){want:Int}(n:qz want c=Î)(r:List Int)(e:∀x∈r,x∈st.C)(j:80∉r):ju B (k+1) {pL st want c with C:=r}:=by
 let⟨f,l,o⟩:=Uu st.d want<|mX want c;have m:=apO want c;refine⟨m.1,m.2,h.C,h.I,λq=> ?_,h.d.fZ _ _<|aqf n,È<|f.trans on,λq=> ?_,λq=>l.trans<|h.N<|q.imp (e _)<|e _,λq=>l.trans<|h.a<|e _ q,λq=>absurd q j,λq=>absurd q j⟩
 .have q:=q;show(want=86\/want=87\/want=110\/want=107)/\(st.d.fZ want<|mX want c).r=Î/\0<=(st.d.fZ want<|mX want c).G want/\(st.d.fZ want<|mX want c).G want<10^(6-(sj want c).toNat);rcases aqo q with⟨p,g,i,s⟩|⟨p,g,i,s⟩
  .have a:want=86\/want=87\/want=110\/want=107:=Z
   rw[Uv h.d on _ _ a,g];rw[Gi]at i;have:mX want c=(c-48)%256:=by unfold mX;rw[if_neg Z,if_neg Z,if_neg Z]
   have b:=f.trans on;rw[this]at b|-;exact⟨a,b,Z,by show(c-48)%256<100000;omega⟩
  .have a:want=86\/want=87\/want=110\/want=107:=Z
   rw[Uv h.d on _ _ a,g];rw[Gi]at i;have:mX want c=(c-48)%256:=by unfold mX;rw[if_neg Z,if_neg Z,if_neg Z]
   have b:=f.trans on;rw[this]at b|-;exact⟨a,b,Z,by show(c-48)%256<10;omega⟩
 .show(st.d.fZ want<|mX want c).C.length<24;rw[o];exact h.b<|e _ q
def aqp{x:UInt8}(h:x∈(B.extract i b).data.toList):∃j,∃e:j<B.size,i<=j/\j<b/\B[j]=x:=by rw[ĺ,Ń,ĭ]at h;obtain⟨c,d,rfl⟩:=Ģ h;simp only[Ţ,List.length_drop,Č]at d;have f:B.data.size=B.size:=rfl;exact⟨i+c,Z,Z,Z,by simp[Ē]⟩
def aqr(h:ju B k st)(l:st.r=0)(H:k<B.size)(a:ly B k st (B[k].toNat:Int)=Â o):ju B (k+1) o:=by
 unfold ly at a;split at a
 .rename_i e;exact abo h l (h.on<|by rw[e];decide) a
 .rename_i u r e;have c:u∈st.C:=by rw[e];exact List.mem_cons_self ..
  split at a
  .rename_i f;subst f;exact aqm h l c a
  rename_i v;have i:st.d.r=Î:=by
   rcases h.c with q|q
   .exact q
   .rw[q]at e;cases e;exact absurd U v
  split at a
  .rename_i f;subst f;split at a
   .rename_i w;cases a;have n:=h.a c;have b:st.d.Y.length<8:=by rw[JR,h.d.b n,n];decide
    have y:ju B k {st with C:=[84],d:=st.d.sk}:=by
     refine⟨h.M,h.r,h.C,h.I,λq=> ?_,h.d.sk i b,È i,λq=> ?_,λ_=>rfl,λq=> ?_,λq=> ?_,λq=> ?_⟩
     .have:0<st.r:=q;omega
     .simp at q
     .simp at q
     .simp at q
     .simp at q
    exact abp (want:=120) y i w [84] (λx b=>b) A
   .exact abo h l i a
  split at a
  .rename_i f;subst f;exact aqn h l _ c a
  split at a
  .rename_i f;subst f;let⟨I,s⟩:=h.Y c;have n:=h.N<|Ï c;have z:=(h.S c).1;have J:=h.C;have K:=h.I;split at a
   .cases a;have C:r=[]:=by rw[z]at e;cases e;rfl
    subst C;refine⟨h.M,h.r,h.C,h.I,λq=> ?_,h.d.tx _ ⟨by rw[ē];omega,λx b=> ?_⟩,È i,λq=> ?_,λq=> ?_,λq=> ?_,λq=> ?_,λq=> ?_⟩
    .have:0<st.r:=q;omega
    .obtain⟨j,p,m,t,rfl⟩:=aqp b;exact s j p m t
    .cases q
    .rcases q with q|q<;>cases q
    .cases q
    .cases q
    .cases q
   .split at a
    .cases a
    .rename_i g;cases a;have L:=λq=>g<|È q;have D:=λq=>g<|Ï q;refine⟨h.M,h.r,by show 0<=st.I+1;omega,by show st.I+1<=40;omega,h.e,h.d,h.c,h.b,h.N,h.a,h.S,λ_=>⟨by show(st.I+1).toNat<=k+1;omega,λj p m t=> ?_⟩⟩;have m:k+1-(st.I+1).toNat<=j:=m;by_cases E:j=k
     .subst E;unfold xL;simpa using D
     .exact s j p Z Z
  split at a
  .rename_i M N F G;cases a;refine abp h i G r (λx b=>by rw[e];exact ě _ b) λq=> ?_;have:=(h.S<|by rw[e];exact ě _ q).1;rw[this]at e;cases e;exact F U
  .cases a
def abq(h:ju B k st)(b:k<B.size)(a:rj B k st (B[k].toNat:Int)=Â o):ju B (k+1) o:=by
 unfold rj at a;split at a
 .rename_i e;cases a;exact h.aqh e.1 e.2
 .exact aqr h.vm U b a
def Ux(B:ByteArray):ju B 0 tA:= ⟨A,A,A,A,(λq=>by cases q),⟨λ_=>⟨rfl,rfl⟩,λ_=>rfl,A,A,(λr e=>by cases e),(λe=>by cases e),(λe=>by cases e),(λe=>by cases e)⟩,Ï rfl,λ_=>by decide,(λq=>by rcases q with q|q<;>simp[tA]at q),(λq=>by simp[tA]at q),(λq=>by simp[tA]at q),(λq=>by simp[tA]at q)⟩
def Uy:∀(f k:Nat) (st:PS),ju B k st->k<=B.size->ju B (ov B f k st).1 (ov B f k st).2/\(ov B f k st).1<=B.size
 |0,k,st,h,hk=>⟨h,hk⟩
 |f+1,k,st,h,hk=>by
  unfold ov;split
  .rename_i a;split
   .exact⟨h,hk⟩
   .rename_i o e;exact Uy f (k+1) o (abq h a e) Z
  .exact⟨h,hk⟩
end
section
variable{g:Gh}{st:PS}
def abr{d:PD}(i:Nat)(z:Int):g.M (d.jB i z)=g.M d:=by unfold PD.jB Gh.M;split<;>simp[PD.wj,PD.uR, *]
def abt{d:PD}(h:i=2\/i=3)(z:Int):g.DY (d.jB i z) (if i=2 then 110 else 107)=⟨g.M d,i,Á⟩:=by
 rcases h with rfl|rfl
 .show(⟨g.M<|d.jB 2 z,2,Á⟩:Ā)=_;rw[abr]
 .show(⟨g.M<|d.jB 3 z,3,Á⟩:Ā)=_;rw[abr]
def abu{d:PD}(on:d.r=Î):g.S d=Â ⟨g.q,0,Á⟩:=if_pos on
def aqs{d:PD}(on:d.r=Î):g.G d=Â ⟨g.M d,0,Á⟩:=if_pos on
def MU(h:gO m b g O B st w)(j:st.r=0)(on:st.d.r=Î)(a c:Int)(v:qz a c=Î): Ò À 100 #[Ã<|Â ⟨b,0,Á⟩,Å ű a,Å ű c] w λe u=>e=Æ (ï #[])/\sx m b (pL st a c) w u:=by
 have G:w.cell? ⟨b,2,Á⟩=Â (Ã<|g.S st.d):=h.r.r 2 _ U;have x:w.cell? ⟨b,4,Á⟩=Â (Ã<|g.G st.d):=h.r.r 4 _ U;rw[abu on]at G;rw[aqs on]at x;have H:=ff<|Ê h v;clear h v;generalize y:g.M st.d=tm at x;have n:=ff y;clear y;by_cases o:a=86
 .subst o;have k:=ff (show pL st 86 c={st with r:=wq c 2,M:=86,d:=st.d.uR 5 (k9 c)}from by unfold pL;rw[<-NW H.out.2 (È ⟨È U,U⟩),NZ A];rfl);go_enter Ą,ÿ;go_wp2_with (go_at_call 147;refine(NV H.out.1 (Gm H.out.1.C H.out.1.r on (i:=5) A) j on _ _ 86 A A λz=>rfl).mono ?_;rintro e u ⟨rfl,l⟩);go_end0;exact⟨U,by rwa[k.out]⟩
 have I:(a==86)=Ë:=by rwa[beq_eq_false_iff_ne]
 by_cases p:a=87
 .subst p;have k:=ff (show pL st 87 c={st with r:=wq c 2,M:=87,d:=st.d.uR 6 (k9 c)}from by unfold pL;rw[<-NW H.out.2 (È ⟨Ï U,U⟩),NZ A];rfl);go_enter Ą,ÿ;go_wp2_with (go_at_call 147;refine(NV H.out.1 (Gm H.out.1.C H.out.1.r on (i:=6) A) j on _ _ 87 A A λz=>rfl).mono ?_;rintro e u ⟨rfl,l⟩);go_end0;exact⟨U,by rwa[k.out]⟩
 have J:(a==87)=Ë:=by rwa[beq_eq_false_iff_ne]
 by_cases q:a=120
 .subst q;have f:=ff ((by have:=Gn H.out.1.C H.out.1.r on (i:=0) A;rw[n.out]at this;exact this:qA m b g st.d tm 0 (λz=>st.d.jB 0 z) (st.d.yb 0) w));have C:=f.out.C;have D:=f.out.I;have E:=f.out.r;go_enter Ą,ÿ;go_wp2_with fail;go_region_with (go_at_call 146;refine(JO _ _ _).mono ?_;rintro e u ⟨rfl,F⟩;subst u);all_goals go_end0
  all_goals exact⟨U,Ur H.out.1 f.out j (NY A) U⟩
 have K:(a==120)=Ë:=by rwa[beq_eq_false_iff_ne]
 by_cases r:a=121
 .subst r;have f:=ff ((by have:=Gn H.out.1.C H.out.1.r on (i:=1) A;rw[n.out]at this;exact this:qA m b g st.d tm 1 (λz=>st.d.jB 1 z) (st.d.yb 1) w));have C:=f.out.C;have D:=f.out.I;have E:=f.out.r;go_enter Ą,ÿ;go_wp2_with fail;go_region_with (go_at_call 146;refine(JO _ _ _).mono ?_;rintro e u ⟨rfl,F⟩;subst u);all_goals go_end0
  all_goals exact⟨U,Ur H.out.1 f.out j (NY A) U⟩
 have L:(a==121)=Ë:=by rwa[beq_eq_false_iff_ne]
 by_cases s:a=110
 .subst s;have k:=ff (show pL st 110 c={st with r:=wq c 6,M:=110,d:=st.d.jB 2 (k9 c)}from by unfold pL;rw[<-NW H.out.2 (Ï ⟨È U,U⟩),NZ A];rfl);go_enter Ą,ÿ;go_wp2_with (go_at_call 147;refine(NV H.out.1 ((by have:=Gn H.out.1.C H.out.1.r on (i:=2) A;rw[n.out]at this;exact this:qA m b g st.d tm 2 (λz=>st.d.jB 2 z) (st.d.yb 2) w)) j on _ _ 110 A A λz=>(by have:=abt (g:=g) (d:=st.d) (i:=2) (È U) z;rwa[n.out]at this)).mono ?_;rintro e u ⟨rfl,l⟩);go_end0;exact⟨U,by rwa[k.out]⟩
 have M:(a==110)=Ë:=by rwa[beq_eq_false_iff_ne]
 by_cases t:a=107
 .subst t;have k:=ff (show pL st 107 c={st with r:=wq c 6,M:=107,d:=st.d.jB 3 (k9 c)}from by unfold pL;rw[<-NW H.out.2 (Ï ⟨Ï U,U⟩),NZ A];rfl);go_enter Ą,ÿ;go_wp2_with (go_at_call 147;refine(NV H.out.1 ((by have:=Gn H.out.1.C H.out.1.r on (i:=3) A;rw[n.out]at this;exact this:qA m b g st.d tm 3 (λz=>st.d.jB 3 z) (st.d.yb 3) w)) j on _ _ 107 A A λz=>(by have:=abt (g:=g) (d:=st.d) (i:=3) (Ï U) z;rwa[n.out]at this)).mono ?_;rintro e u ⟨rfl,l⟩);go_end0;exact⟨U,by rwa[k.out]⟩
 have l:(a==107)=Ë:=by rwa[beq_eq_false_iff_ne]
 by_cases k:a=115
 .subst k;have f:=ff<|Gm H.out.1.C H.out.1.r on (i:=7) A;have C:=f.out.C;have D:=f.out.I;have E:=f.out.r;go_enter Ą,ÿ;go_wp2_with fail;go_region_with (go_at_call 146;refine(JO _ _ _).mono ?_;rintro e u ⟨rfl,F⟩;subst u);all_goals go_end0
  all_goals exact⟨U,Ur H.out.1 f.out j (NY A) U⟩
 have f:(a==115)=Ë:=by rwa[beq_eq_false_iff_ne]
 go_enter Ą,ÿ;go_wp2;go_end0;refine⟨U,fc.fT _ _,g,O,B,?_⟩;have e:pL st a c={st with M:=a}:=by unfold pL PD.fZ;rw[NY ⟨Z,Z⟩,if_neg o,if_neg p,if_neg q,if_neg r,if_neg s,if_neg t,if_neg k,<-j]
 rw[e];exact H.out.1.Up a j
end
section
variable{g:Gh}{s:ByteArray}{st:PS}{d:PD}
def N7(m b:Nat)(o:Option PS)(e:Ending)(w u:Í):Prop:=
 (o=Á/\e=Æ (û Ë)/\u=w)\/∃a,o=Â a/\e=Æ (û Î)/\sx m b a w u
def abv{o:Option PS}{e:Ending}(h:match o with
 |none=>e=Æ (û Ë)/\u=w
 |some a=>e=Æ (û Î)/\sx m b a w u):N7 m b o e w u:=by
 cases o with
 |none=>exact È ⟨U,h⟩
 |some a=>exact Ï ⟨a,U,h⟩
def aqt{d:PD}(on:d.r=Î):d.C.length=d.S.length+1:=by rw[yd,on];rfl
def abw(h:gO m b g O s st w)(j:st.r=0)(on:st.d.r=Î)(y:st.d.Y.length<=8)(z:st.d.C.length<=24)(c:Int): Ò À 95 #[Ã<|Â ⟨b,0,Á⟩,Å ű c] w λe u=>N7 m b (su st c) e w u:=by
 have l:=h.C.r on;let⟨I,J,p⟩:=jh h.C.C;let⟨K,L,q⟩:=jh l.I;rw[h.C.aa9]at p;rw[l.G]at q;have M:=h.r.r 0 _ U;have r:=h.r.r 1 _ U;have B:=h.r.r 2 _ U;rw[abu on]at B;rw[p]at r;have t:=l.r.r 8 _ (by have:=DZ st.d.I.c g.r;rwa[l.M]at this);rw[q]at t;have N:=h.r.C 0;obtain⟨v,f⟩:∃n,st.d.C.length=n:=⟨_,U⟩;obtain⟨x,i⟩:∃n,st.d.Y.length=n:=⟨_,U⟩;rw[f]at r z;rw[i]at t y;have k:st.d.S.length+1=v:=by rw[<-f];exact(aqt on).symm
 have H:=ff<|Ê h<|Ê f<|Ê i<|Ê k j;by_cases C:c=59/\v<24
 .obtain⟨rfl,a⟩:=C;go_enter Ŭ,Ş;go_wp2;go_ret;let⟨h,f,i,k,j⟩:=H.out;exact Ï ⟨_,by rw[su,if_pos ⟨U,Z⟩],U,mH h 0 _,g,O,_,h.NU _ [82] A A<|È on⟩
 by_cases D:c=44/\0<x/\x<8
 .obtain⟨rfl,P,Q⟩:=D;go_enter Ŭ,Ş;go_wp2_with (go_at_call 99;refine(abj H.out.1 H.out.2.2.2.2 on (by have:=H.out.2.2.1;omega)).mono ?_;rintro e u ⟨rfl,o,E,F,S,a⟩;have T:=a.r.r 0 _ U;have V:=a.r.C 0;have G:=ff<|Ê o a;clear o a);go_ret;let⟨h,f,i,k,j⟩:=H.out;let⟨o,a⟩:=G.out;exact Ï ⟨_,by rw[su,if_neg Z,if_pos ⟨U,Z,Z⟩],U,o.fg<|mH a 0 _,E,F,_,a.NU _ [120,84] A A<|È on⟩
 .have a:=ff (show su st c=Á by
   let⟨h,f,i,k,j⟩:=H.out;rw[su,if_neg Z,if_neg Z])
  go_enter Ŭ,Ş;go_wp2_with fail;all_goals first|(go_ret;exact È ⟨a.out,U,U⟩)|(exfalso;simp only[beq_iff_eq,decide_eq_true_eq]at*;omega)
def ko:θ->Option θ
 |Ŏ c=>Â c
 |.seq a b=>match ko a with
  |some c=>Â c
  |none=>ko b
 |.block _ c=>ko c
 |.scope c=>ko c
 |.cond _ a b=>match ko a with
  |some c=>Â c
  |none=>ko b
 |_=>Á
noncomputable def qB:θ:=(Tryz.f61.body.bind ko).getD aC
def pO(b:Nat)(B:ByteArray)(i:Ñ)(u:Nat->Ñ):Ď:=⟨#[Ã<|Â ⟨b,0,Á⟩,Ä B,Ł,Ł,Å É 0,i,u 6,u 7,u 8,u 9,u 10,u 11,u 12,u 13,u 14,u 15,u 16,u 17,u 18,u 19,u 20,u 21,u 22,u 23,u 24,u 25,u 26,u 27,u 28,u 29,u 30,u 31,u 32,u 33,u 34,u 35,u 36,u 37,u 38,u 39,u 40,u 41,u 42,u 43,u 44,u 45,u 46,u 47,u 48,u 49,u 50,u 51,u 52,u 53,u 54,u 55,u 56,u 57,u 58,u 59,u 60,u 61,u 62,u 63,u 64,u 65,u 66,u 67,u 68,u 69,u 70,u 71,u 72,u 73,u 74,u 75,u 76,u 77,u 78,u 79,u 80,u 81,u 82,u 83,u 84,u 85,u 86,u 87,u 88,u 89,u 90,u 91,u 92,u 93,u 94,u 95,u 96,u 97,u 98,u 99,u 100,u 101,u 102,u 103,u 104,u 105,u 106,u 107,u 108,u 109,u 110,u 111,u 112,u 113,u 114,u 115,u 116,u 117,u 118,u 119,u 120,u 121,u 122,u 123,u 124,u 125,u 126,u 127,u 128,u 129,u 130,u 131,u 132,u 133,u 134,u 135,u 136,u 137,u 138,u 139,u 140,u 141,u 142,u 143,u 144,u 145,u 146],[]⟩
def Fr(b:Nat)(B:ByteArray)(i:Ñ)(a:Ď):Prop:=∃u,a=pO b B i u
def gi{b:Nat}{B:ByteArray}{i:Value}{a:Act}(h:a=pO b B i (λn=>a.tmps.getD n undef):=by rfl):Fr b B i a:=⟨_,h⟩
def QQ(X:Ď->Í->Prop):Exit->Ď->Í->Prop
 |.exit 0,a,w=>X a w
 |_,_,_=>False
def sy(m b:Nat)(B:ByteArray)(k:Nat)(st:PS)(a u:Í):Prop:=∃(h:k<B.size) (h:PS),rj B k st (B[k].toNat:Int)=Â h/\sx m b h a u
def sB(m b:Nat)(B:ByteArray)(k:Nat)(st:PS)(a u:Í):Prop:=∃h:k<B.size,rj B k st (B[k].toNat:Int)=Á/\∃c,sx m b c a u
def uU{d:Int}(h:(0<d/\yQ=Ë)\/d<=0):¬(0<d/\yQ=Î):=by
 rintro⟨b,a⟩;rcases h with⟨_,h⟩|h
 .rw[h]at a;cases a
 .omega
def uV(h:¬(0<st.r/\ja c=Î)):rj B k st c=ly B k {st with r:=0} c:=if_neg h
def aqu(a:0<st.r)(b:ja c=Î):rj B k st c=Â (JN st c):=if_pos ⟨a,b⟩
section
variable{want:Int}
def aqv(h:st.C=[]):ly B k st c=su st c:=by rw[ly,h]
def aqw(h:st.C=want::zQ)(a:want=82):ly B k st c=Ag st (ya c):=by rw[ly,h];simp only;rw[if_pos a]
def aqx(h:st.C=want::zQ)(a:want=66)(b:si c=Î):ly B k st c=Â (pL {st with C:=[84],d:=st.d.sk} 120 c):=by rw[ly,h];simp only;rw[if_neg Z,if_pos a,if_pos b]
def aqy(h:st.C=want::zQ)(a:want=66)(b:si c=Ë):ly B k st c=su st c:=by rw[ly,h];simp only;rw[if_neg Z,if_pos a,if_neg (by rw[b];decide)]
def aqz(h:st.C=want::zQ)(a:want=84):ly B k st c=yc st (NQ c):=by rw[ly,h];simp only;rw[if_neg Z,if_neg Z,if_pos a]
def aqA(h:st.C=want::zQ)(a:want=80)(b:c=125):ly B k st c=Â {st with C:=zQ,d:=st.d.tx (B.extract (k-st.I.toNat) k)}:=by rw[ly,h];simp only;rw[if_neg Z,if_neg Z,if_neg Z,if_pos a,if_pos b]
def abx(h:st.C=want::zQ)(a:want=80)(b:¬c=125)(d:st.I=40\/lG c=0):ly B k st c=Á:=by rw[ly,h];simp only;rw[if_neg Z,if_neg Z,if_neg Z,if_pos a,if_neg b,if_pos d]
def aqB(h:st.C=want::zQ)(a:want=80)(b:¬c=125)(d:¬st.I=40)(e:¬lG c=0):ly B k st c=Â {st with I:=st.I+1}:=by rw[ly,h];simp only;rw[if_neg Z,if_neg Z,if_neg Z,if_pos a,if_neg b,if_neg Z]
def aqC(h:st.C=want::zQ)(a:¬want=82)(b:¬want=66)(d:¬want=84)(e:¬want=80)(f:qz want c=Î):ly B k st c=Â {pL st want c with C:=zQ}:=by rw[ly,h];simp only;rw[if_neg a,if_neg b,if_neg d,if_neg e,if_pos f]
def aqD(h:st.C=want::zQ)(a:¬want=82)(b:¬want=66)(d:¬want=84)(e:¬want=80)(f:qz want c=Ë):ly B k st c=Á:=by rw[ly,h];simp only;rw[if_neg a,if_neg b,if_neg d,if_neg e,if_neg (by rw[f];decide)]
end
def uW(c:UInt8):(0:Int)<=(c.toNat:Int)/\(c.toNat:Int)<256:=⟨Int.natCast_nonneg _,by have:=c.toNat_lt;omega⟩
def Uz(s:ByteArray)(h:s.size=0):(s.toList==[])=Î:=by
 have:s.toList.length=0:=by rwa[ģ]
 rw[Ó this];rfl
def tB(s:ByteArray)(h:¬s.size=0):(s.toList==[])=Ë:=by
 rw[beq_eq_false_iff_ne];intro e;have:s.toList.length=s.size:=by rw[ģ];rfl
 rw[e]at this;exact h this.symm
def gO.aqE(h:gO m b g O s st w)(on:st.d.r=Î)(i:c=86\/c=87\/c=110\/c=107):∃a e f,g.DY st.d c=⟨a,e,Á⟩/\qA m b g st.d a e f (st.d.G c) w/\∀z,f z=st.d.fZ c z:=by
 rcases i with rfl|rfl|rfl|rfl
 .exact⟨_,_,_,U,Gm h.C h.r on A,λz=>rfl⟩
 .exact⟨_,_,_,U,Gm h.C h.r on A,λz=>rfl⟩
 .exact⟨_,_,_,U,Gn h.C h.r on A,λz=>rfl⟩
 .exact⟨_,_,_,U,Gn h.C h.r on A,λz=>rfl⟩
def gO.tx(h:gO m b g O s st w)(on:st.d.r=Î)(a:st.d.M=Î)(p:ByteArray):gO m b g O s {st with d:=st.d.tx p} (w.setCell ⟨g.t,5,Á⟩<|Ä p)/\fc (λi=>m<=i) w (w.setCell ⟨g.t,5,Á⟩<|Ä p):=by have l:=h.C.r on;let⟨f,j,c⟩:=l.C a;have e:fc (λi=>i=g.t) w (w.setCell ⟨g.t,5,Á⟩<|Ä p):=pN c;exact⟨⟨h.S,h.a.r _ trivial,h.r.I e λx=>fh.S h.r c A x,h.M,h.I,h.C.tx on a p,h.c,h.N⟩,e.S λi _ x=>by have:=l.S;omega⟩
def gO.aby(h:gO m b g O s st w)(on:st.d.r=Î)(a:st.C=c::zQ):gO m b g O (s.extract 1 s.size) {st with C:=zQ} (w.setCell ⟨b,0,Á⟩<|Ä<|s.extract 1 s.size):= h.NU _ zQ (apN s h.M) (by rw[apM,h.I,a];rfl)<|È on
def gO.aqF(h:gO m b g O s st w)(a:st.C=c::zQ):0<s.size:=by have:=Ui s;rw[h.I,a]at this;simp at this;omega
end
section
variable{g:Gh}{s:ByteArray}{st:PS}{d:PD}
def aqG(h:gO m b g O s st w)(a:st.r=0)(c:st.d.r=Ë->st.d.S=[])(f:st.d.C.length<=100000)(k:Int): Ò À 96 #[Ã<|Â ⟨b,0,Á⟩,Å É k] w λe u=>N7 m b (Ag st k) e w u:=(aqc h a c f k).mono λ_ _ q=>abv q
def aqH(h:gO m b g O s st w)(a:st.r=0)(on:st.d.r=Î)(c:st.d.M=Î)(k:Int): Ò À 101 #[Ã<|Â ⟨b,0,Á⟩,Å É k] w λe u=>N7 m b (yc st k) e w u:=(ap4 h a on c k).mono λ_ _ q=>abv q
def aqI{X:Ď->Í->Prop}{a:Ď}(G:Fr b B (Å É k) a) (h:gO m b g O s st w) (i:ju B k st) (Q:B.size<=1200) (H:k<B.size) (n:0<st.r) (I:ja (B[k].toNat:Int)=Î) (S:∀a u,Fr b B (Å É<|(k:Int)+1) a/\sy m b B k st w u->K a u) (_hQ:∀a u,Fr b B (Å É k) a/\sB m b B k st w u->X a u): ã À qB (Exit.then K<|QQ X) a w:=by
 obtain⟨c,rfl⟩:=G;unfold pO;conv=>arg 2;whnf
 have T:w.cell? ⟨b,0,Á⟩=Â (Ä s):=h.r.r 0 _ U;have V:w.cell? ⟨b,6,Á⟩=Â (Å É st.r):=h.r.r 6 _ U;have W:w.cell? ⟨b,7,Á⟩=Â (Å É st.I):=h.r.r 7 _ U;have Y:=h.r.C 0;have f6:=h.r.C 6;have f7:=h.r.C 7;have d0:=i.M;have d1:=i.r;have e0:=i.C;have e1:=i.I;let⟨q,on,_,_⟩:=i.e n;let⟨r,ao,f,t,j,v⟩:=h.aqE on q;have J:w.cell? ⟨b,5,Á⟩=Â (Ã O):=h.r.r 5 _ U;rw[(h.c n).2,t]at J;obtain⟨x,o⟩:∃x,st.d.G st.M=x:=⟨_,U⟩;have L:=j.C;rw[o]at L;have fm:=j.I;obtain⟨M,N⟩:∃y,wrap64 (x*10)=y:=⟨_,U⟩;obtain⟨l,P⟩:∃y,wrap64 (M+((B[k].toNat:Int)-48)%256)=y:=⟨_,U⟩;have N8:¬r=b:=j.r;have N9:¬b=r:=λe=>j.r e.symm;have z:=h.Y (st.r-1) λ_=>h.c n;have p:=j.S 6<|Å É<|st.r-1;have C:=z.G p l;have D:sr (st.d.G st.M) (B[k].toNat:Int)=l:=by rw[sr,Ũ,Ũ,o,N,P]
 have E:JN st (B[k].toNat:Int)={st with r:=st.r-1,d:=f l}:=by rw[JN,D,v]
 have F:Hid (rj B k st (B[k].toNat:Int)=Â {st with r:=st.r-1,d:=f l}/\sx m b {st with r:=st.r-1,d:=f l} w (ω _)):= ff ⟨by rw[aqu n I,E],(((mH h 6 _).fg<|Gp (st:=st) p _).C (fc.fR (λ_=>False) _) λ_ _ x=>x.elim),g,O,s,C.fR⟩;clear z p C D E j v t h i o q;go_wp2_with (go_at_call 94;refine(sw _ _).mono ?_;rintro e u ⟨rfl,hw⟩;subst u);go_region;all_goals
  go_wp2;exact⟨gi,⟨H,_,F.out.1,F.out.2⟩⟩
def aqJ{X:Ď->Í->Prop}(z:Fr b B (Å É k) y) (i:gO m b g O s st w) (j:ju B k st) (Q:B.size<=1200) (l:k<B.size) (n:(0<st.r/\ja (B[k].toNat:Int)=Ë)\/st.r<=0) (o:s.size=0) (S:∀y u,Fr b B (Å É<|(k:Int)+1) y/\sy m b B k st w u->K y u) (C:∀y u,Fr b B (Å É k) y/\sB m b B k st w u->X y u): ã À qB (Exit.then K<|QQ X) y w:=by
 obtain⟨f,rfl⟩:=z;unfold pO;conv=>arg 2;whnf
 have T:w.cell? ⟨b,0,Á⟩=Â (Ä s):=i.r.r 0 _ U;have V:w.cell? ⟨b,6,Á⟩=Â (Å É st.r):=i.r.r 6 _ U;have W:w.cell? ⟨b,7,Á⟩=Â (Å É st.I):=i.r.r 7 _ U;have Y:=i.r.C 0;have f6:=i.r.C 6;have f7:=i.r.C 7;have d0:=j.M;have d1:=j.r;have e0:=j.C;have e1:=j.I;have p:=ff<|uV (B:=B) (k:=k)<|uU n;have r:=i.Y 0 λh=>absurd h A;have t:=ff<|mH i 6<|Å É 0;have D:=j.d.C;have E:=j.d.I;have F:=ff r;let⟨tU,Ah⟩:=uW B[k];have qW:=Uz s o;have h:st.C=[]:=by rw[<-i.I];exact aa5 s o
 have G:st.d.r=Î:=by
  rcases i.N with q|q
  .exact q
  .rw[h]at q;cases q
 have v:=ff<|aqv (B:=B) (k:=k) (c:=(B[k].toNat:Int)) (st:={st with r:=0}) h;clear h i j;rcases n with⟨H,mV⟩|H;all_goals
  go_wp2_with (first|(go_at_call 94;refine(sw _ _).mono ?_;rintro e u ⟨rfl,x⟩;subst u)|(go_at_call 95;refine(abw r U G E D _).mono ?_;rintro e u (⟨q,rfl,x⟩|⟨I,q,rfl,J,L,M,N,P⟩)))
  .subst x;exact C _ _ ⟨gi,⟨l,p.out.trans<|v.out.trans q,_,t.out,_,_,_,F.out⟩⟩
  .exact⟨gi,⟨l,I,p.out.trans<|v.out.trans q,t.out.fg J,L,M,N,P⟩⟩
def aqK{X:Ď->Í->Prop}(z:Fr b B (Å É k) y) (i:gO m b g O s st w) (j:ju B k st) (P:B.size<=1200) (o:k<B.size) (p:(0<st.r/\ja (B[k].toNat:Int)=Ë)\/st.r<=0) (q:0<s.size) (l:((s[0]'q).toNat:Int)=82) (Q:∀y u,Fr b B (Å É<|(k:Int)+1) y/\sy m b B k st w u->K y u) (C:∀y u,Fr b B (Å É k) y/\sB m b B k st w u->X y u): ã À qB (Exit.then K<|QQ X) y w:=by
 obtain⟨f,rfl⟩:=z;unfold pO;conv=>arg 2;whnf
 have S:w.cell? ⟨b,0,Á⟩=Â (Ä s):=i.r.r 0 _ U;have T:w.cell? ⟨b,6,Á⟩=Â (Å É st.r):=i.r.r 6 _ U;have V:w.cell? ⟨b,7,Á⟩=Â (Å É st.I):=i.r.r 7 _ U;have W:=i.r.C 0;have Y:=i.r.C 6;have f7:=i.r.C 7;have d0:=j.M;have d1:=j.r;have e0:=j.C;have e1:=j.I;have r:=ff<|uV (B:=B) (k:=k)<|uU p;have t:=i.Y 0 λh=>absurd h A;have v:=ff<|mH i 6<|Å É 0;have Ai:=j.d.C;have D1:=j.d.I;have D:=ff t;let⟨tU,Ah⟩:=uW B[k];have qW:=tB s Z;have ye:s.size<=10:=i.M;have E:=ff (show st.C=(s[0].toNat:Int)::(jU s).tail by rw[<-i.I];exact wi s q);have x:=ff<|aqw (B:=B) (k:=k) (c:=(B[k].toNat:Int)) (st:={st with r:=0}) E.out l;have yf:((s[0].toNat:Int)==82)=Î:=by rw[l];rfl
 have F:=ff λe=>(j.d.N e).1;clear l i j;rcases p with⟨G,mV⟩|G;all_goals
  go_wp2_with (first|(go_at_call 94;refine(sw _ _).mono ?_;rintro e u ⟨rfl,h⟩;subst u)|(go_at_call 97;refine(apW _ _).mono ?_;rintro e u ⟨rfl,h⟩;subst u)|(go_at_call 96;refine(aqG t U F.out (by show st.d.C.length<=100000;omega) _).mono ?_;rintro e u (⟨n,rfl,h⟩|⟨H,n,rfl,I,J,L,M,N⟩)))
  .subst h;exact C _ _ ⟨gi,⟨o,r.out.trans<|x.out.trans n,_,v.out,_,_,_,D.out⟩⟩
  .exact⟨gi,⟨o,H,r.out.trans<|x.out.trans n,v.out.fg I,J,L,M,N⟩⟩
end
section
variable{g:Gh}{s:ByteArray}{st:PS}{d:PD}
def aqL{X:Ď->Í->Prop}(t:Fr b B (Å É k) y) (f:gO m b g O s st w) (i:ju B k st) (M:B.size<=1200) (v:k<B.size) (l:(0<st.r/\ja (B[k].toNat:Int)=Ë)\/st.r<=0) (n:0<s.size) (j:((s[0]'n).toNat:Int)=66) (o:si (B[k].toNat:Int)=Î) (N:∀y u,Fr b B (Å É<|(k:Int)+1) y/\sy m b B k st w u->K y u) (_hQ:∀y u,Fr b B (Å É k) y/\sB m b B k st w u->X y u): ã À qB (Exit.then K<|QQ X) y w:=by
 obtain⟨c,rfl⟩:=t;unfold pO;conv=>arg 2;whnf
 have P:w.cell? ⟨b,0,Á⟩=Â (Ä s):=f.r.r 0 _ U;have Q:w.cell? ⟨b,6,Á⟩=Â (Å É st.r):=f.r.r 6 _ U;have S:w.cell? ⟨b,7,Á⟩=Â (Å É st.I):=f.r.r 7 _ U;have T:=f.r.C 0;have V:=f.r.C 6;have W:=f.r.C 7;have Y:=i.M;have d1:=i.r;have e0:=i.C;have e1:=i.I;have x:=ff<|uV (B:=B) (k:=k)<|uU l;have p:=f.Y 0 λh=>absurd h A;have z:=ff<|mH f 6<|Å É 0;have Ai:=i.d.C;have D1:=i.d.I;have HH1:=ff p;let⟨C,D⟩:=uW B[k];have qW:=tB s Z;have ye:s.size<=10:=f.M;have h:=ff (show st.C=(s[0].toNat:Int)::(jU s).tail by rw[<-f.I];exact wi s n);have r:st.d.r=Î:=by
  rcases f.N with q|q
  .exact q
  .rw[h.out]at q;injection q with q;omega
 have q:=ff<|aqx (B:=B) (k:=k) (st:={st with r:=0}) h.out j o;have yf:((s[0].toNat:Int)==82)=Ë:=by rw[j];rfl
 have Gt:((s[0].toNat:Int)==66)=Î:=by rw[j];rfl
 clear j f i;rcases l with⟨E,mV⟩|E;all_goals
  go_wp2_with (first|(go_at_call 94;refine(sw _ _).mono ?_;rintro e u ⟨rfl,F⟩;subst u)|(go_at_call 98;refine(Uj _ C D _).mono ?_;rintro e u ⟨rfl,F⟩;subst u)|(go_at_call 99;refine(abj p U r<|by show st.d.Y.length<=100000;omega).mono ?_;rintro e u ⟨rfl,F,H,I,J,G⟩)|(go_at_call 100;refine(MU G U r _ _<|show qz 120 _=Î from o).mono ?_;rintro e w'' ⟨rfl,G,H,I,J,L⟩))
  exact⟨gi,⟨v,_,x.out.trans q.out,z.out.fg<|F.fg G,H,I,J,L⟩⟩
def aqM{X:Ď->Í->Prop}(z:Fr b B (Å É k) y) (f:gO m b g O s st w) (i:ju B k st) (V:B.size<=1200) (l:k<B.size) (n:(0<st.r/\ja (B[k].toNat:Int)=Ë)\/st.r<=0) (o:0<s.size) (j:((s[0]'o).toNat:Int)=66) (C:si (B[k].toNat:Int)=Ë) (W:∀y u,Fr b B (Å É<|(k:Int)+1) y/\sy m b B k st w u->K y u) (D:∀y u,Fr b B (Å É k) y/\sB m b B k st w u->X y u): ã À qB (Exit.then K<|QQ X) y w:=by
 obtain⟨c,rfl⟩:=z;unfold pO;conv=>arg 2;whnf
 have Y:w.cell? ⟨b,0,Á⟩=Â (Ä s):=f.r.r 0 _ U;have c6:w.cell? ⟨b,6,Á⟩=Â (Å É st.r):=f.r.r 6 _ U;have c7:w.cell? ⟨b,7,Á⟩=Â (Å É st.I):=f.r.r 7 _ U;have f0:=f.r.C 0;have f6:=f.r.C 6;have f7:=f.r.C 7;have d0:=i.M;have d1:=i.r;have e0:=i.C;have e1:=i.I;have p:=ff<|uV (B:=B) (k:=k)<|uU n;have r:=f.Y 0 λh=>absurd h A;have t:=ff<|mH f 6<|Å É 0;have E:=i.d.C;have F:=i.d.I;have G:=ff r;let⟨H,I⟩:=uW B[k];have qW:=tB s Z;have ye:s.size<=10:=f.M;have v:=ff (show st.C=(s[0].toNat:Int)::(jU s).tail by rw[<-f.I];exact wi s o);have J:st.d.r=Î:=by
  rcases f.N with q|q
  .exact q
  .rw[v.out]at q;injection q with q;omega
 have x:=ff<|aqy (B:=B) (k:=k) (st:={st with r:=0}) v.out j C;have yf:((s[0].toNat:Int)==82)=Ë:=by rw[j];rfl
 have Gt:((s[0].toNat:Int)==66)=Î:=by rw[j];rfl
 clear j f i;rcases n with⟨L,mV⟩|L;all_goals
  go_wp2_with (first|(go_at_call 94;refine(sw _ _).mono ?_;rintro e u ⟨rfl,h⟩;subst u)|(go_at_call 98;refine(Uj _ H I _).mono ?_;rintro e u ⟨rfl,h⟩;subst u)|(go_at_call 95;refine(abw r U J F E _).mono ?_;rintro e u (⟨q,rfl,h⟩|⟨M,q,rfl,N,P,Q,S,T⟩)))
  .subst h;exact D _ _ ⟨gi,⟨l,p.out.trans<|x.out.trans q,_,t.out,_,_,_,G.out⟩⟩
  .exact⟨gi,⟨l,M,p.out.trans<|x.out.trans q,t.out.fg N,P,Q,S,T⟩⟩
def aqN{X:Ď->Í->Prop}(C:Fr b B (Å É k) y) (i:gO m b g O s st w) (j:ju B k st) (Q:B.size<=1200) (o:k<B.size) (p:(0<st.r/\ja (B[k].toNat:Int)=Ë)\/st.r<=0) (r:0<s.size) (l:((s[0]'r).toNat:Int)=84) (S:∀y u,Fr b B (Å É<|(k:Int)+1) y/\sy m b B k st w u->K y u) (D:∀y u,Fr b B (Å É k) y/\sB m b B k st w u->X y u): ã À qB (Exit.then K<|QQ X) y w:=by
 obtain⟨f,rfl⟩:=C;unfold pO;conv=>arg 2;whnf
 have T:w.cell? ⟨b,0,Á⟩=Â (Ä s):=i.r.r 0 _ U;have V:w.cell? ⟨b,6,Á⟩=Â (Å É st.r):=i.r.r 6 _ U;have W:w.cell? ⟨b,7,Á⟩=Â (Å É st.I):=i.r.r 7 _ U;have Y:=i.r.C 0;have f6:=i.r.C 6;have f7:=i.r.C 7;have d0:=j.M;have d1:=j.r;have e0:=j.C;have e1:=j.I;have t:=ff<|uV (B:=B) (k:=k)<|uU p;have v:=i.Y 0 λh=>absurd h A;have x:=ff<|mH i 6<|Å É 0;have Ai:=j.d.C;have D1:=j.d.I;have E:=ff v;let⟨tU,Ah⟩:=uW B[k];have qW:=tB s Z;have ye:s.size<=10:=i.M;have h:=ff (show st.C=(s[0].toNat:Int)::(jU s).tail by rw[<-i.I];exact wi s r);have F:st.d.r=Î:=by
  rcases i.N with q|q
  .exact q
  .rw[h.out]at q;injection q with q;omega
 have G:st.d.M=Î:=j.N (by rw[h.out,l];simp);have z:=ff<|aqz (B:=B) (k:=k) (c:=(B[k].toNat:Int)) (st:={st with r:=0}) h.out l;have yf:((s[0].toNat:Int)==82)=Ë:=by rw[l];rfl
 have Gt:((s[0].toNat:Int)==66)=Ë:=by rw[l];rfl
 have Gu:((s[0].toNat:Int)==84)=Î:=by rw[l];rfl
 clear l i j;rcases p with⟨H,mV⟩|H;all_goals
  go_wp2_with (first|(go_at_call 94;refine(sw _ _).mono ?_;rintro e u ⟨rfl,q⟩;subst u)|(go_at_call 102;refine(apV _ _).mono ?_;rintro e u ⟨rfl,q⟩;subst u)|(go_at_call 101;refine(aqH v U F G _).mono ?_;rintro e u (⟨n,rfl,q⟩|⟨I,n,rfl,J,L,M,N,P⟩)))
  .subst q;exact D _ _ ⟨gi,⟨o,t.out.trans<|z.out.trans n,_,x.out,_,_,_,E.out⟩⟩
  .exact⟨gi,⟨o,I,t.out.trans<|z.out.trans n,x.out.fg J,L,M,N,P⟩⟩
end
section
variable{g:Gh}{s:ByteArray}{st:PS}{d:PD}
def aqO{X:Ď->Í->Prop}(N:Fr b B (Å É k) y) (i:gO m b g O s st w) (j:ju B k st) (hB:B.size<=1200) (P:k<B.size) (E:(0<st.r/\ja (B[k].toNat:Int)=Ë)\/st.r<=0) (F:0<s.size) (l:((s[0]'F).toNat:Int)=80) (r:(B[k].toNat:Int)=125) (hK:∀y u,Fr b B (Å É<|(k:Int)+1) y/\sy m b B k st w u->K y u) (_hQ:∀y u,Fr b B (Å É k) y/\sB m b B k st w u->X y u): ã À qB (Exit.then K<|QQ X) y w:=by
 obtain⟨f,rfl⟩:=N;unfold pO;conv=>arg 2;whnf
 have c0:w.cell? ⟨b,0,Á⟩=Â (Ä s):=i.r.r 0 _ U;have c6:w.cell? ⟨b,6,Á⟩=Â (Å É st.r):=i.r.r 6 _ U;have Q:w.cell? ⟨b,7,Á⟩=Â (Å É st.I):=i.r.r 7 _ U;have f0:=i.r.C 0;have f6:=i.r.C 6;have f7:=i.r.C 7;have d0:=j.M;have d1:=j.r;have S:=j.C;have T:=j.I;have G:=ff<|uV (B:=B) (k:=k)<|uU E;have v:=i.Y 0 λh=>absurd h A;have H:=ff<|mH i 6<|Å É 0;have Ai:=j.d.C;have D1:=j.d.I;have V:=ff v;let⟨tU,Ah⟩:=uW B[k];have qW:=tB s Z;have ye:s.size<=10:=i.M;have h:=ff (show st.C=(s[0].toNat:Int)::(jU s).tail by rw[<-i.I];exact wi s F);have z:st.d.r=Î:=by
  rcases i.N with q|q
  .exact q
  .rw[h.out]at q;injection q with q;omega
 have C:st.d.M=Î:=j.N (by rw[h.out,l];simp);have W:w.cell? ⟨b,3,Á⟩=Â (Ã<|g.Y st.d):=i.r.r 3 _ U;rw[JP C]at W;let⟨Y,I,q⟩:=(i.C.r z).C C;have UA:w.cell? ⟨g.t,5,Á⟩=Â (Ä st.d.N.p):=q.r 5 _ (by have:=DZ st.d.N.c<|Ä st.d.N.p;rwa[I]at this);have UB:=q.C 5;have N9:¬b=g.t:=λe=>fh.S q i.r A e.symm;have N8:¬g.t=b:=fh.S q i.r A;let⟨Oa,_⟩:=j.Y (by rw[h.out,l];simp);have yf:((s[0].toNat:Int)==82)=Ë:=by rw[l];rfl
 have Gt:((s[0].toNat:Int)==66)=Ë:=by rw[l];rfl
 have Gu:((s[0].toNat:Int)==84)=Ë:=by rw[l];rfl
 have JS:((s[0].toNat:Int)==80)=Î:=by rw[l];rfl
 clear Y I q;have J:=ff<|aqA (B:=B) (k:=k) (st:={st with r:=0}) h.out l r;have UC:((B[k].toNat:Int) !=125)=Ë:=by rw[r];rfl
 obtain⟨n,L⟩:∃t:Nat,st.I=(t:Int):=⟨st.I.toNat,Z⟩;have o:=v.tx z C<|B.extract (k-n) k;have M:=o.1.aby z h.out;have D:=ff (Ê (show rj B k st (B[k].toNat:Int)=Â {({st with r:=0}:PS)with C:=(jU s).tail,d:=st.d.tx (B.extract (k-n) k)} by rw[G.out,J.out,show({st with r:=0}:PS).I.toNat=n by show st.I.toNat=n;omega])<|Ê ((H.out.fg o.2).fg<|mH o.1 0<|Ä<|s.extract 1 s.size) M);rw[L]at Q S T Oa;clear r l i j o M L J G H V v;rcases E with⟨CZ,mV⟩|CZ;all_goals
  go_wp2_with (first|(go_at_call 94;refine(sw _ _).mono ?_;rintro e u ⟨rfl,x⟩;subst u))
  go_region
  all_goals
   go_wp2;exact⟨gi,⟨P,_,D.out.1,D.out.2.1.C (fc.fR (λ_=>False) _) λ_ _ x=>x.elim,_,_,_,D.out.2.2.fR⟩⟩
def aqP{X:Ď->Í->Prop}(C:Fr b B (Å É k) y) (i:gO m b g O s st w) (j:ju B k st) (Q:B.size<=1200) (D:k<B.size) (v:(0<st.r/\ja (B[k].toNat:Int)=Ë)\/st.r<=0) (x:0<s.size) (l:((s[0]'x).toNat:Int)=80) (o:¬(B[k].toNat:Int)=125) (r:st.I=40) (_hK:∀y u,Fr b B (Å É<|(k:Int)+1) y/\sy m b B k st w u->K y u) (E:∀y u,Fr b B (Å É k) y/\sB m b B k st w u->X y u): ã À qB (Exit.then K<|QQ X) y w:=by
 obtain⟨f,rfl⟩:=C;unfold pO;conv=>arg 2;whnf
 have S:w.cell? ⟨b,0,Á⟩=Â (Ä s):=i.r.r 0 _ U;have T:w.cell? ⟨b,6,Á⟩=Â (Å É st.r):=i.r.r 6 _ U;have V:w.cell? ⟨b,7,Á⟩=Â (Å É st.I):=i.r.r 7 _ U;have W:=i.r.C 0;have Y:=i.r.C 6;have f7:=i.r.C 7;have d0:=j.M;have d1:=j.r;have e0:=j.C;have e1:=j.I;have F:=ff<|uV (B:=B) (k:=k)<|uU v;have G:=i.Y 0 λh=>absurd h A;have H:=ff<|mH i 6<|Å É 0;have Ai:=j.d.C;have D1:=j.d.I;have I:=ff G;let⟨tU,Ah⟩:=uW B[k];have qW:=tB s Z;have ye:s.size<=10:=i.M;have n:=ff (show st.C=(s[0].toNat:Int)::(jU s).tail by rw[<-i.I];exact wi s x);have J:st.d.r=Î:=by
  rcases i.N with q|q
  .exact q
  .rw[n.out]at q;injection q with q;omega
 have q:st.d.M=Î:=j.N (by rw[n.out,l];simp);have L:w.cell? ⟨b,3,Á⟩=Â (Ã<|g.Y st.d):=i.r.r 3 _ U;rw[JP q]at L;let⟨M,z,h⟩:=(i.C.r J).C q;have UA:w.cell? ⟨g.t,5,Á⟩=Â (Ä st.d.N.p):=h.r 5 _ (by have:=DZ st.d.N.c<|Ä st.d.N.p;rwa[z]at this);have UB:=h.C 5;have N9:¬b=g.t:=λe=>fh.S h i.r A e.symm;have N8:¬g.t=b:=fh.S h i.r A;let⟨Oa,_⟩:=j.Y (by rw[n.out,l];simp);have yf:((s[0].toNat:Int)==82)=Ë:=by rw[l];rfl
 have Gt:((s[0].toNat:Int)==66)=Ë:=by rw[l];rfl
 have Gu:((s[0].toNat:Int)==84)=Ë:=by rw[l];rfl
 have JS:((s[0].toNat:Int)==80)=Î:=by rw[l];rfl
 clear M z h;have UC:((B[k].toNat:Int) !=125)=Î:=by rwa[bne_iff_ne]
 have N:=ff<|abx (B:=B) (k:=k) (st:={st with r:=0}) n.out l o<|È r;have abz:(st.I==40)=Î:=by rw[r];rfl
 clear r o l i j;rcases v with⟨P,mV⟩|P;all_goals
  go_wp2_with (first|(go_at_call 94;refine(sw _ _).mono ?_;rintro e u ⟨rfl,hw⟩;subst u))
  exact E _ _ ⟨gi,⟨D,F.out.trans N.out,_,H.out,_,_,_,I.out⟩⟩
def aqQ{X:Ď->Í->Prop}(E:Fr b B (Å É k) y) (i:gO m b g O s st w) (j:ju B k st) (S:B.size<=1200) (F:k<B.size) (v:(0<st.r/\ja (B[k].toNat:Int)=Ë)\/st.r<=0) (x:0<s.size) (l:((s[0]'x).toNat:Int)=80) (o:¬(B[k].toNat:Int)=125) (r:¬st.I=40) (z:¬lG (B[k].toNat:Int)=0) (T:∀y u,Fr b B (Å É<|(k:Int)+1) y/\sy m b B k st w u->K y u) (_hQ:∀y u,Fr b B (Å É k) y/\sB m b B k st w u->X y u): ã À qB (Exit.then K<|QQ X) y w:=by
 obtain⟨f,rfl⟩:=E;unfold pO;conv=>arg 2;whnf
 have V:w.cell? ⟨b,0,Á⟩=Â (Ä s):=i.r.r 0 _ U;have W:w.cell? ⟨b,6,Á⟩=Â (Å É st.r):=i.r.r 6 _ U;have Y:w.cell? ⟨b,7,Á⟩=Â (Å É st.I):=i.r.r 7 _ U;have f0:=i.r.C 0;have f6:=i.r.C 6;have f7:=i.r.C 7;have d0:=j.M;have d1:=j.r;have e0:=j.C;have e1:=j.I;have G:=ff<|uV (B:=B) (k:=k)<|uU v;have H:=i.Y 0 λh=>absurd h A;have I:=ff<|mH i 6<|Å É 0;have Ai:=j.d.C;have D1:=j.d.I;have C:=ff H;let⟨tU,Ah⟩:=uW B[k];have qW:=tB s Z;have ye:s.size<=10:=i.M;have n:=ff (show st.C=(s[0].toNat:Int)::(jU s).tail by rw[<-i.I];exact wi s x);have J:st.d.r=Î:=by
  rcases i.N with q|q
  .exact q
  .rw[n.out]at q;injection q with q;omega
 have q:st.d.M=Î:=j.N (by rw[n.out,l];simp);have L:w.cell? ⟨b,3,Á⟩=Â (Ã<|g.Y st.d):=i.r.r 3 _ U;rw[JP q]at L;let⟨M,D,h⟩:=(i.C.r J).C q;have UA:w.cell? ⟨g.t,5,Á⟩=Â (Ä st.d.N.p):=h.r 5 _ (by have:=DZ st.d.N.c<|Ä st.d.N.p;rwa[D]at this);have UB:=h.C 5;have N9:¬b=g.t:=λe=>fh.S h i.r A e.symm;have N8:¬g.t=b:=fh.S h i.r A;let⟨Oa,_⟩:=j.Y (by rw[n.out,l];simp);have yf:((s[0].toNat:Int)==82)=Ë:=by rw[l];rfl
 have Gt:((s[0].toNat:Int)==66)=Ë:=by rw[l];rfl
 have Gu:((s[0].toNat:Int)==84)=Ë:=by rw[l];rfl
 have JS:((s[0].toNat:Int)==80)=Î:=by rw[l];rfl
 clear M D h;have UC:((B[k].toNat:Int) !=125)=Î:=by rwa[bne_iff_ne]
 have N:=ff<|aqB (B:=B) (k:=k) (st:={st with r:=0}) n.out l o r z;have abz:(st.I==40)=Ë:=by rwa[beq_eq_false_iff_ne]
 have zm:((lG (B[k].toNat:Int):Int)==0)=Ë:=by rw[beq_eq_false_iff_ne];omega
 clear r o l i j z;rcases v with⟨P,mV⟩|P;all_goals
  go_wp2_with (first|(go_at_call 94;refine(sw _ _).mono ?_;rintro e u ⟨rfl,Q⟩;subst u)|(go_at_call 103;refine(qp _ _).mono ?_;rintro e u ⟨rfl,Q⟩;subst u))
  exact⟨gi,⟨F,_,G.out.trans N.out,I.out.fg<|mH C.out 7 _,_,_,_,C.out.abf _⟩⟩
def aqR{X:Ď->Í->Prop}(D:Fr b B (Å É k) y) (i:gO m b g O s st w) (j:ju B k st) (T:B.size<=1200) (E:k<B.size) (v:(0<st.r/\ja (B[k].toNat:Int)=Ë)\/st.r<=0) (x:0<s.size) (l:((s[0]'x).toNat:Int)=80) (o:¬(B[k].toNat:Int)=125) (z:¬st.I=40) (r:lG (B[k].toNat:Int)=0) (_hK:∀y u,Fr b B (Å É<|(k:Int)+1) y/\sy m b B k st w u->K y u) (F:∀y u,Fr b B (Å É k) y/\sB m b B k st w u->X y u): ã À qB (Exit.then K<|QQ X) y w:=by
 obtain⟨f,rfl⟩:=D;unfold pO;conv=>arg 2;whnf
 have V:w.cell? ⟨b,0,Á⟩=Â (Ä s):=i.r.r 0 _ U;have W:w.cell? ⟨b,6,Á⟩=Â (Å É st.r):=i.r.r 6 _ U;have Y:w.cell? ⟨b,7,Á⟩=Â (Å É st.I):=i.r.r 7 _ U;have f0:=i.r.C 0;have f6:=i.r.C 6;have f7:=i.r.C 7;have d0:=j.M;have d1:=j.r;have e0:=j.C;have e1:=j.I;have G:=ff<|uV (B:=B) (k:=k)<|uU v;have H:=i.Y 0 λh=>absurd h A;have I:=ff<|mH i 6<|Å É 0;have Ai:=j.d.C;have D1:=j.d.I;have J:=ff H;let⟨tU,Ah⟩:=uW B[k];have qW:=tB s Z;have ye:s.size<=10:=i.M;have n:=ff (show st.C=(s[0].toNat:Int)::(jU s).tail by rw[<-i.I];exact wi s x);have L:st.d.r=Î:=by
  rcases i.N with q|q
  .exact q
  .rw[n.out]at q;injection q with q;omega
 have q:st.d.M=Î:=j.N (by rw[n.out,l];simp);have M:w.cell? ⟨b,3,Á⟩=Â (Ã<|g.Y st.d):=i.r.r 3 _ U;rw[JP q]at M;let⟨N,C,h⟩:=(i.C.r L).C q;have UA:w.cell? ⟨g.t,5,Á⟩=Â (Ä st.d.N.p):=h.r 5 _ (by have:=DZ st.d.N.c<|Ä st.d.N.p;rwa[C]at this);have UB:=h.C 5;have N9:¬b=g.t:=λe=>fh.S h i.r A e.symm;have N8:¬g.t=b:=fh.S h i.r A;let⟨Oa,_⟩:=j.Y (by rw[n.out,l];simp);have yf:((s[0].toNat:Int)==82)=Ë:=by rw[l];rfl
 have Gt:((s[0].toNat:Int)==66)=Ë:=by rw[l];rfl
 have Gu:((s[0].toNat:Int)==84)=Ë:=by rw[l];rfl
 have JS:((s[0].toNat:Int)==80)=Î:=by rw[l];rfl
 clear N C h;have UC:((B[k].toNat:Int) !=125)=Î:=by rwa[bne_iff_ne]
 have P:=ff<|abx (B:=B) (k:=k) (st:={st with r:=0}) n.out l o<|Ï r;have abz:(st.I==40)=Ë:=by rwa[beq_eq_false_iff_ne]
 have zm:((lG (B[k].toNat:Int):Int)==0)=Î:=by rw[r];rfl
 clear z o l i j r;rcases v with⟨Q,mV⟩|Q;all_goals
  go_wp2_with (first|(go_at_call 94;refine(sw _ _).mono ?_;rintro e u ⟨rfl,S⟩;subst u)|(go_at_call 103;refine(qp _ _).mono ?_;rintro e u ⟨rfl,S⟩;subst u))
  exact F _ _ ⟨gi,⟨E,G.out.trans P.out,_,I.out,_,_,_,J.out⟩⟩
end
section
variable{g:Gh}{s:ByteArray}{st:PS}{d:PD}
def aqS{X:Ď->Í->Prop}(D:Fr b B (Å É k) y) (f:gO m b g O s st w) (i:ju B k st) (Q:B.size<=1200) (E:k<B.size) (v:(0<st.r/\ja (B[k].toNat:Int)=Ë)\/st.r<=0) (j:0<s.size) (n:¬((s[0]'j).toNat:Int)=82) (o:¬((s[0]'j).toNat:Int)=66) (p:¬((s[0]'j).toNat:Int)=84) (r:¬((s[0]'j).toNat:Int)=80) (x:qz ((s[0]'j).toNat:Int) (B[k].toNat:Int)=Î) (S:∀y u,Fr b B (Å É<|(k:Int)+1) y/\sy m b B k st w u->K y u) (_hQ:∀y u,Fr b B (Å É k) y/\sB m b B k st w u->X y u): ã À qB (Exit.then K<|QQ X) y w:=by
 obtain⟨c,rfl⟩:=D;unfold pO;conv=>arg 2;whnf
 have T:w.cell? ⟨b,0,Á⟩=Â (Ä s):=f.r.r 0 _ U;have V:w.cell? ⟨b,6,Á⟩=Â (Å É st.r):=f.r.r 6 _ U;have W:w.cell? ⟨b,7,Á⟩=Â (Å É st.I):=f.r.r 7 _ U;have Y:=f.r.C 0;have f6:=f.r.C 6;have f7:=f.r.C 7;have d0:=i.M;have d1:=i.r;have e0:=i.C;have e1:=i.I;have F:=ff<|uV (B:=B) (k:=k)<|uU v;have G:=f.Y 0 λh=>absurd h A;have H:=ff<|mH f 6<|Å É 0;have Ai:=i.d.C;let⟨I,J⟩:=uW B[k];have qW:=tB s Z;have ye:s.size<=10:=f.M;have l:=ff (show st.C=(s[0].toNat:Int)::(jU s).tail by rw[<-f.I];exact wi s j);have z:st.d.r=Î:=by
  rcases f.N with q|q
  .exact q
  .rw[l.out]at q;injection q with q;omega
 have yf:((s[0].toNat:Int)==82)=Ë:=by rwa[beq_eq_false_iff_ne]
 have aqT:((s[0].toNat:Int)==66)=Ë:=by rwa[beq_eq_false_iff_ne]
 have Gu:((s[0].toNat:Int)==84)=Ë:=by rwa[beq_eq_false_iff_ne]
 have JS:((s[0].toNat:Int)==80)=Ë:=by rwa[beq_eq_false_iff_ne]
 have L:=ff<|aqC (B:=B) (k:=k) (st:={st with r:=0}) l.out n o p r x;have M:=ff x;clear n o p r f i;rcases v with⟨N,mV⟩|N;all_goals
  go_wp2_with (first|(go_at_call 94;refine(sw _ _).mono ?_;rintro e u ⟨rfl,h⟩;subst u)|(go_at_call 104;refine(aa7 _ _ I J _).mono ?_;rintro e u ⟨rfl,h⟩;subst u)|(go_at_call 100;refine(MU G U z _ _ M.out).mono ?_;rintro e P ⟨rfl,C,g',nm',q,h⟩;have k0:P.cell? ⟨b,0,Á⟩=Â (Ä q):=h.r.r 0 _ U;have kf0:=h.r.C 0;have tV:0<q.size:=h.aqF l.out;have atX:q.size<=10:=h.M;have t:=ff<|Ê C h;clear C h))
  exact⟨gi,⟨E,_,F.out.trans L.out,H.out.fg<|t.out.1.fg<|mH t.out.2 0 _,_,_,_,t.out.2.aby ((Uu _ _ _).1.trans z) l.out⟩⟩
def aqU{X:Ď->Í->Prop}(t:Fr b B (Å É k) y) (f:gO m b g O s st w) (i:ju B k st) (L:B.size<=1200) (v:k<B.size) (r:(0<st.r/\ja (B[k].toNat:Int)=Ë)\/st.r<=0) (j:0<s.size) (l:¬((s[0]'j).toNat:Int)=82) (n:¬((s[0]'j).toNat:Int)=66) (o:¬((s[0]'j).toNat:Int)=84) (p:¬((s[0]'j).toNat:Int)=80) (x:qz ((s[0]'j).toNat:Int) (B[k].toNat:Int)=Ë) (_hK:∀y u,Fr b B (Å É<|(k:Int)+1) y/\sy m b B k st w u->K y u) (z:∀y u,Fr b B (Å É k) y/\sB m b B k st w u->X y u): ã À qB (Exit.then K<|QQ X) y w:=by
 obtain⟨c,rfl⟩:=t;unfold pO;conv=>arg 2;whnf
 have M:w.cell? ⟨b,0,Á⟩=Â (Ä s):=f.r.r 0 _ U;have N:w.cell? ⟨b,6,Á⟩=Â (Å É st.r):=f.r.r 6 _ U;have P:w.cell? ⟨b,7,Á⟩=Â (Å É st.I):=f.r.r 7 _ U;have Q:=f.r.C 0;have S:=f.r.C 6;have T:=f.r.C 7;have V:=i.M;have W:=i.r;have Y:=i.C;have e1:=i.I;have C:=ff<|uV (B:=B) (k:=k)<|uU r;have D:=f.Y 0 λh=>absurd h A;have E:=ff<|mH f 6<|Å É 0;have Ai:=i.d.C;have D1:=i.d.I;have F:=ff D;let⟨G,H⟩:=uW B[k];have qW:=tB s Z;have ye:s.size<=10:=f.M;have h:=ff (show st.C=(s[0].toNat:Int)::(jU s).tail by rw[<-f.I];exact wi s j);have on:st.d.r=Î:=by
  rcases f.N with q|q
  .exact q
  .rw[h.out]at q;injection q with q;omega
 have yf:((s[0].toNat:Int)==82)=Ë:=by rwa[beq_eq_false_iff_ne]
 have aqT:((s[0].toNat:Int)==66)=Ë:=by rwa[beq_eq_false_iff_ne]
 have Gu:((s[0].toNat:Int)==84)=Ë:=by rwa[beq_eq_false_iff_ne]
 have JS:((s[0].toNat:Int)==80)=Ë:=by rwa[beq_eq_false_iff_ne]
 have q:=ff<|aqD (B:=B) (k:=k) (st:={st with r:=0}) h.out l n o p x;clear l n o p f i;rcases r with⟨I,mV⟩|I;all_goals
  go_wp2_with (first|(go_at_call 94;refine(sw _ _).mono ?_;rintro e u ⟨rfl,J⟩;subst u)|(go_at_call 104;refine(aa7 _ _ G H _).mono ?_;rintro e u ⟨rfl,J⟩;subst u))
  exact z _ _ ⟨gi,⟨v,C.out.trans q.out,_,E.out,_,_,_,F.out⟩⟩
end
section
variable{g:Gh}{c:PS}{d:PD}
def aqV{X:Ď->Í->Prop}{d:ByteArray}(e:Fr b d (Å É k) y) (f:gO m b g O B c w) (h:ju d k c) (i:d.size<=1200) (j:k<d.size) (l:∀y v,Fr b d (Å É<|(k:Int)+1) y/\sy m b d k c w v->K y v) (n:∀y v,Fr b d (Å É k) y/\sB m b d k c w v->X y v): ã À qB (Exit.then K<|QQ X) y w:=by
 by_cases t:0<c.r/\ja (d[k].toNat:Int)=Î
 .exact aqI e f h i j t.1 t.2 l n
 have o:(0<c.r/\ja (d[k].toNat:Int)=Ë)\/c.r<=0:=by
  by_cases p:0<c.r
  .left;refine⟨p,?_⟩;cases q:ja (d[k].toNat:Int)with
   |false=>rfl
   |true=>exact absurd ⟨p,q⟩ t
  .right;omega
 by_cases D:B.size=0
 .exact aqJ e f h i j o D l n
 have p:0<B.size:=Z
 by_cases u:(B[0].toNat:Int)=82
 .exact aqK e f h i j o p u l n
 by_cases r:(B[0].toNat:Int)=66
 .cases q:si (d[k].toNat:Int)with
  |true=>exact aqL e f h i j o p r q l n
  |false=>exact aqM e f h i j o p r q l n
 by_cases x:(B[0].toNat:Int)=84
 .exact aqN e f h i j o p x l n
 by_cases q:(B[0].toNat:Int)=80
 .by_cases s:(d[k].toNat:Int)=125
  .exact aqO e f h i j o p q s l n
  by_cases z:c.I=40
  .exact aqP e f h i j o p q s z l n
  by_cases C:lG (d[k].toNat:Int)=0
  .exact aqR e f h i j o p q s z C l n
  .exact aqQ e f h i j o p q s z C l n
 cases s:qz (B[0].toNat:Int) (d[k].toNat:Int)with
 |true=>exact aqS e f h i j o p u r x q s l n
 |false=>exact aqU e f h i j o p u r x q s l n
def aqW{X:Ď->Í->Prop}(c:Fr b B (Å É k) y)(_hB:B.size<=1200)(e:¬k<B.size)(_hk:k<=B.size) (d:∀y v,Fr b B (Å É k) y/\v=w->X y v): ã À qB (Exit.then K<|QQ X) y w:=by
 obtain⟨u,rfl⟩:=c;unfold pO;conv=>arg 2;whnf
 go_wp2;exact d _ _ ⟨gi,U⟩
def mZ(B:ByteArray):Nat×PS:=ov B B.size 0 tA
def RI(m b:Nat)(d:ByteArray)(w:Í)(a:Ď)(e:Í):Prop:=
 ∃(k:Nat) (g:Gh) (O:Option Ā) (B:ByteArray) (c:PS),k<=d.size/\Fr b d (Å É k) a/\gO m b g O B c e/\fc (λi=>m<=i) w e/\ju d k c/\mZ d=ov d (d.size-k) k c
def Rmu(B:ByteArray)(a:Ď)(_:Í):Nat:=B.size-(intOf<|a.tmps.getD 5 Ł).toNat
def RX(m b:Nat)(B:ByteArray)(w:Í)(a:Ď)(d:Í):Prop:=
 ∃(k:Nat) (c:PS),k<=B.size/\Fr b B (Å É k) a/\sx m b c w d/\(mZ B).1=k/\(k=B.size->(mZ B).2=c)
def abA{i:Int}{w:Í}(h:Fr b B (Å É i) y):Rmu B y w=B.size-i.toNat:=by obtain⟨u,rfl⟩:=h;rfl
def aqX{a:PS}(b:k<B.size)(d:rj B k c (B[k].toNat:Int)=Â a):ov B (B.size-k) k c=ov B (B.size-(k+1)) (k+1) a:=by rw[show B.size-k=(B.size-(k+1))+1 by omega,ov,dif_pos b,d]
def aqY(a:k<B.size)(b:rj B k c (B[k].toNat:Int)=Á):ov B (B.size-k) k c=(k,c):=by rw[show B.size-k=(B.size-(k+1))+1 by omega,ov,dif_pos a,b]
def aqZ{d:ByteArray}(i:Fr b d (Å É 0) y)(h:gO m b g O B tA w)(r:d.size<=1200): ã À (Ŏ qB) (QQ<|RX m b d w) y w:=by
 apply Κ (RI m b d w) (Rmu d) ⟨0,g,O,B,tA,Ü _,i,h,fc.fT _ _,Ux d,U⟩;rintro y x ⟨k,g,O,B,c,n,i,s,o,t,p⟩;by_cases j:k<d.size
 .refine aqV i s t r j ?_ ?_
  .rintro u v ⟨f,z,e,l,q,C,D,E,F⟩;refine⟨⟨k+1,C,D,E,e,Z,by simpa using f,F,o.fg q,abq t j l,p.trans<|aqX j l⟩,?_⟩;rw[abA f,abA (w:=x) i];omega
  .rintro u v ⟨f,z,l,C,q,D⟩;have:=p.trans<|aqY j l;exact⟨k,C,n,f,⟨o.fg q,D⟩,by rw[this],λe=>by omega⟩
 .apply aqW i r j n;rintro u v ⟨f,rfl⟩;have:mZ d=(k,c):=by rw[p,show d.size-k=0 by omega];rfl
  exact⟨k,c,n,f,⟨o,g,O,B,s⟩,by rw[this],λ_=>by rw[this]⟩
def aq0{c:ByteArray}(h:gO m b g O B tA w)(f:c.size<=1200): Ò À 61 #[Ã<|Â ⟨b,0,Á⟩,Ä c] w λe u=>
  ∃(k:Nat) (d:PS),k<=c.size/\e=Æ (Å É k)/\sx m b d w u/\(mZ c).1=k/\(k=c.size->(mZ c).2=d):=by
 go_enter Tryz.func61,Tryz.ntmps61;go_wp2;go_step3;go_wp2;go_step3;go_wp2;refine Ĺ ?_ (aqZ gi h f);rintro(_|(_|_)|_|_|_|_) a v hq;all_goals first|exact absurd hq id|skip
 let⟨k,d,i,j,l⟩:=hq;obtain⟨e,rfl⟩:=j;unfold pO;go_wp2;(try rw[Exit.noGoto_ret]);go_ret;exact⟨k,d,i,U,(ff l).out⟩
end
def mI(B:ByteArray):Int×Bool×List PR:=
 if B.size=0 then(0,Î,[])else(((mZ B).1:Int),decide ((mZ B).1=B.size)&&(decide ((mZ B).2.C=[])||decide ((mZ B).2.C=[66])),(mZ B).2.d.C)
def iw(B:ByteArray):Int×Int×List PR:=
 if 1200<B.size then(1,0,[])else if(mI B).2.1=Î then(0,0,(mI B).2.2)else(2,(mI B).1,[])
def D2(m:Nat)(v:Ñ)(b:List PR)(w:Í):Prop:=jC m w/\∃a,w.ownsRow m 148 1 v a.length (nJ a)/\pM w.heap.size a b w
section
variable{g:Gh}{s:ByteArray}{a:PS}
def D2.oZ(w:Í):D2 w.heap.size (Ç Á 0 0) [] w:=⟨jC.I w,[],⟨U,È ⟨U,U⟩⟩,pM.N _ _⟩
def gO.iL(h:gO m b g O s a w)(c:a.d.r=Ë->a.d.S=[])(n:Nat):D2 m g.N a.d.C (w.drewN n):= ⟨h.a.iN n,g.C a.d,ic h.C.C (fc.iN (λ_=>False) w n) λ_ _=>id,(h.C.abk c).C (fc.iN (λ_=>False) w n) λ_ _ x=>x.elim⟩
def g0(m:Nat):Gh:={a:=[],q:=0,t:=0,B:=m,tb:=[],N:=Ç Á 0 0,r:=Ç Á 0 0,b:=Á}
def aq1(w:Í):gO w.heap.size w.heap.size (g0 w.heap.size) Á ⟨#[82]⟩ tA (w.alloc<|Þ #[Ä ⟨#[82]⟩,Ç Á 0 0,Ã Á,Ã Á,Ã Á,Ã Á,Å É 0,Å É 0] 153):= ⟨â _,(jC.I w).gE _ _ A A (λv e=>by simp at e;rcases e with rfl|rfl|rfl|rfl<;>trivial),fh.N w [Ä ⟨#[82]⟩,Ç Á 0 0,Ã Á,Ã Á,Ã Á,Ã Á,Å É 0,Å É 0] 153,A,A,⟨⟨U,È ⟨U,U⟩⟩,pM.N _ _,(λe=>by cases e),λ_=>rfl⟩,(λq=>by cases q),Ï rfl⟩
def aq2(s:ByteArray):jU s=[66]↔s.toList=[66]:=by
 unfold jU;rw[ģ];constructor
 .intro h;match hl:s.data.toList with
  |[]=>rw[hl]at h;simp at h
  |[x]=>
   rw[hl]at h;simp only[Œ,ř,List.cons.injEq,and_true]at h;have:x=66:=UInt8.toNat_inj.1 (by have:x.toNat=66:=Z;rw[this];rfl);rw[this]
  |x::y::r=>rw[hl]at h;simp at h
 .intro h;rw[h];rfl
def UD(a:¬B.size=0):(mI B).1=((mZ B).1:Int):=by rw[mI,if_neg a]
def abB(a:¬B.size=0):(mI B).2.2=(mZ B).2.d.C:=by rw[mI,if_neg a]
def aq3(a:¬B.size=0)(h:¬(mZ B).1=B.size):(mI B).2.1=Ë:=by rw[mI,if_neg a];simp[h]
def abC(a:¬B.size=0)(h:(mZ B).1=B.size){x:Bool}(b:x=(decide ((mZ B).2.C=[])||decide ((mZ B).2.C=[66]))):(mI B).2.1=x:=by rw[mI,if_neg a,b];simp[h]
def aq4(B:ByteArray):(mZ B).2.d.r=Ë->(mZ B).2.d.S=[]:=λe=>((Uy B.size 0 tA (Ux B)<|Ü _).1.d.N e).1
def abD(q:B.size<=1200): Ò À 45 #[Ä B] w λe u=>
  fc (λ_=>False) w u/\∃v,e=Æ (ï #[v,Å É (mI B).1,û (mI B).2.1])/\((mI B).2.1=Î->D2 w.heap.size v (mI B).2.2 u):=by
 by_cases a:B.size=0
 .have f:=Uz B a;have n:=ff (show mI B=(0,Î,[])from if_pos a);go_enter π,Ω;go_wp2;apply ă (v:=ï #[Ç Á 0 0,Å É 0,û Î]) (by simp[ō,ĩ,go_sem]) U;exact⟨fc.fT _ _,_,by rw[n.out],λ_=>by rw[n.out];exact D2.oZ w⟩
 .have f:=tB B a;have b:=ff a;go_enter π,Ω;go_wp2_with (go_at_call 61;refine(aq0 (aq1 w) q).mono ?_;rintro e r ⟨k,d,i,rfl,⟨n,g,O,s,c⟩,h,t⟩);have l:fc (λ_=>False) w r:=((fc.gE (λi=>w.heap.size<=i) w _ _).fg n).S λi D x=>by omega
  have E:=c.r.r 0 _ U;have F:=c.r.r 1 _ U;by_cases m:k=B.size
  .subst m;have y:=t U;subst y;have o:=ff c.I;have p:=ff λn=>c.iL (aq4 B) n;have n:=ff h;have d:=ff l;have z:((B.size:Int)==(B.size:Int))=Î:=fj
   by_cases a:s.size=0
   .have f:=Uz s a;have j:=ff (abC b.out n.out (x:=Î)<|by rw[<-o.out,aa5 s a];rfl);go_quiet (fail);go_wp2;apply ă (v:=ï #[g.N,Å É B.size,û Î]) (by simp[ō,ĩ,go_sem]) U;exact⟨d.out.fg<|fc.iN _ _ _,_,by rw[UD b.out,n.out,j.out],λ_=>by rw[abB b.out];exact p.out _⟩
   .have f:=tB s a;have j:=ff (abC b.out n.out (x:=(s.toList==[66])) (by
     rw[<-o.out];have C:¬jU s=[]:=λe=>by have:=Ui s;rw[e]at this;exact a this.symm
     rw[decide_eq_false C,Bool.false_or,ğ,beq_iff_eq,decide_eq_true_iff,aq2]))
    go_quiet (fail)
    go_wp2;apply ă (v:=ï #[g.N,Å É B.size,û<|s.toList==[66]]) (by simp[ō,ĩ,go_sem]) U;exact⟨d.out.fg<|fc.iN _ _ _,_,by rw[UD b.out,n.out,j.out],λ_=>by rw[abB b.out];exact p.out _⟩
  .have z:((k:Int)==(B.size:Int))=Ë:=by rw[beq_eq_false_iff_ne];omega
   have n:=ff (Ê h<|aq3 b.out<|by rwa[h]);have d:=ff l;go_quiet (fail);go_wp2;apply ă (v:=ï #[g.N,Å É k,û Ë]) (by simp[ō,ĩ,go_sem]) U;exact⟨d.out.fg<|fc.iN _ _ _,_,by rw[UD b.out,n.out.1,n.out.2],λe=>by rw[n.out.2]at e;cases e⟩
def aq5(h:B.size<=ĳ): Ò À 36 #[Ä B] w λe u=>
  fc (λ_=>False) w u/\∃v,e=Æ (ï #[v,Å É (iw B).1,Å É (iw B).2.1])/\((iw B).1=0->D2 w.heap.size v (iw B).2.2 u)/\((iw B).1≠0->v=Ç Á 0 0):=by
 unfold ĳ at h;by_cases b:1200<B.size
 .have a:=ff (show iw B=(1,0,[]) by rw[iw,if_pos b]);go_enter ņ,ş;go_wp2;apply ă (v:=ï #[Ç Á 0 0,Å É 1,Å É 0]) (by simp[ō,Ň,go_sem]) U;exact⟨fc.fT _ _,_,by rw[a.out],(λe=>by rw[a.out]at e;cases e),λ_=>rfl⟩
 .have f:B.size<=1200:=Z
  cases c:(mI B).2.1 with
  |true=>
   have a:=ff (show iw B=(0,0,(mI B).2.2) by rw[iw,if_neg b,if_pos c]);go_enter ņ,ş;go_wp2_with (go_at_call 45;refine(abD f).mono ?_;rintro e i ⟨d,v,rfl,g⟩);apply ă (v:=ï #[v,Å É 0,Å É 0]) (by simp[ō,Ň,go_sem]) U;exact⟨d,_,by rw[a.out],(λ_=>by rw[a.out];exact g c),λe=>by rw[a.out]at e;exact absurd U e⟩
  |false=>
   have a:=ff (show iw B=(2,(mI B).1,[]) by rw[iw,if_neg b,if_neg (by rw[c];exact Bool.false_ne_true)]);go_enter ņ,ş;go_wp2_with (go_at_call 45;refine(abD f).mono ?_;rintro e i ⟨d,v,rfl,g⟩);apply ă (v:=ï #[Ç Á 0 0,Å É 2,Å É (mI B).1]) (by simp[ō,Ň,go_sem]) U;exact⟨d,_,by rw[a.out],(λe=>by rw[a.out]at e;cases e),λ_=>rfl⟩
end
end Go.Proofs.Y.pJ
namespace Go.Proofs.Y.lb
open Go Go.Conc Go.Proofs Go.RowKit Go.Proofs.Y.Lift Go.Proofs.Y.gR Go.Proofs.Y.fv Go.Proofs.Y.pJ
structure JU(a:Nat)(t:PT)(w:Í):Prop where
 r:∃cs fz,w.heap[a]?=Â (Þ cs 200 fz)
 c:∀i,i<5->w.cell? ⟨a,i,Á⟩=Â (Å É<|t.c.getD i 0)
 p:w.cell? ⟨a,5,Á⟩=Â (Ä t.p)
structure yg(r:Nat)(p:PR)(w:Í):Prop where
 c:∀i,i<8->w.cell? ⟨r,i,Á⟩=Â (Å É<|p.c.getD i 0)
 b:∃bp n cp,w.cell? ⟨r,8,Á⟩=Â (Ç bp n cp)/\n=p.r.length/\∀(j:Nat) (t:PT),p.r[j]?=Â t->∃tb a,bp=Â ⟨tb,0,Á⟩/\w.cell? ⟨tb,j,Á⟩=Â (Ã<|Â ⟨a,0,Á⟩)/\JU a t w
structure RQ(rs:List PR)(v:Ñ)(U:Nat->Prop)(w:Í):Prop where
 C:kD nB U w
 I:fl (lh U nB) v v
 M:∃bp cp,v=Ç bp rs.length cp/\∀(j:Nat) (p:PR),rs[j]?=Â p->∃sb r,bp=Â ⟨sb,0,Á⟩/\w.cell? ⟨sb,j,Á⟩=Â (Ã<|Â ⟨r,0,Á⟩)/\yg r p w
section
variable{f:Nat->Prop}{rs:List PR}{Y:fp}
def aq6(h:jg Y X u w){t:PT}(d:Y i n)(k:JU i t u):JU n t w:=by refine⟨?_,λb f=>(Ae h).r d<|k.c b f,(Ae h).C d k.p⟩;let⟨c,l,e,m,o,g,j,_⟩:=h.r i n d;let⟨r,s,q⟩:=k.r;rw[g]at q;cases q;exact⟨_,_,j⟩
def aq7(h:jg Y X u w){r:Nat}{p:PR}(d:Y r m)(k:yg r p u):yg m p w:=by refine⟨λi f=>(Ae h).r d<|k.c i f,?_⟩;let⟨N,n,g,l,o,q⟩:=k.b;let⟨x,s,v⟩:=Ae h r m 8 _ d l;obtain⟨y,rfl,z⟩:=NL v;refine⟨y,n,g,s,o,λj t B=> ?_⟩;let⟨tb,a,C,D,E⟩:=q j t B;let⟨O,F,G⟩:=z _ C;obtain⟨e,rfl,H⟩:=Ab G;let⟨P,I,J⟩:=Ae h tb e j _ H D;obtain⟨Q,rfl,K⟩:=NK J;obtain⟨L,rfl,M⟩:=Ab K;exact⟨e,L,F,I,aq6 h M E⟩
def aq8(h:jg Y X u w)(b:fl Y v x)(a:RQ rs v f u):RQ rs x (λj=>∃i,f i/\Y i j) w:=by refine⟨Ud h a.C,NM b a.I,?_⟩;obtain⟨E,c,rfl,d⟩:=a.M;obtain⟨e,rfl,g⟩:=NL b;refine⟨e,c,U,λj p k=> ?_⟩;let⟨l,r,m,n,o⟩:=d j p k;let⟨F,q,s⟩:=g _ m;obtain⟨i,rfl,t⟩:=Ab s;let⟨G,y,z⟩:=Ae h l i j _ t n;obtain⟨H,rfl,B⟩:=NK z;obtain⟨C,rfl,D⟩:=Ab B;exact⟨i,C,q,y,aq7 h D o⟩
def D3(k:W.heap[b]?=w.heap[b]?)(h:w.cell? ⟨b,i,Á⟩=Â z):W.cell? ⟨b,i,Á⟩=Â z:=by simp only[ä,k];exact h
def aq9(l:kD nB X w)(k:∀b,X b->W.heap[b]?=w.heap[b]?){r:Nat}{p:PR}(d:X r)(h:yg r p w):yg r p W:=by
 refine⟨λi e=>D3 (k r d)<|h.c i e,?_⟩;let⟨u,n,v,m,x,y⟩:=h.b;refine⟨u,n,v,D3 (k r d) m,x,λj t z=> ?_⟩;let⟨tb,a,o,q,f⟩:=y j t z;have s:X tb:=by have:=l.r d m;rw[o]at this;exact DU this
 have g:=DR<|l.r s q;exact⟨tb,a,o,D3 (k tb s) q,⟨by rw[k a g];exact f.r,λi e=>D3 (k a g)<|f.c i e,D3 (k a g) f.p⟩⟩
def RQ.r(h:RQ rs v f w)(k:∀b,f b->W.heap[b]?=w.heap[b]?):RQ rs v f W:=by
 refine⟨h.C.C k,h.I,?_⟩;obtain⟨g,i,rfl,l⟩:=h.M;refine⟨g,i,U,λj p m=> ?_⟩;let⟨a,r,c,d,n⟩:=l j p m;have e:f a:=by have:=h.I;rw[c]at this;exact DU this
 exact⟨a,r,c,D3 (k a e) d,aq9 h.C k (DR<|h.C.r e d) n⟩
def abE{v:Ñ}(h:mY m i v):fl (lh (λd=>m<=d/\d<i) nB) v v:=by
 cases v with
 |int k n=>exact .iF k n
 |bool b=>exact .mo b
 |string i=>exact .kE i
 |pointer a=>cases a with
  |none=>exact .lL
  |some a=>exact fl.jV (Y:=lh (λd=>m<=d/\d<i) nB) ⟨⟨U,h⟩,U,U⟩
 |slice a n c=>cases a with
  |none=>exact .nK n c
  |some a=>exact fl.kO (Y:=lh (λd=>m<=d/\d<i) nB) ⟨⟨U,h⟩,U,U⟩ n c
 |_=>exact absurd h<|by simp[mY]
def ara{v:Ñ}(h:mY m i v):yn v=Ë:=by
 cases v with
 |int k n=>cases k<;>first|rfl|exact absurd h<|by simp[mY]
 |_=>rfl
def arb(h:jC m w):kD nB (λi=>m<=i/\i<w.heap.size) w:=λb i=>by let⟨c,e,f,g,j,k,l,n,d⟩:=h b _ i.1<|Û i.2;exact⟨c,e,f,by rw[Û i.2,g],j,pF λv a=>abE<|d v a,k,Ad λv a=>ara<|d v a,l,n⟩
def MS{base:Nat}(h:w.ownsRow base e 1 v jJ.length (nJ jJ)):∃c f,v=Ç c jJ.length f/\∀(j r:Nat),jJ[j]?=Â r->∃b,c=Â ⟨b,0,Á⟩/\base<=b/\w.cell? ⟨b,j,Á⟩=Â (Ã<|Â ⟨r,0,Á⟩):=by
 obtain⟨o,⟨i,k⟩|⟨g,p,q,rfl,l,m,s,t,u,n⟩⟩:=h
 .have d:=Ó k;subst d;exact⟨_,_,i,λj r a=>by cases a⟩
 .refine⟨_,_,U,λj r a=>⟨g,U,l,?_⟩⟩;have x:=(Ö.1 a).1;have d:(nJ jJ)[j]?=Â (Ã<|Â ⟨r,0,Á⟩):=by simp[nJ,a]
  rw[<-n,List.getElem?_take_of_lt Z]at d;simp only[ä,m,ü,ð,if_false];simpa using d
def abF(h:fh n (ow zQ++[z]) T w)(a:i<zQ.length):w.cell? ⟨n,i,Á⟩=Â (Å É<|zQ.getD i 0):=h.r i _<|Uo a z
def abG(h:fh i (ow zQ++[z]) T w)(a:zQ.length=n):w.cell? ⟨i,n,Á⟩=Â z:=h.r n _<|by rw[<-a];exact DZ zQ z
def ard{r:PR}(h:wm i n r w):yg n r w:=by
 let⟨x,tb,e,l,y,b⟩:=h.I;refine⟨λa c=>abF e (by rwa[h.C]),?_⟩;obtain⟨m,o,rfl,p⟩:=MS l;refine⟨m,_,o,abG e h.C,b.r,λj t f=> ?_⟩;have g:j<tb.length:=by rw[b.r];exact(Ö.1 f).1
 let⟨s,u,z,v⟩:=p j tb[j]<|Ô g;let⟨_,_,k,d⟩:=b.I j tb[j] t (Ô g) f;exact⟨s,tb[j],u,v,⟨_,_,d⟩,λa c=>abF d (by rwa[k]),abG d k⟩
def arf(h:D2 m v rs w):RQ rs v (λi=>m<=i/\i<w.heap.size) w:=by
 let⟨f,i,b,c⟩:=h;obtain⟨d,k,rfl,l⟩:=MS b;refine⟨arb f,?_,d,k,by rw[c.I],λj p e=> ?_⟩
 .cases d with
  |none=>exact .nK _ _
  |some a=>
   have:=b.lt a.block (by rcases b.2 with⟨q,_⟩|⟨g,n,o,q,_⟩<;>(cases q;try rfl));exact abE this
 .have a:j<i.length:=by rw[c.I];exact(Ö.1 e).1
  let⟨g,q,o,n⟩:=l j i[j]<|Ô a;exact⟨g,i[j],q,n,ard<|c.M j i[j] p (Ô a) e⟩
end
def abH(B:ByteArray)(z:Ñ)(u:Í):Prop:=∃v,z=ï #[v,Å É (iw B).1,Å É (iw B).2.1]/\((iw B).1=0->∃a,RQ (iw B).2.2 v a u)
def arh(B:ByteArray):wP (abH B):=λv u T D h=>by let⟨x,a,b⟩:=h;refine⟨x,a,λe=> ?_⟩;let⟨U,c⟩:=b e;exact⟨U,c.r λ_ _=>rfl⟩
def ari{l:fe}(f:gw l)(s:¬l.q)(t:nB<=l.w.heap.size)(u:B.size<=ĳ)(m:Bool)(h:ę)(k:List ę): fv.fi À m (λa n=>kg l a/\a.d=l.d/\∃v,n=G (h.finish<|ï #[v,Å É (iw B).1,Å É (iw B).2.1]) k/\((iw B).1=0->∃V,RQ (iw B).2.2 v V a.w/\∀b,V b->a.O b/\l.w.heap.size<=b)) l (G (è À 36 #[Ä B] ć)<|h::k):=by
 let⟨X,c,C,V⟩:=zD 36 fP;have D:∀T,Ò À 36 #[Ä B] (World.tp (kZ (λj=>False/\¬(lZ l).O j) l.w) T 0) fun|Æ v,j=>abH B v j/\j5 j|_,_=>False:=λT=>by refine(aq5 u).mono ?_;rintro e p ⟨g,v,rfl,i,o⟩;exact⟨⟨v,U,λe=>⟨_,arf<|i e⟩⟩,g.gS Ge⟩
 refine((FE yp MO zD (arh B) fP C V (FF f) s (λb q=>q.elim) ⟨λb q=>q.elim,t⟩ (λg q=>by cases q) (pF λv g=>by simp at g;subst g;exact .kE B) D m h k).lZ f).fN ?_;rintro a n ⟨x',⟨Y,j,v,v',_,E,F,⟨v0,rfl,o⟩,H,I,_,J⟩,rfl,K,L,_,_⟩;cases F with
 |@nL _ cs'' hs mA=>
  let⟨M⟩:=cs'';match M,hs with
  |[x,y,z],_=>
   have g:=mA 0 fj fj;have p:=mA 1 fj fj;have r:=mA 2 fj fj;simp at g p r;cases p;cases r;refine⟨K,J,x,H,λe=> ?_⟩;let⟨U,N⟩:=o e;refine⟨_,aq8 E g (N.r λ_ _=>rfl),λb V=> ?_⟩;let⟨i,_,P⟩:=V;let⟨Q,S⟩:=I i b P;have W:l.w.heap.size<=b:=S.elim (λq=>q.elim) λq=>q.elim (λq=>q.elim) id;refine⟨È (Q.resolve_right λq=> ?_),W⟩;rw[L]at q;have:=f.fx b q;omega
end Go.Proofs.Y.lb
namespace Go.Proofs.Y.gR
open Go Go.Proofs Go.RowKit Go.Proofs.Y.Lift
def D4:List Ñ:=iq (j1 8)++[Ç Á 0 0,Å É 0,Ç Á 0 0]
def arj(w:Í):Ò À 44 #[] w λe a=>∃c B,e=Æ (Ç (Â ⟨c,0,Á⟩) 1 1)/\fh B D4 147 a/\fh c [Ã<|Â ⟨B,0,Á⟩] 136 a/\fc (λ_=>False) w a:=by
 have d:(iq<|j1 8).length=144:=rW _;have i:(iq (j1 8)++[Ç Á 0 0]).length=145:=by rw[Ø,d];rfl
 have f:=ff<|Ê d i;unfold D4;have j:=ff λW=>anq W;generalize j1 8=s at*;go_enter Tryz.func44,Tryz.ntmps44;go_wp2_with (first
  |(go_at_call 60;refine(j.out _).mono ?_;rintro e W ⟨rfl,b⟩;have k:=ff b;clear b)
  |(with_reducible refine Ė U (Â 2) U _ _ (Ts U U f.out.1) ?_)
  |(with_reducible refine Ė U (Â 3) U _ _ (anK U U f.out.2) ?_)
  |(with_reducible refine Ė U (Â 4) U _ _ (Q_ U U) ?_))
 have g:=fh.N (W.alloc<|Þ (iq s++[Ç Á 0 0,Å É 0,Ç Á 0 0]).toArray 147) [Ã<|Â ⟨W.heap.size,0,Á⟩] 136;have h:=fc.gE (λ_=>False) (W.alloc<|Þ (iq s++[Ç Á 0 0,Å É 0,Ç Á 0 0]).toArray 147) #[Ã<|Â ⟨W.heap.size,0,Á⟩] 136;have l:(W.alloc<|Þ (iq s++[Ç Á 0 0,Å É 0,Ç Á 0 0]).toArray 147).heap.size=W.heap.size+1:=fj
 rw[l]at g;have b:=ff (Ê ((fh.N W (iq s++[Ç Á 0 0,Å É 0,Ç Á 0 0]) 147).I h id)<|Ê g<|(k.out.fg<|fc.gE (λ_=>False) W (iq s++[Ç Á 0 0,Å É 0,Ç Á 0 0]).toArray 147).fg h);go_ret;exact⟨W.heap.size+1,W.heap.size,U,b.out.1,b.out.2.1,b.out.2.2⟩
def ark(n:Int)(j:1<=n)(k:n<=8)(w:Í):Ò À 35 #[Å É n] w λe b=>∃g a B,e=Æ (ï #[Ã<|Â ⟨g,0,Á⟩,Å É 0])/\fh g [Å É n,Ç (Â ⟨a,0,Á⟩) 1 1] 68 b/\fh B D4 147 b/\fh a [Ã<|Â ⟨B,0,Á⟩] 136 b/\fc (λ_=>False) w b:=by go_enter ρ,Tryz.ntmps35;go_wp2_with (go_at_call 44;refine(arj _).mono ?_;rintro e c ⟨a,B,rfl,f,h,i⟩;have d:=ff<|Ê f<|Ê h i;clear f h i);go_ret2;have f:=fc.gE (λ_=>False) c #[Å É n,Ç (Â ⟨a,0,Á⟩) 1 1] 68;exact⟨c.heap.size,a,B,U,fh.N c [Å É n,Ç (Â ⟨a,0,Á⟩) 1 1] 68,d.out.1.I f id,d.out.2.1.I f id,d.out.2.2.fg f⟩
end Go.Proofs.Y.gR
namespace Go.Proofs.Y.lb
open Go Go.Conc Go.Proofs Go.RowKit Go.Proofs.Y.Lift Go.Proofs.Y.gR Go.Proofs.Y.fv Go.Proofs.Y.pJ
section
variable{Y:fp}{a:Nat->Prop}
def abI:∀v∈D4,(∃k n,v=Å k n/\k≠ű)\/(∃p,v=Ä p)\/v=Ç Á 0 0:=λv k=>by
 unfold D4 at k;rcases à.1 k with q|q
 .rcases Uc _ v q with⟨n,rfl⟩|⟨p,rfl⟩
  .exact È ⟨_,_,U,A⟩
  .exact Ï<|È ⟨p,U⟩
 .simp at q;rcases q with rfl|rfl|rfl
  .exact Ï<|Ï U
  .exact È ⟨_,_,U,A⟩
  .exact Ï<|Ï U
def abJ:lz [gR.k9]:=⟨A,A,λv b=>by simp at b;subst b;exact⟨⟨(λp a=>by cases a),(λp a=>by cases a),Ü _,Ü _⟩,aal,ū _,show(0:Int)<1 by decide⟩⟩
def arl(d:gR.fh n D4 147 w)(f:gR.fh i [Ã<|Â ⟨n,0,Á⟩] 136 w):RD [gR.k9] (Ç (Â ⟨i,0,Á⟩) 1 1) (λk=>k=i\/k=n) w:=by
 refine⟨[(n,gR.k9)],U,abJ,⟨_,1,1,U,â _,⟨U,λj b v e=> ?_⟩⟩,?_,fl.kO (Y:=lh (λk=>k=i\/k=n) nB) ⟨⟨U,È U⟩,U,U⟩ 1 1⟩
 .cases j with
  |zero=>
   cases e;exact⟨_,0,U,f.r 0 _ U,(anL aal<|by rwa[ı])⟩
  |succ j=>simp at e
 .rintro b (rfl|rfl)
  .refine⟨_,_,_,f,fj,pF λv c=> ?_,fj,Ad λv c=> ?_,A,A⟩
   .simp at c;subst c;exact fl.jV (Y:=lh (λk=>k=b\/k=n) nB) ⟨⟨U,Ï U⟩,U,U⟩
   .simp at c;subst c;rfl
  .refine⟨_,_,_,d,fj,pF λv c=> ?_,by simp[D4],Ad λv c=> ?_,A,A⟩
   .rcases abI v (by simpa using c)with⟨k,a,rfl,_⟩|⟨p,rfl⟩|rfl
    .exact .iF k a
    .exact .kE p
    .exact .nK 0 0
   .rcases abI v (by simpa using c)with⟨k,a,rfl,g⟩|⟨p,rfl⟩|rfl
    .cases k<;>first|rfl|exact absurd U g
    .rfl
    .rfl
def Gv(b:Nat)(n:Int)(c:Ñ)(w:Í):Prop:=∃a,w.heap[b]?=Â (Þ #[Å É n,c] 68 a)/\a=(0,0)
def Gv.r(h:Gv i c v w)(k:W.heap[i]?=w.heap[i]?):Gv i c v W:=by let⟨a,b,d⟩:=h;exact⟨a,k.trans b,d⟩
def arn(h:jg Y a u w)(g:∀b,¬a b)(q:Y i j)(k:gR.fh i [Å É c,v] 68 u):∃l,fl Y v l/\Gv j c l w:=by
 let⟨d,r,e,D,s,m,t,z,_,B,_⟩:=h.r i j q;unfold gR.fh at k;rw[k]at m;cases m;have f:=z.N<|g j;let⟨C⟩:=r;match C,f.r with
 |[x,y],_=>
  have o:=f.C 0 fj fj;have p:=f.C 1 fj fj;simp at o p;cases o;exact⟨y,p,s,t,(B<|g j).symm⟩
end
def abK(n:Int)(z:Ñ)(u:Í):Prop:=∃a b B,z=ï #[Ã<|Â ⟨a,0,Á⟩,Å É 0]/\gR.fh a [Å É n,Ç (Â ⟨b,0,Á⟩) 1 1] 68 u/\RD [gR.k9] (Ç (Â ⟨b,0,Á⟩) 1 1) (λi=>i=b\/i=B) u/\a≠b/\a≠B
def aro(n:Int):wP (abK n):=λv u T D h=>by let⟨b,c,B,d,e,a⟩:=h;exact⟨b,c,B,d,e,a.1.r λ_ _=>rfl,a.2⟩
def arp{l:fe}(p:gw l)(K:¬l.q)(L:nB<=l.w.heap.size){n:Int}(M:1<=n)(N:n<=8)(C:Bool)(r:ę)(s:List ę): fv.fi À C (λf D=>kg l f/\f.d=l.d/\∃a e,D=G (r.finish<|ï #[Ã<|Â ⟨a,0,Á⟩,Å É 0]) s/\Gv a n e f.w/\f.O a/\l.w.heap.size<=a/\∃V,RD [gR.k9] e V f.w/\¬V a/\∀b,V b->f.O b/\l.w.heap.size<=b) l (G (è À 35 #[Å É n] ć)<|r::s):=by
 let⟨fn,c,P,t⟩:=zD 35 fP;have Q:∀T,Ò À 35 #[Å É n] (World.tp (kZ (λj=>False/\¬(lZ l).O j) l.w) T 0) fun|Æ v,h=>abK n v h/\j5 h|_,_=>False:=λT=>by refine(ark n M N _).mono ?_;rintro e z ⟨a,k,B,rfl,V,m,o,g⟩;exact⟨⟨a,k,B,U,V,arl m o,gR.fh.S V o A,gR.fh.S V m A⟩,g.gS Ge⟩
 refine((FE yp MO zD (aro n) fP P t (FF p) K (λb q=>q.elim) ⟨λb q=>q.elim,L⟩ (λg q=>by cases q) (pF λv e=>by simp at e;subst e;exact .iF _ _) Q C r s).lZ p).fN ?_;rintro f D ⟨u,⟨Y,h,v,v',_,g,S,⟨a,k,B,rfl,V,m,o,W⟩,X,q7,_,q6⟩,rfl,ha,hR,_,_⟩;have E:∀i j,Y i j->(qM l u).O j/\l.w.heap.size<=j:=λi j e=>by let⟨z,F⟩:=q7 i j e;have H:l.w.heap.size<=j:=F.elim (λq=>q.elim) λq=>q.elim (λq=>q.elim) id;refine⟨È (z.resolve_right λq=> ?_),H⟩;rw[hR]at q;have:=p.fx j q;omega
 cases S with
 |@nL _ cs'' hs mA=>
  let⟨ls⟩:=cs'';match ls,hs with
  |[x,y],_=>
   have F:=mA 0 fj fj;have H:=mA 1 fj fj;simp at F H;cases H;obtain⟨a2,rfl,m3⟩:=NK F;obtain⟨I,rfl,z⟩:=Ab m3;have h2':RD [gR.k9] (Ç (Â ⟨k,0,Á⟩) 1 1) (λi=>i=k\/i=B) {h with tape:=u.w.tape,drawn:=u.w.drawn}:=m.r λ_ _=>rfl;let⟨td,J,e2⟩:=arn g (λj q=>q.1) z V;let⟨vs,k1,k2,k3,k4,k5⟩:=h2';let⟨vs',n1,n2⟩:=JG (Ae g) J k3;let⟨p1,p2⟩:=E a I z;refine⟨ha,q6,I,td,X,e2,p1,p2,_,⟨vs',n1.trans k1,k2,n2,Ud g k4,NM J k5⟩,?_,λb t=> ?_⟩
   .rintro⟨i,hi,e⟩;have:=g.C.2.1 _ _ _ z e;subst this;exact hi.elim o W
   .let⟨i,_,e⟩:=t;exact E i b e
end Go.Proofs.Y.lb
namespace Go.Proofs.Y.lb
open Go Go.Conc Go.Proofs Go.RowKit Go.Proofs.Y.Lift Go.Proofs.Y.gR Go.Proofs.Y.fv Go.Proofs.Y.pJ
structure uX(an:Nat)(xs:List ByteArray)(w:Í):Prop where
 r:∀(p:Nat) (x:ByteArray),xs[p]?=Â x->w.cell? ⟨an,p,Á⟩=Â (Ä x)
 C:w.cell? ⟨an,xs.length,Á⟩=Á
section
variable{an:Nat}{xs:List ByteArray}
def uX.rz(h:uX an xs w)(k:0<xs.length):∃c e f,w.heap[an]?=Â (Þ c e f)/\c.size=xs.length/\∀v∈c.toList,∃x,v=Ä x:=by
 have i:∀p,p<xs.length->w.cell? ⟨an,p,Á⟩=Â (Ä xs[p]!):=λp a=>h.r p _ (by simp[a]);have b:=i 0 k;have d:=h.C;simp only[ä]at b d;cases g:w.heap[an]? with
 |none=>rw[g]at b;cases b
 |some o=>
  cases o<;>rw[g]at b d<;>simp only[ü,ð,if_false]at b d<;>first|cases b|skip
  rename_i c e f;have l:c.size<=xs.length:=by
   rcases ĥ xs.length c.size with q|q
   .rw[Û q]at d;cases d
   .exact q
  have j:=λp a=>by have:=i p a;simp only[ä,g,ü,ð,if_false]at this;exact this
  have m:xs.length<=c.size:=by
   rcases ĥ c.size xs.length with q|q
   .have:=j c.size q;rw[ë<|â _]at this;cases this
   .exact q
  refine⟨c,e,f,U,Nat.le_antisymm l m,λv n=> ?_⟩;let⟨p,a⟩:=Ĝ n;have r:p<c.size:=by have:=(Ö.1 a).1;simpa using this
  have:=j p Z;rw[ŀ]at a;rw[this]at a;cases a;exact⟨_,U⟩
end
def arq{l:fe}(o:gw l)(F:¬l.q)(H:nB<=l.w.heap.size)(h:uX i vX l.w)(I:0<vX.length)(J:l.M i)(p:lr i=Ë)(f:kP l.w i=Â (0,0))(hn:vX.length<=1000)(K:B.size=1)(L:iP vX+vX.length<=140737488355328)(r:Bool)(k:ę)(m:List ę): fv.fi À r (λn s=>kg l n/\n.d=l.d/\s=G (k.finish<|Ä<|kC B vX) m) l (G (è À 38 #[Ç (Â ⟨i,0,Á⟩) vX.length vX.length,Ä B] ć)<|k::m):=by
 let⟨fn,c,N,P⟩:=zD 38 fP;let⟨t,e,Q,y,b2,z⟩:=h.rz I;have C:(λj=>j=i/\¬(lZ l).O j)=λj=>j=i:=by funext j;exact propext ⟨λq=>q.1,λq=>⟨q,id⟩⟩
 have S:∀T,Ò À 38 #[Ç (Â ⟨i,0,Á⟩) vX.length vX.length,Ä B] (World.tp (kZ (λj=>j=i) l.w) T 0) fun|Æ v,E=>v=Ä (kC B vX)/\j5 E|_,_=>False:=λT=>by
  refine(T7 U Z (â _) K (λj v a=> ?_) L).mono ?_
  .unfold ji at a;rw[ó]at a;obtain⟨x,b,rfl⟩:=ø.1 a;exact⟨i,0,U,by rw[Ĕ];exact pH (È p)<|h.r j x b⟩
  .rintro e g ⟨rfl,b⟩;exact⟨U,b.gS Ge⟩
 have V:∀v∈t.toList,fl (qj (λj=>j=i) À.globals.size) v v:=λv a=>by obtain⟨x,rfl⟩:=z v a;exact .kE x
 have X:fQ (qj (λj=>j=i) À.globals.size) #[Ç (Â ⟨i,0,Á⟩) vX.length vX.length,Ä B] #[Ç (Â ⟨i,0,Á⟩) vX.length vX.length,Ä B]:=pF λv a=>by
  have b:v=Ç (Â ⟨i,0,Á⟩) vX.length vX.length\/v=Ä B:=by simpa using a
  rcases b with rfl|rfl
  .exact fl.kO (Y:=qj (λj=>j=i) À.globals.size) ⟨⟨U,U⟩,U,U⟩ _ _
  .exact .kE B
 have W:=FE yp MO zD (λv u T D h=>h) fP N P (FF o) F (λb q=>Ï<|by rwa[q]) (by rw[C];refine⟨λb q=> ?_,H⟩;subst q;exact⟨t,e,Q,y,(by unfold kP at f;rw[y]at f;cases f;exact Ü _),pF V,λ_=>⟨Z,(λq=>by rw[p]at q;cases q),λ_=>Ad λv a=>by obtain⟨x,rfl⟩:=z v a;rfl⟩⟩) (λg q=>by cases q) X (by rwa[C]) r k m;refine(W.lZ o).fN ?_;rintro n s ⟨D,⟨Y,E,v,v',_,_,b,rfl,g,_,_,u⟩,rfl,x,_,_,_⟩;cases b;exact⟨x,u,g⟩
end Go.Proofs.Y.lb
namespace Go.Proofs.Y.fv
open Go Go.Conc Go.Proofs.Y.Lift
open Go.ConcN (sumTo sumTo_congr)
def UE(P:ax)(a:Ñ->Í->Prop):Jd:=λl g=>g.status=.running/\∃v,(∀w,stepG P Î g w=.ended (.done v) w)/\a v l.w
section
variable{Y:Nat->Prop}{e:Nat->fe}
def kA.mY{J:Jd}{T:gu}(c:kA P Y zX i J T D e E w qJ){sl:Option (Nat×Nat)}(k:vQ v u):ε P vQ (ķ E w sl) (.done v) u qJ:=by
 have C:=c.r.r;have f:∀a g,E[a]?=Â g->a≠0->QuitsD P (D a) (Deaf qJ a) g:=λa g b d=>by
  let⟨g0,j,h,_,_⟩:=c.r.C a g b;obtain rfl:g=g0:=by cases h;rfl
  simp only[d,if_false]at j;rw[C.f a<|(Ù.1 b).1];exact j _<|fH.fT _ _
 refine⟨v,U,k,C.l,c.N,⟨λg l=> ?_,U⟩,λa g b d=>⟨D a,(f a g b d).hears _⟩⟩;let⟨j,h⟩:=Ĝ l;rw[List.getElem?_drop]at h;exact⟨_,(f (1+j) g (by rwa[<-ŀ]) Z).leaves⟩
def ars{J:Jd}{T:gu}{l:fe}(v:l.w=W)(y:l.d=0)(o:¬l.q)(r:∀b,¬l.I b)(u:∀a,¬l.r a)(s:∀a,¬l.N a)(z:∀a,¬l.K a)(B:∀b,l.O b->b<W.heap.size)(C:g.status=.running)(D:kV P Î J T l g):rQ P (λ_=>False) 0 J T (λ_=>0) (λ_=>l) #[g] W #[]:=by
 have m:∀(p:Nat) a,touchAt #[] p=Â a->False:=λp a h=>by unfold touchAt Trace.act? at h;simp at h
 refine⟨fj,⟨⟨λi j f t E=> ?_,λi j f t E=> ?_,λi _ b _=>r b,λi _ a _=>s a,λ_ _ _ _=>id,λi _ a e=>e.elim (λq=>absurd q<|u a) λq=>absurd q<|s a,λi _ b F=>F.elim (B b) λq=>absurd q<|r b,λ_ h=>h.elim,λi _=>by rw[v];exact fH.fT _ _,λi _=>⟨λa e p x n=>(m p x n).elim,λa e=>(r _ e).elim,λa e=>(u a e).elim,λa e=>(s a e).elim⟩,λi _=>by rw[y];rfl,λI q=> ?_,λL G=>by simp at G,λp a c h=>(m p a h).elim,λi _ a e=>absurd e<|z a⟩,λi x n=> ?_,λj _=>rfl⟩,λi M f=> ?_,o,λp a h=>(m p a h).elim,λp a x h=>(m p a h).elim,λa _ q o=> ?_,?_⟩
 .have k:i<1:=f;have H:j<1:=t;omega
 .have k:i<1:=f;have H:j<1:=t;omega
 .let⟨i,j,_,⟨a,b,e,_⟩,_⟩:=q;simp[Trace.act?]at e
 .have k:i<1:=(Ù.1 n).1;obtain rfl:i=0:=Z
  obtain rfl:g=x:=by simpa using n
  exact⟨g,D,.gk,È C,È U⟩
 .have k:i<1:=f;omega
 .simp[Trace.act?]at o
 .intro i g k;simp[Trace.g?]at k
end
end Go.Proofs.Y.fv
namespace Go.Proofs.Y.lb
open Go Go.Conc Go.Proofs Go.RowKit Go.Proofs.Y.Lift Go.Proofs.Y.gR Go.Proofs.Y.fv Go.Proofs.Y.pJ
open Go.ConcN (sumTo)
def Aj(f:Ñ->Í->Prop)(c:Array đ)(w:Í)(d:Option (Nat×Nat))(t:Ε):Prop:=
 ∃N a v b e,Η À (N+1) (ķ c w d) t=(.ended (.done v) b,e)/\runN À N (ķ c w d)=.next a/\step À a=.ended (.done v) b/\ε À f a (.done v) b e
section
variable{f:Array đ}{w':Í}{sl e:Option (Nat×Nat)}{t:Ε}{l:fe}
def Aj.fN{a:Ñ->Í->Prop}(h:Aj vQ E w sl t)(b:∀v u,vQ v u->a v u):Aj a E w sl t:=by let⟨M,c,v,x,d,e,f,g,i⟩:=h;exact⟨M,c,v,x,d,e,f,g,i.mono λv q=>b v x q⟩
def Aj.qM{N:Nat}(r:Η À N (ķ E w sl) t=(.next<|ķ f w' e,qJ))(h:Aj vQ f w' e qJ):Aj vQ E w sl t:=by
 let⟨M,a,v,x,b,c,d,g,i⟩:=h;refine⟨N+M,a,v,x,b,?_,?_,g,i⟩
 .rwa[ž,runNT_add,r]
 .rw[<-ũ À (N+M) (ķ E w sl) t,runNT_add,r];rwa[ũ]
def sC(vQ:Ñ->Í->Prop)(E:Array đ)(w:Í)(sl:Option (Nat×Nat))(t:Ε):Prop:=Aj (λv u=>vQ v u/\u.os=w.os/\u.output=w.output) E w sl t
def sC.r{N:Nat}(r:Η À N (ķ E w sl) t=(.next<|ķ f w' e,qJ))(a:w'.os=w.os/\w'.output=w.output)(h:sC vQ f w' e qJ):sC vQ E w sl t:= Aj.qM r<|h.fN λ_ _ q=>⟨q.1,q.2.1.trans a.1,q.2.2.trans a.2⟩
def kA.aru{Y:Nat->Prop}:∀(s:Nat) (h:Nat->Nat) (j:Nat->fe) (E:Array đ) (w:Í) (sl:Option (Nat×Nat)) (t:Ε),sumTo E.size h=s->kA À Y zX n (UE À vQ) .fB h j E w t->sC vQ E w sl t:=by
 intro s
 induction s using Nat.strongRecOn with
 |_ s r=>
  intro h j E w sl t I c;have J:=c.C;obtain⟨g0,a⟩:∃g,E[0]?=Â g:=⟨_,Û Z⟩;have o:∀d,UE À vQ {j 0 with w:=w.at d} g0:=λd=>by
   let⟨u,b,k,_,_⟩:=(c.I d).r.C 0 g0 a;obtain rfl:g0=u:=by cases k;rfl
   exact b (w.at d)<|(c.I d).r.r.r 0 Z
  obtain⟨i,g,d,e,l,x,m⟩:=crowd_pick c.Lx ⟨0,g0,a,(o 0).1⟩;by_cases p:i=0
  .subst p;rw[a]at l;obtain rfl:=az l;let⟨_,v,q,y⟩:=o d;have u:stepT À (ķ E w sl)=(.ended (.done v)<|w.at d,#[]):=by
    rw[m,ConcN.runT_crowd_ended a<|q<|w.at d];rfl
   refine⟨0,ķ E w sl,v,w.at d,t,?_,U,?_,c.mY ⟨y,U,U⟩⟩
   .simp[Η,u]
   .have:=stepT_fst À (ķ E w sl) Î;rw[<-this];rw[u]
  .let⟨q,y,f,u,b,k,K,L,z⟩:=(c.I d).ZQ (sl:=e) l p x;let⟨N,B,v,w',qJ,C,D,F,G⟩:=r (sumTo f.size q) (by rw[k];omega) q y f (w.at d) e (t++u) U z;refine⟨N+1,B,v,w',qJ,by simp only[Η,m,b];exact C,?_,F,G⟩;have:=ũ À (N+1) (ķ E w sl) t;rw[<-this];simp only[Η,m,b];rwa[ũ]
structure ig(l:fe):Prop where
 r:gw l
 d:l.d=0
 q:¬l.q
 N:∀b,¬l.I b
 I:∀a,¬l.r a
 M:∀a,¬l.N a
 k:∀a,¬l.K a
def ig.C(h:ig l)(r:fH l l.w u):ig {l with w:=u}:= ⟨⟨h.r.c,h.r.Y,h.r.N,λb q=>ħ (h.r.fx b q) r.r,λa q=>q.elim (λz=>(h.I a z).elim) λz=>(h.M a z).elim,λa q=>(h.k a q).elim⟩,h.d,h.q,h.N,h.I,h.M,h.k⟩
def jo(vQ:Ñ->Í->Prop)(l:fe)(g:đ):Prop:=
 ig l->g.status=.running->∀(a:Loc->Prop) (H:Nat) (J:Jd) (c:Nat->Nat) (b:Nat->fe) (E:Array đ) (sl:Option (Nat×Nat)) (t:Ε),vT a H l->fv.rQ À a H J .fB c b E l.w t->(b 0).d=0->E[0]?=Â g->sC vQ E l.w sl t
def arv{a:fe}(h:vT zX i l)(k:qV l a l.w a.w):vT zX i a:= ⟨h.r,λb c x d q=>by
  rcases k.N b c with z|z
  .exact h.fq b z x d q
  .have:=h.r x q;have:=h.C;omega,Ì h.C k.r⟩
def UF{J f:Jd}{e:Nat->fe}(a:ig l)(h:g.status=.running)(j:vT zX i l)(c:fv.rQ À zX i J .fB D e E l.w t)(m:(e 0).d=0)(n:E[0]?=Â g)(W:fv.fi À Î f l g):∃T,fv.rQ À zX i f T D (fv.vo e l) E l.w t:=by let⟨T,o⟩:=jj W;exact⟨T,kA.Y c m n h U a.d a.q a.N a.I a.M a.k (λb q=>⟨a.r.fx b<|È q,j.fq b q⟩) o⟩
def abL{Y:Nat->Prop}{J:Jd}{a:Nat->fe}(c:kA À Y zX i J .fB D a E w t):∃g,E[0]?=Â g/\J {a 0 with w:=w} g:=by
 obtain⟨g0,b⟩:∃g,E[0]?=Â g:=⟨_,Û c.C⟩;let⟨d,e,f,_,_⟩:=c.r.C 0 g0 b;obtain rfl:g0=d:=by cases f;rfl
 exact⟨g0,b,e w<|c.r.r.r 0 c.C⟩
def Ob(vQ:Ñ->Í->Prop):Jd:=λl g=>ig l/\g.status=.running/\jo vQ l g
def arw{b:Nat->fe}{T:gu}(m:(b 0).w=w)(n:vT zX i (b 0))(c:fv.rQ À zX i (Ob vQ) T D b E w t):sC vQ E w sl t:=by let⟨N,o,p,f,w',e,qJ,r,_,a,j⟩:=kA.G (λl g h=>È h.2.1) T _ D b E w sl t U c;let⟨v,q,h,s,u⟩:=abL j;refine sC.r r ⟨a.C,a.I⟩<|u h s zX i (Ob vQ) o p f e qJ ?_ j h.d q;apply arv n;rw[m];exact⟨a.r,a.N,a.c,a.S,a.b,a.k,a.jR,a.M,a.Y,a.C,a.I,a.d⟩
def pP(W:fv.fi À Î (Ob vQ) l g):jo vQ l g:=by intro b d i H J j k E sl t a c e f;let⟨T,h⟩:=UF b d a c e f W;exact arw (by rw[fv.Sm]) (by rwa[fv.Sm]) h
def Oc(W:fv.fi À Î (UE À vQ) l g):jo vQ l g:=by intro b d s H J i u E sl t j c k m;let⟨T,n⟩:=UF b d j c k m W;let⟨N,o,p,f,w',e,qJ,r,_,a,q⟩:=kA.G (λl g h=>È h.1) T _ i _ E l.w sl t U n;exact sC.r r ⟨a.C,a.I⟩<|kA.aru _ o p f w' e qJ U q
def Af.N{e:vZ}{R:Nat}{kd:Nat->Int}{f:List fJ}{c:fe}(h:Af X e R kd f l i v c)(r:fH c c.w u):Af X e R kd f l i v {c with w:=u}:=by have a:=λb q=>r.I b<|È q;let⟨V,j,g⟩:=h.Y;exact⟨λb q=>⟨(h.M b q).1,(a b (h.M b q).1).trans (h.M b q).2⟩,⟨h.r.1,λp k=>(gK<|a i h.r.1).trans<|h.r.2 p k⟩,⟨V,j.r λb q=>a b (g b q).1,g⟩,h.d,h.q,h.S,h.C,(gK<|a i h.r.1).trans h.I.1,(wS<|a i h.r.1).trans h.I.2⟩
def arx{kd:Nat->Int}{bt:vZ}{V0 h:Nat->Prop}{s0:List fJ}{B:Option Ā}{I:Option Ā}{R:Nat}{C:ę}{z:Array Ĥ} (IB:0<R->I=Â ⟨j7,0,Á⟩) (C4:0<R->l.M j7) (IC:∀i,i<R->l.w.cell? ⟨j7,i,Á⟩=Â (Ã<|Â ⟨D i,0,Á⟩)) (IF:∀i,i<R->l.w.cell? ⟨D i,4,Á⟩=Â (Å É<|kd i)) (K:JL l bt kd D R X) (hZ:(∀b,X b->h b)/\∀b,b=1\/b=2\/b=3\/b=4->h b) (hZO:∀b,h b->l.O b) (hVZ:∀b,V0 b->h b) (Dd:RD s0 (Ç B j j9) V0 l.w) (hn:1<=n) (hs:n+R<1000) (hJ:∀o v p m c,ig o->Af h bt R kd s0 l v (Ç p m c) o->jo vQ o (G (C.at (y.put ((z[i]?).bind (·.dst))<|ï #[Ç (Â ⟨v,0,Á⟩) R R,Ç p m c])<|Ð z jJ::L) qX)): jo vQ l (Fw (Ç B j j9) (Ç I R j6) n<|C.at y (Ð z (i::jJ)::L)::qX):=by
 intro s hr jl H J lv lot E sl t NP c hd P;have W:fv.fi À Î (Mz kd D R n (Ç B j j9) l<|C.at y (Ð z (i::jJ)::L)::qX) l (Fw (Ç B j j9) (Ç I R j6) n<|C.at y (Ð z (i::jJ)::L)::qX):= ai8 s.r s.q s.d Z IB C4 IC (λi P=>È<|K.fq _<|K.r i P) IF λg S o u x F v T V Y bw bf v1 h1 h2=>⟨g,S,u,x,F,v,T,V,Y,bw,bf,v1,h1,h2,U⟩;let⟨T,c'⟩:=UF s hr NP c hd P W;let⟨N,jz,IY,f,w',e,qJ,r,_,x,c''⟩:=kA.G (λlx gx S=>by obtain⟨_,_,_,_,_,_,_,_,_,_,_,_,_,_,rfl⟩:=S;exact È U) T _ lv _ E l.w sl t U c';apply sC.r r ⟨x.C,x.I⟩;let⟨N2,arz,V,T2,MA,Sv,gs2,w2,MB,t2,r2,io2,c2⟩:=apI (J:=λu V o F=>vT u V o/\Ob vQ o F) U c'' e s.r s.N s.q s.d NP K hZ hZO hVZ Dd ⟨x.C,x.I⟩ hn hs λFC H' o v p m c Y z2 u=> .fB λw₁ F=>by have kR:ig o:=⟨z2,u.d,u.q,u.S,u.C.1,u.C.2.1,u.C.2.2⟩;exact⟨⟨Y.r,Y.fq,Ì Y.C F.r⟩,kR.C F,U,hJ _ v p m c (kR.C F)<|u.N F⟩
 apply sC.r r2 ⟨io2.1.trans x.C.symm,io2.2.trans x.I.symm⟩;let⟨N3,M3,arA,gs3,w3,sl3,t3,r3,_,wn3,c3⟩:=kA.G (λlx gx S=>È S.2.2.1) T2 _ MA Sv gs2 w2 MB t2 U c2;apply sC.r r3 ⟨wn3.C,wn3.I⟩;let⟨g3,UG,nk,S,hr3,hs3⟩:=abL c3;exact hs3 S hr3 arz V _ M3 arA gs3 sl3 t3 nk c3 S.d UG
end
end Go.Proofs.Y.lb
namespace Go.Proofs.Y.lb
open Go Go.Conc Go.Proofs Go.RowKit Go.Proofs.Y.Lift Go.Proofs.Y.gR Go.Proofs.Y.fv Go.Proofs.Y.pJ
open Go.Conc.Lib Go.ConcR.Gen Go.Proofs.YtgpphkdoanciiaaGreatDoor
def toTx(t:PT):Tx:=⟨(t.c.getD 0 0).toNat,(t.c.getD 1 0).toNat,t.c.getD 2 0,t.c.getD 3 0,t.c.getD 4 0,t.p⟩
def toQn(r:PR):Qn:=⟨(r.c.getD 0 0).toNat,(r.c.getD 1 0).toNat,(r.c.getD 2 0).toNat,(r.c.getD 3 0).toNat,r.c.getD 4 0,r.c.getD 5 0,r.c.getD 6 0,(r.c.getD 7 0).toNat⟩
def oV:PR:=⟨[],[]⟩
def wv(a:List PR):vZ where
 r:=λp=>((a.getD p oV).c.getD 5 0,((a.getD p oV).c.getD 0 0).toNat,(a.getD p oV).r.map toTx)
 C:=λp=>toQn<|a.getD p oV
def kL(a:List PR)(p:Nat):Int:=(a.getD p oV).c.getD 4 0
section
variable{p:PR}{t:PT}{a:Nat}{rs:List PR}{l:fe}
def toTx_ok(h:nD t):(toTx t).Ok:=by have d:=h.c.r 0 A;have e:=h.c.r 1 A;have a:=h.c.r 2 A;have b:=h.c.r 3 A;simp only[lJ]at d e a b;exact⟨by show(t.c.getD 0 0).toNat<8;omega,by show(t.c.getD 1 0).toNat<8;omega,a.1,a.2,b.1,b.2,h.p⟩
def Ak(a:0<=c)(h:w.cell? ⟨b,i,Á⟩=Â (Å É c)):w.cell? ⟨b,i,Á⟩=Â (Å É (c.toNat:Nat)):=by
 rw[h];have:((c.toNat:Nat):Int)=c:=Z
 rw[this]
def arB(h:nD t)(k:JU a t w):lT a (toTx t) w:=by have b:=h.c.r 0 A;have d:=h.c.r 1 A;simp only[lJ]at b d;exact⟨k.r,Ak b.1<|k.c 0 A,Ak d.1<|k.c 1 A,k.c 2 A,k.c 3 A,k.c 4 A,k.p⟩
def arC(h:uT p)(k:yg i p w):DV i (p.c.getD 5 0) (p.c.getD 0 0).toNat (p.r.map toTx) w:=by
 have g:=h.c.r 0 A;simp only[lJ]at g;let⟨l,n,v,z,B,C⟩:=k.b;let⟨m,D,o⟩:=wD (R:=λj t (y:Nat×Tx)=>y.2=toTx t/\∃d,l=Â ⟨d,0,Á⟩/\w.cell? ⟨d,j,Á⟩=Â (Ã<|Â ⟨y.1,0,Á⟩)/\JU y.1 t w) p.r 0 λj t E=>by let⟨d,a,e,f,q⟩:=C j t E;exact⟨(a,toTx t),U,d,e,by rwa[Ĕ],q⟩
 refine⟨l,n,v,m,⟨Ak g.1<|k.c 0 A,k.c 5 A,z⟩,⟨by rw[B,D],λj a t q=> ?_⟩,?_,by have:=h.n;omega⟩
 .let⟨x,f,e,d,F,r,s⟩:=o j (a,t) q;simp only at e r s;subst e;have u:=h.C x<|ç f;exact⟨d,0,F,r,arB u s,toTx_ok u⟩
 .refine ś λj=> ?_;unfold lH;rw[ó,ó];cases d:m[j]? with
  |none=>
   have:p.r[j]?=Á:=by rw[Ĭ]at d|-;omega
   rw[this];rfl
  |some y=>
   let⟨x,f,e,_⟩:=o j y d;rw[f];simp[e]
def arD(h:uT p)(k:yg i p w):JK i (toQn p) w:=by have a:=h.c.r 0 A;have b:=h.c.r 1 A;have d:=h.c.r 2 A;have e:=h.c.r 3 A;have f:=h.c.r 7 A;simp only[lJ]at a b d e f;exact⟨Ak a.1<|k.c 0 A,Ak b.1<|k.c 1 A,Ak d.1<|k.c 2 A,Ak e.1<|k.c 3 A,k.c 4 A,k.c 5 A,k.c 6 A,Ak f.1<|k.c 7 A⟩
def UH(h:uT p)(k:p.c.getD 4 0≠1):(toQn p).Ok:=by
 have d:=h.c.r 0 A;have e:=h.c.r 1 A;have f:=h.c.r 2 A;have g:=h.c.r 3 A;have i:=h.c.r 4 A;have a:=h.c.r 5 A;have b:=h.c.r 6 A;have j:=h.c.r 7 A;simp only[lJ]at d e f g i a b j;refine⟨?_,?_,?_,?_,?_,?_,a.1,b.1,?_⟩
 .show(p.c.getD 0 0).toNat<8;omega
 .show(p.c.getD 1 0).toNat<8;omega
 .show(p.c.getD 2 0).toNat<1000000;omega
 .show(p.c.getD 3 0).toNat<18446744073709551616;omega
 .show 2<=p.c.getD 4 0;omega
 .show p.c.getD 4 0<=9;omega
 .show(p.c.getD 7 0).toNat<16;omega
def arE(h:RQ rs v X l.w)(o:∀i∈rs,uT i)(C:nI l.w)(D:∀b,b=1\/b=2\/b=3\/b=4->l.O b)(p:∀b,X b->l.O b): ∃j q f g,v=Ç j rs.length q/\(0<rs.length->j=Â ⟨f,0,Á⟩)/\(0<rs.length->l.O f)/\(∀a,a<rs.length->l.w.cell? ⟨f,a,Á⟩=Â (Ã<|Â ⟨g a,0,Á⟩))/\(∀a,a<rs.length->l.w.cell? ⟨g a,4,Á⟩=Â (Å É<|kL rs a))/\JL l (wv rs) (kL rs) g rs.length X:=by
 obtain⟨r,E,rfl,s⟩:=h.M;have k:∀a,a<rs.length->rs[a]?=Â (rs.getD a oV):=λa d=>by simp[ď,d]
 have u:=λa d=>ç<|k a d;obtain⟨f,m⟩:∃f,∀a,a<rs.length->r=Â ⟨f,0,Á⟩:=by
  by_cases e:0<rs.length
  .let⟨q,i,j,_⟩:=s 0 _<|k 0 e;exact⟨q,λ_ _=>j⟩
  .exact⟨0,λa d=>by omega⟩
 have F:∀a,∃i,a<rs.length->l.w.cell? ⟨f,a,Á⟩=Â (Ã<|Â ⟨i,0,Á⟩)/\yg i (rs.getD a oV) l.w:=λa=>by
  by_cases d:a<rs.length
  .let⟨q,i,j,x,y⟩:=s a _<|k a d;have:=j.symm.trans<|m a d;cases this;exact⟨i,λ_=>⟨x,y⟩⟩
  .exact⟨0,λq=>absurd q d⟩
 let⟨g,j⟩:=Classical.axiomOfChoice F;have y:=λe=>by have:=h.I;rw[m 0 e]at this;exact DU this
 refine⟨r,E,f,g,U,λe=>m 0 e,λe=>p _<|y e,λa d=>(j a d).1,λa d=>(j a d).2.c 4 A,C,D,h.C,p,λa d=>(DR<|h.C.r (y Z) (j a d).1),λa d z=> ?_,λa d z=> ?_⟩
 .have q:=o _<|u a d;have e:=q.c.r 0 A;have B:=q.c.r 5 A;simp only[lJ]at e B;refine⟨arC q (j a d).2,?_,B.1,λt G=> ?_,?_⟩
  .show((rs.getD a oV).c.getD 0 0).toNat<8;omega
  .obtain⟨x,H,rfl⟩:=Ý.1 G;exact toTx_ok<|q.C x H
  .show((rs.getD a oV).r.map toTx).length<=1000;rw[í];have:=q.n;omega
 .have q:=o _<|u a d;exact⟨arD q (j a d).2,UH q z⟩
end
def Od:(∀r∈(iw B).2.2,uT r)/\(iw B).2.2.length<=24:=by
 unfold iw;split
 .exact⟨(λr a=>by cases a),A⟩
 .split
  .unfold mI;split
   .exact⟨(λr a=>by cases a),A⟩
   .have:=(Uy B.size 0 tA (Ux B)<|Ü _).1.d;exact⟨this.G,this.C⟩
  .exact⟨(λr a=>by cases a),Ü _⟩
def kS(rs:List PR)(s:List fJ):List ByteArray:=(Ī rs.length).map λp=>we (wv rs) (kL rs) p<|pI (wv rs) (gX (kL rs) rs.length) s<|fK (kL rs) p
def wx(rs:List PR)(s:List fJ):List fJ:=pI (wv rs) (gX (kL rs) rs.length) s<|fK (kL rs) rs.length
def mj(s:List fJ)(B:ByteArray):ByteArray×Int×List fJ:=
 if(iw B).1=0 then(kC ⟨#[59]⟩<|kS (iw B).2.2 s,0,wx (iw B).2.2 s)else(⟨#[]⟩,(iw B).1,s)
section
variable{b:ę}{l:fe}{a:Ď}
def abM{md:ŉ}(I:Array Bool->Ď->fe->Prop) (o:∀c a l i k,I c a l->i∈æ md Q c->(∀f g,I (c.setIfInBounds i Î) f g->jo vQ g (G (b.at f<|Ð Q k::L) qX))->jo vQ l (G (b.at a<|Ð Q (i::k)::L) qX)) (m:∀c a l,I c a l->c.size=Q.size->æ md Q c=[]->jo vQ l (G (b.at a<|Ð Q []::L) qX)): ∀(d t:Nat) (c:Array Bool) (a:Ď) (l:fe),c.size=Q.size->jr c<=d->I c a l->jo vQ l (G (b.at a<|Ð Q (č md Q d t c [])::L) qX):=by
 intro d
 induction d with
 |zero=>
  intro t c a l e p h;simpa[č]using m c a l h e<|Q6 e Z
 |succ d q=>
  intro t c a l e p h;simp only[č];change jo vQ l (G (b.at a (Ð Q (match(æ md Q c)[t%(æ md Q c).length]? with
   |some i=>č md Q d (t/(æ md Q c).length) (c.setIfInBounds i Î) [i]
   |none=>[].reverse)::L)) qX)
  cases j:(æ md Q c)[t%(æ md Q c).length]? with
  |none=>
   have r:æ md Q c=[]:=by
    cases s:æ md Q c with
    |nil=>rfl
    |cons x n=>
     rw[s]at j;have u:t%(x::n).length<(x::n).length:=Nat.mod_lt _ fj;simp at j;simp at u;omega
   simpa using m c a l h e r
  |some i=>
   simp only[];rw[linearise_go_acc,List.reverse_singleton,List.singleton_append];have n:=ç j;refine o c a l i _ h n λf g r=>(q _ _ f g (by simpa using e) (by have:=LB (Ι.1 n).1;omega) r)
def arF{id:Nat}(I:Array Bool->Ď->fe->Prop)(e:ig l) (j:∀f,fH l l.w f->I (Ű Q.size Ë) a {l with w:=f}) (k:∀g c a l i m,I c a l->i∈æ g Q c->(∀n o,I (c.setIfInBounds i Î) n o->jo vQ o (G (b.at n<|Ð Q m::L) qX))->jo vQ l (G (b.at a<|Ð Q (i::m)::L) qX)) (p:∀g c a l,I c a l->c.size=Q.size->æ g Q c=[]->jo vQ l (G (b.at a<|Ð Q []::L) qX)): jo vQ l (G (b.at a<|aH (.region id Q Î)::L) qX):=by
 refine pP (.mk U λf r=>⟨_,_,_,_,stepG_region_draw,Q5 (lX e.r.r r) e.q,.fB λs d=> ?_⟩);have h:=r.fg ⟨d.r,d.I,d.N,d.Y,d.S⟩;refine⟨e.C h,U,?_⟩;unfold Region.schedule;split
 .exact abM I (k _) (p _) _ _ _ _ _ fj (by rw[E3];exact â _)<|j s h
 .exact abM I (k _) (p _) _ _ _ _ _ fj (by rw[E3];exact â _)<|j s h
def arG{I:Ď->fe->Prop}(W:fv.fi À Î (λa d=>∃c,d=G (b.at c<|Ð Q jJ::L) qX/\I c a) l g)(f:∀c a,I c a->ig a)(i:∀c a,I c a->jo vQ a (G (b.at c<|Ð Q jJ::L) qX)):jo vQ l g:= pP (W.fN λa d h=>by obtain⟨c,rfl,e⟩:=h;exact⟨f c a e,U,i c a e⟩)
def D5{f:FuncId}{fn:Func}(xs:List Value)(n:Nat)(hf:Tryz.prog.funcs[f]?=some fn)(hb:fn.body=some (kY fn []):=by kernel_rfl)(hn:fn.ntmps=xs.length+n:=by kernel_rfl):Frame.enter Tryz.prog f xs.toArray .normal=(base f).at ⟨(xs++List.replicate n undef).toArray,[]⟩ [.code<|kY fn []]:=by rw[enter_at _ hf hb,hn,Š,Nat.add_sub_cancel_left,show xs.toArray++Ű n Ł=(xs++Ĉ n Ł).toArray from Array.ext' fj]
def yh{J:Jd}{f:η}{args:Array Ñ}(d:Q[i]?=Â o)(e:Ę o (Ρ Q a.tmps)=Î)(g:b.kind≠.early)(h:jS l) (j:∀w,(ţ a.eval o).run À w=.ok (.enter f args) w) (k:∀w,(ţ a.eval o).events À w #[]=#[]) (m:∀c,fH l l.w c->fv.fi À Î J {l with w:=c} (G (è À f args ć)<|b.at a (Ð Q (i::jJ)::L)::qX)): fv.fi À Î J l (G (b.at a<|Ð Q (i::jJ)::L) qX):=by refine .mk U λc r=>⟨G (è À f args ć)<|b.at a (Ð Q (i::jJ)::L)::qX,c,#[],{l with w:=c},?_,QY c<|lX h r,m c r⟩;rw[stepG_enter d e g<|j c];unfold aI;rw[k c,seen_none]
def Al{f:η}{args:Array Ñ}(e:ig l)(j:Q[i]?=Â o)(k:Ę o (Ρ Q a.tmps)=Î)(m:b.kind≠.early) (n:∀w,(ţ a.eval o).run À w=.ok (.enter f args) w) (p:∀w,(ţ a.eval o).events À w #[]=#[]) (q:∀d,fH l l.w d->jo vQ {l with w:=d} (G (è À f args ć)<|b.at a (Ð Q (i::jJ)::L)::qX)): jo vQ l (G (b.at a<|Ð Q (i::jJ)::L) qX):= pP (yh j k m e.r.r n p λd r=> .fB λg c=>by have h:fH l l.w g:=r.fg ⟨c.r,c.I,c.N,c.Y,c.S⟩;exact⟨e.C h,U,q g h⟩)
def kg.zx{c:fe}(e:ig l)(h:kg l c)(k:c.d=l.d):ig c:=by
 have g:∀b,¬c.I b:=by rw[h.I];exact e.N
 have f:∀a,¬c.r a:=by rw[h.N];exact e.I
 have i:∀a,¬c.N a:=by rw[h.S];exact e.M
 have j:∀a,¬c.K a:=by rw[h.K];exact e.k
 exact⟨⟨λb _=>g b,λa q=>(f a q).elim,λa q=>q.elim (λz=>(f a z).elim) λz=>(i a z).elim,λb q=>q.elim (λz=>h.fx b z) λz=>(g b z).elim,λa q=>q.elim (λz=>(f a z).elim) λz=>(i a z).elim,λa q=>(j a q).elim⟩,k.trans e.d,by rw[h.q];exact e.q,g,f,i,j⟩
end
def JV:Ĥ:=⟨Â 21,.move<|ő 0,26, "attic.go:46",#[],Á⟩
def JX:Ĥ:=⟨Â 22,.nilCheck<|ő 21,0, "attic.go:46",#[⟨0,Đ⟩],Á⟩
def JY:Ĥ:=⟨Â 23,.fieldAddr 68 (ő 22) 1,0, "attic.go:46",#[⟨1,Đ⟩],Á⟩
def JZ:Ĥ:=⟨Â 24,.load 65<|ő 23,65, "attic.go:46",#[⟨2,Đ⟩],Á⟩
def J0:Ĥ:=⟨Â 25,.move<|ő 6,61, "attic.go:46",#[],Á⟩
def J3:Ĥ:=⟨Â 26,.move<|ő 0,26, "attic.go:46",#[],Á⟩
def J4:Ĥ:=⟨Â 27,.nilCheck<|ő 26,0, "attic.go:46",#[⟨5,Đ⟩],Á⟩
def J5:Ĥ:=⟨Â 28,.fieldAddr 68 (ő 27) 0,0, "attic.go:46",#[⟨6,Đ⟩],Á⟩
def J6:Ĥ:=⟨Â 29,.load 3<|ő 28,3, "attic.go:46",#[⟨7,Đ⟩],Á⟩
def yi:Ĥ:=⟨Â 30,.call {callee:=.value<|.func 37,args:=#[ő 24,ő 25,ő 29],argTypes:=#[65,61,3]},66, "attic.go:46",#[⟨3,Đ⟩,⟨4,Đ⟩,⟨8,Đ⟩],Á⟩
def Am:Ĥ:=⟨Â 20,.move<|ő 30,66, "attic.go:46",#[⟨9,Đ⟩],Á⟩
def D6:Ĥ:=⟨Â 31,.extract (ő 20) 0,25, "attic.go:46",#[⟨10,Đ⟩],Á⟩
def D7:Ĥ:=⟨Â 32,.extract (ő 20) 1,65, "attic.go:46",#[⟨10,Đ⟩,{on:=13,ground:=Ground.gcOnly Departure.lateStores}],Á⟩
def D8:Ĥ:=⟨Â 9,.assign<|ő 31,25, "attic.go:46",#[⟨11,Đ⟩,⟨9,.chain⟩,⟨0,ö⟩,⟨1,ö⟩,⟨2,ö⟩,⟨3,ö⟩,⟨4,ö⟩,⟨5,ö⟩,⟨6,ö⟩,⟨7,ö⟩,⟨8,ö⟩,⟨9,ö⟩,⟨10,ö⟩,⟨11,ö⟩,{on:=12,ground:=Ground.textOnly Departure.lateStores}],Á⟩
def D9:Ĥ:=⟨Â 10,.assign<|ő 32,65, "attic.go:46",#[⟨12,Đ⟩,⟨13,.chain⟩,⟨0,ö⟩,⟨1,ö⟩,⟨2,ö⟩,⟨3,ö⟩,⟨4,ö⟩,⟨5,ö⟩,⟨6,ö⟩,⟨7,ö⟩,⟨8,ö⟩,⟨9,ö⟩,⟨10,ö⟩,⟨11,ö⟩,⟨12,ö⟩,⟨13,ö⟩],Á⟩
def ox:Array Ĥ:=#[JV,JX,JY,JZ,J0,J3,J4,J5,J6,yi,Am,D6,D7,D8,D9]
noncomputable def UI:θ:=kY Tryz.f17 [1,1,1,1]
structure n8(l:fe)(ab n:Nat)(s:List fJ)(sl:Ñ)(V:Nat->Prop):Prop where
 r:nI l.w
 C:∀b,b=1\/b=2\/b=3\/b=4->l.O b
 a:Gv ab n sl l.w
 fq:l.O ab
 I:RD s sl V l.w
 Y:∀b,V b->l.O b
 e:¬V ab
 c:1<=n
 d:n<=8
 M:¬(ab=1\/ab=2\/ab=3\/ab=4)
structure Oe(l l':fe)(ab n:Nat)(s':List fJ)(V:Nat->Prop):Prop where
 vt:∀b,l.O b->b≠ab->l'.O b/\l'.w.heap[b]?=l.w.heap[b]?
 att:∃td V',n8 l' ab n s' td V'/\∀b,V' b->V b\/(b=1\/b=2\/b=3\/b=4)\/l.w.heap.size<=b
section
variable{l d:fe}{ab:Nat}{s:List fJ}{sl:Ñ}{V:Nat->Prop}
def n8.S{a:fe}(h:n8 l ab n s sl V)(c:∀b,l.O b->a.O b)(d:∀b,l.O b->a.w.heap[b]?=l.w.heap[b]?)(e:l.w.heap.size<=a.w.heap.size):n8 a ab n s sl V:= ⟨h.r.r (Ì h.r.fx e) λb q=>d b<|h.C b q,λb q=>c b<|h.C b q,h.a.r<|d ab h.fq,c ab h.fq,h.I.r λb q=>d b<|h.Y b q,λb q=>c b<|h.Y b q,h.e,h.c,h.d,h.M⟩
def n8.N(h:n8 l ab n s sl V)(r:fH l l.w u):n8 {l with w:=u} ab n s sl V:=h.S (λ_ q=>q) (λb q=>r.I b<|È q) r.r
def j2(ab:Nat)(n:Nat)(sl rs:Ñ)(x:Value×Value):Nat->Ñ
 |0=>Ã<|Â ⟨ab,0,Á⟩
 |1=>Ã<|Â ⟨ab,0,Á⟩
 |2=>Ã<|Â ⟨ab,1,Á⟩
 |3=>sl
 |4=>rs
 |5=>Ã<|Â ⟨ab,0,Á⟩
 |6=>Ã<|Â ⟨ab,0,Á⟩
 |7=>Ã<|Â ⟨ab,0,Á⟩
 |8=>Å É n
 |9=>ï #[x.1,x.2]
 |10=>ï #[x.1,x.2]
 |11=>x.1
 |12=>x.2
 |13=>x.1
 |14=>x.2
 |_=>Ł
def wy(d:fe)(V:Nat->Prop)(rs:List PR)(s:List fJ)(listed:Array Bool)(x:Value×Value)(l:fe):Prop:=
 ig l/\(listed.getD 9 Ë=Ë->gh (λ_=>False) d l)/\(listed.getD 9 Ë=Î->∃a e p m c,gh (λ_=>False) d a/\x=(Ç (Â ⟨e,0,Á⟩) rs.length rs.length,Ç p m c)/\Af (λb=>V b\/b=1\/b=2\/b=3\/b=4) (wv rs) rs.length (kL rs) s a e (Ç p m c) l)
def wy.jL{V:Nat->Prop}{a:List PR}{s:List fJ}{listed:Array Bool}{x:Value×Value}(h:wy d V a s listed x l)(b:i≠9){w₁:Í}(r:fH l l.w w₁):wy d V a s (listed.setIfInBounds i Î) x {l with w:=w₁}:=by
 have e:(listed.setIfInBounds i Î).getD 9 Ë=listed.getD 9 Ë:=by simp[é,Array.getElem?_setIfInBounds_ne b]
 refine⟨h.1.C r,λq=> ?_,λq=> ?_⟩
 .rw[e]at q;exact(h.2.1 q).G r
 .rw[e]at q;let⟨f,g,p,m,c,j,k,n⟩:=h.2.2 q;exact⟨f,g,p,m,c,j,k,n.N r⟩
def arH{D:Array Ñ}{I:List PR}(J:n8 d ab n s sl V)(T:D.size=39)(W:D[0]?=Â (Ã<|Â ⟨ab,0,Á⟩))(Y:D[6]?=Â z) (md:ŉ) (listed:Array Bool) (a:Ď) (l:fe) (i:Nat) (O:List Nat) (hI:II ox D (j2 ab n sl z) (wy d X I s) listed a l) (g:i∈æ md ox listed) (F:i≠9): fv.fi À Î (λb c=>∃y,c=G ((base 17).at y<|Ð ox O::L) qX/\II ox D (j2 ab n sl z) (wy d X I s) (listed.setIfInBounds i Î) y b) l (G ((base 17).at a<|Ð ox (i::O)::L) qX):=by
 let⟨x,f,H⟩:=hI;have p:qL ox D.size=Î:=by rw[T];decide
 have K:=zg g;have t:=H.1.r.r;have u:=H.1.q;have P:=(f.C A).trans W;have An:=(f.C A).trans Y;have B:∀b,fH l l.w b->wy d X I s (listed.setIfInBounds i Î) x {l with w:=b}:=λb r=>H.jL F r;let⟨fr,mA,_⟩:=J.a;have early:∀m,m<15->listed.getD m Ë=Ë->(∃e,e∈yi.after/\e.on=m/\vz e=Î)->listed.getD 9 Ë=Ë:=λm _ hm ⟨e,h1,h2,h3⟩=>by
  cases q:listed.getD 9 Ë with
  |false=>rfl
  |true=>
   have:=f.S 9 yi e U q h1 h3;rw[h2,hm]at this;cases this
 have jH:ox.size=15:=A
 rw[jH]at K;have PE:listed.getD i Ë=Ë:=by
  have:=(Ι.1 g).1;simp only[é]at this|-;cases c:listed[i]? with
  |none=>rfl
  |some y=>rw[c]at this;simpa using this
 have S:∀{j v},(∃e,e∈yi.after/\e.on=i/\vz e=Î)->#[Å É n,sl][j]?=Â v->gW l ⟨ab,j,Á⟩/\l.w.cell? ⟨ab,j,Á⟩=Â v:=λq h=>by have y:=H.2.1<|early i K PE q;exact⟨È<|y.M<|È J.fq,(gK<|y.r ab (È J.fq) id).trans<|by simp[ä,mA,h]⟩
 match i,K,F with
 |9,_,F=>exact absurd U F
 |0,_,_=>
  exact ik (o:=JV) p f U U g (by k_ne) t u (λb r=>by simp only[j2,JV];go_simp) (λb r e c=>by simp[go_sem,JV,P]at c) B
 |1,_,_=>
  have y:=f.r 0 JV 21 U (ia g U U) U;simp only[j2]at y;exact ik (o:=JX) p f U U g (by k_ne) t u (λb r=>by simp only[j2,JX];go_simp) (λb r e c=>by simp[go_sem,JX,y]at c) B
 |2,_,_=>
  have y:=f.r 1 JX 22 U (ia g U U) U;simp only[j2]at y;exact ik (o:=JY) p f U U g (by k_ne) t u (λb r=>by simp only[j2,JY];go_simp) (λb r e c=>by simp[go_sem,JY,y]at c) B
 |3,_,_=>
  have y:=f.r 2 JY 23 U (ia g U U) U;simp only[j2]at y;let⟨C,E⟩:=S (j:=1) ⟨⟨3,Đ⟩,by simp[yi],U,U⟩ U;refine ik (o:=JZ) p f U U g (by k_ne) t u (λb r=> ?_) (λb r e c=> ?_) B
  .have N:=(C.r r).trans E;simp only[j2,JZ];go_simp
  .have N:=(C.r r).trans E;simp[go_sem,JZ,y,N]at c;subst c;exact C.C
 |4,_,_=>
  exact ik (o:=J0) p f U U g (by k_ne) t u (λb r=>by simp only[j2,J0];go_simp) (λb r e c=>by simp[go_sem,J0,An]at c) B
 |5,_,_=>
  exact ik (o:=J3) p f U U g (by k_ne) t u (λb r=>by simp only[j2,J3];go_simp) (λb r e c=>by simp[go_sem,J3,P]at c) B
 |6,_,_=>
  have y:=f.r 5 J3 26 U (ia g U U) U;simp only[j2]at y;exact ik (o:=J4) p f U U g (by k_ne) t u (λb r=>by simp only[j2,J4];go_simp) (λb r e c=>by simp[go_sem,J4,y]at c) B
 |7,_,_=>
  have y:=f.r 6 J4 27 U (ia g U U) U;simp only[j2]at y;exact ik (o:=J5) p f U U g (by k_ne) t u (λb r=>by simp only[j2,J5];go_simp) (λb r e c=>by simp[go_sem,J5,y]at c) B
 |8,_,_=>
  have y:=f.r 7 J5 28 U (ia g U U) U;simp only[j2]at y;let⟨C,E⟩:=S (j:=0) ⟨⟨8,Đ⟩,by simp[yi],U,U⟩ U;refine ik (o:=J6) p f U U g (by k_ne) t u (λb r=> ?_) (λb r e c=> ?_) B
  .have N:=(C.r r).trans E;simp only[j2,J6];go_simp
  .simp[go_sem,J6,y,(C.r r).trans E]at c;subst c;exact C.C
 |10,_,_=>
  have y:=f.r 9 yi 30 U (ia g U U) U;simp only[j2]at y;exact ik (o:=Am) p f U U g (by k_ne) t u (λb r=>by simp only[j2,Am];go_simp) (λb r e c=>by simp[go_sem,Am,y]at c) B
 |11,_,_=>
  have y:=f.r 10 Am 20 U (ia g U U) U;simp only[j2]at y;exact ik (o:=D6) p f U U g (by k_ne) t u (λb r=>by simp only[j2,D6];go_simp) (λb r e c=>by simp[go_sem,D6,y]at c) B
 |12,_,_=>
  have y:=f.r 10 Am 20 U (ia g U U) U;simp only[j2]at y;exact ik (o:=D7) p f U U g (by k_ne) t u (λb r=>by simp only[j2,D7];go_simp) (λb r e c=>by simp[go_sem,D7,y]at c) B
 |13,_,_=>
  have y:=f.r 11 D6 31 U (ia g U U) U;simp only[j2]at y;exact ik (o:=D8) p f U U g (by k_ne) t u (λb r=>by simp only[j2,D8];go_simp) (λb r e c=>by simp[go_sem,D8,y]at c) B
 |14,_,_=>
  have y:=f.r 12 D7 32 U (ia g U U) U;simp only[j2]at y;exact ik (o:=D9) p f U U g (by k_ne) t u (λb r=>by simp only[j2,D9];go_simp) (λb r e c=>by simp[go_sem,D9,y]at c) B
end
def arI(x y:Ñ)(n:Nat)(a:List ę):G (è À 37 #[x,y,Å É n] ć) a=Fw x y n a:=by unfold Fw;rw[enter_at #[x,y,Å É n] ς (c:=kY Tryz.f37 []) ft];kernel_rfl
section
variable{l g:fe}{s:List fJ}{V:Nat->Prop}{d:List PR}
def arJ{J:Array Ñ}(D:n8 g i n s x V)(hq:RQ d v X g.w)(N:∀b,X b->g.O b)(hok:∀r∈d,uT r)(LH:d.length<=24)(ht:J.size=39) (md:ŉ) (listed:Array Bool) (a:Ď) (l:fe) (P:List Nat) (hI:II ox J (j2 i n x v) (wy g (λb=>V b\/X b) d s) listed a l) (B:9∈æ md ox listed) (hn:∀Q E,II ox J (j2 i n x v) (wy g (λb=>V b\/X b) d s) (listed.setIfInBounds 9 Î) Q E->jo vQ E (G ((base 17).at Q<|Ð ox P::L) qX)): jo vQ l (G ((base 17).at a<|Ð ox (9::P)::L) qX):=by
 let⟨t,y,S⟩:=hI;have K:=(Ι.1 B).1;have T:9<listed.size:=by
  rcases ĥ 9 listed.size with q|q
  .exact q
  .simp[é,ë q]at K
 have M:listed.getD 9 Ë=Ë:=by simp only[é,Û T]at K|-;simpa using K
 have e24:a.tmps[24]?=Â x:=y.r 3 JZ 24 U (ia B U U) U;have e25:a.tmps[25]?=Â v:=y.r 4 J0 25 U (ia B U U) U;have e29:a.tmps[29]?=Â (Å É n):=y.r 8 J6 29 U (ia B U U) U;have late:∀(W:Value×Value) j,listed.getD j Ë=Î->j2 i n x v W j=j2 i n x v t j:=λW j u=>by
  have c:listed.getD 10 Ë=Ë:=by
   cases q:listed.getD 10 Ë with
   |false=>rfl
   |true=>exact absurd (y.S 10 Am ⟨9,Đ⟩ U q (by simp[Am]) U)<|by rw[M];decide
  have e:listed.getD 11 Ë=Ë:=by
   cases q:listed.getD 11 Ë with
   |false=>rfl
   |true=>exact absurd (y.S 11 D6 ⟨10,Đ⟩ U q (by simp[D6]) U)<|by rw[c];decide
  have h:listed.getD 12 Ë=Ë:=by
   cases q:listed.getD 12 Ë with
   |false=>rfl
   |true=>exact absurd (y.S 12 D7 ⟨10,Đ⟩ U q (by simp[D7]) U)<|by rw[c];decide
  have m:listed.getD 13 Ë=Ë:=by
   cases q:listed.getD 13 Ë with
   |false=>rfl
   |true=>exact absurd (y.S 13 D8 ⟨11,Đ⟩ U q (by simp[D8]) U)<|by rw[e];decide
  have p:listed.getD 14 Ë=Ë:=by
   cases q:listed.getD 14 Ë with
   |false=>rfl
   |true=>exact absurd (y.S 14 D9 ⟨12,Đ⟩ U q (by simp[D9]) U)<|by rw[h];decide
  match j with
  |9=>rw[M]at u;cases u
  |10=>rw[c]at u;cases u
  |11=>rw[e]at u;cases u
  |12=>rw[h]at u;cases u
  |13=>rw[m]at u;cases u
  |14=>rw[p]at u;cases u
  |0|1|2|3|4|5|6|7|8=>rfl
  |j+15=>rfl
 refine Al (f:=37) (args:=#[x,v,Å É n]) S.1 (o:=yi) U (LG U _) (by k_ne) (λw=> ?_) (λw=> ?_) λw₁ r=> ?_
 .simp only[yi];go_simp
 .exact ú U ς U U #[]
 have z:=(S.2.1 M).G r;have C:=D.S (λb q=>z.O b q) (λb q=>z.r b (È q) id) z.I;have Y:=λb q=>z.O b<|N b q;obtain⟨ra,cr,rb,rq,rfl,IB,C4,IC,IF,ready⟩:=arE (hq.r λb q=>z.r b (È<|N b q) id) hok C.r C.C Y;obtain⟨F,H,I,rfl⟩:∃F H I,x=Ç F H I:=by let⟨_,_,_,⟨F,H,I,e,_⟩,_⟩:=D.I;exact⟨F,H,I,e⟩
 rw[arI];refine arx IB (λh=>È<|C4 h) IC IF ready ⟨λb q=>È<|Ï q,λb q=>Ï q⟩ (λb q=>q.elim (λq=>q.elim (C.Y b)<|Y b)<|C.C b) (λb q=>È<|È q) C.I D.c (by have:=D.d;omega) λE e p m c h hT=> ?_;refine hn _ E ⟨(Ç (Â ⟨e,0,Á⟩) d.length d.length,Ç p m c),(y.YQ<|late _).fZ (by rw[ht];decide) U B λ_=>rfl,h,λq=> ?_,λ_=>⟨_,e,p,m,c,z,U,hT⟩⟩;have:(listed.setIfInBounds 9 Î).getD 9 Ë=Î:=by simp[é,T]
 rw[this]at q;cases q
end
section
variable{l o l4:fe}{ab:Nat}{s:List fJ}{sl:Ñ}{V:Nat->Prop}{rs:List PR}
structure abN(l l4:fe)(ab n:Nat)(s:List fJ)(sl:Ñ)(V:Nat->Prop)(rs:List PR)(an:Nat)(td:Ñ):Prop where
 r:∀b,l.O b->l4.O b/\l4.w.heap[b]?=l.w.heap[b]?
 fx:nB<=l4.w.heap.size
 C:l4.O an/\uX an (kS rs s) l4.w/\kP l4.w an=Â (0,0)
 IX:∃V',RD (wx rs s) td V' l4.w/\(∀b,V' b->l4.O b)/\¬V' ab/\∀b,V' b->V b\/(b=1\/b=2\/b=3\/b=4)\/l.w.heap.size<=b
def arK{kd:Nat->Int}(h:∀p,p<rs.length->w.cell? ⟨i,p,Á⟩=Â (Ä<|we (wv rs) (kL rs) p<|pI (wv rs) (gX (kL rs) rs.length) s<|fK (kL rs) p))(d:w.cell? ⟨i,rs.length,Á⟩=Á):uX i (kS rs s) w:=by refine⟨λp x a=> ?_,by unfold kS;simpa using d⟩;unfold kS at a;rw[ó]at a;obtain⟨q,e,rfl⟩:=ø.1 a;let⟨b,c⟩:=Ö.1 e;simp at b c;subst c;exact h p b
def UJ:(kS rs s).length=rs.length:=by simp[kS]
def arL:nB<=5:=by show À.globals.size<=5;decide+kernel
def arM{f:fe}{p:Option Ā}(d:n8 l ab n s sl V)(t:gw l)(u:∀b,X b->l.w.heap.size<=b)(v:∀b,l.O b->o.O b/\o.w.heap[b]?=l.w.heap[b]?)(x:l.w.heap.size<=o.w.heap.size)(y:gw l4)(e:gh (λ_=>False) o f)(a:Af (λb=>(V b\/X b)\/b=1\/b=2\/b=3\/b=4) (wv rs) rs.length (kL rs) s f i (Ç p m j) l4):abN l l4 ab n s sl V rs i (Ç p m j):=by
 have g:∀b,l.O b->l4.O b/\l4.w.heap[b]?=l.w.heap[b]?:=λb q=>by let⟨z,h⟩:=v b q;let⟨k,r⟩:=a.M b<|e.O b z;exact⟨k,r.trans<|(e.r b (È z) id).trans h⟩
 refine⟨g,?_,⟨a.r.1,arK (kd:=kL rs) a.r.2 a.I.1,a.I.2⟩,?_⟩
 .have:=y.fx 4<|È (g 4<|d.C 4 A).1;have:=arL;omega
 .let⟨h,B,k⟩:=a.Y;have r:∀b,h b->V b\/(b=1\/b=2\/b=3\/b=4)\/l.w.heap.size<=b:=λb q=>by
   rcases(k b q).2 with((z|z)|z)|z
   .exact È z
   .exact Ï<|Ï<|u b z
   .exact Ï<|È z
   .exact Ï<|Ï<|Ì (Ì x e.I) z
  refine⟨h,B,λb q=>(k b q).1,λq=> ?_,r⟩;rcases r ab q with z|z|z
  .exact d.e z
  .exact d.M z
  .have:=t.fx ab<|È d.fq;omega
def arN{f:fe}{p:Option Ā}(d:n8 l ab n s sl V)(h:abN l l4 ab n s sl V rs i (Ç p m j))(E:gw l4)(g:∀b,l4.O b->f.O b)(r:∀b,l4.O b->f.w.heap[b]?=(l4.w.setCell ⟨ab,1,Á⟩<|Ç p m j).heap[b]?)(v:l4.w.heap.size<=f.w.heap.size):Oe l f ab n (wx rs s) V:=by
 let⟨x,y,t,u,z⟩:=h.IX;have k:∀b,l4.O b->b≠ab->f.w.heap[b]?=l4.w.heap[b]?:=λb q e=>(r b q).trans<|ll (a:=⟨ab,1,Á⟩) e;have o:=h.r ab d.fq;refine⟨λb q e=>⟨g b (h.r b q).1,(k b (h.r b q).1 e).trans (h.r b q).2⟩,Ç p m j,x,⟨?_,λb q=>g b (h.r b<|d.C b q).1,?_,g ab o.1,y.r λb q=>k b (t b q) λe=>u<|e▸q,λb q=>g b<|t b q,u,d.c,d.d,d.M⟩,z⟩
 .exact d.r.r (Ì h.fx v) λb q=>(k b (h.r b<|d.C b q).1 λe=>d.M<|e▸q).trans (h.r b<|d.C b q).2
 .let⟨B,C,D⟩:=d.a;refine⟨B,?_,D⟩;rw[r ab o.1];unfold Γ;simp[Ŀ,o.2,C]
def arO{J:Jd}(b:jS l)(d:fv.fi À Î J l (G (f.at (y.put ((Q[i]?).bind (·.dst))<|Ä ⟨#[]⟩)<|Ð Q jJ::L) qX)): fv.fi À Î J l (G (è À 38 #[Ç O 0 j,Ä B] ć)<|f.at y (Ð Q (i::jJ)::L)::qX):=by
 have hF:True:=trivial;rw[D5 [_,_] 73 Ě];simp only[Ĉ,ė,Ġ];conv in kY _ _=>whnf
 apply fW (n:=60) b;repeat w_go fA
 u_in fA hF
 refine ŭ (t:=4) U U Ě U ⟨by u_nil,?_⟩;refine ô λ_ _=> ?_;exact d
def uX.I{w':Í}{xs:List ByteArray}(h:uX i xs w)(k:w'.heap[i]?=w.heap[i]?):uX i xs w':= ⟨λp x a=>D3 k<|h.r p x a,by have:=h.C;simp only[ä,k]at this|-;exact this⟩
def arP{xs:List ByteArray}(g:nI w)(h:uX i xs w):lr i=Ë:=by
 have b:∀e,NN i e w->False:=λe ⟨c,o,j,_,_,d,l⟩=>by
  have f:w.cell? ⟨i,0,Á⟩=Â c[0]:=by simp only[ä,j,ü,ð,if_false];exact Û d
  rcases ī xs.length with q|q
  .have a:=h.C;rw[q,f]at a;cases a
  .have a:=h.r 0 _<|Ô q;let⟨k,n,m⟩:=l c[0]<|ò.2<|Ć d;rw[f,m]at a;cases a
 cases q:lr i with
 |false=>rfl
 |true=>
  unfold lr at q;simp at q;rcases q with rfl|rfl
  .exact(b _ g.I).elim
  .exact(b _ g.C).elim
def kg.arQ(a:jS l)(r:fH l l.w u):kg l {l with w:=u}:=⟨λ_ q=>q,λ_ q=>È q,U,U,U,U,U,r,lX a r⟩
def arR{a:Ď}{xs:List ByteArray}(b:ig l)(j:nB<=l.w.heap.size)(h:uX n xs l.w)(m:l.O n)(o:lr n=Ë)(p:kP l.w n=Â (0,0))(s:xs.length<=1000){N:Nat}(t:xs.length=N)(u:B.size=1)(v:iP xs+xs.length<=140737488355328): fv.fi À Î (λc g=>kg l c/\c.d=l.d/\g=G (f.at (a.put ((Q[i]?).bind (·.dst))<|Ä<|kC B xs)<|Ð Q jJ::L) qX) l (G (è À 38 #[Ç (Â ⟨n,0,Á⟩) N N,Ä B] ć)<|f.at a (Ð Q (i::jJ)::L)::qX):=by
 subst t;rcases ī xs.length with e|e
 .have x:=Ó e;subst x;exact arO b.r.r<|.fB λy r=>⟨kg.arQ b.r.r r,U,U⟩
 .refine(arq b.r b.q j h e (È m) o p s u v Î _ qX).fN ?_;rintro c g ⟨r,x,rfl⟩;exact⟨r,x,by rw[ġ]⟩
def arS{N:Array Ñ}{cf:ę}(C:n8 l ab n s sl V)(Fy:gw l)(UK:∀b,X b->l.w.heap.size<=b)(hl:∀b,l.O b->o.O b/\o.w.heap[b]?=l.w.heap[b]?)(jH:l.w.heap.size<=o.w.heap.size)(LH:rs.length<=24)(sQ:iP (kS rs s)+rs.length<=140737488355328)(ht:N.size=39)(ht0:N[0]?=Â (Ã<|Â ⟨ab,0,Á⟩)) (hJ:∀P,ig P->Oe l P ab n (wx rs s) V->jo vQ P (G (cf.at (y.put ((Q[i]?).bind (·.dst))<|ï #[Ä<|kC ⟨#[59]⟩<|kS rs s,Å É 0])<|Ð Q jJ::L) qX)) (md:ŉ) (listed:Array Bool) (a:Ď) (l4:fe) (hI:II ox N (j2 ab n sl v) (wy o (λb=>V b\/X b) rs s) listed a l4) (H:listed.size=ox.size) (I:æ md ox listed=[]): jo vQ l4 (G ((base 17).at a<|Ð ox []::[aH UI])<|cf.at y (Ð Q (i::jJ)::L)::qX):=by
 have hF:True:=trivial;let⟨x,D,g,_,hS⟩:=hI;have J:∀i∈Ī 15,listed.getD i Ë=Î:=by
  cases md
  .exact po I H (Ī 15) [] fP λi c=>by cases c
  .exact λi c=>po I H [0,1,2,3,4,5,6,7,8,9,10,11,13,12,14] [] fP (λi c=>by cases c) i (by have:=ż.1 c;revert i;decide)
  .exact po I H (Ī 15) [] fP λi c=>by cases c
 obtain⟨l1,r,p,m,c,k1,rfl,hT⟩:=hS<|J 9 A;have h:=arM (rs:=rs) C Fy UK hl jH g.r k1 hT;let⟨F,ds⟩:=a;obtain rfl:ds=[]:=D.M;have S:F[0]?=Â (Ã<|Â ⟨ab,0,Á⟩):=(D.C A).trans ht0;have T:F[9]?=Â (Ç (Â ⟨r,0,Á⟩) rs.length rs.length):=D.r 13 D8 9 U (J 13 A) U;have W:F[10]?=Â (Ç p m c):=D.r 14 D9 10 U (J 14 A) U;have IN:F.size=39:=D.N.trans ht;clear D J hS hT k1 I H;obtain⟨u,rfl⟩:=uo F IN;simp only[List.getElem?_toArray,ó,List.getElem?_range,Nat.reduceLT,ý,Õ]at S T W;simp only[Ī,List.range.loop,List.map,S,T,W];clear S T W IN;let⟨fr,mA,hfr⟩:=C.a;let⟨Og,hab⟩:=h.r ab C.fq;have Y:l4.w.heap[ab]?=Â (Þ #[Å É n,sl] 68 (0,0)):=by rw[hab,mA,hfr]
 have c1:l4.w.cell? ⟨ab,1,Á⟩=Â sl:=by simp[ä,Y]
 have z1:l4.w.frozen? ⟨ab,1,Á⟩=Ë:=by simp[World.frozen?,Y]
 have CQ:=g.q;apply pP;apply fW (n:=20) g.r.r;conv in UI=>whnf
 iterate 7 w_go fA
 refine ô λ_ _=> ?_;apply Ig (p:=ab) (off:=1) (v:=Ç p m c) (u:=sl) U U (by k_ne) g.r.r CQ Og c1 z1 U (λw z B=>by go_simp) (λw z B=>by simp[go_sem,events_store _ _ _ _ _ _ (show Value.oneCell' (Ç p m c)=Î from rfl),z,B]);have k5:=LQ (X:=λb=>b=ab) (p:=ab) (w':=l4.w.setCell ⟨ab,1,Á⟩<|Ç p m c) g.r (fH.fT _ _) Og U fv.jO λj hj=>fv.ll hj;have rP:=k5.N g.r;have atY:(l4.w.setCell ⟨ab,1,Á⟩<|Ç p m c).heap.size=l4.w.heap.size:=fv.jO;have um:ig ({l4 with w:=l4.w.setCell ⟨ab,1,Á⟩ (Ç p m c)}:fe):=⟨rP,g.d,g.q,g.N,g.I,g.M,g.k⟩;have c0:l4.w.cell? ⟨ab,0,Á⟩=Â (Å É n):=by simp[ä,Y]
 have arT:r≠ab:=λe=>by
  rcases ī (kS rs s).length with q|q
  .have z:=h.C.2.1.C;rw[q,e,c0]at z;cases z
  .have B:=h.C.2.1.r 0 _<|Ô q;rw[e,c0]at B;cases B
 have abO:(l4.w.setCell ⟨ab,1,Á⟩<|Ç p m c).heap[r]?=l4.w.heap[r]?:=fv.ll (a:=⟨ab,1,Á⟩) arT;have Ug:=h.C.2.1.I abO;have Cy:kP (l4.w.setCell ⟨ab,1,Á⟩<|Ç p m c) r=Â (0,0):=(wS abO).trans h.C.2.2;have arU:lr r=Ë:=arP (C.r.r h.fx λb q=>(h.r b<|C.C b q).2) h.C.2.1;have hlen:(kS rs s).length=rs.length:=UJ;apply fW (n:=20) rP.r;iterate 4 w_go fA
 refine ô λ_ _=> ?_;refine yh (f:=38) (args:=#[Ç (Â ⟨r,0,Á⟩) rs.length rs.length,Ä ⟨#[59]⟩]) U fP (by k_ne) rP.r (λw=>by go_simp) (λw=>ú U Ě U U #[]) λw₁ E=> ?_;have An:=um.C E;have arV:uX r (kS rs s) w₁:=Ug.I<|E.I r<|È h.C.1;refine fv.fi.lN ?_ (arR (xs:=kS rs s) An (Ì (by rw[fv.jO];exact h.fx) E.r) arV h.C.1 arU ((wS<|E.I r<|È h.C.1).trans Cy) Z hlen U Z);rintro K g6 ⟨M,hd,rfl⟩;have UL:ig K:=kg.zx An M hd;have hk6:∀b,l4.O b->K.w.heap[b]?=(l4.w.setCell ⟨ab,1,Á⟩<|Ç p m c).heap[b]?:=λb q=>(M.r.I b<|È q).trans<|E.I b<|È q;have hs6:l4.w.heap.size<=K.w.heap.size:=by have z:=M.r.r;have B:=E.r;have h3:(l4.w.setCell ⟨ab,1,Á⟩<|Ç p m c).heap.size=l4.w.heap.size:=fv.jO;exact Ì (Nat.le_of_eq h3.symm)<|Ì B z
 have B:∀b,l4.O b->K.O b:=λb q=>M.O b q;generalize kC ⟨#[59]⟩ (kS rs s)=ans at*;walk_nrm;apply fW (n:=20) UL.r.r;repeat w_go fA
 u_in fA hF
 refine σ (t:=4) (u:=5) U U ŋ U ⟨by u_nil,?_⟩;refine ô λ_ _=> ?_;refine .fB λpb z=>⟨UL.C z,U,hJ _ (UL.C z)<|arN C h g.r B (λb q=>(z.I b<|È<|B b q).trans<|hk6 b q)<|Ì hs6 z.r⟩
end
section
variable{l:fe}{s:List fJ}
def arW{e:fe}{c:Nat->Prop}{g:List PR}(H:n8 l j n s v X)(I:gw l)(u:n8 e j n s v X)(p:ig e)(J:RQ g z c e.w)(K:∀b,c b->e.O b)(M:∀r∈g,uT r)(B:g.length<=24)(N:∀b,c b->l.w.heap.size<=b)(P:∀b,l.O b->e.O b/\e.w.heap[b]?=l.w.heap[b]?)(S:l.w.heap.size<=e.w.heap.size)(T:iP (kS g s)+g.length<=140737488355328)(t:d.size=39)(C:d[0]?=Â (Ã<|Â ⟨j,0,Á⟩))(V:d[6]?=Â z) (W:∀h,ig h->Oe l h j n (wx g s) X->jo vQ h (G (f.at (y.put ((Q[i]?).bind (·.dst))<|ï #[Ä<|kC ⟨#[59]⟩<|kS g s,Å É 0])<|Ð Q jJ::L) qX)): jo vQ e (G ((base 17).at ⟨d,[]⟩<|aH (.region 4 ox Î)::[aH UI])<|f.at y (Ð Q (i::jJ)::L)::qX):=by
 refine arF (II ox d (j2 j n v z)<|wy e (λb=>X b\/c b) g s) p (λa x=> ?_) (λk m a l i jJ o D E=> ?_) λk m a l o Y vF=> ?_
 .refine⟨(Ł,Ł),lC.Y _ _ _,p.C x,λ_=>(gh.fT p.r.r).G x,λq=> ?_⟩;exact absurd q A
 .by_cases F:i=9
  .subst F;exact arJ u J K M B t k m a l jJ o D E
  .exact arG (arH u t C V k m a l i jJ o D F) (λD h q=>by let⟨x,_,q⟩:=q;exact q.1) E
 .exact arS H I N P S B T t C W k m a l o Y vF
def abP(p:ig l)(r:n8 l j n s v X)(I:B.size<=ĳ)(J:(iw B).1=0->iP (kS (iw B).2.2 s)+(iw B).2.2.length<=140737488355328) (t:∀z,ig z->Oe l z j n (mj s B).2.2 X->jo vQ z (G (f.at (y.put ((Q[i]?).bind (·.dst))<|ï #[Ä (mj s B).1,Å É (mj s B).2.1])<|Ð Q jJ::L) qX)): jo vQ l (G (è À 17 #[Ã<|Â ⟨j,0,Á⟩,Ä B] ć)<|f.at y (Ð Q (i::jJ)::L)::qX):=by
 have hF:=trivial;rw[D5 [_,_] 37 ŋ];simp only[Ĉ,ė,Ġ];conv in kY _ _=>whnf
 apply pP;apply fW (n:=20) p.r.r;iterate 8 w_go fA
 refine ô λ_ _=> ?_;refine yh (f:=36) (args:=#[Ä B]) U fP (by k_ne) p.r.r (λw=>by go_simp) (λw=>ú U ņ U U #[]) λw₁ m=> ?_;have C:=p.C m;refine fv.fi.lN ?_<|ari C.r C.q (Ì r.r.fx m.r) I Î _ _;rintro u g1 ⟨x,K,a,rfl,M⟩;have g:=kg.zx C x K;have h:∀b,l.O b->u.O b/\u.w.heap[b]?=l.w.heap[b]?:=λb q=>⟨x.O b q,(x.r.I b<|È q).trans<|m.I b<|È q⟩;have F:=Ì m.r x.r.r;rw[ġ];by_cases k:(iw B).1=0
 .have D:mj s B=(kC ⟨#[59]⟩<|kS (iw B).2.2 s,0,wx (iw B).2.2 s):=if_pos k;let⟨c,N,E⟩:=M k;have P:=J k;rw[D]at t;obtain⟨S,T⟩:=Od;rw[k];generalize(iw B).2.2=rs at*;generalize(iw B).2.1=at1 at*;walk_nrm;apply fW (n:=40) g.r.r;repeat w_go fA
  refine ô λ_ _=> ?_;refine .fB λo d=>⟨g.C d,U,?_⟩;have V:=g.C d;have e:∀b,l.O b->({u with w:=o}:fe).O b/\o.heap[b]?=l.w.heap[b]?:=λb q=>⟨(h b q).1,(d.I b<|È (h b q).1).trans (h b q).2⟩;have H:=Ì F d.r;have W:=r.S (λb q=>(e b q).1) (λb q=>(e b q).2) H;have Y:=N.r λb q=>d.I b<|È (E b q).1;have hQ3:=λb q=>(E b q).1;have UK:=λb q=>Ì m.r (E b q).2;exact arW r p.r W V Y hQ3 S T UK e H P U U U t
 .have D:mj s B=(⟨#[]⟩,(iw B).1,s):=if_neg k;rw[D]at t;have c:((iw B).1 !=0)=Î:=by rwa[bne_iff_ne]
  generalize(iw B).1=er at*;generalize(iw B).2.1=at1 at*;walk_nrm;apply fW (n:=40) g.r.r;repeat w_go fA
  u_in fA hF
  refine σ U U ŋ U ⟨by u_nil,?_⟩;refine ô λ_ _=> ?_;refine .fB λo d=>⟨g.C d,U,t _ (g.C d) ?_⟩;have e:∀b,l.O b->({u with w:=o}:fe).O b/\o.heap[b]?=l.w.heap[b]?:=λb q=>⟨(h b q).1,(d.I b<|È (h b q).1).trans (h b q).2⟩;exact⟨λb q _=>e b q,v,X,r.S (λb q=>(e b q).1) (λb q=>(e b q).2)<|Ì F d.r,λb q=>È q⟩
end
def UM(a:ByteArray)(c:a.size=1):∀b:List ByteArray,(kC a b).size<=iP b+b.length
 |[]=>Ü _
 |x::r=>by
  show(x.data.toList++n7 a r).toArray.size<=_;have d:iP (x::r)=x.size+iP r:=by simp[iP]
  have e:x.data.toList.length=x.size:=by rw[Č];rfl
  simp only[Š,Ø,NA a c r,d,e,ĉ];omega
def UN{M:Nat}(a:∀z∈vX,z.size<=M)(b:M<=100)(c:vX.length<=400000):(qy vX).size<=100000000:=by
 unfold qy;split
 .decide
 .have d:=UM ⟨#[44]⟩ U vX;have e:=DL vX a;have:M*vX.length<=100*400000:=ŷ b c;omega
def Gw(i:Nat):(n9 i).size<=3:=by
 unfold n9 om;rw[î];split
 .show 1+1<=3;decide
 .show 1+2<=3;decide
def abQ(s:gR.St)(x y:Nat)(k:Int):∀(m i:Nat),i+m<=1000->(tu s x y k i m).size<=20
 |0,i,_=>by unfold tu;decide
 |m+1,i,h=>by
  unfold tu;split
  .exact ri i Z
  .exact abQ s x y k m (i+1) Z
def arX(s t:gR.St):(pC s t 8).length<=400000:=by
 unfold pC;have a:∀l:List Nat,(l.flatMap<|xW s t).length<=18*l.length:=λl=>by
  induction l with
  |nil=>simp
  |cons i l b=>
   rw[List.flatMap_cons,Ø,ĉ];have:(xW s t i).length<=18:=by unfold xW;rw[Ø];have c:=Nw s t i 16;have d:=aat (s i).fu (t i).fu (s i).r (t i).r i;omega
   omega
 have:=a<|Ī 8;rw[List.length_range]at this;omega
def abR{i:List (Nat×fJ)}{q:Qn}(n:lz (kj i))(ok:q.Ok):(pE i q).size<=100000000:=by
 unfold pE;split
 .have:=Gw 3;omega
 .rename_i p o;let⟨b,f,B,C⟩:=n.C _<|Ý.2 ⟨p,JA o,U⟩;have j:∀u,u<18446744073709551616->(gH u).size<=100000000:=λu r=>by have:=ri u r;omega
  unfold DN;split
  .have c:=f.C q.x q.I;exact j _ (by have:=c.1;have:=c.2;omega)
  .split
   .have c:=f.fu q.x;exact j _ (by have:=c.1;have:=c.2;omega)
   .split
    .split
     .have:=Gw 6;omega
     .rename_i D;have l:fX (q.k:Int):=⟨Z,by have:=ok.k;omega⟩;have e:=M4 p.2.s [] q.x q.y q.g q.k f ok.x ok.y l Z Z (by simp;omega);unfold T8;have E:=e.r;have m:=e.M;have t:=e.I;simp at t;have v:=UM ⟨#[44]⟩ U<|[gH (gk p.2.s [] q.x q.y q.g q.k).C.toNat,gH (gk p.2.s [] q.x q.y q.g q.k).I.toNat,gH (gk p.2.s [] q.x q.y q.g q.k).r.toNat]++(gk p.2.s [] q.x q.y q.g q.k).M.map oR;have w:=DL (M:=21) ([gH (gk p.2.s [] q.x q.y q.g q.k).C.toNat,gH (gk p.2.s [] q.x q.y q.g q.k).I.toNat,gH (gk p.2.s [] q.x q.y q.g q.k).r.toNat]++(gk p.2.s [] q.x q.y q.g q.k).M.map oR) λz d=>by
       rcases à.1 d with h|h
       .simp at h;rcases h with rfl|rfl|rfl
        .have:=ri (gk p.2.s [] q.x q.y q.g q.k).C.toNat (by cases(gk p.2.s [] q.x q.y q.g q.k).C<;>decide);omega
        .have:=ri (gk p.2.s [] q.x q.y q.g q.k).I.toNat (by have:=m.1;have:=m.2;omega);omega
        .have:=ri (gk p.2.s [] q.x q.y q.g q.k).r.toNat Z;omega
       .obtain⟨e,a,rfl⟩:=Ý.1 h;exact ND ((TO p.2.s [] q.x q.y q.g q.k f ok.x ok.y l Z Z (by simp;omega) λ_ q=>by cases q) e a).2
      simp only[Ø,ĉ,Ļ,í]at v w;omega
    .split
     .have:=abQ p.2.s q.x q.y q.k 401 0 Z;omega
     .split
      .have:=aaJ<|xT p.2.s;have:=aaK<|16-(nH<|xT p.2.s).size;unfold Aa;rw[î];omega
      .split
       .exact UN (λz d=>by obtain⟨e,a,rfl⟩:=Ý.1 d;exact ND (b.C e a).2) Z<|by rw[í];exact b.I
       .split
        .exact UN (λz d=>by obtain⟨e,a,rfl⟩:=Ý.1 d;exact aaD (b.r e a).1 (b.r e a).2) Z (by rw[í];have:=b.M;omega)
        .split
         .have:=Gw 3;omega
         .exact UN (aaL _ _) Z<|arX _ _
def arY(a:List (Nat×fJ))(v:Int)(x:Nat)(b:List Tx):(rh a v x b).2.size<=3:=by
 unfold rh;split
 .exact Gw 3
 .split
  .exact Gw 4
  .split
   .exact Gw 5
   .show(om a.length).size<=3;unfold om;split
    .show 1<=3;decide
    .show 2<=3;decide
def arZ{s:List fJ}{i:Int×Nat×List Tx}(h:lz s)(a:∀t∈i.2.2,t.Ok)(b:i.2.2.length<=1000):lz (DW s i):= lz.M (by rwa[Gf]) a b
def abS{a:List PR}{s:List fJ}(h:lz s)(b:∀r∈a,uT r):∀k,k<=(gX (kL a) a.length).length->lz (pI (wv a) (gX (kL a) a.length) s k)
 |0,_=>h
 |k+1,hk=>by
  have c:a.getD ((gX (kL a) a.length).getD k 0) oV∈a:=ç (i:=(gX (kL a) a.length).getD k 0) (by have q:=(IV<|vS (l:=gX (kL a) a.length)<|show k<_ from hk).1;generalize(gX (kL a) a.length).getD k 0=j at q;simp[ď,q]);have q:=b _ c;refine arZ (abS h b k Z) (λt d=> ?_) ?_
  .obtain⟨x,t,rfl⟩:=Ý.1 d;exact toTx_ok<|q.C x t
  .show((a.getD _ oV).r.map toTx).length<=1000;rw[í];have:=q.n;omega
def RY(kd:Nat->Int):∀{p R:Nat},p<=R->fK kd p<=(gX kd R).length:=λ{p R} h=>by
 show(gX kd p).length<=(gX kd R).length
 induction h with
 |refl=>exact â _
 |@step R _ ih=>
  by_cases q:kd R=1
  .rw[s8 q];simp;omega
  .rwa[vM q]
def ar0{a:List PR}{s:List fJ}(h:lz s)(b:∀r∈a,uT r)(l:a.length<=24):iP (kS a s)+a.length<=140737488355328:=by
 have d:=DL (M:=100000000) (kS a s) λz c=>by
  unfold kS at c;obtain⟨p,e,rfl⟩:=Ý.1 c;have f:=ż.1 e;have g:=abS h b (fK (kL a) p)<|RY _ Z;unfold we;split
  .exact Ì (arY _ _ _ _) A
  .rename_i j;have k:a.getD p oV∈a:=ç (i:=p) (by simp[ď,f]);exact abR (by rwa[Gf])<|UH (b _ k) j
 rw[UJ]at d;omega
def abT{s:List fJ}(h:lz s):iP (kS (iw B).2.2 s)+(iw B).2.2.length<=140737488355328:=ar0 h Od.1 Od.2
def J7(c:Int):Int:=if c<0 then(-(c+1))%8 else c%8
def ar1(c:Int)(b:-9223372036854775808<=c)(d:c<=9223372036854775807)(w:Í):Ò À 30 #[Å É c,Å É 8] w λe a=>e=Æ (Å É<|J7 c)/\a=w:=by
 unfold J7;by_cases h:c<0
 .rw[if_pos h];have e:-(c+1).tmod 8=(-(c+1))%8:=by rw[<-Int.neg_tmod,Int.tmod_eq_emod_of_nonneg Z]
  have H:=ff e.symm;clear e;go_enter Ů,ζ;go_wp2;go_ret;exact⟨by rw[H.out];rfl,U⟩
 .rw[if_neg h];go_enter Ů,ζ;go_wp2;go_ret;exact⟨U,U⟩
def abU(a:Ā)(w:Í):Sem.events À (binOp BinOp.eql 26 (Ã<|Â a)<|Ã Á) w #[]=#[]:=ft
def abV{l:fe}(a:ig l)(s:nB<=l.w.heap.size){f:η}{args:Array Ñ}{r:Ñ}(m:FJ f=Î)(t:∀v∈args.toList,fl (qj (λ_=>False) À.globals.size) v v)(x:∀{Y v},fl Y r v->v=r)(y:∀w,Ò À f args w λe n=>e=Æ r/\n=w)(o:Bool)(c:ę)(i:List ę): fv.fi À o (λk p=>kg l k/\k.d=l.d/\p=G (c.finish r) i) l (G (è À f args ć)<|c::i):=by
 let⟨E,F,z,B⟩:=zD f m;have C:∀T,Ò À f args (World.tp (kZ (λj=>False/\¬(lZ l).O j) l.w) T 0) fun|Æ v,j=>v=r/\j5 j|_,_=>False:=λT=>by refine(y _).mono ?_;rintro e n ⟨rfl,rfl⟩;exact⟨U,Ge⟩
 refine((FE yp MO zD (λv u T D h=>h) m z B (FF a.r) a.q (λb q=>q.elim) ⟨λb q=>q.elim,s⟩ (λg q=>by cases q) (pF t) C o c i).lZ a.r).fN ?_;rintro k p ⟨D,⟨Y,j,v,H,_,_,g,rfl,b,_,_,h⟩,rfl,u,_,_,_⟩;rw[x g]at b;exact⟨u,h,b⟩
def UO:ByteArray:=⟨#[98,48,58,97,59,98,48,58,104,59,117,48,59,98,49,58,97]⟩
def ar2:(mj [gR.k9] UO).1=⟨#[49,48,48,48,59,49,48,48,48,59,45,59,33,51]⟩:=ft
def ar3:(mj [gR.k9] UO).2=(0,[gR.k9]):=ft
structure ar4(l l':fe)(ab n:Nat)(sl:Ñ)(V:Nat->Prop):Prop where
 r:n8 l' ab n [gR.k9] sl V
 C:∀b,l.O b->l'.O b/\l'.w.heap[b]?=l.w.heap[b]?
 I:l.w.heap.size<=ab
 M:∀b,V b->(b=1\/b=2\/b=3\/b=4)\/l.w.heap.size<=b
section
variable{l:fe}
def ar5{J:Jd}{s:List fJ}(c:ig l)(d:n8 l j n s z X)(g:fv.fi À Î J l (G (f.at (y.put ((Q[i]?).bind (·.dst))<|Å É s.length)<|Ð Q jJ::L) qX)): fv.fi À Î J l (G (è À 22 #[Ã<|Â ⟨j,0,Á⟩] ć)<|f.at y (Ð Q (i::jJ)::L)::qX):=by
 have hF:True:=trivial;obtain⟨a,b,rfl⟩:∃a b,z=Ç a s.length b:=by
  let⟨o,h,_,⟨a,k,b,e,_,m⟩,_⟩:=d.I;have:k=s.length:=by rw[m.r,<-h];simp[kj]
  exact⟨a,b,by rw[e,this]⟩
 have o:s.length<=40:=by let⟨_,_,e,_⟩:=d.I;exact e.r
 let⟨p,k,_⟩:=d.a;have m:l.w.cell? ⟨j,1,Á⟩=Â (Ç a s.length b):=by simp[ä,k]
 rw[D5 [_] 7 ů];simp only[Ĉ,ė,Ġ];conv in kY _ _=>whnf
 refine fW (n:=20) c.r.r ?_;repeat w_go fA
 refine ô λ_ _=> ?_;refine pn (x:=⟨j,1,Á⟩) (v:=Ç a s.length b) U fP (by k_ne) c.r.r c.q (È<|È d.fq) m (λw h=>by go_simp) (λw h=>by simp[go_sem,h]) ?_;walk_nrm;refine fW (n:=20) c.r.r ?_;repeat w_go fA
 u_in fA hF
 refine ŭ (t:=2) U U ů U ⟨by u_nil,?_⟩;refine ô λ_ _=> ?_;exact g
def ar6(j:ig l)(p:nI l.w)(I:∀b,b=1\/b=2\/b=3\/b=4->l.O b)(c:Int)(tU:-9223372036854775808<=c)(Ah:c<=9223372036854775807) (hJ:∀J a n K V,ig J->ar4 l J a n K V->jo vQ J (G (f.at (y.put ((Q[i]?).bind (·.dst))<|Ã<|Â ⟨a,0,Á⟩)<|Ð Q jJ::L) qX)): jo vQ l (G (è À 15 #[Å É c] ć)<|f.at y (Ð Q (i::jJ)::L)::qX):=by
 have hF:True:=trivial;rw[D5 [_] 36 υ];simp only[Ĉ,ė,Ġ];conv in kY _ _=>whnf
 apply pP;apply fW (n:=20) j.r.r;repeat w_go fA
 refine ô λ_ _=> ?_;refine yh (f:=30) (args:=#[Å É c,Å É 8]) U fP (by k_ne) j.r.r (λw=>by go_simp) (λw=>ú U Ů U U #[]) λw₁ r=> ?_;have T:=j.C r;refine fv.fi.lN ?_ (abV T (Ì p.fx r.r) fP (λv h=>by simp at h;rcases h with rfl|rfl<;>exact .iF _ _) (λh=>by cases h;rfl) (ar1 c tU Ah) Î _ _);rintro s g1 ⟨u,hd,rfl⟩;obtain⟨z,hz,Jj,Sw⟩:∃z,J7 c=z/\0<=z/\z<8:=⟨_,U,by unfold J7;split<;>omega,by unfold J7;split<;>omega⟩;rw[hz];have M:ig s:=kg.zx T u hd;have x:∀b,l.O b->s.O b/\s.w.heap[b]?=l.w.heap[b]?:=λb q=>⟨u.O b q,(u.r.I b<|È q).trans<|r.I b<|È q⟩;have B:l.w.heap.size<=s.w.heap.size:=Ì r.r u.r.r;rw[ġ];walk_nrm;refine fW (n:=20) M.r.r ?_;repeat w_go fA
 refine ô λ_ _=> ?_;have oG:É.wrap (1+z)=1+z:=Ņ _ ⟨Z,Z⟩;refine yh (f:=35) (args:=#[Å É<|1+z]) U fP (by k_ne) M.r.r (λw=>by go_simp) (λw=>ú U ρ U U #[]) λpb h=> ?_;have N:=M.C h;obtain⟨n,hn⟩:∃n:Nat,1+z=n:=⟨(1+z).toNat,Z⟩;rw[hn];refine fv.fi.lN ?_<|arp N.r N.q (Ì (Ì p.fx B) h.r) (n:=(n:Int)) Z Z Î _ _;rintro d g3 ⟨C,rN,a,K,rfl,mA,Og,hab,V,qU,hnV,W⟩;have g:ig d:=kg.zx N C rN;have k:∀b,l.O b->d.O b/\d.w.heap[b]?=l.w.heap[b]?:=λb q=>⟨C.O b (x b q).1,(C.r.I b<|È (x b q).1).trans<|(h.I b<|È (x b q).1).trans (x b q).2⟩;have X:l.w.heap.size<=d.w.heap.size:=Ì B<|Ì h.r C.r.r;have ar7:l.w.heap.size<=a:=Ì B<|Ì h.r hab;have ar8:∀b,b=1\/b=2\/b=3\/b=4->b<l.w.heap.size:=λb q=>j.r.fx b<|È<|I b q;have hin:n8 d a n [gR.k9] K V:=⟨p.r (Ì p.fx X) λb q=>(k b<|I b q).2,λb q=>(k b<|I b q).1,mA,Og,qU,λb q=>(W b q).1,hnV,Z,Z,λq=>by have:=ar8 a q;omega⟩;have hVn:∀b,V b->l.w.heap.size<=b:=λb q=>Ì B<|Ì h.r (W b q).2;rw[ġ];walk_nrm;apply fW (n:=60) g.r.r;repeat w_go fA
 refine ô λ_ _=> ?_;apply oM (v:=û Ë) U fP (by k_ne) g.r.r g.q (λw _=>by go_simp) (λw _ e m=>by simp[go_sem,abU]at m);walk_nrm;apply fW (n:=60) g.r.r;repeat w_go fA
 refine ô λ_ _=> ?_;refine .fB λY m=>⟨g.C m,U,?_⟩;have um:=g.C m;have ar9:=hin.N m;have P:∀b,l.O b->({d with w:=Y}:fe).O b/\Y.heap[b]?=l.w.heap[b]?:=λb q=>⟨(k b q).1,(m.I b<|È (k b q).1).trans (k b q).2⟩;refine Al (f:=17) (args:=#[Ã<|Â ⟨a,0,Á⟩,Ä ⟨#[98,48,58,97,59,98,48,58,104,59,117,48,59,98,49,58,97]⟩]) um U fP (by k_ne) (λw=>by go_simp) (λw=>ú U ŋ U U #[]) λabW D=> ?_;change jo vQ _ (G (è À 17 #[Ã<|Â ⟨a,0,Á⟩,Ä UO] ć) _);refine abP (um.C D) (ar9.N D) A (λ_=>abT abJ) λl6 E abX=> ?_;rw[ar3]at abX|-;rw[ar2];let⟨Ls,sl6,V6,abY,hV6⟩:=abX;have lk:∀b,l.O b->b≠a:=λb q e=>by have:=j.r.fx b<|È q;omega
 have F:∀b,l.O b->l6.O b/\l6.w.heap[b]?=l.w.heap[b]?:=λb q=>by let⟨o,H⟩:=Ls b (P b q).1<|lk b q;exact⟨o,H.trans<|(D.I b<|È (P b q).1).trans (P b q).2⟩
 have hV7:∀b,V6 b->(b=1\/b=2\/b=3\/b=4)\/l.w.heap.size<=b:=λb q=>by
  rcases hV6 b q with z|z|z
  .exact Ï<|hVn b z
  .exact È z
  .exact Ï<|Ì X<|Ì (Ì m.r D.r) z
 walk_nrm;apply pP;apply fW (n:=60) E.r.r;repeat w_go fA
 refine ô λ_ _=> ?_;refine yh (f:=22) (args:=#[Ã<|Â ⟨a,0,Á⟩]) U fP (by k_ne) E.r.r (λw=>by go_simp) (λw=>ú U ů U U #[]) λs5 o=> ?_;apply ar5 (E.C o) (abY.N o);have S:=E.C o;have asa:=abY.N o;walk_nrm;apply fW (n:=60) S.r.r;repeat w_go fA
 u_in fA hF
 refine ŭ (t:=2) U U υ U ⟨by u_nil,?_⟩;refine ô λ_ _=> ?_;exact .fB λUP H=>⟨S.C H,U,hJ _ a n sl6 V6 (S.C H) ⟨asa.N H,λb q=>⟨(F b q).1,(H.I b<|È (F b q).1).trans<|(o.I b<|È (F b q).1).trans (F b q).2⟩,ar7,hV7⟩⟩
end
def J8{t:Tmp}(d:f.kind=ć)(e:y.defers=[])(g:P.funcs[f.fn]?=Â s)(c:s.results=#[.tmp t])(h:P.inits.idxOf? f.fn=Á):stepG P Î (G {f.at y L with mode:=.returning} []) w=.ended (.done<|y.tmps.getD t Ł) w:=by have i:=results_tmp c y.tmps P w;have j:=events_results_tmp (P:=P) (w:=w) c y.tmps;simp[G,stepG,unwind,doReturn,Frame.at,d,e,g,i,j,h,seen,GStep.after]
def asb{l:fe}(e:jo vQ l g)(a:ig l)(c:g.status=.running):sC vQ #[g] l.w Á #[]:=e a c (λ_=>False) 0 _ _ _ _ Á _ ⟨λx q=>q.elim,λ_ _ _ _ q=>q,Ü _⟩ (ars (P:=À) (J:=λ_ _=>True) (T:=.fB) U a.d a.q a.N a.I a.M a.k (λb q=>a.r.fx b<|È q) c λ_ _=>trivial) a.d U
def abZ(W:Í):fe:={O:=λb=>b<W.heap.size,I:=λ_=>False,r:=λ_=>False,N:=λ_=>False,K:=λ_=>False,d:=0,q:=False,w:=W}
def ab0(W:Í):ig (abZ W):= ⟨⟨λ_ _=>id,λ_ q=>q.elim,λ_ q=>q.elim (λz=>z.elim) λz=>z.elim,λ_ q=>q.elim id λz=>z.elim,λ_ q=>q.elim (λz=>z.elim) λz=>z.elim,λ_ q=>q.elim⟩,U,id,λ_=>id,λ_=>id,λ_=>id,λ_=>id⟩
structure nN(W w':Í):Prop where
 rz:∀b,b<W.heap.size->w'.heap[b]?=W.heap[b]?
 EE:W.heap.size<=w'.heap.size
def asc(g:nI W):∀b,b=1\/b=2\/b=3\/b=4->b<W.heap.size:=λb q=>by let⟨c,a,h,_⟩:=g.C;have:=(Ù.1 h).1;omega
end Go.Proofs.Y.lb
