import Derived.Test.YtgpphkdoanciiaaGreatDoorWAD
import Derived.Lib.Bytealg
import Derived.WalkKit
import Derived.WalkSpells
import Derived.WalkLawsBesides
import Derived.Deep.Light
import Derived.WalkMore
import Derived.Deep.QuietTactic
import Derived.BigQuiet
import Derived.Conc.LeavingOf
import Derived.Conc.CrowdStepC
import Derived.Listen
import Derived.ProofKit
import Derived.Deep.Slices
set_option linter.all false
set_option maxRecDepth 1000000
set_option maxHeartbeats 8000000
open Go.Proofs.Tryz renaming prog->À,ntmps67->í,func67->ó,zeroCells292->û,ntmps100->ü,func100->Ā,underlying25->Č,func38->ĕ,results45->Ĥ,func36->ļ,results36->Ľ,func17->Ł,ntmps160->Ŋ,ntmps147->ŋ,ntmps38->Ŏ,func160->Œ,func147->Ŗ,ntmps95->ŗ,ntmps36->Ř,func95->ť,func30->ŧ,func22->Ũ,ntmps123->Ÿ,ntmps101->ż,func123->Δ,func101->Κ,ntmps96->Μ,ntmps45->Ν,ntmps30->Ο,func96->Ω,func45->ε,func35->ζ,func37->η,func15->ι,f38->ah
open Option renaming none->Á,some->Â,bind_eq_some_iff->Ü,bind_eq_bind->ê,map->ð,map_eq_some_iff->ò,isSome_none->ö,pure_def->ā,map_some->Ă,bind_some->ş
open Go.Value renaming pointer->Ã,string->Ä,int->Å,slice->Æ,tuple->ë,bool->õ,cells->Ĺ
open Go.Ending renaming returned->Ç
open Or renaming inl->È,inr->Ï
open Go.IntKind renaming i64->É,u64->ã,wrap_u64->Ć,wrap_i64->ŝ,u8->ū
open And renaming intro->Ê
open Bool renaming false->Ë,true->Î,false_eq_true->ì,eq_iff_iff->Ě
open Nat renaming le_trans->Ì,zero_le->Ø,le_refl->æ,lt_of_lt_of_le->Ģ,eq_zero_or_pos->ĥ,zero_add->œ,mul_le_mul->ű
open Go renaming World->Í,Value->Ñ,Calls->Ò,Addr->ù,bodyPost_ret->ÿ,Act->Ĉ,Goroutine->Ċ,TypeId->Ď,maxLen->đ,Frame->Ĕ,Oper->ğ,TypeInfo->ĩ,undef->ĸ,results->Ń,execOp->ś,runNT_fst->Ţ,run_underlying->Ů,info_parts->ů,heap_alloc_new->Ŵ,Tape->ŷ,Trace->Ž,runNT->ſ,mem_ready->Β,wp_loop->Γ,wpList_plain->Ε,yielded->Ι,cell_one_new->Λ,FuncId->Ρ,Code->Τ,storeCells->ν,resolve->ρ,builtin->ς,Program->ω,invoke->ak
open Go.Item renaming inRegion->Ð,code->av
open List renaming getElem?_eq_getElem->Ó,getElem?_eq_some_iff->Õ,length_append->Ù,mem_map->Ú,eq_nil_of_length_eq_zero->Ý,mem_append->â,mem_of_getElem?->ç,setIfInBounds_toArray->é,length_map->ú,set_cons_zero->ý,set_cons_succ->þ,replicate->ą,length_cons->Đ,cons_append->Ē,mem_cons_of_mem->Ė,getElem?_of_mem->ė,append_nil->Ę,nil_append->ě,getElem_of_mem->Ğ,getD->Ġ,getElem?_append_right->ġ,getElem?_append_left->Ħ,extract_eq_take_drop->ħ,mem_or_eq_of_mem_set->Ĩ,take_add_one->Ī,getElem?_map->ī,all_eq_true->ĭ,range->ĳ,set_append_right->Ĵ,length_pos_iff->Ņ,map_cons->ŉ,mem_singleton->ō,map_nil->Ő,append_assoc->ő,ext_getElem?->Ŕ,size_toArray->ř,length_take->Ś,map_toArray->Ŝ,mem_flatMap->Ş,length_nil->ũ,mem_range->Ŷ
open Option.some renaming injEq->Ô,inj->af
open Go.Lib renaming byteCells->Ö,indexByte->Þ,strCells->į,hasPrefix->ź,TabIs->χ
open Go.Obj renaming cells->Û
open Go.World renaming cell?->ß,setCell->Ż,drew->ξ,var?->ο
open Go.Code renaming wp->à,wp_mono->İ,loop->ń,skip->ai
open Array renaming getElem?_eq_some_iff->á,getElem?_eq_getElem->å,mem_toList_iff->î,getElem_mem->ă,length_toList->ĝ,size_setIfInBounds->Ĭ,getElem?_eq_none->ı,mem_of_getElem?->ĵ,getElem?_modify->Ķ,getElem?_toList->ķ,toList_extract->ĺ,replicate->Ū
open Go.Region renaming ready->ä,wanted->ē,Mode->Ŀ
open Go.Frame renaming enter->è,finish_at->Ĝ
open Go.Conc.Goes renaming stop->ï
open Go.Ground renaming phase->ñ,data->ĉ
open Go.Conc renaming events_call_body->ô,crowd->Į,goes_leave1->Ŧ,Good->Ξ,goes_leave2->θ,listed->ax
open ByteArray renaming size_append->ø,getElem_eq_getElem_data->ċ,size_extract->č,data_extract->Ĳ,size->ŭ,data->Ű,extract->σ,mk->aA
open Go.CallKind renaming normal->Ą
open Go.Region.linearise renaming go->ć
open Go.Great renaming wpList_runTo->ď
open Go.Builtin renaming append_->ę,firstCells->Ō,lenOf->Ź,append->κ,zeroCells->φ
open Go.RowKit.Below renaming heap_setCell->ģ,heap_alloc->Š
open Go.IntWalk renaming i64_in->Ļ,i64_left->š
open Go.Made renaming word->ł,reckonStruct->ŕ,infoAt->ţ,mostCells->Ų,reckon->Χ
open Int renaming toNat_of_nonneg->ņ,le_refl->Ť
open Go.Operand renaming tmp->ň
open Go.Result renaming andThen_ok->ŏ,andThen->ų
variable{i n j b k m J j9 j7 j6:Nat}{w u W jX:Í}{v x z jQ:Ñ}{g:Ċ}{a p:ù}{h c:Int}{e t T:Ď}{d q:Array Ñ}{P:ω}{y:Ĉ}{B:ByteArray}{X:Nat->Prop}{O:Option ù}{l:List Ñ}{yQ:Bool}{K H:Ĉ->Í->Prop}{o:ğ}{D:Nat->Nat}{E:Array Ċ}{L:List Go.Item}{jJ:List Nat}{qX:List Ĕ}{qJ:Ž}{zX:Go.Loc->Prop}{zQ:List Int}{zJ:ĩ}{xQ:ŷ}{xJ:Nat×Nat}{vX:List ByteArray}{vQ:Ñ->Í->Prop}{vJ:Go.Exit->Ĉ->Í->Prop}{Q:Array ğ}{f:Ĕ}{F:Ρ}{s:Go.Func}
namespace Go.Proofs.Y.iw
open Go Go.Proofs Go.RowKit Go.Proofs.Y.Lift
def BR:Τ->Option Τ
 |ń c=>Â c
 |.seq a b=>match BR b with
  |some c=>Â c
  |none=>BR a
 |.block _ c=>BR c
 |.scope c=>BR c
 |.cond _ a b=>match BR b with
  |some c=>Â c
  |none=>BR a
 |_=>Á
noncomputable def LG:Τ:=(ah.body.bind km).getD ai
noncomputable def LH:Τ:=(ah.body.bind BR).getD ai
def QE(k:Nat)(X:Ĉ->Í->Prop):Exit->Ĉ->Í->Prop
 |.exit i,a,w=>i=k/\X a w
 |_,_,_=>False
def oY(a:ByteArray)(b:List ByteArray):List UInt8:=b.flatMap λy=>a.data.toList++y.data.toList
def anR(a:ByteArray):List ByteArray->List UInt8
 |[]=>[]
 |x::r=>x.data.toList++oY a r
def iB(xs:List ByteArray):Nat:=(xs.map ŭ).sum
def S2(a b:List ByteArray):iB (a++b)=iB a+iB b:=by simp[iB]
def N_(a:List ByteArray)(j:Nat):iB (a.take j)<=iB a:=by have h:=S2 (a.take j)<|a.drop j;simp_all
theorem HG(a:ByteArray)(c:a.size=1):∀b:List ByteArray,(oY a b).length=iB b+b.length
 |[]=>rfl
 |x::r=>by
  have e:oY a (x::r)=(a.data.toList++x.data.toList)++oY a r:=U;have d:a.data.toList.length=1:=by simpa using c
  have f:x.data.toList.length=x.size:=fp
  have g:iB (x::r)=x.size+iB r:=by simp[iB]
  rw[e,Ù,Ù,HG a c r,d,f,g,Đ];omega
def Ei(a:Option ù)(n b:Nat)(c:ByteArray)(m i:Int)(u:Nat->Ñ):Ĉ:=⟨#[Æ a n b,Ä c,u 2,u 3,u 4,Å É m,u 6,u 7,u 8,u 9,u 10,u 11,u 12,u 13,u 14,u 15,u 16,u 17,u 18,u 19,u 20,u 21,u 22,u 23,u 24,u 25,u 26,u 27,u 28,u 29,u 30,u 31,u 32,u 33,u 34,u 35,u 36,u 37,u 38,Æ a n b,Å É n,Å É i,u 42,u 43,u 44,u 45,u 46,u 47,u 48,u 49,u 50,u 51,u 52,u 53,u 54,u 55,u 56,u 57,u 58,u 59,u 60,u 61,u 62,u 63,u 64,u 65,u 66,u 67,u 68,u 69,u 70,u 71,u 72,u 73,u 74],[]⟩
def Ej(b:Option ù)(n c:Nat)(d:ByteArray)(m i:Int)(a:Ĉ):Prop:=∃u,a=Ei b n c d m i u
def qc(a:Option ù)(n c b:Nat)(d:ByteArray)(i:Int)(u:Nat->Ñ):Ĉ:=⟨#[u 0,Ä d,u 2,u 3,u 4,u 5,u 6,u 7,Ã<|Â ⟨b,0,Á⟩,u 9,u 10,u 11,u 12,u 13,u 14,u 15,u 16,u 17,u 18,u 19,u 20,u 21,u 22,u 23,u 24,u 25,u 26,u 27,u 28,u 29,u 30,u 31,u 32,u 33,u 34,u 35,u 36,u 37,u 38,u 39,u 40,u 41,u 42,u 43,u 44,u 45,u 46,u 47,u 48,u 49,u 50,u 51,u 52,u 53,u 54,u 55,u 56,u 57,u 58,u 59,u 60,u 61,u 62,Æ a n c,Å É n,Å É i,u 66,u 67,u 68,u 69,u 70,u 71,u 72,u 73,u 74],[]⟩
def Ek(c:Option ù)(n d b:Nat)(e:ByteArray)(i:Int)(a:Ĉ):Prop:=∃u,a=qc c n d b e i u
section
variable{X:Ĉ->Í->Prop}{sep:ByteArray}{xs:List ByteArray}
def anS(u:Nat->Ñ)(m:Int)(b:∀a,Ej O n i sep m n a->X a w): à À LG (Exit.then K<|QE 1 X) (Ei O n i sep m n u) w:=by
 unfold Ei;conv=>arg 2;whnf
 go_wp2_with fail
 exact⟨U,b _ (gl _)⟩
def anT(u:Nat->Ñ)(m j:Nat)(f:j<n)(g:n<=1000000)(b c:Nat)(e:O=Â ⟨b,c,Á⟩)(x:ByteArray)(h:w.cell? ⟨b,c+j,Á⟩=Â (Ä x))(k:m+x.size<=140737488355328) (d:∀a,Ej O n i sep ((m+x.size:Nat):Int) ((j+1:Nat):Int) a->K a w): à À LG (Exit.then K<|QE 1 X) (Ei O n i sep m j u) w:=by
 unfold Ei;conv=>arg 2;whnf
 subst e;have H:=ff d;clear d;go_wp2_with fail;exact H.out _ (gl _)
def J1(O:Option ù)(n i:Nat)(sep:ByteArray)(b:Nat)(xs:List ByteArray)(u:Í)(a:Ĉ)(w:Í):Prop:=
 ∃j:Nat,Ej O n i sep ((b+iB (xs.take j):Nat):Int) j a/\j<=n/\w=u
def N'(O:Option ù)(n i:Nat)(sep:ByteArray)(b:Nat)(xs:List ByteArray)(u:Í)(a:Ĉ)(w:Í):Prop:=
 Ej O n i sep ((b+iB xs:Nat):Int) n a/\w=u
def LJ(n:Nat)(a:Ĉ)(_:Í):Nat:=match a.tmps.getD 41 ĸ with
 |Å _ i=>n-i.toNat
 |_=>0
def O_(b:Ej O n i sep h j y):LJ n y w=n-j:=by obtain⟨u,rfl⟩:=b;show n-(j:Int).toNat=_;simp
theorem anU(r:n=xs.length)(f:n<=1000000)(g:nn O (kz xs) u)(s:j+iB xs<=140737488355328)(a:Ĉ)(w:Í)(h:J1 O n i sep j xs u a w): à À LG (Exit.then (λb c=>J1 O n i sep j xs u b c/\LJ n b c<LJ n a w)<|QE 1<|N' O n i sep j xs u) a w:=by
 obtain⟨b,d,t,rfl⟩:=h;rw[O_ d];obtain⟨c,rfl⟩:=d;by_cases k:b=n
 .subst k;refine anS c _ λa q=>⟨?_,U⟩;grind
 .obtain⟨x,e⟩:∃x,xs[b]?=Â x:=⟨_,Ó Z⟩;let⟨l,m,o,p⟩:=g b (Ä x) (by simp[kz,e]);have v:iB (xs.take<|b+1)=iB (xs.take b)+x.size:=by
   rw[Ī,e,S2];simp[iB]
  have y:=N_ xs<|b+1;refine anT c _ b Z f l m o x p Z λa q=>⟨⟨b+1,?_,Z,U⟩,by rw[O_ q];omega⟩;grind
def anV(u:Nat->Ñ)(c:∀a,Ek O n i b sep n a->X a w): à À LH (Exit.then K<|QE 3 X) (qc O n i b sep n u) w:=by
 unfold qc;conv=>arg 2;whnf
 go_wp2_with fail
 exact⟨U,c _ (gl _)⟩
def anW(c:Nat->Ñ)(j:Nat)(y:j<n)(z:n<=1000000)(d f:Nat)(o:O=Â ⟨d,f,Á⟩)(x:ByteArray)(p:u.cell? ⟨d,f+j,Á⟩=Â (Ä x))(l:List UInt8)(g:oB u b (Ö l) w)(q:sep.size=1)(B:l.length+1+x.size<=140737488355328) (r:∀a h,Ek O n i b sep ((j+1:Nat):Int) a->oB u b (Ö<|l++(sep.data.toList++x.data.toList)) h->K a h): à À LH (Exit.then K<|QE 3 X) (qc O n i b sep j c) w:=by
 unfold qc;conv=>arg 2;whnf
 subst o;have C:=g.r.r p id;have k:=Lib.byteCells_length l;have s:(Ö l++į sep).length=l.length+1:=by rw[Ù,k,Lib.strCells_length,q]
 have E:Ö l++į sep++į x=Ö (l++(sep.data.toList++x.data.toList)):=by simp[Ö,į]
 have H:=ff<|Ê g<|Ê r<|Ê k<|Ê s E;go_wp2_with (first
  |(go_at_call 55;refine(S0 t.out x<|by rw[H.out.2.2.2.1];omega).mono ?_;rintro e D ⟨rfl,m⟩;have v:=ff m;clear m)
  |(go_at_call 55;refine(S0 H.out.1 sep (by rw[H.out.2.2.1];omega)).mono ?_;rintro e D ⟨rfl,m⟩;have t:=ff m;clear m))
 apply H.out.2.1 _ _ (gl _);rw[<-H.out.2.2.2.2];exact v.out
def J2(O:Option ù)(n i b:Nat)(sep:ByteArray)(c:List UInt8)(xs:List ByteArray)(u:Í)(a:Ĉ)(w:Í):Prop:=
 ∃j:Nat,Ek O n i b sep j a/\j<=n/\oB u b (Ö<|c++oY sep (xs.take j)) w
def P_(O:Option ù)(n i b:Nat)(sep:ByteArray)(c:List UInt8)(xs:List ByteArray)(u:Í)(a:Ĉ)(w:Í):Prop:=
 Ek O n i b sep n a/\oB u b (Ö<|c++oY sep xs) w
def LK(n:Nat)(a:Ĉ)(_:Í):Nat:=match a.tmps.getD 65 ĸ with
 |Å _ i=>n-i.toNat
 |_=>0
def P'(c:Ek O n i b sep j y):LK n y w=n-j:=by obtain⟨u,rfl⟩:=c;show n-(j:Int).toNat=_;simp
theorem anX{d:List UInt8}(z:n=xs.length)(h:n<=1000000)(k:sep.size=1)(l:nn O (kz xs) u)(B:d.length+iB xs+n<=140737488355328)(a:Ĉ)(w:Í)(m:J2 O n i b sep d xs u a w): à À LH (Exit.then (λc e=>J2 O n i b sep d xs u c e/\LK n c e<LK n a w)<|QE 3<|P_ O n i b sep d xs u) a w:=by
 let⟨j,g,C,o⟩:=m;rw[P' g];obtain⟨c,rfl⟩:=g;by_cases p:j=n
 .subst p;refine anV c λa q=>⟨q,?_⟩;grind
 .obtain⟨x,f⟩:∃x,xs[j]?=Â x:=⟨_,Ó Z⟩;let⟨r,s,t,v⟩:=l j (Ä x) (by simp[kz,f]);have D:iB (xs.take<|j+1)=iB (xs.take j)+x.size:=by
   rw[Ī,f,S2];simp[iB]
  have E:=N_ xs<|j+1;have y:(d++oY sep (xs.take j)).length=d.length+iB (xs.take j)+j:=by grind [Ù,HG,Ś]
  have F:oY sep (xs.take<|j+1)=oY sep (xs.take j)++(sep.data.toList++x.data.toList):=by rw[Ī,f];simp[oY]
  refine anW c j Z h r s t x v _ o k (by rw[y];omega) λa e q G=>⟨⟨j+1,q,Z,?_⟩,by rw[P' q];omega⟩;grind
end
section
variable{sep:ByteArray}{xs:List ByteArray}
def lN(sep:ByteArray)(xs:List ByteArray):ByteArray:=⟨(anR sep xs).toArray⟩
def anY:Ò À 38 #[Æ O 0 i,Ä sep] w λe a=>e=Ç (Ä ⟨#[]⟩)/\fc fg w a:=by go_enter ĕ,Ŏ;go_wp2_with fail;go_ret;exact⟨U,fc.fT _ _⟩
def anZ(a b:Nat)(x:ByteArray)(d:w.cell? ⟨a,b,Á⟩=Â (Ä x)):Ò À 38 #[Æ (Â ⟨a,b,Á⟩) 1 i,Ä sep] w λe c=>e=Ç (Ä x)/\fc fg w c:=by go_enter ĕ,Ŏ;go_wp2_with fail;go_ret;exact⟨U,fc.fT _ _⟩
theorem an0(k:Nat)(K:1<=k)(L:k<1000000)(c d:Nat)(M:k+1<=i)(B:sep.size=1)(x:ByteArray)(g:k=xs.length)(f:nn (Â ⟨c,d,Á⟩) (kz<|x::xs) w)(C:iB (x::xs)+(k+1)<=140737488355328): Ò À 38 #[Æ (Â ⟨c,d,Á⟩) (k+1) i,Ä sep] w λe b=>e=Ç (Ä<|lN sep<|x::xs)/\fc fg w b:=by
 have D:iB (x::xs)=x.size+iB xs:=by simp[iB]
 have m:∀a,Ej (Â ⟨c,d,Á⟩) (k+1) i sep ((k+iB ((x::xs).take 0):Nat):Int) (0:Nat) a->à À (ń LG) (QE 1<|N' (Â ⟨c,d,Á⟩) (k+1) i sep k (x::xs) w) a w:=λa h=>
  Γ (J1 (Â ⟨c,d,Á⟩) (k+1) i sep k (x::xs) w) (LJ<|k+1) ⟨0,h,Ø _,U⟩<|anU (by simp[g]) Z f Z
 have n:nn (Â ⟨c,d+1,Á⟩) (kz xs) w:=λj u E=>by let⟨b,o,z,l⟩:=f (j+1) u (by simpa[kz]using E);grind
 have p:∀a W,Ek (Â ⟨c,d+1,Á⟩) k (i-1) w.heap.size sep (0:Nat) a->oB w w.heap.size (Ö<|x.data.toList++oY sep (xs.take 0)) W->à À (ń LH) (QE 3<|P_ (Â ⟨c,d+1,Á⟩) k (i-1) w.heap.size sep x.data.toList xs w) a W:=λa W h o=>
  Γ (J2 (Â ⟨c,d+1,Á⟩) k (i-1) w.heap.size sep x.data.toList xs w) (LK k) ⟨0,h,Ø _,o⟩<|anX g Z B n (by simp only[ĝ];have:x.data.size=x.size:=rfl;omega)
 let⟨_,_,F,q⟩:=f 0 (Ä x) U;cases F;have r:w.cell? ⟨c,d,Á⟩=Â (Ä x):=q;have s:x.data.toList++oY sep xs≠[]:=by grind [Ù,HG,ũ]
 have N:(1:Int)<9223372036854775807/(k:Int):=by rw[Int.lt_iff_add_one_le,Int.le_ediv_iff_mul_le Z];omega
 have t:0<k+iB (x::xs)/\k+iB (x::xs)<=281474976710656:=Z
 have y:(Ö []).length+x.size<=140737488355328:=by simp[Ö];omega
 have H:=ff<|Ê m<|Ê p<|Ê t<|Ê y<|Ê s r;clear m p t y s q r f n g C D;generalize G:iB (x::xs)=S at*;go_enter ĕ,Ŏ;go_wp2_with fail;refine İ ?_ (H.out.1 _ (gl _));rintro(_|_|_|_|_|_) a v hq;all_goals first|exact absurd hq id|skip
 obtain⟨rfl,b,rfl⟩:=hq;rw[G]at b;obtain⟨u,rfl⟩:=b;unfold Ei;go_wp2_with (first
  |(go_at_call 54;refine(anP ⟨æ _,fc.gI _ _ _ _,fi.N v [Ã Á,Æ Á 0 0] 109⟩ (k+S) H.out.2.2.1.1 H.out.2.2.1.2).mono ?_;rintro e I ⟨rfl,l⟩;have J:=l.r.r H.out.2.2.2.2.2 id;have z:=ff l;clear l)
  |(go_at_call 55;refine(S0 z.out x H.out.2.2.2.1).mono ?_;rintro e l ⟨rfl,z⟩;have I:=ff z;clear z))
 have J:oB v v.heap.size (Ö<|x.data.toList++oY sep (xs.take 0)) l:=by have:=I.out;show oB v v.heap.size (Ö<|x.data.toList++[]) l;rw[Ę];exact this
 refine İ ?_ (H.out.2.1 _ _ (gl _) J);rintro(_|_|_|_|_|_) a w3 hq;all_goals first|exact absurd hq id|skip
 obtain⟨rfl,b,o⟩:=hq;obtain⟨v,rfl⟩:=b;unfold qc;go_wp2_with (go_at_call 56;refine(anQ (ff o).out H.out.2.2.2.2.1).mono ?_;rintro e O ⟨rfl,z⟩;have I:=ff z;clear z);go_ret;exact⟨U,I.out⟩
def S3(a:n=xs.length)(f:n<=1000000)(g:n<=i)(h:sep.size=1)(b:nn O (kz xs) w)(j:iB xs+n<=140737488355328): Ò À 38 #[Æ O n i,Ä sep] w λe c=>e=Ç (Ä<|lN sep xs)/\fc fg w c:=by
 cases xs with
 |nil=>subst a;exact anY
 |cons x r=>
  let⟨c,d,k,l⟩:=b 0 (Ä x) U;subst k;cases r with
  |nil=>
   subst a;have e:lN sep [x]=x:=by show aA ((x.data.toList++[]).toArray)=x;rw[Ę]
   rw[e];exact anZ c d x l
  |cons y r=>
   subst a;exact an0 (r.length+1) Z (by simp at f;omega) c d g h x U b j
def an1(a:n=xs.length)(c:n<=1000000)(d:n<=i)(h:nn O (kz xs) w)(f:iB xs+n<=140737488355328): Ò À 123 #[Æ O n i] w λe b=>e=Ç (Ä<|if xs=[]then⟨#[45]⟩else lN ⟨#[44]⟩ xs)/\fc fg w b:=by
 have H:=ff<|S3 (sep:=⟨#[44]⟩) a c d U h f;by_cases b:xs=[]
 .subst b;have e:=a;subst e;rw[if_pos U];clear a f H c d;go_enter Δ,Ÿ;go_wp2_with fail;go_ret;exact⟨U,fc.fT _ _⟩
 .rw[if_neg b];have k:0<n:=by rw[a];exact Ņ.2 b
  have l:((n:Int)==0)=Ë:=by simp;omega
  clear a;generalize lN ⟨#[44]⟩ xs=z at*;go_enter Δ,Ÿ;go_wp2_with (go_at_call 38;apply H.out.mono;rintro e m ⟨rfl,g⟩;have j:=ff g;clear g);go_ret;exact⟨U,j.out⟩
end
def El{M:Nat}:∀(a:List ByteArray),(∀z∈a,z.size<=M)->iB a<=M*a.length
 |[],_=>Ø _
 |x::r,h=>by
  have c:=El r λz b=>h z<|Ė _ b;have d:=h x fp;have e:iB (x::r)=x.size+iB r:=by simp[iB]
  rw[e,Đ,Nat.mul_add];omega
def LL{e:Nat×Int}(h:gd e.2):(qy e).size<=21:=by unfold qy;rw[ø];have:=xo e.1;have:=oX e.2.toNat (by have:=h.1;have:=h.2;omega);omega
def Q_{e:Int×Bool}(a:0<=e.1)(h:e.1<=400):(Ef e).size<=41:=by unfold Ef;rw[ø,ø];have:=oX e.1.toNat Z;have:=oX e.2.toNat (by cases e.2<;>decide);have:ŭ ⟨#[58]⟩=1:=rfl;omega
section
variable{b:List ByteArray}
def Q'{ty:Ď}{base:Nat}(b:P.underlying t=Â (.slice e))(d:P.info? e=Â zJ)(h:w.ownsRow base e j v n l)(a:Option ù)(c:Nat): (ę #[t,t] ty #[v,Æ a 0 c]).run P w=.ok v w:=by
 have f:(Ō zJ.size 0<|Æ a 0 c).run P w=.ok #[] w:=by cases a<;>simp[Ō,loadCells,loadCellsFrom]
 rcases h.2 with⟨rfl,rfl⟩|⟨g,m,o,rfl,_,_,k,_⟩
 .simp[ę,Ů b,sizeOf,typeInfo,d,Ź,f,ν]
 .simp[ę,Ů b,sizeOf,typeInfo,d,Ź,f,k,ν]
def an2{r:Array ğ}{t:List ğ}(l:o.guard=Á)(s c:Operand) (m:o.op=.call {callee:=.builtin κ,args:=#[s,c],argTypes:=#[25,25]}) (d:ic u v vX w) (n:y.eval s=v) {base:Nat} (B:w.ownsRow base 9 1 x b.length (kz b)) (e:y.eval c=x) (I:vX.length+b.length<=1000000) (h:∀j k,ic u j (vX++b) k->wpList À r vJ t (y.put o.dst j) k):wpList À r vJ (o::t) y w:=by
 let⟨J,p,D,E,F⟩:=ů zi;rcases B.2 with⟨f,G⟩|⟨g,H,L,f,_⟩
 .have z:=Ý G;subst z;rw[f]at e;refine Ε l λK i=> ?_;have q:=Q' (ty:=o.type) Č p d.fq Á 0;unfold Oper.wp ś;simp only[m,ρ,ak,ς,Sem.run_bind,Sem.run_pure,ŏ,Ŝ,ŉ,Ő,n,e,q];exact i _ _<|h v w<|by rwa[Ę]
 .by_cases C:b=[]
  .subst C;rw[f]at e;refine Ε l λK i=> ?_;have q:=Q' (ty:=o.type) Č p d.fq (Â ⟨g,0,Á⟩) H;unfold Oper.wp ś;simp only[m,ρ,ak,ς,Sem.run_bind,Sem.run_pure,ŏ,Ŝ,ŉ,Ő,n,e,q,ũ];exact i _ _<|h v w<|by rwa[Ę]
  .have K:=Ņ.2 C;refine Bu l s c 25 m Č p D E F U n d.fq ⟨g,0,Á⟩ (kz b) (e.trans f) K (by simp[kz]) (B.cells<|by rw[f];rfl) (λi q=>by unfold kz at q;obtain⟨z,_,rfl⟩:=Ú.1 q;rfl) (by unfold đ;omega) Z d.r.M ?_;intro j k z;refine h j k ⟨?_,d.r.C z.r λi M q=> ?_⟩
   .have:=z.fq;rwa[show kz vX++kz b=kz (vX++b) by simp[kz],show vX.length+b.length=(vX++b).length by simp]at this
   .have:=(d.fq.lt i q).1;omega
end
def ic.I(h:ic u (Æ O n i) vX w):nn O (kz vX) w/\n=vX.length/\n<=i:=by
 rcases h.fq.2 with⟨b,d⟩|⟨g,f,k,b,_,_,d,_⟩
 .cases b;refine⟨λj x e=> ?_,d.symm,æ _⟩;rw[Ý d]at e;cases e
 .have e:n=vX.length:=by injection b
  subst e;injection b with _ _ h4;exact⟨nn.r h.fq,U,by rwa[h4]⟩
def LN(r:Bz):ByteArray:=lN ⟨#[44]⟩<|[gA r.C.toNat,gA r.M.toNat,gA r.r.toNat]++r.I.map qy
theorem an3(x y:Nat)(g k:Int)(b c:Nat)(a:Bool)(f:List (Nat×Int))(L:b<18446744073709551616)(M:c<18446744073709551616)(S:f.length<=400000)(V:xl f)(W:lu w) (T:Ò À 158 #[Ã<|Â ⟨i,0,Á⟩,Å É x,Å É y,Å ã g,Å ã k] w λe h=>∃B,e=Ç (ë #[.agg #[Å ã b,õ a,Å ã c],B])/\h.ownsRow 0 257 2 B f.length (j5 f)/\fc fg w h): Ò À 119 #[Ã<|Â ⟨i,0,Á⟩,Å É x,Å É y,Å ã g,Å ã k] w λe h=>e=Ç (Ä<|lN ⟨#[44]⟩<|[gA a.toNat,gA c,gA b]++f.map qy)/\fc fg w h:=by
 have N:a.toNat<18446744073709551616:=by cases a<;>decide
 have H:=ff<|Ê T<|Ê W V;go_enter Tryz.func119,Tryz.ntmps119;go_wp2_with (go_at_call 158;apply H.out.1.mono;rintro e j ⟨B,rfl,q,d⟩;obtain⟨v,Q,rfl⟩:=jo q;have C:=ff<|Ê d q;clear d q);change à À _ _ _ (j.alloc<|Û #[Å ã b,õ a,Å ã c] 252);have D:=(fc.gI fg j #[Å ã b,õ a,Å ã c] 252).fh<|fc.fR _ _;have E:=(H.out.2.1.r C.out.1).r D;have o:=(fi.N j [Å ã b,õ a,Å ã c] 252).I (fc.fR fg _) id;have O:=C.out.1.fh D;have X:=ia C.out.2 D λ_ _=>id;refine lZ (λh=>h.cell? ⟨j.heap.size,0,Á⟩=Â (Å ã b)/\h.cell? ⟨j.heap.size,1,Á⟩=Â (õ a)/\h.cell? ⟨j.heap.size,2,Á⟩=Â (Å ã c)) [] fu ?_;have l:=ff<|Ê (o.r 0 _ rfl)<|Ê (o.r 1 _ rfl)<|o.r 2 _ rfl;generalize j.heap.size=ob at*;generalize ξ (j.alloc<|Û #[Å ã b,õ a,Å ã c] 252)=w5 at*;iterate 3 apply tk l.out
 apply tk l.out 5;apply tk l.out 6;apply tk l.out 8;apply tk l.out 9;apply tk l.out 10;apply gC 3;intro K d;go_simp;go_at_call 159;refine(Ha _ _).mono ?_;rintro e Y ⟨rfl,qn⟩;subst Y;rw[I_];apply d.out _ _ λ_=>l.out;apply gC 4;intro K d;go_simp;go_at_call 118;refine(xm a.toNat N _ E).mono ?_;rintro e wa ⟨rfl,p⟩;have r:=o.I p id;have P:=E.r p;apply d.out _ _ λ_=>⟨r.r 0 _ U,r.r 1 _ U,r.r 2 _ U⟩;apply gC 7;intro K d;go_simp;go_at_call 118;refine(xm c M _ P).mono ?_;rintro e wb ⟨rfl,s⟩;have t:=r.I s id;have Pb:=P.r s;apply d.out _ _ λ_=>⟨t.r 0 _ U,t.r 1 _ U,t.r 2 _ U⟩;apply gC 11;intro K d;go_simp;go_at_call 118;refine(xm b L _ Pb).mono ?_;rintro e m ⟨rfl,F⟩;have u:=t.I F id;have n:=u.I (fc.gI fg m #[Ä<|gA a.toNat,Ä<|gA c,Ä<|gA b] 9) id;apply d.out _ _ λ_=>⟨u.r 0 _ U,u.r 1 _ U,u.r 2 _ U⟩;apply gC 12;intro K d;go_simp;apply d.out _ _ λ_=>⟨n.r 0 _ U,n.r 1 _ U,n.r 2 _ U⟩;apply gC 13;intro K d;go_simp;apply d.out _ _ λ_=>⟨n.r 0 _ U,n.r 1 _ U,n.r 2 _ U⟩;refine lI fu ?_ _;have G:fc fg w5 (m.alloc<|Û #[Ä<|gA a.toNat,Ä<|gA c,Ä<|gA b] 9):=((p.fh s).fh F).fh<|fc.gI _ _ _ _;have T6:ic w (Æ (Â ⟨m.heap.size,0,Á⟩) 3 3) [gA a.toNat,gA c,gA b] (m.alloc<|Û #[Ä<|gA a.toNat,Ä<|gA c,Ä<|gA b] 9):=⟨World.ownsRow_lit m #[Ä<|gA a.toNat,Ä<|gA c,Ä<|gA b] 3 (Ì O.M ((p.fh s).fh F).M) (by unfold đ;omega) U,O.fh G⟩;have L6:=ia X G λ_ _=>id;have P6:=E.r G;have I:=ff<|Ê T6<|Ê L6 P6;generalize m.alloc (Û #[Ä<|gA a.toNat,Ä<|gA c,Ä<|gA b] 9)=w6 at*;generalize m.heap.size=tb at*;have j1:∀z∈[gA a.toNat,gA c,gA b]++f.map qy,z.size<=21:=λz hz=>by
  rcases â.1 hz with q|q
  .have h1:=oX a.toNat N;have h2:=oX c M;have v:=oX b L;grind
  .obtain⟨e,v,rfl⟩:=Ú.1 q;exact LL (H.out.2.2 e v).2
 have rT:=El _ j1;have hlen:([gA a.toNat,gA c,gA b]++f.map qy).length=3+f.length:=by simp;omega
 have J:=ff<|Ê rT hlen;go_wp2_with (first
  |(go_at_call 124;refine(H_ U S H.out.2.2 I.out.2.2<|nn.r I.out.2.1).mono ?_;rintro e v ⟨lt,rfl,q⟩;obtain⟨ta,tc,rfl⟩:=jo q.fq;rw[ú]at q;have Q:=ff q;clear q)
  |(at_builtin;refine an2 U _ _ U (I.out.1.fL Q.out.r) U Q.out.fq U (by simp;omega) ?_;intro cv w8 v;obtain⟨ca,cc,rfl⟩:=jo v.fq;generalize([gA a.toNat,gA c,gA b]++f.map qy).length=cn at v|-;have q:=ff v;clear v)
  |(go_at_call 38;refine(S3 q.out.I.2.1 (by have:=q.out.I.2.1;rw[this,J.out.2];omega) q.out.I.2.2 U q.out.I.1 (by have:=q.out.I.2.1;have h1:=J.out.1;have h2:=J.out.2;omega)).mono ?_;rintro e w9 ⟨rfl,v⟩;have Q:=ff v;clear v))
 go_ret;exact⟨U,q.out.r.fh Q.out⟩
def an4{s:St}(v:mb i s h w)(b:gJ s)(z:iK w)(B:lu w)(x y:Nat)(g k:Int)(c:x<8)(d:y<8)(f:0<=g)(j:g<=100000)(l:gd k): Ò À 119 #[Ã<|Â ⟨i,0,Á⟩,Å É x,Å É y,Å ã g,Å ã k] w λe q=>e=Ç (Ä<|LN<|gi s [] x y g k)/\fc fg w q:=by have T:=E_ v b z x y g k c d f j l _ U;have e:=La s [] x y g k b c d l f j (by simp;omega);have m:=SG s [] x y g k b c d l f j (by simp;omega) (λ_ q=>by cases q);obtain⟨q,o,a,t,p,C⟩:∃q o a t p,gi s [] x y g k=⟨q,o,a,t,p⟩:=⟨_,_,_,_,_,U⟩;rw[C]at T e m|-;have D:=e.C;have E:=e.r;have r:=e.M;have u:=e.I;simp only at D E r u m T;obtain⟨F,rfl⟩:∃n:Nat,q=n:=⟨q.toNat,Z⟩;obtain⟨G,rfl⟩:∃n:Nat,a=n:=⟨a.toNat,by have:=r.1;omega⟩;exact an3 x y g k F G o p Z (by have:=r.2;omega) (by simp at u;omega) m B T
def pV(w:Í):Prop:=w.cell? ⟨4,15,Á⟩=Â (Å ū 4)
def pV.r(h:pV w)(k:fc fg w u):pV u:=k.r h id
def an5(c:pV w):Ò À 207 #[Å ã 16] w λe a=>e=Ç (Å É 4)/\a=w:=by
 unfold pV at c;have b:ã.wrap (bits BinOp.and ã 16 (ã.wrap<|-16)*285870213051353865)/288230376151711744=15:=A
 go_enter Tryz.func207,Tryz.ntmps207;go_wp2;go_ret;exact⟨U,U⟩
def tz(c:pV w):Ò À 201 #[Å ã 16] w λe a=>e=Ç (Å É 4)/\a=w:=by go_enter Tryz.func201,Tryz.ntmps201;go_wp2_with (go_at_call 207;refine(an5 c).mono ?_;rintro e a ⟨rfl,b⟩;subst a);go_ret;exact⟨U,U⟩
def an6:Ò À 200 #[Å É 16] w λe a=>e=Ç (õ Î)/\a=w:=by
 have b:bits BinOp.and É 16 15=0:=A
 go_enter Tryz.func200,Tryz.ntmps200;go_wp2;go_ret;simp_all
def oZ(d:Nat):UInt8:=if h:d<36 then(⟨#[48,49,50,51,52,53,54,55,56,57,97,98,99,100,101,102,103,104,105,106,107,108,109,110,111,112,113,114,115,116,117,118,119,120,121,122]⟩:ByteArray)[d]'h else 0
def uk:Nat->Nat->List UInt8->List UInt8
 |0,_,acc=>acc
 |k+1,n,acc=>if n<16 then oZ n::acc else uk k (n/16) (oZ (n%16)::acc)
def R_:∀k n a,(uk k n a).length<=k+a.length
 |0,_,a=>by simp[uk]
 |k+1,n,a=>by
  unfold uk;split
  .simp;omega
  .have:=R_ k (n/16)<|oZ (n%16)::a;simp at this;omega
noncomputable def LO:Τ:=(Tryz.f190.body.bind km).getD ai
def Em(a:Nat)(n i:Int)(u:Nat->Ñ):Ĉ:=⟨#[u 0,Å ã n,Å É 16,õ Ë,õ Ë,u 5,u 6,u 7,u 8,u 9,Æ Á 0 0,u 11,Ã<|Â ⟨a,0,Á⟩,Å É i,Å ã 4,Å ã 16,Å ã 15,u 17,u 18,u 19,u 20,u 21,u 22,u 23,u 24,u 25,u 26,u 27,u 28,u 29,u 30,u 31,u 32,u 33,u 34,u 35,u 36,u 37,u 38,u 39,u 40,u 41,u 42,u 43,u 44,u 45,u 46,u 47,u 48,u 49,u 50,u 51,u 52,u 53,u 54,u 55,u 56,u 57,u 58,u 59,u 60,u 61,u 62,u 63,u 64,u 65,u 66,u 67,u 68,u 69,u 70,u 71,u 72,u 73,u 74,u 75,u 76,u 77,u 78,u 79,u 80,u 81,u 82,u 83,u 84,u 85,u 86,u 87,u 88,u 89,u 90,u 91,u 92,u 93,u 94,u 95,u 96,u 97,u 98,u 99,u 100,u 101],[]⟩
def En(b:Nat)(n i:Int)(a:Ĉ):Prop:=∃u,a=Em b n i u
def zc(i:Nat)(a:List UInt8):List Ñ:=ą i (Å ū 0)++Ö a
def R'(i:Nat)(a:List UInt8):(zc i a).length=i+a.length:=by simp[zc,Ö]
theorem S_(i:Nat)(a:List UInt8)(c:UInt8):(zc (i+1) a).set i (Å ū c.toNat)=zc i (c::a):=by unfold zc;rw[List.replicate_succ',ő,Ĵ _ _ fp];simp[Ö]
section
variable{X:Ĉ->Í->Prop}
def an7(u:Nat->Ñ)(n b:Nat)(d:n<16)(c:∀a,En i n b a->X a w): à À LO (Exit.then K<|QE 0 X) (Em i n b u) w:=by
 unfold Em;conv=>arg 2;whnf
 go_wp2_with fail
 exact⟨U,c _ (gl _)⟩
def an8(u:Nat->Ñ)(n b:Nat)(g:16<=n)(h:n<18446744073709551616)(j:b<65)(v:Ñ)(c:w.cell? ⟨i,b,Á⟩=Â v)(k:w.frozen? ⟨i,b,Á⟩=Ë) (e:∀a,En i ((n/16:Nat):Int) b a->K a (w.setCell ⟨i,b,Á⟩<|Å ū (oZ<|n%16).toNat)): à À LO (Exit.then K<|QE 0 X) (Em i n ((b+1:Nat):Int) u) w:=by
 unfold Em;conv=>arg 2;whnf
 have l:bits BinOp.and ã (n:Int) 15=((n%16:Nat):Int):=by have:=(bits_nat ã 64 A (λn f H=>by rw[Ć];omega) n 15 Z A).1;rwa[show(15:Nat)=2^4-1 from rfl,Nat.and_two_pow_sub_one_eq_mod]at this
 have f:n%16<36:=Z
 have m:(⟨#[48,49,50,51,52,53,54,55,56,57,97,98,99,100,101,102,103,104,105,106,107,108,109,110,111,112,113,114,115,116,117,118,119,120,121,122]⟩:ByteArray)[n%16]'f=oZ (n%16):=by unfold oZ;rw[dif_pos f]
 have H:=ff e;clear e;generalize o:n%16=d at*;go_wp2_with fail;exact H.out _ (gl _)
def XI(i:Nat)(u:Í)(d:List UInt8)(a:Ĉ)(w:Í):Prop:=
 ∃(n b:Nat) (c:List UInt8),En i n b a/\50<=b/\b+c.length=65/\n<16^(b-49)/\n<18446744073709551616/\fc (λk=>k=i) u w/\fi i (zc b c) 292 w/\uk (b-49) n c=d
def XE(i:Nat)(u:Í)(d:List UInt8)(a:Ĉ)(w:Í):Prop:=
 ∃(n b:Nat) (c:List UInt8),En i n b a/\n<16/\50<=b/\b+c.length=65/\fc (λk=>k=i) u w/\fi i (zc b c) 292 w/\oZ n::c=d
def LP(a:Ĉ)(_:Í):Nat:=match a.tmps.getD 1 ĸ with
 |Å _ i=>i.toNat
 |_=>0
def S'(b:En i n j y):LP y w=n:=by obtain⟨u,rfl⟩:=b;show(n:Int).toNat=_;simp
theorem an9{h:List UInt8}(a:Ĉ)(w:Í)(o:XI i u h a w): à À LO (Exit.then (λb c=>XI i u h b c/\LP b c<LP a w)<|QE 0<|XE i u h) a w:=by
 let⟨n,b,f,l,p,r,s,t,m,e,d⟩:=o;rw[S' l];obtain⟨c,rfl⟩:=l;obtain⟨j,rfl⟩:∃j,b=j+1:=⟨b-1,Z⟩;have x:j+1-49=(j-49)+1:=Z
 rw[x]at d s;unfold uk at d;by_cases g:n<16
 .rw[if_pos g]at d;exact an7 c n (j+1) g λa q=>⟨n,j+1,f,q,g,p,r,m,e,d⟩
 .rw[if_neg g]at d;have y:50<=j:=by
   grind
  have C:(zc (j+1) f).length=65:=by rw[R'];omega
  obtain⟨v,z⟩:∃v,(zc (j+1) f)[j]?=Â v:=⟨_,Ó Z⟩;have B:n/16<16^(j-49):=by grind
  refine an8 c n j Z t Z v (e.r j v z) (e.C j) λa q=>⟨⟨n/16,j,oZ (n%16)::f,q,y,by simp;omega,B,Z,m.fh (fc.I (X:=λk=>k=i) U _<|Ï e.G),?_,d⟩,by rw[S' q];omega⟩;have:=e.gf j<|Å ū (oZ<|n%16).toNat;grind [S_]
end
def aoa:û=(zc 65 []).toArray:=fu
def mN(n:Nat):ByteArray:=⟨(uk 16 n []).toArray⟩
theorem aob(n:Nat)(l:n<18446744073709551616)(o:pV w):Ò À 190 #[Æ Á 0 0,Å ã n,Å É 16,õ Ë,õ Ë] w λe p=>e=Ç (ë #[Æ Á 0 0,Ä<|mN n])/\fc fg w p:=by
 have L:∀a,En w.heap.size n (65:Nat) a->à À (ń LO) (QE 0<|XE w.heap.size (w.alloc<|Û û 292)<|uk 16 n []) a (w.alloc<|Û û 292):=λa r=>
  Γ (XI w.heap.size (w.alloc<|Û û 292)<|uk 16 n []) LP ⟨n,65,[],r,Z,U,by show n<16^16;omega,l,fc.fT _ _,by rw[aoa];exact fi.N w (zc 65 []) 292,U⟩ an9
 have H:=ff<|Ê o L;unfold mN;generalize uk 16 n []=res at*;go_enter Tryz.func190,Tryz.ntmps190;go_wp2_with (first
  |(go_at_call 200;refine an6.mono ?_;rintro e b ⟨rfl,c⟩;subst b)
  |(go_at_call 201;refine(tz (H.out.1.r kp)).mono ?_;rintro e b ⟨rfl,c⟩;subst b))
 refine İ (Q:=QE 0<|XE w.heap.size (w.alloc<|Û û 292) res) ?_ (H.out.2 _ (gl _));rintro(_|_|_|_|_|_) a v hq;all_goals first|exact absurd hq id|skip
 obtain⟨rfl,m,i,c,s,E,F,G,x,b,d⟩:=hq;obtain⟨u,rfl⟩:=s;unfold Em;obtain⟨j,rfl⟩:∃j,i=j+1:=⟨i-1,Z⟩;have I:(zc (j+1) c).length=65:=by rw[R'];omega
 obtain⟨z,y⟩:∃z,(zc (j+1) c)[j]?=Â z:=⟨_,Ó Z⟩;have J:=b.r j z y;have K:=b.C j;have M:(0:Int)<=(j:Int):=Z
 have N:(j:Int)<65:=Z
 have O:(j:Int)<=65:=Z
 have S:(0:Int)<=(m:Int):=Z
 have T:(m:Int)<36:=Z
 have f:m<36:=Z
 have V:(⟨#[48,49,50,51,52,53,54,55,56,57,97,98,99,100,101,102,103,104,105,106,107,108,109,110,111,112,113,114,115,116,117,118,119,120,121,122]⟩:ByteArray)[m]'f=oZ m:=by unfold oZ;rw[dif_pos f]
 have B:=(fc.gI fg w û 292).C x λi C q=>by omega
 have g:=b.gf j<|Å ū (oZ m).toNat;rw[S_,d]at g;have D:fc fg w (v.setCell ⟨w.heap.size,j,Á⟩<|Å ū (oZ m).toNat):=B.C (fc.I (X:=λk=>k=w.heap.size) U _<|Ï b.G) λi C q=>by omega
 have W:res.length=65-j:=by rw[<-d];simp;omega
 have Y:(convert 107 9<|Æ (Â ⟨w.heap.size,j,Á⟩) (65-j)<|65-j).run À (v.setCell ⟨w.heap.size,j,Á⟩<|Å ū (oZ m).toNat)=.ok (Ä ⟨res.toArray⟩) (v.setCell ⟨w.heap.size,j,Á⟩<|Å ū (oZ m).toNat):=by have h:=run_convert_bytes_back (P:=À) (v.setCell ⟨w.heap.size,j,Á⟩<|Å ū (oZ m).toNat) 107 9 5 ⟨w.heap.size,j,Á⟩ (65-j) res fu fu fu (λt k=>by rw[Addr.add_mid];apply g.r (j+t) _;unfold zc;rw[ġ fp];simp[Ö,Ó k]);grind
 have k:=ff D;go_wp2;go_ret2;simp_all
def aoc(n:Nat)(b:n<18446744073709551616)(c:pV w):Ò À 172 #[Å ã n,Å É 16] w λe a=>e=Ç (Ä<|mN n)/\fc fg w a:=by go_enter Tryz.func172,Tryz.ntmps172;go_wp2_with (go_at_call 190;refine(aob n b c).mono ?_;rintro e a ⟨rfl,d⟩);go_ret;exact⟨U,d⟩
def aod(n:Nat)(b:n<18446744073709551616)(c:pV w):Ò À 157 #[Å ã n,Å É 16] w λe a=>e=Ç (Ä<|mN n)/\fc fg w a:=by go_enter Tryz.func157,Tryz.ntmps157;go_wp2_with (go_at_call 172;refine(aoc n b c).mono ?_;rintro e a ⟨rfl,d⟩);go_ret;exact⟨U,d⟩
def aoe(s:ByteArray)(w:Í)(h:s.data.toList.head?=Â 48):Ò À 175 #[Ä s,Ä ⟨#[48]⟩] w λe b=>e=Ç (õ Î)/\b=w:=by
 have H:=Tryz.strings_HasPrefix s ⟨#[48]⟩ w;have e:ź s.data.toList (Ű ⟨#[48]⟩).toList=Î:=by
  generalize s.data.toList=l at h;cases l with
  |nil=>cases h
  |cons a r=>cases h;rfl
 rwa[e]at H
def aof(s:ByteArray)(w:Í)(h:¬s.data.toList.head?=Â 48):Ò À 175 #[Ä s,Ä ⟨#[48]⟩] w λe b=>e=Ç (õ Ë)/\b=w:=by
 have H:=Tryz.strings_HasPrefix s ⟨#[48]⟩ w;have e:ź s.data.toList (Ű ⟨#[48]⟩).toList=Ë:=by
  generalize s.data.toList=l at h;cases l with
  |nil=>rfl
  |cons a r=>
   have c:¬a=48:=λq=>h (by rw[q];rfl);show((48:UInt8)==a&&List.isPrefixOf [] r)=Ë;have:((48:UInt8)==a)=Ë:=beq_eq_false_iff_ne.2 λq=>c q.symm;rw[this];rfl
 rwa[e]at H
def xq(k:Nat):ByteArray:=σ ⟨#[48,48,48,48,48,48,48,48,48,48,48,48,48,48,48,48,48,48,48,48,48,48,48,48,48,48,48,48,48,48,48,48,48,48,48,48,48,48,48,48,48,48,48,48,48,48,48,48,48,48,48,48,48,48,48,48,48,48,48,48,48,48,48,48]⟩ 0 k
def aog(k:Nat)(d:2<=k)(f:k<=64):Ò À 160 #[Ä ⟨#[48]⟩,Å É k] w λe a=>e=Ç (Ä<|xq k)/\a=w:=by
 have g:((k:Int)==0)=Ë:=by simp;omega
 have h:((k:Int)==1)=Ë:=by simp;omega
 have i:¬(k:Int)<0:=Z
 have j:(0:Int)<=(k:Int):=Z
 have l:(k:Int)<=64:=Z
 have m:ã.wrap (k:Int)=(k:Int):=by rw[Ć];omega
 have n:É.wrap (k:Int)=(k:Int):=by rw[ŝ];omega
 have M:=Tryz.bits_Mul 1 k A Z w;rw[show 1*k/18446744073709551616=0 by omega,show 1*k%18446744073709551616=k by omega]at M;have c:=ff M;go_enter Œ,Ŋ;go_wp2_with (first
  |(go_at_call 174;refine c.out.mono ?_;rintro e a ⟨rfl,b⟩;subst a)
  |(go_at_call 175;refine(aof _ _ A).mono ?_;rintro e a ⟨rfl,b⟩;subst a)
  |(go_at_call 175;refine(aoe _ _ A).mono ?_;rintro e a ⟨rfl,b⟩;subst a))
 go_ret;exact⟨U,U⟩
def aoh:Ò À 160 #[Ä ⟨#[48]⟩,Å É 0] w λe a=>e=Ç (Ä ⟨#[]⟩)/\a=w:=by go_enter Œ,Ŋ;go_wp2;go_ret;exact⟨U,U⟩
def aoi:Ò À 160 #[Ä ⟨#[48]⟩,Å É 1] w λe a=>e=Ç (Ä ⟨#[48]⟩)/\a=w:=by go_enter Œ,Ŋ;go_wp2;go_ret;exact⟨U,U⟩
def aoj(k:Nat)(a:k<=64):Ò À 160 #[Ä ⟨#[48]⟩,Å É k] w λe b=>e=Ç (Ä<|xq k)/\b=w:=by
 match k with
 |0=>exact aoh
 |1=>exact aoi
 |k+2=>exact aog (k+2) Z a
def Eo(n:Nat):ByteArray:=xq (16-(mN n).size)++mN n
def S4(n:Nat):(mN n).size<=16:=by show(uk 16 n []).toArray.size<=16;have:=R_ 16 n [];simpa using this
def T_(k:Nat):(xq k).size<=k:=by unfold xq;rw[č];omega
def aok(n:Nat)(c:n<18446744073709551616)(d:pV w):Ò À 121 #[Å ã n] w λe a=>e=Ç (Ä<|Eo n)/\fc fg w a:=by
 have g:=S4 n;have h:=T_<|16-(mN n).size;have T:=aod n c d;have R:∀W:Í,Ò À 160 #[Ä ⟨#[48]⟩,Å É ((16-(mN n).size:Nat):Int)] W λe a=>e=Ç (Ä<|xq<|16-(mN n).size)/\a=W:=λW=>aoj _ Z;have i:É.wrap ((16:Int)-((mN n).size:Int))=((16-(mN n).size:Nat):Int):=by rw[ŝ];omega
 have j:(16:Int)-((mN n).size:Int)=((16-(mN n).size:Nat):Int):=Z
 have l:¬9223372036854775807<(xq<|16-(mN n).size).size+(mN n).size:=Z
 unfold Eo;have H:=ff<|Ê T R;generalize m:xq (16-(mN n).size)=zs at*;generalize o:16-(mN n).size=k at*;generalize mN n=fs at*;go_enter Tryz.func121,Tryz.ntmps121;go_wp2_with (first
  |(go_at_call 157;refine H.out.1.mono ?_;rintro e p ⟨rfl,b⟩;have f:=ff b;clear b)
  |(go_at_call 160;refine(H.out.2 _).mono ?_;rintro e b ⟨rfl,p⟩;subst b))
 go_ret;exact⟨U,f.out⟩
structure o0(r:Nat)(x y g k:Nat)(kind v v2:Int)(slot:Nat)(w:Í):Prop where
 I:w.cell? ⟨r,0,Á⟩=Â (Å É x)
 S:w.cell? ⟨r,1,Á⟩=Â (Å É y)
 a:w.cell? ⟨r,2,Á⟩=Â (Å É g)
 Y:w.cell? ⟨r,3,Á⟩=Â (Å É k)
 N:w.cell? ⟨r,4,Á⟩=Â (Å É kind)
 M:w.cell? ⟨r,5,Á⟩=Â (Å É v)
 c:w.cell? ⟨r,6,Á⟩=Â (Å É v2)
 b:w.cell? ⟨r,7,Á⟩=Â (Å É slot)
def ic.N(h:ic u v vX W)(k:fc fg w u):ic w v vX W:=by
 refine⟨⟨h.fq.1,?_⟩,k.fh h.r⟩;rcases h.fq.2 with q|⟨g,a,b,c,d,q⟩
 .exact È q
 .exact Ï ⟨g,a,b,c,Ì k.M d,q⟩
section
variable{cp r x y g slot:Nat}{v v2:Int}
def o0.C{w:Í}(h:o0 r x y g k c v v2 slot w)(q:fc fg w u):o0 r x y g k c v v2 slot u:= ⟨q.r h.I id,q.r h.S id,q.r h.a id,q.r h.Y id,q.r h.N id,q.r h.M id,q.r h.c id,q.r h.b id⟩
def aol(F:Ò À 113 #[Æ O n cp,Å É v] w λe b=>e=Ç (jN<|Â i)/\fc fg w b)(h:o0 r x y g k 2 v v2 slot w)(p:x<8)(q:slot<16)(z:Nat)(j:w.cell? ⟨i,x*18+2+slot,Á⟩=Â (Å ã z)) (C:∀W,fc fg w W->Ò À 118 #[Å ã z] W λe b=>e=Ç (Ä B)/\fc fg W b): Ò À 67 #[Æ O n cp,Ã<|Â ⟨r,0,Á⟩] w λe b=>e=Ç (Ä B)/\fc fg w b:=by
 have s:=h.M;have m:=h.N;have t:(0:Int)<=(x:Int):=Z
 have u:(x:Int)<8:=Z
 have D:(0:Int)<=(slot:Int):=Z
 have E:(slot:Int)<16:=Z
 have H:=ff<|Ê F C;have d:=ff h;clear F C h;go_enter ó,í;go_wp2_with (go_at_call 113;apply H.out.1.mono;rintro e f ⟨rfl,c⟩;dsimp only[jN,ð];have l:=c.r m id;have a:=ff c;clear c);refine lZ (λb=>b.cell? ⟨r,0,Á⟩=Â (Å É x)/\b.cell? ⟨r,7,Á⟩=Â (Å É slot)/\b.cell? ⟨i,x*18+2+slot,Á⟩=Â (Å ã z)) [] fu ?_;have o:=ff<|Ê ((d.out.C a.out).C<|fc.fR fg _).I<|Ê ((d.out.C a.out).C<|fc.fR fg _).b<|(a.out.fh<|fc.fR _ _).r j id;iterate 17 apply tk o.out
 apply gC 17;intro K f;go_simp;go_at_call 118;refine(H.out.2 _<|a.out.fh<|fc.fR _ _).mono ?_;rintro e G ⟨rfl,l⟩;have c:=ff l;clear l;dsimp only;apply f.out _ _ λ_=>⟨(d.out.C<|(a.out.fh<|fc.fR _ _).fh c.out).I,(d.out.C<|(a.out.fh<|fc.fR _ _).fh c.out).b,(((a.out.fh<|fc.fR _ _).fh c.out).r j id)⟩;clear f K;apply gC 18;intro K f;go_simp;apply f.out _ _ λ_=>⟨(d.out.C<|(a.out.fh<|fc.fR _ _).fh c.out).I,(d.out.C<|(a.out.fh<|fc.fR _ _).fh c.out).b,(((a.out.fh<|fc.fR _ _).fh c.out).r j id)⟩;clear f K;try simp only[Act.put,é,ý,þ]
 refine lI fu ?_ _;go_wp2_with fail;go_ret;exact⟨U,(a.out.fh<|fc.fR _ _).fh c.out⟩
def aom(F:Ò À 113 #[Æ O n cp,Å É v] w λe a=>e=Ç (jN<|Â i)/\fc fg w a)(f:o0 r x y g k 3 v v2 slot w)(p:x<8)(z:Nat)(h:w.cell? ⟨i,x*18,Á⟩=Â (Å ã z)) (C:∀W,fc fg w W->Ò À 118 #[Å ã z] W λe a=>e=Ç (Ä B)/\fc fg W a): Ò À 67 #[Æ O n cp,Ã<|Â ⟨r,0,Á⟩] w λe a=>e=Ç (Ä B)/\fc fg w a:=by
 have q:=f.M;have m:=f.N;have s:(0:Int)<=(x:Int):=Z
 have t:(x:Int)<8:=Z
 have H:=ff<|Ê F C;have j:=ff f;clear F C f;go_enter ó,í;go_wp2_with (go_at_call 113;apply H.out.1.mono;rintro e d ⟨rfl,c⟩;dsimp only[jN,ð];have l:=c.r m id;have b:=ff c;clear c);refine lZ (λa=>a.cell? ⟨r,0,Á⟩=Â (Å É x)/\a.cell? ⟨i,x*18,Á⟩=Â (Å ã z)) [] fu ?_;have o:=ff<|Ê ((j.out.C b.out).C<|fc.fR fg _).I<|(b.out.fh<|fc.fR _ _).r h id;iterate 12 apply tk o.out
 apply gC 12;intro K c;go_simp;go_at_call 118;refine(H.out.2 _<|b.out.fh<|fc.fR _ _).mono ?_;rintro e u ⟨rfl,l⟩;have d:=ff l;clear l;dsimp only;apply c.out _ _ λ_=>⟨(j.out.C<|(b.out.fh<|fc.fR _ _).fh d.out).I,(((b.out.fh<|fc.fR _ _).fh d.out).r h id)⟩;clear c K;apply gC 13;intro K c;go_simp;apply c.out _ _ λ_=>⟨(j.out.C<|(b.out.fh<|fc.fR _ _).fh d.out).I,(((b.out.fh<|fc.fR _ _).fh d.out).r h id)⟩;clear c K;try simp only[Act.put,é,ý,þ]
 refine lI fu ?_ _;go_wp2_with fail;go_ret;exact⟨U,(b.out.fh<|fc.fR _ _).fh d.out⟩
def aon(F:Ò À 113 #[Æ O n cp,Å É v] w λe c=>e=Ç (jN<|Â i)/\fc fg w c)(h:o0 r x y g k 4 v v2 slot w)(o:g<=400)(p:k<18446744073709551616) (C:∀W,fc fg w W->Ò À 119 #[Ã<|Â ⟨i,0,Á⟩,Å É x,Å É y,Å ã g,Å ã k] W λe c=>e=Ç (Ä B)/\fc fg W c): Ò À 67 #[Æ O n cp,Ã<|Â ⟨r,0,Á⟩] w λe c=>e=Ç (Ä B)/\fc fg w c:=by
 have q:=h.M;have l:=h.N;have s:ã.wrap (k:Int)=(k:Int):=by rw[Ć];omega
 have t:ã.wrap (g:Int)=(g:Int):=by rw[Ć];omega
 have u:¬(400:Int)<(g:Int):=Z
 have z:(g:Int)<=400:=Z
 have H:=ff<|Ê F C;have b:=ff h;clear F C h;go_enter ó,í;go_wp2_with (go_at_call 113;apply H.out.1.mono;rintro e f ⟨rfl,d⟩;dsimp only[jN,ð];have j:=d.r l id;have m:=d.r b.out.a id;have a:=ff d;clear d);refine lZ (λc=>c.cell? ⟨r,0,Á⟩=Â (Å É x)/\c.cell? ⟨r,1,Á⟩=Â (Å É y)/\c.cell? ⟨r,2,Á⟩=Â (Å É g)/\c.cell? ⟨r,3,Á⟩=Â (Å É k)) [] fu ?_;have m:=ff<|Ê ((b.out.C a.out).C<|fc.fR fg _).I<|Ê ((b.out.C a.out).C<|fc.fR fg _).S<|Ê ((b.out.C a.out).C<|fc.fR fg _).a ((b.out.C a.out).C<|fc.fR fg _).Y;iterate 23 apply tk m.out
 apply gC 23;intro K f;go_simp;go_at_call 119;refine(H.out.2 _<|a.out.fh<|fc.fR _ _).mono ?_;rintro e D ⟨rfl,j⟩;have d:=ff j;clear j;dsimp only;apply f.out _ _ λ_=>⟨(b.out.C<|(a.out.fh<|fc.fR _ _).fh d.out).I,(b.out.C<|(a.out.fh<|fc.fR _ _).fh d.out).S,(b.out.C<|(a.out.fh<|fc.fR _ _).fh d.out).a,(b.out.C<|(a.out.fh<|fc.fR _ _).fh d.out).Y⟩;clear f K;apply gC 24;intro K f;go_simp;apply f.out _ _ λ_=>⟨(b.out.C<|(a.out.fh<|fc.fR _ _).fh d.out).I,(b.out.C<|(a.out.fh<|fc.fR _ _).fh d.out).S,(b.out.C<|(a.out.fh<|fc.fR _ _).fh d.out).a,(b.out.C<|(a.out.fh<|fc.fR _ _).fh d.out).Y⟩;clear f K;try simp only[Act.put,é,ý,þ]
 refine lI fu ?_ _;go_wp2_with fail;go_ret;exact⟨U,(a.out.fh<|fc.fR _ _).fh d.out⟩
def aoo(F:Ò À 113 #[Æ O n cp,Å É v] w λe b=>e=Ç (jN<|Â i)/\fc fg w b)(h:o0 r x y g k 5 v v2 slot w)(o:k<18446744073709551616) (C:∀W,fc fg w W->Ò À 120 #[Ã<|Â ⟨i,0,Á⟩,Å É x,Å É y,Å ã k] W λe b=>e=Ç (Ä B)/\fc fg W b): Ò À 67 #[Æ O n cp,Ã<|Â ⟨r,0,Á⟩] w λe b=>e=Ç (Ä B)/\fc fg w b:=by
 have p:=h.M;have l:=h.N;have q:ã.wrap (k:Int)=(k:Int):=by rw[Ć];omega
 have H:=ff<|Ê F C;have c:=ff h;clear F C h;go_enter ó,í;go_wp2_with (go_at_call 113;apply H.out.1.mono;rintro e f ⟨rfl,d⟩;dsimp only[jN,ð];have j:=d.r l id;have a:=ff d;clear d);refine lZ (λb=>b.cell? ⟨r,0,Á⟩=Â (Å É x)/\b.cell? ⟨r,1,Á⟩=Â (Å É y)/\b.cell? ⟨r,3,Á⟩=Â (Å É k)) [] fu ?_;have m:=ff<|Ê ((c.out.C a.out).C<|fc.fR fg _).I<|Ê ((c.out.C a.out).C<|fc.fR fg _).S ((c.out.C a.out).C<|fc.fR fg _).Y;iterate 17 apply tk m.out
 apply gC 17;intro K f;go_simp;go_at_call 120;refine(H.out.2 _<|a.out.fh<|fc.fR _ _).mono ?_;rintro e s ⟨rfl,j⟩;have d:=ff j;clear j;dsimp only;apply f.out _ _ λ_=>⟨(c.out.C<|(a.out.fh<|fc.fR _ _).fh d.out).I,(c.out.C<|(a.out.fh<|fc.fR _ _).fh d.out).S,(c.out.C<|(a.out.fh<|fc.fR _ _).fh d.out).Y⟩;clear f K;apply gC 18;intro K f;go_simp;apply f.out _ _ λ_=>⟨(c.out.C<|(a.out.fh<|fc.fR _ _).fh d.out).I,(c.out.C<|(a.out.fh<|fc.fR _ _).fh d.out).S,(c.out.C<|(a.out.fh<|fc.fR _ _).fh d.out).Y⟩;clear f K;try simp only[Act.put,é,ý,þ]
 refine lI fu ?_ _;go_wp2_with fail;go_ret;exact⟨U,(a.out.fh<|fc.fR _ _).fh d.out⟩
def aop(F:Ò À 113 #[Æ O n cp,Å É v] w λe a=>e=Ç (jN<|Â i)/\fc fg w a)(b:o0 r x y g k 6 v v2 slot w)(z:Nat)(C:∀W,fc fg w W->Ò À 122 #[Ã<|Â ⟨i,0,Á⟩] W λe a=>e=Ç (Å ã z)/\fc fg W a)(d:∀W,fc fg w W->Ò À 121 #[Å ã z] W λe a=>e=Ç (Ä B)/\fc fg W a): Ò À 67 #[Æ O n cp,Ã<|Â ⟨r,0,Á⟩] w λe a=>e=Ç (Ä B)/\fc fg w a:=by
 have m:=b.M;have j:=b.N;have l:=ff d;clear d;have H:=ff<|Ê F C;have o:=ff b;clear F C b;go_enter ó,í;go_wp2_with (first
  |(go_at_call 113;refine H.out.1.mono ?_;rintro e h ⟨rfl,c⟩;dsimp only[jN,ð];have p:=c.r j id;have f:=ff c;clear c)
  |(go_at_call 122;refine(H.out.2 _ f.out).mono ?_;rintro e p ⟨rfl,c⟩;have h:=ff<|f.out.fh c;clear c)
  |(go_at_call 121;refine(l.out _ h.out).mono ?_;rintro e p ⟨rfl,c⟩;have f:=ff (h.out.fh c);clear c))
 go_ret;exact⟨U,f.out⟩
def aoq(F:Ò À 113 #[Æ O n cp,Å É v] w λe b=>e=Ç (jN<|Â i)/\fc fg w b)(d:o0 r x y g k 7 v v2 slot w)(l:Option ù)(o p:Nat)(u:w.cell? ⟨i,144,Á⟩=Â (Æ l o p))(f:List ByteArray)(C:∀W,fc fg w W->Ò À 124 #[Æ l o p] W λe b=>∃j,e=Ç j/\ic W j f b)(q:∀W a m c,ic w (Æ a m c) f W->Ò À 123 #[Æ a m c] W λe b=>e=Ç (Ä B)/\fc fg W b): Ò À 67 #[Æ O n cp,Ã<|Â ⟨r,0,Á⟩] w λe b=>e=Ç (Ä B)/\fc fg w b:=by
 have J:=d.M;have z:=d.N;have D:=ff q;clear q;have H:=ff<|Ê F C;have K:=ff d;clear F C d;go_enter ó,í;go_wp2_with (first
  |(go_at_call 113;refine H.out.1.mono ?_;rintro e t ⟨rfl,h⟩;dsimp only[jN,ð];have E:=h.r z id;have G:=h.r u id;have s:=ff h;clear h)
  |(go_at_call 124;refine(H.out.2 _ s.out).mono ?_;rintro e E ⟨j,rfl,h⟩;obtain⟨G,I,rfl⟩:=jo h.fq;generalize f.length=tn at h|-;have t:=ff (show ic w (Æ G tn I) f E from h.N s.out);clear h)
  |(go_at_call 123;refine(D.out _ _ _ _ t.out).mono ?_;rintro e E ⟨rfl,h⟩;have s:=ff (t.out.r.fh h);clear h))
 go_ret;exact⟨U,s.out⟩
def aor(F:Ò À 113 #[Æ O n cp,Å É v] w λe b=>e=Ç (jN<|Â i)/\fc fg w b)(d:o0 r x y g k 8 v v2 slot w)(l:Option ù)(o p:Nat)(u:w.cell? ⟨i,146,Á⟩=Â (Æ l o p))(f:List ByteArray)(C:∀W,fc fg w W->Ò À 125 #[Æ l o p] W λe b=>∃j,e=Ç j/\ic W j f b)(q:∀W a m c,ic w (Æ a m c) f W->Ò À 123 #[Æ a m c] W λe b=>e=Ç (Ä B)/\fc fg W b): Ò À 67 #[Æ O n cp,Ã<|Â ⟨r,0,Á⟩] w λe b=>e=Ç (Ä B)/\fc fg w b:=by
 have J:=d.M;have z:=d.N;have D:=ff q;clear q;have H:=ff<|Ê F C;have K:=ff d;clear F C d;go_enter ó,í;go_wp2_with (first
  |(go_at_call 113;refine H.out.1.mono ?_;rintro e t ⟨rfl,h⟩;dsimp only[jN,ð];have E:=h.r z id;have G:=h.r u id;have s:=ff h;clear h)
  |(go_at_call 125;refine(H.out.2 _ s.out).mono ?_;rintro e E ⟨j,rfl,h⟩;obtain⟨G,I,rfl⟩:=jo h.fq;generalize f.length=tn at h|-;have t:=ff (show ic w (Æ G tn I) f E from h.N s.out);clear h)
  |(go_at_call 123;refine(D.out _ _ _ _ t.out).mono ?_;rintro e E ⟨rfl,h⟩;have s:=ff (t.out.r.fh h);clear h))
 go_ret;exact⟨U,s.out⟩
def aos(F:Ò À 113 #[Æ O n cp,Å É v] w λe c=>e=Ç (jN<|Â i)/\fc fg w c)(a:o0 r x y g k 4 v v2 slot w)(j:400<g)(C:B=oK 6): Ò À 67 #[Æ O n cp,Ã<|Â ⟨r,0,Á⟩] w λe c=>e=Ç (Ä B)/\fc fg w c:=by
 have l:=a.M;have d:=a.N;have m:(400:Int)<(g:Int):=Z
 have H:=ff<|Ê F C;have f:=ff a;clear F C a;go_enter ó,í;go_wp2_with (first
  |(go_at_call 113;refine H.out.1.mono ?_;rintro e o ⟨rfl,b⟩;dsimp only[jN,ð];have p:=b.r d id;have q:=b.r f.out.a id;have h:=ff b;clear b)
  |(go_at_call 114;refine(DY 6 A _).mono ?_;rintro e b ⟨rfl,o⟩;subst b))
 go_ret;exact⟨by rw[H.out.2];rfl,h.out⟩
def aot(F:Ò À 113 #[Æ O n cp,Å É v] w λe a=>e=Ç (jN<|Â i)/\fc fg w a)(b:o0 r x y g k 9 v v2 slot w)(C:B=oK 3)(d:∀W,fc fg w W->Ò À 113 #[Æ O n cp,Å É v2] W λe a=>e=Ç (jN Á)/\fc fg W a): Ò À 67 #[Æ O n cp,Ã<|Â ⟨r,0,Á⟩] w λe a=>e=Ç (Ä B)/\fc fg w a:=by
 have p:=b.M;have j:=b.N;have l:=ff d;clear d;have H:=ff<|Ê F C;have m:=ff b;clear F C b;go_enter ó,í;go_wp2_with (first
  |(go_at_call 113;with_reducible refine H.out.1.mono ?_;rintro e h ⟨rfl,c⟩;dsimp only[jN,ð];have o:=c.r j id;have q:=c.r m.out.c id;have f:=ff c;clear c)
  |(go_at_call 113;refine(l.out _ f.out).mono ?_;rintro e c ⟨rfl,h⟩;dsimp only[jN,ð];have o:=ff<|f.out.fh h;clear h)
  |(go_at_call 114;refine(DY 3 A _).mono ?_;rintro e c ⟨rfl,h⟩;subst c))
 go_ret;exact⟨by rw[H.out.2];rfl,o.out⟩
def aou(F:Ò À 113 #[Æ O n cp,Å É v] w λe b=>e=Ç (jN<|Â i)/\fc fg w b)(f:o0 r x y g k 9 v v2 slot w)(C:True)(p:∀W,fc fg w W->Ò À 113 #[Æ O n cp,Å É v2] W λe b=>e=Ç (jN<|Â j)/\fc fg W b)(l:List ByteArray)(q:∀W,fc fg w W->Ò À 126 #[Ã<|Â ⟨i,0,Á⟩,Ã<|Â ⟨j,0,Á⟩] W λe b=>∃o,e=Ç o/\ic W o l b)(s:∀W a m c,ic w (Æ a m c) l W->Ò À 123 #[Æ a m c] W λe b=>e=Ç (Ä B)/\fc fg W b): Ò À 67 #[Æ O n cp,Ã<|Â ⟨r,0,Á⟩] w λe b=>e=Ç (Ä B)/\fc fg w b:=by
 have L:=f.M;have D:=f.N;have E:=ff p;have t:=ff<|Ê q s;clear p q s;have H:=ff<|Ê F C;have G:=ff f;clear F C f;go_enter ó,í;go_wp2_with (first
  |(go_at_call 113;with_reducible refine H.out.1.mono ?_;rintro e u ⟨rfl,d⟩;dsimp only[jN,ð];have z:=d.r D id;have I:=d.r G.out.c id;have h:=ff d;clear d)
  |(go_at_call 113;refine(E.out _ h.out).mono ?_;rintro e z ⟨rfl,d⟩;dsimp only[jN,ð];have u:=ff (h.out.fh d);clear d))
 apply lZ (λb=>True/\True) [] fu;have I:=ff<|Ê trivial trivial;iterate 8 apply tk I.out
 apply gC 8;intro K d;go_simp;go_at_call 126;refine(t.out.1 _<|u.out.fh<|fc.fR _ _).mono ?_;rintro e M ⟨o,rfl,h⟩;obtain⟨N,P,rfl⟩:=jo h.fq;generalize l.length=tn at h|-;have z:=ff<|h.N<|u.out.fh<|fc.fR _ _;clear h;dsimp only;apply d.out _ _ λ_=>⟨trivial,trivial⟩;clear d K;apply gC 9;intro K d;go_simp;go_at_call 123;refine(t.out.2 _ _ _ _ z.out).mono ?_;rintro e Q ⟨rfl,u⟩;have J:=ff<|z.out.r.fh u;clear u;dsimp only;apply d.out _ _ λ_=>⟨trivial,trivial⟩;clear d K;apply gC 10;intro K d;go_simp;apply d.out _ _ λ_=>⟨trivial,trivial⟩;clear d K;try simp only[Act.put,é,ý,þ]
 refine lI fu ?_ _;go_wp2_with fail;go_ret;exact⟨U,J.out⟩
def aov(F:Ò À 113 #[Æ O n cp,Å É v] w λe a=>e=Ç (jN Á)/\fc fg w a)(b:o0 r x y g k h v v2 slot w): Ò À 67 #[Æ O n cp,Ã<|Â ⟨r,0,Á⟩] w λe a=>e=Ç (Ä<|oK 3)/\fc fg w a:=by
 have f:=b.M;have H:=ff F;clear F b;go_enter ó,í;go_wp2_with (first
  |(go_at_call 113;refine H.out.mono ?_;rintro e i ⟨rfl,c⟩;dsimp only[jN,ð];have d:=ff c;clear c)
  |(go_at_call 114;refine(DY 3 A _).mono ?_;rintro e c ⟨rfl,i⟩;subst c))
 go_ret;exact⟨U,d.out⟩
end
structure Qn where
 x:Nat
 y:Nat
 g:Nat
 k:Nat
 r:Int
 v:Int
 C:Int
 I:Nat
structure Qn.Ok(q:Qn):Prop where
 x:q.x<8
 y:q.y<8
 g:q.g<1000000
 k:q.k<18446744073709551616
 as7:2<=q.r
 as8:q.r<=9
 v:-1<=q.v
 v2:-1<=q.C
 as9:q.I<16
def Ep(a:List ByteArray):ByteArray:=if a=[]then⟨#[45]⟩else lN ⟨#[44]⟩ a
def zm(a:List (Nat×fK))(p:fK)(q:Qn):ByteArray:=
 if q.r=2 then gA ((p.s q.x).C q.I).toNat
 else if q.r=3 then gA (p.s q.x).fw.toNat
 else if q.r=4 then if 400<q.g then oK 6 else LN (gi p.s [] q.x q.y q.g q.k)
 else if q.r=5 then sD p.s q.x q.y q.k 0 401
 else if q.r=6 then Eo (D9 p.s)
 else if q.r=7 then Ep (p.r.map qy)
 else if q.r=8 then Ep (p.C.map Ef)
 else match lM a q.C with
  |none=>oK 3
  |some b=>Ep<|qA p.s b.2.s 8
def oC(a:List (Nat×fK))(q:Qn):ByteArray:=
 match lM a q.v with
 |none=>oK 3
 |some p=>zm a p.2 q
def S5{M:Nat}(b:∀z∈vX,z.size<=M)(d:M<=100)(f:vX.length<=400000)(h:ic w (Æ O m i) vX W): Ò À 123 #[Æ O m i] W λe g=>e=Ç (Ä<|Ep vX)/\fc fg W g:=by obtain⟨e,g,j⟩:=h.I;have k:=El vX b;have:M*vX.length<=100*400000:=ű d f;exact an1 g Z j e Z
def aow(s:St):D9 s<18446744073709551616:=by unfold D9 Lr;exact Sw _ _<|w_ λi=>A_ _ _ _
theorem S6{b:ByteArray}(c:B.size<=1)(d:b.size<=1):(B++b).size<=2:=by grind
def U_(s t:St):∀z∈qA s t 8,z.size<=2:=λz a=>by
 unfold qA at a;obtain⟨i,_,h⟩:=Ş.1 a;unfold zj xn at h;rcases â.1 h with h|h
 .rcases â.1 h with h|h
  .split at h
   .cases h
   .simp at h;subst h;exact S6 (xo i)<|æ _
  .split at h
   .cases h
   .simp at h;subst h;exact S6 (xo i)<|æ _
 .unfold qz at h;obtain⟨j,_,h⟩:=Ş.1 h;unfold BQ at h;split at h
  .cases h
  .simp at h;subst h;exact S6 (xo i)<|K_ j
section
variable{cp:Nat}{vs:List (Nat×fK)}{q:Qn}
def aox(u:pU O n vs w)(S:n<=1000)(T:0<n)(hvo:∀p∈vs,SH p.2)(d:o0 i q.x q.y q.g q.k q.r q.v q.C q.I w)(ok:q.Ok)(V:iK w)(o:lu w)(hd:pV w): Ò À 67 #[Æ O n cp,Ã<|Â ⟨i,0,Á⟩] w λe G=>e=Ç (Ä<|oC vs q)/\fc fg w G:=by
 have F:=Lv (cp:=cp) u S T q.v ok.v;unfold oC;cases B:lM vs q.v with
 |none=>
  rw[B]at F;exact aov F d
 |some p=>
  rw[B]at F;have h:=F;have X:=HA B;have f:=u.M X;have j:=hvo p X;obtain⟨x,y,g,k,kind,v,C,Y⟩:=q;obtain⟨r,H,hg,I,tW,td,hv,LQ,J⟩:=ok;simp only at r H hg I tW td hv LQ J d h B|-;obtain⟨cb,_,cs⟩:=f.r.gR r;have FJ:gd (k:Int):=⟨Z,Z⟩;unfold zm;simp only;split
  .rename_i e;subst e;have c:=cs Y J;have l:=f.C.C x Y;rw[<-ņ l.1]at c;exact aol h d r J _ c λW b=>xm _ (by have:=l.1;have:=l.2;omega) W<|o.r b
  .split
   .rename_i e;subst e;have l:=f.C.fw x;rw[<-ņ l.1]at cb;exact aom h d r _ cb λW b=>xm _ (by have:=l.1;have:=l.2;omega) W<|o.r b
   .split
    .rename_i e;subst e;split
     .rename_i hh;exact aos h d hh U
     .exact aon h d Z I λW b=>an4 (f.r.r b id) f.C (V.r b id) (o.r b) x y g k r H Z Z FJ
    .split
     .rename_i e;subst e;exact aoo h d I λW b=>anj (f.r.r b id) f.C (V.r b id) (o.r b) r H FJ
     .split
      .rename_i e;subst e;exact aop h d _ (λW b=>amC (f.r.r b id) f.C) λW b=>aok _ (aow _)<|hd.r b
      .split
       .rename_i e;subst e;obtain⟨K,L,M,N⟩:=f.N;exact aoq h d K _ L M _ (λW b=>H_ U j.I j.C (o.r b)<|nn.C N b) λW a m c t=>S5 (λz P=>by obtain⟨e,D,rfl⟩:=Ú.1 P;exact LL (j.C e D).2) Z (by rw[ú];exact j.I) t
       .split
        .rename_i e;subst e;obtain⟨K,L,M,N⟩:=f.S;exact aor h d K _ L M _ (λW b=>anr U j.M j.r (o.r b)<|nn.C N b) λW a m c t=>S5 (λz P=>by obtain⟨e,D,rfl⟩:=Ú.1 P;exact Q_ (j.r e D).1 (j.r e D).2) Z (by rw[ú];have:=j.M;omega) t
        .have e:kind=9:=Z
         subst e;have E:∀W,fc fg w W->Ò À 113 #[Æ O n cp,Å É C] W λe G=>e=Ç (jN ((lM vs C).map (·.1)))/\fc fg W G:=λW b=>Lv (u.I b) S T C LQ;cases Q:lM vs C with
         |none=>
          rw[Q]at E;exact aot h d U E
         |some p2=>
          rw[Q]at E;exact aou h d trivial E _ (λW b=>anG (f.r.r b id)<|(u.M<|HA Q).r.r b id) λW a m c t=>S5 (U_ _ _) Z (by have:=SS p.2.s p2.2.s 8;omega) t
end
end Go.Proofs.Y.iw
namespace Go.Proofs.Y.me
open Go Go.Proofs Go.RowKit Go.Proofs.Y.Lift Go.Proofs.Y.iw
def kg(a:List (Nat×fK)):List fK:=a.map (·.2)
def U'(d:fK)(l:List fK):fK:=l.foldl (λa b=>if a.h<b.h then b else a) d
theorem V_:∀(a:List (Nat×fK)) (d:Nat×fK),(ug d a).2=U' d.2 (kg a)
 |[],_=>rfl
 |x::r,d=>by show(ug (ze d x) r).2=U' (if d.2.h<x.2.h then x.2 else d.2) (kg r);rw[V_ r];unfold ze;split<;>rfl
theorem S7{a b:List (Nat×fK)}(h:kg a=kg b)(v:Int):(lM a v).map (·.2)=(lM b v).map (·.2):=by
 have c:∀i:Nat,(a[i]?).map (·.2)=(b[i]?).map (·.2):=λi=>by have:=congrArg (λl:List fK=>l[i]?) h;simpa[kg]using this
 unfold lM;grind [V_]
theorem aoy{a b:List (Nat×fK)}(h:kg a=kg b):a.length=b.length:=by have:=congrArg List.length h;simpa[kg]using this
theorem W_{a b:List (Nat×fK)}(h:kg a=kg b)(v:Int)(x:Nat)(c:List Tx):uh a v x c=uh b v x c:=by have d:=S7 h v;unfold uh;grind [aoy]
theorem aoz{a b:List (Nat×fK)}(h:kg a=kg b)(q:Qn):oC a q=oC b q:=by
 have c:=S7 h q.v;have d:=S7 h q.C;have e:∀p:fK,zm a p q=zm b p q:=λp=>by unfold zm;grind
 unfold oC;grind
structure lE(s:List fK):Prop where
 I:0<s.length
 C:s.length<=40
 r:∀v∈s,SH v/\gJ v.s/\0<=v.h/\v.h<s.length
def rB(a:List (Nat×fK))(v:Int)(x:Nat)(b:List Tx):List fK:=kg a++(uh a v x b).1.toList
def lE.M{f:List (Nat×fK)}(h:lE (kg f)){g:List Tx}(k:∀t∈g,t.Ok)(m:g.length<=1000):lE (rB f c i g):=by
 unfold me.rB;have B:(kg f).length=f.length:=by simp[kg]
 unfold uh;cases n:lM f c with
 |none=>simpa using h
 |some p=>
  have o:p.2∈kg f:=Ú.2 ⟨p,HA n,U⟩;let⟨C,l,D,E⟩:=h.r _ o;simp only;split
  .simpa using h
  .rename_i F;cases j:xj i p.2.s g with
   |none=>simpa using h
   |some r=>
    simp only[Option.toList];have G:=h.C;have w:gJ r.1:=by unfold xj at j;obtain⟨H,y,rfl⟩:=ò.1 j;exact(SJ g k l (λ_ q=>by cases q) (λ_ q=>by cases q) (by simp;omega) (by simp;omega) y).1.r i<|yS _
    refine⟨fp,by simp;omega,λu z=> ?_⟩;rcases â.1 z with q|q
    .let⟨a,b,e,d⟩:=h.r u q;refine⟨a,b,e,?_⟩;rw[Ù];simp;omega
    .simp at q;subst q;refine⟨am6 k l m j,w,by show 0<=p.2.h+1;omega,?_⟩;rw[Ù];show p.2.h+1<_;simp;omega
def iV(Y:ft)(u w:Í):Prop:=∀(i j o:Nat) (v:Ñ),Y i j->u.cell? ⟨i,o,Á⟩=Â v->∃a,w.cell? ⟨j,o,Á⟩=Â a/\fl Y v a
section
variable{Y:ft}
theorem aoA{k:IntKind}(h:fl Y (Å k c) v):v=Å k c:=by cases h;rfl
theorem aoB(h:fl Y (Ä B) v):v=Ä B:=by cases h;rfl
theorem LU(h:fl Y (Ã<|Â a) v):∃b,v=Ã (Â b)/\gX Y a b:=by
 cases h with
 |jI q=>exact⟨_,U,q⟩
def LV(h:fl Y (Æ O n i) v):∃b,v=Æ b n i/\∀a,O=Â a->∃d,b=Â d/\gX Y a d:=by
 cases h with
 |nS=>exact⟨Á,U,λa q=>by cases q⟩
 |kC q=>exact⟨_,U,λa e=>by cases e;exact⟨_,U,q⟩⟩
theorem aoC(a:j4 v=Î)(h:fl Y v x):x=v:=by cases h<;>first|rfl|(simp[j4]at a;done)
theorem zn(h:gX Y ⟨b,i,Á⟩ a):∃c,a=⟨c,i,Á⟩/\Y b c:=by let⟨d,e,f⟩:=h;let⟨c,g,j⟩:=a;grind
theorem iV.r(a:iV Y u w){k:IntKind}(h:Y i j)(d:u.cell? ⟨i,b,Á⟩=Â (Å k c)):w.cell? ⟨j,b,Á⟩=Â (Å k c):=by let⟨e,f,g⟩:=a i j b _ h d;grind [aoA]
theorem iV.C(a:iV Y u w)(h:Y i j)(b:u.cell? ⟨i,n,Á⟩=Â (Ä B)):w.cell? ⟨j,n,Á⟩=Â (Ä B):=by let⟨c,d,e⟩:=a i j n _ h b;grind [aoB]
theorem iV.aoD(a:iV Y u w)(c:j4 v=Î)(h:Y i j)(b:u.cell? ⟨i,n,Á⟩=Â v):w.cell? ⟨j,n,Á⟩=Â v:=by let⟨d,e,f⟩:=a i j n _ h b;grind [aoC]
def S8(s:iw.St):∀v∈im s,(∃n,v=Å ã n)\/∃p,v=Ä p:=λv n=>by
 unfold im at n;obtain⟨i,_,rfl⟩:=Ú.1 n;unfold pN pM;split
 .exact È ⟨_,U⟩
 .split
  .exact Ï ⟨_,U⟩
  .exact È ⟨_,U⟩
def aoE(a:iV Y u w){s:iw.St}(c:Y b i)(d:mb b s h u):mb i s h w:=by
 refine⟨λj v e=> ?_,a.r c d.h⟩;have f:=d.C j v e;rcases S8 s v (ç e)with⟨n,rfl⟩|⟨p,rfl⟩
 .exact a.r c f
 .exact a.C c f
def X_(a:iV Y u w)(f:Y b i)(g:∀v∈l,j4 v=Î)(h:zd ⟨b,j,Á⟩ n l u):zd ⟨i,j,Á⟩ n l w:=by let⟨p,c,k,m⟩:=h;let⟨G,q,r⟩:=a b i j _ f k;obtain⟨s,rfl,t⟩:=LV r;refine⟨s,c,q,λd x e=> ?_⟩;let⟨H,y,z,B⟩:=m d x e;let⟨I,C,D⟩:=t _ z;obtain⟨E,rfl,F⟩:=zn D;exact⟨E,y,C,a.aoD (g x<|ç e) F B⟩
def aoF(a:iV Y u w){v:fK}(c:Y b i)(h:rz b v u):rz i v w:= ⟨aoE a c h.r,h.C,h.I,h.M,X_ a c (Zp _) h.N,X_ a c (Z5 _) h.S⟩
def vE{α β:Type}{R:Nat->α->β->Prop}:∀(l:List α) (k:Nat),(∀j x,l[j]?=Â x->∃y,R (k+j) x y)->∃a:List β,a.length=l.length/\∀j y,a[j]?=Â y->∃x,l[j]?=Â x/\R (k+j) x y
 |[],_,_=>⟨[],U,λj y h=>by simp at h⟩
 |x::r,k,h=>by
  let⟨y,c⟩:=h 0 x U;obtain⟨a,d,e⟩:=vE r (k+1) λj z b=>by let⟨q,f⟩:=h (j+1) z b;exact⟨q,by rwa[show k+1+j=k+(j+1) by omega]⟩
  refine⟨y::a,by simp[d],λj z b=> ?_⟩;cases j with
  |zero=>cases b;exact⟨x,U,c⟩
  |succ j=>
   let⟨q,f,g⟩:=e j z b;exact⟨q,f,by rwa[show k+(j+1)=k+1+j by omega]⟩
theorem HJ(a:iV Y u w){e:List (Nat×fK)}(i:fl Y z jQ)(h:Lw z e u):∃c,kg c=kg e/\Lw jQ c w:=by
 obtain⟨J,n,k,rfl,l,f⟩:=h;obtain⟨g,rfl,m⟩:=LV i;let⟨c,o,K⟩:=vE (R:=λj (x y:Nat×fK)=>x.2=y.2/\∃q d,g=Â ⟨q,d,Á⟩/\w.cell? ⟨q,d+j,Á⟩=Â (Ã<|Â ⟨y.1,0,Á⟩)/\rz y.1 y.2 w) e 0 λj x p=>by let⟨b,v⟩:=x;let⟨q,d,r,s,t⟩:=f.C j b v p;let⟨L,B,C⟩:=m _ r;obtain⟨y,rfl,D⟩:=zn C;let⟨M,E,F⟩:=a q y _ _ D s;obtain⟨N,rfl,G⟩:=LU F;obtain⟨H,rfl,I⟩:=zn G;exact⟨(H,v),U,y,d,B,by rwa[œ],aoF a I t⟩
 refine⟨c,?_,g,n,k,U,l,⟨by rw[o];exact f.r,λj b v q=> ?_⟩⟩
 .refine Ŕ λj=> ?_;unfold kg;grind
 .grind
end
def kU(a:Nat->Prop)(B:Nat):ft:=⟨λi j=>i=j/\a i,B⟩
def aoG(a:Nat->Prop)(B:Nat):Bi (kU a B):= ⟨λ_ _ _ h k=>h.1.symm.trans k.1,λ_ _ _ h k=>h.1.trans k.1.symm,λi j h=>by rw[h.1]⟩
def zo{V:Nat->Prop}{B:Nat}(h:∀i,X i->V i):(kU X B).r (kU V B):=⟨λ_ _ q=>⟨q.1,h _ q.2⟩,λ_=>aoG V B,U⟩
def kA(B:Nat)(a:Nat->Prop)(w:Í):Prop:=∀b,a b->∃c e d,w.heap[b]?=Â (Û c e d)/\d.2<=c.size/\fQ (kU a B) c c/\0<c.size/\Cb c/\e≠304/\e≠305
section
variable{B:Nat}{V:Nat->Prop}
def kA.I(h:kA B X w)(k:kA B V w):kA B (λb=>X b\/V b) w:=by
 rintro b (q|q)
 .let⟨c,e,a,d,f,g,i⟩:=h b q;exact⟨c,e,a,d,f,g.I (zo λ_=>È),i⟩
 .let⟨c,e,a,d,f,g,i⟩:=k b q;exact⟨c,e,a,d,f,g.I (zo λ_=>Ï),i⟩
def kA.C(h:kA B X w)(k:∀b,X b->u.heap[b]?=w.heap[b]?):kA B X u:=λb q=>by let⟨c,e,a,d,f⟩:=h b q;exact⟨c,e,a,by rwa[k b q],f⟩
theorem kA.r(h:kA B X w)(a:X b)(d:w.cell? ⟨b,i,Á⟩=Â v):fl (kU X B) v v:=by let⟨c,e,j,f,_,g,_⟩:=h b a;simp only[ß,f,ö,ì,if_false]at d;rcases g.S i with⟨q,_⟩|⟨x,k,l,m,n⟩;all_goals grind
def BS(h:fl (kU X B) (Ã<|Â a) v):X a.block:=by
 cases h with
 |jI q=>exact q.1.2
def BT(h:fl (kU X B) (Æ (Â a) n i) v):X a.block:=by
 cases h with
 |kC q=>exact q.1.2
def aoH{Y:ft}(h:j4 v=Î):fl Y v v:=by cases v<;>first|exact .mf _|exact .iF _ _|(simp[j4]at h;done)
def o5{Y:ft}(h:∀v∈d.toList,fl Y v v):fQ Y d d:=⟨U,λi a _=>h _<|î.2<|ă a⟩
def aoI(h:j4 v=Î):xF v=Ë:=by
 cases v with
 |int k n=>cases k<;>first|rfl|(simp[j4]at h;done)
 |_=>rfl
def zp(h:∀v∈d.toList,xF v=Ë):Cb d:=λk v a=>h v<|î.2<|ĵ a
def HL(v:Ñ)(i:Nat):Prop:=v.ownBlock=Â i
def HM(X:Nat->Prop)(g b:Nat)(a c:Ñ)(i:Nat):Prop:=X i\/i=g\/i=b\/HL a i\/HL c i
def X'{G:Í}(a:lW T=Î)(h:sC v T u)(o:∀j,v.ownBlock=Â j->G.heap.size<=j)(p:rm G.heap.size u):∀i,HL v i->∃c e f,u.heap[i]?=Â (Û c e f)/\f.2<=c.size/\fQ (kU V B) c c/\0<c.size/\Cb c/\e≠304/\e≠305:=λi b=>by
 rcases h with rfl|⟨g,n,c,k,rfl,l⟩
 .cases b
 .have e:g=i:=by unfold HL at b;simpa[Value.ownBlock]using b
  subst e;let⟨r,m⟩:=p g k T (0,0) (o g U) l a;exact⟨k,T,(0,0),l,Ø _,o5 λv d=>aoH<|m v d,r,zp λv d=>aoI<|m v d,(λq=>by rw[q]at a;cases a),(λq=>by rw[q]at a;cases a)⟩
def Y_(h:sC v T u)(a:∀i,HL v i->V i):fl (kU V B) v v:=by
 rcases h with rfl|⟨g,n,c,b,rfl,d⟩
 .exact .nS _ _
 .exact fl.kC (Y:=kU V B) ⟨⟨U,a g U⟩,U,U⟩ n c
theorem aoJ{G:Í}(J:kA B X G)(k:fc fg G u)(K:∀i,X i->i<G.heap.size){l:List (Nat×fK)}{s:iw.St}(o:SB b s h G u)(r:SA l b G u m)(L:∀p∈l,X p.1): ∃e,(∀i,X i->e i)/\e m/\kA B e u/\∀i,e i->X i\/G.heap.size<=i:=by
 have t:=k.Y _ λi c T w M y=>by rw[ı M]at y;cases y
 let⟨a,d,N,z,C,D,E⟩:=o.r;refine⟨HM X m b a d,λi q=>È q,Ï<|È U,?_,?_⟩
 .rintro i (q|rfl|rfl|q|q)
  .let⟨c,e,w,n,x,f,j⟩:=J i q;exact⟨c,e,w,by rwa[k.N i (K i q) id],x,f.I (zo λ_=>È),j⟩
  .let⟨F,n,x,f⟩:=r.r;have H:∀v∈F.toList,v=Ã Á\/∃j,v=Ã (Â ⟨j,0,Á⟩)/\HM X i b a d j:=λv e=>by
    rcases f v e with q|q|q
    .unfold rA at q;obtain⟨p,I,rfl⟩:=Ú.1 q;exact Ï ⟨_,U,È<|L p I⟩
    .exact Ï ⟨_,q,Ï<|Ï<|È U⟩
    .exact È q
   refine⟨F,136,(0,0),n,Ø _,o5 λv e=> ?_,x,zp λv e=> ?_,A,A⟩
   .rcases H v e with rfl|⟨j,rfl,I⟩
    .exact .lA
    .exact .jI ⟨⟨U,I⟩,U,U⟩
   .rcases H v e with rfl|⟨j,rfl,I⟩<;>rfl
  .have f:∀v∈jg s a++[Å É h,d],fl (kU (HM X m i a d) B) v v/\xF v=Ë:=λv e=>by
    rw[yY]at e;have I:=Y_ (B:=B) (V:=HM X m i a d) z λj q=>Ï<|Ï<|Ï<|È q;have F:=Y_ (B:=B) (V:=HM X m i a d) C λj q=>Ï<|Ï<|Ï<|Ï q;have H:∀{x:Ñ} {T:Ď},sC x T u->xF x=Ë:=λ{x T} q=>by rcases q with rfl|⟨_,_,_,_,rfl,_⟩<;>rfl
    rcases â.1 e with q|q
    .rcases â.1 q with q|q
     .rcases S8 s v q with⟨n,rfl⟩|⟨p,rfl⟩
      .exact⟨.iF _ _,U⟩
      .exact⟨.kI _,U⟩
     .grind
    .simp at q;rcases q with rfl|rfl
     .exact⟨.iF _ _,U⟩
     .grind
   exact⟨_,147,(0,0),N,Ø _,o5 λv e=>(f v<|by simpa using e).1,by simp[mA],zp λv e=>(f v<|by simpa using e).2,A,A⟩
  .exact X' U z D t i q
  .exact X' U C E t i q
 .rintro i (q|rfl|rfl|q|q)
  .exact È q
  .exact Ï r.C
  .exact Ï o.C
  .exact Ï<|D i q
  .exact Ï<|E i q
def LW{Y:ft}(h:fl Y v x):fl (kU X B) v v->fl (kU (λj=>∃i,X i/\Y i j) B) x x:=by
 induction h with
 |mf b=>exact λ_=> .mf b
 |iF k n=>exact λ_=> .iF k n
 |kI s=>exact λ_=> .kI s
 |lA=>exact λ_=> .lA
 |@jI a a' q=>exact λz=>fl.jI (Y:=kU (λj=>∃i,X i/\Y i j) B) ⟨⟨U,_,BS z,q.1⟩,U,U⟩
 |nS n c=>exact λ_=> .nS n c
 |@kC a a' q n c=>exact λz=>fl.kC (Y:=kU (λj=>∃i,X i/\Y i j) B) ⟨⟨U,_,BT z,q.1⟩,U,U⟩ n c
 |uD=>exact λ_=> .uD
 |fn f=>exact λ_=> .fn f
 |uE=>exact λ_=> .uE
 |uF=>exact λ_=> .uF
 |uG=>exact λ_=> .uG
 |xC t _ b=>exact λz=> .xC t (b (by cases z with|xC _ y=>exact y))
 |n9 f _ b=>exact λz=> .n9 U λi c _=>b i (by rwa[f]) c (by cases z with|n9 _ y=>exact y i _ _)
 |nu f _ b=>exact λz=> .nu U λi c _=>b i (by rwa[f]) c (by cases z with|nu _ y=>exact y i _ _)
def aoK{Y:ft}(h:fl Y v x):xF x=xF v:=by cases h<;>rfl
theorem S9{Y:ft}{r:Nat->Prop}(h:jf Y r u w)(s:kA B X u):kA B (λj=>∃i,X i/\Y i j) w:=by
 rintro j ⟨i,t,x⟩;let⟨c,a,e,F,y,z,C,b,G,H,I⟩:=h.r i j x;let⟨d,J,qc,m,_,D,K,E,n,o⟩:=s i t;rw[z]at m;cases m;have L:=b.C.resolve_right λq=>q.2.1.elim n o;refine⟨a,e,y,C,?_,o5 λv f=> ?_,Z,zp λv f=> ?_,n,o⟩
 .grind
 .obtain⟨k,g,rfl⟩:=Ğ f;have l:k<a.size:=by simpa using g
  have:=LW (b.r k Z l)<|D.C k Z Z;simpa using this
 .obtain⟨k,g,rfl⟩:=Ğ f;have l:k<a.size:=by simpa using g
  have p:=aoK<|b.r k Z l;rw[(E k c[k]<|å Z)]at p;simpa using p
def zq{Y:ft}(h:jf Y X u w):iV Y u w:=λi j o v b c=>h.gB (a:=⟨i,o,Á⟩) (a':=⟨j,o,Á⟩) ⟨b,U,U⟩ c
end
end Go.Proofs.Y.me
namespace Go.Proofs.Y.Lift
open Go
def Z_{α β:Type}{c:α->β->Option (ForInStep β)}{I:β->Prop}(d:∀a b s,I b->c a b=Â s->I s.value): ∀(l:List α) (b r:β),I b->forIn l b c=Â r->I r
 |[],b,r,hi,h=>by simp at h;subst h;exact hi
 |a::l,b,r,hi,h=>by
  rw[List.forIn_cons]at h;cases e:c a b with
  |none=>rw[e]at h;simp at h
  |some s=>
   rw[e]at h;have:=d a b s hi e;cases s with
   |done x=>simp at h;subst h;exact this
   |yield x=>simp at h;exact Z_ d l x r this h
def jK.gR(h:jK v):∀x∈v.cells,jK x:=by
 intro x a;cases h with
 |n9 h=>
  obtain⟨i,b,rfl⟩:=Array.mem_iff_getElem.1 a;exact h i b
 |nu h=>simp[Ĺ]at a;subst a;exact .nu h
 |_=>simp[Ĺ]at a;subst a;constructor
def ZP(a:Ď->Option ĩ):Prop:=∀t i z,a t=Â i->i.zero=Â z->jK z
def Ta(h:∀x∈d,jK x):jK (.agg d):=.n9 λ_ a=>h _<|ă a
theorem aoL{l:Ď->Option ĩ}(h:ZP l){m:Array Field}(g:ŕ l m=Â zJ)(q:zJ.zero=Â z):jK z:=by
 unfold ŕ at g;simp only[<-Array.forIn_toList]at g;generalize t:(forIn m.toList _ _:Option _)=L at g;cases L with
 |none=>simp at g
 |some r=>
  have u:=Z_ (I:=λx=>∀a,x.2.2.2.2.2.2.2.1=Â a->∀v∈a,jK v) ?_ _ _ _ ?_ t
  .have:∃a,r.2.2.2.2.2.2.2.1=Â a/\z=.agg a:=by
    grind [ò]
   obtain⟨a,e,rfl⟩:=this;exact Ta<|u a e
  .intro f b s w d;have y:∀(e:Option Ñ) (k:Nat) (x:Option (Array Ñ)),(∀z,e=Â z->jK z)->x=(if k>Ų then Á else do pure ((<-b.2.2.2.2.2.2.2.1)++(<-e).cells))->∀a,x=Â a->∀v∈a,jK v:=by
    intro e k x B C a c v n;subst C;split at c
    .simp at c
    .cases j:b.2.2.2.2.2.2.2.1 with
     |none=>rw[j]at c;simp at c
     |some E=>
      cases o:e with
      |none=>rw[j,o]at c;simp at c
      |some D=>
       rw[j,o]at c;simp at c;subst c;rcases Array.mem_append.1 n with p|p
       .exact w _ j v p
       .exact(B D o).gR v p
   cases e:l f.type with
   |none=>rw[e]at d;simp at d
   |some j=>
    rw[e,ê,ş]at d;have k:=y j.zero (b.2.1+j.size) _ (λz q=>h _ _ _ e q) U;generalize(if b.2.1+j.size>Ų then Á else(do pure ((<-b.2.2.2.2.2.2.2.1)++(<-j.zero).cells):Option (Array Ñ)))=X at d k;generalize(if b.1.size+1<m.size then ";" else "")=Y at d;simp only[bind,pure,Option.bind]at d;repeat' split at d
    all_goals first
     |(simp only[Ô]at d;subst d;exact k)
     |(simp at d;done)
  .intro a c v n;simp at c;subst c;simp at n
def aoM{c:Ď->Option ĩ}(h:ZP c){d:TypeDesc}(a:Χ c d=Â zJ)(b:zJ.zero=Â z):jK z:=by
 unfold Χ at a;cases d with
 |struct k=>exact aoL h a b
 |array n e=>
  simp only[ê,Ü,ā,Ô]at a;obtain⟨f,v,st,_,rfl⟩:=a;simp only at b;split at b
  .simp at b
  .split at b
   .simp at b;subst b;exact Ta fp
   .simp only[ò]at b;obtain⟨j,g,rfl⟩:=b;refine Ta λx k=> ?_;simp only[Array.mem_flatten,Array.mem_replicate]at k;obtain⟨l,⟨_,rfl⟩,k⟩:=k;exact(h _ _ _ v g).gR x k
 |pointer e=>
  simp only[ê,Ü,ā]at a;let⟨f,v,a⟩:=a;repeat' split at a
  all_goals first
   |(simp at a;done)
   |(simp only[Ü,Ô]at a;obtain⟨_,_,rfl⟩:=a;simp only[ł,Ô]at b;subst b;constructor)
 |slice e=>
  simp only[ê,Ü,ā,Ô]at a;obtain⟨_,_,_,_,rfl⟩:=a;simp only[ł,Ô]at b;subst b;constructor
 |map k e=>
  simp only[ê,Ü,ā,Ô]at a;obtain⟨_,_,_,_,_,_,_,_,rfl⟩:=a;simp only[ł,Ô]at b;subst b;constructor
 |chan k e=>
  simp only[ê,Ü,ā,Ô]at a;obtain⟨_,_,_,_,rfl⟩:=a;simp only[ł,Ô]at b;subst b;constructor
 |func k e v=>
  simp only[ê,Ü,ā,Ô]at a;obtain⟨_,_,rfl⟩:=a;simp only[ł,Ô]at b;subst b;constructor
 |_=>simp at a
def Z'{T:Tables}(a:∀(t:Nat) (i:ĩ) (z:Ñ),T.types[t]?=Â i->i.zero=Â z->jK z):∀f,ZP<|ţ T f
 |0=>λt i z h=>by simp[ţ]at h
 |f+1=>λt i z h b=>by
  unfold ţ at h;split at h
  .exact a t i z h b
  .simp only[Ü]at h;let⟨d,_,c⟩:=h;exact aoM (Z' a f) c b
def aoN(a:∀(t:Nat) (i:ĩ) (z:Ñ),P.types[t]?=Â i->i.zero=Â z->jK z):nz P:=λt i z h b=>by
 have h:P.toTables.info? t=Â i:=h;unfold Tables.info? at h;split at h
 .exact a t i z h b
 .exact Z' a _ t i z h b
end Go.Proofs.Y.Lift
namespace Go.Proofs.Y.fA
open Go Go.Conc Go.Proofs.Y.Lift Go.RowKit Go.Conc.Lib Go.ConcR.Gen
open Go.Proofs Go.Proofs.YtgpphkdoanciiaaGreatDoor
def Tb:Ñ->Bool
 |.agg a=>a.toList.all xN
 |v=>xN v
def aac(h:Tb v=Î):jK v:=by
 cases v with
 |agg b=>exact .n9 λi a=>Fg<|(ĭ.1 h) _<|î.2<|ă a
 |_=>exact Fg h
def aad:Ñ->Bool
 |ë a=>a.toList.all Tb
 |v=>Tb v
def aoO(h:aad v=Î):jK v:=by
 cases v with
 |tuple b=>exact .nu λi a=>aac<|(ĭ.1 h) _<|î.2<|ă a
 |_=>exact aac h
def Er(i:ĩ):Bool:=match i.zero with
 |some z=>aad z
 |none=>Î
def aoP(h:P.types.toList.all Er=Î):nz P:=aoN λt i z a b=>by have:=(ĭ.1 h) i<|î.2<|ĵ a;unfold Er at this;rw[b]at this;exact aoO this
def xH:nz À:=aoP fW
end Go.Proofs.Y.fA
namespace Go.Proofs.Y.me
open Go Go.Conc Go.Proofs Go.RowKit Go.Proofs.Y.Lift Go.Proofs.Y.iw Go.Proofs.Y.fA
noncomputable def nB:Nat:=À.globals.size
def o6(a:Nat->Prop)(b:Nat):Prop:=a b\/b=1\/b=2\/b=3\/b=4
def LX(b:Nat)(e:Ď)(w:Í):Prop:=∃c a,w.heap[b]?=Â (Û c e a)/\a.2<=c.size/\a.2<=16/\0<c.size/\∀v∈c.toList,∃k n,v=Å k n
structure np(w:Í):Prop where
 fv:nB<=w.heap.size
 M:kA nB (λb=>b=1\/b=2) w
 I:LX 3 304 w
 C:LX 4 305 w
 S:iw.lu w
 iX:iK w
 N:pV w
section
variable{V:Nat->Prop}
theorem np.r{w':Í}(h:np w)(f:nB<=w'.heap.size)(k:∀b,b=1\/b=2\/b=3\/b=4->w'.heap[b]?=w.heap[b]?):np w':=by
 have d:∀b o,b=1\/b=2\/b=3\/b=4->w'.cell? ⟨b,o,Á⟩=w.cell? ⟨b,o,Á⟩:=λb o e=>by simp only[ß,k b e]
 refine⟨f,h.M.C λb e=>k b<|e.imp id È,?_,?_,?_,?_,?_⟩
 .let⟨c,i,a,r⟩:=h.I;exact⟨c,i,by rwa[k 3 fp],r⟩
 .let⟨c,i,a,r⟩:=h.C;exact⟨c,i,by rwa[k 4 fp],r⟩
 .have c:=h.S;have i:À.globalNamed "internal/strconv.uint64pow10"=Â 1:=fu
  unfold iw.lu χ ο at*;grind
 .let⟨c,g,a⟩:=h.iX.M;refine⟨⟨c,g,by rwa[k 2 fp]⟩,λi r j=> ?_⟩;rw[d 2 _ fp,d 2 _ fp,d 2 _ fp];exact h.iX.I i r j
 .have:=h.N;unfold pV at*;grind
def aae(u:kA nB X w)(x:∀b,X b->k9 b=Ë)(g:np w):KR (o6 X) (o6 X) nB w:=by
 have p:∀{a:Nat->Prop} {c:Array Ñ},(∀b,a b->o6 X b)->fQ (kU a nB) c c->fQ (pK (o6 X) nB) c c:=λ{a c} hX r=>r.I<|zo hX;refine⟨?_,g.fv⟩;have s:∀b e,(e=304\/e=305)->k9 b=Î->LX b e w->∃c e d,w.heap[b]?=Â (Û c e d)/\d.2<=c.size/\fQ (pK (o6 X) nB) c c/\(o6 X b->0<c.size/\(k9 b=Î->(e=304\/e=305)/\d.2<=16)/\(k9 b=Ë->Cb c)):=λb e y B h=>by let⟨c,d,f,j,l,m,o⟩:=h;exact⟨c,e,d,f,j,o5 λv i=>by obtain⟨k,n,rfl⟩:=o v i;exact .iF _ _,λ_=>⟨m,λ_=>⟨y,l⟩,λq=>by rw[B]at q;cases q⟩⟩
 rintro b (q|q|q|rfl|rfl)
 .let⟨c,e,d,f,j,l,m,o,_⟩:=u b q;exact⟨c,e,d,f,j,p (λ_=>È) l,λ_=>⟨m,λt=>(by rw[x b q]at t;cases t),λ_=>o⟩⟩
 .let⟨c,e,d,f,j,l,m,o,_⟩:=g.M b<|È q;exact⟨c,e,d,f,j,p (λi k=>k.elim (λz=>Ï<|È z) λz=>Ï<|Ï<|È z) l,λ_=>⟨m,λt=>(by rw[q]at t;cases t),λ_=>o⟩⟩
 .let⟨c,e,d,f,j,l,m,o,_⟩:=g.M b<|Ï q;exact⟨c,e,d,f,j,p (λi k=>k.elim (λz=>Ï<|È z) λz=>Ï<|Ï<|È z) l,λ_=>⟨m,λt=>(by rw[q]at t;cases t),λ_=>o⟩⟩
 .exact s 3 304 (È U) U g.I
 .exact s 4 305 (Ï U) U g.C
def o7(a:k9 b=Ë\/i<16)(h:w.cell? ⟨b,i,Á⟩=Â v):(World.tp (kT V w) xQ 0).cell? ⟨b,i,Á⟩=Â v:=by
 have j:(World.tp (kT V w) xQ 0).heap[b]?=(w.heap[b]?).map (oU V b):=Dx b;simp only[ß,j];simp only[ß]at h;cases g:w.heap[b]? with
 |none=>rw[g]at h;cases h
 |some k=>
  rw[g]at h;cases k with
  |cells c e m=>
   simp only[Ă,oU,ö,ì,if_false]at h|-;split
   .rename_i d;split at d
    .split at d
     .rename_i l;cases d;rcases a with a|a
      .rw[l]at a;cases a
      .unfold tV;rw[Array.getElem?_extract];simp;exact⟨by have:=(á.1 h).1;omega,h⟩
     .cases d;exact h
    .cases d;exact h
   .rename_i f;split at f
    .split at f<;>exact absurd U<|f _ _ _
    .exact absurd U<|f _ _ _
  |_=>cases h
def aaf{T:ŷ}(d:kA nB X w)(e:∀b,X b->k9 b=Ë):iV (kU X nB) w (World.tp (kT V w) T 0):=by rintro i j o v ⟨rfl,a⟩ c;exact⟨v,o7 (È<|e i a) c,d.r a c⟩
end
def RD(s:List fK)(b:Ñ)(a:Nat->Prop)(w:Í):Prop:=∃c,kg c=s/\lE s/\Lw b c w/\kA nB a w/\fl (kU a nB) b b
section
variable{V:Nat->Prop}{s:List fK}
def aag(h:kA nB X w)(k:∀b,X b->u.heap[b]?=w.heap[b]?):iV (kU X nB) w u:=by rintro i j o v ⟨rfl,a⟩ c;exact⟨v,by simp only[ß,k i a];exact c,h.r a c⟩
def RD.r(h:RD s v X w)(k:∀b,X b->u.heap[b]?=w.heap[b]?):RD s v X u:=by let⟨l,d,e,f,a,c⟩:=h;let⟨g,i,j⟩:=HJ (aag a k) c f;exact⟨g,i.trans d,e,j,a.C k,c⟩
def HN(r:Nat)(q:Qn)(w:Í):Prop:=o0 r q.x q.y q.g q.k q.r q.v q.C q.I w
def aah{Y:ft}(a:iV Y u w){r:Nat}{q:Qn}(b:Y r i)(h:HN r q u):HN i q w:= ⟨a.r b h.I,a.r b h.S,a.r b h.a,a.r b h.Y,a.r b h.N,a.r b h.M,a.r b h.c,a.r b h.b⟩
def aoQ{T:ŷ}(g:np w):iw.lu (World.tp (kT V w) T 0):=by
 have a:=g.S;have h:À.globalNamed "internal/strconv.uint64pow10"=Â 1:=fu
 unfold iw.lu χ ο at*;rw[h]at a|-;simp only[ş]at a|-;have i:(World.tp (kT V w) T 0).heap[1]?=(w.heap[1]?).map (oU V 1):=Dx 1;rw[i];cases f:w.heap[1]? with
 |none=>rw[f]at a;cases a
 |some j=>
  rw[f]at a;cases j with
  |cells c e k=>
   simp only[Ă,oU,k9]at a|-;split
   .rename_i b;split at b<;>(simp at b;obtain⟨rfl,_⟩:=b;exact a)
   .rename_i d;split at d
    .exact absurd U<|d _ _ _
    .exact absurd U<|d _ _ _
  |_=>cases a
theorem aai{T:ŷ}(g:np w):iK (World.tp (kT V w) T 0):=by
 let⟨f,h,d⟩:=g.iX.M;refine⟨?_,λi r e=> ?_⟩
 .have a:(World.tp (kT V w) T 0).heap[2]?=(w.heap[2]?).map (oU V 2):=Dx 2;rw[a,d];simp only[Ă,oU,k9];grind
 .let⟨a,b,c⟩:=g.iX.I i r e;exact⟨o7 (È U) a,o7 (È U) b,o7 (È U) c⟩
def aoR{T:ŷ}(g:np w):pV (World.tp (kT V w) T 0):=o7 (Ï A) g.N
theorem Es{T:ŷ}:j0 (World.tp (kT V w) T 0):=λi o h=>Y6 (Sh:=V) (w:=w) i o h
theorem aoS{l:fe}{q:Qn}{r:Nat}(x:RD s v X l.w)(I:∀b,X b->l.M b)(y:kA nB V l.w)(J:∀b,V b->l.M b)(h:V r)(z:HN r q l.w)(ok:q.Ok)(g:np l.w)(K:∀b,b=1\/b=2\/b=3\/b=4->l.M b)(j:∀b,X b\/V b->k9 b=Ë)(m:List (Nat×fK))(B:kg m=s): DC (λg=>wW g=Î) 67 #[v,Ã<|Â ⟨r,0,Á⟩] l (o6 λb=>X b\/V b) λe _=>e=Ä (oC m q):=by
 let⟨L,c,d,D,E,o⟩:=x;have t:=E.I y;refine⟨?_,aae t j g,?_,?_,λT=> ?_⟩
 .rintro b (q|q);all_goals grind
 .intro b a;unfold wW at a;simp at a;exact Ï a
 .refine o5 λe a=> ?_;simp at a;rcases a with rfl|rfl
  .exact o.fN<|zo λi k=>È<|È k
  .exact fl.jI (Y:=pK (o6 λb=>X b\/V b) nB) ⟨⟨U,È<|Ï h⟩,U,U⟩
 .have a:=aaf (V:=o6 λb=>X b\/V b) (T:=T) t j;obtain⟨F,f,N,n,G,rfl,O,u⟩:=HJ a (o.fN<|zo λi k=>È k) D;have i:n=(kg F).length:=by rw[u.r];simp[kg]
  have P:=d.I;have Q:=d.C;rw[f,c]at i;have C:=aox (cp:=G) u Z Z (λp H=> ?_) (aah a ⟨U,Ï h⟩ z) ok (aai g) (aoQ g)<|aoR g
  .apply C.mono;rintro e S ⟨rfl,k⟩;exact⟨by rw[aoz<|f.trans<|c.trans B.symm],k.gR Es⟩
  .have:p.2∈s:=by rw[<-c,<-f];exact Ú.2 ⟨p,H,U⟩
   exact(d.r _ this).1
end
def BU(r:Nat)(v:Int)(x:Nat)(c:List Tx)(w:Í):Prop:=∃a n d b,BN r v x a n d w/\BG a n b w/\lr b=c/\n<=1000
section
variable{V:Nat->Prop}{s:List fK}
def aaj(h:kA nB X w):∀i,X i->i<w.heap.size:=λi a=>by let⟨c,e,d,b,_⟩:=h i a;exact(á.1 b).1
theorem aak{T:ŷ}(f:k9 b=Ë)(h:w.heap[b]?=Â (Û d e xJ))(i:xJ.2<=d.size):∃a,(World.tp (kT V w) T 0).heap[b]?=Â (Û d e a)/\a.2<=d.size:=by have g:(World.tp (kT V w) T 0).heap[b]?=(w.heap[b]?).map (oU V b):=Dx b;rw[g,h];simp only[Ă,oU,f,ì,if_false];grind
def aoT{T:ŷ}(h:kA nB X w)(d:∀b,X b->k9 b=Ë):kA nB X (World.tp (kT V w) T 0):=λb a=>by let⟨c,e,m,f,g,i⟩:=h b a;let⟨j,k,l⟩:=aak (V:=V) (T:=T) (d b a) f g;exact⟨c,e,j,k,l,i⟩
def aoU{T:ŷ}(k:kA nB X w)(l:∀b,X b->k9 b=Ë){r:Nat}{v:Int}{o:List Tx}(p:X r)(h:BU r v i o w):BU r v i o (World.tp (kT V w) T 0):=by
 let⟨E,n,F,G,g,s,H,I⟩:=h;have m:=l r p;refine⟨E,n,F,G,⟨o7 (È m) g.M,o7 (È m) g.N,o7 (È m) g.I⟩,⟨s.r,λj a t q=> ?_⟩,H,I⟩;let⟨tb,J,u,y,d,K⟩:=s.C j a t q;have z:X tb:=by have:=k.r p g.I;rw[u]at this;exact BT this
 have B:=BS<|k.r z y;have f:=l a B;let⟨L,P,C⟩:=d.b;let⟨c,e,Q,D,M,_⟩:=k a B;rw[C]at D;cases D;obtain⟨N,O,_⟩:=aak f C M;exact⟨tb,J,u,o7 (È<|l tb z) y,⟨⟨L,N,O⟩,o7 (È f) d.r,o7 (È f) d.C,o7 (È f) d.I,o7 (È f) d.M,o7 (È f) d.Y,o7 (È f) d.N⟩,K⟩
def Rg(s:List fK)(v:Ñ)(u:Í):Prop:=∃X,RD s v X u
def Rg.tp{T:ŷ}(h:Rg s v w):Rg s v (World.tp w T n):=by let⟨X,h⟩:=h;exact⟨X,h.r λ_ _=>rfl⟩
def aoV{Y:ft}{d:Nat->Prop}(h:qM Y d u w)(a:fl Y v x)(e:Rg s v u):∃c,RD s x c w/\∀b,c b->∃i,Y i b:=by let⟨X,f⟩:=e;have g:RD s v X {u with tape:=w.tape,drawn:=w.drawn}:=f.r λ_ _=>rfl;let⟨t,j,k,l,m,n⟩:=g;let⟨o,p,q⟩:=HJ (zq h) a l;exact⟨_,⟨o,p.trans j,k,q,S9 h m,LW a n⟩,λb ⟨i,_,r⟩=>⟨i,r⟩⟩
theorem aoW{l:fe}{r:Nat}{d:List Tx}(hRD:RD s v X l.w)(hU:∀b,X b->l.M b)(N:kA nB V l.w)(hV:∀b,V b->l.M b)(O:V r)(hq:BU r h m d l.w)(hx:m<8)(y:-1<=h)(Td:∀t∈d,t.Ok)(hn:d.length<=1000)(g:np l.w)(hG:∀b,b=1\/b=2\/b=3\/b=4->l.M b)(B:∀b,X b\/V b->k9 b=Ë)(D:List (Nat×fK))(I:kg D=s): DC (λg=>wW g=Î) 66 #[v,Ã<|Â ⟨r,0,Á⟩] l (o6 λb=>X b\/V b) λz u=>∃p n c,z=ë #[Æ p n c,Ä (uh D h m d).2]/\Rg (rB D h m d) (Æ p n c) u:=by
 let⟨vs,h1,E,h3,P,f⟩:=hRD;have Q:=P.I N;refine⟨?_,aae Q B g,?_,?_,λT=> ?_⟩
 .rintro b (q|q);all_goals grind
 .intro b u;unfold wW at u;simp at u;exact Ï u
 .refine o5 λh y=> ?_;simp at y;rcases y with rfl|rfl
  .exact f.fN<|zo λi j=>È<|È j
  .exact fl.jI (Y:=pK (o6 λb=>X b\/V b) nB) ⟨⟨U,È<|Ï O⟩,U,U⟩
 .have o:=aoT (V:=o6 λb=>X b\/V b) (T:=T) P λb q=>B b<|È q;obtain⟨z,k1,S,n,W,rfl,hcp,F⟩:=HJ (aaf (V:=o6 λb=>X b\/V b) (T:=T) Q B) (f.fN<|zo λi j=>È j) h3;obtain⟨tp,tn,tc,a,q1,q2,rfl,q4⟩:=(aoU (V:=o6 λb=>X b\/V b) (T:=T) N (λb q=>B b<|Ï q) O hq);have c:=k1.trans h1;have hlen:n=s.length:=by rw[F.r,<-c];simp[kg]
  have ata:=E.I;have hle:=E.C;have pI:j0 (World.tp (kT (o6 λb=>X b\/V b) l.w) T 0):=Es;have C:=am0 F Z Z hcp (λp J=>by
   have:p.2∈s:=by rw[<-c];exact Ú.2 ⟨p,J,U⟩
   have:=(E.r _ this).2.2.2;omega) q1 q2 q4 (aai g) hx y
  have u:rB z h m (lr a)=rB D h m (lr a):=by unfold rB;rw[W_<|c.trans I.symm,c,I]
  have H:lE (rB z h m<|lr a):=lE.M (by rwa[c]) Td hn;have ha:=W_ (c.trans I.symm) h m<|lr a;generalize World.tp (kT (o6 λb=>X b\/V b) l.w) T 0=G at*;refine C.mono ?_;rintro e u' ⟨k,hA⟩;rcases hA with⟨K,rfl⟩|⟨nv,b,su,K,rfl,e3,e4,gb,gn,gc,rfl,e6⟩
  .refine⟨⟨S,n,W,by rw[ha],?_⟩,k.gR pI⟩;rw[<-u];have L:rB z h m (lr a)=s:=by unfold rB;rw[K,c];simp
   rw[L]at H|-;exact⟨X,z,c,H,⟨S,n,W,U,hcp,F.I k⟩,o.C λi j=>k.N i (aaj o i j) id,f⟩
  .let⟨i,m1,m2,m3,_⟩:=aoJ o k (aaj o) e4 e6 λp J=>by
    let⟨j,hj⟩:=ė J;let⟨sb,so,f1,f2,_⟩:=F.C j p.1 p.2 hj;have:X sb:=by rw[f1]at f;exact BT f
    exact BS<|o.r this f2
   refine⟨⟨Â ⟨gb,0,Á⟩,gn,gc,by rw[ha],?_⟩,k.gR pI⟩;rw[<-u];have L:rB z h m (lr a)=kg (z++[(b,nv)]):=by unfold rB;rw[K];simp[kg]
   rw[L]at H|-;exact⟨i,_,U,H,e3,m3,fl.kC (Y:=kU i nB) ⟨⟨U,m2⟩,U,U⟩ gn gc⟩
end
structure um where
 r:Nat->Int×Nat×List Tx
 C:Nat->Qn
def nP(s:List fK):List (Nat×fK):=s.map λv=>(0,v)
theorem HO(s:List fK):kg (nP s)=s:=by simp[kg,nP,Function.comp_def]
def Et(s:List fK)(i:Int×Nat×List Tx):List fK:=rB (nP s) i.1 i.2.1 i.2.2
def oD(a:um)(I:List Nat)(b:List fK):Nat->List fK
 |0=>b
 |k+1=>Et (oD a I b k)<|a.r<|I.getD k 0
def vp(a:um)(kd:Nat->Int)(p:Nat)(s:List fK):ByteArray:=if kd p=1 then(uh (nP s) (a.r p).1 (a.r p).2.1 (a.r p).2.2).2 else oC (nP s) (a.C p)
def iz(e:fe)(a:Nat->Prop)(c:um)(kd:Nat->Int)(R:Nat)(d:List fK)(f:Nat->Prop):wV where
 γ:=List fK
 C:=d
 M:=λk s g=>g=Et s (c.r<|(il kd R).getD k 0)
 RD:=λs h V w=>RD s h V w/\∀b,V b->a b\/e.w.heap.size<=b
 I:=λp=>vp c kd p<|oD c (il kd R) d<|fP kd p
 r:=f
def Te{kd:Nat->Int}:∀(R k:Nat),k<(il kd R).length->fP kd ((il kd R).getD k 0)=k
 |0,k,h=>by simp[il]at h
 |R+1,k,h=>by
  by_cases q:kd R=1
  .rw[Be q]at h|-;rcases Nat.lt_or_ge k (il kd R).length with z|z
   .have e:(il kd R++[R]).getD k 0=(il kd R).getD k 0:=by simp[Ġ,Ħ z]
    rw[e];exact Te R k z
   .have e:k=(il kd R).length:=by simp at h;omega
    subst e;simp[Ġ,fP]
  .rw[Bf q]at h|-;exact Te R k h
section
variable{y:Nat->Prop}
def LY(h:kA nB y w)(g:np w):∀b,y b->k9 b=Ë:=λb i=>by
 let⟨c,e,m,f,_,_,_,_,j,k⟩:=h b i;cases d:k9 b with
 |false=>rfl
 |true=>
  unfold k9 at d;simp at d;rcases d with rfl|rfl
  .let⟨l,qc,a,_⟩:=g.I;rw[f]at a;cases a;exact absurd U j
  .let⟨l,qc,a,_⟩:=g.C;rw[f]at a;cases a;exact absurd U k
def aoX(p:kA nB X w)(k:∀b,X b->u.heap[b]?=w.heap[b]?){r:Nat}{s:List Tx}(g:X r)(h:BU r c i s w):BU r c i s u:=by
 have d:∀{b o:Nat} {z:Ñ},X b->w.cell? ⟨b,o,Á⟩=Â z->u.cell? ⟨b,o,Á⟩=Â z:=λ{b o z} l q=>by simp only[ß,k b l];exact q
 let⟨D,n,E,F,m,y,G,H⟩:=h;refine⟨D,n,E,F,⟨d g m.M,d g m.N,d g m.I⟩,⟨y.r,λj a t q=> ?_⟩,G,H⟩;let⟨tb,I,B,C,e,J⟩:=y.C j a t q;have l:X tb:=by have:=p.r g m.I;rw[B]at this;exact BT this
 have f:=BS<|p.r l C;let⟨K,L,M⟩:=e.b;exact⟨tb,I,B,d l C,⟨⟨K,L,by rwa[k a f]⟩,d f e.r,d f e.C,d f e.I,d f e.M,d f e.Y,d f e.N⟩,J⟩
end
structure HP(l0:fe)(bt:um)(kd:Nat->Int)(rq:Nat->Nat)(R:Nat)(Q:Nat->Prop):Prop where
 M:np l0.w
 I:∀b,b=1\/b=2\/b=3\/b=4->l0.O b
 C:kA nB Q l0.w
 fq:∀b,Q b->l0.O b
 r:∀p,p<R->Q (rq p)
 kF:∀p,p<R->kd p=1->BU (rq p) (bt.r p).1 (bt.r p).2.1 (bt.r p).2.2 l0.w/\(bt.r p).2.1<8/\-1<=(bt.r p).1/\(∀t∈(bt.r p).2.2,t.Ok)/\(bt.r p).2.2.length<=1000
 Rt:∀p,p<R->kd p≠1->HN (rq p) (bt.C p) l0.w/\(bt.C p).Ok
def aal{V:Nat->Prop}{l:fe}{a:Ñ->Í->Prop}(h:DC X F d l V vQ)(b:∀v u,vQ v u->a v u):DC X F d l V a:= ⟨h.N,h.S,h.I,h.r,λT=>(h.C T).mono λe u q=>by
  cases e with
  |returned v=>exact⟨b v u q.1,q.2⟩
  |_=>exact q⟩
section
variable{l0:fe}{bt:um}{kd:Nat->Int}{rq:Nat->Nat}{R:Nat}{Q C d:Nat->Prop}{B:List fK}{E F:Option ù}
def aam{s:List fK}(h:fA.mX ((ky (iz l0 d bt kd R B C) i n R kd rq D E F j9 j7 k m J j qX l0).r À) b s):s=oD bt (il kd R) B b:=by
 have c:∀(b:Nat) (s:((ky (iz l0 d bt kd R B C) i n R kd rq D E F j9 j7 k m J j qX l0).r À).γ),fA.mX ((ky (iz l0 d bt kd R B C) i n R kd rq D E F j9 j7 k m J j qX l0).r À) b s->s=oD bt (il kd R) B b:=λb s h=>by
  induction h with
  |uO=>rfl
  |Cv _ a e=>
   rwa[e]at a
 exact c b s h
def aoY(h:HP l0 bt kd rq R Q)(N:l0.w.heap.size<=m):Du (ky (iz l0 d bt kd R B C) i n R kd rq D E F j9 j7 k m J j qX l0):=by
 apply ajI xH Zb Za U;intro a s O W l q t f x y P g G;let⟨f,S⟩:=f;have T:=y.fv m<|g m<|Ï U;have H:l0.w.heap.size<=l.w.heap.size:=Z
 have o:=G;have p:=h.M.r (Ì h.M.fv H) λb c=>o b<|h.I b c;have r:=h.C.C λb c=>o b<|h.fq b c;have e:=G0<|vk q;let⟨I,K⟩:=h.Rt _ e.1 e.2;refine⟨_,aal (aoS f x r (λb c=>g b<|È<|h.fq b c) (h.r _ e.1) (aah (aag h.C λb c=>o b<|h.fq b c) ⟨U,h.r _ e.1⟩ I) K p (λb c=>g b<|È<|h.I b c) (λb c=>c.elim (LY (by let⟨_,_,_,_,z,_⟩:=f;exact z) p b)<|LY r p b) (nP s)<|HO s) λv u L=> ?_⟩;rw[L];have z:=aam t;have M:(ky (iz l0 d bt kd R B C) i n R kd rq D E F j9 j7 k m J j qX l0).b a=fP kd ((ju kd R).getD a 0):=if_pos q;rw[M]at z;show _=Ä (vp bt kd ((ju kd R).getD a 0)<|oD bt (il kd R) B<|fP kd<|(ju kd R).getD a 0);rw[<-z];unfold vp;rw[if_neg e.2]
theorem aoZ(h:HP l0 bt kd rq R Q)(hZ:(∀b,Q b->d b)/\∀b,b=1\/b=2\/b=3\/b=4->d b)(Yz:l0.w.heap.size<=m):Dt (ky (iz l0 d bt kd R B C) i n R kd rq D E F j9 j7 k m J j qX l0):=by
 refine ajJ xH Zb Za U (λs o u=>Rg s o u) (λs o u T n q=>Rg.tp q) ?_;intro T s o W l H I g K L hq r M;let⟨g,Om⟩:=g;have hs:=L.fv m<|r m<|Ï U;have N:l0.w.heap.size<=l.w.heap.size:=Z
 have t:=M;have x:=h.M.r (Ì h.M.fv N) λb a=>t b<|h.I b a;have y:=h.C.C λb a=>t b<|h.fq b a;have G:=H;have f:=GZ<|vk G;let⟨O,P,S,V,X⟩:=h.kF _ f.1 f.2;refine⟨_,aal (aoW g K y (λb a=>r b<|È<|h.fq b a) (h.r _ f.1) (aoX h.C (λb a=>t b<|h.fq b a) (h.r _ f.1) O) P S V X x (λb a=>r b<|È<|h.I b a) (λb a=>a.elim (LY (by let⟨_,_,_,_,z,_⟩:=g;exact z) x b)<|LY y x b) (nP s)<|HO s) λv u hv=> ?_,?_⟩
 .obtain⟨p,z,c,rfl,Y⟩:=hv;refine⟨p,z,c,Et s<|bt.r<|(il kd R).getD T 0,?_,U,Y⟩;have e:(ky (iz l0 d bt kd R B C) i n R kd rq D E F j9 j7 k m J j qX l0).e (T+1)=vp bt kd ((il kd R).getD T 0) (oD bt (il kd R) B<|fP kd<|(il kd R).getD T 0):=U;rw[e,Te R T G,<-(aam I)];unfold vp;rw[if_pos f.2]
 .intro Y Sh u w s' Y0 KL e p h3 h4;let⟨V',k1,c⟩:=aoV e p h3;refine⟨V',⟨k1,λb a=> ?_⟩,c⟩;let⟨z,hi⟩:=c b a;rcases h4 z b hi with((q|q)|q)|q;all_goals grind
end
section
variable{R:Nat}{kd:Nat->Int}{o:Nat->Nat}{r:List Ĕ}{l:fe}{u:Nat->fe}{bt:um}{j f:Nat->Prop}{s0:List fK}
def ao0{s:List fK}(h:yK (iz l f bt kd R s0 j) k s):s=oD bt (il kd R) s0 k:=by
 have b:∀(k:Nat) (s:(iz l f bt kd R s0 j).γ),yK (iz l f bt kd R s0 j) k s->s=oD bt (il kd R) s0 k:=λk s h=>by
  induction h with
  |uO=>rfl
  |Cv _ a c=>
   rwa[c]at a
 exact b k s h
structure zr(f:Nat->Prop)(bt:um)(R:Nat)(kd:Nat->Int)(s0:List fK)(l:fe)(an:Nat)(sl:Ñ)(l':fe):Prop where
 M:∀b,l.O b->l'.O b/\l'.w.heap[b]?=l.w.heap[b]?
 r:l'.O an/\∀p,p<R->l'.w.cell? ⟨an,p,Á⟩=Â (Ä<|vp bt kd p<|oD bt (il kd R) s0<|fP kd p)
 Y:∃V,RD (oD bt (il kd R) s0<|fP kd R) sl V l'.w/\∀b,V b->l'.O b/\(f b\/l.w.heap.size<=b)
 d:l'.d=0
 q:¬l'.q
 S:∀b,¬l'.I b
 C:(∀a,¬l'.r a)/\(∀a,¬l'.N a)/\∀a,¬l'.K a
 I:l'.w.cell? ⟨an,R,Á⟩=Á/\kJ l'.w an=Â (0,0)
def ao1{a:fe}(h:Fc (iz l f bt kd R s0 j) R kd l i v a):zr f bt R kd s0 l i v a:=by let⟨s,V,g,c,k⟩:=h.G1;have e:=ao0 g;subst e;exact⟨h.uS,h.kt,⟨V,c.1,λb q=>⟨k b q,c.2 b q⟩⟩,h.d,h.q,h.rd,h.Br,h.Cf⟩
def ao2{J:(Loc->Prop)->Nat->Jd}{F:Ĕ}(P:qX=F.at y (Ð Q (j9::jJ)::L)::r)(c:fA.rj À zX i (KI kd o R n v l qX) .fB D u E w qJ)(C:Option (Nat×Nat))(s:gw l)(S:∀b,¬l.I b)(W:¬l.q)(Y:l.d=0)(LZ:vl zX i l)(H:HP l bt kd o R X)(hZ:(∀b,X b->f b)/\∀b,b=1\/b=2\/b=3\/b=4->f b)(I:∀b,f b->l.O b)(K:∀b,j b->f b)(Bq:RD s0 v j l.w)(wT:w.os=l.w.os/\w.output=l.w.output)(hn:1<=n)(hs:n+R<1000) (hJ:∀t x z B p m c,vl t x z->gw z->zr f bt R kd s0 l B (Æ p m c) z->fA.fj À Î (J t x) z (G (F.at (y.put ((Q[j9]?).bind (·.dst))<|ë #[Æ (Â ⟨B,0,Á⟩) R R,Æ p m c])<|Ð Q jJ::L) r)): ∃N t x T V G2 g e su h,ſ À N (Į E w C) qJ=(.next<|Į g e su,h)/\(e.os=l.w.os/\e.output=l.w.output)/\fA.rj À t x (J t x) T V G2 g e h:= ajB (M:=iz l f bt kd R s0 j) P c C s S W Y LZ (λb q=>I b<|K b q) (λs C V w e h L=>⟨h.1.r L,h.2⟩) (λs C V w h=>⟨by let⟨_,_,_,⟨g,n,N,e,_⟩,_⟩:=h.1;exact⟨g,n,N,e⟩,λb q=>(h.2 b q).imp (I b) id⟩) ⟨Bq,λb h=>È<|K b h⟩ wT hn hs (λg N V T cq B ba bi all e=>⟨aoZ H hZ e,aoY H e⟩) λt x z B p m c e g N=>hJ t x z B p m c e g<|ao1 N
end
end Go.Proofs.Y.me
namespace Go.Proofs.Y.vq
open Go Go.Proofs Go.RowKit Go.Proofs.Y.Lift Go.Proofs.Y.iw
def jW(c:Int):Bool:=decide (48<=c)&&decide (c<=57)
def rC(c:Int):Bool:=decide (97<=c)&&decide (c<=104)
def xr(c:Int):Int:=
 if c=105 then 1 else if c=103 then 2 else if c=98 then 3 else if c=99 then 4 else if c=109 then 5
 else if c=114 then 6 else if c=108 then 7 else if c=117 then 8 else if c=100 then 9 else 0
def L0(c:Int):Int:=if c=62 then 1 else if c=123 then 2 else if c=58 then 3 else 0
theorem Eu(c:Int):jW c=Î↔(48<=c/\c<=57):=by simp[jW]
def ao3(c:Int):rC c=Î↔(97<=c/\c<=104):=by simp[rC]
def vr(k:Int):List Int:=
 if k=1 then[86,58,120,47,66]else if k=2 then[86,58,120,115]else if k=3 then[86,58,120]
 else if k=4 then[86,58,120,62,121,40,110,44,107,41]else if k=5 then[86,58,120,62,121,40,107,41]
 else if k=9 then[86,58,87]else[86]
def vt(k:Int):List Int:=
 if k=1 then[121,61,110]else if k=2 then[80]else[121,40,110,44,107,41]
def pW(a c:Int):Bool:=
 if a=86\/a=87 then c==104||jW c
 else if a=110\/a=107 then jW c
 else if a=120\/a=121 then rC c
 else if a=115 then jW c||(decide (97<=c)&&decide (c<=102))
 else c==a
def pX(a c:Int):Int:=
 if c=48\/jW c=Ë then 0
 else if a=86\/a=87 then 1
 else if a=110\/a=107 then 5
 else 0
def jO(s:ByteArray):List Int:=s.data.toList.map λc=>((c.toNat:Nat):Int)
def ao4(B:ByteArray)(k:Nat)(h:k<B.size):(jO B).drop k=((B[k].toNat:Nat):Int)::(jO B).drop (k+1):=by
 have a:k<(jO B).length:=by simpa[jO]using h
 rw[List.drop_eq_getElem_cons a];congr 1;simp[jO,ċ]
theorem Tf(B:ByteArray):(jO B).length=B.size:=by unfold jO;simp_all
theorem vu(s:ByteArray)(h:0<s.size):jO s=((s[0].toNat:Nat):Int)::(jO s).tail:=by have:=ao4 s 0 h;grind
theorem aan(s:ByteArray)(h:s.size=0):jO s=[]:=by grind [Ý,Tf]
def ao5(s:ByteArray):jO (s.extract 1 s.size)=(jO s).tail:=by unfold jO;rw[Ĳ,ĺ,<-List.map_tail];congr 1;rw[ħ,<-List.drop_one];apply List.take_of_length_le;simp_all
theorem ao6(s:ByteArray)(h:s.size<=10):(s.extract 1 s.size).size<=10:=by grind [č]
theorem ao7(a c:Int):0<=pX a c/\pX a c<=5:=by unfold pX;grind
structure PT where
 c:List Int
 p:ByteArray
structure PR where
 c:List Int
 r:List PT
structure PD where
 S:List PR
 r:Bool
 I:PR
 M:Bool
 N:PT
structure PS where
 C:List Int
 r:Int
 I:Int
 M:Int
 d:PD
namespace PD
def Y(d:PD):List PT:=if d.M then d.I.r++[d.N]else d.I.r
def C(d:PD):List PR:=if d.r then d.S++[⟨d.I.c,d.Y⟩]else d.S
def uo(d:PD)(i:Nat)(z:Int):PD:={d with I:={d.I with c:=d.I.c.set i z}}
def vv(d:PD)(i:Nat)(z:Int):PD:={d with N:={d.N with c:=d.N.c.set i z}}
def kB(d:PD)(i:Nat)(z:Int):PD:=if d.M then d.vv i z else d.uo i z
def sF(d:PD)(p:ByteArray):PD:={d with N:={d.N with p:=p}}
def Er:PT:=⟨[0,0,0,0,0],⟨#[]⟩⟩
def aao(k:Int):PR:=⟨[0,0,0,0,k,0,0,0],[]⟩
def sG(d:PD):PD:={d with I:=⟨d.I.c,d.Y⟩,M:=Î,N:=Er}
def Ev(d:PD)(k:Int):PD:={S:=d.C,r:=Î,I:=aao k,M:=Ë,N:=d.N}
def gf(d:PD)(a z:Int):PD:=
 if a=86 then d.uo 5 z else if a=87 then d.uo 6 z else if a=120 then d.kB 0 z else if a=121 then d.kB 1 z
 else if a=110 then d.kB 2 z else if a=107 then d.kB 3 z else if a=115 then d.uo 7 z else d
def xt(d:PD)(i:Nat):Int:=if d.M then d.N.c.getD i 0 else d.I.c.getD i 0
def G(d:PD)(a:Int):Int:=if a=86 then d.I.c.getD 5 0 else if a=87 then d.I.c.getD 6 0 else if a=110 then d.xt 2 else d.xt 3
end PD
def nQ(a c:Int):Int:=
 if a=120\/a=121 then Þ [97,98,99,100,101,102,103,104] c.toNat.toUInt8
 else if a=115 then Þ [48,49,50,51,52,53,54,55,56,57,97,98,99,100,101,102] c.toNat.toUInt8
 else if c=104 then-1 else(c-48)%256
def sH(z c:Int):Int:=É.wrap<|É.wrap (z*10)+(c-48)%256
def uq(st:PS)(c:Int):Option PS:=
 if c=59/\st.d.S.length+1<24 then Â {st with C:=[82]}
 else if c=44/\0<st.d.Y.length/\st.d.Y.length<8 then Â {st with C:=[120,84],d:=st.d.sG}
 else Á
def zt(st:PS)(k:Int):Option PS:=if k=0 then Á else Â {st with C:=vr k,d:=st.d.Ev k}
def zu(st:PS)(k:Int):Option PS:=if k=0 then Á else Â {st with C:=vt k,I:=0,d:=st.d.vv 4 k}
def pb(st:PS)(a c:Int):PS:={st with r:=pX a c,M:=a,d:=st.d.gf a (nQ a c)}
def lO(B:ByteArray)(k:Nat)(st:PS)(c:Int):Option PS:=
 match st.C with
 |[]=>uq st c
 |want::tl=>
  if want=82 then zt st (xr c)
  else if want=66 then
   if rC c=Î then Â (pb {st with C:=[84],d:=st.d.sG} 120 c)else uq st c
  else if want=84 then zu st (L0 c)
  else if want=80 then
   if c=125 then Â {st with C:=tl,d:=st.d.sF (B.extract (k-st.I.toNat) k)}
   else if st.I=40\/lH c=0 then Á else Â {st with I:=st.I+1}
  else if pW want c=Î then Â {pb st want c with C:=tl}
  else Á
def HQ(st:PS)(c:Int):PS:={st with r:=st.r-1,d:=st.d.gf st.M (sH (st.d.G st.M) c)}
def uu(B:ByteArray)(k:Nat)(st:PS)(c:Int):Option PS:=
 if 0<st.r/\jW c=Î then Â (HQ st c)else lO B k {st with r:=0} c
def sI(B:ByteArray):Nat->Nat->PS->Nat×PS
 |0,k,st=>(k,st)
 |f+1,k,st=>if h:k<B.size then match uu B k st (B[k].toNat:Int)with
  |none=>(k,st)
  |some a=>sI B f (k+1) a
  else(k,st)
def pd0:PD:=⟨[],Ë,⟨[],[]⟩,Ë,⟨[],⟨#[]⟩⟩⟩
def sJ:PS:=⟨[82],0,0,0,pd0⟩
def rD(c:Int)(w:Í): Ò À 94 #[Å ū c] w λe a=>e=Ç (õ<|jW c)/\a=w:=by
 go_enter Tryz.func94,Tryz.ntmps94;go_wp2;all_goals go_ret
 all_goals exact⟨Zg (by simp only[jW];first|(simp[*];done)|(rw[Ě];simp;omega)),U⟩
def ao8(s:ByteArray)(c:Int)(w:Í): Ò À 167 #[Ä s,Å ū c] w λe a=>e=Ç (Å É<|Þ s.data.toList c.toNat.toUInt8)/\a=w:=by go_enter Tryz.func167,Tryz.ntmps167;go_wp2;rw[run_callFunc_extern Tryz.func185 fu fu fu fu,Lib.run_indexByteString];simp only[ų];rw[Oper.upon_value];go_wp2;go_ret;exact⟨U,U⟩
def HR(s:ByteArray)(c:Int)(w:Í): Ò À 146 #[Ä s,Å ū c] w λe a=>e=Ç (Å É<|Þ s.data.toList c.toNat.toUInt8)/\a=w:=by go_enter Tryz.func146,Tryz.ntmps146;go_wp2_with (go_at_call 167;refine(ao8 _ _ _).mono ?_;rintro e a ⟨rfl,rfl⟩);go_ret;exact⟨U,U⟩
def L3(c:Int):Bool:=jW c||(decide (97<=c)&&decide (c<=102))
def ao9:∀n:Fin 256,decide (0<=Þ [97,98,99,100,101,102,103,104] n.val.toUInt8)=rC (n.val:Int):=by decide+kernel
def apa:∀n:Fin 256,decide (0<=Þ [48,49,50,51,52,53,54,55,56,57,97,98,99,100,101,102] n.val.toUInt8)=L3 (n.val:Int):=by decide+kernel
def apb(a:0<=c)(b:c<256):decide (0<=Þ [97,98,99,100,101,102,103,104] c.toNat.toUInt8)=rC c:=by have:=ao9 ⟨c.toNat,Z⟩;rwa[show((c.toNat:Nat):Int)=c from by omega]at this
def apc(a:0<=c)(b:c<256):decide (0<=Þ [48,49,50,51,52,53,54,55,56,57,97,98,99,100,101,102] c.toNat.toUInt8)=L3 c:=by have:=apa ⟨c.toNat,Z⟩;rwa[show((c.toNat:Nat):Int)=c from by omega]at this
def Tg(c:Int)(b:0<=c)(d:c<256)(w:Í): Ò À 98 #[Å ū c] w λe a=>e=Ç (õ<|rC c)/\a=w:=by
 have f:=apb b d;go_enter Tryz.func98,Tryz.ntmps98;go_wp2_with (go_at_call 146;refine(HR _ _ _).mono ?_;rintro e a ⟨rfl,rfl⟩);all_goals go_ret
 all_goals exact⟨U,U⟩
def apd(c:Int)(b:0<=c)(d:c<256)(w:Í): Ò À 149 #[Å ū c] w λe a=>e=Ç (õ<|L3 c)/\a=w:=by
 have f:=apc b d;go_enter Tryz.func149,Tryz.ntmps149;go_wp2_with (go_at_call 146;refine(HR _ _ _).mono ?_;rintro e a ⟨rfl,rfl⟩);all_goals go_ret
 all_goals exact⟨U,U⟩
def ape(c:Int)(w:Í): Ò À 102 #[Å ū c] w λe a=>e=Ç (Å É<|L0 c)/\a=w:=by
 go_enter Tryz.func102,Tryz.ntmps102;go_wp2;all_goals go_ret
 all_goals refine⟨DL ?_,U⟩
 all_goals simp only[beq_iff_eq,beq_eq_false_iff_ne,ne_eq]at*
 all_goals simp[L0, *]
def apf(c:Int)(w:Í): Ò À 97 #[Å ū c] w λe a=>e=Ç (Å É<|xr c)/\a=w:=by
 go_enter Tryz.func97,Tryz.ntmps97;go_wp2;all_goals go_ret
 all_goals refine⟨DL ?_,U⟩
 all_goals simp only[beq_iff_eq,beq_eq_false_iff_ne,ne_eq]at*
 all_goals simp[xr, *]
def aap(b c:Int)(d:0<=c)(f:c<256)(w:Í): Ò À 104 #[Å ū b,Å ū c] w λe a=>e=Ç (õ<|pW b c)/\a=w:=by
 go_enter Tryz.func104,Tryz.ntmps104;go_wp2_with (first|(go_at_call 94;refine(rD _ _).mono ?_;rintro e a ⟨rfl,rfl⟩)|(go_at_call 98;refine(Tg _ d f _).mono ?_;rintro e a ⟨rfl,rfl⟩)|(go_at_call 149;refine(apd _ d f _).mono ?_;rintro e a ⟨rfl,rfl⟩));all_goals go_ret
 all_goals refine⟨Zg ?_,U⟩
 all_goals try go_light
 all_goals simp only[beq_iff_eq,beq_eq_false_iff_ne,ne_eq]at*
 all_goals unfold pW
 all_goals first|(simp[L3, *];done)|(rw[Ě];simp[*];done)|(rw[Ě];simp[*];omega)
def apg(k:Int)(w:Í): Ò À 145 #[Å É k] w λe a=>(∃b:ByteArray,e=Ç (Ä b)/\b.size<=10/\jO b=vr k)/\a=w:=by
 go_enter Tryz.func145,Tryz.ntmps145;go_wp2;all_goals go_ret
 all_goals refine⟨⟨_,U,?_,?_⟩,U⟩
 all_goals try go_light
 all_goals simp only[beq_iff_eq,beq_eq_false_iff_ne,ne_eq]at*
 all_goals first|(simp[jO,vr, *];done)|decide
def aph(k:Int)(w:Í): Ò À 148 #[Å É k] w λe a=>(∃b:ByteArray,e=Ç (Ä b)/\b.size<=10/\jO b=vt k)/\a=w:=by
 go_enter Tryz.func148,Tryz.ntmps148;go_wp2;all_goals go_ret
 all_goals refine⟨⟨_,U,?_,?_⟩,U⟩
 all_goals try go_light
 all_goals simp only[beq_iff_eq,beq_eq_false_iff_ne,ne_eq]at*
 all_goals first|(simp[jO,vt, *];done)|decide
def mO(m s:Nat):Ñ->Prop
 |Å ū _=>False
 |Å _ _=>True
 |õ _=>True
 |Ä _=>True
 |Ã Á=>True
 |Ã (Â a)=>m<=a.block/\a.block<s
 |Æ Á _ _=>True
 |Æ (Â a) _ _=>m<=a.block/\a.block<s
 |_=>False
def mO.r(h:mO m i v)(d:i<=n):mO m n v:=by
 cases v with
 |int k b=>cases k<;>exact h
 |pointer a=>cases a with
  |none=>trivial
  |some a=>exact⟨h.1,Ģ h.2 d⟩
 |slice a b c=>cases a with
  |none=>trivial
  |some a=>exact⟨h.1,Ģ h.2 d⟩
 |_=>exact h
def L4(m s:Nat)(o:Obj):Prop:=∃c e a,o=Û c e a/\a.2<=c.size/\0<c.size/\e≠304/\e≠305/\∀v∈c.toList,mO m s v
def jx(m:Nat)(w:Í):Prop:=∀i o,m<=i->w.heap[i]?=Â o->L4 m w.heap.size o
def L4.r{o:Obj}(h:L4 m i o)(a:i<=n):L4 m n o:=by let⟨c,e,b,d,f,g,j,k,l⟩:=h;exact⟨c,e,b,d,f,g,j,k,λv p=>(l v p).r a⟩
def jx.I(w:Í):jx w.heap.size w:=λi o a h=>by rw[ı a]at h;cases h
def jx.fR(h:jx m w):jx m w.drew:=h
def jx.iO(h:jx m w)(n:Nat):jx m (w.drewN n):=h
theorem jx.gI(h:jx m w)(cs:Array Ñ)(t:Ď)(c:0<cs.size)(b:t≠304/\t≠305)(d:∀v∈cs.toList,mO m w.heap.size v):jx m (w.alloc<|Û cs t):=by
 intro i o f a;have k:(w.alloc<|Û cs t).heap.size=w.heap.size+1:=fp
 by_cases e:i<w.heap.size
 .rw[Š _ _ _ e]at a;exact(h i o f a).r Z
 .by_cases g:i=w.heap.size
  .subst g;rw[Ŵ]at a;cases a;exact⟨cs,t,(0,0),U,Ø _,c,b.1,b.2,λv j=>(d v j).r Z⟩
  .grind
def jx.r(h:jx m w)(p:ù)(l:mO m w.heap.size v):jx m (w.setCell p v):=by
 intro i o f a;have n:(w.setCell p v).heap.size=w.heap.size:=fp
 rw[n];by_cases e:i=p.block
 .subst e;unfold Ż at a;simp only[Ķ,if_true]at a;cases d:w.heap[p.block]? with
  |none=>rw[d]at a;cases a
  |some x=>
   rw[d]at a;obtain⟨c,e,r,rfl,g,j,s,t,k⟩:=h _ _ f d;simp only[Ă,Ô]at a;subst a;refine⟨_,e,r,U,?_,?_,s,t,λu b=> ?_⟩
   .split
    .exact g
    .rwa[Ĭ]
   .split
    .exact j
    .rwa[Ĭ]
   .split at b
    .exact k u b
    .rw[Array.toList_setIfInBounds]at b;rcases Ĩ b with q|q
     .exact k u q
     .rwa[q]
 .rw[ģ _ _ _ _ (by simpa using e)]at a;exact h i o f a
theorem apj{ty:Ď}{bytes base:Nat}(y:P.underlying t=Â (.slice e))(B:P.info? e=Â zJ)(G:zJ.zero=Â (Ã Á)) (s:zJ.size=1) (H:zJ.bytes=bytes) (f:w.ownsRow base e 1 v n l) (a:ù) (c:Nat) (C:∀j M,[z][j]?=Â M->w.cell? (a.add j)=Â M) (N:z.oneCell'=Î) (O:n+1<=đ) (I:(n+1)*bytes<=140737488355328) (W:base<=w.heap.size) (X:lW e=Ë) (hm:m<=base) (D:jx m w) (hg:mO m w.heap.size z) (Y:e≠304/\e≠305): ∃h u,(ę #[t,t] ty #[v,Æ (Â a) 1 c]).run P w=.ok h u/\pL w base e 1 v n l 1 [z] h u/\jx m u/\mO m u.heap.size h:=by
 obtain⟨h,u,J,E⟩:=RG y B G s H U f a c [z] Z U C (λx b=>by simp at b;subst b;exact N) O I W<|È X;have hgv:mO m u.heap.size h:=by
  obtain⟨p,o,rfl⟩:=jo E.fq;cases p with
  |none=>trivial
  |some p=>
   have k:=E.fq.lt p.block (by rcases E.fq.2 with⟨q,_⟩|⟨g,r,d,q,_⟩<;>(cases q;try rfl));exact⟨Z,k.2⟩
 refine⟨h,u,J,E,?_,hgv⟩;have q:[z].length=1*zJ.size:=by rw[s];rfl
 have hlx:l.length=n*zJ.size:=by rw[s];exact f.1
 have aj3:n+1<=9223372036854775807:=by simp only[đ]at O;omega
 have FW:∀x∈l,mO m w.heap.size x:=λx b=>by
  rcases f.2 with⟨_,rfl⟩|⟨g,r,d,rfl,hbg,p,hnc,hcm,Q,htake⟩
  .grind
  .let⟨c2,e2,qc,S,_,_,_,_,q6⟩:=D g _ Z p;grind
 have gr:∀T,jx m (w.drew.alloc<|Û (l.toArray++[z].toArray++φ (Ĺ<|Ã Á) (grownCap w (n+1) T e-(n+1))) e):=λT=>by
  refine jx.gI D _ _ (by simp;omega) Y λx b=> ?_;simp only[Array.toList_append,â]at b;rcases b with(b|b)|b
  .exact FW x b
  .grind
  .have:=RF b;simp[Ĺ]at this;subst this;trivial
 rcases f.2 with⟨rfl,rfl⟩|⟨g,r,d,rfl,hbg,p,hnc,hcm,Q,htake⟩
 .have b:=Ý (by simpa using f.1);subst b;have K:=run_append_nil w t ty e zJ (Ã Á) y B G a 1 c [z] q C Z Z (by rw[H];have k:=I;simp only[œ]at k;omega);grind
 .by_cases apk:n+1<=r
  .have RH:n*zJ.size+[z].length<=d.size:=by rw[q,Q,s];omega
   have K:=run_append_room w t ty e zJ y B g n r d p a 1 c [z] q C (λx b=>by simp at b;subst b;exact N) apk RH;rw[K]at J;cases J;have apl:=setRow_heap w g d (d.toList.take (n*zJ.size)++[z]++d.toList.drop (n*zJ.size+[z].length)).toArray e _ p;have apm:=λk (L:k≠g)=>setRow_other w g k (d.toList.take (n*zJ.size)++[z]++d.toList.drop (n*zJ.size+[z].length)).toArray L;let⟨c2,e2,qc,S,q2,q3,q4,q5,q6⟩:=D g _ Z p;cases S;intro k o L F;have j1:(w.setRow g (d.toList.take (n*zJ.size)++[z]++d.toList.drop (n*zJ.size+[z].length)).toArray).heap.size=w.heap.size:=fp
   rw[j1];by_cases V:k=g
   .subst V;rw[apl]at F;cases F;refine⟨_,_,_,U,fp,(by simp;omega),q4,q5,λx b=> ?_⟩;grind
   .rw[apm k V]at F;exact D k o L F
  .have k:w.ownsRow base e zJ.size (Æ (Â ⟨g,0,Á⟩) n r) n l:=by rwa[s]
   have K:=run_append_grow w t ty e zJ (Ã Á) y B G ⟨g,0,Á⟩ n r l hlx (k.cells U) a 1 c [z] q C Z Z (by rw[H];exact growslice_fits Z I);grind
def aaq{f:Array ğ}{E:Prop}{base:Nat} (k:o.guard=Á) (s x:Operand) (t:Ď) (p:o.op=Op.call {callee:=Callee.builtin κ,args:=#[s,x],argTypes:=#[t,t]}) {bytes:Nat} (q:P.underlying t=Â (.slice e)) (r:P.info? e=Â zJ) (B:zJ.zero=Â (Ã Á)) (C:zJ.size=1) (D:zJ.bytes=bytes) (F:y.eval s=v) (G:w.ownsRow base e 1 v n l) (ad:ù) (H:y.eval x=Æ (Â ad) 1 b) (I:∀j g,[z][j]?=Â g->w.cell? (ad.add j)=Â g) (J:z.oneCell'=Î) (L:n+1<=đ) (M:(n+1)*bytes<=140737488355328) (N:base<=w.heap.size) (O:lW e=Ë) (S:m<=base) (T:jx m w) (V:mO m w.heap.size z) (W:e≠304/\e≠305) (h:∀d u,pL w base e 1 v n l 1 [z] d u->jx m u->mO m u.heap.size d->K (y.put o.dst d) u): if ē o (Ι f y.tmps)=Î then Oper.wp P o y w K vJ else E:=by
 have X:ē o (Ι f y.tmps)=Î:=by simp[ē,k]
 rw[if_pos X];let⟨d,u,Y,h2,h3,h4⟩:=apj (ty:=o.type) q r B C D G ad b I J L M N O S T V W;unfold Oper.wp;simp[ś,p,ρ,ak,ς,F,H,Y,ų];exact h d u h2 h3 h4
def nt(l:List Nat):List Ñ:=l.map λa=>Ã<|Â ⟨a,0,Á⟩
def n7(l:List Int):List Ñ:=l.map λz=>Å É z
def Ew(p:PT):List Ñ:=n7 p.c++[Ä p.p]
def BV(c:List Int)(a:Ñ):List Ñ:=n7 c++[a]
structure oE(lo hi:Nat)(tb:List Nat)(l:List PT)(w:Í):Prop where
 r:tb.length=l.length
 I:∀(j a:Nat) (p:PT),tb[j]?=Â a->l[j]?=Â p->lo<=a/\a<hi/\p.c.length=5/\fi a (Ew p) 200 w
structure vw(B q:Nat)(r:PR)(w:Í):Prop where
 M:q<B
 C:r.c.length=8
 I:∃vb tb,fi q (BV r.c vb) 161 w/\w.ownsRow 0 149 1 vb tb.length (nt tb)/\(∀j,vb.ownBlock=Â j->j<B)/\oE 0 B tb r.r w
structure pd(B:Nat)(qs:List Nat)(rs:List PR)(w:Í):Prop where
 I:qs.length=rs.length
 M:∀(j q:Nat) (r:PR),qs[j]?=Â q->rs[j]?=Â r->vw B q r w
section
variable{w':Í}{lo hi B q:Nat}{tb qs:List Nat}{l:List PT}{r:PR}{rs:List PR}
def oE.C(h:oE lo hi tb l w)(k:fc X w w')(f:∀a c g,lo<=a->a<hi->w.heap[a]?=Â (Û c 200 g)->¬X a):oE lo hi tb l w':= ⟨h.r,λj a p i m=>by let⟨b,d,n,e⟩:=h.I j a p i m;exact⟨b,d,n,e.I k<|f a _ _ b d e⟩⟩
def oE.M(h:oE lo hi tb l w)(f:i<=lo)(g:hi<=n):oE i n tb l w:= ⟨h.r,λj a p b c=>by let⟨k,m,d,e⟩:=h.I j a p b c;exact⟨Z,Z,d,e⟩⟩
theorem oE.N(lo hi:Nat)(w:Í):oE lo hi [] [] w:=⟨U,λj a p h=>by cases h⟩
theorem Ex{α:Type}{l:List α}{a x:α}(h:(l++[a])[j]?=Â x):l[j]?=Â x\/j=l.length/\x=a:=by grind
theorem oE.Ti{p:PT}(h:oE lo hi tb l w)(g:lo<=i)(k:i<hi)(m:p.c.length=5)(n:fi i (Ew p) 200 w):oE lo hi (tb++[i]) (l++[p]) w:=by
 refine⟨by simp[h.r],λj x y d b=> ?_⟩;rcases Ex d with e|⟨e,rfl⟩
 .rcases Ex b with f|⟨f,rfl⟩
  .exact h.I j x y e f
  .have:=(Õ.1 e).1;have:=h.r;omega
 .rcases Ex b with f|⟨f,rfl⟩
  .have:=(Õ.1 f).1;have:=h.r;omega
  .grind
def Tk(B:Nat)(w:Í)(i:Nat):Prop:=B<=i\/∃c T a,w.heap[i]?=Â (Û c T a)/\(T=153\/T=148)
theorem Tl(a:Tk B w i)(hi:i<B)(h:w.heap[i]?=Â (Û d T xJ))(b:T≠153/\T≠148):False:=by rcases a with q|⟨e,f,qc,g,j⟩;all_goals grind
theorem vw.uS(h:vw B q r w)(k:fc X w w')(d:∀i,i<w.heap.size->X i->Tk B w i):vw B q r w':=by let⟨f,tb,b,g,l,m⟩:=h.I;refine⟨h.M,h.C,f,tb,b.I k λx=>Tl (d q b.M x) h.M b A,ia g k λj o x=> ?_,l,m.C k λa c p _ n e x=>Tl (d a (á.1 e).1 x) n e A⟩;grind [lG,Tl]
def vw.fN(h:vw B q r w)(a:B<=i):vw i q r w:=by let⟨b,tb,c,d,e,f⟩:=h.I;exact⟨by have:=h.M;omega,h.C,b,tb,c,d,λj g=>by have:=e j g;omega,f.M (æ _) a⟩
def pd.C(h:pd B qs rs w)(k:fc X w w')(a:∀i,i<w.heap.size->X i->Tk B w i):pd B qs rs w':= ⟨h.I,λj q r b c=>(h.M j q r b c).uS k a⟩
def pd.Ti(h:pd B qs rs w)(b:B<=i)(c:vw i q r w):pd i (qs++[q]) (rs++[r]) w:=by
 refine⟨by simp[h.I],λj x y d a=> ?_⟩;rcases Ex d with e|⟨e,rfl⟩
 .rcases Ex a with f|⟨f,rfl⟩
  .exact(h.M j x y e f).fN b
  .have:=(Õ.1 e).1;have:=h.I;omega
 .rcases Ex a with f|⟨f,rfl⟩
  .have:=(Õ.1 f).1;have:=h.I;omega
  .exact c
theorem pd.N(B:Nat)(w:Í):pd B [] [] w:=⟨U,λj q r h=>by cases h⟩
end
structure Gh where
 a:List Nat
 q:Nat
 t:Nat
 B:Nat
 tb:List Nat
 N:Ñ
 r:Ñ
 b:Option ù
namespace Gh
def C(g:Gh)(d:PD):List Nat:=if d.r then g.a++[g.q]else g.a
def I(g:Gh)(d:PD):List Nat:=if d.M then g.tb++[g.t]else g.tb
def S(g:Gh)(d:PD):Option ù:=if d.r then Â ⟨g.q,0,Á⟩else Á
def Y(g:Gh)(d:PD):Option ù:=if d.M then Â ⟨g.t,0,Á⟩else g.b
def M(g:Gh)(d:PD):Nat:=if d.M then g.t else g.q
def G(g:Gh)(d:PD):Option ù:=if d.r then Â ⟨g.M d,0,Á⟩else Á
def BW(g:Gh)(d:PD)(a:Int):ù:=if a=86 then⟨g.q,5,Á⟩else if a=87 then⟨g.q,6,Á⟩else if a=110 then⟨g.M d,2,Á⟩else⟨g.M d,3,Á⟩
end Gh
structure vx(m:Nat)(g:Gh)(d:PD)(w:Í):Prop where
 S:m<=g.B
 N:g.B<=g.q
 M:d.I.c.length=8
 r:fi g.q (BV d.I.c g.r) 161 w
 I:w.ownsRow g.B 149 1 g.r (g.I d).length (nt<|g.I d)
 Y:oE g.B g.t g.tb d.I.r w
 C:d.M=Î->g.B<=g.t/\d.N.c.length=5/\fi g.t (Ew d.N) 200 w
 a:d.M=Ë->g.tb=[]/\d.I.r=[]
structure kL(m:Nat)(g:Gh)(d:PD)(w:Í):Prop where
 C:w.ownsRow m 148 1 g.N (g.C d).length (nt<|g.C d)
 I:pd g.B g.a d.S w
 r:d.r=Î->vx m g d w
 N:d.r=Ë->d.M=Ë
def Tm(s:ByteArray)(g:Gh)(d:PD)(a:Option ù)(kV b:Int):List Ñ:=
 [Ä s,g.N,Ã<|g.S d,Ã<|g.Y d,Ã<|g.G d,Ã a,Å É kV,Å É b]
structure gP(m b:Nat)(g:Gh)(c:Option ù)(s:ByteArray)(st:PS)(w:Í):Prop where
 S:m<=b
 a:jx m w
 r:fi b (Tm s g st.d c st.r st.I) 153 w
 M:s.size<=10
 I:jO s=st.C
 C:kL m g st.d w
 c:0<st.r->st.d.r=Î/\c=Â (g.BW st.d st.M)
 N:st.d.r=Î\/st.C=[82]
def rE(m b:Nat)(st:PS)(w a:Í):Prop:=fc (λi=>m<=i) w a/\∃g i s,gP m b g i s st a
section
variable{w':Í}{g:Gh}{d:PD}{s:ByteArray}{st:PS}
theorem vx.uS(h:vx m g d w)(k:fc X w w')(p:∀i c T b,w.heap[i]?=Â (Û c T b)->X i->T=153\/T=148):vx m g d w':=by
 have l:∀{i:Nat} {c:Array Ñ} {T:Ď} {b:Nat×Nat},w.heap[i]?=Â (Û c T b)->(T≠153/\T≠148)->¬X i:=λ{i c T b} n f x=>(p i c T b n x).elim f.1 f.2;refine⟨h.S,h.N,h.M,h.r.I k<|l h.r A,ia h.I k λj r=> ?_,h.Y.C k λa c b _ _ q=>l q A,λe=> ?_,h.a⟩
 .let⟨o,s⟩:=lG h.I r;grind
 .let⟨n,f,o⟩:=h.C e;exact⟨n,f,o.I k<|l o A⟩
theorem kL.S(h:kL m g d w)(k:fc X w w')(b:∀i c T a,w.heap[i]?=Â (Û c T a)->X i->T=153)(f:∀i,i<w.heap.size->X i->∃c a,w.heap[i]?=Â (Û c 153 a)):kL m g d w':=by
 refine⟨ia h.C k λj l x=> ?_,h.I.C k λi n x=> ?_,λe=>(h.r e).uS k λi c T a q x=>È<|b i c T a q x,h.N⟩
 .let⟨o,q⟩:=lG h.C l;grind
 .let⟨c,a,q⟩:=f i n x;exact Ï ⟨c,_,a,q,È U⟩
def kL.M(h:kL m g d w)(a:fi b l 153 w)(k:fc (λi=>i=b) w w'):kL m g d w':= h.S k (λi c T e q x=>by subst x;unfold fi at a;rw[a]at q;cases q;rfl) λi _ x=>⟨l.toArray,(0,0),by rwa[x]⟩
def pe{i:Nat}{v:Value}{j:Nat}{vs:List Value}{T:TypeId}(h:fi j vs T w)(hT:lW T=false:=by decide):fc (λk=>k=j) w (w.setCell ⟨j,i,none⟩ v):=fc.I (X:=λk=>k=j) U v<|Ï<|h.G hT
def kL.aar(h:kL m g d w):(g.C d).length=d.C.length:=by unfold Gh.C PD.C;split<;>simp[h.I.I]
def vx.G(h:vx m g d w):(g.I d).length=d.Y.length:=by unfold Gh.I PD.Y;split<;>simp[h.Y.r]
def Tn(h:i<zQ.length)(v:Ñ):(n7 zQ++[v])[i]?=Â (Å É<|zQ.getD i 0):=by rw[Ħ (by simpa[n7]using h)];simp[n7,Ġ,h]
def aas(l:List Int)(i:Nat)(z:Int)(v:Ñ)(h:i<l.length):(n7 l++[v]).set i (Å É z)=n7 (l.set i z)++[v]:=by rw[List.set_append_left _ _ (by simpa[n7]using h)];simp[n7,List.map_set]
def aat(l:List Int)(v u:Ñ):(n7 l++[v]).set l.length u=n7 l++[u]:=by rw[Ĵ _ _ (by simp[n7])];simp[n7]
def BX(l:List Int)(v:Ñ):(n7 l++[v])[l.length]?=Â v:=by rw[ġ (by simp[n7])];simp[n7]
theorem kL.Y(h:kL m g d w)(on:d.r=Î)(n:i<8)(z:Int):kL m g (d.uo i z) (w.setCell ⟨g.q,i,Á⟩<|Å É z):=by
 have l:=h.r on;have k:fc (λk=>k=g.q) w (w.setCell ⟨g.q,i,Á⟩<|Å É z):=pe l.r;have r:=l.N;refine⟨ia h.C k λj b x=>jw h.C l.r A (by rw[b,x]),h.I.C k λi _ x=>È Z,λ_=>⟨l.S,l.N,by simp[PD.uo,l.M],?_,ia l.I k λj b x=>jw l.I l.r A (by rw[b,x]),l.Y.C k λa c s _ _ q x=> ?_,λe=> ?_,l.a⟩,h.N⟩
 .have:=l.r.gf i<|Å É z;unfold BV at this;rw[aas _ _ _ _ (by rwa[l.M])]at this;exact this
 .have:=l.r;unfold fi at this;grind
 .let⟨o,p,f⟩:=l.C e;exact⟨o,p,f.I k λx=>(fi.S f l.r A) x⟩
theorem kL.kB(h:kL m g d w)(on:d.r=Î)(f:d.M=Î){p:PT}(n:p.c.length=5)(r:(Ew d.N).set i v=Ew p):kL m g {d with N:=p} (w.setCell ⟨g.t,i,Á⟩ v):=by have l:=h.r on;let⟨o,s,b⟩:=l.C f;have k:fc (λk=>k=g.t) w (w.setCell ⟨g.t,i,Á⟩ v):=pe b;refine⟨ia h.C k λj e x=>jw h.C b A (by rw[e,x]),h.I.C k λi _ x=>È Z,λ_=>⟨l.S,l.N,l.M,l.r.I k λx=>(fi.S l.r b A) x,ia l.I k λj e x=>jw l.I b A (by rw[e,x]),l.Y.C k λa c u _ q _ x=>by omega,λ_=>⟨o,n,?_⟩,l.a⟩,h.N⟩;have:=b.gf i v;grind
def kL.G(h:kL m g d w)(on:d.r=Î)(a:d.M=Î)(c:i<5)(z:Int):kL m g (d.vv i z) (w.setCell ⟨g.t,i,Á⟩<|Å É z):=by let⟨e,b,f⟩:=(h.r on).C a;exact h.kB on a (by simp[b])<|aas _ _ _ _<|by rwa[b]
def kL.sF(h:kL m g d w)(on:d.r=Î)(a:d.M=Î)(p:ByteArray):kL m g (d.sF p) (w.setCell ⟨g.t,5,Á⟩<|Ä p):=by let⟨e,b,f⟩:=(h.r on).C a;refine h.kB on a b ?_;have:=aat d.N.c (Ä d.N.p)<|Ä p;rwa[b]at this
structure pY(m b:Nat)(g:Gh)(d:PD)(ab ao:Nat)(f:Int->PD)(x:Int)(w:Í):Prop where
 r:ab≠b
 N:m<=ab
 a:ab<w.heap.size
 C:w.cell? ⟨ab,ao,Á⟩=Â (Å É x)
 I:w.frozen? ⟨ab,ao,Á⟩=Ë
 nf:NF ab w
 Y:∀W,kL m g d W->∀z,kL m g (f z)<|W.setCell ⟨ab,ao,Á⟩<|Å É z
 M:∀z,g.S (f z)=g.S d/\g.Y (f z)=g.Y d/\g.G (f z)=g.G d/\(f z).r=d.r/\∀n,g.BW (f z) n=g.BW d n
theorem Ey(h:kL m g d w)(f:fi b l 153 w)(on:d.r=Î)(e:i<8):pY m b g d g.q i (λz=>d.uo i z) (d.I.c.getD i 0) w:=by have a:=h.r on;exact⟨fi.S a.r f A,Ì a.S a.N,a.r.M,a.r.r i _ (Tn (by rwa[a.M]) _),a.r.C i,a.r.G,λW j z=>j.Y on e z,λz=>⟨U,U,U,U,λn=>rfl⟩⟩
theorem aau(h:kL m g d w)(k:fi b l 153 w)(on:d.r=Î)(f:d.M=Î)(j:i<5):pY m b g d g.t i (λz=>d.vv i z) (d.N.c.getD i 0) w:=by have a:=h.r on;let⟨o,p,e⟩:=a.C f;exact⟨fi.S e k A,Ì a.S o,e.M,e.r i _ (Tn (by rwa[p]) _),e.C i,e.G,λW q z=>q.G on f j z,λz=>⟨U,U,U,U,λn=>rfl⟩⟩
theorem Ez(h:kL m g d w)(a:fi b l 153 w)(on:d.r=Î)(c:i<4):pY m b g d (g.M d) i (λz=>d.kB i z) (d.xt i) w:=by unfold PD.kB PD.xt Gh.M;split;all_goals grind [aau,Ey]
theorem gP.G{f:Int->PD}(h:gP m b g O s st w)(n:pY m b g st.d i j f c w)(z:Int):gP m b g O s {st with d:=f z} (w.setCell ⟨i,j,Á⟩<|Å É z):=by
 let⟨e,l,o,a,p⟩:=n.M z;have k:fc (λk=>k=i) w (w.setCell ⟨i,j,Á⟩<|Å É z):=fc.I (X:=λk=>k=i) U _<|È U;refine⟨h.S,h.a.r _ trivial,?_,h.M,h.I,n.Y w h.C z,λq=> ?_,?_⟩
 .have:=h.r.I k λc=>n.r c.symm;unfold Tm at this|-;grind
 .let⟨r,t⟩:=h.c q;grind
 .simp only[a];exact h.N
def gP.L5(h:gP m b g O s st w)(a:ByteArray)(r:List Int)(c:a.size<=10)(e:jO a=r)(f:st.d.r=Î\/r=[82]):gP m b g O a {st with C:=r} (w.setCell ⟨b,0,Á⟩<|Ä a):= ⟨h.S,h.a.r _ trivial,h.r.gf 0 _,c,e,h.C.M h.r<|pe h.r,h.c,f⟩
def gP.Y(h:gP m b g O s st w)(z:Int)(a:0<z->st.d.r=Î/\O=Â (g.BW st.d st.M)):gP m b g O s {st with r:=z} (w.setCell ⟨b,6,Á⟩<|Å É z):= ⟨h.S,h.a.r _ trivial,h.r.gf 6 _,h.M,h.I,h.C.M h.r<|pe h.r,a,h.N⟩
def gP.aav(h:gP m b g O s st w)(z:Int):gP m b g O s {st with I:=z} (w.setCell ⟨b,7,Á⟩<|Å É z):= ⟨h.S,h.a.r _ trivial,h.r.gf 7 _,h.M,h.I,h.C.M h.r<|pe h.r,h.c,h.N⟩
def gP.aaw(h:gP m b g O s st w)(a:ù)(n:Int)(d:st.r=0)(c:m<=a.block/\a.block<w.heap.size):gP m b g (Â a) s {st with M:=n} (w.setCell ⟨b,5,Á⟩<|Ã<|Â a):= ⟨h.S,h.a.r _ c,h.r.gf 5 _,h.M,h.I,h.C.M h.r<|pe h.r,λq=>by have:0<st.r:=q;omega,h.N⟩
def gP.fR(h:gP m b g O s st w):gP m b g O s st w.drew:=by have k:=fc.fR fg w;exact⟨h.S,h.a,h.r.I k id,h.M,h.I,h.C.S k (λ_ _ _ _ _ x=>x.elim) λ_ _ x=>x.elim,h.c,h.N⟩
end
section
variable{g:Gh}{st:PS}{f:Int->PD}
def pY.S{d:PD}(a:pY m b g d n j f h w)(i:Nat)(v:Ñ):pY m b g d n j f h (w.setCell ⟨b,i,Á⟩ v):= ⟨a.r,a.N,by simpa using a.a,by rw[G5<|Ne.symm a.r];exact a.C,by rw[World.frozen?_setCell];exact a.I,λc T e q=>a.nf c T e (by rwa[ģ _ _ _ _ (by simpa using a.r)]at q),a.Y,a.M⟩
def gP.To(h:gP m b g O B st w)(n:Int)(a:st.r=0):gP m b g O B {st with M:=n} w:= ⟨h.S,h.a,h.r,h.M,h.I,h.C,λq=>by have:0<st.r:=q;omega,h.N⟩
def mB(h:gP m b g O B st w)(i:Nat)(v:Ñ):fc (λi=>m<=i) w (w.setCell ⟨b,i,Á⟩ v):=fc.I (X:=λi=>m<=i) (p:=⟨b,i,Á⟩) h.S v<|Ï h.r.G
def EA(a:pY m b g st.d n j f h w)(z:Int):fc (λi=>m<=i) w (w.setCell ⟨n,j,Á⟩<|Å É z):=fc.I (X:=λi=>m<=i) (p:=⟨n,j,Á⟩) a.N _<|È U
def vy(c a:Int):Int:=if c=104\/c=48 then 0 else a-1
def mM(c:Int):Int:=if c=104 then-1 else(c-48)%256
def Tp{st:PS}(h:st.r=0)(n:Int)(d:PD):({st with r:=0,M:=n,d:=d}:PS)={st with M:=n,d:=d}:=by rw[<-h]
def L8(a:gP m b g O B st w)(k:pY m b g st.d n j f h w)(l:st.r=0)(p:st.d.r=Î)(c o i:Int)(C:0<=o)(D:o<=6)(q:∀z,g.BW (f z) i=⟨n,j,Á⟩): Ò À 147 #[Ã<|Â ⟨b,0,Á⟩,Ã<|Â ⟨n,j,Á⟩,Å ū c,Å É o] w λe u=>
  e=Ç (ë #[])/\rE m b {st with r:=vy c o,M:=i,d:=f (mM c)} w u:=by
 have E:=a.r.r 5 _ U;have F:=a.r.r 6 _ U;have G:=a.r.C 5;have I:=a.r.C 6;have J:=k.C;have K:=k.I;have L:=k.r;have M:¬b=n:=λe=>k.r e.symm;have t:m<=n/\n<w.heap.size:=⟨k.N,k.a⟩;have H:=ff<|Ê a<|Ê k<|Ê q<|Ê l p;by_cases s:c=104
 .subst s;go_enter Ŗ,ŋ;go_wp2;first|go_end0|refine ÿ (results_none U _ _ _) U ?_
  let⟨a,k,q,l,p⟩:=H.out;refine⟨U,EA k _,g,O,B,?_⟩;have:=(a.G k<|-1).To i l;rw[show vy 104 o=0 from if_pos<|È U,Tp l];exact this
 .have N:(c==104)=Ë:=by rwa[beq_eq_false_iff_ne]
  have v:mM c=(c-48)%256:=if_neg s;by_cases y:c=48
  .subst y;go_enter Ŗ,ŋ;go_wp2;go_end0;let⟨a,k,q,l,p⟩:=H.out;have x:=a.aaw ⟨n,j,Á⟩ i l t;have r:=k.S 5<|Ã<|Â ⟨n,j,Á⟩;refine⟨U,(mB a 5 _).fh<|EA r _,g,Â ⟨n,j,Á⟩,B,?_⟩;have:=x.G r 0;rw[show vy 48 o=0 from if_pos<|Ï U,Tp l,v];exact this
  .go_enter Ŗ,ŋ;go_wp2;go_end0;let⟨a,k,q,l,p⟩:=H.out;have r:=k.S 5<|Ã<|Â ⟨n,j,Á⟩;have x:=(a.aaw ⟨n,j,Á⟩ i l t).G r<|(c-48)%256;refine⟨U,((mB a 5 _).fh<|EA r _).fh<|mB x 6 _,g,Â ⟨n,j,Á⟩,B,?_⟩;rw[show vy c o=o-1 from if_neg Z,v];exact(x.Y (o-1) λ_=>⟨by simp only;rwa[(k.M _).2.2.2.1],by simp only;rw[q]⟩)
theorem L9{b a:Int}(h:pW a c=Î)(d:(a=86\/a=87)/\b=2\/(a=110\/a=107)/\b=6):vy c b=pX a c:=by unfold vy pX;unfold pW at h;grind [Eu]
theorem Ma{a:Int}(h:¬(a=86\/a=87)/\¬(a=110\/a=107)):pX a c=0:=by unfold pX;grind
theorem Mb{a:Int}(h:a=86\/a=87\/a=110\/a=107):nQ a c=mM c:=by unfold nQ mM;grind
def Tq(a:gP m b g O B st w)(k:pY m b g st.d n j f h w)(l:st.r=0){i z:Int}(e:c=0)(o:u=(w.setCell ⟨n,j,Á⟩<|Å É z).drew):rE m b {st with r:=c,M:=i,d:=f z} w u:=by subst o;subst e;rw[Tp l];exact⟨(EA k z).fh<|fc.fR _ _,g,O,B,((a.G k z).To i l).fR⟩
end
section
variable{g:Gh}{st:PS}
def HT{d:PD}(a:d.M=Î):g.Y d=Â ⟨g.t,0,Á⟩:=if_pos a
def apn:zu st 0=Á:=rfl
def apo(h:gP m b g O B st w)(r:st.r=0)(on:st.d.r=Î)(f:st.d.M=Î)(k:Int): Ò À 101 #[Ã<|Â ⟨b,0,Á⟩,Å É k] w λe u=>match zu st k with
  |none=>e=Ç (õ Ë)/\u=w
  |some a=>e=Ç (õ Î)/\rE m b a w u:=by
 have s:=h.r.r 0 _ U;have o:=h.r.r 3 _ U;have v:=h.r.r 7 _ U;rw[HT f]at o;have x:=h.r.C 0;have y:=h.r.C 7;have a:=aau h.C h.r on f (i:=4) A;have z:=a.C;have C:=a.I;have D:=a.r;have E:¬b=g.t:=λe=>a.r e.symm;have H:=ff<|Ê h a;by_cases c:k=0
 .subst c;rw[apn];go_enter Κ,ż;go_wp2;go_ret;exact⟨U,U⟩
 .have F:(k==0)=Ë:=by rwa[beq_eq_false_iff_ne]
  have e:zu st k=Â {st with C:=vt k,I:=0,d:=st.d.vv 4 k}:=if_neg c;rw[e];go_enter Κ,ż;go_wp2_with (go_at_call 148;refine(aph _ _).mono ?_;rintro e u ⟨⟨j,rfl,p,q⟩,l⟩;subst u);go_ret;let⟨h,a⟩:=H.out;have l:=h.G a k;have n:=l.aav 0;exact⟨U,((EA a k).fh<|mB l 7 _).fh<|mB n 0 _,g,O,j,n.L5 j _ p q<|È on⟩
end
def apq:(À.info? 149).map (λi=>(i.zero,i.size,i.bytes))=Â (Â<|Ã Á,1,8):=fu
def apr:(À.info? 148).map (λi=>(i.zero,i.size,i.bytes))=Â (Â<|Ã Á,1,8):=fu
section
variable{g:Gh}{nm:Option ù}{s:ByteArray}{st:PS}{d:PD}{T:Nat}
structure uw(m:Nat)(g:Gh)(d:PD)(T:Nat)(w:Í):Prop where
 C:w.ownsRow m 148 1 g.N (g.C d).length (nt<|g.C d)
 I:pd g.B g.a d.S w
 N:oE g.B T (g.I d) d.Y w
 tb:fi T (Ew PD.Er) 200 w
def HU(x:i=j)(h:fi j l t w):w.heap[i]?=Â (Û l.toArray t (0,0)):=by rwa[x]
theorem uw.r(h:uw m g d T w)(k:fc X w u)(f:∀i,i<w.heap.size->X i->∃c t b,w.heap[i]?=Â (Û c t b)/\(t=153\/(t=161\/t=149)/\g.B<=i)):uw m g d T u:=by
 have e:∀{i:Nat} {c:Array Ñ} {t:Ď} {b:Nat×Nat},w.heap[i]?=Â (Û c t b)->(t≠153/\t≠161/\t≠149)->¬X i:=λ{i c t b} q1 q2 x=>by grind
 refine⟨ia h.C k λj l=> ?_,h.I.C k λi n x=> ?_,h.N.C k λa c b _ _ q=>e q A,h.tb.I k<|e h.tb A⟩
 .let⟨o,p⟩:=lG h.C l;grind
 .let⟨r,s,qc,o,p⟩:=f i n x;rcases p with rfl|⟨_,z⟩
  .exact Ï ⟨_,_,_,o,È U⟩
  .exact È z
def uw.fL(h:uw m g d T w)(k:fc fg w u):uw m g d T u:=h.r k λ_ _ x=>x.elim
def uw.M(h:uw m g d T w)(a:fi b l 153 w):uw m g d T (w.setCell ⟨b,i,Á⟩ v):= h.r (pe a) λi _ x=>⟨_,_,_,HU x a,È U⟩
theorem vx.aax(l:vx m g d w):oE g.B w.heap.size (g.I d) d.Y w:=by
 unfold Gh.I PD.Y;split
 .rename_i e;let⟨b,c,a⟩:=l.C e;have:=a.M;exact(l.Y.M (æ _) Z).Ti b a.M c a
 .rename_i e;let⟨b,c⟩:=l.a (by simpa using e);grind [oE.N]
theorem jx.C(n:jx m w)(g:fi b l e w)(C:m<=b)(p:e≠304/\e≠305)(d:Array Ñ)(t:Ď)(u:0<d.size)(r:t≠304/\t≠305)(h:∀v∈d.toList,mO m (w.heap.size+1) v):jx m ((w.setCell ⟨b,i,Á⟩<|Ã<|Â ⟨w.heap.size,0,Á⟩).alloc<|Û d t):=by
 have s:(w.setCell ⟨b,i,Á⟩<|Ã<|Â ⟨w.heap.size,0,Á⟩).heap.size=w.heap.size:=fp
 have D:=g.M;intro j o k c;have x:((w.setCell ⟨b,i,Á⟩<|Ã<|Â ⟨w.heap.size,0,Á⟩).alloc<|Û d t).heap.size=w.heap.size+1:=fp
 rw[x];by_cases a:j<w.heap.size
 .rw[Š _ _ _ (by rwa[s])]at c;by_cases f:j=b
  .subst f;have:=g.gf i<|Ã<|Â ⟨w.heap.size,0,Á⟩;unfold fi at this;rw[this]at c;cases c;let⟨E,F,G,y,H,z,I,J,B⟩:=n j _ k g;cases y;refine⟨_,_,_,U,fp,by simpa using z,p.1,p.2,λv h=> ?_⟩;rcases Ĩ (by simpa using h)with q|q
   .exact(B v<|by simpa using q).r Z
   .rw[q];exact⟨Ì k<|Nat.le_of_lt a,Nat.lt_succ_self _⟩
  .rw[ģ _ _ _ _ (by simpa using f)]at c;exact(n j o k c).r Z
 .by_cases f:j=w.heap.size
  .have:=Ŵ (w.setCell ⟨b,i,Á⟩<|Ã<|Â ⟨w.heap.size,0,Á⟩)<|Û d t;rw[s]at this;rw[f,this]at c;cases c;exact⟨_,_,_,U,Ø _,u,r.1,r.2,h⟩
  .grind
def Mc(b:Nat)(w:Í):Í:=(w.setCell ⟨b,3,Á⟩<|Ã<|Â ⟨w.heap.size,0,Á⟩).alloc<|Û #[Å É 0,Å É 0,Å É 0,Å É 0,Å É 0,Ä ⟨#[]⟩] 200
def rdM(s:ByteArray)(g:Gh)(d:PD)(a b nm:Option ù)(kV c:Int):List Ñ:=
 [Ä s,g.N,Ã<|g.S d,Ã a,Ã b,Ã nm,Å É kV,Å É c]
structure EB(m b:Nat)(g:Gh)(d:PD)(T:Nat)(s:ByteArray)(tm nm:Option ù)(kV Ts:Int)(w0 w:Í):Prop where
 S:fc (λi=>m<=i) w0 w
 N:jx m w
 r:fi b (rdM s g d (Â ⟨T,0,Á⟩) tm nm kV Ts) 153 w
 M:uw m g d T w
 I:fi g.q (BV d.I.c g.r) 161 w
 C:w.ownsRow g.B 149 1 g.r (g.I d).length (nt<|g.I d)
def EB.fL{kV:Int}(h:EB m b g d T s O nm kV c W w)(k:fc fg w u)(a:jx m u):EB m b g d T s O nm kV c W u:= ⟨h.S.C k λ_ _ x=>x.elim,a,h.r.I k id,h.M.fL k,h.I.I k id,ia h.C k λ_ _=>id⟩
theorem gP.aps(h:gP m b g nm s st w)(on:st.d.r=Î):EB m b g st.d w.heap.size s (g.G st.d) nm st.r st.I w (Mc b w):=by
 have l:=h.C.r on;have p:(w.setCell ⟨b,3,Á⟩<|Ã<|Â ⟨w.heap.size,0,Á⟩).heap.size=w.heap.size:=fp
 have n:fc fg (w.setCell ⟨b,3,Á⟩<|Ã<|Â ⟨w.heap.size,0,Á⟩) (Mc b w):=fc.gI _ _ _ _;have r:fc (λk=>k=b) w (w.setCell ⟨b,3,Á⟩<|Ã<|Â ⟨w.heap.size,0,Á⟩):=pe h.r;have e:=r.C n λ_ _ x=>x.elim;refine⟨e.S λk _ x=>by rw[x];exact h.S,?_,(h.r.gf 3 _).I n id,⟨ia h.C.C e λj f x=>jw h.C.C h.r A (by rw[f,x]),h.C.I.C e λi _ x=>Ï ⟨_,_,_,HU x h.r,È U⟩,l.aax.C e λa c t _ _ q x=> ?_,?_⟩,l.r.I e λx=>fi.S l.r h.r A x,ia l.I e λj f x=>jw l.I h.r A<|by rw[f,x]⟩
 .exact h.a.C h.r h.S A _ _ fp A λv o=>by simp at o;rcases o with rfl|rfl<;>trivial
 .have o:=h.r;unfold fi at o;grind
 .have:=fi.N (w.setCell ⟨b,3,Á⟩<|Ã<|Â ⟨w.heap.size,0,Á⟩) [Å É 0,Å É 0,Å É 0,Å É 0,Å É 0,Ä ⟨#[]⟩] 200;rwa[p]at this
def Tt(g:Gh)(d:PD)(T:Nat)(v:Ñ):Gh:={g with t:=T,tb:=g.I d,r:=v}
theorem EB.jE(h:EB m b g st.d T s O nm st.r st.I w u)(C:m<=b)(on:st.d.r=Î)(a:m<=g.B/\g.B<=g.q/\st.d.I.c.length=8)(D:g.B<=T)(hd:st.r=0) (l:pL u g.B 149 1 g.r (g.I st.d).length (nt<|g.I st.d) 1 [Ã<|Â ⟨T,0,Á⟩] v W) (K:jx m W) (L:mO m W.heap.size v) (n:jX=((W.setCell ⟨g.q,8,Á⟩ v).setCell ⟨b,4,Á⟩<|Ã<|Â ⟨T,0,Á⟩).setCell ⟨b,0,Á⟩ (Ä ⟨#[84]⟩)): fc (λi=>m<=i) w jX/\gP m b (Tt g st.d T v) nm ⟨#[84]⟩ {st with C:=[84],d:=st.d.sG} jX:=by
 have E:∀{j:Nat} {M:List Ñ} {t:Ď},fi j M t u->149≠t->¬g.r.ownBlock=Â j:=λN f=>jw h.C N f;have F:=h.r.I l.r<|E h.r A;have f:=h.I.I l.r<|E h.I A;have P:=h.M.r l.r λi _ x=>by let⟨k,z⟩:=lG h.C x;exact⟨_,_,_,z,Ï ⟨Ï U,(h.C.lt i x).1⟩⟩
 have o:fc (λk=>k=g.q) W (W.setCell ⟨g.q,8,Á⟩ v):=pe f;have G:fi g.q (BV st.d.I.c v) 161 (W.setCell ⟨g.q,8,Á⟩ v):=by have:=f.gf 8 v;have e:=aat st.d.I.c g.r v;rw[a.2.2]at e;unfold BV at this|-;grind
 have z:=F.I o λx=>fi.S F f A x;have H:=P.r o λi _ x=>⟨_,_,_,HU x f,Ï ⟨È U,by rw[x];exact a.2.1⟩⟩;have I:=ia l.fq o λj p x=>jw l.fq f A (by rw[p,x]);have Q:jx m (W.setCell ⟨g.q,8,Á⟩ v):=K.r _ L;have S:fc (λk=>k=b) (W.setCell ⟨g.q,8,Á⟩ v) ((W.setCell ⟨g.q,8,Á⟩ v).setCell ⟨b,4,Á⟩<|Ã<|Â ⟨T,0,Á⟩):=pe z;have r:=z.gf 4<|Ã<|Â ⟨T,0,Á⟩;have V:fc (λk=>k=b) ((W.setCell ⟨g.q,8,Á⟩ v).setCell ⟨b,4,Á⟩<|Ã<|Â ⟨T,0,Á⟩) jX:=by rw[n];exact pe r
 have J:=r.gf 0<|Ä ⟨#[84]⟩;rw[<-n]at J;have k:uw m g st.d T jX:=by rw[n];exact(H.M z).M r
 have y:=S.fh V;have X:=G.I y λx=>fi.S G z A x;have Y:=ia I y λj p x=>jw I z A (by rw[p,x]);have hTl:=H.tb.M;have c5:jx m jX:=by rw[n];refine(Q.r _ ?_).r _ trivial;exact⟨Ì a.1 D,hTl⟩
 have e1:(g.I st.d++[T]).length=(g.I st.d).length+1:=fp
 have e2:nt (g.I st.d++[T])=nt (g.I st.d)++[Ã<|Â ⟨T,0,Á⟩]:=by simp[nt]
 refine⟨((h.S.C l.r λi _ x=> ?_).C o λi _ x=> ?_).C y λi _ x=> ?_,C,c5,?_,A,U,⟨k.C,k.I,λ_=>⟨a.1,a.2.1,a.2.2,X,?_,k.N,λ_=>⟨D,U,k.tb⟩,λe=>by cases e⟩,λe=> ?_⟩,λe=> ?_,È on⟩
 .have:=(h.C.lt i x).1;have:=a.1;omega
 .grind
 .rwa[x]
 .have e:(Tt g st.d T v).S st.d.sG=g.S st.d:=U;unfold Tm;rw[e];have e4:(Tt g st.d T v).G st.d.sG=Â ⟨T,0,Á⟩:=if_pos on;rwa[e4]
 .show jX.ownsRow g.B 149 1 v (g.I st.d++[T]).length (nt<|g.I st.d++[T]);rwa[e1,e2]
 .have:st.d.r=Ë:=e;grind
 .grind
def aay(h:gP m b g nm s st w)(C:st.r=0)(o:st.d.r=Î)(D:st.d.Y.length<=100000): Ò À 99 #[Ã<|Â ⟨b,0,Á⟩] w λe u=>e=Ç (ë #[])/\rE m b {st with C:=[84],d:=st.d.sG} w u:=by
 have Y:=h.r.r 3 _ U;have f3:=h.r.C 3;have gN:=h.r.M;have l:=h.C.r o;have y:=h.aps o;have E:=λv=>by have:=BX st.d.I.c v;rwa[l.M]at this
 have F:m<=g.B/\g.B<=g.q/\st.d.I.c.length=8:=⟨l.S,l.N,l.M⟩;have G:g.B<=w.heap.size:=by have:=l.r.M;have:=l.N;omega
 have I:(g.I st.d).length<=100000:=by rwa[l.G]
 have J:=h.S;have H:=ff<|Ê F<|Ê G<|Ê I<|Ê J<|Ê C o;have j:=ff<|E g.r;have x:g.S st.d=Â ⟨g.q,0,Á⟩:=if_pos o;go_enter Tryz.func99,Tryz.ntmps99;go_wp2_with fail;change à À _ _ _ (Mc b w);have k:=y.fL (fc.fR _ _) y.N.fR;generalize hT:w.heap.size=T at*;generalize L:(Mc b w).drew=w1 at*;let⟨i0,M,N,O,P⟩:=ů apq;have p:=ff<|Ê M<|Ê N<|Ê O P;refine lZ (λu=>u.cell? ⟨b,2,Á⟩=Â (Ã<|g.S st.d)/\u.cell? ⟨b,3,Á⟩=Â (Ã<|Â ⟨T,0,Á⟩)/\u.cell? ⟨g.q,8,Á⟩=Â g.r) [19] fu ?_;rw[L];rw[x];have Q:Hid (w1.cell? ⟨b,2,Á⟩=Â (Ã<|Â ⟨g.q,0,Á⟩)/\w1.cell? ⟨b,3,Á⟩=Â (Ã<|Â ⟨T,0,Á⟩)/\w1.cell? ⟨g.q,8,Á⟩=Â g.r):=ff ⟨by rw[<-x];exact k.r.r 2 _ U,k.r.r 3 _ U,k.I.r 8 _ j.out⟩;have r:=ff x;iterate 15 apply tk Q.out
 have S:=k.M.tb.M;have a:=k.fL (fc.gI fg w1 #[Ã<|Â ⟨T,0,Á⟩] 149) (k.N.gI _ _ fp A λv f=>by simp at f;subst f;exact⟨Ì H.out.1.1 H.out.2.1,S⟩);apply gC 15;intro K i;go_simp;refine i.out _ _ (λ_=>⟨by rw[<-r.out];exact a.r.r 2 _ U,a.r.r 3 _ U,a.I.r 8 _ j.out⟩) ?_;apply gC 16;intro K i;refine aaq fW _ _ 159 fW Tryz.underlying159 p.out.1 p.out.2.1 p.out.2.2.1 p.out.2.2.2 fW a.C ⟨w1.heap.size,0,Á⟩ fW (Λ w1 _ _) U (by have:=H.out.2.2.1;unfold đ;omega) (by have:=H.out.2.2.1;omega) (by have:=H.out.2.1;have:=a.M.tb.M;omega) A H.out.1.1 a.N ⟨Ì H.out.1.1 H.out.2.1,a.M.tb.M⟩ A ?_;intro v9 w9 t V W;obtain⟨a9,n9c,rfl⟩:=jo t.fq;have f:=a.r.I t.r<|jw a.C a.r A;have n:=a.I.I t.r<|jw a.C a.I A;refine i.out _ _ (λ_=>⟨by rw[<-r.out];exact f.r 2 _ U,f.r 3 _ U,n.r 8 _ j.out⟩) ?_;apply gC 17;intro K i;go_simp;refine i.out _ _ (λ_=>⟨by rw[<-r.out];exact f.r 2 _ U,f.r 3 _ U,n.r 8 _ j.out⟩) ?_;apply gC 18;intro K i;go_simp;refine i.out _ _ (λ_=>⟨by rw[<-r.out];exact f.r 2 _ U,f.r 3 _ U,n.r 8 _ j.out⟩) ?_;have cq8:=n.r 8 _ j.out;have fq8:=n.C 8;have cb4:=f.r 4 _ U;have fb4:=f.C 4;have cb0:=f.r 0 _ U;have fb0:=f.C 0;have cb3:=f.r 3 _ U;have X:=fi.S n f A;have hbq:¬b=g.q:=λe=>X e.symm;apply gC 19;intro K i;go_simp;apply i.out _ _ λz=>absurd A z;refine lI fu ?_ _;have z:=ff<|a.jE H.out.2.2.2.1 o H.out.1 H.out.2.1 H.out.2.2.2.2.1 t V W U;go_wp2_with fail;go_end0;exact⟨U,z.out.1,_,_,_,z.out.2⟩
end
section
variable{g:Gh}{nm:Option ù}{s:ByteArray}{f:PS}{d:PD}{Q:Nat}{k:Int}
def apt(h:w.ownsRow i e 1 v n l)(c:j<=i):w.ownsRow j e 1 v n l:= ⟨h.1,h.2.imp id λ⟨g,d,f,a,b,r⟩=>⟨g,d,f,a,Ì c b,r⟩⟩
def vx.fZ(l:vx m g d w):vw w.heap.size g.q ⟨d.I.c,d.Y⟩ w:= ⟨l.r.M,l.M,g.r,g.I d,l.r,apt l.I<|Ø _,λj a=>(l.I.lt j a).2,l.aax.M (Ø _)<|æ _⟩
theorem kL.aaz(h:kL m g d w)(a:d.r=Ë->d.S=[]):pd w.heap.size (g.C d) d.C w:=by
 unfold Gh.C PD.C;split
 .rename_i e;have l:=h.r e;have b:=l.r.M;have c:=l.N;exact h.I.Ti Z l.fZ
 .rename_i e;have f:=a (by simpa using e);have:=h.I.I;grind [Ý,pd.N]
def Md(b:Nat)(k:Int)(w:Í):Í:=(w.setCell ⟨b,2,Á⟩<|Ã<|Â ⟨w.heap.size,0,Á⟩).alloc<|Û #[Å É 0,Å É 0,Å É 0,Å É 0,Å É k,Å É 0,Å É 0,Å É 0,Æ Á 0 0] 161
def rdQ(s:ByteArray)(g:Gh)(d:PD)(Q:Nat)(nm:Option ù)(kV a:Int):List Ñ:=
 [Ä s,g.N,Ã<|Â ⟨Q,0,Á⟩,Ã<|g.Y d,Ã<|g.G d,Ã nm,Å É kV,Å É a]
structure EC(m b:Nat)(g:Gh)(d:PD)(Q:Nat)(k:Int)(s:ByteArray)(nm:Option ù)(kV Ts:Int)(w0 w:Í):Prop where
 S:fc (λi=>m<=i) w0 w
 M:jx m w
 r:fi b (rdQ s g d Q nm kV Ts) 153 w
 I:fi Q (BV (PD.aao k).c<|Æ Á 0 0) 161 w
 N:pd Q (g.C d) d.C w
 C:w.ownsRow m 148 1 g.N (g.C d).length (nt<|g.C d)
def EC.fL{kV:Int}(h:EC m b g d Q k s nm kV c W w)(a:fc fg w u)(e:jx m u):EC m b g d Q k s nm kV c W u:= ⟨h.S.C a λ_ _ x=>x.elim,e,h.r.I a id,h.I.I a id,h.N.C a λ_ _ x=>x.elim,ia h.C a λ_ _=>id⟩
def gP.apu(h:gP m b g nm s f w)(k:Int)(l:f.d.r=Ë->f.d.S=[]):EC m b g f.d w.heap.size k s nm f.r f.I w (Md b k w):=by
 have n:(w.setCell ⟨b,2,Á⟩<|Ã<|Â ⟨w.heap.size,0,Á⟩).heap.size=w.heap.size:=fp
 have c:fc fg (w.setCell ⟨b,2,Á⟩<|Ã<|Â ⟨w.heap.size,0,Á⟩) (Md b k w):=fc.gI _ _ _ _;have o:fc (λk=>k=b) w (w.setCell ⟨b,2,Á⟩<|Ã<|Â ⟨w.heap.size,0,Á⟩):=pe h.r;have a:=o.C c λ_ _ x=>x.elim;refine⟨a.S λk _ x=>by rw[x];exact h.S,?_,(h.r.gf 2 _).I c id,?_,(h.C.aaz l).C a λi _ x=>Ï ⟨_,_,_,HU x h.r,È U⟩,ia h.C.C a λj p x=>jw h.C.C h.r A<|by rw[p,x]⟩
 .exact h.a.C h.r h.S A _ _ fp A λv e=>by simp at e;rcases e with rfl|rfl|rfl|rfl<;>trivial
 .have:=fi.N (w.setCell ⟨b,2,Á⟩<|Ã<|Â ⟨w.heap.size,0,Á⟩) [Å É 0,Å É 0,Å É 0,Å É 0,Å É k,Å É 0,Å É 0,Å É 0,Æ Á 0 0] 161;rwa[n]at this
def apv(g:Gh)(d:PD)(Q:Nat)(v:Ñ):Gh:={a:=g.C d,q:=Q,t:=Q,B:=Q,tb:=[],N:=v,r:=Æ Á 0 0,b:=g.Y d}
theorem EC.jE{sb:ByteArray}(h:EC m b g f.d Q k s nm f.r f.I w u)(o:m<=b)(p:m<=Q)(S:f.r=0)(y:sb.size<=10)(B:jO sb=vr k) (a:pL u m 148 1 g.N (g.C f.d).length (nt<|g.C f.d) 1 [Ã<|Â ⟨Q,0,Á⟩] v W) (C:jx m W) (D:mO m W.heap.size v) (l:jX=((W.setCell ⟨b,1,Á⟩ v).setCell ⟨b,4,Á⟩<|Ã<|Â ⟨Q,0,Á⟩).setCell ⟨b,0,Á⟩ (Ä sb)): fc (λi=>m<=i) w jX/\gP m b (apv g f.d Q v) nm sb {f with C:=vr k,d:=f.d.Ev k} jX:=by
 have c:=h.r.I a.r<|jw h.C h.r A;have n:=h.I.I a.r<|jw h.C h.I A;have E:=h.N.C a.r λi _ x=>by let⟨e,z⟩:=lG h.C x;exact Ï ⟨_,_,_,z,Ï U⟩
 have F:fc (λk=>k=b) W (W.setCell ⟨b,1,Á⟩ v):=pe c;have q:=c.gf 1 v;have G:fc (λk=>k=b) (W.setCell ⟨b,1,Á⟩ v) ((W.setCell ⟨b,1,Á⟩ v).setCell ⟨b,4,Á⟩<|Ã<|Â ⟨Q,0,Á⟩):=pe q;have r:=q.gf 4<|Ã<|Â ⟨Q,0,Á⟩;have H:fc (λk=>k=b) ((W.setCell ⟨b,1,Á⟩ v).setCell ⟨b,4,Á⟩<|Ã<|Â ⟨Q,0,Á⟩) jX:=by rw[l];exact pe r
 have t:=r.gf 0<|Ä sb;rw[<-l]at t;have z:=(F.fh G).fh H;have I:=n.I z λx=>fi.S n c A x;have J:=E.C z λi _ x=>Ï ⟨_,_,_,HU x c,È U⟩;have K:=ia a.fq z λj L x=>jw a.fq c A (by rw[L,x]);have M:Q<(W.setCell ⟨b,1,Á⟩ v).heap.size:=by simpa using n.M
 have N:jx m jX:=by rw[l];refine((C.r _ D).r _ ?_).r _ trivial;exact⟨p,M⟩
 have O:(g.C f.d++[Q]).length=(g.C f.d).length+1:=fp
 have P:nt (g.C f.d++[Q])=nt (g.C f.d)++[Ã<|Â ⟨Q,0,Á⟩]:=by simp[nt]
 refine⟨(h.S.C a.r λi _ x=> ?_).C z λi _ x=> ?_,o,N,t,y,B,⟨?_,J,λ_=>⟨p,æ _,U,I,?_,oE.N _ _ _,(λe=>by cases e),λ_=>⟨rfl,rfl⟩⟩,(λe=>by cases e)⟩,λe=> ?_,È rfl⟩
 .exact(h.C.lt i x).1
 .rwa[x]
 .show jX.ownsRow m 148 1 v (g.C f.d++[Q]).length (nt<|g.C f.d++[Q]);rwa[O,P]
 .exact⟨U,È ⟨U,U⟩⟩
 .grind
def apw:zt f 0=Á:=rfl
def apx(h:gP m b g nm s f w)(r:f.r=0)(t:f.d.r=Ë->f.d.S=[])(x:f.d.C.length<=100000)(k:Int): Ò À 96 #[Ã<|Â ⟨b,0,Á⟩,Å É k] w λe u=>match zt f k with
  |none=>e=Ç (õ Ë)/\u=w
  |some c=>e=Ç (õ Î)/\rE m b c w u:=by
 by_cases l:k=0
 .subst l;rw[apw];go_enter Ω,Μ;go_wp2;go_ret;exact⟨U,U⟩
 have Q:(k==0)=Ë:=by rwa[beq_eq_false_iff_ne]
 have e:zt f k=Â {f with C:=vr k,d:=f.d.Ev k}:=if_neg l;rw[e];have S:=h.r.r 2 _ U;have V:=h.r.C 2;have W:=h.r.M;have p:=h.apu k t;have y:(g.C f.d).length<=100000:=by rwa[h.C.aar]
 have z:=h.S;have B:m<=w.heap.size:=Z
 have H:=ff<|Ê z<|Ê B<|Ê y r;go_enter Ω,Μ;go_wp2_with fail;change à À _ _ _ (Md b k w);have i:=p.fL (fc.fR _ _) p.M.fR;generalize X:w.heap.size=T at*;generalize C:(Md b k w).drew=w1 at*;let⟨Y,D,E,F,G⟩:=ů apr;have j:=ff<|Ê D<|Ê E<|Ê F G;refine lZ (λu=>u.cell? ⟨b,1,Á⟩=Â g.N/\u.cell? ⟨b,2,Á⟩=Â (Ã<|Â ⟨T,0,Á⟩)) [13] fu ?_;rw[C];have I:Hid (w1.cell? ⟨b,1,Á⟩=Â g.N/\w1.cell? ⟨b,2,Á⟩=Â (Ã<|Â ⟨T,0,Á⟩)):=ff ⟨i.r.r 1 _ U,i.r.r 2 _ U⟩;iterate 9 apply tk I.out
 have J:=i.I.M;have a:=i.fL (fc.gI fg w1 #[Ã<|Â ⟨T,0,Á⟩] 148) (i.M.gI _ _ fp A λv c=>by simp at c;subst c;exact⟨H.out.2.1,J⟩);apply gC 9;intro K c;go_simp;apply c.out _ _ λ_=>⟨a.r.r 1 _ U,a.r.r 2 _ U⟩;apply gC 10;intro K c;refine aaq fW _ _ 61 fW Tryz.underlying61 j.out.1 j.out.2.1 j.out.2.2.1 j.out.2.2.2 fW a.C ⟨w1.heap.size,0,Á⟩ fW (Λ w1 _ _) U (by have:=H.out.2.2.1;unfold đ;omega) (by have:=H.out.2.2.1;omega) (by have:=H.out.2.1;have:=a.I.M;omega) A (æ _) a.M ⟨H.out.2.1,a.I.M⟩ A ?_;intro v9 w9 n L M;obtain⟨a9,n9c,rfl⟩:=jo n.fq;have v:=a.r.I n.r<|jw a.C a.r A;apply c.out _ _ λ_=>⟨v.r 1 _ U,v.r 2 _ U⟩;apply gC 11;intro K c;go_simp;apply c.out _ _ λ_=>⟨v.r 1 _ U,v.r 2 _ U⟩;apply gC 12;intro K c;go_simp;apply c.out _ _ λ_=>⟨v.r 1 _ U,v.r 2 _ U⟩;have cb1:=v.r 1 _ U;have fb1:=v.C 1;have cb4:=v.r 4 _ U;have fb4:=v.C 4;have cb0:=v.r 0 _ U;have fb0:=v.C 0;have cb2:=v.r 2 _ U;apply gC 13;intro K c;go_simp;apply c.out _ _ λo=>absurd A o;refine lI fu ?_ _;have N:=ff λo q O=>a.jE (sb:=o) H.out.1 H.out.2.1 H.out.2.2.2 q O n L M U;go_wp2_with (go_at_call 145;refine(apg _ _).mono ?_;rintro e u ⟨⟨o,rfl,O,P⟩,q⟩;subst u);go_ret;have q:=N.out o O P;exact⟨U,q.1,_,_,_,q.2⟩
end
def ly(i:Nat)(z:Int):Prop:=match i with
 |0=>0<=z/\z<8
 |1=>0<=z/\z<8
 |2=>0<=z/\z<1000000
 |3=>0<=z/\z<1000000
 |4=>1<=z/\z<10
 |5=>-1<=z/\z<1000000
 |6=>-1<=z/\z<1000000
 |7=>0<=z/\z<16
 |_=>True
structure ED(n m:Nat)(c:List Int):Prop where
 C:c.length=n
 r:∀i,i<m->ly i (c.getD i 0)
theorem ED.I(h:ED n m zQ)(i:Nat)(z:Int)(b:i<m->ly i z):ED n m (zQ.set i z):=by refine⟨by simp[h.C],λj a=> ?_⟩;have:=h.r j a;grind
def aaA(h:i<zQ.length)(z:Int):(zQ.set i z).getD i 0=z:=by simp[Ġ,h]
structure nO(t:PT):Prop where
 c:ED 5 4 t.c
 p:t.p.size<=40/\∀c∈t.p.data.toList,xd c=Î
structure uy(r:PR):Prop where
 c:ED 8 8 r.c
 C:∀t∈r.r,nO t
 n:r.r.length<=8
structure kh(d:PD):Prop where
 N:d.r=Ë->d.S=[]/\d.M=Ë
 b:d.M=Ë->d.I.r=[]
 C:d.C.length<=24
 I:d.Y.length<=8
 S:∀r∈d.S,uy r
 M:d.r=Î->ED 8 8 d.I.c
 a:d.r=Î->∀t∈d.I.r,nO t
 Y:d.M=Î->nO d.N
structure jq(B:ByteArray)(k:Nat)(st:PS):Prop where
 M:0<=st.r
 r:st.r<=5
 C:0<=st.I
 I:st.I<=40
 e:0<st.r->(st.M=86\/st.M=87\/st.M=110\/st.M=107)/\st.d.r=Î/\0<=st.d.G st.M/\st.d.G st.M<10^(6-st.r.toNat)
 d:kh st.d
 c:st.d.r=Î\/st.C=[82]
 b:82∈st.C->st.d.C.length<24
 N:84∈st.C\/80∈st.C->st.d.M=Î
 a:66∈st.C->st.d.M=Ë
 S:80∈st.C->st.C=[80]/\st.r=0
 Y:80∈st.C->st.I.toNat<=k/\∀j (h:j<B.size),k-st.I.toNat<=j->j<k->xd B[j]=Î
section
variable{d:PD}{st o:PS}
def kh.aaB(h:kh d)(on:d.r=Î):∀t∈d.Y,nO t:=by
 unfold PD.Y;split
 .rename_i e;intro t a;rcases â.1 a with q|q
  .exact h.a on t q
  .rw[ō]at q;rw[q];exact h.Y e
 .exact h.a on
def kh.G(h:kh d):∀r∈d.C,uy r:=by
 unfold PD.C;split
 .rename_i e;intro r a;rcases â.1 a with q|q
  .exact h.S r q
  .rw[ō]at q;rw[q];exact⟨h.M e,h.aaB e,h.I⟩
 .exact h.S
def xu(d:PD):d.C.length=d.S.length+(if d.r then 1 else 0):=by unfold PD.C;split<;>simp
def HY(d:PD):d.Y.length=d.I.r.length+(if d.M then 1 else 0):=by unfold PD.Y;split<;>simp
def kh.r(h:kh d)(i:Nat)(z:Int)(a:ly i z):kh (d.uo i z):= ⟨h.N,h.b,by have:=h.C;rw[xu]at this|-;exact this,by have:=h.I;rw[HY]at this|-;exact this,h.S,λe=>(h.M e).I i z λ_=>a,h.a,h.Y⟩
def kh.vv(h:kh d)(i:Nat)(z:Int)(a:i<4->ly i z):kh (d.vv i z):= ⟨h.N,h.b,by have:=h.C;rw[xu]at this|-;exact this,by have:=h.I;rw[HY]at this|-;exact this,h.S,h.M,h.a,λe=>⟨(h.Y e).c.I i z a,(h.Y e).p⟩⟩
def kh.kB(h:kh d)(i:Nat)(z:Int)(a:ly i z):kh (d.kB i z):=by
 unfold PD.kB;split
 .exact h.vv i z λ_=>a
 .exact h.r i z a
def kh.sF(h:kh d)(p:ByteArray)(a:p.size<=40/\∀c∈p.data.toList,xd c=Î):kh (d.sF p):= ⟨h.N,h.b,by have:=h.C;rw[xu]at this|-;exact this,by have:=h.I;rw[HY]at this|-;exact this,h.S,h.M,h.a,λe=>⟨(h.Y e).c,a⟩⟩
def apy:nO PD.Er:=⟨⟨U,λi a=>by
 match i,a with
 |0,_=>exact⟨A,A⟩
 |1,_=>exact⟨A,A⟩
 |2,_=>exact⟨A,A⟩
 |3,_=>exact⟨A,A⟩⟩,⟨A,λc b=>by cases b⟩⟩
def kh.sG(h:kh d)(on:d.r=Î)(a:d.Y.length<8):kh d.sG:= ⟨(λe=>by have:d.r=Ë:=e;rw[on]at this;cases this),(λe=>by cases e),by have:=h.C;rw[xu]at this|-;exact this,by rwa[HY],h.S,λe=>h.M e,λ_=>h.aaB on,λ_=>apy⟩
def kh.Ev(h:kh d)(q:Int)(a:1<=q/\q<10)(b:d.C.length<24):kh (d.Ev q):= ⟨(λe=>by cases e),λ_=>rfl,by rwa[xu],by show(0:Nat)<=8;decide,h.G,λ_=>⟨U,λi c=>by
   match i,c with
   |0,_=>exact⟨by show(0:Int)<=0;decide,by show(0:Int)<8;decide⟩
   |1,_=>exact⟨by show(0:Int)<=0;decide,by show(0:Int)<8;decide⟩
   |2,_=>exact⟨by show(0:Int)<=0;decide,by show(0:Int)<1000000;decide⟩
   |3,_=>exact⟨by show(0:Int)<=0;decide,by show(0:Int)<1000000;decide⟩
   |4,_=>exact a
   |5,_=>exact⟨by show(-1:Int)<=0;decide,by show(0:Int)<1000000;decide⟩
   |6,_=>exact⟨by show(-1:Int)<=0;decide,by show(0:Int)<1000000;decide⟩
   |7,_=>exact⟨by show(0:Int)<=0;decide,by show(0:Int)<16;decide⟩⟩,(λ_ t f=>by cases f),(λe=>by cases e)⟩
def kh.gf(h:kh d)(a z:Int)(b:(a=86->ly 5 z)/\(a=87->ly 6 z)/\(a=120->ly 0 z)/\(a=121->ly 1 z)/\(a=110->ly 2 z)/\(a=107->ly 3 z)/\(a=115->ly 7 z)):kh (d.gf a z):=by
 let⟨c,e,f,g,i,j,k⟩:=b;unfold PD.gf;repeat' split
 .exact h.r 5 z<|c ‹_›
 .exact h.r 6 z<|e ‹_›
 .exact h.kB 0 z<|f ‹_›
 .exact h.kB 1 z<|g ‹_›
 .exact h.kB 2 z<|i ‹_›
 .exact h.kB 3 z<|j ‹_›
 .exact h.r 7 z<|k ‹_›
 .exact h
def Tv(d:PD)(a z:Int):(d.gf a z).r=d.r/\(d.gf a z).M=d.M/\(d.gf a z).C.length=d.C.length:=by
 unfold PD.gf PD.kB;repeat' split
 all_goals exact⟨U,U,(xu _).trans (xu d).symm⟩
theorem Tw(h:kh d)(on:d.r=Î)(a z:Int)(f:a=86\/a=87\/a=110\/a=107):(d.gf a z).G a=z:=by
 have g:=(h.M on).C;have b:∀i,i<4->(d.kB i z).xt i=z:=λi j=>by
  unfold PD.kB;split
  .rename_i e;have k:=(h.Y e).c.C;show(if d.M=Î then(d.N.c.set i z).getD i 0 else d.I.c.getD i 0)=z;grind
  .rename_i e;show(if d.M=Î then d.N.c.getD i 0 else(d.I.c.set i z).getD i 0)=z;grind
 rcases f with rfl|rfl|rfl|rfl
 .exact aaA Z z
 .exact aaA Z z
 .exact b 2 A
 .exact b 3 A
def Me:∀(l:List UInt8) (c:UInt8),Þ l c<l.length
 |[],_=>by show(-1:Int)<0;decide
 |a::l,c=>by
  have:=Me l c;unfold Þ;split
  .simp
  .split<;>(simp;omega)
def Ty:∀(l:List UInt8) (c:UInt8),c∈l->0<=Þ l c
 |[],_,h=>by cases h
 |a::l,c,h=>by
  unfold Þ;split
  .decide
  .rename_i e;rcases List.mem_cons.1 h with q|q
   .subst q;simp at e
   .have:=Ty l c q;split
    .rename_i b;rw[beq_iff_eq]at b;omega
    .omega
def aaC{l:List UInt8}(h:c.toNat∈l.map UInt8.toNat):c.toNat.toUInt8∈l:=by let⟨x,a,b⟩:=Ú.1 h;rw[<-b];simpa using a
def aaD(h:rC c=Î):0<=Þ [97,98,99,100,101,102,103,104] c.toNat.toUInt8:=by rw[ao3]at h;refine Ty _ _<|aaC ?_;simp;omega
def apz(h:(jW c||(decide (97<=c)&&decide (c<=102)))=Î):0<=Þ [48,49,50,51,52,53,54,55,56,57,97,98,99,100,101,102] c.toNat.toUInt8:=by simp only[Bool.or_eq_true,Eu,Bool.and_eq_true,decide_eq_true_eq]at h;refine Ty _ _<|aaC ?_;simp;omega
theorem apA(a:pW h c=Î):(h=86->ly 5 (nQ h c))/\(h=87->ly 6 (nQ h c))/\(h=120->ly 0 (nQ h c))/\(h=121->ly 1 (nQ h c))/\(h=110->ly 2 (nQ h c))/\(h=107->ly 3 (nQ h c))/\(h=115->ly 7 (nQ h c)):=by
 unfold pW at a;have b:(c==104||jW c)=Î->-1<=(if c=104 then-1 else(c-48)%256)/\(if c=104 then(-1:Int)else(c-48)%256)<1000000:=λq=>by split<;>omega
 have d:jW c=Î->0<=(if c=104 then-1 else(c-48)%256)/\(if c=104 then(-1:Int)else(c-48)%256)<1000000:=λq=>by rw[Eu]at q;grind
 refine⟨?_,?_,?_,?_,?_,?_,?_⟩<;>rintro rfl
 .exact b a
 .exact b a
 .exact⟨aaD a,Me _ _⟩
 .exact⟨aaD a,Me _ _⟩
 .exact d a
 .exact d a
 .exact⟨apz a,Me _ _⟩
theorem apB{kV:Int}(a:jW c=Î)(b:0<=h)(d:0<kV)(e:kV<=5)(f:h<10^(6-kV.toNat)):0<=sH h c/\sH h c<10^(6-(kV-1).toNat)/\sH h c<1000000:=by
 rw[Eu]at a;have g:h<100000->sH h c=h*10+(c-48):=λq=>by unfold sH;rw[Ļ (h*10) ⟨Z,Z⟩,Ļ _ ⟨Z,Z⟩];omega
 have i:kV=1\/kV=2\/kV=3\/kV=4\/kV=5:=Z
 grind
def kh.kV(h:kh d)(a z:Int)(c:a=86\/a=87\/a=110\/a=107)(b:0<=z/\z<1000000):kh (d.gf a z):= h.gf a z ⟨λ_=>⟨Z,b.2⟩,λ_=>⟨Z,b.2⟩,λe=>by omega,λe=>by omega,λ_=>b,λ_=>b,λe=>by omega⟩
def jq.apC(h:jq B k st)(e:0<st.r)(j:jW c=Î):jq B (k+1) (HQ st c):=by
 let⟨a,b,l,m⟩:=h.e e;let⟨f,n,o⟩:=apB j l e h.r m;let⟨g,i,p⟩:=Tv st.d st.M<|sH (st.d.G st.M) c;refine⟨by show 0<=st.r-1;omega,by have:=h.r;show st.r-1<=5;omega,h.C,h.I,λ_=>⟨a,g.trans b,?_⟩,h.d.kV _ _ a ⟨f,o⟩,?_,λq=> ?_,λq=>i.trans<|h.N q,λq=>i.trans<|h.a q,λq=> ?_,λq=> ?_⟩
 .show 0<=(st.d.gf st.M<|sH (st.d.G st.M) c).G st.M/\(st.d.gf st.M<|sH (st.d.G st.M) c).G st.M<10^(6-(st.r-1).toNat);rw[Tw h.d b _ _ a];exact⟨f,n⟩
 .exact È<|g.trans b
 .show(st.d.gf st.M<|sH (st.d.G st.M) c).C.length<24;rw[p];exact h.b q
 .have:=(h.S q).2;omega
 .have:=(h.S q).2;omega
def jq.uO(h:jq B k st):jq B k {st with r:=0}:= ⟨Ť _,by show(0:Int)<=5;decide,h.C,h.I,(λq=>by cases q),h.d,h.c,h.b,h.N,h.a,λq=>⟨(h.S q).1,rfl⟩,h.Y⟩
theorem jq.on(h:jq B k st)(a:82∉st.C):st.d.r=Î:=by rcases h.c with q|q;all_goals grind
def kh.apD(h:kh d)(a:d.M=Î):d.r=Î:=by
 cases e:d.r with
 |true=>rfl
 |false=>have:=(h.N e).2;rw[a]at this;cases this
theorem aaE(h:jq B k st)(b:st.r=0)(on:st.d.r=Î)(a:uq st c=Â o):jq B (k+1) o:=by
 unfold uq at a;split at a
 .rename_i e;cases a;refine⟨h.M,h.r,h.C,h.I,λq=> ?_,h.d,Ï U,λ_=> ?_,λq=> ?_,λq=> ?_,λq=> ?_,λq=> ?_⟩
  .grind
  .rw[xu,on];exact e.2
  .simp at q
  .simp at q
  .simp at q
  .simp at q
 .split at a
  .rename_i e;cases a;refine⟨h.M,h.r,h.C,h.I,λq=> ?_,h.d.sG on e.2.2,È on,λq=> ?_,λ_=>rfl,λq=> ?_,λq=> ?_,λq=> ?_⟩;all_goals grind
  .cases a
def apE(q:Int):82∉vr q/\84∉vr q/\80∉vr q:=by
 unfold vr;repeat' split
 all_goals decide
theorem apF(q:Int):82∉vt q/\84∉vt q/\66∉vt q/\(80∈vt q->vt q=[80]):=by unfold vt;grind
def apG(c:Int):0<=xr c/\xr c<10:=by
 unfold xr;repeat' split
 all_goals decide
theorem apH(h:jq B k st)(i:st.r=0)(f:82∈st.C)(a:zt st (xr c)=Â o):jq B (k+1) o:=by
 unfold zt at a;split at a
 .cases a
 .rename_i e;cases a;let⟨g,j,b⟩:=apE<|xr c;have l:=apG c;refine⟨h.M,h.r,h.C,h.I,λq=> ?_,h.d.Ev _ Z<|h.b f,È U,λq=>absurd q g,λq=> ?_,λ_=>rfl,λq=>absurd q b,λq=>absurd q b⟩;all_goals grind
theorem apI(h:jq B k st)(c:st.r=0)(q:Int)(f:84∈st.C)(a:zu st q=Â o):jq B (k+1) o:=by
 unfold zu at a;split at a
 .cases a
 .cases a;let⟨g,m,i,l⟩:=apF q;have b:=h.N<|È f;refine⟨h.M,h.r,Ť _,by show(0:Int)<=40;decide,λq=> ?_,h.d.vv 4 q λe=>by omega,È<|h.d.apD b,λq=>absurd q g,λ_=>b,λq=>absurd q i,λq=>⟨l q,c⟩,λ_=>⟨Ø _,λj _ n p=> ?_⟩⟩;all_goals grind
theorem apJ{a:Int}(h:0<pX a c):(a=86\/a=87)/\pX a c=1/\jW c=Î/\c≠48\/(a=110\/a=107)/\pX a c=5/\jW c=Î/\c≠48:=by unfold pX at h|-;grind
theorem aaF(h:jq B k st)(on:st.d.r=Î){want:Int}(l:pW want c=Î)(r:List Int)(a:∀x∈r,x∈st.C)(g:80∉r):jq B (k+1) {pb st want c with C:=r}:=by
 let⟨m,i,n⟩:=Tv st.d want<|nQ want c;have j:=ao7 want c;refine⟨j.1,j.2,h.C,h.I,λq=> ?_,h.d.gf _ _<|apA l,È<|m.trans on,λq=> ?_,λq=>i.trans<|h.N<|q.imp (a _)<|a _,λq=>i.trans<|h.a<|a _ q,λq=>absurd q g,λq=>absurd q g⟩
 .have q:=q;show(want=86\/want=87\/want=110\/want=107)/\(st.d.gf want<|nQ want c).r=Î/\0<=(st.d.gf want<|nQ want c).G want/\(st.d.gf want<|nQ want c).G want<10^(6-(pX want c).toNat);rcases apJ q with⟨o,b,e,p⟩|⟨o,b,e,p⟩
  .have f:want=86\/want=87\/want=110\/want=107:=Z
   rw[Tw h.d on _ _ f,b];rw[Eu]at e;have:nQ want c=(c-48)%256:=by unfold nQ;grind
   grind
  .have f:want=86\/want=87\/want=110\/want=107:=Z
   rw[Tw h.d on _ _ f,b];rw[Eu]at e;have:nQ want c=(c-48)%256:=by unfold nQ;grind
   grind
 .show(st.d.gf want<|nQ want c).C.length<24;rw[n];exact h.b<|a _ q
def apK{x:UInt8}(h:x∈(B.extract i b).data.toList):∃j,∃e:j<B.size,i<=j/\j<b/\B[j]=x:=by rw[Ĳ,ĺ,ħ]at h;obtain⟨c,d,rfl⟩:=Ğ h;simp only[Ś,List.length_drop,ĝ]at d;have f:B.data.size=B.size:=rfl;exact⟨i+c,Z,Z,Z,by simp[ċ]⟩
theorem apL(h:jq B k st)(l:st.r=0)(F:k<B.size)(a:lO B k st (B[k].toNat:Int)=Â o):jq B (k+1) o:=by
 unfold lO at a;split at a
 .rename_i e;exact aaE h l (h.on<|by rw[e];decide) a
 .rename_i t p e;have c:t∈st.C:=by rw[e];exact List.mem_cons_self ..
  split at a
  .rename_i f;subst f;exact apH h l c a
  rename_i G;have i:st.d.r=Î:=by rcases h.c with q|q;all_goals grind
  split at a
  .rename_i f;subst f;split at a
   .rename_i u;cases a;have n:=h.a c;have b:st.d.Y.length<8:=by rw[HY,h.d.b n,n];decide
    have v:jq B k {st with C:=[84],d:=st.d.sG}:=by refine⟨h.M,h.r,h.C,h.I,λq=> ?_,h.d.sG i b,È i,λq=> ?_,λ_=>rfl,λq=> ?_,λq=> ?_,λq=> ?_⟩;all_goals grind
    exact aaF (want:=120) v i u [84] (λx b=>b) A
   .exact aaE h l i a
  split at a
  .rename_i f;subst f;exact apI h l _ c a
  split at a
  .rename_i f;subst f;let⟨H,w⟩:=h.Y c;have n:=h.N<|Ï c;have y:=(h.S c).1;have I:=h.C;have J:=h.I;split at a
   .cases a;have z:p=[]:=by rw[y]at e;cases e;rfl
    subst z;refine⟨h.M,h.r,h.C,h.I,λq=> ?_,h.d.sF _ ⟨by rw[č];omega,λx b=> ?_⟩,È i,λq=> ?_,λq=> ?_,λq=> ?_,λq=> ?_,λq=> ?_⟩
    .grind
    .obtain⟨j,r,m,s,rfl⟩:=apK b;exact w j r m s
    .cases q
    .grind
    .cases q
    .cases q
    .cases q
   .split at a
    .cases a
    .rename_i g;cases a;have K:=λq=>g<|È q;have C:=λq=>g<|Ï q;refine⟨h.M,h.r,by show 0<=st.I+1;omega,by show st.I+1<=40;omega,h.e,h.d,h.c,h.b,h.N,h.a,h.S,λ_=>⟨by show(st.I+1).toNat<=k+1;omega,λj r m s=> ?_⟩⟩;have m:k+1-(st.I+1).toNat<=j:=m;by_cases D:j=k
     .subst D;unfold xd;simpa using C
     .grind
  split at a
  .rename_i L M N E;cases a;refine aaF h i E p (λx b=>by rw[e];exact Ė _ b) λq=> ?_;have:=(h.S<|by rw[e];exact Ė _ q).1;grind
  .cases a
def aaG(h:jq B k st)(b:k<B.size)(a:uu B k st (B[k].toNat:Int)=Â o):jq B (k+1) o:=by
 unfold uu at a;split at a
 .rename_i e;cases a;exact h.apC e.1 e.2
 .exact apL h.uO U b a
def Tz(B:ByteArray):jq B 0 sJ:= ⟨A,A,A,A,(λq=>by cases q),⟨λ_=>⟨rfl,rfl⟩,λ_=>rfl,A,A,(λr e=>by cases e),(λe=>by cases e),(λe=>by cases e),(λe=>by cases e)⟩,Ï rfl,λ_=>by decide,(λq=>by rcases q with q|q<;>simp[sJ]at q),(λq=>by simp[sJ]at q),(λq=>by simp[sJ]at q),(λq=>by simp[sJ]at q)⟩
def TA:∀(f k:Nat) (st:PS),jq B k st->k<=B.size->jq B (sI B f k st).1 (sI B f k st).2/\(sI B f k st).1<=B.size
 |0,k,st,h,hk=>⟨h,hk⟩
 |f+1,k,st,h,hk=>by
  unfold sI;split
  .rename_i a;split
   .exact⟨h,hk⟩
   .rename_i o e;exact TA f (k+1) o (aaG h a e) Z
  .exact⟨h,hk⟩
end
section
variable{g:Gh}{st:PS}
def aaH{d:PD}(i:Nat)(z:Int):g.M (d.kB i z)=g.M d:=by unfold PD.kB Gh.M;split<;>simp[PD.vv,PD.uo, *]
def aaI{d:PD}(h:i=2\/i=3)(z:Int):g.BW (d.kB i z) (if i=2 then 110 else 107)=⟨g.M d,i,Á⟩:=by
 rcases h with rfl|rfl
 .show(⟨g.M<|d.kB 2 z,2,Á⟩:ù)=_;rw[aaH]
 .show(⟨g.M<|d.kB 3 z,3,Á⟩:ù)=_;rw[aaH]
def aaJ{d:PD}(on:d.r=Î):g.S d=Â ⟨g.q,0,Á⟩:=if_pos on
def apM{d:PD}(on:d.r=Î):g.G d=Â ⟨g.M d,0,Á⟩:=if_pos on
def K2(h:gP m b g O B st w)(j:st.r=0)(on:st.d.r=Î)(a c:Int)(v:pW a c=Î): Ò À 100 #[Ã<|Â ⟨b,0,Á⟩,Å ū a,Å ū c] w λe u=>e=Ç (ë #[])/\rE m b (pb st a c) w u:=by
 have G:w.cell? ⟨b,2,Á⟩=Â (Ã<|g.S st.d):=h.r.r 2 _ U;have x:w.cell? ⟨b,4,Á⟩=Â (Ã<|g.G st.d):=h.r.r 4 _ U;rw[aaJ on]at G;rw[apM on]at x;have H:=ff<|Ê h v;clear h v;generalize y:g.M st.d=tm at x;have n:=ff y;clear y;by_cases o:a=86
 .subst o;have k:=ff (show pb st 86 c={st with r:=vy c 2,M:=86,d:=st.d.uo 5 (mM c)}from by unfold pb;rw[<-L9 H.out.2 (È ⟨È U,U⟩),Mb A];rfl);go_enter Ā,ü;go_wp2_with (go_at_call 147;refine(L8 H.out.1 (Ey H.out.1.C H.out.1.r on (i:=5) A) j on _ _ 86 A A λz=>rfl).mono ?_;rintro e u ⟨rfl,l⟩);go_end0;exact⟨U,by rwa[k.out]⟩
 have I:(a==86)=Ë:=by rwa[beq_eq_false_iff_ne]
 by_cases p:a=87
 .subst p;have k:=ff (show pb st 87 c={st with r:=vy c 2,M:=87,d:=st.d.uo 6 (mM c)}from by unfold pb;rw[<-L9 H.out.2 (È ⟨Ï U,U⟩),Mb A];rfl);go_enter Ā,ü;go_wp2_with (go_at_call 147;refine(L8 H.out.1 (Ey H.out.1.C H.out.1.r on (i:=6) A) j on _ _ 87 A A λz=>rfl).mono ?_;rintro e u ⟨rfl,l⟩);go_end0;exact⟨U,by rwa[k.out]⟩
 have J:(a==87)=Ë:=by rwa[beq_eq_false_iff_ne]
 by_cases q:a=120
 .subst q;have f:=ff ((by have:=Ez H.out.1.C H.out.1.r on (i:=0) A;rw[n.out]at this;exact this:pY m b g st.d tm 0 (λz=>st.d.kB 0 z) (st.d.xt 0) w));have C:=f.out.C;have D:=f.out.I;have E:=f.out.r;go_enter Ā,ü;go_wp2_with fail;go_region_with (go_at_call 146;refine(HR _ _ _).mono ?_;rintro e u ⟨rfl,F⟩;subst u);all_goals go_end0
  all_goals exact⟨U,Tq H.out.1 f.out j (Ma A) U⟩
 have K:(a==120)=Ë:=by rwa[beq_eq_false_iff_ne]
 by_cases r:a=121
 .subst r;have f:=ff ((by have:=Ez H.out.1.C H.out.1.r on (i:=1) A;rw[n.out]at this;exact this:pY m b g st.d tm 1 (λz=>st.d.kB 1 z) (st.d.xt 1) w));have C:=f.out.C;have D:=f.out.I;have E:=f.out.r;go_enter Ā,ü;go_wp2_with fail;go_region_with (go_at_call 146;refine(HR _ _ _).mono ?_;rintro e u ⟨rfl,F⟩;subst u);all_goals go_end0
  all_goals exact⟨U,Tq H.out.1 f.out j (Ma A) U⟩
 have L:(a==121)=Ë:=by rwa[beq_eq_false_iff_ne]
 by_cases s:a=110
 .subst s;have k:=ff (show pb st 110 c={st with r:=vy c 6,M:=110,d:=st.d.kB 2 (mM c)}from by unfold pb;rw[<-L9 H.out.2 (Ï ⟨È U,U⟩),Mb A];rfl);go_enter Ā,ü;go_wp2_with (go_at_call 147;refine(L8 H.out.1 ((by have:=Ez H.out.1.C H.out.1.r on (i:=2) A;rw[n.out]at this;exact this:pY m b g st.d tm 2 (λz=>st.d.kB 2 z) (st.d.xt 2) w)) j on _ _ 110 A A λz=>(by have:=aaI (g:=g) (d:=st.d) (i:=2) (È U) z;rwa[n.out]at this)).mono ?_;rintro e u ⟨rfl,l⟩);go_end0;exact⟨U,by rwa[k.out]⟩
 have M:(a==110)=Ë:=by rwa[beq_eq_false_iff_ne]
 by_cases t:a=107
 .subst t;have k:=ff (show pb st 107 c={st with r:=vy c 6,M:=107,d:=st.d.kB 3 (mM c)}from by unfold pb;rw[<-L9 H.out.2 (Ï ⟨Ï U,U⟩),Mb A];rfl);go_enter Ā,ü;go_wp2_with (go_at_call 147;refine(L8 H.out.1 ((by have:=Ez H.out.1.C H.out.1.r on (i:=3) A;rw[n.out]at this;exact this:pY m b g st.d tm 3 (λz=>st.d.kB 3 z) (st.d.xt 3) w)) j on _ _ 107 A A λz=>(by have:=aaI (g:=g) (d:=st.d) (i:=3) (Ï U) z;rwa[n.out]at this)).mono ?_;rintro e u ⟨rfl,l⟩);go_end0;exact⟨U,by rwa[k.out]⟩
 have l:(a==107)=Ë:=by rwa[beq_eq_false_iff_ne]
 by_cases k:a=115
 .subst k;have f:=ff<|Ey H.out.1.C H.out.1.r on (i:=7) A;have C:=f.out.C;have D:=f.out.I;have E:=f.out.r;go_enter Ā,ü;go_wp2_with fail;go_region_with (go_at_call 146;refine(HR _ _ _).mono ?_;rintro e u ⟨rfl,F⟩;subst u);all_goals go_end0
  all_goals exact⟨U,Tq H.out.1 f.out j (Ma A) U⟩
 have f:(a==115)=Ë:=by rwa[beq_eq_false_iff_ne]
 go_enter Ā,ü;go_wp2;go_end0;refine⟨U,fc.fT _ _,g,O,B,?_⟩;have e:pb st a c={st with M:=a}:=by unfold pb PD.gf;rw[Ma ⟨Z,Z⟩,if_neg o,if_neg p,if_neg q,if_neg r,if_neg s,if_neg t,if_neg k,<-j]
 rw[e];exact H.out.1.To a j
end
section
variable{g:Gh}{s:ByteArray}{st:PS}{d:PD}
def Mf(m b:Nat)(o:Option PS)(e:Ending)(w u:Í):Prop:=
 (o=Á/\e=Ç (õ Ë)/\u=w)\/∃a,o=Â a/\e=Ç (õ Î)/\rE m b a w u
def aaK{o:Option PS}{e:Ending}(h:match o with
 |none=>e=Ç (õ Ë)/\u=w
 |some a=>e=Ç (õ Î)/\rE m b a w u):Mf m b o e w u:=by
 cases o with
 |none=>exact È ⟨U,h⟩
 |some a=>exact Ï ⟨a,U,h⟩
def apN{d:PD}(on:d.r=Î):d.C.length=d.S.length+1:=by rw[xu,on];rfl
def aaL(h:gP m b g O s st w)(j:st.r=0)(on:st.d.r=Î)(y:st.d.Y.length<=8)(z:st.d.C.length<=24)(c:Int): Ò À 95 #[Ã<|Â ⟨b,0,Á⟩,Å ū c] w λe u=>Mf m b (uq st c) e w u:=by
 have l:=h.C.r on;let⟨I,J,p⟩:=jo h.C.C;let⟨K,L,q⟩:=jo l.I;rw[h.C.aar]at p;rw[l.G]at q;have M:=h.r.r 0 _ U;have r:=h.r.r 1 _ U;have B:=h.r.r 2 _ U;rw[aaJ on]at B;rw[p]at r;have t:=l.r.r 8 _ (by have:=BX st.d.I.c g.r;rwa[l.M]at this);rw[q]at t;have N:=h.r.C 0;obtain⟨v,f⟩:∃n,st.d.C.length=n:=⟨_,U⟩;obtain⟨x,i⟩:∃n,st.d.Y.length=n:=⟨_,U⟩;rw[f]at r z;rw[i]at t y;have k:st.d.S.length+1=v:=by rw[<-f];exact(apN on).symm
 have H:=ff<|Ê h<|Ê f<|Ê i<|Ê k j;by_cases C:c=59/\v<24
 .obtain⟨rfl,a⟩:=C;go_enter ť,ŗ;go_wp2;go_ret;let⟨h,f,i,k,j⟩:=H.out;exact Ï ⟨_,by rw[uq,if_pos ⟨U,Z⟩],U,mB h 0 _,g,O,_,h.L5 _ [82] A A<|È on⟩
 by_cases D:c=44/\0<x/\x<8
 .obtain⟨rfl,P,Q⟩:=D;go_enter ť,ŗ;go_wp2_with (go_at_call 99;refine(aay H.out.1 H.out.2.2.2.2 on (by have:=H.out.2.2.1;omega)).mono ?_;rintro e u ⟨rfl,o,E,F,S,a⟩;have T:=a.r.r 0 _ U;have V:=a.r.C 0;have G:=ff<|Ê o a;clear o a);go_ret;let⟨h,f,i,k,j⟩:=H.out;let⟨o,a⟩:=G.out;exact Ï ⟨_,by rw[uq,if_neg Z,if_pos ⟨U,Z,Z⟩],U,o.fh<|mB a 0 _,E,F,_,a.L5 _ [120,84] A A<|È on⟩
 .have a:=ff (show uq st c=Á by
   let⟨h,f,i,k,j⟩:=H.out;rw[uq,if_neg Z,if_neg Z])
  go_enter ť,ŗ;go_wp2_with fail;all_goals first|(go_ret;exact È ⟨a.out,U,U⟩)|(exfalso;simp only[beq_iff_eq,decide_eq_true_eq]at*;omega)
def km:Τ->Option Τ
 |ń c=>Â c
 |.seq a b=>match km a with
  |some c=>Â c
  |none=>km b
 |.block _ c=>km c
 |.scope c=>km c
 |.cond _ a b=>match km a with
  |some c=>Â c
  |none=>km b
 |_=>Á
noncomputable def pZ:Τ:=(Tryz.f61.body.bind km).getD ai
def pf(b:Nat)(B:ByteArray)(i:Ñ)(u:Nat->Ñ):Ĉ:=⟨#[Ã<|Â ⟨b,0,Á⟩,Ä B,ĸ,ĸ,Å É 0,i,u 6,u 7,u 8,u 9,u 10,u 11,u 12,u 13,u 14,u 15,u 16,u 17,u 18,u 19,u 20,u 21,u 22,u 23,u 24,u 25,u 26,u 27,u 28,u 29,u 30,u 31,u 32,u 33,u 34,u 35,u 36,u 37,u 38,u 39,u 40,u 41,u 42,u 43,u 44,u 45,u 46,u 47,u 48,u 49,u 50,u 51,u 52,u 53,u 54,u 55,u 56,u 57,u 58,u 59,u 60,u 61,u 62,u 63,u 64,u 65,u 66,u 67,u 68,u 69,u 70,u 71,u 72,u 73,u 74,u 75,u 76,u 77,u 78,u 79,u 80,u 81,u 82,u 83,u 84,u 85,u 86,u 87,u 88,u 89,u 90,u 91,u 92,u 93,u 94,u 95,u 96,u 97,u 98,u 99,u 100,u 101,u 102,u 103,u 104,u 105,u 106,u 107,u 108,u 109,u 110,u 111,u 112,u 113,u 114,u 115,u 116,u 117,u 118,u 119,u 120,u 121,u 122,u 123,u 124,u 125,u 126,u 127,u 128,u 129,u 130,u 131,u 132,u 133,u 134,u 135,u 136,u 137,u 138,u 139,u 140,u 141,u 142,u 143,u 144,u 145,u 146],[]⟩
def Fr(b:Nat)(B:ByteArray)(i:Ñ)(a:Ĉ):Prop:=∃u,a=pf b B i u
def gl{b:Nat}{B:ByteArray}{i:Value}{a:Act}(h:a=pf b B i (λn=>a.tmps.getD n undef):=by rfl):Fr b B i a:=⟨_,h⟩
def QQ(X:Ĉ->Í->Prop):Exit->Ĉ->Í->Prop
 |.exit 0,a,w=>X a w
 |_,_,_=>False
def rF(m b:Nat)(B:ByteArray)(k:Nat)(st:PS)(a u:Í):Prop:=∃(h:k<B.size) (h:PS),uu B k st (B[k].toNat:Int)=Â h/\rE m b h a u
def rG(m b:Nat)(B:ByteArray)(k:Nat)(st:PS)(a u:Í):Prop:=∃h:k<B.size,uu B k st (B[k].toNat:Int)=Á/\∃c,rE m b c a u
theorem uz{d:Int}(h:(0<d/\yQ=Ë)\/d<=0):¬(0<d/\yQ=Î):=by grind
def uA(h:¬(0<st.r/\jW c=Î)):uu B k st c=lO B k {st with r:=0} c:=if_neg h
def apO(a:0<st.r)(b:jW c=Î):uu B k st c=Â (HQ st c):=if_pos ⟨a,b⟩
section
variable{want:Int}
def apP(h:st.C=[]):lO B k st c=uq st c:=by rw[lO,h]
def apQ(h:st.C=want::zQ)(a:want=82):lO B k st c=zt st (xr c):=by rw[lO,h];simp only;rw[if_pos a]
def apR(h:st.C=want::zQ)(a:want=66)(b:rC c=Î):lO B k st c=Â (pb {st with C:=[84],d:=st.d.sG} 120 c):=by rw[lO,h];simp only;rw[if_neg Z,if_pos a,if_pos b]
def apS(h:st.C=want::zQ)(a:want=66)(b:rC c=Ë):lO B k st c=uq st c:=by rw[lO,h];simp only;rw[if_neg Z,if_pos a,if_neg (by rw[b];decide)]
def apT(h:st.C=want::zQ)(a:want=84):lO B k st c=zu st (L0 c):=by rw[lO,h];simp only;rw[if_neg Z,if_neg Z,if_pos a]
def apU(h:st.C=want::zQ)(a:want=80)(b:c=125):lO B k st c=Â {st with C:=zQ,d:=st.d.sF (B.extract (k-st.I.toNat) k)}:=by rw[lO,h];simp only;rw[if_neg Z,if_neg Z,if_neg Z,if_pos a,if_pos b]
def aaM(h:st.C=want::zQ)(a:want=80)(b:¬c=125)(d:st.I=40\/lH c=0):lO B k st c=Á:=by rw[lO,h];simp only;rw[if_neg Z,if_neg Z,if_neg Z,if_pos a,if_neg b,if_pos d]
def apV(h:st.C=want::zQ)(a:want=80)(b:¬c=125)(d:¬st.I=40)(e:¬lH c=0):lO B k st c=Â {st with I:=st.I+1}:=by rw[lO,h];simp only;rw[if_neg Z,if_neg Z,if_neg Z,if_pos a,if_neg b,if_neg Z]
def apW(h:st.C=want::zQ)(a:¬want=82)(b:¬want=66)(d:¬want=84)(e:¬want=80)(f:pW want c=Î):lO B k st c=Â {pb st want c with C:=zQ}:=by rw[lO,h];simp only;rw[if_neg a,if_neg b,if_neg d,if_neg e,if_pos f]
def apX(h:st.C=want::zQ)(a:¬want=82)(b:¬want=66)(d:¬want=84)(e:¬want=80)(f:pW want c=Ë):lO B k st c=Á:=by rw[lO,h];simp only;rw[if_neg a,if_neg b,if_neg d,if_neg e,if_neg (by rw[f];decide)]
end
def uB(c:UInt8):(0:Int)<=(c.toNat:Int)/\(c.toNat:Int)<256:=⟨Int.natCast_nonneg _,by have:=c.toNat_lt;omega⟩
def TB(s:ByteArray)(h:s.size=0):(s.toList==[])=Î:=by simp_all
theorem sK(s:ByteArray)(h:¬s.size=0):(s.toList==[])=Ë:=by
 rw[beq_eq_false_iff_ne];intro e;have:s.toList.length=s.size:=by rw[ByteArray.toList_eq];rfl
 grind
def gP.apY(h:gP m b g O s st w)(on:st.d.r=Î)(i:c=86\/c=87\/c=110\/c=107):∃a e f,g.BW st.d c=⟨a,e,Á⟩/\pY m b g st.d a e f (st.d.G c) w/\∀z,f z=st.d.gf c z:=by
 rcases i with rfl|rfl|rfl|rfl
 .exact⟨_,_,_,U,Ey h.C h.r on A,λz=>rfl⟩
 .exact⟨_,_,_,U,Ey h.C h.r on A,λz=>rfl⟩
 .exact⟨_,_,_,U,Ez h.C h.r on A,λz=>rfl⟩
 .exact⟨_,_,_,U,Ez h.C h.r on A,λz=>rfl⟩
def gP.sF(h:gP m b g O s st w)(on:st.d.r=Î)(a:st.d.M=Î)(p:ByteArray):gP m b g O s {st with d:=st.d.sF p} (w.setCell ⟨g.t,5,Á⟩<|Ä p)/\fc (λi=>m<=i) w (w.setCell ⟨g.t,5,Á⟩<|Ä p):=by have l:=h.C.r on;let⟨f,j,c⟩:=l.C a;have e:fc (λi=>i=g.t) w (w.setCell ⟨g.t,5,Á⟩<|Ä p):=pe c;exact⟨⟨h.S,h.a.r _ trivial,h.r.I e λx=>fi.S h.r c A x,h.M,h.I,h.C.sF on a p,h.c,h.N⟩,e.S λi _ x=>by have:=l.S;omega⟩
def gP.aaN(h:gP m b g O s st w)(on:st.d.r=Î)(a:st.C=c::zQ):gP m b g O (s.extract 1 s.size) {st with C:=zQ} (w.setCell ⟨b,0,Á⟩<|Ä<|s.extract 1 s.size):= h.L5 _ zQ (ao6 s h.M) (by rw[ao5,h.I,a];rfl)<|È on
def gP.apZ(h:gP m b g O s st w)(a:st.C=c::zQ):0<s.size:=by have:=Tf s;rw[h.I,a]at this;simp at this;omega
end
section
variable{g:Gh}{s:ByteArray}{st:PS}{d:PD}
def ap0(h:gP m b g O s st w)(a:st.r=0)(c:st.d.r=Ë->st.d.S=[])(f:st.d.C.length<=100000)(k:Int): Ò À 96 #[Ã<|Â ⟨b,0,Á⟩,Å É k] w λe u=>Mf m b (zt st k) e w u:=(apx h a c f k).mono λ_ _ q=>aaK q
def ap1(h:gP m b g O s st w)(a:st.r=0)(on:st.d.r=Î)(c:st.d.M=Î)(k:Int): Ò À 101 #[Ã<|Â ⟨b,0,Á⟩,Å É k] w λe u=>Mf m b (zu st k) e w u:=(apo h a on c k).mono λ_ _ q=>aaK q
theorem ap2{X:Ĉ->Í->Prop}{a:Ĉ}(G:Fr b B (Å É k) a) (h:gP m b g O s st w) (i:jq B k st) (Q:B.size<=1200) (H:k<B.size) (n:0<st.r) (I:jW (B[k].toNat:Int)=Î) (S:∀a u,Fr b B (Å É<|(k:Int)+1) a/\rF m b B k st w u->K a u) (_hQ:∀a u,Fr b B (Å É k) a/\rG m b B k st w u->X a u): à À pZ (Exit.then K<|QQ X) a w:=by
 obtain⟨c,rfl⟩:=G;unfold pf;conv=>arg 2;whnf
 have T:w.cell? ⟨b,0,Á⟩=Â (Ä s):=h.r.r 0 _ U;have V:w.cell? ⟨b,6,Á⟩=Â (Å É st.r):=h.r.r 6 _ U;have W:w.cell? ⟨b,7,Á⟩=Â (Å É st.I):=h.r.r 7 _ U;have Y:=h.r.C 0;have f6:=h.r.C 6;have f7:=h.r.C 7;have d0:=i.M;have d1:=i.r;have e0:=i.C;have e1:=i.I;let⟨q,on,_,_⟩:=i.e n;let⟨r,ao,f,t,j,v⟩:=h.apY on q;have J:w.cell? ⟨b,5,Á⟩=Â (Ã O):=h.r.r 5 _ U;rw[(h.c n).2,t]at J;obtain⟨x,o⟩:∃x,st.d.G st.M=x:=⟨_,U⟩;have L:=j.C;rw[o]at L;have fm:=j.I;obtain⟨M,N⟩:∃y,wrap64 (x*10)=y:=⟨_,U⟩;obtain⟨l,P⟩:∃y,wrap64 (M+((B[k].toNat:Int)-48)%256)=y:=⟨_,U⟩;have Mg:¬r=b:=j.r;have Mh:¬b=r:=λe=>j.r e.symm;have z:=h.Y (st.r-1) λ_=>h.c n;have p:=j.S 6<|Å É<|st.r-1;have C:=z.G p l;have D:sH (st.d.G st.M) (B[k].toNat:Int)=l:=by rw[sH,š,š,o,N,P]
 have E:HQ st (B[k].toNat:Int)={st with r:=st.r-1,d:=f l}:=by rw[HQ,D,v]
 have F:Hid (uu B k st (B[k].toNat:Int)=Â {st with r:=st.r-1,d:=f l}/\rE m b {st with r:=st.r-1,d:=f l} w (ξ _)):= ff ⟨by rw[apO n I,E],(((mB h 6 _).fh<|EA (st:=st) p _).C (fc.fR fg _) λ_ _ x=>x.elim),g,O,s,C.fR⟩;clear z p C D E j v t h i o q;go_wp2_with (go_at_call 94;refine(rD _ _).mono ?_;rintro e u ⟨rfl,hw⟩;subst u);go_region;all_goals
  go_wp2;exact⟨gl,⟨H,_,F.out.1,F.out.2⟩⟩
theorem ap3{X:Ĉ->Í->Prop}(z:Fr b B (Å É k) y) (i:gP m b g O s st w) (j:jq B k st) (Q:B.size<=1200) (l:k<B.size) (n:(0<st.r/\jW (B[k].toNat:Int)=Ë)\/st.r<=0) (o:s.size=0) (S:∀y u,Fr b B (Å É<|(k:Int)+1) y/\rF m b B k st w u->K y u) (C:∀y u,Fr b B (Å É k) y/\rG m b B k st w u->X y u): à À pZ (Exit.then K<|QQ X) y w:=by
 obtain⟨f,rfl⟩:=z;unfold pf;conv=>arg 2;whnf
 have T:w.cell? ⟨b,0,Á⟩=Â (Ä s):=i.r.r 0 _ U;have V:w.cell? ⟨b,6,Á⟩=Â (Å É st.r):=i.r.r 6 _ U;have W:w.cell? ⟨b,7,Á⟩=Â (Å É st.I):=i.r.r 7 _ U;have Y:=i.r.C 0;have f6:=i.r.C 6;have f7:=i.r.C 7;have d0:=j.M;have d1:=j.r;have e0:=j.C;have e1:=j.I;have p:=ff<|uA (B:=B) (k:=k)<|uz n;have r:=i.Y 0 λh=>absurd h A;have t:=ff<|mB i 6<|Å É 0;have D:=j.d.C;have E:=j.d.I;have F:=ff r;let⟨s6,zv⟩:=uB B[k];have qt:=TB s o;have h:st.C=[]:=by rw[<-i.I];exact aan s o
 have G:st.d.r=Î:=by
  rcases i.N with q|q
  .exact q
  .rw[h]at q;cases q
 have v:=ff<|apP (B:=B) (k:=k) (c:=(B[k].toNat:Int)) (st:={st with r:=0}) h;clear h i j;rcases n with⟨H,oy⟩|H;all_goals
  go_wp2_with (first|(go_at_call 94;refine(rD _ _).mono ?_;rintro e u ⟨rfl,x⟩;subst u)|(go_at_call 95;refine(aaL r U G E D _).mono ?_;rintro e u (⟨q,rfl,x⟩|⟨I,q,rfl,J,L,M,N,P⟩)))
  .subst x;exact C _ _ ⟨gl,⟨l,p.out.trans<|v.out.trans q,_,t.out,_,_,_,F.out⟩⟩
  .exact⟨gl,⟨l,I,p.out.trans<|v.out.trans q,t.out.fh J,L,M,N,P⟩⟩
theorem ap4{X:Ĉ->Í->Prop}(z:Fr b B (Å É k) y) (i:gP m b g O s st w) (j:jq B k st) (P:B.size<=1200) (o:k<B.size) (p:(0<st.r/\jW (B[k].toNat:Int)=Ë)\/st.r<=0) (q:0<s.size) (l:((s[0]'q).toNat:Int)=82) (Q:∀y u,Fr b B (Å É<|(k:Int)+1) y/\rF m b B k st w u->K y u) (C:∀y u,Fr b B (Å É k) y/\rG m b B k st w u->X y u): à À pZ (Exit.then K<|QQ X) y w:=by
 obtain⟨f,rfl⟩:=z;unfold pf;conv=>arg 2;whnf
 have S:w.cell? ⟨b,0,Á⟩=Â (Ä s):=i.r.r 0 _ U;have T:w.cell? ⟨b,6,Á⟩=Â (Å É st.r):=i.r.r 6 _ U;have V:w.cell? ⟨b,7,Á⟩=Â (Å É st.I):=i.r.r 7 _ U;have W:=i.r.C 0;have Y:=i.r.C 6;have f7:=i.r.C 7;have d0:=j.M;have d1:=j.r;have e0:=j.C;have e1:=j.I;have r:=ff<|uA (B:=B) (k:=k)<|uz p;have t:=i.Y 0 λh=>absurd h A;have v:=ff<|mB i 6<|Å É 0;have zw:=j.d.C;have BY:=j.d.I;have D:=ff t;let⟨s6,zv⟩:=uB B[k];have qt:=sK s Z;have xv:s.size<=10:=i.M;have E:=ff (show st.C=(s[0].toNat:Int)::(jO s).tail by rw[<-i.I];exact vu s q);have x:=ff<|apQ (B:=B) (k:=k) (c:=(B[k].toNat:Int)) (st:={st with r:=0}) E.out l;have xw:((s[0].toNat:Int)==82)=Î:=by rw[l];rfl
 have F:=ff λe=>(j.d.N e).1;clear l i j;rcases p with⟨G,oy⟩|G;all_goals
  go_wp2_with (first|(go_at_call 94;refine(rD _ _).mono ?_;rintro e u ⟨rfl,h⟩;subst u)|(go_at_call 97;refine(apf _ _).mono ?_;rintro e u ⟨rfl,h⟩;subst u)|(go_at_call 96;refine(ap0 t U F.out (by show st.d.C.length<=100000;omega) _).mono ?_;rintro e u (⟨n,rfl,h⟩|⟨H,n,rfl,I,J,L,M,N⟩)))
  .subst h;exact C _ _ ⟨gl,⟨o,r.out.trans<|x.out.trans n,_,v.out,_,_,_,D.out⟩⟩
  .exact⟨gl,⟨o,H,r.out.trans<|x.out.trans n,v.out.fh I,J,L,M,N⟩⟩
end
section
variable{g:Gh}{s:ByteArray}{st:PS}{d:PD}
def ap5{X:Ĉ->Í->Prop}(t:Fr b B (Å É k) y) (f:gP m b g O s st w) (i:jq B k st) (M:B.size<=1200) (v:k<B.size) (l:(0<st.r/\jW (B[k].toNat:Int)=Ë)\/st.r<=0) (n:0<s.size) (j:((s[0]'n).toNat:Int)=66) (o:rC (B[k].toNat:Int)=Î) (N:∀y u,Fr b B (Å É<|(k:Int)+1) y/\rF m b B k st w u->K y u) (_hQ:∀y u,Fr b B (Å É k) y/\rG m b B k st w u->X y u): à À pZ (Exit.then K<|QQ X) y w:=by
 obtain⟨c,rfl⟩:=t;unfold pf;conv=>arg 2;whnf
 have P:w.cell? ⟨b,0,Á⟩=Â (Ä s):=f.r.r 0 _ U;have Q:w.cell? ⟨b,6,Á⟩=Â (Å É st.r):=f.r.r 6 _ U;have S:w.cell? ⟨b,7,Á⟩=Â (Å É st.I):=f.r.r 7 _ U;have T:=f.r.C 0;have V:=f.r.C 6;have W:=f.r.C 7;have Y:=i.M;have d1:=i.r;have e0:=i.C;have e1:=i.I;have x:=ff<|uA (B:=B) (k:=k)<|uz l;have p:=f.Y 0 λh=>absurd h A;have z:=ff<|mB f 6<|Å É 0;have zw:=i.d.C;have BY:=i.d.I;have HH1:=ff p;let⟨C,D⟩:=uB B[k];have qt:=sK s Z;have xv:s.size<=10:=f.M;have h:=ff (show st.C=(s[0].toNat:Int)::(jO s).tail by rw[<-f.I];exact vu s n);have r:st.d.r=Î:=by
  rcases f.N with q|q
  .exact q
  .rw[h.out]at q;injection q with q;omega
 have q:=ff<|apR (B:=B) (k:=k) (st:={st with r:=0}) h.out j o;have xw:((s[0].toNat:Int)==82)=Ë:=by rw[j];rfl
 have EE:((s[0].toNat:Int)==66)=Î:=by rw[j];rfl
 clear j f i;rcases l with⟨E,oy⟩|E;all_goals
  go_wp2_with (first|(go_at_call 94;refine(rD _ _).mono ?_;rintro e u ⟨rfl,F⟩;subst u)|(go_at_call 98;refine(Tg _ C D _).mono ?_;rintro e u ⟨rfl,F⟩;subst u)|(go_at_call 99;refine(aay p U r<|by show st.d.Y.length<=100000;omega).mono ?_;rintro e u ⟨rfl,F,H,I,J,G⟩)|(go_at_call 100;refine(K2 G U r _ _<|show pW 120 _=Î from o).mono ?_;rintro e w'' ⟨rfl,G,H,I,J,L⟩))
  exact⟨gl,⟨v,_,x.out.trans q.out,z.out.fh<|F.fh G,H,I,J,L⟩⟩
def ap6{X:Ĉ->Í->Prop}(z:Fr b B (Å É k) y) (f:gP m b g O s st w) (i:jq B k st) (V:B.size<=1200) (l:k<B.size) (n:(0<st.r/\jW (B[k].toNat:Int)=Ë)\/st.r<=0) (o:0<s.size) (j:((s[0]'o).toNat:Int)=66) (C:rC (B[k].toNat:Int)=Ë) (W:∀y u,Fr b B (Å É<|(k:Int)+1) y/\rF m b B k st w u->K y u) (D:∀y u,Fr b B (Å É k) y/\rG m b B k st w u->X y u): à À pZ (Exit.then K<|QQ X) y w:=by
 obtain⟨c,rfl⟩:=z;unfold pf;conv=>arg 2;whnf
 have Y:w.cell? ⟨b,0,Á⟩=Â (Ä s):=f.r.r 0 _ U;have c6:w.cell? ⟨b,6,Á⟩=Â (Å É st.r):=f.r.r 6 _ U;have c7:w.cell? ⟨b,7,Á⟩=Â (Å É st.I):=f.r.r 7 _ U;have f0:=f.r.C 0;have f6:=f.r.C 6;have f7:=f.r.C 7;have d0:=i.M;have d1:=i.r;have e0:=i.C;have e1:=i.I;have p:=ff<|uA (B:=B) (k:=k)<|uz n;have r:=f.Y 0 λh=>absurd h A;have t:=ff<|mB f 6<|Å É 0;have E:=i.d.C;have F:=i.d.I;have G:=ff r;let⟨H,I⟩:=uB B[k];have qt:=sK s Z;have xv:s.size<=10:=f.M;have v:=ff (show st.C=(s[0].toNat:Int)::(jO s).tail by rw[<-f.I];exact vu s o);have J:st.d.r=Î:=by
  rcases f.N with q|q
  .exact q
  .rw[v.out]at q;injection q with q;omega
 have x:=ff<|apS (B:=B) (k:=k) (st:={st with r:=0}) v.out j C;have xw:((s[0].toNat:Int)==82)=Ë:=by rw[j];rfl
 have EE:((s[0].toNat:Int)==66)=Î:=by rw[j];rfl
 clear j f i;rcases n with⟨L,oy⟩|L;all_goals
  go_wp2_with (first|(go_at_call 94;refine(rD _ _).mono ?_;rintro e u ⟨rfl,h⟩;subst u)|(go_at_call 98;refine(Tg _ H I _).mono ?_;rintro e u ⟨rfl,h⟩;subst u)|(go_at_call 95;refine(aaL r U J F E _).mono ?_;rintro e u (⟨q,rfl,h⟩|⟨M,q,rfl,N,P,Q,S,T⟩)))
  .subst h;exact D _ _ ⟨gl,⟨l,p.out.trans<|x.out.trans q,_,t.out,_,_,_,G.out⟩⟩
  .exact⟨gl,⟨l,M,p.out.trans<|x.out.trans q,t.out.fh N,P,Q,S,T⟩⟩
theorem ap7{X:Ĉ->Í->Prop}(C:Fr b B (Å É k) y) (i:gP m b g O s st w) (j:jq B k st) (Q:B.size<=1200) (o:k<B.size) (p:(0<st.r/\jW (B[k].toNat:Int)=Ë)\/st.r<=0) (r:0<s.size) (l:((s[0]'r).toNat:Int)=84) (S:∀y u,Fr b B (Å É<|(k:Int)+1) y/\rF m b B k st w u->K y u) (D:∀y u,Fr b B (Å É k) y/\rG m b B k st w u->X y u): à À pZ (Exit.then K<|QQ X) y w:=by
 obtain⟨f,rfl⟩:=C;unfold pf;conv=>arg 2;whnf
 have T:w.cell? ⟨b,0,Á⟩=Â (Ä s):=i.r.r 0 _ U;have V:w.cell? ⟨b,6,Á⟩=Â (Å É st.r):=i.r.r 6 _ U;have W:w.cell? ⟨b,7,Á⟩=Â (Å É st.I):=i.r.r 7 _ U;have Y:=i.r.C 0;have f6:=i.r.C 6;have f7:=i.r.C 7;have d0:=j.M;have d1:=j.r;have e0:=j.C;have e1:=j.I;have t:=ff<|uA (B:=B) (k:=k)<|uz p;have v:=i.Y 0 λh=>absurd h A;have x:=ff<|mB i 6<|Å É 0;have zw:=j.d.C;have BY:=j.d.I;have E:=ff v;let⟨s6,zv⟩:=uB B[k];have qt:=sK s Z;have xv:s.size<=10:=i.M;have h:=ff (show st.C=(s[0].toNat:Int)::(jO s).tail by rw[<-i.I];exact vu s r);have F:st.d.r=Î:=by
  rcases i.N with q|q
  .exact q
  .rw[h.out]at q;injection q with q;omega
 have G:st.d.M=Î:=j.N (by rw[h.out,l];simp);have z:=ff<|apT (B:=B) (k:=k) (c:=(B[k].toNat:Int)) (st:={st with r:=0}) h.out l;have xw:((s[0].toNat:Int)==82)=Ë:=by rw[l];rfl
 have EE:((s[0].toNat:Int)==66)=Ë:=by rw[l];rfl
 have EF:((s[0].toNat:Int)==84)=Î:=by rw[l];rfl
 clear l i j;rcases p with⟨H,oy⟩|H;all_goals
  go_wp2_with (first|(go_at_call 94;refine(rD _ _).mono ?_;rintro e u ⟨rfl,q⟩;subst u)|(go_at_call 102;refine(ape _ _).mono ?_;rintro e u ⟨rfl,q⟩;subst u)|(go_at_call 101;refine(ap1 v U F G _).mono ?_;rintro e u (⟨n,rfl,q⟩|⟨I,n,rfl,J,L,M,N,P⟩)))
  .subst q;exact D _ _ ⟨gl,⟨o,t.out.trans<|z.out.trans n,_,x.out,_,_,_,E.out⟩⟩
  .exact⟨gl,⟨o,I,t.out.trans<|z.out.trans n,x.out.fh J,L,M,N,P⟩⟩
end
section
variable{g:Gh}{s:ByteArray}{st:PS}{d:PD}
theorem ap8{X:Ĉ->Í->Prop}(N:Fr b B (Å É k) y) (i:gP m b g O s st w) (j:jq B k st) (hB:B.size<=1200) (P:k<B.size) (E:(0<st.r/\jW (B[k].toNat:Int)=Ë)\/st.r<=0) (F:0<s.size) (l:((s[0]'F).toNat:Int)=80) (r:(B[k].toNat:Int)=125) (hK:∀y u,Fr b B (Å É<|(k:Int)+1) y/\rF m b B k st w u->K y u) (_hQ:∀y u,Fr b B (Å É k) y/\rG m b B k st w u->X y u): à À pZ (Exit.then K<|QQ X) y w:=by
 obtain⟨f,rfl⟩:=N;unfold pf;conv=>arg 2;whnf
 have c0:w.cell? ⟨b,0,Á⟩=Â (Ä s):=i.r.r 0 _ U;have c6:w.cell? ⟨b,6,Á⟩=Â (Å É st.r):=i.r.r 6 _ U;have Q:w.cell? ⟨b,7,Á⟩=Â (Å É st.I):=i.r.r 7 _ U;have f0:=i.r.C 0;have f6:=i.r.C 6;have f7:=i.r.C 7;have d0:=j.M;have d1:=j.r;have S:=j.C;have T:=j.I;have G:=ff<|uA (B:=B) (k:=k)<|uz E;have v:=i.Y 0 λh=>absurd h A;have H:=ff<|mB i 6<|Å É 0;have zw:=j.d.C;have BY:=j.d.I;have V:=ff v;let⟨s6,zv⟩:=uB B[k];have qt:=sK s Z;have xv:s.size<=10:=i.M;have h:=ff (show st.C=(s[0].toNat:Int)::(jO s).tail by rw[<-i.I];exact vu s F);have z:st.d.r=Î:=by
  rcases i.N with q|q
  .exact q
  .rw[h.out]at q;injection q with q;omega
 have C:st.d.M=Î:=j.N (by rw[h.out,l];simp);have W:w.cell? ⟨b,3,Á⟩=Â (Ã<|g.Y st.d):=i.r.r 3 _ U;rw[HT C]at W;let⟨Y,I,q⟩:=(i.C.r z).C C;have TC:w.cell? ⟨g.t,5,Á⟩=Â (Ä st.d.N.p):=q.r 5 _ (by have:=BX st.d.N.c<|Ä st.d.N.p;rwa[I]at this);have TD:=q.C 5;have Mh:¬b=g.t:=λe=>fi.S q i.r A e.symm;have Mg:¬g.t=b:=fi.S q i.r A;let⟨Mi,_⟩:=j.Y (by rw[h.out,l];simp);have xw:((s[0].toNat:Int)==82)=Ë:=by rw[l];rfl
 have EE:((s[0].toNat:Int)==66)=Ë:=by rw[l];rfl
 have EF:((s[0].toNat:Int)==84)=Ë:=by rw[l];rfl
 have HZ:((s[0].toNat:Int)==80)=Î:=by rw[l];rfl
 clear Y I q;have J:=ff<|apU (B:=B) (k:=k) (st:={st with r:=0}) h.out l r;have TF:((B[k].toNat:Int) !=125)=Ë:=by rw[r];rfl
 obtain⟨n,L⟩:∃t:Nat,st.I=(t:Int):=⟨st.I.toNat,Z⟩;have o:=v.sF z C<|B.extract (k-n) k;have M:=o.1.aaN z h.out;have D:=ff (Ê (show uu B k st (B[k].toNat:Int)=Â {({st with r:=0}:PS)with C:=(jO s).tail,d:=st.d.sF (B.extract (k-n) k)} by rw[G.out,J.out,show({st with r:=0}:PS).I.toNat=n by show st.I.toNat=n;omega])<|Ê ((H.out.fh o.2).fh<|mB o.1 0<|Ä<|s.extract 1 s.size) M);rw[L]at Q S T Mi;clear r l i j o M L J G H V v;rcases E with⟨Bc,oy⟩|Bc;all_goals
  go_wp2_with (first|(go_at_call 94;refine(rD _ _).mono ?_;rintro e u ⟨rfl,x⟩;subst u))
  go_region
  all_goals
   go_wp2;exact⟨gl,⟨P,_,D.out.1,D.out.2.1.C (fc.fR fg _) λ_ _ x=>x.elim,_,_,_,D.out.2.2.fR⟩⟩
theorem ap9{X:Ĉ->Í->Prop}(C:Fr b B (Å É k) y) (i:gP m b g O s st w) (j:jq B k st) (Q:B.size<=1200) (D:k<B.size) (v:(0<st.r/\jW (B[k].toNat:Int)=Ë)\/st.r<=0) (x:0<s.size) (l:((s[0]'x).toNat:Int)=80) (o:¬(B[k].toNat:Int)=125) (r:st.I=40) (_hK:∀y u,Fr b B (Å É<|(k:Int)+1) y/\rF m b B k st w u->K y u) (E:∀y u,Fr b B (Å É k) y/\rG m b B k st w u->X y u): à À pZ (Exit.then K<|QQ X) y w:=by
 obtain⟨f,rfl⟩:=C;unfold pf;conv=>arg 2;whnf
 have S:w.cell? ⟨b,0,Á⟩=Â (Ä s):=i.r.r 0 _ U;have T:w.cell? ⟨b,6,Á⟩=Â (Å É st.r):=i.r.r 6 _ U;have V:w.cell? ⟨b,7,Á⟩=Â (Å É st.I):=i.r.r 7 _ U;have W:=i.r.C 0;have Y:=i.r.C 6;have f7:=i.r.C 7;have d0:=j.M;have d1:=j.r;have e0:=j.C;have e1:=j.I;have F:=ff<|uA (B:=B) (k:=k)<|uz v;have G:=i.Y 0 λh=>absurd h A;have H:=ff<|mB i 6<|Å É 0;have zw:=j.d.C;have BY:=j.d.I;have I:=ff G;let⟨s6,zv⟩:=uB B[k];have qt:=sK s Z;have xv:s.size<=10:=i.M;have n:=ff (show st.C=(s[0].toNat:Int)::(jO s).tail by rw[<-i.I];exact vu s x);have J:st.d.r=Î:=by
  rcases i.N with q|q
  .exact q
  .rw[n.out]at q;injection q with q;omega
 have q:st.d.M=Î:=j.N (by rw[n.out,l];simp);have L:w.cell? ⟨b,3,Á⟩=Â (Ã<|g.Y st.d):=i.r.r 3 _ U;rw[HT q]at L;let⟨M,z,h⟩:=(i.C.r J).C q;have TC:w.cell? ⟨g.t,5,Á⟩=Â (Ä st.d.N.p):=h.r 5 _ (by have:=BX st.d.N.c<|Ä st.d.N.p;rwa[z]at this);have TD:=h.C 5;have Mh:¬b=g.t:=λe=>fi.S h i.r A e.symm;have Mg:¬g.t=b:=fi.S h i.r A;let⟨Mi,_⟩:=j.Y (by rw[n.out,l];simp);have xw:((s[0].toNat:Int)==82)=Ë:=by rw[l];rfl
 have EE:((s[0].toNat:Int)==66)=Ë:=by rw[l];rfl
 have EF:((s[0].toNat:Int)==84)=Ë:=by rw[l];rfl
 have HZ:((s[0].toNat:Int)==80)=Î:=by rw[l];rfl
 clear M z h;have TF:((B[k].toNat:Int) !=125)=Î:=by rwa[bne_iff_ne]
 have N:=ff<|aaM (B:=B) (k:=k) (st:={st with r:=0}) n.out l o<|È r;have aaO:(st.I==40)=Î:=by rw[r];rfl
 clear r o l i j;rcases v with⟨P,oy⟩|P;all_goals
  go_wp2_with (first|(go_at_call 94;refine(rD _ _).mono ?_;rintro e u ⟨rfl,hw⟩;subst u))
  exact E _ _ ⟨gl,⟨D,F.out.trans N.out,_,H.out,_,_,_,I.out⟩⟩
theorem aqa{X:Ĉ->Í->Prop}(E:Fr b B (Å É k) y) (i:gP m b g O s st w) (j:jq B k st) (S:B.size<=1200) (F:k<B.size) (v:(0<st.r/\jW (B[k].toNat:Int)=Ë)\/st.r<=0) (x:0<s.size) (l:((s[0]'x).toNat:Int)=80) (o:¬(B[k].toNat:Int)=125) (r:¬st.I=40) (z:¬lH (B[k].toNat:Int)=0) (T:∀y u,Fr b B (Å É<|(k:Int)+1) y/\rF m b B k st w u->K y u) (_hQ:∀y u,Fr b B (Å É k) y/\rG m b B k st w u->X y u): à À pZ (Exit.then K<|QQ X) y w:=by
 obtain⟨f,rfl⟩:=E;unfold pf;conv=>arg 2;whnf
 have V:w.cell? ⟨b,0,Á⟩=Â (Ä s):=i.r.r 0 _ U;have W:w.cell? ⟨b,6,Á⟩=Â (Å É st.r):=i.r.r 6 _ U;have Y:w.cell? ⟨b,7,Á⟩=Â (Å É st.I):=i.r.r 7 _ U;have f0:=i.r.C 0;have f6:=i.r.C 6;have f7:=i.r.C 7;have d0:=j.M;have d1:=j.r;have e0:=j.C;have e1:=j.I;have G:=ff<|uA (B:=B) (k:=k)<|uz v;have H:=i.Y 0 λh=>absurd h A;have I:=ff<|mB i 6<|Å É 0;have zw:=j.d.C;have BY:=j.d.I;have C:=ff H;let⟨s6,zv⟩:=uB B[k];have qt:=sK s Z;have xv:s.size<=10:=i.M;have n:=ff (show st.C=(s[0].toNat:Int)::(jO s).tail by rw[<-i.I];exact vu s x);have J:st.d.r=Î:=by
  rcases i.N with q|q
  .exact q
  .rw[n.out]at q;injection q with q;omega
 have q:st.d.M=Î:=j.N (by rw[n.out,l];simp);have L:w.cell? ⟨b,3,Á⟩=Â (Ã<|g.Y st.d):=i.r.r 3 _ U;rw[HT q]at L;let⟨M,D,h⟩:=(i.C.r J).C q;have TC:w.cell? ⟨g.t,5,Á⟩=Â (Ä st.d.N.p):=h.r 5 _ (by have:=BX st.d.N.c<|Ä st.d.N.p;rwa[D]at this);have TD:=h.C 5;have Mh:¬b=g.t:=λe=>fi.S h i.r A e.symm;have Mg:¬g.t=b:=fi.S h i.r A;let⟨Mi,_⟩:=j.Y (by rw[n.out,l];simp);have xw:((s[0].toNat:Int)==82)=Ë:=by rw[l];rfl
 have EE:((s[0].toNat:Int)==66)=Ë:=by rw[l];rfl
 have EF:((s[0].toNat:Int)==84)=Ë:=by rw[l];rfl
 have HZ:((s[0].toNat:Int)==80)=Î:=by rw[l];rfl
 clear M D h;have TF:((B[k].toNat:Int) !=125)=Î:=by rwa[bne_iff_ne]
 have N:=ff<|apV (B:=B) (k:=k) (st:={st with r:=0}) n.out l o r z;have aaO:(st.I==40)=Ë:=by rwa[beq_eq_false_iff_ne]
 have yy:((lH (B[k].toNat:Int):Int)==0)=Ë:=by rw[beq_eq_false_iff_ne];omega
 clear r o l i j z;rcases v with⟨P,oy⟩|P;all_goals
  go_wp2_with (first|(go_at_call 94;refine(rD _ _).mono ?_;rintro e u ⟨rfl,Q⟩;subst u)|(go_at_call 103;refine(pQ _ _).mono ?_;rintro e u ⟨rfl,Q⟩;subst u))
  exact⟨gl,⟨F,_,G.out.trans N.out,I.out.fh<|mB C.out 7 _,_,_,_,C.out.aav _⟩⟩
theorem aqb{X:Ĉ->Í->Prop}(D:Fr b B (Å É k) y) (i:gP m b g O s st w) (j:jq B k st) (T:B.size<=1200) (E:k<B.size) (v:(0<st.r/\jW (B[k].toNat:Int)=Ë)\/st.r<=0) (x:0<s.size) (l:((s[0]'x).toNat:Int)=80) (o:¬(B[k].toNat:Int)=125) (z:¬st.I=40) (r:lH (B[k].toNat:Int)=0) (_hK:∀y u,Fr b B (Å É<|(k:Int)+1) y/\rF m b B k st w u->K y u) (F:∀y u,Fr b B (Å É k) y/\rG m b B k st w u->X y u): à À pZ (Exit.then K<|QQ X) y w:=by
 obtain⟨f,rfl⟩:=D;unfold pf;conv=>arg 2;whnf
 have V:w.cell? ⟨b,0,Á⟩=Â (Ä s):=i.r.r 0 _ U;have W:w.cell? ⟨b,6,Á⟩=Â (Å É st.r):=i.r.r 6 _ U;have Y:w.cell? ⟨b,7,Á⟩=Â (Å É st.I):=i.r.r 7 _ U;have f0:=i.r.C 0;have f6:=i.r.C 6;have f7:=i.r.C 7;have d0:=j.M;have d1:=j.r;have e0:=j.C;have e1:=j.I;have G:=ff<|uA (B:=B) (k:=k)<|uz v;have H:=i.Y 0 λh=>absurd h A;have I:=ff<|mB i 6<|Å É 0;have zw:=j.d.C;have BY:=j.d.I;have J:=ff H;let⟨s6,zv⟩:=uB B[k];have qt:=sK s Z;have xv:s.size<=10:=i.M;have n:=ff (show st.C=(s[0].toNat:Int)::(jO s).tail by rw[<-i.I];exact vu s x);have L:st.d.r=Î:=by
  rcases i.N with q|q
  .exact q
  .rw[n.out]at q;injection q with q;omega
 have q:st.d.M=Î:=j.N (by rw[n.out,l];simp);have M:w.cell? ⟨b,3,Á⟩=Â (Ã<|g.Y st.d):=i.r.r 3 _ U;rw[HT q]at M;let⟨N,C,h⟩:=(i.C.r L).C q;have TC:w.cell? ⟨g.t,5,Á⟩=Â (Ä st.d.N.p):=h.r 5 _ (by have:=BX st.d.N.c<|Ä st.d.N.p;rwa[C]at this);have TD:=h.C 5;have Mh:¬b=g.t:=λe=>fi.S h i.r A e.symm;have Mg:¬g.t=b:=fi.S h i.r A;let⟨Mi,_⟩:=j.Y (by rw[n.out,l];simp);have xw:((s[0].toNat:Int)==82)=Ë:=by rw[l];rfl
 have EE:((s[0].toNat:Int)==66)=Ë:=by rw[l];rfl
 have EF:((s[0].toNat:Int)==84)=Ë:=by rw[l];rfl
 have HZ:((s[0].toNat:Int)==80)=Î:=by rw[l];rfl
 clear N C h;have TF:((B[k].toNat:Int) !=125)=Î:=by rwa[bne_iff_ne]
 have P:=ff<|aaM (B:=B) (k:=k) (st:={st with r:=0}) n.out l o<|Ï r;have aaO:(st.I==40)=Ë:=by rwa[beq_eq_false_iff_ne]
 have yy:((lH (B[k].toNat:Int):Int)==0)=Î:=by rw[r];rfl
 clear z o l i j r;rcases v with⟨Q,oy⟩|Q;all_goals
  go_wp2_with (first|(go_at_call 94;refine(rD _ _).mono ?_;rintro e u ⟨rfl,S⟩;subst u)|(go_at_call 103;refine(pQ _ _).mono ?_;rintro e u ⟨rfl,S⟩;subst u))
  exact F _ _ ⟨gl,⟨E,G.out.trans P.out,_,I.out,_,_,_,J.out⟩⟩
end
section
variable{g:Gh}{s:ByteArray}{st:PS}{d:PD}
def aqc{X:Ĉ->Í->Prop}(D:Fr b B (Å É k) y) (f:gP m b g O s st w) (i:jq B k st) (Q:B.size<=1200) (E:k<B.size) (v:(0<st.r/\jW (B[k].toNat:Int)=Ë)\/st.r<=0) (j:0<s.size) (n:¬((s[0]'j).toNat:Int)=82) (o:¬((s[0]'j).toNat:Int)=66) (p:¬((s[0]'j).toNat:Int)=84) (r:¬((s[0]'j).toNat:Int)=80) (x:pW ((s[0]'j).toNat:Int) (B[k].toNat:Int)=Î) (S:∀y u,Fr b B (Å É<|(k:Int)+1) y/\rF m b B k st w u->K y u) (_hQ:∀y u,Fr b B (Å É k) y/\rG m b B k st w u->X y u): à À pZ (Exit.then K<|QQ X) y w:=by
 obtain⟨c,rfl⟩:=D;unfold pf;conv=>arg 2;whnf
 have T:w.cell? ⟨b,0,Á⟩=Â (Ä s):=f.r.r 0 _ U;have V:w.cell? ⟨b,6,Á⟩=Â (Å É st.r):=f.r.r 6 _ U;have W:w.cell? ⟨b,7,Á⟩=Â (Å É st.I):=f.r.r 7 _ U;have Y:=f.r.C 0;have f6:=f.r.C 6;have f7:=f.r.C 7;have d0:=i.M;have d1:=i.r;have e0:=i.C;have e1:=i.I;have F:=ff<|uA (B:=B) (k:=k)<|uz v;have G:=f.Y 0 λh=>absurd h A;have H:=ff<|mB f 6<|Å É 0;have zw:=i.d.C;let⟨I,J⟩:=uB B[k];have qt:=sK s Z;have xv:s.size<=10:=f.M;have l:=ff (show st.C=(s[0].toNat:Int)::(jO s).tail by rw[<-f.I];exact vu s j);have z:st.d.r=Î:=by
  rcases f.N with q|q
  .exact q
  .rw[l.out]at q;injection q with q;omega
 have xw:((s[0].toNat:Int)==82)=Ë:=by rwa[beq_eq_false_iff_ne]
 have aqd:((s[0].toNat:Int)==66)=Ë:=by rwa[beq_eq_false_iff_ne]
 have EF:((s[0].toNat:Int)==84)=Ë:=by rwa[beq_eq_false_iff_ne]
 have HZ:((s[0].toNat:Int)==80)=Ë:=by rwa[beq_eq_false_iff_ne]
 have L:=ff<|apW (B:=B) (k:=k) (st:={st with r:=0}) l.out n o p r x;have M:=ff x;clear n o p r f i;rcases v with⟨N,oy⟩|N;all_goals
  go_wp2_with (first|(go_at_call 94;refine(rD _ _).mono ?_;rintro e u ⟨rfl,h⟩;subst u)|(go_at_call 104;refine(aap _ _ I J _).mono ?_;rintro e u ⟨rfl,h⟩;subst u)|(go_at_call 100;refine(K2 G U z _ _ M.out).mono ?_;rintro e P ⟨rfl,C,g',nm',q,h⟩;have k0:P.cell? ⟨b,0,Á⟩=Â (Ä q):=h.r.r 0 _ U;have kf0:=h.r.C 0;have s7:0<q.size:=h.apZ l.out;have atb:q.size<=10:=h.M;have t:=ff<|Ê C h;clear C h))
  exact⟨gl,⟨E,_,F.out.trans L.out,H.out.fh<|t.out.1.fh<|mB t.out.2 0 _,_,_,_,t.out.2.aaN ((Tv _ _ _).1.trans z) l.out⟩⟩
def aqe{X:Ĉ->Í->Prop}(t:Fr b B (Å É k) y) (f:gP m b g O s st w) (i:jq B k st) (L:B.size<=1200) (v:k<B.size) (r:(0<st.r/\jW (B[k].toNat:Int)=Ë)\/st.r<=0) (j:0<s.size) (l:¬((s[0]'j).toNat:Int)=82) (n:¬((s[0]'j).toNat:Int)=66) (o:¬((s[0]'j).toNat:Int)=84) (p:¬((s[0]'j).toNat:Int)=80) (x:pW ((s[0]'j).toNat:Int) (B[k].toNat:Int)=Ë) (_hK:∀y u,Fr b B (Å É<|(k:Int)+1) y/\rF m b B k st w u->K y u) (z:∀y u,Fr b B (Å É k) y/\rG m b B k st w u->X y u): à À pZ (Exit.then K<|QQ X) y w:=by
 obtain⟨c,rfl⟩:=t;unfold pf;conv=>arg 2;whnf
 have M:w.cell? ⟨b,0,Á⟩=Â (Ä s):=f.r.r 0 _ U;have N:w.cell? ⟨b,6,Á⟩=Â (Å É st.r):=f.r.r 6 _ U;have P:w.cell? ⟨b,7,Á⟩=Â (Å É st.I):=f.r.r 7 _ U;have Q:=f.r.C 0;have S:=f.r.C 6;have T:=f.r.C 7;have V:=i.M;have W:=i.r;have Y:=i.C;have e1:=i.I;have C:=ff<|uA (B:=B) (k:=k)<|uz r;have D:=f.Y 0 λh=>absurd h A;have E:=ff<|mB f 6<|Å É 0;have zw:=i.d.C;have BY:=i.d.I;have F:=ff D;let⟨G,H⟩:=uB B[k];have qt:=sK s Z;have xv:s.size<=10:=f.M;have h:=ff (show st.C=(s[0].toNat:Int)::(jO s).tail by rw[<-f.I];exact vu s j);have on:st.d.r=Î:=by
  rcases f.N with q|q
  .exact q
  .rw[h.out]at q;injection q with q;omega
 have xw:((s[0].toNat:Int)==82)=Ë:=by rwa[beq_eq_false_iff_ne]
 have aqd:((s[0].toNat:Int)==66)=Ë:=by rwa[beq_eq_false_iff_ne]
 have EF:((s[0].toNat:Int)==84)=Ë:=by rwa[beq_eq_false_iff_ne]
 have HZ:((s[0].toNat:Int)==80)=Ë:=by rwa[beq_eq_false_iff_ne]
 have q:=ff<|apX (B:=B) (k:=k) (st:={st with r:=0}) h.out l n o p x;clear l n o p f i;rcases r with⟨I,oy⟩|I;all_goals
  go_wp2_with (first|(go_at_call 94;refine(rD _ _).mono ?_;rintro e u ⟨rfl,J⟩;subst u)|(go_at_call 104;refine(aap _ _ G H _).mono ?_;rintro e u ⟨rfl,J⟩;subst u))
  exact z _ _ ⟨gl,⟨v,C.out.trans q.out,_,E.out,_,_,_,F.out⟩⟩
end
section
variable{g:Gh}{c:PS}{d:PD}
theorem aqf{X:Ĉ->Í->Prop}{d:ByteArray}(e:Fr b d (Å É k) y) (f:gP m b g O B c w) (h:jq d k c) (i:d.size<=1200) (j:k<d.size) (l:∀y v,Fr b d (Å É<|(k:Int)+1) y/\rF m b d k c w v->K y v) (n:∀y v,Fr b d (Å É k) y/\rG m b d k c w v->X y v): à À pZ (Exit.then K<|QQ X) y w:=by
 by_cases x:0<c.r/\jW (d[k].toNat:Int)=Î
 .grind [ap2]
 have o:(0<c.r/\jW (d[k].toNat:Int)=Ë)\/c.r<=0:=by grind
 by_cases z:B.size=0
 .grind [ap3]
 have p:0<B.size:=Z
 by_cases r:(B[0].toNat:Int)=82
 .grind [ap4]
 by_cases q:(B[0].toNat:Int)=66
 .cases s:rC (d[k].toNat:Int)with
  |true=>exact ap5 e f h i j o p q s l n
  |false=>exact ap6 e f h i j o p q s l n
 by_cases s:(B[0].toNat:Int)=84
 .grind [ap7]
 by_cases t:(B[0].toNat:Int)=80
 .grind [ap8,ap9,aqb,aqa]
 cases u:pW (B[0].toNat:Int) (d[k].toNat:Int)with
 |true=>exact aqc e f h i j o p r q s t u l n
 |false=>exact aqe e f h i j o p r q s t u l n
def aqg{X:Ĉ->Í->Prop}(c:Fr b B (Å É k) y)(_hB:B.size<=1200)(e:¬k<B.size)(_hk:k<=B.size) (d:∀y v,Fr b B (Å É k) y/\v=w->X y v): à À pZ (Exit.then K<|QQ X) y w:=by
 obtain⟨u,rfl⟩:=c;unfold pf;conv=>arg 2;whnf
 go_wp2;exact d _ _ ⟨gl,U⟩
def nR(B:ByteArray):Nat×PS:=sI B B.size 0 sJ
def RI(m b:Nat)(d:ByteArray)(w:Í)(a:Ĉ)(e:Í):Prop:=
 ∃(k:Nat) (g:Gh) (O:Option ù) (B:ByteArray) (c:PS),k<=d.size/\Fr b d (Å É k) a/\gP m b g O B c e/\fc (λi=>m<=i) w e/\jq d k c/\nR d=sI d (d.size-k) k c
def Rmu(B:ByteArray)(a:Ĉ)(_:Í):Nat:=B.size-(intOf<|a.tmps.getD 5 ĸ).toNat
def RX(m b:Nat)(B:ByteArray)(w:Í)(a:Ĉ)(d:Í):Prop:=
 ∃(k:Nat) (c:PS),k<=B.size/\Fr b B (Å É k) a/\rE m b c w d/\(nR B).1=k/\(k=B.size->(nR B).2=c)
def aaP{i:Int}{w:Í}(h:Fr b B (Å É i) y):Rmu B y w=B.size-i.toNat:=by obtain⟨u,rfl⟩:=h;rfl
def aqh{a:PS}(b:k<B.size)(d:uu B k c (B[k].toNat:Int)=Â a):sI B (B.size-k) k c=sI B (B.size-(k+1)) (k+1) a:=by rw[show B.size-k=(B.size-(k+1))+1 by omega,sI,dif_pos b,d]
def aqi(a:k<B.size)(b:uu B k c (B[k].toNat:Int)=Á):sI B (B.size-k) k c=(k,c):=by rw[show B.size-k=(B.size-(k+1))+1 by omega,sI,dif_pos a,b]
def aqj{d:ByteArray}(i:Fr b d (Å É 0) y)(h:gP m b g O B sJ w)(r:d.size<=1200): à À (ń pZ) (QQ<|RX m b d w) y w:=by
 apply Γ (RI m b d w) (Rmu d) ⟨0,g,O,B,sJ,Ø _,i,h,fc.fT _ _,Tz d,U⟩;rintro y x ⟨k,g,O,B,c,n,i,s,o,t,p⟩;by_cases j:k<d.size
 .refine aqf i s t r j ?_ ?_
  .rintro u v ⟨f,z,e,l,q,C,D,E,F⟩;refine⟨⟨k+1,C,D,E,e,Z,by simpa using f,F,o.fh q,aaG t j l,p.trans<|aqh j l⟩,?_⟩;rw[aaP f,aaP (w:=x) i];omega
  .rintro u v ⟨f,z,l,C,q,D⟩;have:=p.trans<|aqi j l;exact⟨k,C,n,f,⟨o.fh q,D⟩,by rw[this],λe=>by omega⟩
 .apply aqg i r j n;rintro u v ⟨f,rfl⟩;have:nR d=(k,c):=by rw[p,show d.size-k=0 by omega];rfl
  exact⟨k,c,n,f,⟨o,g,O,B,s⟩,by rw[this],λ_=>by rw[this]⟩
def aqk{c:ByteArray}(h:gP m b g O B sJ w)(f:c.size<=1200): Ò À 61 #[Ã<|Â ⟨b,0,Á⟩,Ä c] w λe u=>
  ∃(k:Nat) (d:PS),k<=c.size/\e=Ç (Å É k)/\rE m b d w u/\(nR c).1=k/\(k=c.size->(nR c).2=d):=by
 go_enter Tryz.func61,Tryz.ntmps61;go_wp2;go_step3;go_wp2;go_step3;go_wp2;refine İ ?_ (aqj gl h f);rintro(_|(_|_)|_|_|_|_) a v hq;all_goals first|exact absurd hq id|skip
 let⟨k,d,i,j,l⟩:=hq;obtain⟨e,rfl⟩:=j;unfold pf;go_wp2;(try rw[Exit.noGoto_ret]);go_ret;exact⟨k,d,i,U,(ff l).out⟩
end
def mP(B:ByteArray):Int×Bool×List PR:=
 if B.size=0 then(0,Î,[])else(((nR B).1:Int),decide ((nR B).1=B.size)&&(decide ((nR B).2.C=[])||decide ((nR B).2.C=[66])),(nR B).2.d.C)
def iY(B:ByteArray):Int×Int×List PR:=
 if 1200<B.size then(1,0,[])else if(mP B).2.1=Î then(0,0,(mP B).2.2)else(2,(mP B).1,[])
def BZ(m:Nat)(v:Ñ)(b:List PR)(w:Í):Prop:=jx m w/\∃a,w.ownsRow m 148 1 v a.length (nt a)/\pd w.heap.size a b w
section
variable{g:Gh}{a:PS}
def BZ.oH(w:Í):BZ w.heap.size (Æ Á 0 0) [] w:=⟨jx.I w,[],⟨U,È ⟨U,U⟩⟩,pd.N _ _⟩
def gP.iL(h:gP m b g O B a w)(c:a.d.r=Ë->a.d.S=[])(n:Nat):BZ m g.N a.d.C (w.drewN n):= ⟨h.a.iO n,g.C a.d,ia h.C.C (fc.iO fg w n) λ_ _=>id,(h.C.aaz c).C (fc.iO fg w n) λ_ _ x=>x.elim⟩
def g0(m:Nat):Gh:={a:=[],q:=0,t:=0,B:=m,tb:=[],N:=Æ Á 0 0,r:=Æ Á 0 0,b:=Á}
def aql(w:Í):gP w.heap.size w.heap.size (g0 w.heap.size) Á ⟨#[82]⟩ sJ (w.alloc<|Û #[Ä ⟨#[82]⟩,Æ Á 0 0,Ã Á,Ã Á,Ã Á,Ã Á,Å É 0,Å É 0] 153):= ⟨æ _,(jx.I w).gI _ _ A A (λv e=>by simp at e;rcases e with rfl|rfl|rfl|rfl<;>trivial),fi.N w [Ä ⟨#[82]⟩,Æ Á 0 0,Ã Á,Ã Á,Ã Á,Ã Á,Å É 0,Å É 0] 153,A,A,⟨⟨U,È ⟨U,U⟩⟩,pd.N _ _,(λe=>by cases e),λ_=>rfl⟩,(λq=>by cases q),Ï rfl⟩
def aqm(B:ByteArray):jO B=[66]↔B.toList=[66]:=by
 unfold jO;rw[ByteArray.toList_eq];constructor
 .intro h;match hl:B.data.toList with
  |[]=>rw[hl]at h;simp at h
  |[x]=>
   rw[hl]at h;simp only[ŉ,Ő,List.cons.injEq,and_true]at h;have:x=66:=UInt8.toNat_inj.1 (by have:x.toNat=66:=Z;rw[this];rfl);rw[this]
  |x::y::r=>rw[hl]at h;simp at h
 .intro h;rw[h];rfl
def TG(a:¬B.size=0):(mP B).1=((nR B).1:Int):=by rw[mP,if_neg a]
def aaQ(a:¬B.size=0):(mP B).2.2=(nR B).2.d.C:=by rw[mP,if_neg a]
def aqn(a:¬B.size=0)(h:¬(nR B).1=B.size):(mP B).2.1=Ë:=by rw[mP,if_neg a];simp[h]
def aaR(a:¬B.size=0)(h:(nR B).1=B.size){x:Bool}(b:x=(decide ((nR B).2.C=[])||decide ((nR B).2.C=[66]))):(mP B).2.1=x:=by rw[mP,if_neg a,b];simp[h]
def aqo(B:ByteArray):(nR B).2.d.r=Ë->(nR B).2.d.S=[]:=λe=>((TA B.size 0 sJ (Tz B)<|Ø _).1.d.N e).1
theorem aaS{a:ByteArray}(r:a.size<=1200): Ò À 45 #[Ä a] w λe u=>
  fc fg w u/\∃v,e=Ç (ë #[v,Å É (mP a).1,õ (mP a).2.1])/\((mP a).2.1=Î->BZ w.heap.size v (mP a).2.2 u):=by
 by_cases b:a.size=0
 .have h:=TB a b;have n:=ff (show mP a=(0,Î,[])from if_pos b);go_enter ε,Ν;go_wp2;apply ÿ (v:=ë #[Æ Á 0 0,Å É 0,õ Î]) (by simp[Ń,Ĥ,go_sem]) U;exact⟨fc.fT _ _,_,by rw[n.out],λ_=>by rw[n.out];exact BZ.oH w⟩
 .have h:=sK a b;have c:=ff b;go_enter ε,Ν;go_wp2_with (go_at_call 61;refine(aqk (aql w) r).mono ?_;rintro e s ⟨k,f,i,rfl,⟨n,g,O,B,d⟩,j,t⟩);have m:fc fg w s:=((fc.gI (λi=>w.heap.size<=i) w _ _).fh n).S λi D x=>by omega
  have E:=d.r.r 0 _ U;have F:=d.r.r 1 _ U;by_cases o:k=a.size
  .subst o;have y:=t U;subst y;have p:=ff d.I;have q:=ff λn=>d.iL (aqo a) n;have n:=ff j;have f:=ff m;have z:((a.size:Int)==(a.size:Int))=Î:=fp
   by_cases b:B.size=0
   .have h:=TB B b;have l:=ff (aaR c.out n.out (x:=Î)<|by rw[<-p.out,aan B b];rfl);go_quiet (fail);go_wp2;apply ÿ (v:=ë #[g.N,Å É a.size,õ Î]) (by simp[Ń,Ĥ,go_sem]) U;exact⟨f.out.fh<|fc.iO _ _ _,_,by rw[TG c.out,n.out,l.out],λ_=>by rw[aaQ c.out];exact q.out _⟩
   .have h:=sK B b;have l:=ff (aaR c.out n.out (x:=(B.toList==[66])) (by
     rw[<-p.out];have C:¬jO B=[]:=λe=>by have:=Tf B;grind
     rw[decide_eq_false C,Bool.false_or,Ě,beq_iff_eq,decide_eq_true_iff,aqm]))
    go_quiet (fail)
    go_wp2;apply ÿ (v:=ë #[g.N,Å É a.size,õ<|B.toList==[66]]) (by simp[Ń,Ĥ,go_sem]) U;exact⟨f.out.fh<|fc.iO _ _ _,_,by rw[TG c.out,n.out,l.out],λ_=>by rw[aaQ c.out];exact q.out _⟩
  .have z:((k:Int)==(a.size:Int))=Ë:=by rw[beq_eq_false_iff_ne];omega
   have n:=ff (Ê j<|aqn c.out<|by rwa[j]);have f:=ff m;go_quiet (fail);go_wp2;apply ÿ (v:=ë #[g.N,Å É k,õ Ë]) (by simp[Ń,Ĥ,go_sem]) U;exact⟨f.out.fh<|fc.iO _ _ _,_,by rw[TG c.out,n.out.1,n.out.2],λe=>by rw[n.out.2]at e;cases e⟩
def aqp(h:B.size<=đ): Ò À 36 #[Ä B] w λe u=>
  fc fg w u/\∃v,e=Ç (ë #[v,Å É (iY B).1,Å É (iY B).2.1])/\((iY B).1=0->BZ w.heap.size v (iY B).2.2 u)/\((iY B).1≠0->v=Æ Á 0 0):=by
 unfold đ at h;by_cases b:1200<B.size
 .have a:=ff (show iY B=(1,0,[]) by rw[iY,if_pos b]);go_enter ļ,Ř;go_wp2;apply ÿ (v:=ë #[Æ Á 0 0,Å É 1,Å É 0]) (by simp[Ń,Ľ,go_sem]) U;exact⟨fc.fT _ _,_,by rw[a.out],(λe=>by rw[a.out]at e;cases e),λ_=>rfl⟩
 .have f:B.size<=1200:=Z
  cases c:(mP B).2.1 with
  |true=>
   have a:=ff (show iY B=(0,0,(mP B).2.2) by rw[iY,if_neg b,if_pos c]);go_enter ļ,Ř;go_wp2_with (go_at_call 45;refine(aaS f).mono ?_;rintro e i ⟨d,v,rfl,g⟩);apply ÿ (v:=ë #[v,Å É 0,Å É 0]) (by simp[Ń,Ľ,go_sem]) U;exact⟨d,_,by rw[a.out],(λ_=>by rw[a.out];exact g c),λe=>by rw[a.out]at e;exact absurd U e⟩
  |false=>
   have a:=ff (show iY B=(2,(mP B).1,[]) by rw[iY,if_neg b,if_neg (by rw[c];exact Bool.false_ne_true)]);go_enter ļ,Ř;go_wp2_with (go_at_call 45;refine(aaS f).mono ?_;rintro e i ⟨d,v,rfl,g⟩);apply ÿ (v:=ë #[Æ Á 0 0,Å É 2,Å É (mP B).1]) (by simp[Ń,Ľ,go_sem]) U;exact⟨d,_,by rw[a.out],(λe=>by rw[a.out]at e;cases e),λ_=>rfl⟩
end
end Go.Proofs.Y.vq
namespace Go.Proofs.Y.me
open Go Go.Conc Go.Proofs Go.RowKit Go.Proofs.Y.Lift Go.Proofs.Y.iw Go.Proofs.Y.fA Go.Proofs.Y.vq
structure H0(a:Nat)(t:PT)(w:Í):Prop where
 r:∃cs fz,w.heap[a]?=Â (Û cs 200 fz)
 c:∀i,i<5->w.cell? ⟨a,i,Á⟩=Â (Å É<|t.c.getD i 0)
 p:w.cell? ⟨a,5,Á⟩=Â (Ä t.p)
structure xx(r:Nat)(p:PR)(w:Í):Prop where
 c:∀i,i<8->w.cell? ⟨r,i,Á⟩=Â (Å É<|p.c.getD i 0)
 b:∃bp n cp,w.cell? ⟨r,8,Á⟩=Â (Æ bp n cp)/\n=p.r.length/\∀(j:Nat) (t:PT),p.r[j]?=Â t->∃tb a,bp=Â ⟨tb,0,Á⟩/\w.cell? ⟨tb,j,Á⟩=Â (Ã<|Â ⟨a,0,Á⟩)/\H0 a t w
structure RQ(rs:List PR)(v:Ñ)(U:Nat->Prop)(w:Í):Prop where
 C:kA nB U w
 I:fl (kU U nB) v v
 M:∃bp cp,v=Æ bp rs.length cp/\∀(j:Nat) (p:PR),rs[j]?=Â p->∃sb r,bp=Â ⟨sb,0,Á⟩/\w.cell? ⟨sb,j,Á⟩=Â (Ã<|Â ⟨r,0,Á⟩)/\xx r p w
section
variable{f:Nat->Prop}{rs:List PR}{Y:ft}
theorem aqr(h:jf Y X u w){t:PT}(d:Y i n)(k:H0 i t u):H0 n t w:=by refine⟨?_,λb f=>(zq h).r d<|k.c b f,(zq h).C d k.p⟩;let⟨c,g,e,j,l,m,o,_⟩:=h.r i n d;let⟨r,s,q⟩:=k.r;grind
theorem aqs(h:jf Y X u w){r:Nat}{p:PR}(e:Y r i)(k:xx r p u):xx i p w:=by refine⟨λd f=>(zq h).r e<|k.c d f,?_⟩;let⟨G,n,g,l,m,o⟩:=k.b;let⟨x,q,s⟩:=zq h r i 8 _ e l;obtain⟨v,rfl,y⟩:=LV s;refine⟨v,n,g,q,m,λj t z=> ?_⟩;let⟨tb,a,B,C,H⟩:=o j t z;let⟨I,J,D⟩:=y _ B;obtain⟨E,rfl,F⟩:=zn D;let⟨K,L,M⟩:=zq h tb E j _ F C;grind [LU,zn,aqr]
theorem aqt(h:jf Y X u w)(b:fl Y v x)(a:RQ rs v f u):RQ rs x (λj=>∃i,f i/\Y i j) w:=by refine⟨S9 h a.C,LW b a.I,?_⟩;obtain⟨s,i,rfl,c⟩:=a.M;obtain⟨d,rfl,e⟩:=LV b;refine⟨d,i,U,λj p g=> ?_⟩;let⟨k,r,l,m,t⟩:=c j p g;let⟨y,z,n⟩:=e _ l;obtain⟨o,rfl,q⟩:=zn n;let⟨B,C,D⟩:=zq h k o j _ q m;grind [LU,zn,aqs]
def zx(k:W.heap[b]?=w.heap[b]?)(h:w.cell? ⟨b,i,Á⟩=Â z):W.cell? ⟨b,i,Á⟩=Â z:=by simp only[ß,k];exact h
def aqu(l:kA nB X w)(k:∀b,X b->W.heap[b]?=w.heap[b]?){r:Nat}{p:PR}(d:X r)(h:xx r p w):xx r p W:=by
 refine⟨λi e=>zx (k r d)<|h.c i e,?_⟩;let⟨u,n,v,m,x,y⟩:=h.b;refine⟨u,n,v,zx (k r d) m,x,λj t z=> ?_⟩;let⟨tb,a,o,q,f⟩:=y j t z;have s:X tb:=by have:=l.r d m;rw[o]at this;exact BT this
 have g:=BS<|l.r s q;exact⟨tb,a,o,zx (k tb s) q,⟨by rw[k a g];exact f.r,λi e=>zx (k a g)<|f.c i e,zx (k a g) f.p⟩⟩
def RQ.r(h:RQ rs v f w)(k:∀b,f b->W.heap[b]?=w.heap[b]?):RQ rs v f W:=by
 refine⟨h.C.C k,h.I,?_⟩;obtain⟨g,i,rfl,l⟩:=h.M;refine⟨g,i,U,λj p m=> ?_⟩;let⟨a,r,c,d,n⟩:=l j p m;have e:f a:=by have:=h.I;rw[c]at this;exact BT this
 exact⟨a,r,c,zx (k a e) d,aqu h.C k (BS<|h.C.r e d) n⟩
def aaT{v:Ñ}(h:mO m i v):fl (kU (λd=>m<=d/\d<i) nB) v v:=by
 cases v with
 |int k n=>exact .iF k n
 |bool b=>exact .mf b
 |string i=>exact .kI i
 |pointer a=>cases a with
  |none=>exact .lA
  |some a=>exact fl.jI (Y:=kU (λd=>m<=d/\d<i) nB) ⟨⟨U,h⟩,U,U⟩
 |slice a n c=>cases a with
  |none=>exact .nS n c
  |some a=>exact fl.kC (Y:=kU (λd=>m<=d/\d<i) nB) ⟨⟨U,h⟩,U,U⟩ n c
 |_=>exact absurd h<|by simp[mO]
def aqv{v:Ñ}(h:mO m i v):xF v=Ë:=by
 cases v with
 |int k n=>cases k<;>first|rfl|exact absurd h<|by simp[mO]
 |_=>rfl
def aqw(h:jx m w):kA nB (λi=>m<=i/\i<w.heap.size) w:=λb i=>by let⟨c,e,f,g,j,k,l,n,d⟩:=h b _ i.1<|å i.2;exact⟨c,e,f,by rw[å i.2,g],j,o5 λv a=>aaT<|d v a,k,zp λv a=>aqv<|d v a,l,n⟩
theorem K1{base:Nat}(h:w.ownsRow base e 1 v jJ.length (nt jJ)):∃b f,v=Æ b jJ.length f/\∀(j r:Nat),jJ[j]?=Â r->∃a,b=Â ⟨a,0,Á⟩/\base<=a/\w.cell? ⟨a,j,Á⟩=Â (Ã<|Â ⟨r,0,Á⟩):=by
 obtain⟨m,⟨n,o⟩|⟨g,p,q,rfl,i,k,s,t,u,l⟩⟩:=h
 .grind
 .refine⟨_,_,U,λj r c=>⟨g,U,i,?_⟩⟩;have x:=(Õ.1 c).1;have d:(nt jJ)[j]?=Â (Ã<|Â ⟨r,0,Á⟩):=by simp[nt,c]
  rw[<-l,List.getElem?_take_of_lt Z]at d;simp only[ß,k,ö,ì,if_false];simpa using d
def aaU(h:fi n (n7 zQ++[z]) T w)(a:i<zQ.length):w.cell? ⟨n,i,Á⟩=Â (Å É<|zQ.getD i 0):=h.r i _<|Tn a z
def aaV(h:fi i (n7 zQ++[z]) T w)(a:zQ.length=n):w.cell? ⟨i,n,Á⟩=Â z:=h.r n _<|by rw[<-a];exact BX zQ z
def aqx{r:PR}(h:vw i n r w):xx n r w:=by
 let⟨x,tb,e,l,y,b⟩:=h.I;refine⟨λa c=>aaU e (by rwa[h.C]),?_⟩;obtain⟨m,o,rfl,p⟩:=K1 l;refine⟨m,_,o,aaV e h.C,b.r,λj t f=> ?_⟩;have g:j<tb.length:=by rw[b.r];exact(Õ.1 f).1
 let⟨s,u,z,v⟩:=p j tb[j]<|Ó g;let⟨_,_,k,d⟩:=b.I j tb[j] t (Ó g) f;exact⟨s,tb[j],u,v,⟨_,_,d⟩,λa c=>aaU d (by rwa[k]),aaV d k⟩
def aqy(h:BZ m v rs w):RQ rs v (λi=>m<=i/\i<w.heap.size) w:=by
 let⟨f,i,b,c⟩:=h;obtain⟨d,k,rfl,l⟩:=K1 b;refine⟨aqw f,?_,d,k,by rw[c.I],λj p e=> ?_⟩
 .cases d with
  |none=>exact .nS _ _
  |some a=>
   have:=b.lt a.block (by rcases b.2 with⟨q,_⟩|⟨g,n,o,q,_⟩<;>(cases q;try rfl));exact aaT this
 .have a:j<i.length:=by rw[c.I];exact(Õ.1 e).1
  let⟨g,q,o,n⟩:=l j i[j]<|Ó a;exact⟨g,i[j],q,n,aqx<|c.M j i[j] p (Ó a) e⟩
end
def aaW(B:ByteArray)(z:Ñ)(u:Í):Prop:=∃v,z=ë #[v,Å É (iY B).1,Å É (iY B).2.1]/\((iY B).1=0->∃a,RQ (iY B).2.2 v a u)
def aqz(B:ByteArray):vS (aaW B):=λv u T D h=>by let⟨x,a,b⟩:=h;refine⟨x,a,λe=> ?_⟩;let⟨U,c⟩:=b e;exact⟨U,c.r λ_ _=>rfl⟩
def aqA{l:fe}(f:gw l)(s:¬l.q)(t:nB<=l.w.heap.size)(u:B.size<=đ)(m:Bool)(h:Ĕ)(k:List Ĕ): fA.fj À m (λa n=>kj l a/\a.d=l.d/\∃v,n=G (h.finish<|ë #[v,Å É (iY B).1,Å É (iY B).2.1]) k/\((iY B).1=0->∃V,RQ (iY B).2.2 v V a.w/\∀b,V b->a.O b/\l.w.heap.size<=b)) l (G (è À 36 #[Ä B] Ą)<|h::k):=by
 let⟨X,c,C,V⟩:=yN 36 fW;have D:∀T,Ò À 36 #[Ä B] (World.tp (kT (λj=>False/\¬(lU l).O j) l.w) T 0) fun|Ç v,j=>aaW B v j/\j0 j|_,_=>False:=λT=>by refine(aqp u).mono ?_;rintro e p ⟨g,v,rfl,i,o⟩;exact⟨⟨v,U,λe=>⟨_,aqy<|i e⟩⟩,g.gR Es⟩
 refine((Dy xH KW yN (aqz B) fW C V (Dz f) s (λb q=>q.elim) ⟨λb q=>q.elim,t⟩ (λg q=>by cases q) (o5 λv g=>by simp at g;subst g;exact .kI B) D m h k).lU f).fN ?_;rintro a n ⟨x',⟨Y,j,v,v',_,E,F,⟨v0,rfl,o⟩,H,I,_,J⟩,rfl,K,L,_,_⟩;cases F with
 |@nu _ cs'' hs ml=>
  let⟨M⟩:=cs'';match M,hs with
  |[x,y,z],_=>
   have g:=ml 0 fp fp;have p:=ml 1 fp fp;have r:=ml 2 fp fp;simp at g p r;cases p;cases r;refine⟨K,J,x,H,λe=> ?_⟩;let⟨U,N⟩:=o e;refine⟨_,aqt E g (N.r λ_ _=>rfl),λb V=> ?_⟩;let⟨i,_,P⟩:=V;let⟨Q,S⟩:=I i b P;have W:l.w.heap.size<=b:=S.elim (λq=>q.elim) λq=>q.elim (λq=>q.elim) id;refine⟨È (Q.resolve_right λq=> ?_),W⟩;rw[L]at q;have:=f.fv b q;omega
end Go.Proofs.Y.me
namespace Go.Proofs.Y.iw
open Go Go.Proofs Go.RowKit Go.Proofs.Y.Lift
def B1:List Ñ:=im (jV 8)++[Æ Á 0 0,Å É 0,Æ Á 0 0]
def aqB(w:Í):Ò À 44 #[] w λe a=>∃c B,e=Ç (Æ (Â ⟨c,0,Á⟩) 1 1)/\fi B B1 147 a/\fi c [Ã<|Â ⟨B,0,Á⟩] 136 a/\fc fg w a:=by
 have d:(im<|jV 8).length=144:=ru _;have i:(im (jV 8)++[Æ Á 0 0]).length=145:=by rw[Ù,d];rfl
 have f:=ff<|Ê d i;unfold B1;have j:=ff λW=>amL W;generalize jV 8=s at*;go_enter Tryz.func44,Tryz.ntmps44;go_wp2_with (first
  |(go_at_call 60;refine(j.out _).mono ?_;rintro e W ⟨rfl,b⟩;have k:=ff b;clear b)
  |(with_reducible refine ď U (Â 2) U _ _ (Sn U U f.out.1) ?_)
  |(with_reducible refine ď U (Â 3) U _ _ (am2 U U f.out.2) ?_)
  |(with_reducible refine ď U (Â 4) U _ _ (Z3 U U) ?_))
 have g:=fi.N (W.alloc<|Û (im s++[Æ Á 0 0,Å É 0,Æ Á 0 0]).toArray 147) [Ã<|Â ⟨W.heap.size,0,Á⟩] 136;have h:=fc.gI fg (W.alloc<|Û (im s++[Æ Á 0 0,Å É 0,Æ Á 0 0]).toArray 147) #[Ã<|Â ⟨W.heap.size,0,Á⟩] 136;have l:(W.alloc<|Û (im s++[Æ Á 0 0,Å É 0,Æ Á 0 0]).toArray 147).heap.size=W.heap.size+1:=fp
 rw[l]at g;have b:=ff<|Ê ((fi.N W (im s++[Æ Á 0 0,Å É 0,Æ Á 0 0]) 147).I h id)<|Ê g<|(k.out.fh<|fc.gI fg W (im s++[Æ Á 0 0,Å É 0,Æ Á 0 0]).toArray 147).fh h;go_ret;exact⟨W.heap.size+1,W.heap.size,U,b.out.1,b.out.2.1,b.out.2.2⟩
def aqC(n:Int)(j:1<=n)(k:n<=8)(w:Í):Ò À 35 #[Å É n] w λe b=>∃g a B,e=Ç (ë #[Ã<|Â ⟨g,0,Á⟩,Å É 0])/\fi g [Å É n,Æ (Â ⟨a,0,Á⟩) 1 1] 68 b/\fi B B1 147 b/\fi a [Ã<|Â ⟨B,0,Á⟩] 136 b/\fc fg w b:=by go_enter ζ,Tryz.ntmps35;go_wp2_with (go_at_call 44;refine(aqB _).mono ?_;rintro e c ⟨a,B,rfl,f,h,i⟩;have d:=ff<|Ê f<|Ê h i;clear f h i);go_ret2;have f:=fc.gI fg c #[Å É n,Æ (Â ⟨a,0,Á⟩) 1 1] 68;exact⟨c.heap.size,a,B,U,fi.N c [Å É n,Æ (Â ⟨a,0,Á⟩) 1 1] 68,d.out.1.I f id,d.out.2.1.I f id,d.out.2.2.fh f⟩
end Go.Proofs.Y.iw
namespace Go.Proofs.Y.me
open Go Go.Conc Go.Proofs Go.RowKit Go.Proofs.Y.Lift Go.Proofs.Y.iw Go.Proofs.Y.fA Go.Proofs.Y.vq
section
variable{Y:ft}{a:Nat->Prop}
def aaX:∀v∈B1,(∃k n,v=Å k n/\k≠ū)\/(∃p,v=Ä p)\/v=Æ Á 0 0:=λv k=>by
 unfold B1 at k;rcases â.1 k with q|q
 .rcases S8 _ v q with⟨n,rfl⟩|⟨p,rfl⟩
  .exact È ⟨_,_,U,A⟩
  .exact Ï<|È ⟨p,U⟩
 .simp at q;rcases q with rfl|rfl|rfl
  .exact Ï<|Ï U
  .exact È ⟨_,_,U,A⟩
  .exact Ï<|Ï U
def aaY:lE [iw.mM]:=⟨A,A,λv b=>by simp at b;subst b;exact⟨⟨(λp a=>by cases a),(λp a=>by cases a),Ø _,Ø _⟩,C',Ť _,show(0:Int)<1 by decide⟩⟩
def aqD(d:iw.fi n B1 147 w)(f:iw.fi i [Ã<|Â ⟨n,0,Á⟩] 136 w):RD [iw.mM] (Æ (Â ⟨i,0,Á⟩) 1 1) (λk=>k=i\/k=n) w:=by
 refine⟨[(n,iw.mM)],U,aaY,⟨_,1,1,U,æ _,⟨U,λj b v e=> ?_⟩⟩,?_,fl.kC (Y:=kU (λk=>k=i\/k=n) nB) ⟨⟨U,È U⟩,U,U⟩ 1 1⟩
 .cases j with
  |zero=>
   cases e;exact⟨_,0,U,f.r 0 _ U,(am3 C'<|by rwa[ő])⟩
  |succ j=>simp at e
 .rintro b (rfl|rfl)
  .refine⟨_,_,_,f,fp,o5 λv c=> ?_,fp,zp λv c=> ?_,A,A⟩
   .simp at c;subst c;exact fl.jI (Y:=kU (λk=>k=b\/k=n) nB) ⟨⟨U,Ï U⟩,U,U⟩
   .simp at c;subst c;rfl
  .refine⟨_,_,_,d,fp,o5 λv c=> ?_,by simp[B1],zp λv c=> ?_,A,A⟩
   .rcases aaX v (by simpa using c)with⟨k,a,rfl,_⟩|⟨p,rfl⟩|rfl
    .exact .iF k a
    .exact .kI p
    .exact .nS 0 0
   .rcases aaX v (by simpa using c)with⟨k,a,rfl,g⟩|⟨p,rfl⟩|rfl
    .cases k<;>first|rfl|exact absurd U g
    .rfl
    .rfl
def EG(b:Nat)(n:Int)(c:Ñ)(w:Í):Prop:=∃a,w.heap[b]?=Â (Û #[Å É n,c] 68 a)/\a=(0,0)
def EG.r(h:EG i c v w)(k:W.heap[i]?=w.heap[i]?):EG i c v W:=by let⟨a,b,d⟩:=h;exact⟨a,k.trans b,d⟩
def aqE(h:jf Y a u w)(g:∀b,¬a b)(q:Y i j)(k:iw.fi i [Å É c,v] 68 u):∃l,fl Y v l/\EG j c l w:=by
 let⟨d,r,e,D,s,m,t,z,_,B,_⟩:=h.r i j q;unfold iw.fi at k;rw[k]at m;cases m;have f:=z.N<|g j;let⟨C⟩:=r;match C,f.r with
 |[x,y],_=>
  have o:=f.C 0 fp fp;have p:=f.C 1 fp fp;simp at o p;cases o;exact⟨y,p,s,t,(B<|g j).symm⟩
end
def aaZ(n:Int)(z:Ñ)(u:Í):Prop:=∃a b B,z=ë #[Ã<|Â ⟨a,0,Á⟩,Å É 0]/\iw.fi a [Å É n,Æ (Â ⟨b,0,Á⟩) 1 1] 68 u/\RD [iw.mM] (Æ (Â ⟨b,0,Á⟩) 1 1) (λi=>i=b\/i=B) u/\a≠b/\a≠B
def aqF(n:Int):vS (aaZ n):=λv u T D h=>by let⟨b,c,B,d,e,a⟩:=h;exact⟨b,c,B,d,e,a.1.r λ_ _=>rfl,a.2⟩
def aqG{l:fe}(p:gw l)(K:¬l.q)(L:nB<=l.w.heap.size){n:Int}(M:1<=n)(N:n<=8)(C:Bool)(r:Ĕ)(s:List Ĕ): fA.fj À C (λf D=>kj l f/\f.d=l.d/\∃a e,D=G (r.finish<|ë #[Ã<|Â ⟨a,0,Á⟩,Å É 0]) s/\EG a n e f.w/\f.O a/\l.w.heap.size<=a/\∃V,RD [iw.mM] e V f.w/\¬V a/\∀b,V b->f.O b/\l.w.heap.size<=b) l (G (è À 35 #[Å É n] Ą)<|r::s):=by
 let⟨fn,c,P,t⟩:=yN 35 fW;have Q:∀T,Ò À 35 #[Å É n] (World.tp (kT (λj=>False/\¬(lU l).O j) l.w) T 0) fun|Ç v,h=>aaZ n v h/\j0 h|_,_=>False:=λT=>by refine(aqC n M N _).mono ?_;rintro e z ⟨a,k,B,rfl,V,m,o,g⟩;exact⟨⟨a,k,B,U,V,aqD m o,iw.fi.S V o A,iw.fi.S V m A⟩,g.gR Es⟩
 refine((Dy xH KW yN (aqF n) fW P t (Dz p) K (λb q=>q.elim) ⟨λb q=>q.elim,L⟩ (λg q=>by cases q) (o5 λv e=>by simp at e;subst e;exact .iF _ _) Q C r s).lU p).fN ?_;rintro f D ⟨u,⟨Y,h,v,v',_,g,S,⟨a,k,B,rfl,V,m,o,W⟩,X,q7,_,q6⟩,rfl,ha,hR,_,_⟩;have E:∀i j,Y i j->(qi l u).O j/\l.w.heap.size<=j:=λi j e=>by let⟨z,F⟩:=q7 i j e;have H:l.w.heap.size<=j:=F.elim (λq=>q.elim) λq=>q.elim (λq=>q.elim) id;refine⟨È (z.resolve_right λq=> ?_),H⟩;rw[hR]at q;have:=p.fv j q;omega
 cases S with
 |@nu _ cs'' hs ml=>
  let⟨ls⟩:=cs'';match ls,hs with
  |[x,y],_=>
   have F:=ml 0 fp fp;have H:=ml 1 fp fp;simp at F H;cases H;obtain⟨a2,rfl,m3⟩:=LU F;obtain⟨I,rfl,z⟩:=zn m3;have h2':RD [iw.mM] (Æ (Â ⟨k,0,Á⟩) 1 1) (λi=>i=k\/i=B) {h with tape:=u.w.tape,drawn:=u.w.drawn}:=m.r λ_ _=>rfl;let⟨su,J,e2⟩:=aqE g (λj q=>q.1) z V;let⟨vs,k1,k2,k3,k4,k5⟩:=h2';let⟨vs',n1,n2⟩:=HJ (zq g) J k3;let⟨p1,p2⟩:=E a I z;refine⟨ha,q6,I,su,X,e2,p1,p2,_,⟨vs',n1.trans k1,k2,n2,S9 g k4,LW J k5⟩,?_,λb t=> ?_⟩
   .rintro⟨i,hi,e⟩;have:=g.C.2.1 _ _ _ z e;subst this;exact hi.elim o W
   .let⟨i,_,e⟩:=t;exact E i b e
end Go.Proofs.Y.me
namespace Go.Proofs.Y.me
open Go Go.Conc Go.Proofs Go.RowKit Go.Proofs.Y.Lift Go.Proofs.Y.iw Go.Proofs.Y.fA Go.Proofs.Y.vq
structure uC(an:Nat)(xs:List ByteArray)(w:Í):Prop where
 r:∀(p:Nat) (x:ByteArray),xs[p]?=Â x->w.cell? ⟨an,p,Á⟩=Â (Ä x)
 C:w.cell? ⟨an,xs.length,Á⟩=Á
section
variable{an:Nat}{xs:List ByteArray}
theorem uC.qK(h:uC an xs w)(j:0<xs.length):∃c e d,w.heap[an]?=Â (Û c e d)/\c.size=xs.length/\∀v∈c.toList,∃x,v=Ä x:=by
 have i:∀p,p<xs.length->w.cell? ⟨an,p,Á⟩=Â (Ä xs[p]!):=λp a=>h.r p _ (by simp[a]);have b:=i 0 j;have f:=h.C;simp only[ß]at b f;cases g:w.heap[an]? with
 |none=>rw[g]at b;cases b
 |some o=>
  cases o<;>rw[g]at b f<;>simp only[ö,ì,if_false]at b f<;>first|cases b|skip
  rename_i c e d;have k:c.size<=xs.length:=by grind
  have l:=λp a=>by have:=i p a;simp only[ß,g,ö,ì,if_false]at this;exact this
  have m:xs.length<=c.size:=by grind
  refine⟨c,e,d,U,Nat.le_antisymm k m,λv n=> ?_⟩;let⟨p,a⟩:=ė n;have q:p<c.size:=by have:=(Õ.1 a).1;simpa using this
  have:=l p Z;rw[ķ]at a;rw[this]at a;cases a;exact⟨_,U⟩
end
def aqH{l:fe}(o:gw l)(F:¬l.q)(H:nB<=l.w.heap.size)(h:uC i vX l.w)(I:0<vX.length)(J:l.M i)(p:k9 i=Ë)(f:kJ l.w i=Â (0,0))(hn:vX.length<=1000)(K:B.size=1)(L:iB vX+vX.length<=140737488355328)(r:Bool)(k:Ĕ)(m:List Ĕ): fA.fj À r (λn s=>kj l n/\n.d=l.d/\s=G (k.finish<|Ä<|lN B vX) m) l (G (è À 38 #[Æ (Â ⟨i,0,Á⟩) vX.length vX.length,Ä B] Ą)<|k::m):=by
 let⟨fn,c,N,P⟩:=yN 38 fW;let⟨t,e,Q,y,b2,z⟩:=h.qK I;have C:(λj=>j=i/\¬(lU l).O j)=λj=>j=i:=by funext j;exact propext ⟨λq=>q.1,λq=>⟨q,id⟩⟩
 have S:∀T,Ò À 38 #[Æ (Â ⟨i,0,Á⟩) vX.length vX.length,Ä B] (World.tp (kT (λj=>j=i) l.w) T 0) fun|Ç v,E=>v=Ä (lN B vX)/\j0 E|_,_=>False:=λT=>by
  refine(S3 U Z (æ _) K (λj v a=> ?_) L).mono ?_
  .unfold kz at a;rw[ī]at a;obtain⟨x,b,rfl⟩:=ò.1 a;exact⟨i,0,U,by rw[œ];exact o7 (È p)<|h.r j x b⟩
  .rintro e g ⟨rfl,b⟩;exact⟨U,b.gR Es⟩
 have V:∀v∈t.toList,fl (pK (λj=>j=i) À.globals.size) v v:=λv a=>by obtain⟨x,rfl⟩:=z v a;exact .kI x
 have X:fQ (pK (λj=>j=i) À.globals.size) #[Æ (Â ⟨i,0,Á⟩) vX.length vX.length,Ä B] #[Æ (Â ⟨i,0,Á⟩) vX.length vX.length,Ä B]:=o5 λv a=>by
  have b:v=Æ (Â ⟨i,0,Á⟩) vX.length vX.length\/v=Ä B:=by simpa using a
  rcases b with rfl|rfl
  .exact fl.kC (Y:=pK (λj=>j=i) À.globals.size) ⟨⟨U,U⟩,U,U⟩ _ _
  .exact .kI B
 have W:=Dy xH KW yN (λv u T D h=>h) fW N P (Dz o) F (λb q=>Ï<|by rwa[q]) (by rw[C];refine⟨λb q=> ?_,H⟩;subst q;exact⟨t,e,Q,y,(by unfold kJ at f;rw[y]at f;cases f;exact Ø _),o5 V,λ_=>⟨Z,(λq=>by rw[p]at q;cases q),λ_=>zp λv a=>by obtain⟨x,rfl⟩:=z v a;rfl⟩⟩) (λg q=>by cases q) X (by rwa[C]) r k m;refine(W.lU o).fN ?_;rintro n s ⟨D,⟨Y,E,v,v',_,_,b,rfl,g,_,_,u⟩,rfl,x,_,_,_⟩;cases b;exact⟨x,u,g⟩
end Go.Proofs.Y.me
namespace Go.Proofs.Y.fA
open Go Go.Conc Go.Proofs.Y.Lift
open Go.ConcN (sumTo sumTo_congr)
def TH(P:ω)(a:Ñ->Í->Prop):Jd:=λl g=>g.status=.running/\∃v,(∀w,stepG P Î g w=.ended (.done v) w)/\a v l.w
section
variable{Y:Nat->Prop}{e:Nat->fe}
def kx.mO{J:Jd}{T:gy}(c:kx P Y zX i J T D e E w qJ){sl:Option (Nat×Nat)}(k:vQ v u):Ξ P vQ (Į E w sl) (.done v) u qJ:=by
 have C:=c.r.r;have f:∀a g,E[a]?=Â g->a≠0->QuitsD P (D a) (Deaf qJ a) g:=λa g b d=>by
  let⟨g0,j,h,_,_⟩:=c.r.C a g b;obtain rfl:g=g0:=by cases h;rfl
  simp only[d,if_false]at j;rw[C.f a<|(á.1 b).1];exact j _<|fI.fT _ _
 refine⟨v,U,k,C.l,c.N,⟨λg l=> ?_,U⟩,λa g b d=>⟨D a,(f a g b d).hears _⟩⟩;let⟨j,h⟩:=ė l;rw[List.getElem?_drop]at h;exact⟨_,(f (1+j) g (by rwa[<-ķ]) Z).leaves⟩
theorem aqI{J:Jd}{T:gy}{l:fe}(u:l.w=W)(v:l.d=0)(m:¬l.q)(n:∀b,¬l.I b)(r:∀a,¬l.r a)(o:∀a,¬l.N a)(y:∀a,¬l.K a)(z:∀b,l.O b->b<W.heap.size)(B:g.status=.running)(C:kQ P Î J T l g):rj P (λ_=>False) 0 J T (λ_=>0) (λ_=>l) #[g] W #[]:=by
 have f:∀(p:Nat) a,touchAt #[] p=Â a->False:=λp a h=>by unfold touchAt Trace.act? at h;simp at h
 refine⟨fp,⟨⟨λi j s D E=> ?_,λi j s D E=> ?_,λi _ b _=>n b,λi _ a _=>o a,λ_ _ _ _=>id,λi _ a e=>e.elim (λq=>absurd q<|r a) λq=>absurd q<|o a,λi _ b F=>F.elim (z b) λq=>absurd q<|n b,λ_ h=>h.elim,λi _=>by rw[u];exact fI.fT _ _,λi _=>⟨λa e p x k=>(f p x k).elim,λa e=>(n _ e).elim,λa e=>(r a e).elim,λa e=>(o a e).elim⟩,λi _=>by rw[v];rfl,λH q=> ?_,λI G=>by simp at G,λp a c h=>(f p a h).elim,λi _ a e=>absurd e<|y a⟩,λi x k=> ?_,λj _=>rfl⟩,λi L s=> ?_,m,λp a h=>(f p a h).elim,λp a x h=>(f p a h).elim,λa _ q m=> ?_,?_⟩
 .grind
 .grind
 .let⟨i,j,_,⟨a,b,e,_⟩,_⟩:=q;simp[Trace.act?]at e
 .have t:i<1:=(á.1 k).1;obtain rfl:i=0:=Z
  obtain rfl:g=x:=by simpa using k
  exact⟨g,C,.gi,È B,È U⟩
 .grind
 .simp[Trace.act?]at m
 .intro i g t;simp[Trace.g?]at t
end
end Go.Proofs.Y.fA
namespace Go.Proofs.Y.me
open Go Go.Conc Go.Proofs Go.RowKit Go.Proofs.Y.Lift Go.Proofs.Y.iw Go.Proofs.Y.fA Go.Proofs.Y.vq
open Go.ConcN (sumTo)
def zy(f:Ñ->Í->Prop)(c:Array Ċ)(w:Í)(d:Option (Nat×Nat))(t:Ž):Prop:=
 ∃N a v b e,ſ À (N+1) (Į c w d) t=(.ended (.done v) b,e)/\runN À N (Į c w d)=.next a/\step À a=.ended (.done v) b/\Ξ À f a (.done v) b e
section
variable{f:Array Ċ}{w':Í}{sl e:Option (Nat×Nat)}{t:Ž}{l:fe}
def zy.fN{a:Ñ->Í->Prop}(h:zy vQ E w sl t)(b:∀v u,vQ v u->a v u):zy a E w sl t:=by let⟨M,c,v,x,d,e,f,g,i⟩:=h;exact⟨M,c,v,x,d,e,f,g,i.mono λv q=>b v x q⟩
def zy.qi{N:Nat}(r:ſ À N (Į E w sl) t=(.next<|Į f w' e,qJ))(h:zy vQ f w' e qJ):zy vQ E w sl t:=by
 let⟨M,a,v,x,b,c,d,g,i⟩:=h;refine⟨N+M,a,v,x,b,?_,?_,g,i⟩
 .rwa[Nat.add_assoc,runNT_add,r]
 .rw[<-Ţ À (N+M) (Į E w sl) t,runNT_add,r];rwa[Ţ]
def rH(vQ:Ñ->Í->Prop)(E:Array Ċ)(w:Í)(sl:Option (Nat×Nat))(t:Ž):Prop:=zy (λv u=>vQ v u/\u.os=w.os/\u.output=w.output) E w sl t
def rH.r{N:Nat}(r:ſ À N (Į E w sl) t=(.next<|Į f w' e,qJ))(a:w'.os=w.os/\w'.output=w.output)(h:rH vQ f w' e qJ):rH vQ E w sl t:= zy.qi r<|h.fN λ_ _ q=>⟨q.1,q.2.1.trans a.1,q.2.2.trans a.2⟩
def kx.aqJ{Y:Nat->Prop}:∀(s:Nat) (h:Nat->Nat) (j:Nat->fe) (E:Array Ċ) (w:Í) (sl:Option (Nat×Nat)) (t:Ž),sumTo E.size h=s->kx À Y zX n (TH À vQ) .fB h j E w t->rH vQ E w sl t:=by
 intro s
 induction s using Nat.strongRecOn with
 |_ s r=>
  intro h j E w sl t I c;have J:=c.C;obtain⟨g0,a⟩:∃g,E[0]?=Â g:=⟨_,å Z⟩;have o:∀d,TH À vQ {j 0 with w:=w.at d} g0:=λd=>by
   let⟨u,b,k,_,_⟩:=(c.I d).r.C 0 g0 a;obtain rfl:g0=u:=by cases k;rfl
   exact b (w.at d)<|(c.I d).r.r.r 0 Z
  obtain⟨i,g,d,e,l,x,m⟩:=crowd_pick c.JH ⟨0,g0,a,(o 0).1⟩;by_cases p:i=0
  .subst p;rw[a]at l;obtain rfl:=af l;let⟨_,v,q,y⟩:=o d;have u:stepT À (Į E w sl)=(.ended (.done v)<|w.at d,#[]):=by
    rw[m,ConcN.runT_crowd_ended a<|q<|w.at d];rfl
   refine⟨0,Į E w sl,v,w.at d,t,?_,U,?_,c.mO ⟨y,U,U⟩⟩
   .simp[ſ,u]
   .have:=stepT_fst À (Į E w sl) Î;rw[<-this];rw[u]
  .let⟨q,y,f,u,b,k,K,L,z⟩:=(c.I d).YP (sl:=e) l p x;let⟨N,B,v,w',qJ,C,D,F,G⟩:=r (sumTo f.size q) (by rw[k];omega) q y f (w.at d) e (t++u) U z;refine⟨N+1,B,v,w',qJ,by simp only[ſ,m,b];exact C,?_,F,G⟩;have:=Ţ À (N+1) (Į E w sl) t;rw[<-this];simp only[ſ,m,b];rwa[Ţ]
structure iD(l:fe):Prop where
 r:gw l
 d:l.d=0
 q:¬l.q
 N:∀b,¬l.I b
 I:∀a,¬l.r a
 M:∀a,¬l.N a
 k:∀a,¬l.K a
def iD.C(h:iD l)(r:fI l l.w u):iD {l with w:=u}:= ⟨⟨h.r.c,h.r.Y,h.r.N,λb q=>Ģ (h.r.fv b q) r.r,λa q=>q.elim (λz=>(h.I a z).elim) λz=>(h.M a z).elim,λa q=>(h.k a q).elim⟩,h.d,h.q,h.N,h.I,h.M,h.k⟩
def ja(vQ:Ñ->Í->Prop)(l:fe)(g:Ċ):Prop:=
 iD l->g.status=.running->∀(a:Loc->Prop) (H:Nat) (J:Jd) (c:Nat->Nat) (b:Nat->fe) (E:Array Ċ) (sl:Option (Nat×Nat)) (t:Ž),vl a H l->fA.rj À a H J .fB c b E l.w t->(b 0).d=0->E[0]?=Â g->rH vQ E l.w sl t
def aqK{a:fe}(h:vl zX i l)(k:qp l a l.w a.w):vl zX i a:= ⟨h.r,λb c x d q=>by
  rcases k.N b c with z|z
  .exact h.fq b z x d q
  .have:=h.r x q;have:=h.C;omega,Ì h.C k.r⟩
def TJ{J f:Jd}{e:Nat->fe}(a:iD l)(h:g.status=.running)(j:vl zX i l)(c:fA.rj À zX i J .fB D e E l.w t)(m:(e 0).d=0)(n:E[0]?=Â g)(W:fA.fj À Î f l g):∃T,fA.rj À zX i f T D (fA.uP e l) E l.w t:=by let⟨T,o⟩:=jh W;exact⟨T,kx.Y c m n h U a.d a.q a.N a.I a.M a.k (λb q=>⟨a.r.fv b<|È q,j.fq b q⟩) o⟩
def aa0{Y:Nat->Prop}{J:Jd}{a:Nat->fe}(c:kx À Y zX i J .fB D a E w t):∃g,E[0]?=Â g/\J {a 0 with w:=w} g:=by
 obtain⟨g0,b⟩:∃g,E[0]?=Â g:=⟨_,å c.C⟩;let⟨d,e,f,_,_⟩:=c.r.C 0 g0 b;obtain rfl:g0=d:=by cases f;rfl
 exact⟨g0,b,e w<|c.r.r.r 0 c.C⟩
def Mj(vQ:Ñ->Í->Prop):Jd:=λl g=>iD l/\g.status=.running/\ja vQ l g
def aqL{b:Nat->fe}{T:gy}(m:(b 0).w=w)(n:vl zX i (b 0))(c:fA.rj À zX i (Mj vQ) T D b E w t):rH vQ E w sl t:=by let⟨N,o,p,f,w',e,qJ,r,_,a,j⟩:=kx.G (λl g h=>È h.2.1) T _ D b E w sl t U c;let⟨v,q,h,s,u⟩:=aa0 j;refine rH.r r ⟨a.C,a.I⟩<|u h s zX i (Mj vQ) o p f e qJ ?_ j h.d q;apply aqK n;rw[m];exact⟨a.r,a.N,a.c,a.S,a.b,a.k,a.jL,a.M,a.Y,a.C,a.I,a.d⟩
def qB(W:fA.fj À Î (Mj vQ) l g):ja vQ l g:=by intro b d i H J j k E sl t a c e f;let⟨T,h⟩:=TJ b d a c e f W;exact aqL (by rw[fA.Rq]) (by rwa[fA.Rq]) h
def aqM(W:fA.fj À Î (TH À vQ) l g):ja vQ l g:=by intro b d s H J i u E sl t j c k m;let⟨T,n⟩:=TJ b d j c k m W;let⟨N,o,p,f,w',e,qJ,r,_,a,q⟩:=kx.G (λl g h=>È h.1) T _ i _ E l.w sl t U n;exact rH.r r ⟨a.C,a.I⟩<|kx.aqJ _ o p f w' e qJ U q
def zr.N{e:um}{R:Nat}{kd:Nat->Int}{f:List fK}{c:fe}(h:zr X e R kd f l i v c)(r:fI c c.w u):zr X e R kd f l i v {c with w:=u}:=by have a:=λb q=>r.I b<|È q;let⟨V,j,g⟩:=h.Y;exact⟨λb q=>⟨(h.M b q).1,(a b (h.M b q).1).trans (h.M b q).2⟩,⟨h.r.1,λp k=>(gL<|a i h.r.1).trans<|h.r.2 p k⟩,⟨V,j.r λb q=>a b (g b q).1,g⟩,h.d,h.q,h.S,h.C,(gL<|a i h.r.1).trans h.I.1,(vU<|a i h.r.1).trans h.I.2⟩
def aqN{kd:Nat->Int}{bt:um}{V0 h:Nat->Prop}{s0:List fK}{B:Option ù}{I:Option ù}{R:Nat}{C:Ĕ}{z:Array ğ} (GH:0<R->I=Â ⟨j7,0,Á⟩) (vg:0<R->l.M j7) (GI:∀i,i<R->l.w.cell? ⟨j7,i,Á⟩=Â (Ã<|Â ⟨D i,0,Á⟩)) (GJ:∀i,i<R->l.w.cell? ⟨D i,4,Á⟩=Â (Å É<|kd i)) (K:HP l bt kd D R X) (hZ:(∀b,X b->h b)/\∀b,b=1\/b=2\/b=3\/b=4->h b) (hZO:∀b,h b->l.O b) (hVZ:∀b,V0 b->h b) (Bq:RD s0 (Æ B j j9) V0 l.w) (hn:1<=n) (hs:n+R<1000) (hJ:∀o v p m c,iD o->zr h bt R kd s0 l v (Æ p m c) o->ja vQ o (G (C.at (y.put ((z[i]?).bind (·.dst))<|ë #[Æ (Â ⟨v,0,Á⟩) R R,Æ p m c])<|Ð z jJ::L) qX)): ja vQ l (Dq (Æ B j j9) (Æ I R j6) n<|C.at y (Ð z (i::jJ)::L)::qX):=by
 intro s hr ji H J lv lot E sl t LZ c hd P;have W:fA.fj À Î (KI kd D R n (Æ B j j9) l<|C.at y (Ð z (i::jJ)::L)::qX) l (Dq (Æ B j j9) (Æ I R j6) n<|C.at y (Ð z (i::jJ)::L)::qX):= ais s.r s.q s.d Z GH vg GI (λi P=>È<|K.fq _<|K.r i P) GJ λg S o u x F v T V Y bw bf v1 h1 h2=>⟨g,S,u,x,F,v,T,V,Y,bw,bf,v1,h1,h2,U⟩;let⟨T,c'⟩:=TJ s hr LZ c hd P W;let⟨N,jv,G2,f,w',e,qJ,r,_,x,c''⟩:=kx.G (λlx gx S=>by obtain⟨_,_,_,_,_,_,_,_,_,_,_,_,_,_,rfl⟩:=S;exact È U) T _ lv _ E l.w sl t U c';apply rH.r r ⟨x.C,x.I⟩;let⟨N2,aqO,V,T2,KJ,Rw,gs2,w2,KL,t2,r2,io2,c2⟩:=ao2 (J:=λu V o F=>vl u V o/\Mj vQ o F) U c'' e s.r s.N s.q s.d LZ K hZ hZO hVZ Bq ⟨x.C,x.I⟩ hn hs λDw H' o v p m c Y z2 u=> .fB λw₁ F=>by have kS:iD o:=⟨z2,u.d,u.q,u.S,u.C.1,u.C.2.1,u.C.2.2⟩;exact⟨⟨Y.r,Y.fq,Ì Y.C F.r⟩,kS.C F,U,hJ _ v p m c (kS.C F)<|u.N F⟩
 apply rH.r r2 ⟨io2.1.trans x.C.symm,io2.2.trans x.I.symm⟩;let⟨N3,Se,aqP,gs3,w3,sl3,t3,r3,_,wn3,c3⟩:=kx.G (λlx gx S=>È S.2.2.1) T2 _ KJ Rw gs2 w2 KL t2 U c2;apply rH.r r3 ⟨wn3.C,wn3.I⟩;let⟨g3,TK,po,S,hr3,hs3⟩:=aa0 c3;exact hs3 S hr3 aqO V _ Se aqP gs3 sl3 t3 po c3 S.d TK
end
end Go.Proofs.Y.me
namespace Go.Proofs.Y.me
open Go Go.Conc Go.Proofs Go.RowKit Go.Proofs.Y.Lift Go.Proofs.Y.iw Go.Proofs.Y.fA Go.Proofs.Y.vq
open Go.Conc.Lib Go.ConcR.Gen Go.Proofs.YtgpphkdoanciiaaGreatDoor
def toTx(t:PT):Tx:=⟨(t.c.getD 0 0).toNat,(t.c.getD 1 0).toNat,t.c.getD 2 0,t.c.getD 3 0,t.c.getD 4 0,t.p⟩
def toQn(r:PR):Qn:=⟨(r.c.getD 0 0).toNat,(r.c.getD 1 0).toNat,(r.c.getD 2 0).toNat,(r.c.getD 3 0).toNat,r.c.getD 4 0,r.c.getD 5 0,r.c.getD 6 0,(r.c.getD 7 0).toNat⟩
def rI:PR:=⟨[],[]⟩
def xy(a:List PR):um where
 r:=λp=>((a.getD p rI).c.getD 5 0,((a.getD p rI).c.getD 0 0).toNat,(a.getD p rI).r.map toTx)
 C:=λp=>toQn<|a.getD p rI
def mC(a:List PR)(p:Nat):Int:=(a.getD p rI).c.getD 4 0
section
variable{p:PR}{t:PT}{a:Nat}{rs:List PR}{l:fe}{V:Nat->Prop}
theorem toTx_ok(h:nO t):(toTx t).Ok:=by have d:=h.c.r 0 A;have e:=h.c.r 1 A;have a:=h.c.r 2 A;have b:=h.c.r 3 A;simp only[ly]at d e a b;exact⟨by show(t.c.getD 0 0).toNat<8;omega,by show(t.c.getD 1 0).toNat<8;omega,a.1,a.2,b.1,b.2,h.p⟩
theorem zz(a:0<=c)(h:w.cell? ⟨b,i,Á⟩=Â (Å É c)):w.cell? ⟨b,i,Á⟩=Â (Å É (c.toNat:Nat)):=by grind
theorem aqQ(h:nO t)(k:H0 a t w):lJ a (toTx t) w:=by have b:=h.c.r 0 A;have d:=h.c.r 1 A;simp only[ly]at b d;exact⟨k.r,zz b.1<|k.c 0 A,zz d.1<|k.c 1 A,k.c 2 A,k.c 3 A,k.c 4 A,k.p⟩
theorem aqR(h:uy p)(k:xx i p w):BU i (p.c.getD 5 0) (p.c.getD 0 0).toNat (p.r.map toTx) w:=by
 have e:=h.c.r 0 A;simp only[ly]at e;let⟨f,n,g,l,m,o⟩:=k.b;let⟨r,s,u⟩:=vE (R:=λj t (y:Nat×Tx)=>y.2=toTx t/\∃d,f=Â ⟨d,0,Á⟩/\w.cell? ⟨d,j,Á⟩=Â (Ã<|Â ⟨y.1,0,Á⟩)/\H0 y.1 t w) p.r 0 λj t v=>by let⟨d,a,y,q,x⟩:=o j t v;simp_all
 refine⟨f,n,g,r,⟨zz e.1<|k.c 0 A,k.c 5 A,l⟩,⟨by rw[m,s],λj a t q=> ?_⟩,?_,by have:=h.n;omega⟩
 .let⟨x,z,y,d,D,B,C⟩:=u j (a,t) q;simp only at y B C;subst y;have E:=h.C x<|ç z;grind [aqQ,toTx_ok]
 .refine Ŕ λj=> ?_;unfold lr;grind
def aqS(h:uy p)(k:xx i p w):HN i (toQn p) w:=by have a:=h.c.r 0 A;have b:=h.c.r 1 A;have d:=h.c.r 2 A;have e:=h.c.r 3 A;have f:=h.c.r 7 A;simp only[ly]at a b d e f;exact⟨zz a.1<|k.c 0 A,zz b.1<|k.c 1 A,zz d.1<|k.c 2 A,zz e.1<|k.c 3 A,k.c 4 A,k.c 5 A,k.c 6 A,zz f.1<|k.c 7 A⟩
def aa1(h:uy p)(k:p.c.getD 4 0≠1):(toQn p).Ok:=by
 have d:=h.c.r 0 A;have e:=h.c.r 1 A;have f:=h.c.r 2 A;have g:=h.c.r 3 A;have i:=h.c.r 4 A;have a:=h.c.r 5 A;have b:=h.c.r 6 A;have j:=h.c.r 7 A;simp only[ly]at d e f g i a b j;refine⟨?_,?_,?_,?_,?_,?_,a.1,b.1,?_⟩
 .show(p.c.getD 0 0).toNat<8;omega
 .show(p.c.getD 1 0).toNat<8;omega
 .show(p.c.getD 2 0).toNat<1000000;omega
 .show(p.c.getD 3 0).toNat<18446744073709551616;omega
 .show 2<=p.c.getD 4 0;omega
 .show p.c.getD 4 0<=9;omega
 .show(p.c.getD 7 0).toNat<16;omega
theorem aqT(h:RQ rs v V l.w)(k:∀i∈rs,uy i)(B:np l.w)(C:∀b,b=1\/b=2\/b=3\/b=4->l.O b)(m:∀b,V b->l.O b): ∃d e f g,v=Æ d rs.length e/\(0<rs.length->d=Â ⟨f,0,Á⟩)/\(0<rs.length->l.O f)/\(∀a,a<rs.length->l.w.cell? ⟨f,a,Á⟩=Â (Ã<|Â ⟨g a,0,Á⟩))/\(∀a,a<rs.length->l.w.cell? ⟨g a,4,Á⟩=Â (Å É<|mC rs a))/\HP l (xy rs) (mC rs) g rs.length V:=by
 obtain⟨o,D,rfl,E⟩:=h.M;have p:∀a,a<rs.length->rs[a]?=Â (rs.getD a rI):=λa d=>by simp[Ġ,d]
 have r:=λa d=>ç<|p a d;obtain⟨f,s⟩:∃f,∀a,a<rs.length->o=Â ⟨f,0,Á⟩:=by
  by_cases e:0<rs.length
  .let⟨j,i,q,_⟩:=E 0 _<|p 0 e;exact⟨j,λ_ _=>q⟩
  .simp_all
 have F:∀a,∃i,a<rs.length->l.w.cell? ⟨f,a,Á⟩=Â (Ã<|Â ⟨i,0,Á⟩)/\xx i (rs.getD a rI) l.w:=λa=>by grind
 let⟨g,j⟩:=Classical.axiomOfChoice F;have u:=λe=>by have:=h.I;rw[s 0 e]at this;exact BT this
 refine⟨o,D,f,g,U,λe=>s 0 e,λe=>m _<|u e,λa d=>(j a d).1,λa d=>(j a d).2.c 4 A,B,C,h.C,m,λa d=>(BS<|h.C.r (u Z) (j a d).1),λa d y=> ?_,λa d y=> ?_⟩
 .have q:=k _<|r a d;have e:=q.c.r 0 A;have z:=q.c.r 5 A;simp only[ly]at e z;refine⟨aqR q (j a d).2,?_,z.1,λt G=> ?_,?_⟩
  .show((rs.getD a rI).c.getD 0 0).toNat<8;omega
  .obtain⟨x,H,rfl⟩:=Ú.1 G;exact toTx_ok<|q.C x H
  .show((rs.getD a rI).r.map toTx).length<=1000;rw[ú];have:=q.n;omega
 .have q:=k _<|r a d;exact⟨aqS q (j a d).2,aa1 q y⟩
end
theorem TL:(∀r∈(iY B).2.2,uy r)/\(iY B).2.2.length<=24:=by
 unfold iY;split
 .grind
 .split
  .unfold mP;split
   .grind
   .have:=(TA B.size 0 sJ (Tz B)<|Ø _).1.d;exact⟨this.G,this.C⟩
  .grind
def lP(rs:List PR)(s:List fK):List ByteArray:=(ĳ rs.length).map λp=>vp (xy rs) (mC rs) p<|oD (xy rs) (il (mC rs) rs.length) s<|fP (mC rs) p
def zC(rs:List PR)(s:List fK):List fK:=oD (xy rs) (il (mC rs) rs.length) s<|fP (mC rs) rs.length
def lz(s:List fK)(B:ByteArray):ByteArray×Int×List fK:=
 if(iY B).1=0 then(lN ⟨#[59]⟩<|lP (iY B).2.2 s,0,zC (iY B).2.2 s)else(⟨#[]⟩,(iY B).1,s)
section
variable{b:Ĕ}{l:fe}{a:Ĉ}
def aa2{md:Ŀ}(I:Array Bool->Ĉ->fe->Prop) (o:∀c a l i k,I c a l->i∈ä md Q c->(∀f g,I (c.setIfInBounds i Î) f g->ja vQ g (G (b.at f<|Ð Q k::L) qX))->ja vQ l (G (b.at a<|Ð Q (i::k)::L) qX)) (m:∀c a l,I c a l->c.size=Q.size->ä md Q c=[]->ja vQ l (G (b.at a<|Ð Q []::L) qX)): ∀(d t:Nat) (c:Array Bool) (a:Ĉ) (l:fe),c.size=Q.size->jl c<=d->I c a l->ja vQ l (G (b.at a<|Ð Q (ć md Q d t c [])::L) qX):=by
 intro d
 induction d with
 |zero=>
  intro t c a l e p h;simpa[ć]using m c a l h e<|Qh e Z
 |succ d q=>
  intro t c a l e p h;simp only[ć];change ja vQ l (G (b.at a (Ð Q (match(ä md Q c)[t%(ä md Q c).length]? with
   |some i=>ć md Q d (t/(ä md Q c).length) (c.setIfInBounds i Î) [i]
   |none=>[].reverse)::L)) qX)
  cases j:(ä md Q c)[t%(ä md Q c).length]? with
  |none=>
   have r:ä md Q c=[]:=by
    cases s:ä md Q c with
    |nil=>rfl
    |cons x n=>
     rw[s]at j;have u:t%(x::n).length<(x::n).length:=Nat.mod_lt _ fp;simp at j;simp at u;omega
   simpa using m c a l h e r
  |some i=>
   simp only[];rw[linearise_go_acc,List.reverse_singleton,List.singleton_append];have n:=ç j;refine o c a l i _ h n λf g r=>(q _ _ f g (by simpa using e) (by have:=JR (Β.1 n).1;omega) r)
def aqU{id:Nat}(I:Array Bool->Ĉ->fe->Prop)(e:iD l) (j:∀f,fI l l.w f->I (Ū Q.size Ë) a {l with w:=f}) (k:∀g c a l i m,I c a l->i∈ä g Q c->(∀n o,I (c.setIfInBounds i Î) n o->ja vQ o (G (b.at n<|Ð Q m::L) qX))->ja vQ l (G (b.at a<|Ð Q (i::m)::L) qX)) (p:∀g c a l,I c a l->c.size=Q.size->ä g Q c=[]->ja vQ l (G (b.at a<|Ð Q []::L) qX)): ja vQ l (G (b.at a<|av (.region id Q Î)::L) qX):=by
 refine qB (.mk U λf r=>⟨_,_,_,_,stepG_region_draw,Qg (mq e.r.r r) e.q,.fB λs d=> ?_⟩);have h:=r.fh ⟨d.r,d.I,d.N,d.Y,d.S⟩;refine⟨e.C h,U,?_⟩;unfold Region.schedule;split
 .exact aa2 I (k _) (p _) _ _ _ _ _ fp (by rw[CX];exact æ _)<|j s h
 .exact aa2 I (k _) (p _) _ _ _ _ _ fp (by rw[CX];exact æ _)<|j s h
def aqV{I:Ĉ->fe->Prop}(W:fA.fj À Î (λa d=>∃c,d=G (b.at c<|Ð Q jJ::L) qX/\I c a) l g)(f:∀c a,I c a->iD a)(i:∀c a,I c a->ja vQ a (G (b.at c<|Ð Q jJ::L) qX)):ja vQ l g:= qB (W.fN λa d h=>by obtain⟨c,rfl,e⟩:=h;exact⟨f c a e,U,i c a e⟩)
def H2{f:FuncId}{fn:Func}(xs:List Value)(n:Nat)(hf:Tryz.prog.funcs[f]?=some fn)(hb:fn.body=some (lk fn []):=by kernel_rfl)(hn:fn.ntmps=xs.length+n:=by kernel_rfl):Frame.enter Tryz.prog f xs.toArray .normal=(base f).at ⟨(xs++List.replicate n undef).toArray,[]⟩ [.code<|lk fn []]:=by rw[enter_at _ hf hb,hn,ř,Nat.add_sub_cancel_left,show xs.toArray++Ū n ĸ=(xs++ą n ĸ).toArray from Array.ext' fp]
def zD{J:Jd}{f:Ρ}{args:Array Ñ}(d:Q[i]?=Â o)(e:ē o (Ι Q a.tmps)=Î)(g:b.kind≠.early)(h:j2 l) (j:∀w,(ś a.eval o).run À w=.ok (.enter f args) w) (k:∀w,(ś a.eval o).events À w #[]=#[]) (m:∀c,fI l l.w c->fA.fj À Î J {l with w:=c} (G (è À f args Ą)<|b.at a (Ð Q (i::jJ)::L)::qX)): fA.fj À Î J l (G (b.at a<|Ð Q (i::jJ)::L) qX):=by refine .mk U λc r=>⟨G (è À f args Ą)<|b.at a (Ð Q (i::jJ)::L)::qX,c,#[],{l with w:=c},?_,ON c<|mq h r,m c r⟩;rw[stepG_enter d e g<|j c];unfold ax;rw[k c,seen_none]
def H3{f:Ρ}{args:Array Ñ}(e:iD l)(j:Q[i]?=Â o)(k:ē o (Ι Q a.tmps)=Î)(m:b.kind≠.early) (n:∀w,(ś a.eval o).run À w=.ok (.enter f args) w) (p:∀w,(ś a.eval o).events À w #[]=#[]) (q:∀d,fI l l.w d->ja vQ {l with w:=d} (G (è À f args Ą)<|b.at a (Ð Q (i::jJ)::L)::qX)): ja vQ l (G (b.at a<|Ð Q (i::jJ)::L) qX):= qB (zD j k m e.r.r n p λd r=> .fB λg c=>by have h:fI l l.w g:=r.fh ⟨c.r,c.I,c.N,c.Y,c.S⟩;exact⟨e.C h,U,q g h⟩)
def kj.Br{c:fe}(e:iD l)(h:kj l c)(k:c.d=l.d):iD c:=by
 have g:∀b,¬c.I b:=by rw[h.I];exact e.N
 have f:∀a,¬c.r a:=by rw[h.N];exact e.I
 have i:∀a,¬c.N a:=by rw[h.Y];exact e.M
 have j:∀a,¬c.K a:=by rw[h.K];exact e.k
 exact⟨⟨λb _=>g b,λa q=>(f a q).elim,λa q=>q.elim (λz=>(f a z).elim) λz=>(i a z).elim,λb q=>q.elim (λz=>h.fv b z) λz=>(g b z).elim,λa q=>q.elim (λz=>(f a z).elim) λz=>(i a z).elim,λa q=>(j a q).elim⟩,k.trans e.d,by rw[h.q];exact e.q,g,f,i,j⟩
end
def H4:ğ:=⟨Â 21,.move<|ň 0,26, "attic.go:46",#[],Á⟩
def H5:ğ:=⟨Â 22,.nilCheck<|ň 21,0, "attic.go:46",#[⟨0,ĉ⟩],Á⟩
def H6:ğ:=⟨Â 23,.fieldAddr 68 (ň 22) 1,0, "attic.go:46",#[⟨1,ĉ⟩],Á⟩
def H7:ğ:=⟨Â 24,.load 65<|ň 23,65, "attic.go:46",#[⟨2,ĉ⟩],Á⟩
def H8:ğ:=⟨Â 25,.move<|ň 6,61, "attic.go:46",#[],Á⟩
def H9:ğ:=⟨Â 26,.move<|ň 0,26, "attic.go:46",#[],Á⟩
def Ia:ğ:=⟨Â 27,.nilCheck<|ň 26,0, "attic.go:46",#[⟨5,ĉ⟩],Á⟩
def Ib:ğ:=⟨Â 28,.fieldAddr 68 (ň 27) 0,0, "attic.go:46",#[⟨6,ĉ⟩],Á⟩
def Ic:ğ:=⟨Â 29,.load 3<|ň 28,3, "attic.go:46",#[⟨7,ĉ⟩],Á⟩
def xA:ğ:=⟨Â 30,.call {callee:=.value<|.func 37,args:=#[ň 24,ň 25,ň 29],argTypes:=#[65,61,3]},66, "attic.go:46",#[⟨3,ĉ⟩,⟨4,ĉ⟩,⟨8,ĉ⟩],Á⟩
def zE:ğ:=⟨Â 20,.move<|ň 30,66, "attic.go:46",#[⟨9,ĉ⟩],Á⟩
def B2:ğ:=⟨Â 31,.extract (ň 20) 0,25, "attic.go:46",#[⟨10,ĉ⟩],Á⟩
def B3:ğ:=⟨Â 32,.extract (ň 20) 1,65, "attic.go:46",#[⟨10,ĉ⟩,{on:=13,ground:=Ground.gcOnly Departure.lateStores}],Á⟩
def B4:ğ:=⟨Â 9,.assign<|ň 31,25, "attic.go:46",#[⟨11,ĉ⟩,⟨9,.chain⟩,⟨0,ñ⟩,⟨1,ñ⟩,⟨2,ñ⟩,⟨3,ñ⟩,⟨4,ñ⟩,⟨5,ñ⟩,⟨6,ñ⟩,⟨7,ñ⟩,⟨8,ñ⟩,⟨9,ñ⟩,⟨10,ñ⟩,⟨11,ñ⟩,{on:=12,ground:=Ground.textOnly Departure.lateStores}],Á⟩
def B5:ğ:=⟨Â 10,.assign<|ň 32,65, "attic.go:46",#[⟨12,ĉ⟩,⟨13,.chain⟩,⟨0,ñ⟩,⟨1,ñ⟩,⟨2,ñ⟩,⟨3,ñ⟩,⟨4,ñ⟩,⟨5,ñ⟩,⟨6,ñ⟩,⟨7,ñ⟩,⟨8,ñ⟩,⟨9,ñ⟩,⟨10,ñ⟩,⟨11,ñ⟩,⟨12,ñ⟩,⟨13,ñ⟩],Á⟩
def n8:Array ğ:=#[H4,H5,H6,H7,H8,H9,Ia,Ib,Ic,xA,zE,B2,B3,B4,B5]
noncomputable def TM:Τ:=lk Tryz.f17 [1,1,1,1]
structure mD(l:fe)(ab n:Nat)(s:List fK)(sl:Ñ)(V:Nat->Prop):Prop where
 r:np l.w
 C:∀b,b=1\/b=2\/b=3\/b=4->l.O b
 a:EG ab n sl l.w
 fq:l.O ab
 I:RD s sl V l.w
 Y:∀b,V b->l.O b
 e:¬V ab
 c:1<=n
 d:n<=8
 M:¬(ab=1\/ab=2\/ab=3\/ab=4)
structure Mk(l l':fe)(ab n:Nat)(s':List fK)(V:Nat->Prop):Prop where
 uS:∀b,l.O b->b≠ab->l'.O b/\l'.w.heap[b]?=l.w.heap[b]?
 att:∃su V',mD l' ab n s' su V'/\∀b,V' b->V b\/(b=1\/b=2\/b=3\/b=4)\/l.w.heap.size<=b
section
variable{l d:fe}{ab:Nat}{s:List fK}{sl:Ñ}{V:Nat->Prop}
def mD.S{a:fe}(h:mD l ab n s sl V)(c:∀b,l.O b->a.O b)(d:∀b,l.O b->a.w.heap[b]?=l.w.heap[b]?)(e:l.w.heap.size<=a.w.heap.size):mD a ab n s sl V:= ⟨h.r.r (Ì h.r.fv e) λb q=>d b<|h.C b q,λb q=>c b<|h.C b q,h.a.r<|d ab h.fq,c ab h.fq,h.I.r λb q=>d b<|h.Y b q,λb q=>c b<|h.Y b q,h.e,h.c,h.d,h.M⟩
def mD.N(h:mD l ab n s sl V)(r:fI l l.w u):mD {l with w:=u} ab n s sl V:=h.S (λ_ q=>q) (λb q=>r.I b<|È q) r.r
def jY(ab:Nat)(n:Nat)(sl rs:Ñ)(x:Value×Value):Nat->Ñ
 |0=>Ã<|Â ⟨ab,0,Á⟩
 |1=>Ã<|Â ⟨ab,0,Á⟩
 |2=>Ã<|Â ⟨ab,1,Á⟩
 |3=>sl
 |4=>rs
 |5=>Ã<|Â ⟨ab,0,Á⟩
 |6=>Ã<|Â ⟨ab,0,Á⟩
 |7=>Ã<|Â ⟨ab,0,Á⟩
 |8=>Å É n
 |9=>ë #[x.1,x.2]
 |10=>ë #[x.1,x.2]
 |11=>x.1
 |12=>x.2
 |13=>x.1
 |14=>x.2
 |_=>ĸ
def vz(d:fe)(V:Nat->Prop)(rs:List PR)(s:List fK)(listed:Array Bool)(x:Value×Value)(l:fe):Prop:=
 iD l/\(listed.getD 9 Ë=Ë->gh fg d l)/\(listed.getD 9 Ë=Î->∃a e p m c,gh fg d a/\x=(Æ (Â ⟨e,0,Á⟩) rs.length rs.length,Æ p m c)/\zr (λb=>V b\/b=1\/b=2\/b=3\/b=4) (xy rs) rs.length (mC rs) s a e (Æ p m c) l)
def vz.jS{V:Nat->Prop}{a:List PR}{s:List fK}{listed:Array Bool}{x:Value×Value}(h:vz d V a s listed x l)(b:i≠9){w₁:Í}(r:fI l l.w w₁):vz d V a s (listed.setIfInBounds i Î) x {l with w:=w₁}:=by
 have e:(listed.setIfInBounds i Î).getD 9 Ë=listed.getD 9 Ë:=by simp[Array.getD_eq_getD_getElem?,Array.getElem?_setIfInBounds_ne b]
 refine⟨h.1.C r,λq=> ?_,λq=> ?_⟩
 .rw[e]at q;exact(h.2.1 q).G r
 .rw[e]at q;let⟨f,g,p,m,c,j,k,n⟩:=h.2.2 q;exact⟨f,g,p,m,c,j,k,n.N r⟩
theorem aqW{D:Array Ñ}{I:List PR}(J:mD d ab n s sl V)(T:D.size=39)(W:D[0]?=Â (Ã<|Â ⟨ab,0,Á⟩))(Y:D[6]?=Â z) (md:Ŀ) (listed:Array Bool) (a:Ĉ) (l:fe) (i:Nat) (O:List Nat) (hI:II n8 D (jY ab n sl z) (vz d X I s) listed a l) (p:i∈ä md n8 listed) (F:i≠9): fA.fj À Î (λc e=>∃b,e=G ((base 17).at b<|Ð n8 O::L) qX/\II n8 D (jY ab n sl z) (vz d X I s) (listed.setIfInBounds i Î) b c) l (G ((base 17).at a<|Ð n8 (i::O)::L) qX):=by
 let⟨x,g,H⟩:=hI;have t:tJ n8 D.size=Î:=by rw[T];decide
 have K:=CY p;have u:=H.1.r.r;have y:=H.1.q;have P:=(g.C A).trans W;have Ml:=(g.C A).trans Y;have B:∀c,fI l l.w c->vz d X I s (listed.setIfInBounds i Î) x {l with w:=c}:=λc r=>H.jS F r;let⟨fr,ml,_⟩:=J.a;have early:∀m,m<15->listed.getD m Ë=Ë->(∃e,e∈xA.after/\e.on=m/\yt e=Î)->listed.getD 9 Ë=Ë:=λm _ hm ⟨e,h1,h2,h3⟩=>by
  cases q:listed.getD 9 Ë with
  |false=>rfl
  |true=>
   have:=g.Y 9 xA e U q h1 h3;rw[h2,hm]at this;cases this
 have j1:n8.size=15:=A
 rw[j1]at K;have Nr:listed.getD i Ë=Ë:=by have:=(Β.1 p).1;grind
 have S:∀{j v},(∃e,e∈xA.after/\e.on=i/\yt e=Î)->#[Å É n,sl][j]?=Â v->gW l ⟨ab,j,Á⟩/\l.w.cell? ⟨ab,j,Á⟩=Â v:=λq h=>by have b:=H.2.1<|early i K Nr q;exact⟨È<|b.M<|È J.fq,(gL<|b.r ab (È J.fq) id).trans<|by simp[ß,ml,h]⟩
 match i,K,F with
 |9,_,F=>exact absurd U F
 |0,_,_=>
  exact ij (o:=H4) t g U U p (by k_ne) u y (λc r=>by simp only[jY,H4];go_simp) (λc r e f=>by simp[go_sem,H4,P]at f) B
 |1,_,_=>
  have b:=g.r 0 H4 21 U (ie p U U) U;simp only[jY]at b;exact ij (o:=H5) t g U U p (by k_ne) u y (λc r=>by simp only[jY,H5];go_simp) (λc r e f=>by simp[go_sem,H5,b]at f) B
 |2,_,_=>
  have b:=g.r 1 H5 22 U (ie p U U) U;simp only[jY]at b;exact ij (o:=H6) t g U U p (by k_ne) u y (λc r=>by simp only[jY,H6];go_simp) (λc r e f=>by simp[go_sem,H6,b]at f) B
 |3,_,_=>
  have b:=g.r 2 H6 23 U (ie p U U) U;simp only[jY]at b;let⟨C,E⟩:=S (j:=1) ⟨⟨3,ĉ⟩,by simp[xA],U,U⟩ U;refine ij (o:=H7) t g U U p (by k_ne) u y (λc r=> ?_) (λc r e f=> ?_) B
  .have N:=(C.r r).trans E;simp only[jY,H7];go_simp
  .have N:=(C.r r).trans E;simp[go_sem,H7,b,N]at f;subst f;exact C.C
 |4,_,_=>
  exact ij (o:=H8) t g U U p (by k_ne) u y (λc r=>by simp only[jY,H8];go_simp) (λc r e f=>by simp[go_sem,H8,Ml]at f) B
 |5,_,_=>
  exact ij (o:=H9) t g U U p (by k_ne) u y (λc r=>by simp only[jY,H9];go_simp) (λc r e f=>by simp[go_sem,H9,P]at f) B
 |6,_,_=>
  have b:=g.r 5 H9 26 U (ie p U U) U;simp only[jY]at b;exact ij (o:=Ia) t g U U p (by k_ne) u y (λc r=>by simp only[jY,Ia];go_simp) (λc r e f=>by simp[go_sem,Ia,b]at f) B
 |7,_,_=>
  have b:=g.r 6 Ia 27 U (ie p U U) U;simp only[jY]at b;exact ij (o:=Ib) t g U U p (by k_ne) u y (λc r=>by simp only[jY,Ib];go_simp) (λc r e f=>by simp[go_sem,Ib,b]at f) B
 |8,_,_=>
  have b:=g.r 7 Ib 28 U (ie p U U) U;simp only[jY]at b;let⟨C,E⟩:=S (j:=0) ⟨⟨8,ĉ⟩,by simp[xA],U,U⟩ U;refine ij (o:=Ic) t g U U p (by k_ne) u y (λc r=> ?_) (λc r e f=> ?_) B
  .have N:=(C.r r).trans E;simp only[jY,Ic];go_simp
  .simp[go_sem,Ic,b,(C.r r).trans E]at f;subst f;exact C.C
 |10,_,_=>
  have b:=g.r 9 xA 30 U (ie p U U) U;simp only[jY]at b;exact ij (o:=zE) t g U U p (by k_ne) u y (λc r=>by simp only[jY,zE];go_simp) (λc r e f=>by simp[go_sem,zE,b]at f) B
 |11,_,_=>
  have b:=g.r 10 zE 20 U (ie p U U) U;simp only[jY]at b;exact ij (o:=B2) t g U U p (by k_ne) u y (λc r=>by simp only[jY,B2];go_simp) (λc r e f=>by simp[go_sem,B2,b]at f) B
 |12,_,_=>
  have b:=g.r 10 zE 20 U (ie p U U) U;simp only[jY]at b;exact ij (o:=B3) t g U U p (by k_ne) u y (λc r=>by simp only[jY,B3];go_simp) (λc r e f=>by simp[go_sem,B3,b]at f) B
 |13,_,_=>
  have b:=g.r 11 B2 31 U (ie p U U) U;simp only[jY]at b;exact ij (o:=B4) t g U U p (by k_ne) u y (λc r=>by simp only[jY,B4];go_simp) (λc r e f=>by simp[go_sem,B4,b]at f) B
 |14,_,_=>
  have b:=g.r 12 B3 32 U (ie p U U) U;simp only[jY]at b;exact ij (o:=B5) t g U U p (by k_ne) u y (λc r=>by simp only[jY,B5];go_simp) (λc r e f=>by simp[go_sem,B5,b]at f) B
end
def aqX(x y:Ñ)(n:Nat)(a:List Ĕ):G (è À 37 #[x,y,Å É n] Ą) a=Dq x y n a:=by unfold Dq;rw[enter_at #[x,y,Å É n] η (c:=lk Tryz.f37 []) fu];kernel_rfl
section
variable{l g:fe}{s:List fK}{V:Nat->Prop}{d:List PR}
theorem aqY{F:Array Ñ}(D:mD g i n s x V)(W:RQ d v X g.w)(M:∀b,X b->g.O b)(Y:∀r∈d,uy r)(JV:d.length<=24)(ht:F.size=39) (md:Ŀ) (listed:Array Bool) (a:Ĉ) (l:fe) (N:List Nat) (hI:II n8 F (jY i n x v) (vz g (λb=>V b\/X b) d s) listed a l) (B:9∈ä md n8 listed) (hn:∀P E,II n8 F (jY i n x v) (vz g (λb=>V b\/X b) d s) (listed.setIfInBounds 9 Î) P E->ja vQ E (G ((base 17).at P<|Ð n8 N::L) qX)): ja vQ l (G ((base 17).at a<|Ð n8 (9::N)::L) qX):=by
 let⟨t,y,Q⟩:=hI;have Nr:=(Β.1 B).1;have h9s:9<listed.size:=by grind
 have H:listed.getD 9 Ë=Ë:=by grind
 have e24:a.tmps[24]?=Â x:=y.r 3 H7 24 U (ie B U U) U;have e25:a.tmps[25]?=Â v:=y.r 4 H8 25 U (ie B U U) U;have e29:a.tmps[29]?=Â (Å É n):=y.r 8 Ic 29 U (ie B U U) U;have late:∀(S:Value×Value) j,listed.getD j Ë=Î->jY i n x v S j=jY i n x v t j:=λS j u=>by
  have c:listed.getD 10 Ë=Ë:=by
   cases q:listed.getD 10 Ë with
   |false=>rfl
   |true=>exact absurd (y.Y 10 zE ⟨9,ĉ⟩ U q (by simp[zE]) U)<|by rw[H];decide
  have e:listed.getD 11 Ë=Ë:=by
   cases q:listed.getD 11 Ë with
   |false=>rfl
   |true=>exact absurd (y.Y 11 B2 ⟨10,ĉ⟩ U q (by simp[B2]) U)<|by rw[c];decide
  have h:listed.getD 12 Ë=Ë:=by
   cases q:listed.getD 12 Ë with
   |false=>rfl
   |true=>exact absurd (y.Y 12 B3 ⟨10,ĉ⟩ U q (by simp[B3]) U)<|by rw[c];decide
  have m:listed.getD 13 Ë=Ë:=by
   cases q:listed.getD 13 Ë with
   |false=>rfl
   |true=>exact absurd (y.Y 13 B4 ⟨11,ĉ⟩ U q (by simp[B4]) U)<|by rw[e];decide
  have p:listed.getD 14 Ë=Ë:=by
   cases q:listed.getD 14 Ë with
   |false=>rfl
   |true=>exact absurd (y.Y 14 B5 ⟨12,ĉ⟩ U q (by simp[B5]) U)<|by rw[h];decide
  match j with
  |9=>rw[H]at u;cases u
  |10=>rw[c]at u;cases u
  |11=>rw[e]at u;cases u
  |12=>rw[h]at u;cases u
  |13=>rw[m]at u;cases u
  |14=>rw[p]at u;cases u
  |0|1|2|3|4|5|6|7|8=>rfl
  |j+15=>rfl
 refine H3 (f:=37) (args:=#[x,v,Å É n]) Q.1 (o:=xA) U (JU U _) (by k_ne) (λw=> ?_) (λw=> ?_) λw₁ r=> ?_
 .simp only[xA];go_simp
 .exact ô U η U U #[]
 have z:=(Q.2.1 H).G r;have C:=D.S (λb q=>z.O b q) (λb q=>z.r b (È q) id) z.I;have T:=λb q=>z.O b<|M b q;obtain⟨ra,cr,rb,rq,rfl,GH,vg,GI,GJ,ready⟩:=aqT (W.r λb q=>z.r b (È<|M b q) id) Y C.r C.C T;obtain⟨I,J,K,rfl⟩:∃I J K,x=Æ I J K:=by let⟨_,_,_,⟨I,J,K,e,_⟩,_⟩:=D.I;grind
 rw[aqX];refine aqN GH (λh=>È<|vg h) GI GJ ready ⟨λb q=>È<|Ï q,λb q=>Ï q⟩ (λb q=>q.elim (λq=>q.elim (C.Y b)<|T b)<|C.C b) (λb q=>È<|È q) C.I D.c (by have:=D.d;omega) λE e p m c h hT=> ?_;refine hn _ E ⟨(Æ (Â ⟨e,0,Á⟩) d.length d.length,Æ p m c),(y.XP<|late _).gf (by rw[ht];decide) U B λ_=>rfl,h,λq=> ?_,λ_=>⟨_,e,p,m,c,z,U,hT⟩⟩;simp_all
end
section
variable{l o l4:fe}{ab:Nat}{s:List fK}{sl:Ñ}{V:Nat->Prop}{rs:List PR}
structure aa3(l l4:fe)(ab n:Nat)(s:List fK)(sl:Ñ)(V:Nat->Prop)(rs:List PR)(an:Nat)(su:Ñ):Prop where
 r:∀b,l.O b->l4.O b/\l4.w.heap[b]?=l.w.heap[b]?
 fv:nB<=l4.w.heap.size
 C:l4.O an/\uC an (lP rs s) l4.w/\kJ l4.w an=Â (0,0)
 G1:∃V',RD (zC rs s) su V' l4.w/\(∀b,V' b->l4.O b)/\¬V' ab/\∀b,V' b->V b\/(b=1\/b=2\/b=3\/b=4)\/l.w.heap.size<=b
def aqZ{kd:Nat->Int}(h:∀p,p<rs.length->w.cell? ⟨i,p,Á⟩=Â (Ä<|vp (xy rs) (mC rs) p<|oD (xy rs) (il (mC rs) rs.length) s<|fP (mC rs) p))(d:w.cell? ⟨i,rs.length,Á⟩=Á):uC i (lP rs s) w:=by refine⟨λp x a=> ?_,by unfold lP;simpa using d⟩;unfold lP at a;rw[ī]at a;obtain⟨q,e,rfl⟩:=ò.1 a;let⟨b,c⟩:=Õ.1 e;simp at b c;subst c;exact h p b
def aa4:(lP rs s).length=rs.length:=by simp[lP]
def aq0:nB<=5:=by show À.globals.size<=5;decide+kernel
def aq1{f:fe}{p:Option ù}(d:mD l ab n s sl V)(t:gw l)(u:∀b,X b->l.w.heap.size<=b)(v:∀b,l.O b->o.O b/\o.w.heap[b]?=l.w.heap[b]?)(x:l.w.heap.size<=o.w.heap.size)(y:gw l4)(e:gh fg o f)(a:zr (λb=>(V b\/X b)\/b=1\/b=2\/b=3\/b=4) (xy rs) rs.length (mC rs) s f i (Æ p m j) l4):aa3 l l4 ab n s sl V rs i (Æ p m j):=by
 have g:∀b,l.O b->l4.O b/\l4.w.heap[b]?=l.w.heap[b]?:=λb q=>by let⟨z,h⟩:=v b q;let⟨k,r⟩:=a.M b<|e.O b z;exact⟨k,r.trans<|(e.r b (È z) id).trans h⟩
 refine⟨g,?_,⟨a.r.1,aqZ (kd:=mC rs) a.r.2 a.I.1,a.I.2⟩,?_⟩
 .have:=y.fv 4<|È (g 4<|d.C 4 A).1;have:=aq0;omega
 .let⟨h,B,k⟩:=a.Y;have r:∀b,h b->V b\/(b=1\/b=2\/b=3\/b=4)\/l.w.heap.size<=b:=λb q=>by
   rcases(k b q).2 with((z|z)|z)|z
   .exact È z
   .exact Ï<|Ï<|u b z
   .exact Ï<|È z
   .exact Ï<|Ï<|Ì (Ì x e.I) z
  refine⟨h,B,λb q=>(k b q).1,λq=> ?_,r⟩;rcases r ab q with z|z|z
  .exact d.e z
  .exact d.M z
  .have:=t.fv ab<|È d.fq;omega
def aq2{f:fe}{p:Option ù}(d:mD l ab n s sl V)(h:aa3 l l4 ab n s sl V rs i (Æ p m j))(E:gw l4)(g:∀b,l4.O b->f.O b)(r:∀b,l4.O b->f.w.heap[b]?=(l4.w.setCell ⟨ab,1,Á⟩<|Æ p m j).heap[b]?)(v:l4.w.heap.size<=f.w.heap.size):Mk l f ab n (zC rs s) V:=by
 let⟨x,y,t,u,z⟩:=h.G1;have k:∀b,l4.O b->b≠ab->f.w.heap[b]?=l4.w.heap[b]?:=λb q e=>(r b q).trans<|kX (a:=⟨ab,1,Á⟩) e;have o:=h.r ab d.fq;refine⟨λb q e=>⟨g b (h.r b q).1,(k b (h.r b q).1 e).trans (h.r b q).2⟩,Æ p m j,x,⟨?_,λb q=>g b (h.r b<|d.C b q).1,?_,g ab o.1,y.r λb q=>k b (t b q) λe=>u<|e▸q,λb q=>g b<|t b q,u,d.c,d.d,d.M⟩,z⟩
 .exact d.r.r (Ì h.fv v) λb q=>(k b (h.r b<|d.C b q).1 λe=>d.M<|e▸q).trans (h.r b<|d.C b q).2
 .let⟨B,C,D⟩:=d.a;refine⟨B,?_,D⟩;rw[r ab o.1];unfold Ż;simp[Ķ,o.2,C]
def aq3{J:Jd}(b:j2 l)(d:fA.fj À Î J l (G (f.at (y.put ((Q[i]?).bind (·.dst))<|Ä ⟨#[]⟩)<|Ð Q jJ::L) qX)): fA.fj À Î J l (G (è À 38 #[Æ O 0 j,Ä B] Ą)<|f.at y (Ð Q (i::jJ)::L)::qX):=by
 have hF:True:=trivial;rw[H2 [_,_] 73 ĕ];simp only[ą,Ē,ě];conv in lk _ _=>whnf
 apply gk (n:=60) b;repeat w_go fC
 u_in fC hF
 refine Ŧ (t:=4) U U ĕ U ⟨by u_nil,?_⟩;refine ï λ_ _=> ?_;exact d
def uC.I{w':Í}{xs:List ByteArray}(h:uC i xs w)(k:w'.heap[i]?=w.heap[i]?):uC i xs w':= ⟨λp x a=>zx k<|h.r p x a,by have:=h.C;simp only[ß,k]at this|-;exact this⟩
def aq4{xs:List ByteArray}(g:np w)(h:uC i xs w):k9 i=Ë:=by
 have b:∀e,LX i e w->False:=λe ⟨c,o,j,_,_,d,l⟩=>by
  have f:w.cell? ⟨i,0,Á⟩=Â c[0]:=by simp only[ß,j,ö,ì,if_false];exact å d
  rcases ĥ xs.length with q|q
  .have a:=h.C;rw[q,f]at a;cases a
  .have a:=h.r 0 _<|Ó q;let⟨k,n,m⟩:=l c[0]<|î.2<|ă d;rw[f,m]at a;cases a
 cases q:k9 i with
 |false=>rfl
 |true=>
  unfold k9 at q;simp at q;rcases q with rfl|rfl
  .exact(b _ g.I).elim
  .exact(b _ g.C).elim
def kj.aq5(a:j2 l)(r:fI l l.w u):kj l {l with w:=u}:=⟨λ_ q=>q,λ_ q=>È q,U,U,U,U,U,r,mq a r⟩
def aq6{a:Ĉ}{xs:List ByteArray}(b:iD l)(j:nB<=l.w.heap.size)(h:uC n xs l.w)(m:l.O n)(o:k9 n=Ë)(p:kJ l.w n=Â (0,0))(s:xs.length<=1000){N:Nat}(t:xs.length=N)(u:B.size=1)(v:iB xs+xs.length<=140737488355328): fA.fj À Î (λc g=>kj l c/\c.d=l.d/\g=G (f.at (a.put ((Q[i]?).bind (·.dst))<|Ä<|lN B xs)<|Ð Q jJ::L) qX) l (G (è À 38 #[Æ (Â ⟨n,0,Á⟩) N N,Ä B] Ą)<|f.at a (Ð Q (i::jJ)::L)::qX):=by
 subst t;rcases ĥ xs.length with e|e
 .have x:=Ý e;subst x;exact aq3 b.r.r<|.fB λy r=>⟨kj.aq5 b.r.r r,U,U⟩
 .refine(aqH b.r b.q j h e (È m) o p s u v Î _ qX).fN ?_;rintro c g ⟨r,x,rfl⟩;exact⟨r,x,by rw[Ĝ]⟩
def aq7{N:Array Ñ}{cf:Ĕ}(C:mD l ab n s sl V)(Dr:gw l)(TN:∀b,X b->l.w.heap.size<=b)(hl:∀b,l.O b->o.O b/\o.w.heap[b]?=l.w.heap[b]?)(j1:l.w.heap.size<=o.w.heap.size)(JV:rs.length<=24)(rT:iB (lP rs s)+rs.length<=140737488355328)(ht:N.size=39)(ht0:N[0]?=Â (Ã<|Â ⟨ab,0,Á⟩)) (hJ:∀P,iD P->Mk l P ab n (zC rs s) V->ja vQ P (G (cf.at (y.put ((Q[i]?).bind (·.dst))<|ë #[Ä<|lN ⟨#[59]⟩<|lP rs s,Å É 0])<|Ð Q jJ::L) qX)) (md:Ŀ) (listed:Array Bool) (a:Ĉ) (l4:fe) (hI:II n8 N (jY ab n sl v) (vz o (λb=>V b\/X b) rs s) listed a l4) (H:listed.size=n8.size) (I:ä md n8 listed=[]): ja vQ l4 (G ((base 17).at a<|Ð n8 []::[av TM])<|cf.at y (Ð Q (i::jJ)::L)::qX):=by
 have hF:True:=trivial;let⟨x,D,g,_,hS⟩:=hI;have J:∀i∈ĳ 15,listed.getD i Ë=Î:=by
  cases md
  .exact pG I H (ĳ 15) [] fW λi c=>by cases c
  .exact λi c=>pG I H [0,1,2,3,4,5,6,7,8,9,10,11,13,12,14] [] fW (λi c=>by cases c) i (by have:=Ŷ.1 c;revert i;decide)
  .exact pG I H (ĳ 15) [] fW λi c=>by cases c
 obtain⟨l1,r,p,m,c,k1,rfl,hT⟩:=hS<|J 9 A;have h:=aq1 (rs:=rs) C Dr TN hl j1 g.r k1 hT;let⟨F,ds⟩:=a;obtain rfl:ds=[]:=D.M;have S:F[0]?=Â (Ã<|Â ⟨ab,0,Á⟩):=(D.C A).trans ht0;have T:F[9]?=Â (Æ (Â ⟨r,0,Á⟩) rs.length rs.length):=D.r 13 B4 9 U (J 13 A) U;have W:F[10]?=Â (Æ p m c):=D.r 14 B5 10 U (J 14 A) U;have GR:F.size=39:=D.S.trans ht;clear D J hS hT k1 I H;obtain⟨u,rfl⟩:=u6 F GR;simp only[List.getElem?_toArray,ī,List.getElem?_range,Nat.reduceLT,Ă,Ô]at S T W;simp only[ĳ,List.range.loop,List.map,S,T,W];clear S T W GR;let⟨fr,ml,hfr⟩:=C.a;let⟨Mm,hab⟩:=h.r ab C.fq;have Y:l4.w.heap[ab]?=Â (Û #[Å É n,sl] 68 (0,0)):=by rw[hab,ml,hfr]
 have c1:l4.w.cell? ⟨ab,1,Á⟩=Â sl:=by simp[ß,Y]
 have z1:l4.w.frozen? ⟨ab,1,Á⟩=Ë:=by simp[World.frozen?,Y]
 have A4:=g.q;apply qB;apply gk (n:=20) g.r.r;conv in TM=>whnf
 iterate 7 w_go fC
 refine ï λ_ _=> ?_;apply Gk (p:=ab) (off:=1) (v:=Æ p m c) (u:=sl) U U (by k_ne) g.r.r A4 Mm c1 z1 U (λw z B=>by go_simp) (λw z B=>by simp[go_sem,events_store _ _ _ _ _ _ (show Value.oneCell' (Æ p m c)=Î from rfl),z,B]);have k5:=J5 (X:=λb=>b=ab) (p:=ab) (w':=l4.w.setCell ⟨ab,1,Á⟩<|Æ p m c) g.r (fI.fT _ _) Mm U fA.jP λj hj=>fA.kX hj;have ri:=k5.N g.r;have atc:(l4.w.setCell ⟨ab,1,Á⟩<|Æ p m c).heap.size=l4.w.heap.size:=fA.jP;have tL:iD ({l4 with w:=l4.w.setCell ⟨ab,1,Á⟩ (Æ p m c)}:fe):=⟨ri,g.d,g.q,g.N,g.I,g.M,g.k⟩;have c0:l4.w.cell? ⟨ab,0,Á⟩=Â (Å É n):=by simp[ß,Y]
 have aq8:r≠ab:=λe=>by
  rcases ĥ (lP rs s).length with q|q
  .have z:=h.C.2.1.C;rw[q,e,c0]at z;cases z
  .have B:=h.C.2.1.r 0 _<|Ó q;rw[e,c0]at B;cases B
 have aa5:(l4.w.setCell ⟨ab,1,Á⟩<|Æ p m c).heap[r]?=l4.w.heap[r]?:=fA.kX (a:=⟨ab,1,Á⟩) aq8;have Td:=h.C.2.1.I aa5;have AQ:kJ (l4.w.setCell ⟨ab,1,Á⟩<|Æ p m c) r=Â (0,0):=(vU aa5).trans h.C.2.2;have aq9:k9 r=Ë:=aq4 (C.r.r h.fv λb q=>(h.r b<|C.C b q).2) h.C.2.1;have hlen:(lP rs s).length=rs.length:=aa4;apply gk (n:=20) ri.r;iterate 4 w_go fC
 refine ï λ_ _=> ?_;refine zD (f:=38) (args:=#[Æ (Â ⟨r,0,Á⟩) rs.length rs.length,Ä ⟨#[59]⟩]) U fW (by k_ne) ri.r (λw=>by go_simp) (λw=>ô U ĕ U U #[]) λw₁ E=> ?_;have Ml:=tL.C E;have ara:uC r (lP rs s) w₁:=Td.I<|E.I r<|È h.C.1;refine fA.fj.lQ ?_ (aq6 (xs:=lP rs s) Ml (Ì (by rw[fA.jP];exact h.fv) E.r) ara h.C.1 aq9 ((vU<|E.I r<|È h.C.1).trans AQ) Z hlen U Z);rintro K g6 ⟨M,hd,rfl⟩;have TO:iD K:=kj.Br Ml M hd;have hk6:∀b,l4.O b->K.w.heap[b]?=(l4.w.setCell ⟨ab,1,Á⟩<|Æ p m c).heap[b]?:=λb q=>(M.r.I b<|È q).trans<|E.I b<|È q;have hs6:l4.w.heap.size<=K.w.heap.size:=by have z:=M.r.r;have B:=E.r;have h3:(l4.w.setCell ⟨ab,1,Á⟩<|Æ p m c).heap.size=l4.w.heap.size:=fA.jP;exact Ì (Nat.le_of_eq h3.symm)<|Ì B z
 have B:∀b,l4.O b->K.O b:=λb q=>M.O b q;generalize lN ⟨#[59]⟩ (lP rs s)=ans at*;walk_nrm;apply gk (n:=20) TO.r.r;repeat w_go fC
 u_in fC hF
 refine θ (t:=4) (u:=5) U U Ł U ⟨by u_nil,?_⟩;refine ï λ_ _=> ?_;refine .fB λzV z=>⟨TO.C z,U,hJ _ (TO.C z)<|aq2 C h g.r B (λb q=>(z.I b<|È<|B b q).trans<|hk6 b q)<|Ì hs6 z.r⟩
end
section
variable{l:fe}{s:List fK}
theorem arb{e:fe}{c:Nat->Prop}{g:List PR}(B:mD l j n s v X)(C:gw l)(D:mD e j n s v X)(k:iD e)(W:RQ g z c e.w)(Y:∀b,c b->e.O b)(hok:∀r∈g,uy r)(E:g.length<=24)(F:∀b,c b->l.w.heap.size<=b)(H:∀b,l.O b->e.O b/\e.w.heap[b]?=l.w.heap[b]?)(I:l.w.heap.size<=e.w.heap.size)(J:iB (lP g s)+g.length<=140737488355328)(t:d.size=39)(u:d[0]?=Â (Ã<|Â ⟨j,0,Á⟩))(K:d[6]?=Â z) (M:∀h,iD h->Mk l h j n (zC g s) X->ja vQ h (G (f.at (y.put ((Q[i]?).bind (·.dst))<|ë #[Ä<|lN ⟨#[59]⟩<|lP g s,Å É 0])<|Ð Q jJ::L) qX)): ja vQ e (G ((base 17).at ⟨d,[]⟩<|av (.region 4 n8 Î)::[av TM])<|f.at y (Ð Q (i::jJ)::L)::qX):=by
 refine aqU (II n8 d (jY j n v z)<|vz e (λb=>X b\/c b) g s) k (λa x=> ?_) (λm o a l i jJ p N P=> ?_) λm o a l p S T=> ?_
 .refine⟨(ĸ,ĸ),mK.G _ _ _,k.C x,λ_=>(gh.fT k.r.r).G x,λq=> ?_⟩;exact absurd q A
 .by_cases V:i=9
  .grind [aqY]
  .exact aqV (aqW D t u K m o a l i jJ p N V) (λN h q=>by let⟨x,_,q⟩:=q;exact q.1) P
 .exact aq7 B C F H I E J t u M m o a l p S T
def aa6(p:iD l)(r:mD l j n s v X)(I:B.size<=đ)(J:(iY B).1=0->iB (lP (iY B).2.2 s)+(iY B).2.2.length<=140737488355328) (t:∀z,iD z->Mk l z j n (lz s B).2.2 X->ja vQ z (G (f.at (y.put ((Q[i]?).bind (·.dst))<|ë #[Ä (lz s B).1,Å É (lz s B).2.1])<|Ð Q jJ::L) qX)): ja vQ l (G (è À 17 #[Ã<|Â ⟨j,0,Á⟩,Ä B] Ą)<|f.at y (Ð Q (i::jJ)::L)::qX):=by
 have hF:=trivial;rw[H2 [_,_] 37 Ł];simp only[ą,Ē,ě];conv in lk _ _=>whnf
 apply qB;apply gk (n:=20) p.r.r;iterate 8 w_go fC
 refine ï λ_ _=> ?_;refine zD (f:=36) (args:=#[Ä B]) U fW (by k_ne) p.r.r (λw=>by go_simp) (λw=>ô U ļ U U #[]) λw₁ m=> ?_;have C:=p.C m;refine fA.fj.lQ ?_<|aqA C.r C.q (Ì r.r.fv m.r) I Î _ _;rintro u g1 ⟨x,K,a,rfl,M⟩;have g:=kj.Br C x K;have h:∀b,l.O b->u.O b/\u.w.heap[b]?=l.w.heap[b]?:=λb q=>⟨x.O b q,(x.r.I b<|È q).trans<|m.I b<|È q⟩;have F:=Ì m.r x.r.r;rw[Ĝ];by_cases k:(iY B).1=0
 .have D:lz s B=(lN ⟨#[59]⟩<|lP (iY B).2.2 s,0,zC (iY B).2.2 s):=if_pos k;let⟨c,N,E⟩:=M k;have P:=J k;rw[D]at t;obtain⟨S,T⟩:=TL;rw[k];generalize(iY B).2.2=rs at*;generalize(iY B).2.1=at1 at*;walk_nrm;apply gk (n:=40) g.r.r;repeat w_go fC
  refine ï λ_ _=> ?_;refine .fB λo d=>⟨g.C d,U,?_⟩;have V:=g.C d;have e:∀b,l.O b->({u with w:=o}:fe).O b/\o.heap[b]?=l.w.heap[b]?:=λb q=>⟨(h b q).1,(d.I b<|È (h b q).1).trans (h b q).2⟩;have H:=Ì F d.r;have W:=r.S (λb q=>(e b q).1) (λb q=>(e b q).2) H;have Y:=N.r λb q=>d.I b<|È (E b q).1;have hQ3:=λb q=>(E b q).1;have TN:=λb q=>Ì m.r (E b q).2;exact arb r p.r W V Y hQ3 S T TN e H P U U U t
 .have D:lz s B=(⟨#[]⟩,(iY B).1,s):=if_neg k;rw[D]at t;have c:((iY B).1 !=0)=Î:=by rwa[bne_iff_ne]
  generalize(iY B).1=er at*;generalize(iY B).2.1=at1 at*;walk_nrm;apply gk (n:=40) g.r.r;repeat w_go fC
  u_in fC hF
  refine θ U U Ł U ⟨by u_nil,?_⟩;refine ï λ_ _=> ?_;refine .fB λo d=>⟨g.C d,U,t _ (g.C d) ?_⟩;have e:∀b,l.O b->({u with w:=o}:fe).O b/\o.heap[b]?=l.w.heap[b]?:=λb q=>⟨(h b q).1,(d.I b<|È (h b q).1).trans (h b q).2⟩;exact⟨λb q _=>e b q,v,X,r.S (λb q=>(e b q).1) (λb q=>(e b q).2)<|Ì F d.r,λb q=>È q⟩
end
def aa7(a:ByteArray)(c:a.size=1):∀b:List ByteArray,(lN a b).size<=iB b+b.length
 |[]=>Ø _
 |x::r=>by
  show(x.data.toList++oY a r).toArray.size<=_;have d:iB (x::r)=x.size+iB r:=by simp[iB]
  have e:x.data.toList.length=x.size:=by rw[ĝ];rfl
  simp only[ř,Ù,HG a c r,d,e,Đ];omega
def TP{M:Nat}(a:∀z∈vX,z.size<=M)(b:M<=100)(c:vX.length<=400000):(Ep vX).size<=100000000:=by
 unfold Ep;split
 .decide
 .have d:=aa7 ⟨#[44]⟩ U vX;have e:=El vX a;have:M*vX.length<=100*400000:=ű b c;omega
theorem EH(i:Nat):(oK i).size<=3:=by
 unfold oK pS;rw[ø];split
 .show 1+1<=3;decide
 .show 1+2<=3;decide
theorem aa8(s:iw.St)(x y:Nat)(k:Int):∀(m i:Nat),i+m<=1000->(sD s x y k i m).size<=20
 |0,i,_=>by unfold sD;decide
 |m+1,i,h=>by
  unfold sD;split
  .exact oX i Z
  .exact aa8 s x y k m (i+1) Z
theorem ard(s t:iw.St):(qA s t 8).length<=400000:=by
 unfold qA;have a:∀l:List Nat,(l.flatMap<|zj s t).length<=18*l.length:=λl=>by
  induction l with
  |nil=>simp
  |cons i l b=>
   rw[List.flatMap_cons,Ù,Đ];have:(zj s t i).length<=18:=by unfold zj;grind [Ù,LD,J_]
   omega
 grind
theorem arf{i:List (Nat×fK)}{q:Qn}(n:lE (kg i))(ok:q.Ok):(oC i q).size<=100000000:=by
 unfold oC;split
 .grind [EH]
 .rename_i p o;let⟨b,f,v,w⟩:=n.r _<|Ú.2 ⟨p,HA o,U⟩;have j:∀u,u<18446744073709551616->(gA u).size<=100000000:=λu r=>by have:=oX u r;omega
  unfold zm;split
  .have c:=f.C q.x q.I;exact j _ (by have:=c.1;have:=c.2;omega)
  .split
   .have c:=f.fw q.x;exact j _ (by have:=c.1;have:=c.2;omega)
   .split
    .split
     .grind [EH]
     .rename_i B;have l:gd (q.k:Int):=⟨Z,by have:=ok.k;omega⟩;have e:=La p.2.s [] q.x q.y q.g q.k f ok.x ok.y l Z Z (by simp;omega);unfold LN;have C:=e.r;have m:=e.M;have t:=e.I;simp at t;have D:=aa7 ⟨#[44]⟩ U<|[gA (gi p.2.s [] q.x q.y q.g q.k).C.toNat,gA (gi p.2.s [] q.x q.y q.g q.k).M.toNat,gA (gi p.2.s [] q.x q.y q.g q.k).r.toNat]++(gi p.2.s [] q.x q.y q.g q.k).I.map qy;have E:=El (M:=21) ([gA (gi p.2.s [] q.x q.y q.g q.k).C.toNat,gA (gi p.2.s [] q.x q.y q.g q.k).M.toNat,gA (gi p.2.s [] q.x q.y q.g q.k).r.toNat]++(gi p.2.s [] q.x q.y q.g q.k).I.map qy) λz d=>by
       rcases â.1 d with h|h
       .simp at h;rcases h with rfl|rfl|rfl
        .have:=oX (gi p.2.s [] q.x q.y q.g q.k).C.toNat (by cases(gi p.2.s [] q.x q.y q.g q.k).C<;>decide);omega
        .have:=oX (gi p.2.s [] q.x q.y q.g q.k).M.toNat (by have:=m.1;have:=m.2;omega);omega
        .grind [oX]
       .obtain⟨e,a,rfl⟩:=Ú.1 h;exact LL ((SG p.2.s [] q.x q.y q.g q.k f ok.x ok.y l Z Z (by simp;omega) λ_ q=>by cases q) e a).2
      grind
    .split
     .grind [aa8]
     .split
      .have:=S4<|D9 p.2.s;have:=T_<|16-(mN<|D9 p.2.s).size;unfold Eo;rw[ø];omega
      .split
       .exact TP (λz d=>by obtain⟨e,a,rfl⟩:=Ú.1 d;exact LL (b.C e a).2) Z<|by rw[ú];exact b.I
       .split
        .exact TP (λz d=>by obtain⟨e,a,rfl⟩:=Ú.1 d;exact Q_ (b.r e a).1 (b.r e a).2) Z (by rw[ú];have:=b.M;omega)
        .split
         .grind [EH]
         .exact TP (U_ _ _) Z<|ard _ _
theorem arh(a:List (Nat×fK))(v:Int)(x:Nat)(b:List Tx):(uh a v x b).2.size<=3:=by
 unfold uh;split
 .exact EH 3
 .split
  .exact EH 4
  .split
   .exact EH 5
   .show(pS a.length).size<=3;unfold pS;split
    .show 1<=3;decide
    .show 2<=3;decide
def ari{s:List fK}{i:Int×Nat×List Tx}(h:lE s)(a:∀t∈i.2.2,t.Ok)(b:i.2.2.length<=1000):lE (Et s i):= lE.M (by rwa[HO]) a b
def aa9{a:List PR}{s:List fK}(h:lE s)(b:∀r∈a,uy r):∀k,k<=(il (mC a) a.length).length->lE (oD (xy a) (il (mC a) a.length) s k)
 |0,_=>h
 |k+1,hk=>by
  have c:a.getD ((il (mC a) a.length).getD k 0) rI∈a:=ç (i:=(il (mC a) a.length).getD k 0) (by have q:=(GZ<|vk (l:=il (mC a) a.length)<|show k<_ from hk).1;generalize(il (mC a) a.length).getD k 0=j at q;simp[Ġ,q]);have q:=b _ c;refine ari (aa9 h b k Z) (λt d=> ?_) ?_
  .obtain⟨x,t,rfl⟩:=Ú.1 d;exact toTx_ok<|q.C x t
  .show((a.getD _ rI).r.map toTx).length<=1000;rw[ú];have:=q.n;omega
def QY(kd:Nat->Int):∀{p R:Nat},p<=R->fP kd p<=(il kd R).length:=λ{p R} h=>by
 show(il kd p).length<=(il kd R).length
 induction h with
 |refl=>exact æ _
 |@step R _ ih=>
  by_cases q:kd R=1
  .rw[Be q];simp;omega
  .rwa[Bf q]
theorem arj{a:List PR}{s:List fK}(h:lE s)(b:∀r∈a,uy r)(l:a.length<=24):iB (lP a s)+a.length<=2400000024:=by
 have d:=El (M:=100000000) (lP a s) λz c=>by
  unfold lP at c;obtain⟨p,e,rfl⟩:=Ú.1 c;have f:=Ŷ.1 e;have g:=aa9 h b (fP (mC a) p)<|QY _ Z;unfold vp;split
  .grind [Ì,arh]
  .rename_i j;have k:a.getD p rI∈a:=ç (i:=p) (by simp[Ġ,f]);exact arf (by rwa[HO])<|aa1 (b _ k) j
 rw[aa4]at d;omega
def abb{s:List fK}(h:lE s):iB (lP (iY B).2.2 s)+(iY B).2.2.length<=140737488355328:=Ì (arj h TL.1 TL.2) A
def Ie(c:Int):Int:=if c<0 then(-(c+1))%8 else c%8
def ark(c:Int)(b:-9223372036854775808<=c)(d:c<=9223372036854775807)(w:Í):Ò À 30 #[Å É c,Å É 8] w λe a=>e=Ç (Å É<|Ie c)/\a=w:=by
 unfold Ie;by_cases h:c<0
 .rw[if_pos h];have e:-(c+1).tmod 8=(-(c+1))%8:=by rw[<-Int.neg_tmod,Int.tmod_eq_emod_of_nonneg Z]
  have H:=ff e.symm;clear e;go_enter ŧ,Ο;go_wp2;go_ret;exact⟨by rw[H.out];rfl,U⟩
 .rw[if_neg h];go_enter ŧ,Ο;go_wp2;go_ret;exact⟨U,U⟩
def abd(a:ù)(w:Í):Sem.events À (binOp BinOp.eql 26 (Ã<|Â a)<|Ã Á) w #[]=#[]:=fu
theorem abe{l:fe}(a:iD l)(p:nB<=l.w.heap.size){f:Ρ}{args:Array Ñ}{r:Ñ}(m:DK f=Î)(s:∀v∈args.toList,fl (pK (λ_=>False) À.globals.size) v v)(t:∀{Y v},fl Y r v->v=r)(x:∀w,Ò À f args w λe y=>e=Ç r/\y=w)(n:Bool)(c:Ĕ)(i:List Ĕ): fA.fj À n (λk o=>kj l k/\k.d=l.d/\o=G (c.finish r) i) l (G (è À f args Ą)<|c::i):=by
 let⟨E,F,z,B⟩:=yN f m;have C:∀T,Ò À f args (World.tp (kT (λj=>False/\¬(lU l).O j) l.w) T 0) fun|Ç v,j=>v=r/\j0 j|_,_=>False:=λT=>by refine(x _).mono ?_;grind [Es]
 refine((Dy xH KW yN (λv u T D h=>h) m z B (Dz a.r) a.q (λb q=>q.elim) ⟨λb q=>q.elim,p⟩ (λg q=>by cases q) (o5 s) C n c i).lU a.r).fN ?_;rintro k o ⟨D,⟨Y,j,v,H,_,_,g,rfl,b,_,_,h⟩,rfl,u,_,_,_⟩;rw[t g]at b;exact⟨u,h,b⟩
def TQ:ByteArray:=⟨#[98,48,58,97,59,98,48,58,104,59,117,48,59,98,49,58,97]⟩
def arl:(lz [iw.mM] TQ).1=⟨#[49,48,48,48,59,49,48,48,48,59,45,59,33,51]⟩:=fu
def arn:(lz [iw.mM] TQ).2=(0,[iw.mM]):=fu
structure aro(l l':fe)(ab n:Nat)(sl:Ñ)(V:Nat->Prop):Prop where
 r:mD l' ab n [iw.mM] sl V
 C:∀b,l.O b->l'.O b/\l'.w.heap[b]?=l.w.heap[b]?
 I:l.w.heap.size<=ab
 M:∀b,V b->(b=1\/b=2\/b=3\/b=4)\/l.w.heap.size<=b
section
variable{l:fe}
def abf{J:Jd}{s:List fK}(c:iD l)(d:mD l j n s z X)(g:fA.fj À Î J l (G (f.at (y.put ((Q[i]?).bind (·.dst))<|Å É s.length)<|Ð Q jJ::L) qX)): fA.fj À Î J l (G (è À 22 #[Ã<|Â ⟨j,0,Á⟩] Ą)<|f.at y (Ð Q (i::jJ)::L)::qX):=by
 have hF:True:=trivial;obtain⟨a,b,rfl⟩:∃a b,z=Æ a s.length b:=by
  let⟨o,h,_,⟨a,k,b,e,_,m⟩,_⟩:=d.I;have:k=s.length:=by rw[m.r,<-h];simp[kg]
  exact⟨a,b,by rw[e,this]⟩
 have o:s.length<=40:=by let⟨_,_,e,_⟩:=d.I;exact e.C
 let⟨p,k,_⟩:=d.a;have m:l.w.cell? ⟨j,1,Á⟩=Â (Æ a s.length b):=by simp[ß,k]
 rw[H2 [_] 7 Ũ];simp only[ą,Ē,ě];conv in lk _ _=>whnf
 refine gk (n:=20) c.r.r ?_;repeat w_go fC
 refine ï λ_ _=> ?_;refine nW (x:=⟨j,1,Á⟩) (v:=Æ a s.length b) U fW (by k_ne) c.r.r c.q (È<|È d.fq) m (λw h=>by go_simp) (λw h=>by simp[go_sem,h]) ?_;walk_nrm;refine gk (n:=20) c.r.r ?_;repeat w_go fC
 u_in fC hF
 refine Ŧ (t:=2) U U Ũ U ⟨by u_nil,?_⟩;refine ï λ_ _=> ?_;exact g
def arp(j:iD l)(p:np l.w)(I:∀b,b=1\/b=2\/b=3\/b=4->l.O b)(c:Int)(s6:-9223372036854775808<=c)(zv:c<=9223372036854775807) (hJ:∀J a n K V,iD J->aro l J a n K V->ja vQ J (G (f.at (y.put ((Q[i]?).bind (·.dst))<|Ã<|Â ⟨a,0,Á⟩)<|Ð Q jJ::L) qX)): ja vQ l (G (è À 15 #[Å É c] Ą)<|f.at y (Ð Q (i::jJ)::L)::qX):=by
 have hF:True:=trivial;rw[H2 [_] 36 ι];simp only[ą,Ē,ě];conv in lk _ _=>whnf
 apply qB;apply gk (n:=20) j.r.r;repeat w_go fC
 refine ï λ_ _=> ?_;refine zD (f:=30) (args:=#[Å É c,Å É 8]) U fW (by k_ne) j.r.r (λw=>by go_simp) (λw=>ô U ŧ U U #[]) λw₁ r=> ?_;have T:=j.C r;refine fA.fj.lQ ?_ (abe T (Ì p.fv r.r) fW (λv h=>by simp at h;rcases h with rfl|rfl<;>exact .iF _ _) (λh=>by cases h;rfl) (ark c s6 zv) Î _ _);rintro s g1 ⟨u,hd,rfl⟩;obtain⟨z,hz,Hg,Dv⟩:∃z,Ie c=z/\0<=z/\z<8:=⟨_,U,by unfold Ie;split<;>omega,by unfold Ie;split<;>omega⟩;rw[hz];have M:iD s:=kj.Br T u hd;have x:∀b,l.O b->s.O b/\s.w.heap[b]?=l.w.heap[b]?:=λb q=>⟨u.O b q,(u.r.I b<|È q).trans<|r.I b<|È q⟩;have B:l.w.heap.size<=s.w.heap.size:=Ì r.r u.r.r;rw[Ĝ];walk_nrm;refine gk (n:=20) M.r.r ?_;repeat w_go fC
 refine ï λ_ _=> ?_;have ov:É.wrap (1+z)=1+z:=Ļ _ ⟨Z,Z⟩;refine zD (f:=35) (args:=#[Å É<|1+z]) U fW (by k_ne) M.r.r (λw=>by go_simp) (λw=>ô U ζ U U #[]) λzV h=> ?_;have N:=M.C h;obtain⟨n,hn⟩:∃n:Nat,1+z=n:=⟨(1+z).toNat,Z⟩;rw[hn];refine fA.fj.lQ ?_<|aqG N.r N.q (Ì (Ì p.fv B) h.r) (n:=(n:Int)) Z Z Î _ _;rintro d g3 ⟨C,wF,a,K,rfl,ml,Mm,hab,V,qo,hnV,W⟩;have g:iD d:=kj.Br N C wF;have k:∀b,l.O b->d.O b/\d.w.heap[b]?=l.w.heap[b]?:=λb q=>⟨C.O b (x b q).1,(C.r.I b<|È (x b q).1).trans<|(h.I b<|È (x b q).1).trans (x b q).2⟩;have X:l.w.heap.size<=d.w.heap.size:=Ì B<|Ì h.r C.r.r;have arq:l.w.heap.size<=a:=Ì B<|Ì h.r hab;have ars:∀b,b=1\/b=2\/b=3\/b=4->b<l.w.heap.size:=λb q=>j.r.fv b<|È<|I b q;have hin:mD d a n [iw.mM] K V:=⟨p.r (Ì p.fv X) λb q=>(k b<|I b q).2,λb q=>(k b<|I b q).1,ml,Mm,qo,λb q=>(W b q).1,hnV,Z,Z,λq=>by have:=ars a q;omega⟩;have hVn:∀b,V b->l.w.heap.size<=b:=λb q=>Ì B<|Ì h.r (W b q).2;rw[Ĝ];walk_nrm;apply gk (n:=60) g.r.r;repeat w_go fC
 refine ï λ_ _=> ?_;apply tH (v:=õ Ë) U fW (by k_ne) g.r.r g.q (λw _=>by go_simp) (λw _ e m=>by simp[go_sem,abd]at m);walk_nrm;apply gk (n:=60) g.r.r;repeat w_go fC
 refine ï λ_ _=> ?_;refine .fB λY m=>⟨g.C m,U,?_⟩;have tL:=g.C m;have aru:=hin.N m;have P:∀b,l.O b->({d with w:=Y}:fe).O b/\Y.heap[b]?=l.w.heap[b]?:=λb q=>⟨(k b q).1,(m.I b<|È (k b q).1).trans (k b q).2⟩;refine H3 (f:=17) (args:=#[Ã<|Â ⟨a,0,Á⟩,Ä ⟨#[98,48,58,97,59,98,48,58,104,59,117,48,59,98,49,58,97]⟩]) tL U fW (by k_ne) (λw=>by go_simp) (λw=>ô U Ł U U #[]) λTR D=> ?_;change ja vQ _ (G (è À 17 #[Ã<|Â ⟨a,0,Á⟩,Ä TQ] Ą) _);refine aa6 (tL.C D) (aru.N D) A (λ_=>abb aaY) λl6 E abg=> ?_;rw[arn]at abg|-;rw[arl];let⟨JB,sl6,V6,abh,hV6⟩:=abg;have lb:∀b,l.O b->b≠a:=λb q e=>by have:=j.r.fv b<|È q;omega
 have F:∀b,l.O b->l6.O b/\l6.w.heap[b]?=l.w.heap[b]?:=λb q=>by let⟨o,H⟩:=JB b (P b q).1<|lb b q;exact⟨o,H.trans<|(D.I b<|È (P b q).1).trans (P b q).2⟩
 have hV7:∀b,V6 b->(b=1\/b=2\/b=3\/b=4)\/l.w.heap.size<=b:=λb q=>by
  rcases hV6 b q with z|z|z
  .exact Ï<|hVn b z
  .exact È z
  .exact Ï<|Ì X<|Ì (Ì m.r D.r) z
 walk_nrm;apply qB;apply gk (n:=60) E.r.r;repeat w_go fC
 refine ï λ_ _=> ?_;refine zD (f:=22) (args:=#[Ã<|Â ⟨a,0,Á⟩]) U fW (by k_ne) E.r.r (λw=>by go_simp) (λw=>ô U Ũ U U #[]) λGD o=> ?_;apply abf (E.C o) (abh.N o);have S:=E.C o;have arv:=abh.N o;walk_nrm;apply gk (n:=60) S.r.r;repeat w_go fC
 u_in fC hF
 refine Ŧ (t:=2) U U ι U ⟨by u_nil,?_⟩;refine ï λ_ _=> ?_;exact .fB λatd H=>⟨S.C H,U,hJ _ a n sl6 V6 (S.C H) ⟨arv.N H,λb q=>⟨(F b q).1,(H.I b<|È (F b q).1).trans<|(o.I b<|È (F b q).1).trans (F b q).2⟩,arq,hV7⟩⟩
end
def xB(l:fe)(c:Option ù)(N:Nat)(f:Nat->ByteArray):Prop:=∀j,j<N->(f j).size<=đ/\∃a b,c=Â ⟨a,b,Á⟩/\l.O a/\l.w.cell? ⟨a,b+j,Á⟩=Â (Ä<|f j)
def xB.r{l a:fe}{d:Option ù}{N:Nat}{f:Nat->ByteArray}(h:xB l d N f)(k:∀b,l.O b->a.O b/\a.w.heap[b]?=l.w.heap[b]?):xB a d N f:=λj g=>by let⟨i,c,m,n,e,o⟩:=h j g;exact⟨i,c,m,n,(k c e).1,zx (k c e).2 o⟩
def arw{t:Tmp}(d:f.kind=Ą)(e:y.defers=[])(g:P.funcs[f.fn]?=Â s)(c:s.results=#[.tmp t])(h:P.inits.idxOf? f.fn=Á):stepG P Î (G {f.at y L with mode:=.returning} []) w=.ended (.done<|y.tmps.getD t ĸ) w:=by have i:=results_tmp c y.tmps P w;have j:=events_results_tmp (P:=P) (w:=w) c y.tmps;simp[G,stepG,unwind,doReturn,Frame.at,d,e,g,i,j,h,seen,GStep.after]
def arx{l:fe}(e:ja vQ l g)(a:iD l)(c:g.status=.running):rH vQ #[g] l.w Á #[]:=e a c (λ_=>False) 0 _ _ _ _ Á _ ⟨λx q=>q.elim,λ_ _ _ _ q=>q,Ø _⟩ (aqI (P:=À) (J:=λ_ _=>True) (T:=.fB) U a.d a.q a.N a.I a.M a.k (λb q=>a.r.fv b<|È q) c λ_ _=>trivial) a.d U
def Mn(W:Í):fe:={O:=λb=>b<W.heap.size,I:=λ_=>False,r:=λ_=>False,N:=λ_=>False,K:=λ_=>False,d:=0,q:=False,w:=W}
def abj(W:Í):iD (Mn W):= ⟨⟨λ_ _=>id,λ_ q=>q.elim,λ_ q=>q.elim (λz=>z.elim) λz=>z.elim,λ_ q=>q.elim id λz=>z.elim,λ_ q=>q.elim (λz=>z.elim) λz=>z.elim,λ_ q=>q.elim⟩,U,id,λ_=>id,λ_=>id,λ_=>id,λ_=>id⟩
structure ny(W w':Í):Prop where
 qK:∀b,b<W.heap.size->w'.heap[b]?=W.heap[b]?
 Cx:W.heap.size<=w'.heap.size
def arz(g:np W):∀b,b=1\/b=2\/b=3\/b=4->b<W.heap.size:=λb q=>by let⟨c,a,h,_⟩:=g.C;have:=(á.1 h).1;omega
def arA:À.cellsOf 9=1:=fu
theorem arB(b a n:Nat):(⟨b,a,Á⟩:ù).add n=⟨b,a+n,Á⟩:=by unfold Addr.add;grind
theorem arC(h:w.cell? a=Â v):a.spot=Á/\a.block<w.heap.size:=by
 unfold ß at h;split at h
 .rename_i c t f e;constructor
  .simp_all
  .grind
 .cases h
open Go.ChangeShapes Go.WideShapes Go.ChangeAt Go.Deep in
theorem arD{H:Type}{enc:TypeId×Value->H}{x:DataW H×List MemPlace} (h:DataW.trod enc À W 0 (λ_=>Î) Î k 25 [Æ O J j9]=Â x):J<=đ/\∃f,xB (Mn W) O J f:=by
 rcases open_slice Č h with⟨d,_⟩|⟨a,r,t,m,n,D,B,d,_,C,E,u,_,v⟩
 .have e:Æ O J j9=Æ Á 0 0:=by simpa using d
  cases e;exact⟨Ø _,λ_=>⟨#[]⟩,λj l=>by omega⟩
 have e:Æ O J j9=Æ (Â a) r t:=by simpa using d
 cases e;have F:m=j9:=by rw[u];rfl
 have w:∀i,∃s:ByteArray,i<J->W.cell? (a.add i)=Â (Ä s)/\s.size<=đ:=by
  intro i;by_cases b:i<J
  .let⟨y,c,g⟩:=v i Z;rw[arA]at c;let⟨_,z,q⟩:=World.cells?_some c;let⟨s,p,_,G⟩:=DataW.trod_string Tryz.underlying9 g;subst p;have o:=q 0 fp;have I:(a.add i).add 0=a.add i:=rfl;grind
  .exact⟨⟨#[]⟩,λq=>absurd q b⟩
 let⟨f,q⟩:=Classical.axiomOfChoice w;refine⟨Z,f,λj l=> ?_⟩;let⟨c,g⟩:=q j l;let⟨o,_⟩:=q 0 Z;let⟨G,y⟩:=arC o;let⟨b,p,sp⟩:=a;have z:sp=Á:=by have:((⟨b,p,sp⟩:ù).add 0).spot=sp:=rfl;grind
 subst z;rw[arB]at c;exact⟨g,b,p,U,y,c⟩
end Go.Proofs.Y.me
