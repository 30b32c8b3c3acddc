import Derived.Test.YtgpphkdoanciiaaGreatDoorWAD
import Derived.Lib.Bytealg
import Derived.WalkKit
import Derived.WalkSpells
import Derived.WalkLawsBesides
import Derived.Deep.Light
import Derived.WalkMore
import Derived.Deep.QuietTactic
import Derived.BigQuiet
import Derived.Conc.LeavingOf
import Derived.Conc.CrowdStepC
import Derived.Listen
import Derived.ProofKit
import Derived.Deep.Slices
set_option linter.all false
set_option maxRecDepth 1000000
set_option maxHeartbeats 8000000
open Go.Proofs.Tryz renaming prog->À,ntmps67->í,func67->ó,zeroCells292->ú,ntmps100->û,func100->Ā,func38->ē,results45->Ģ,underlying25->ĩ,func36->ļ,results36->Ľ,func17->Ł,ntmps160->Ŋ,ntmps147->ŋ,ntmps38->Ŏ,func160->Œ,func147->Ŗ,ntmps95->ŗ,ntmps36->Ř,func95->ť,func30->ŧ,func22->Ũ,ntmps123->Ÿ,ntmps101->ż,func123->Δ,func101->Κ,ntmps96->Μ,ntmps45->Ν,ntmps30->Ο,func96->Ω,func45->ε,func35->ζ,func37->η,func15->ι,f38->ai
open Option renaming none->Á,some->Â,bind_eq_some_iff->Ü,bind_eq_bind->ê,map->ð,map_eq_some_iff->ò,isSome_none->ö,pure_def->ā,map_some->Ă,bind_some->ş
open Go.Value renaming pointer->Ã,string->Ä,int->Å,slice->Ç,tuple->ë,bool->õ,cells->Ĺ
open Go.Ending renaming returned->Æ
open Or renaming inl->È,inr->Ï
open Go.IntKind renaming i64->É,u64->ã,wrap_u64->Ć,wrap_i64->ŝ,u8->ū
open And renaming intro->Ê
open Bool renaming false->Ë,true->Î,false_eq_true->ì,eq_iff_iff->Ę
open Nat renaming le_trans->Ì,zero_le->Ø,le_refl->æ,lt_of_lt_of_le->Ġ,eq_zero_or_pos->ģ,zero_add->œ,mul_le_mul->ű
open Go renaming World->Í,Value->Ñ,Calls->Ò,Addr->ü,bodyPost_ret->ÿ,Act->Ĉ,Goroutine->Ċ,TypeId->č,Frame->Ē,Oper->ĝ,TypeInfo->ħ,maxLen->ī,undef->ĸ,results->Ń,execOp->ś,runNT_fst->Ţ,run_underlying->Ů,info_parts->ů,heap_alloc_new->Ŵ,Tape->ŷ,Trace->Ž,runNT->ſ,mem_ready->Β,wp_loop->Γ,wpList_plain->Ε,yielded->Ι,cell_one_new->Λ,FuncId->Ρ,Code->Τ,storeCells->ν,resolve->ρ,builtin->ς,Program->ω,invoke->ar
open Go.Item renaming inRegion->Ð,code->ax
open List renaming getElem?_eq_getElem->Ó,getElem?_eq_some_iff->Õ,length_append->Ù,mem_map->Ú,eq_nil_of_length_eq_zero->Ý,mem_append->â,mem_of_getElem?->ç,setIfInBounds_toArray->é,length_map->ù,set_cons_zero->ý,set_cons_succ->þ,replicate->ą,length_cons->ď,cons_append->Đ,mem_cons_of_mem->Ĕ,getElem?_of_mem->ĕ,append_nil->Ė,nil_append->ę,getElem_of_mem->Ĝ,getD->Ğ,getElem?_append_right->ğ,getElem?_append_left->Ĥ,extract_eq_take_drop->ĥ,mem_or_eq_of_mem_set->Ħ,take_add_one->Ĩ,getElem?_map->Ī,all_eq_true->ĭ,range->ĳ,set_append_right->Ĵ,length_pos_iff->Ņ,map_cons->ŉ,mem_singleton->ō,map_nil->Ő,append_assoc->ő,ext_getElem?->Ŕ,size_toArray->ř,length_take->Ś,map_toArray->Ŝ,mem_flatMap->Ş,length_nil->ũ,mem_range->Ŷ
open Option.some renaming injEq->Ô,inj->ag
open Go.Lib renaming byteCells->Ö,indexByte->Þ,strCells->į,hasPrefix->ź,TabIs->χ
open Go.Obj renaming cells->Û
open Go.Code renaming wp->ß,wp_mono->İ,loop->ń,skip->aj
open Go.World renaming cell?->à,setCell->Ż,drew->ξ,var?->ο
open Array renaming getElem?_eq_some_iff->á,getElem?_eq_getElem->å,mem_toList_iff->î,getElem_mem->ă,length_toList->ě,size_setIfInBounds->Ĭ,getElem?_eq_none->ı,mem_of_getElem?->ĵ,getElem?_modify->Ķ,getElem?_toList->ķ,toList_extract->ĺ,replicate->Ū
open Go.Region renaming ready->ä,wanted->đ,Mode->Ŀ
open Go.Frame renaming enter->è,finish_at->Ě
open Go.Conc.Goes renaming stop->ï
open Go.Ground renaming phase->ñ,data->ĉ
open Go.Conc renaming events_call_body->ô,crowd->Į,goes_leave1->Ŧ,Good->Ξ,goes_leave2->θ,listed->ay
open ByteArray renaming size_append->ø,getElem_eq_getElem_data->ċ,size_extract->Č,data_extract->Ĳ,size->ŭ,data->Ű,extract->σ,mk->aB
open Go.CallKind renaming normal->Ą
open Go.Region.linearise renaming go->ć
open Go.Great renaming wpList_runTo->Ď
open Go.Builtin renaming append_->ė,firstCells->Ō,lenOf->Ź,append->κ,zeroCells->φ
open Go.RowKit.Below renaming heap_setCell->ġ,heap_alloc->Š
open Go.IntWalk renaming i64_in->Ļ,i64_left->š
open Go.Made renaming word->ł,reckonStruct->ŕ,infoAt->ţ,mostCells->Ų,reckon->Χ
open Int renaming toNat_of_nonneg->ņ,le_refl->Ť
open Go.Operand renaming tmp->ň
open Go.Result renaming andThen_ok->ŏ,andThen->ų
variable{i n j b k m J j9 j7 j6:Nat}{w u W jX:Í}{v x z jQ:Ñ}{g:Ċ}{a p:ü}{h c:Int}{e t T:č}{d q:Array Ñ}{P:ω}{y:Ĉ}{B:ByteArray}{X:Nat->Prop}{O:Option ü}{l:List Ñ}{yQ:Bool}{K H:Ĉ->Í->Prop}{o:ĝ}{D:Nat->Nat}{E:Array Ċ}{L:List Go.Item}{jJ:List Nat}{qX:List Ē}{qJ:Ž}{zX:Go.Loc->Prop}{zQ:List Int}{zJ:ħ}{xQ:ŷ}{xJ:Nat×Nat}{vX:List ByteArray}{vQ:Ñ->Í->Prop}{vJ:Go.Exit->Ĉ->Í->Prop}{Q:Array ĝ}{f:Ē}{F:Ρ}{s:Go.Func}
namespace Go.Proofs.Y.gd
open Go Go.Proofs Go.RowKit Go.Proofs.Y.Lift
def CJ:Τ->Option Τ
 |ń c=>Â c
 |.seq a b=>match CJ b with
  |some c=>Â c
  |none=>CJ a
 |.block _ c=>CJ c
 |.scope c=>CJ c
 |.cond _ a b=>match CJ b with
  |some c=>Â c
  |none=>CJ a
 |_=>Á
noncomputable def MZ:Τ:=(ai.body.bind ky).getD aj
noncomputable def M0:Τ:=(ai.body.bind CJ).getD aj
def QE(k:Nat)(X:Ĉ->Í->Prop):Exit->Ĉ->Í->Prop
 |.exit i,a,w=>i=k/\X a w
 |_,_,_=>False
def kz(a:ByteArray)(b:List ByteArray):List UInt8:=b.flatMap λy=>a.data.toList++y.data.toList
def I0(a:ByteArray):List ByteArray->List UInt8
 |[]=>[]
 |x::r=>x.data.toList++kz a r
def iO(xs:List ByteArray):Nat:=(xs.map ŭ).sum
def Uu(a b:List ByteArray):iO (a++b)=iO a+iO b:=by simp[iO]
def aa5(a:List ByteArray)(j:Nat):iO (a.take j)<=iO a:=by have h:=Uu (a.take j)<|a.drop j;simp_all
theorem M1(a:ByteArray)(c:a.size=1):∀b:List ByteArray,(kz a b).length=iO b+b.length
 |[]=>rfl
 |x::r=>by
  have e:kz a (x::r)=(a.data.toList++x.data.toList)++kz a r:=U;have d:a.data.toList.length=1:=by simpa using c
  have f:x.data.toList.length=x.size:=fl
  have g:iO (x::r)=x.size+iO r:=by simp[iO]
  rw[e,Ù,Ù,M1 a c r,d,f,g,ď];omega
def Fi(a:Option ü)(n b:Nat)(c:ByteArray)(m i:Int)(u:Nat->Ñ):Ĉ:=⟨#[Ç a n b,Ä c,u 2,u 3,u 4,Å É m,u 6,u 7,u 8,u 9,u 10,u 11,u 12,u 13,u 14,u 15,u 16,u 17,u 18,u 19,u 20,u 21,u 22,u 23,u 24,u 25,u 26,u 27,u 28,u 29,u 30,u 31,u 32,u 33,u 34,u 35,u 36,u 37,u 38,Ç a n b,Å É n,Å É i,u 42,u 43,u 44,u 45,u 46,u 47,u 48,u 49,u 50,u 51,u 52,u 53,u 54,u 55,u 56,u 57,u 58,u 59,u 60,u 61,u 62,u 63,u 64,u 65,u 66,u 67,u 68,u 69,u 70,u 71,u 72,u 73,u 74],[]⟩
def Fj(b:Option ü)(n c:Nat)(d:ByteArray)(m i:Int)(a:Ĉ):Prop:=∃u,a=Fi b n c d m i u
def qR(a:Option ü)(n c b:Nat)(d:ByteArray)(i:Int)(u:Nat->Ñ):Ĉ:=⟨#[u 0,Ä d,u 2,u 3,u 4,u 5,u 6,u 7,Ã<|Â ⟨b,0,Á⟩,u 9,u 10,u 11,u 12,u 13,u 14,u 15,u 16,u 17,u 18,u 19,u 20,u 21,u 22,u 23,u 24,u 25,u 26,u 27,u 28,u 29,u 30,u 31,u 32,u 33,u 34,u 35,u 36,u 37,u 38,u 39,u 40,u 41,u 42,u 43,u 44,u 45,u 46,u 47,u 48,u 49,u 50,u 51,u 52,u 53,u 54,u 55,u 56,u 57,u 58,u 59,u 60,u 61,u 62,Ç a n c,Å É n,Å É i,u 66,u 67,u 68,u 69,u 70,u 71,u 72,u 73,u 74],[]⟩
def Fl(c:Option ü)(n d b:Nat)(e:ByteArray)(i:Int)(a:Ĉ):Prop:=∃u,a=qR c n d b e i u
section
variable{X:Ĉ->Í->Prop}{sep:ByteArray}{xs:List ByteArray}
def apM(u:Nat->Ñ)(m:Int)(b:∀a,Fj O n i sep m n a->X a w): ß À MZ (Exit.then K<|QE 1 X) (Fi O n i sep m n u) w:=by
 unfold Fi;conv=>arg 2;whnf
 go_wp2_with fail
 exact⟨U,b _ (gp _)⟩
def apN(u:Nat->Ñ)(m j:Nat)(f:j<n)(g:n<=1000000)(b c:Nat)(e:O=Â ⟨b,c,Á⟩)(x:ByteArray)(h:w.cell? ⟨b,c+j,Á⟩=Â (Ä x))(k:m+x.size<=140737488355328) (d:∀a,Fj O n i sep ((m+x.size:Nat):Int) ((j+1:Nat):Int) a->K a w): ß À MZ (Exit.then K<|QE 1 X) (Fi O n i sep m j u) w:=by
 unfold Fi;conv=>arg 2;whnf
 subst e;have H:=fe d;clear d;go_wp2_with fail;exact H.out _ (gp _)
def J1(O:Option ü)(n i:Nat)(sep:ByteArray)(b:Nat)(xs:List ByteArray)(u:Í)(a:Ĉ)(w:Í):Prop:=
 ∃j:Nat,Fj O n i sep ((b+iO (xs.take j):Nat):Int) j a/\j<=n/\w=u
def J1E(O:Option ü)(n i:Nat)(sep:ByteArray)(b:Nat)(xs:List ByteArray)(u:Í)(a:Ĉ)(w:Í):Prop:=
 Fj O n i sep ((b+iO xs:Nat):Int) n a/\w=u
def M3(n:Nat)(a:Ĉ)(_:Í):Nat:=match a.tmps.getD 41 ĸ with
 |Å _ i=>n-i.toNat
 |_=>0
def aa6(b:Fj O n i sep h j y):M3 n y w=n-j:=by obtain⟨u,rfl⟩:=b;show n-(j:Int).toNat=_;simp
theorem apO(r:n=xs.length)(f:n<=1000000)(g:nK O (jm xs) u)(s:j+iO xs<=140737488355328)(a:Ĉ)(w:Í)(h:J1 O n i sep j xs u a w): ß À MZ (Exit.then (λb c=>J1 O n i sep j xs u b c/\M3 n b c<M3 n a w)<|QE 1<|J1E O n i sep j xs u) a w:=by
 obtain⟨b,d,t,rfl⟩:=h;rw[aa6 d];obtain⟨c,rfl⟩:=d;by_cases k:b=n
 .subst k;refine apM c _ λa q=>⟨?_,U⟩;grind
 .obtain⟨x,e⟩:∃x,xs[b]?=Â x:=⟨_,Ó Z⟩;let⟨l,m,o,p⟩:=g b (Ä x) (by simp[jm,e]);have v:iO (xs.take<|b+1)=iO (xs.take b)+x.size:=by
   rw[Ĩ,e,Uu];simp[iO]
  have y:=aa5 xs<|b+1;refine apN c _ b Z f l m o x p Z λa q=>⟨⟨b+1,?_,Z,U⟩,by rw[aa6 q];omega⟩;grind
def apP(u:Nat->Ñ)(c:∀a,Fl O n i b sep n a->X a w): ß À M0 (Exit.then K<|QE 3 X) (qR O n i b sep n u) w:=by
 unfold qR;conv=>arg 2;whnf
 go_wp2_with fail
 exact⟨U,c _ (gp _)⟩
def apQ(c:Nat->Ñ)(j:Nat)(y:j<n)(z:n<=1000000)(d f:Nat)(o:O=Â ⟨d,f,Á⟩)(x:ByteArray)(p:u.cell? ⟨d,f+j,Á⟩=Â (Ä x))(l:List UInt8)(g:o7 u b (Ö l) w)(q:sep.size=1)(B:l.length+1+x.size<=140737488355328) (r:∀a h,Fl O n i b sep ((j+1:Nat):Int) a->o7 u b (Ö<|l++(sep.data.toList++x.data.toList)) h->K a h): ß À M0 (Exit.then K<|QE 3 X) (qR O n i b sep j c) w:=by
 unfold qR;conv=>arg 2;whnf
 subst o;have C:=g.r.r p id;have k:=Lib.byteCells_length l;have s:(Ö l++į sep).length=l.length+1:=by rw[Ù,k,Lib.strCells_length,q]
 have E:Ö l++į sep++į x=Ö (l++(sep.data.toList++x.data.toList)):=by simp[Ö,į]
 have H:=fe<|Ê g<|Ê r<|Ê k<|Ê s E;go_wp2_with (first
  |(go_at_call 55;refine(Ut t.out x<|by rw[H.out.2.2.2.1];omega).mono ?_;rintro e D ⟨rfl,m⟩;have v:=fe m;clear m)
  |(go_at_call 55;refine(Ut H.out.1 sep (by rw[H.out.2.2.1];omega)).mono ?_;rintro e D ⟨rfl,m⟩;have t:=fe m;clear m))
 apply H.out.2.1 _ _ (gp _);rw[<-H.out.2.2.2.2];exact v.out
def J2(O:Option ü)(n i b:Nat)(sep:ByteArray)(c:List UInt8)(xs:List ByteArray)(u:Í)(a:Ĉ)(w:Í):Prop:=
 ∃j:Nat,Fl O n i b sep j a/\j<=n/\o7 u b (Ö<|c++kz sep (xs.take j)) w
def J2E(O:Option ü)(n i b:Nat)(sep:ByteArray)(c:List UInt8)(xs:List ByteArray)(u:Í)(a:Ĉ)(w:Í):Prop:=
 Fl O n i b sep n a/\o7 u b (Ö<|c++kz sep xs) w
def M4(n:Nat)(a:Ĉ)(_:Í):Nat:=match a.tmps.getD 65 ĸ with
 |Å _ i=>n-i.toNat
 |_=>0
def aa7(c:Fl O n i b sep j y):M4 n y w=n-j:=by obtain⟨u,rfl⟩:=c;show n-(j:Int).toNat=_;simp
theorem apR{d:List UInt8}(z:n=xs.length)(h:n<=1000000)(k:sep.size=1)(l:nK O (jm xs) u)(B:d.length+iO xs+n<=140737488355328)(a:Ĉ)(w:Í)(m:J2 O n i b sep d xs u a w): ß À M0 (Exit.then (λc e=>J2 O n i b sep d xs u c e/\M4 n c e<M4 n a w)<|QE 3<|J2E O n i b sep d xs u) a w:=by
 let⟨j,g,C,o⟩:=m;rw[aa7 g];obtain⟨c,rfl⟩:=g;by_cases p:j=n
 .subst p;refine apP c λa q=>⟨q,?_⟩;grind
 .obtain⟨x,f⟩:∃x,xs[j]?=Â x:=⟨_,Ó Z⟩;let⟨r,s,t,v⟩:=l j (Ä x) (by simp[jm,f]);have D:iO (xs.take<|j+1)=iO (xs.take j)+x.size:=by
   rw[Ĩ,f,Uu];simp[iO]
  have E:=aa5 xs<|j+1;have y:(d++kz sep (xs.take j)).length=d.length+iO (xs.take j)+j:=by grind [Ù,M1,Ś]
  have F:kz sep (xs.take<|j+1)=kz sep (xs.take j)++(sep.data.toList++x.data.toList):=by rw[Ĩ,f];simp[kz]
  refine apQ c j Z h r s t x v _ o k (by rw[y];omega) λa e q G=>⟨⟨j+1,q,Z,?_⟩,by rw[aa7 q];omega⟩;grind
end
section
variable{sep:ByteArray}{xs:List ByteArray}
def ja(sep:ByteArray)(xs:List ByteArray):ByteArray:=⟨(I0 sep xs).toArray⟩
def apS:Ò À 38 #[Ç O 0 i,Ä sep] w λe a=>e=Æ (Ä ⟨#[]⟩)/\e9 fg w a:=by go_enter ē,Ŏ;go_wp2_with fail;go_ret;exact⟨U,e9.fX _ _⟩
def apT(a b:Nat)(x:ByteArray)(d:w.cell? ⟨a,b,Á⟩=Â (Ä x)):Ò À 38 #[Ç (Â ⟨a,b,Á⟩) 1 i,Ä sep] w λe c=>e=Æ (Ä x)/\e9 fg w c:=by go_enter ē,Ŏ;go_wp2_with fail;go_ret;exact⟨U,e9.fX _ _⟩
theorem apU(k:Nat)(K:1<=k)(L:k<1000000)(c d:Nat)(M:k+1<=i)(B:sep.size=1)(x:ByteArray)(g:k=xs.length)(f:nK (Â ⟨c,d,Á⟩) (jm<|x::xs) w)(C:iO (x::xs)+(k+1)<=140737488355328): Ò À 38 #[Ç (Â ⟨c,d,Á⟩) (k+1) i,Ä sep] w λe b=>e=Æ (Ä<|ja sep<|x::xs)/\e9 fg w b:=by
 have D:iO (x::xs)=x.size+iO xs:=by simp[iO]
 have m:∀a,Fj (Â ⟨c,d,Á⟩) (k+1) i sep ((k+iO ((x::xs).take 0):Nat):Int) (0:Nat) a->ß À (ń MZ) (QE 1<|J1E (Â ⟨c,d,Á⟩) (k+1) i sep k (x::xs) w) a w:=λa h=>
  Γ (J1 (Â ⟨c,d,Á⟩) (k+1) i sep k (x::xs) w) (M3<|k+1) ⟨0,h,Ø _,U⟩<|apO (by simp[g]) Z f Z
 have n:nK (Â ⟨c,d+1,Á⟩) (jm xs) w:=λj u E=>by let⟨b,o,z,l⟩:=f (j+1) u (by simpa[jm]using E);grind
 have p:∀a W,Fl (Â ⟨c,d+1,Á⟩) k (i-1) w.heap.size sep (0:Nat) a->o7 w w.heap.size (Ö<|x.data.toList++kz sep (xs.take 0)) W->ß À (ń M0) (QE 3<|J2E (Â ⟨c,d+1,Á⟩) k (i-1) w.heap.size sep x.data.toList xs w) a W:=λa W h o=>
  Γ (J2 (Â ⟨c,d+1,Á⟩) k (i-1) w.heap.size sep x.data.toList xs w) (M4 k) ⟨0,h,Ø _,o⟩<|apR g Z B n (by simp only[ě];have:x.data.size=x.size:=rfl;omega)
 let⟨_,_,F,q⟩:=f 0 (Ä x) U;cases F;have r:w.cell? ⟨c,d,Á⟩=Â (Ä x):=q;have s:x.data.toList++kz sep xs≠[]:=by grind [Ù,M1,ũ]
 have N:(1:Int)<9223372036854775807/(k:Int):=by rw[Int.lt_iff_add_one_le,Int.le_ediv_iff_mul_le Z];omega
 have t:0<k+iO (x::xs)/\k+iO (x::xs)<=281474976710656:=Z
 have y:(Ö []).length+x.size<=140737488355328:=by simp[Ö];omega
 have H:=fe<|Ê m<|Ê p<|Ê t<|Ê y<|Ê s r;clear m p t y s q r f n g C D;generalize G:iO (x::xs)=S at*;go_enter ē,Ŏ;go_wp2_with fail;refine İ ?_ (H.out.1 _ (gp _));rintro(_|_|_|_|_|_) a v hq;all_goals first|exact absurd hq id|skip
 obtain⟨rfl,b,rfl⟩:=hq;rw[G]at b;obtain⟨u,rfl⟩:=b;unfold Fi;go_wp2_with (first
  |(go_at_call 54;refine(apK ⟨æ _,e9.gK _ _ _ _,fh.N v [Ã Á,Ç Á 0 0] 109⟩ (k+S) H.out.2.2.1.1 H.out.2.2.1.2).mono ?_;rintro e I ⟨rfl,l⟩;have J:=l.r.r H.out.2.2.2.2.2 id;have z:=fe l;clear l)
  |(go_at_call 55;refine(Ut z.out x H.out.2.2.2.1).mono ?_;rintro e l ⟨rfl,z⟩;have I:=fe z;clear z))
 have J:o7 v v.heap.size (Ö<|x.data.toList++kz sep (xs.take 0)) l:=by have:=I.out;show o7 v v.heap.size (Ö<|x.data.toList++[]) l;rw[Ė];exact this
 refine İ ?_ (H.out.2.1 _ _ (gp _) J);rintro(_|_|_|_|_|_) a w3 hq;all_goals first|exact absurd hq id|skip
 obtain⟨rfl,b,o⟩:=hq;obtain⟨v,rfl⟩:=b;unfold qR;go_wp2_with (go_at_call 56;refine(apL (fe o).out H.out.2.2.2.2.1).mono ?_;rintro e O ⟨rfl,z⟩;have I:=fe z;clear z);go_ret;exact⟨U,I.out⟩
def Uv(a:n=xs.length)(f:n<=1000000)(g:n<=i)(h:sep.size=1)(b:nK O (jm xs) w)(j:iO xs+n<=140737488355328): Ò À 38 #[Ç O n i,Ä sep] w λe c=>e=Æ (Ä<|ja sep xs)/\e9 fg w c:=by
 cases xs with
 |nil=>subst a;exact apS
 |cons x r=>
  let⟨c,d,k,l⟩:=b 0 (Ä x) U;subst k;cases r with
  |nil=>
   subst a;have e:ja sep [x]=x:=by show aB ((x.data.toList++[]).toArray)=x;rw[Ė]
   rw[e];exact apT c d x l
  |cons y r=>
   subst a;exact apU (r.length+1) Z (by simp at f;omega) c d g h x U b j
def apV(a:n=xs.length)(c:n<=1000000)(d:n<=i)(h:nK O (jm xs) w)(f:iO xs+n<=140737488355328): Ò À 123 #[Ç O n i] w λe b=>e=Æ (Ä<|if xs=[]then⟨#[45]⟩else ja ⟨#[44]⟩ xs)/\e9 fg w b:=by
 have H:=fe<|Uv (sep:=⟨#[44]⟩) a c d U h f;by_cases b:xs=[]
 .subst b;have e:=a;subst e;rw[if_pos U];clear a f H c d;go_enter Δ,Ÿ;go_wp2_with fail;go_ret;exact⟨U,e9.fX _ _⟩
 .rw[if_neg b];have k:0<n:=by rw[a];exact Ņ.2 b
  have l:((n:Int)==0)=Ë:=by simp;omega
  clear a;generalize ja ⟨#[44]⟩ xs=z at*;go_enter Δ,Ÿ;go_wp2_with (go_at_call 38;apply H.out.mono;rintro e m ⟨rfl,g⟩;have j:=fe g;clear g);go_ret;exact⟨U,j.out⟩
end
def Fo{M:Nat}:∀(a:List ByteArray),(∀z∈a,z.size<=M)->iO a<=M*a.length
 |[],_=>Ø _
 |x::r,h=>by
  have c:=Fo r λz b=>h z<|Ĕ _ b;have d:=h x fl;have e:iO (x::r)=x.size+iO r:=by simp[iO]
  rw[e,ď,Nat.mul_add];omega
def M5{e:Nat×Int}(h:gi e.2):(oI e).size<=21:=by unfold oI;rw[ø];have:=yr e.1;have:=pP e.2.toNat (by have:=h.1;have:=h.2;omega);omega
def aa8{e:Int×Bool}(a:0<=e.1)(h:e.1<=400):(qF e).size<=41:=by unfold qF;rw[ø,ø];have:=pP e.1.toNat Z;have:=pP e.2.toNat (by cases e.2<;>decide);have:ŭ ⟨#[58]⟩=1:=rfl;omega
section
variable{b:List ByteArray}
def aa9{ty:č}{base:Nat}(b:P.underlying t=Â (.slice e))(d:P.info? e=Â zJ)(h:w.ownsRow base e j v n l)(a:Option ü)(c:Nat): (ė #[t,t] ty #[v,Ç a 0 c]).run P w=.ok v w:=by
 have f:(Ō zJ.size 0<|Ç a 0 c).run P w=.ok #[] w:=by cases a<;>simp[Ō,loadCells,loadCellsFrom]
 rcases h.2 with⟨rfl,rfl⟩|⟨g,m,o,rfl,_,_,k,_⟩
 .simp[ė,Ů b,sizeOf,typeInfo,d,Ź,f,ν]
 .simp[ė,Ů b,sizeOf,typeInfo,d,Ź,f,k,ν]
def apW{r:Array ĝ}{t:List ĝ}(l:o.guard=Á)(s c:Operand) (m:o.op=.call {callee:=.builtin κ,args:=#[s,c],argTypes:=#[25,25]}) (d:ik u v vX w) (n:y.eval s=v) {base:Nat} (B:w.ownsRow base 9 1 x b.length (jm b)) (e:y.eval c=x) (I:vX.length+b.length<=1000000) (h:∀j k,ik u j (vX++b) k->wpList À r vJ t (y.put o.dst j) k):wpList À r vJ (o::t) y w:=by
 let⟨J,p,D,E,F⟩:=ů Aq;rcases B.2 with⟨f,G⟩|⟨g,H,L,f,_⟩
 .have z:=Ý G;subst z;rw[f]at e;refine Ε l λK i=> ?_;have q:=aa9 (ty:=o.type) ĩ p d.fq Á 0;unfold Oper.wp ś;simp only[m,ρ,ar,ς,Sem.run_bind,Sem.run_pure,ŏ,Ŝ,ŉ,Ő,n,e,q];exact i _ _<|h v w<|by rwa[Ė]
 .by_cases C:b=[]
  .subst C;rw[f]at e;refine Ε l λK i=> ?_;have q:=aa9 (ty:=o.type) ĩ p d.fq (Â ⟨g,0,Á⟩) H;unfold Oper.wp ś;simp only[m,ρ,ar,ς,Sem.run_bind,Sem.run_pure,ŏ,Ŝ,ŉ,Ő,n,e,q,ũ];exact i _ _<|h v w<|by rwa[Ė]
  .have K:=Ņ.2 C;refine Cn l s c 25 m ĩ p D E F U n d.fq ⟨g,0,Á⟩ (jm b) (e.trans f) K (by simp[jm]) (B.cells<|by rw[f];rfl) (λi q=>by unfold jm at q;obtain⟨z,_,rfl⟩:=Ú.1 q;rfl) (by unfold ī;omega) Z d.r.M ?_;intro j k z;refine h j k ⟨?_,d.r.C z.r λi M q=> ?_⟩
   .have:=z.fq;rwa[show jm vX++jm b=jm (vX++b) by simp[jm],show vX.length+b.length=(vX++b).length by simp]at this
   .have:=(d.fq.lt i q).1;omega
end
def ik.I(h:ik u (Ç O n i) vX w):nK O (jm vX) w/\n=vX.length/\n<=i:=by
 rcases h.fq.2 with⟨b,d⟩|⟨g,f,k,b,_,_,d,_⟩
 .cases b;refine⟨λj x e=> ?_,d.symm,æ _⟩;rw[Ý d]at e;cases e
 .have e:n=vX.length:=by injection b
  subst e;injection b with _ _ h4;exact⟨nK.r h.fq,U,by rwa[h4]⟩
def qG(r:pM):ByteArray:=ja ⟨#[44]⟩<|[fC r.C.toNat,fC r.M.toNat,fC r.r.toNat]++r.I.map oI
theorem apX(x y:Nat)(g k:Int)(b c:Nat)(a:Bool)(f:List (Nat×Int))(L:b<18446744073709551616)(M:c<18446744073709551616)(S:f.length<=400000)(V:yp f)(W:lS w) (T:Ò À 158 #[Ã<|Â ⟨i,0,Á⟩,Å É x,Å É y,Å ã g,Å ã k] w λe h=>∃B,e=Æ (ë #[.agg #[Å ã b,õ a,Å ã c],B])/\h.ownsRow 0 257 2 B f.length (kx f)/\e9 fg w h): Ò À 119 #[Ã<|Â ⟨i,0,Á⟩,Å É x,Å É y,Å ã g,Å ã k] w λe h=>e=Æ (Ä<|ja ⟨#[44]⟩<|[fC a.toNat,fC c,fC b]++f.map oI)/\e9 fg w h:=by
 have N:a.toNat<18446744073709551616:=by cases a<;>decide
 have H:=fe<|Ê T<|Ê W V;go_enter Tryz.func119,Tryz.ntmps119;go_wp2_with (go_at_call 158;apply H.out.1.mono;rintro e j ⟨B,rfl,q,d⟩;obtain⟨v,Q,rfl⟩:=jj q;have C:=fe<|Ê d q;clear d q);change ß À _ _ _ (j.alloc<|Û #[Å ã b,õ a,Å ã c] 252);have D:=(e9.gK fg j #[Å ã b,õ a,Å ã c] 252).ff<|e9.fU _ _;have E:=(H.out.2.1.r C.out.1).r D;have o:=(fh.N j [Å ã b,õ a,Å ã c] 252).I (e9.fU fg _) id;have O:=C.out.1.ff D;have X:=ij C.out.2 D λ_ _=>id;refine mD (λh=>h.cell? ⟨j.heap.size,0,Á⟩=Â (Å ã b)/\h.cell? ⟨j.heap.size,1,Á⟩=Â (õ a)/\h.cell? ⟨j.heap.size,2,Á⟩=Â (Å ã c)) [] ft ?_;have l:=fe<|Ê (o.r 0 _ rfl)<|Ê (o.r 1 _ rfl)<|o.r 2 _ rfl;generalize j.heap.size=ob at*;generalize ξ (j.alloc<|Û #[Å ã b,õ a,Å ã c] 252)=w5 at*;iterate 3 apply tk l.out
 apply tk l.out 5;apply tk l.out 6;apply tk l.out 8;apply tk l.out 9;apply tk l.out 10;apply gC 3;intro K d;go_simp;go_at_call 159;refine(Im _ _).mono ?_;rintro e Y ⟨rfl,qt⟩;subst Y;rw[aaX];apply d.out _ _ λ_=>l.out;apply gC 4;intro K d;go_simp;go_at_call 118;refine(yq a.toNat N _ E).mono ?_;rintro e wa ⟨rfl,p⟩;have r:=o.I p id;have P:=E.r p;apply d.out _ _ λ_=>⟨r.r 0 _ U,r.r 1 _ U,r.r 2 _ U⟩;apply gC 7;intro K d;go_simp;go_at_call 118;refine(yq c M _ P).mono ?_;rintro e wb ⟨rfl,s⟩;have t:=r.I s id;have Pb:=P.r s;apply d.out _ _ λ_=>⟨t.r 0 _ U,t.r 1 _ U,t.r 2 _ U⟩;apply gC 11;intro K d;go_simp;go_at_call 118;refine(yq b L _ Pb).mono ?_;rintro e m ⟨rfl,F⟩;have u:=t.I F id;have n:=u.I (e9.gK fg m #[Ä<|fC a.toNat,Ä<|fC c,Ä<|fC b] 9) id;apply d.out _ _ λ_=>⟨u.r 0 _ U,u.r 1 _ U,u.r 2 _ U⟩;apply gC 12;intro K d;go_simp;apply d.out _ _ λ_=>⟨n.r 0 _ U,n.r 1 _ U,n.r 2 _ U⟩;apply gC 13;intro K d;go_simp;apply d.out _ _ λ_=>⟨n.r 0 _ U,n.r 1 _ U,n.r 2 _ U⟩;refine mf ft ?_ _;have G:e9 fg w5 (m.alloc<|Û #[Ä<|fC a.toNat,Ä<|fC c,Ä<|fC b] 9):=((p.ff s).ff F).ff<|e9.gK _ _ _ _;have T6:ik w (Ç (Â ⟨m.heap.size,0,Á⟩) 3 3) [fC a.toNat,fC c,fC b] (m.alloc<|Û #[Ä<|fC a.toNat,Ä<|fC c,Ä<|fC b] 9):=⟨World.ownsRow_lit m #[Ä<|fC a.toNat,Ä<|fC c,Ä<|fC b] 3 (Ì O.M ((p.ff s).ff F).M) (by unfold ī;omega) U,O.ff G⟩;have L6:=ij X G λ_ _=>id;have P6:=E.r G;have I:=fe<|Ê T6<|Ê L6 P6;generalize m.alloc (Û #[Ä<|fC a.toNat,Ä<|fC c,Ä<|fC b] 9)=w6 at*;generalize m.heap.size=tb at*;have ku:∀z∈[fC a.toNat,fC c,fC b]++f.map oI,z.size<=21:=λz hz=>by
  rcases â.1 hz with q|q
  .have h1:=pP a.toNat N;have h2:=pP c M;have v:=pP b L;grind
  .obtain⟨e,v,rfl⟩:=Ú.1 q;exact M5 (H.out.2.2 e v).2
 have sY:=Fo _ ku;have hlen:([fC a.toNat,fC c,fC b]++f.map oI).length=3+f.length:=by simp;omega
 have J:=fe<|Ê sY hlen;go_wp2_with (first
  |(go_at_call 124;refine(aaW U S H.out.2.2 I.out.2.2<|nK.r I.out.2.1).mono ?_;rintro e v ⟨lt,rfl,q⟩;obtain⟨ta,tc,rfl⟩:=jj q.fq;rw[ù]at q;have Q:=fe q;clear q)
  |(at_builtin;refine apW U _ _ U (I.out.1.fM Q.out.r) U Q.out.fq U (by simp;omega) ?_;intro cv w8 v;obtain⟨ca,cc,rfl⟩:=jj v.fq;generalize([fC a.toNat,fC c,fC b]++f.map oI).length=cn at v|-;have q:=fe v;clear v)
  |(go_at_call 38;refine(Uv q.out.I.2.1 (by have:=q.out.I.2.1;rw[this,J.out.2];omega) q.out.I.2.2 U q.out.I.1 (by have:=q.out.I.2.1;have h1:=J.out.1;have h2:=J.out.2;omega)).mono ?_;rintro e w9 ⟨rfl,v⟩;have Q:=fe v;clear v))
 go_ret;exact⟨U,q.out.r.ff Q.out⟩
def apY{s:St}(v:mE i s h w)(b:gJ s)(z:iN w)(B:lS w)(x y:Nat)(g k:Int)(c:x<8)(d:y<8)(f:0<=g)(j:g<=100000)(l:gi k): Ò À 119 #[Ã<|Â ⟨i,0,Á⟩,Å É x,Å É y,Å ã g,Å ã k] w λe q=>e=Æ (Ä<|qG<|gl s [] x y g k)/\e9 fg w q:=by have T:=aaT v b z x y g k c d f j l _ U;have e:=Iw s [] x y g k b c d l f j (by simp;omega);have m:=Uf s [] x y g k b c d l f j (by simp;omega) (λ_ q=>by cases q);obtain⟨q,o,a,t,p,C⟩:∃q o a t p,gl s [] x y g k=⟨q,o,a,t,p⟩:=⟨_,_,_,_,_,U⟩;rw[C]at T e m|-;have D:=e.C;have E:=e.r;have r:=e.M;have u:=e.I;simp only at D E r u m T;obtain⟨F,rfl⟩:∃n:Nat,q=n:=⟨q.toNat,Z⟩;obtain⟨G,rfl⟩:∃n:Nat,a=n:=⟨a.toNat,by have:=r.1;omega⟩;exact apX x y g k F G o p Z (by have:=r.2;omega) (by simp at u;omega) m B T
def qH(w:Í):Prop:=w.cell? ⟨4,15,Á⟩=Â (Å ū 4)
def qH.r(h:qH w)(k:e9 fg w u):qH u:=k.r h id
def apZ(c:qH w):Ò À 207 #[Å ã 16] w λe a=>e=Æ (Å É 4)/\a=w:=by
 unfold qH at c;have b:ã.wrap (bits BinOp.and ã 16 (ã.wrap<|-16)*285870213051353865)/288230376151711744=15:=A
 go_enter Tryz.func207,Tryz.ntmps207;go_wp2;go_ret;exact⟨U,U⟩
def tz(c:qH w):Ò À 201 #[Å ã 16] w λe a=>e=Æ (Å É 4)/\a=w:=by go_enter Tryz.func201,Tryz.ntmps201;go_wp2_with (go_at_call 207;refine(apZ c).mono ?_;rintro e a ⟨rfl,b⟩;subst a);go_ret;exact⟨U,U⟩
def ap0:Ò À 200 #[Å É 16] w λe a=>e=Æ (õ Î)/\a=w:=by
 have b:bits BinOp.and É 16 15=0:=A
 go_enter Tryz.func200,Tryz.ntmps200;go_wp2;go_ret;simp_all
def pQ(d:Nat):UInt8:=if h:d<36 then(⟨#[48,49,50,51,52,53,54,55,56,57,97,98,99,100,101,102,103,104,105,106,107,108,109,110,111,112,113,114,115,116,117,118,119,120,121,122]⟩:ByteArray)[d]'h else 0
def vl:Nat->Nat->List UInt8->List UInt8
 |0,_,acc=>acc
 |k+1,n,acc=>if n<16 then pQ n::acc else vl k (n/16) (pQ (n%16)::acc)
def abb:∀k n a,(vl k n a).length<=k+a.length
 |0,_,a=>by simp[vl]
 |k+1,n,a=>by
  unfold vl;split
  .simp;omega
  .have:=abb k (n/16)<|pQ (n%16)::a;simp at this;omega
noncomputable def M6:Τ:=(Tryz.f190.body.bind ky).getD aj
def Fp(a:Nat)(n i:Int)(u:Nat->Ñ):Ĉ:=⟨#[u 0,Å ã n,Å É 16,õ Ë,õ Ë,u 5,u 6,u 7,u 8,u 9,Ç Á 0 0,u 11,Ã<|Â ⟨a,0,Á⟩,Å É i,Å ã 4,Å ã 16,Å ã 15,u 17,u 18,u 19,u 20,u 21,u 22,u 23,u 24,u 25,u 26,u 27,u 28,u 29,u 30,u 31,u 32,u 33,u 34,u 35,u 36,u 37,u 38,u 39,u 40,u 41,u 42,u 43,u 44,u 45,u 46,u 47,u 48,u 49,u 50,u 51,u 52,u 53,u 54,u 55,u 56,u 57,u 58,u 59,u 60,u 61,u 62,u 63,u 64,u 65,u 66,u 67,u 68,u 69,u 70,u 71,u 72,u 73,u 74,u 75,u 76,u 77,u 78,u 79,u 80,u 81,u 82,u 83,u 84,u 85,u 86,u 87,u 88,u 89,u 90,u 91,u 92,u 93,u 94,u 95,u 96,u 97,u 98,u 99,u 100,u 101],[]⟩
def Fq(b:Nat)(n i:Int)(a:Ĉ):Prop:=∃u,a=Fp b n i u
def zc(i:Nat)(a:List UInt8):List Ñ:=ą i (Å ū 0)++Ö a
def abd(i:Nat)(a:List UInt8):(zc i a).length=i+a.length:=by simp[zc,Ö]
theorem abe(i:Nat)(a:List UInt8)(c:UInt8):(zc (i+1) a).set i (Å ū c.toNat)=zc i (c::a):=by unfold zc;rw[List.replicate_succ',ő,Ĵ _ _ fl];simp[Ö]
section
variable{X:Ĉ->Í->Prop}
def ap1(u:Nat->Ñ)(n b:Nat)(d:n<16)(c:∀a,Fq i n b a->X a w): ß À M6 (Exit.then K<|QE 0 X) (Fp i n b u) w:=by
 unfold Fp;conv=>arg 2;whnf
 go_wp2_with fail
 exact⟨U,c _ (gp _)⟩
def ap2(u:Nat->Ñ)(n b:Nat)(g:16<=n)(h:n<18446744073709551616)(j:b<65)(v:Ñ)(c:w.cell? ⟨i,b,Á⟩=Â v)(k:w.frozen? ⟨i,b,Á⟩=Ë) (e:∀a,Fq i ((n/16:Nat):Int) b a->K a (w.setCell ⟨i,b,Á⟩<|Å ū (pQ<|n%16).toNat)): ß À M6 (Exit.then K<|QE 0 X) (Fp i n ((b+1:Nat):Int) u) w:=by
 unfold Fp;conv=>arg 2;whnf
 have l:bits BinOp.and ã (n:Int) 15=((n%16:Nat):Int):=by have:=(bits_nat ã 64 A (λn f H=>by rw[Ć];omega) n 15 Z A).1;rwa[show(15:Nat)=2^4-1 from rfl,Nat.and_two_pow_sub_one_eq_mod]at this
 have f:n%16<36:=Z
 have m:(⟨#[48,49,50,51,52,53,54,55,56,57,97,98,99,100,101,102,103,104,105,106,107,108,109,110,111,112,113,114,115,116,117,118,119,120,121,122]⟩:ByteArray)[n%16]'f=pQ (n%16):=by unfold pQ;rw[dif_pos f]
 have H:=fe e;clear e;generalize o:n%16=d at*;go_wp2_with fail;exact H.out _ (gp _)
def XI(i:Nat)(u:Í)(d:List UInt8)(a:Ĉ)(w:Í):Prop:=
 ∃(n b:Nat) (c:List UInt8),Fq i n b a/\50<=b/\b+c.length=65/\n<16^(b-49)/\n<18446744073709551616/\e9 (λk=>k=i) u w/\fh i (zc b c) 292 w/\vl (b-49) n c=d
def XE(i:Nat)(u:Í)(d:List UInt8)(a:Ĉ)(w:Í):Prop:=
 ∃(n b:Nat) (c:List UInt8),Fq i n b a/\n<16/\50<=b/\b+c.length=65/\e9 (λk=>k=i) u w/\fh i (zc b c) 292 w/\pQ n::c=d
def M7(a:Ĉ)(_:Í):Nat:=match a.tmps.getD 1 ĸ with
 |Å _ i=>i.toNat
 |_=>0
def abf(b:Fq i n j y):M7 y w=n:=by obtain⟨u,rfl⟩:=b;show(n:Int).toNat=_;simp
theorem ap3{h:List UInt8}(a:Ĉ)(w:Í)(o:XI i u h a w): ß À M6 (Exit.then (λb c=>XI i u h b c/\M7 b c<M7 a w)<|QE 0<|XE i u h) a w:=by
 let⟨n,b,f,l,p,r,s,t,m,e,d⟩:=o;rw[abf l];obtain⟨c,rfl⟩:=l;obtain⟨j,rfl⟩:∃j,b=j+1:=⟨b-1,Z⟩;have x:j+1-49=(j-49)+1:=Z
 rw[x]at d s;unfold vl at d;by_cases g:n<16
 .rw[if_pos g]at d;exact ap1 c n (j+1) g λa q=>⟨n,j+1,f,q,g,p,r,m,e,d⟩
 .rw[if_neg g]at d;have y:50<=j:=by
   grind
  have C:(zc (j+1) f).length=65:=by rw[abd];omega
  obtain⟨v,z⟩:∃v,(zc (j+1) f)[j]?=Â v:=⟨_,Ó Z⟩;have B:n/16<16^(j-49):=by grind
  refine ap2 c n j Z t Z v (e.r j v z) (e.C j) λa q=>⟨⟨n/16,j,pQ (n%16)::f,q,y,by simp;omega,B,Z,m.ff (e9.I (X:=λk=>k=i) U _<|Ï e.G),?_,d⟩,by rw[abf q];omega⟩;have:=e.fL j<|Å ū (pQ<|n%16).toNat;grind [abe]
end
def ap4:ú=(zc 65 []).toArray:=ft
def nN(n:Nat):ByteArray:=⟨(vl 16 n []).toArray⟩
theorem ap5(n:Nat)(l:n<18446744073709551616)(o:qH w):Ò À 190 #[Ç Á 0 0,Å ã n,Å É 16,õ Ë,õ Ë] w λe p=>e=Æ (ë #[Ç Á 0 0,Ä<|nN n])/\e9 fg w p:=by
 have L:∀a,Fq w.heap.size n (65:Nat) a->ß À (ń M6) (QE 0<|XE w.heap.size (w.alloc<|Û ú 292)<|vl 16 n []) a (w.alloc<|Û ú 292):=λa r=>
  Γ (XI w.heap.size (w.alloc<|Û ú 292)<|vl 16 n []) M7 ⟨n,65,[],r,Z,U,by show n<16^16;omega,l,e9.fX _ _,by rw[ap4];exact fh.N w (zc 65 []) 292,U⟩ ap3
 have H:=fe<|Ê o L;unfold nN;generalize vl 16 n []=res at*;go_enter Tryz.func190,Tryz.ntmps190;go_wp2_with (first
  |(go_at_call 200;refine ap0.mono ?_;rintro e b ⟨rfl,c⟩;subst b)
  |(go_at_call 201;refine(tz (H.out.1.r kp)).mono ?_;rintro e b ⟨rfl,c⟩;subst b))
 refine İ (Q:=QE 0<|XE w.heap.size (w.alloc<|Û ú 292) res) ?_ (H.out.2 _ (gp _));rintro(_|_|_|_|_|_) a v hq;all_goals first|exact absurd hq id|skip
 obtain⟨rfl,m,i,c,s,E,F,G,x,b,d⟩:=hq;obtain⟨u,rfl⟩:=s;unfold Fp;obtain⟨j,rfl⟩:∃j,i=j+1:=⟨i-1,Z⟩;have I:(zc (j+1) c).length=65:=by rw[abd];omega
 obtain⟨z,y⟩:∃z,(zc (j+1) c)[j]?=Â z:=⟨_,Ó Z⟩;have J:=b.r j z y;have K:=b.C j;have M:(0:Int)<=(j:Int):=Z
 have N:(j:Int)<65:=Z
 have O:(j:Int)<=65:=Z
 have S:(0:Int)<=(m:Int):=Z
 have T:(m:Int)<36:=Z
 have f:m<36:=Z
 have V:(⟨#[48,49,50,51,52,53,54,55,56,57,97,98,99,100,101,102,103,104,105,106,107,108,109,110,111,112,113,114,115,116,117,118,119,120,121,122]⟩:ByteArray)[m]'f=pQ m:=by unfold pQ;rw[dif_pos f]
 have B:=(e9.gK fg w ú 292).C x λi C q=>by omega
 have g:=b.fL j<|Å ū (pQ m).toNat;rw[abe,d]at g;have D:e9 fg w (v.setCell ⟨w.heap.size,j,Á⟩<|Å ū (pQ m).toNat):=B.C (e9.I (X:=λk=>k=w.heap.size) U _<|Ï b.G) λi C q=>by omega
 have W:res.length=65-j:=by rw[<-d];simp;omega
 have Y:(convert 107 9<|Ç (Â ⟨w.heap.size,j,Á⟩) (65-j)<|65-j).run À (v.setCell ⟨w.heap.size,j,Á⟩<|Å ū (pQ m).toNat)=.ok (Ä ⟨res.toArray⟩) (v.setCell ⟨w.heap.size,j,Á⟩<|Å ū (pQ m).toNat):=by have h:=run_convert_bytes_back (P:=À) (v.setCell ⟨w.heap.size,j,Á⟩<|Å ū (pQ m).toNat) 107 9 5 ⟨w.heap.size,j,Á⟩ (65-j) res ft ft ft (λt k=>by rw[Addr.add_mid];apply g.r (j+t) _;unfold zc;rw[ğ fl];simp[Ö,Ó k]);grind
 have k:=fe D;go_wp2;go_ret2;simp_all
def ap6(n:Nat)(b:n<18446744073709551616)(c:qH w):Ò À 172 #[Å ã n,Å É 16] w λe a=>e=Æ (Ä<|nN n)/\e9 fg w a:=by go_enter Tryz.func172,Tryz.ntmps172;go_wp2_with (go_at_call 190;refine(ap5 n b c).mono ?_;rintro e a ⟨rfl,d⟩);go_ret;exact⟨U,d⟩
def ap7(n:Nat)(b:n<18446744073709551616)(c:qH w):Ò À 157 #[Å ã n,Å É 16] w λe a=>e=Æ (Ä<|nN n)/\e9 fg w a:=by go_enter Tryz.func157,Tryz.ntmps157;go_wp2_with (go_at_call 172;refine(ap6 n b c).mono ?_;rintro e a ⟨rfl,d⟩);go_ret;exact⟨U,d⟩
def ap8(s:ByteArray)(w:Í)(h:s.data.toList.head?=Â 48):Ò À 175 #[Ä s,Ä ⟨#[48]⟩] w λe b=>e=Æ (õ Î)/\b=w:=by
 have H:=Tryz.strings_HasPrefix s ⟨#[48]⟩ w;have e:ź s.data.toList (Ű ⟨#[48]⟩).toList=Î:=by
  generalize s.data.toList=l at h;cases l with
  |nil=>cases h
  |cons a r=>cases h;rfl
 rwa[e]at H
def ap9(s:ByteArray)(w:Í)(h:¬s.data.toList.head?=Â 48):Ò À 175 #[Ä s,Ä ⟨#[48]⟩] w λe b=>e=Æ (õ Ë)/\b=w:=by
 have H:=Tryz.strings_HasPrefix s ⟨#[48]⟩ w;have e:ź s.data.toList (Ű ⟨#[48]⟩).toList=Ë:=by
  generalize s.data.toList=l at h;cases l with
  |nil=>rfl
  |cons a r=>
   have c:¬a=48:=λq=>h (by rw[q];rfl);show((48:UInt8)==a&&List.isPrefixOf [] r)=Ë;have:((48:UInt8)==a)=Ë:=beq_eq_false_iff_ne.2 λq=>c q.symm;rw[this];rfl
 rwa[e]at H
def As(k:Nat):ByteArray:=σ ⟨#[48,48,48,48,48,48,48,48,48,48,48,48,48,48,48,48,48,48,48,48,48,48,48,48,48,48,48,48,48,48,48,48,48,48,48,48,48,48,48,48,48,48,48,48,48,48,48,48,48,48,48,48,48,48,48,48,48,48,48,48,48,48,48,48]⟩ 0 k
def aqa(k:Nat)(d:2<=k)(f:k<=64):Ò À 160 #[Ä ⟨#[48]⟩,Å É k] w λe a=>e=Æ (Ä<|As k)/\a=w:=by
 have g:((k:Int)==0)=Ë:=by simp;omega
 have h:((k:Int)==1)=Ë:=by simp;omega
 have i:¬(k:Int)<0:=Z
 have j:(0:Int)<=(k:Int):=Z
 have l:(k:Int)<=64:=Z
 have m:ã.wrap (k:Int)=(k:Int):=by rw[Ć];omega
 have n:É.wrap (k:Int)=(k:Int):=by rw[ŝ];omega
 have M:=Tryz.bits_Mul 1 k A Z w;rw[show 1*k/18446744073709551616=0 by omega,show 1*k%18446744073709551616=k by omega]at M;have c:=fe M;go_enter Œ,Ŋ;go_wp2_with (first
  |(go_at_call 174;refine c.out.mono ?_;rintro e a ⟨rfl,b⟩;subst a)
  |(go_at_call 175;refine(ap9 _ _ A).mono ?_;rintro e a ⟨rfl,b⟩;subst a)
  |(go_at_call 175;refine(ap8 _ _ A).mono ?_;rintro e a ⟨rfl,b⟩;subst a))
 go_ret;exact⟨U,U⟩
def aqb:Ò À 160 #[Ä ⟨#[48]⟩,Å É 0] w λe a=>e=Æ (Ä ⟨#[]⟩)/\a=w:=by go_enter Œ,Ŋ;go_wp2;go_ret;exact⟨U,U⟩
def aqc:Ò À 160 #[Ä ⟨#[48]⟩,Å É 1] w λe a=>e=Æ (Ä ⟨#[48]⟩)/\a=w:=by go_enter Œ,Ŋ;go_wp2;go_ret;exact⟨U,U⟩
def aqd(k:Nat)(a:k<=64):Ò À 160 #[Ä ⟨#[48]⟩,Å É k] w λe b=>e=Æ (Ä<|As k)/\b=w:=by
 match k with
 |0=>exact aqb
 |1=>exact aqc
 |k+2=>exact aqa (k+2) Z a
def M8(n:Nat):ByteArray:=As (16-(nN n).size)++nN n
def abg(n:Nat):(nN n).size<=16:=by show(vl 16 n []).toArray.size<=16;have:=abb 16 n [];simpa using this
def abh(k:Nat):(As k).size<=k:=by unfold As;rw[Č];omega
def aqe(n:Nat)(c:n<18446744073709551616)(d:qH w):Ò À 121 #[Å ã n] w λe a=>e=Æ (Ä<|M8 n)/\e9 fg w a:=by
 have g:=abg n;have h:=abh<|16-(nN n).size;have T:=ap7 n c d;have R:∀W:Í,Ò À 160 #[Ä ⟨#[48]⟩,Å É ((16-(nN n).size:Nat):Int)] W λe a=>e=Æ (Ä<|As<|16-(nN n).size)/\a=W:=λW=>aqd _ Z;have i:É.wrap ((16:Int)-((nN n).size:Int))=((16-(nN n).size:Nat):Int):=by rw[ŝ];omega
 have j:(16:Int)-((nN n).size:Int)=((16-(nN n).size:Nat):Int):=Z
 have l:¬9223372036854775807<(As<|16-(nN n).size).size+(nN n).size:=Z
 unfold M8;have H:=fe<|Ê T R;generalize m:As (16-(nN n).size)=zs at*;generalize o:16-(nN n).size=k at*;generalize nN n=fs at*;go_enter Tryz.func121,Tryz.ntmps121;go_wp2_with (first
  |(go_at_call 157;refine H.out.1.mono ?_;rintro e p ⟨rfl,b⟩;have f:=fe b;clear b)
  |(go_at_call 160;refine(H.out.2 _).mono ?_;rintro e b ⟨rfl,p⟩;subst b))
 go_ret;exact⟨U,f.out⟩
structure pR(r:Nat)(x y g k:Nat)(kind v v2:Int)(slot:Nat)(w:Í):Prop where
 I:w.cell? ⟨r,0,Á⟩=Â (Å É x)
 S:w.cell? ⟨r,1,Á⟩=Â (Å É y)
 a:w.cell? ⟨r,2,Á⟩=Â (Å É g)
 Y:w.cell? ⟨r,3,Á⟩=Â (Å É k)
 N:w.cell? ⟨r,4,Á⟩=Â (Å É kind)
 M:w.cell? ⟨r,5,Á⟩=Â (Å É v)
 c:w.cell? ⟨r,6,Á⟩=Â (Å É v2)
 b:w.cell? ⟨r,7,Á⟩=Â (Å É slot)
def ik.N(h:ik u v vX W)(k:e9 fg w u):ik w v vX W:=by
 refine⟨⟨h.fq.1,?_⟩,k.ff h.r⟩;rcases h.fq.2 with q|⟨g,a,b,c,d,q⟩
 .exact È q
 .exact Ï ⟨g,a,b,c,Ì k.M d,q⟩
section
variable{cp r x y g slot:Nat}{v v2:Int}
def pR.C{w:Í}(h:pR r x y g k c v v2 slot w)(q:e9 fg w u):pR r x y g k c v v2 slot u:= ⟨q.r h.I id,q.r h.S id,q.r h.a id,q.r h.Y id,q.r h.N id,q.r h.M id,q.r h.c id,q.r h.b id⟩
def aqf(F:Ò À 113 #[Ç O n cp,Å É v] w λe b=>e=Æ (j1<|Â i)/\e9 fg w b)(h:pR r x y g k 2 v v2 slot w)(p:x<8)(q:slot<16)(z:Nat)(j:w.cell? ⟨i,x*18+2+slot,Á⟩=Â (Å ã z)) (C:∀W,e9 fg w W->Ò À 118 #[Å ã z] W λe b=>e=Æ (Ä B)/\e9 fg W b): Ò À 67 #[Ç O n cp,Ã<|Â ⟨r,0,Á⟩] w λe b=>e=Æ (Ä B)/\e9 fg w b:=by
 have s:=h.M;have m:=h.N;have t:(0:Int)<=(x:Int):=Z
 have u:(x:Int)<8:=Z
 have D:(0:Int)<=(slot:Int):=Z
 have E:(slot:Int)<16:=Z
 have H:=fe<|Ê F C;have d:=fe h;clear F C h;go_enter ó,í;go_wp2_with (go_at_call 113;apply H.out.1.mono;rintro e f ⟨rfl,c⟩;dsimp only[j1,ð];have l:=c.r m id;have a:=fe c;clear c);refine mD (λb=>b.cell? ⟨r,0,Á⟩=Â (Å É x)/\b.cell? ⟨r,7,Á⟩=Â (Å É slot)/\b.cell? ⟨i,x*18+2+slot,Á⟩=Â (Å ã z)) [] ft ?_;have o:=fe<|Ê ((d.out.C a.out).C<|e9.fU fg _).I<|Ê ((d.out.C a.out).C<|e9.fU fg _).b<|(a.out.ff<|e9.fU _ _).r j id;iterate 17 apply tk o.out
 apply gC 17;intro K f;go_simp;go_at_call 118;refine(H.out.2 _<|a.out.ff<|e9.fU _ _).mono ?_;rintro e G ⟨rfl,l⟩;have c:=fe l;clear l;dsimp only;apply f.out _ _ λ_=>⟨(d.out.C<|(a.out.ff<|e9.fU _ _).ff c.out).I,(d.out.C<|(a.out.ff<|e9.fU _ _).ff c.out).b,(((a.out.ff<|e9.fU _ _).ff c.out).r j id)⟩;clear f K;apply gC 18;intro K f;go_simp;apply f.out _ _ λ_=>⟨(d.out.C<|(a.out.ff<|e9.fU _ _).ff c.out).I,(d.out.C<|(a.out.ff<|e9.fU _ _).ff c.out).b,(((a.out.ff<|e9.fU _ _).ff c.out).r j id)⟩;clear f K;try simp only[Act.put,é,ý,þ]
 refine mf ft ?_ _;go_wp2_with fail;go_ret;exact⟨U,(a.out.ff<|e9.fU _ _).ff c.out⟩
def aqg(F:Ò À 113 #[Ç O n cp,Å É v] w λe a=>e=Æ (j1<|Â i)/\e9 fg w a)(f:pR r x y g k 3 v v2 slot w)(p:x<8)(z:Nat)(h:w.cell? ⟨i,x*18,Á⟩=Â (Å ã z)) (C:∀W,e9 fg w W->Ò À 118 #[Å ã z] W λe a=>e=Æ (Ä B)/\e9 fg W a): Ò À 67 #[Ç O n cp,Ã<|Â ⟨r,0,Á⟩] w λe a=>e=Æ (Ä B)/\e9 fg w a:=by
 have q:=f.M;have m:=f.N;have s:(0:Int)<=(x:Int):=Z
 have t:(x:Int)<8:=Z
 have H:=fe<|Ê F C;have j:=fe f;clear F C f;go_enter ó,í;go_wp2_with (go_at_call 113;apply H.out.1.mono;rintro e d ⟨rfl,c⟩;dsimp only[j1,ð];have l:=c.r m id;have b:=fe c;clear c);refine mD (λa=>a.cell? ⟨r,0,Á⟩=Â (Å É x)/\a.cell? ⟨i,x*18,Á⟩=Â (Å ã z)) [] ft ?_;have o:=fe<|Ê ((j.out.C b.out).C<|e9.fU fg _).I<|(b.out.ff<|e9.fU _ _).r h id;iterate 12 apply tk o.out
 apply gC 12;intro K c;go_simp;go_at_call 118;refine(H.out.2 _<|b.out.ff<|e9.fU _ _).mono ?_;rintro e u ⟨rfl,l⟩;have d:=fe l;clear l;dsimp only;apply c.out _ _ λ_=>⟨(j.out.C<|(b.out.ff<|e9.fU _ _).ff d.out).I,(((b.out.ff<|e9.fU _ _).ff d.out).r h id)⟩;clear c K;apply gC 13;intro K c;go_simp;apply c.out _ _ λ_=>⟨(j.out.C<|(b.out.ff<|e9.fU _ _).ff d.out).I,(((b.out.ff<|e9.fU _ _).ff d.out).r h id)⟩;clear c K;try simp only[Act.put,é,ý,þ]
 refine mf ft ?_ _;go_wp2_with fail;go_ret;exact⟨U,(b.out.ff<|e9.fU _ _).ff d.out⟩
def aqh(F:Ò À 113 #[Ç O n cp,Å É v] w λe c=>e=Æ (j1<|Â i)/\e9 fg w c)(h:pR r x y g k 4 v v2 slot w)(o:g<=400)(p:k<18446744073709551616) (C:∀W,e9 fg w W->Ò À 119 #[Ã<|Â ⟨i,0,Á⟩,Å É x,Å É y,Å ã g,Å ã k] W λe c=>e=Æ (Ä B)/\e9 fg W c): Ò À 67 #[Ç O n cp,Ã<|Â ⟨r,0,Á⟩] w λe c=>e=Æ (Ä B)/\e9 fg w c:=by
 have q:=h.M;have l:=h.N;have s:ã.wrap (k:Int)=(k:Int):=by rw[Ć];omega
 have t:ã.wrap (g:Int)=(g:Int):=by rw[Ć];omega
 have u:¬(400:Int)<(g:Int):=Z
 have z:(g:Int)<=400:=Z
 have H:=fe<|Ê F C;have b:=fe h;clear F C h;go_enter ó,í;go_wp2_with (go_at_call 113;apply H.out.1.mono;rintro e f ⟨rfl,d⟩;dsimp only[j1,ð];have j:=d.r l id;have m:=d.r b.out.a id;have a:=fe d;clear d);refine mD (λc=>c.cell? ⟨r,0,Á⟩=Â (Å É x)/\c.cell? ⟨r,1,Á⟩=Â (Å É y)/\c.cell? ⟨r,2,Á⟩=Â (Å É g)/\c.cell? ⟨r,3,Á⟩=Â (Å É k)) [] ft ?_;have m:=fe<|Ê ((b.out.C a.out).C<|e9.fU fg _).I<|Ê ((b.out.C a.out).C<|e9.fU fg _).S<|Ê ((b.out.C a.out).C<|e9.fU fg _).a ((b.out.C a.out).C<|e9.fU fg _).Y;iterate 23 apply tk m.out
 apply gC 23;intro K f;go_simp;go_at_call 119;refine(H.out.2 _<|a.out.ff<|e9.fU _ _).mono ?_;rintro e D ⟨rfl,j⟩;have d:=fe j;clear j;dsimp only;apply f.out _ _ λ_=>⟨(b.out.C<|(a.out.ff<|e9.fU _ _).ff d.out).I,(b.out.C<|(a.out.ff<|e9.fU _ _).ff d.out).S,(b.out.C<|(a.out.ff<|e9.fU _ _).ff d.out).a,(b.out.C<|(a.out.ff<|e9.fU _ _).ff d.out).Y⟩;clear f K;apply gC 24;intro K f;go_simp;apply f.out _ _ λ_=>⟨(b.out.C<|(a.out.ff<|e9.fU _ _).ff d.out).I,(b.out.C<|(a.out.ff<|e9.fU _ _).ff d.out).S,(b.out.C<|(a.out.ff<|e9.fU _ _).ff d.out).a,(b.out.C<|(a.out.ff<|e9.fU _ _).ff d.out).Y⟩;clear f K;try simp only[Act.put,é,ý,þ]
 refine mf ft ?_ _;go_wp2_with fail;go_ret;exact⟨U,(a.out.ff<|e9.fU _ _).ff d.out⟩
def aqi(F:Ò À 113 #[Ç O n cp,Å É v] w λe b=>e=Æ (j1<|Â i)/\e9 fg w b)(h:pR r x y g k 5 v v2 slot w)(o:k<18446744073709551616) (C:∀W,e9 fg w W->Ò À 120 #[Ã<|Â ⟨i,0,Á⟩,Å É x,Å É y,Å ã k] W λe b=>e=Æ (Ä B)/\e9 fg W b): Ò À 67 #[Ç O n cp,Ã<|Â ⟨r,0,Á⟩] w λe b=>e=Æ (Ä B)/\e9 fg w b:=by
 have p:=h.M;have l:=h.N;have q:ã.wrap (k:Int)=(k:Int):=by rw[Ć];omega
 have H:=fe<|Ê F C;have c:=fe h;clear F C h;go_enter ó,í;go_wp2_with (go_at_call 113;apply H.out.1.mono;rintro e f ⟨rfl,d⟩;dsimp only[j1,ð];have j:=d.r l id;have a:=fe d;clear d);refine mD (λb=>b.cell? ⟨r,0,Á⟩=Â (Å É x)/\b.cell? ⟨r,1,Á⟩=Â (Å É y)/\b.cell? ⟨r,3,Á⟩=Â (Å É k)) [] ft ?_;have m:=fe<|Ê ((c.out.C a.out).C<|e9.fU fg _).I<|Ê ((c.out.C a.out).C<|e9.fU fg _).S ((c.out.C a.out).C<|e9.fU fg _).Y;iterate 17 apply tk m.out
 apply gC 17;intro K f;go_simp;go_at_call 120;refine(H.out.2 _<|a.out.ff<|e9.fU _ _).mono ?_;rintro e s ⟨rfl,j⟩;have d:=fe j;clear j;dsimp only;apply f.out _ _ λ_=>⟨(c.out.C<|(a.out.ff<|e9.fU _ _).ff d.out).I,(c.out.C<|(a.out.ff<|e9.fU _ _).ff d.out).S,(c.out.C<|(a.out.ff<|e9.fU _ _).ff d.out).Y⟩;clear f K;apply gC 18;intro K f;go_simp;apply f.out _ _ λ_=>⟨(c.out.C<|(a.out.ff<|e9.fU _ _).ff d.out).I,(c.out.C<|(a.out.ff<|e9.fU _ _).ff d.out).S,(c.out.C<|(a.out.ff<|e9.fU _ _).ff d.out).Y⟩;clear f K;try simp only[Act.put,é,ý,þ]
 refine mf ft ?_ _;go_wp2_with fail;go_ret;exact⟨U,(a.out.ff<|e9.fU _ _).ff d.out⟩
def aqj(F:Ò À 113 #[Ç O n cp,Å É v] w λe a=>e=Æ (j1<|Â i)/\e9 fg w a)(b:pR r x y g k 6 v v2 slot w)(z:Nat)(C:∀W,e9 fg w W->Ò À 122 #[Ã<|Â ⟨i,0,Á⟩] W λe a=>e=Æ (Å ã z)/\e9 fg W a)(d:∀W,e9 fg w W->Ò À 121 #[Å ã z] W λe a=>e=Æ (Ä B)/\e9 fg W a): Ò À 67 #[Ç O n cp,Ã<|Â ⟨r,0,Á⟩] w λe a=>e=Æ (Ä B)/\e9 fg w a:=by
 have m:=b.M;have j:=b.N;have l:=fe d;clear d;have H:=fe<|Ê F C;have o:=fe b;clear F C b;go_enter ó,í;go_wp2_with (first
  |(go_at_call 113;refine H.out.1.mono ?_;rintro e h ⟨rfl,c⟩;dsimp only[j1,ð];have p:=c.r j id;have f:=fe c;clear c)
  |(go_at_call 122;refine(H.out.2 _ f.out).mono ?_;rintro e p ⟨rfl,c⟩;have h:=fe<|f.out.ff c;clear c)
  |(go_at_call 121;refine(l.out _ h.out).mono ?_;rintro e p ⟨rfl,c⟩;have f:=fe (h.out.ff c);clear c))
 go_ret;exact⟨U,f.out⟩
def aqk(F:Ò À 113 #[Ç O n cp,Å É v] w λe b=>e=Æ (j1<|Â i)/\e9 fg w b)(d:pR r x y g k 7 v v2 slot w)(l:Option ü)(o p:Nat)(u:w.cell? ⟨i,144,Á⟩=Â (Ç l o p))(f:List ByteArray)(C:∀W,e9 fg w W->Ò À 124 #[Ç l o p] W λe b=>∃j,e=Æ j/\ik W j f b)(q:∀W a m c,ik w (Ç a m c) f W->Ò À 123 #[Ç a m c] W λe b=>e=Æ (Ä B)/\e9 fg W b): Ò À 67 #[Ç O n cp,Ã<|Â ⟨r,0,Á⟩] w λe b=>e=Æ (Ä B)/\e9 fg w b:=by
 have J:=d.M;have z:=d.N;have D:=fe q;clear q;have H:=fe<|Ê F C;have K:=fe d;clear F C d;go_enter ó,í;go_wp2_with (first
  |(go_at_call 113;refine H.out.1.mono ?_;rintro e t ⟨rfl,h⟩;dsimp only[j1,ð];have E:=h.r z id;have G:=h.r u id;have s:=fe h;clear h)
  |(go_at_call 124;refine(H.out.2 _ s.out).mono ?_;rintro e E ⟨j,rfl,h⟩;obtain⟨G,I,rfl⟩:=jj h.fq;generalize f.length=tn at h|-;have t:=fe (show ik w (Ç G tn I) f E from h.N s.out);clear h)
  |(go_at_call 123;refine(D.out _ _ _ _ t.out).mono ?_;rintro e E ⟨rfl,h⟩;have s:=fe (t.out.r.ff h);clear h))
 go_ret;exact⟨U,s.out⟩
def aql(F:Ò À 113 #[Ç O n cp,Å É v] w λe b=>e=Æ (j1<|Â i)/\e9 fg w b)(d:pR r x y g k 8 v v2 slot w)(l:Option ü)(o p:Nat)(u:w.cell? ⟨i,146,Á⟩=Â (Ç l o p))(f:List ByteArray)(C:∀W,e9 fg w W->Ò À 125 #[Ç l o p] W λe b=>∃j,e=Æ j/\ik W j f b)(q:∀W a m c,ik w (Ç a m c) f W->Ò À 123 #[Ç a m c] W λe b=>e=Æ (Ä B)/\e9 fg W b): Ò À 67 #[Ç O n cp,Ã<|Â ⟨r,0,Á⟩] w λe b=>e=Æ (Ä B)/\e9 fg w b:=by
 have J:=d.M;have z:=d.N;have D:=fe q;clear q;have H:=fe<|Ê F C;have K:=fe d;clear F C d;go_enter ó,í;go_wp2_with (first
  |(go_at_call 113;refine H.out.1.mono ?_;rintro e t ⟨rfl,h⟩;dsimp only[j1,ð];have E:=h.r z id;have G:=h.r u id;have s:=fe h;clear h)
  |(go_at_call 125;refine(H.out.2 _ s.out).mono ?_;rintro e E ⟨j,rfl,h⟩;obtain⟨G,I,rfl⟩:=jj h.fq;generalize f.length=tn at h|-;have t:=fe (show ik w (Ç G tn I) f E from h.N s.out);clear h)
  |(go_at_call 123;refine(D.out _ _ _ _ t.out).mono ?_;rintro e E ⟨rfl,h⟩;have s:=fe (t.out.r.ff h);clear h))
 go_ret;exact⟨U,s.out⟩
def aqm(F:Ò À 113 #[Ç O n cp,Å É v] w λe c=>e=Æ (j1<|Â i)/\e9 fg w c)(a:pR r x y g k 4 v v2 slot w)(j:400<g)(C:B=nX 6): Ò À 67 #[Ç O n cp,Ã<|Â ⟨r,0,Á⟩] w λe c=>e=Æ (Ä B)/\e9 fg w c:=by
 have l:=a.M;have d:=a.N;have m:(400:Int)<(g:Int):=Z
 have H:=fe<|Ê F C;have f:=fe a;clear F C a;go_enter ó,í;go_wp2_with (first
  |(go_at_call 113;refine H.out.1.mono ?_;rintro e o ⟨rfl,b⟩;dsimp only[j1,ð];have p:=b.r d id;have q:=b.r f.out.a id;have h:=fe b;clear b)
  |(go_at_call 114;refine(EZ 6 A _).mono ?_;rintro e b ⟨rfl,o⟩;subst b))
 go_ret;exact⟨by rw[H.out.2];rfl,h.out⟩
def aqn(F:Ò À 113 #[Ç O n cp,Å É v] w λe a=>e=Æ (j1<|Â i)/\e9 fg w a)(b:pR r x y g k 9 v v2 slot w)(C:B=nX 3)(d:∀W,e9 fg w W->Ò À 113 #[Ç O n cp,Å É v2] W λe a=>e=Æ (j1 Á)/\e9 fg W a): Ò À 67 #[Ç O n cp,Ã<|Â ⟨r,0,Á⟩] w λe a=>e=Æ (Ä B)/\e9 fg w a:=by
 have p:=b.M;have j:=b.N;have l:=fe d;clear d;have H:=fe<|Ê F C;have m:=fe b;clear F C b;go_enter ó,í;go_wp2_with (first
  |(go_at_call 113;with_reducible refine H.out.1.mono ?_;rintro e h ⟨rfl,c⟩;dsimp only[j1,ð];have o:=c.r j id;have q:=c.r m.out.c id;have f:=fe c;clear c)
  |(go_at_call 113;refine(l.out _ f.out).mono ?_;rintro e c ⟨rfl,h⟩;dsimp only[j1,ð];have o:=fe<|f.out.ff h;clear h)
  |(go_at_call 114;refine(EZ 3 A _).mono ?_;rintro e c ⟨rfl,h⟩;subst c))
 go_ret;exact⟨by rw[H.out.2];rfl,o.out⟩
def aqo(F:Ò À 113 #[Ç O n cp,Å É v] w λe b=>e=Æ (j1<|Â i)/\e9 fg w b)(f:pR r x y g k 9 v v2 slot w)(C:True)(p:∀W,e9 fg w W->Ò À 113 #[Ç O n cp,Å É v2] W λe b=>e=Æ (j1<|Â j)/\e9 fg W b)(l:List ByteArray)(q:∀W,e9 fg w W->Ò À 126 #[Ã<|Â ⟨i,0,Á⟩,Ã<|Â ⟨j,0,Á⟩] W λe b=>∃o,e=Æ o/\ik W o l b)(s:∀W a m c,ik w (Ç a m c) l W->Ò À 123 #[Ç a m c] W λe b=>e=Æ (Ä B)/\e9 fg W b): Ò À 67 #[Ç O n cp,Ã<|Â ⟨r,0,Á⟩] w λe b=>e=Æ (Ä B)/\e9 fg w b:=by
 have L:=f.M;have D:=f.N;have E:=fe p;have t:=fe<|Ê q s;clear p q s;have H:=fe<|Ê F C;have G:=fe f;clear F C f;go_enter ó,í;go_wp2_with (first
  |(go_at_call 113;with_reducible refine H.out.1.mono ?_;rintro e u ⟨rfl,d⟩;dsimp only[j1,ð];have z:=d.r D id;have I:=d.r G.out.c id;have h:=fe d;clear d)
  |(go_at_call 113;refine(E.out _ h.out).mono ?_;rintro e z ⟨rfl,d⟩;dsimp only[j1,ð];have u:=fe (h.out.ff d);clear d))
 apply mD (λb=>True/\True) [] ft;have I:=fe<|Ê trivial trivial;iterate 8 apply tk I.out
 apply gC 8;intro K d;go_simp;go_at_call 126;refine(t.out.1 _<|u.out.ff<|e9.fU _ _).mono ?_;rintro e M ⟨o,rfl,h⟩;obtain⟨N,P,rfl⟩:=jj h.fq;generalize l.length=tn at h|-;have z:=fe<|h.N<|u.out.ff<|e9.fU _ _;clear h;dsimp only;apply d.out _ _ λ_=>⟨trivial,trivial⟩;clear d K;apply gC 9;intro K d;go_simp;go_at_call 123;refine(t.out.2 _ _ _ _ z.out).mono ?_;rintro e Q ⟨rfl,u⟩;have J:=fe<|z.out.r.ff u;clear u;dsimp only;apply d.out _ _ λ_=>⟨trivial,trivial⟩;clear d K;apply gC 10;intro K d;go_simp;apply d.out _ _ λ_=>⟨trivial,trivial⟩;clear d K;try simp only[Act.put,é,ý,þ]
 refine mf ft ?_ _;go_wp2_with fail;go_ret;exact⟨U,J.out⟩
def aqp(F:Ò À 113 #[Ç O n cp,Å É v] w λe a=>e=Æ (j1 Á)/\e9 fg w a)(b:pR r x y g k h v v2 slot w): Ò À 67 #[Ç O n cp,Ã<|Â ⟨r,0,Á⟩] w λe a=>e=Æ (Ä<|nX 3)/\e9 fg w a:=by
 have f:=b.M;have H:=fe F;clear F b;go_enter ó,í;go_wp2_with (first
  |(go_at_call 113;refine H.out.mono ?_;rintro e i ⟨rfl,c⟩;dsimp only[j1,ð];have d:=fe c;clear c)
  |(go_at_call 114;refine(EZ 3 A _).mono ?_;rintro e c ⟨rfl,i⟩;subst c))
 go_ret;exact⟨U,d.out⟩
end
structure Qn where
 x:Nat
 y:Nat
 g:Nat
 k:Nat
 r:Int
 v:Int
 C:Int
 I:Nat
structure Qn.Ok(q:Qn):Prop where
 x:q.x<8
 y:q.y<8
 g:q.g<1000000
 k:q.k<18446744073709551616
 avS:2<=q.r
 avT:q.r<=9
 v:-1<=q.v
 v2:-1<=q.C
 avU:q.I<16
def pS(a:List ByteArray):ByteArray:=if a=[]then⟨#[45]⟩else ja ⟨#[44]⟩ a
def CK(a:List (Nat×fH))(p:fH)(q:Qn):ByteArray:=
 if q.r=2 then fC ((p.s q.x).C q.I).toNat
 else if q.r=3 then fC (p.s q.x).fj.toNat
 else if q.r=4 then if 400<q.g then nX 6 else qG (gl p.s [] q.x q.y q.g q.k)
 else if q.r=5 then tJ p.s q.x q.y q.k 0 401
 else if q.r=6 then M8 (E9 p.s)
 else if q.r=7 then pS (p.r.map oI)
 else if q.r=8 then pS (p.C.map qF)
 else match mF a q.C with
  |none=>nX 3
  |some b=>pS<|nL p.s b.2.s 8
def tM(a:List (Nat×fH))(q:Qn):ByteArray:=
 match mF a q.v with
 |none=>nX 3
 |some p=>CK a p.2 q
def Uw{M:Nat}(b:∀z∈vX,z.size<=M)(d:M<=100)(f:vX.length<=400000)(h:ik w (Ç O m i) vX W): Ò À 123 #[Ç O m i] W λe g=>e=Æ (Ä<|pS vX)/\e9 fg W g:=by obtain⟨e,g,j⟩:=h.I;have k:=Fo vX b;have:M*vX.length<=100*400000:=ű d f;exact apV g Z j e Z
def aqr(s:St):E9 s<18446744073709551616:=by unfold E9 MI;exact T7 _ _<|aaJ λi=>aaM _ _ _
theorem Ux{b:ByteArray}(c:B.size<=1)(d:b.size<=1):(B++b).size<=2:=by grind
def abj(s t:St):∀z∈nL s t 8,z.size<=2:=λz a=>by
 unfold nL at a;obtain⟨i,_,h⟩:=Ş.1 a;unfold sB tK at h;rcases â.1 h with h|h
 .rcases â.1 h with h|h
  .split at h
   .cases h
   .simp at h;subst h;exact Ux (yr i)<|æ _
  .split at h
   .cases h
   .simp at h;subst h;exact Ux (yr i)<|æ _
 .unfold o6 at h;obtain⟨j,_,h⟩:=Ş.1 h;unfold wE at h;split at h
  .cases h
  .simp at h;subst h;exact Ux (yr i)<|aa1 j
section
variable{cp r:Nat}{vs:List (Nat×fH)}{q:Qn}
def aqs(u:qE O n vs w)(S:n<=1000)(T:0<n)(hvo:∀p∈vs,Ug p.2)(d:pR r q.x q.y q.g q.k q.r q.v q.C q.I w)(ok:q.Ok)(V:iN w)(l:lS w)(hd:qH w): Ò À 67 #[Ç O n cp,Ã<|Â ⟨r,0,Á⟩] w λe G=>e=Æ (Ä<|tM vs q)/\e9 fg w G:=by
 have F:=MN (cp:=cp) u S T q.v ok.v;unfold tM;cases B:mF vs q.v with
 |none=>
  rw[B]at F;exact aqp F d
 |some p=>
  rw[B]at F;have h:=F;have X:=IW B;have f:=u.M X;have i:=hvo p X;obtain⟨x,y,g,k,kind,v,C,Y⟩:=q;obtain⟨o,H,hg,I,va,uA,hv,M9,J⟩:=ok;simp only at o H hg I va uA hv M9 J d h B|-;obtain⟨cb,_,cs⟩:=f.r.gU o;have GU:gi (k:Int):=⟨Z,Z⟩;unfold CK;simp only;split
  .rename_i e;subst e;have c:=cs Y J;have j:=f.C.C x Y;rw[<-ņ j.1]at c;exact aqf h d o J _ c λW b=>yq _ (by have:=j.1;have:=j.2;omega) W<|l.r b
  .split
   .rename_i e;subst e;have j:=f.C.fj x;rw[<-ņ j.1]at cb;exact aqg h d o _ cb λW b=>yq _ (by have:=j.1;have:=j.2;omega) W<|l.r b
   .split
    .rename_i e;subst e;split
     .rename_i hh;exact aqm h d hh U
     .exact aqh h d Z I λW b=>apY (f.r.r b id) f.C (V.r b id) (l.r b) x y g k o H Z Z GU
    .split
     .rename_i e;subst e;exact aqi h d I λW b=>apg (f.r.r b id) f.C (V.r b id) (l.r b) o H GU
     .split
      .rename_i e;subst e;exact aqj h d _ (λW b=>aoA (f.r.r b id) f.C) λW b=>aqe _ (aqr _)<|hd.r b
      .split
       .rename_i e;subst e;obtain⟨K,L,M,N⟩:=f.N;exact aqk h d K _ L M _ (λW b=>aaW U i.I i.C (l.r b)<|nK.C N b) λW a m c t=>Uw (λz P=>by obtain⟨e,D,rfl⟩:=Ú.1 P;exact M5 (i.C e D).2) Z (by rw[ù];exact i.I) t
       .split
        .rename_i e;subst e;obtain⟨K,L,M,N⟩:=f.S;exact aql h d K _ L M _ (λW b=>apo U i.M i.r (l.r b)<|nK.C N b) λW a m c t=>Uw (λz P=>by obtain⟨e,D,rfl⟩:=Ú.1 P;exact aa8 (i.r e D).1 (i.r e D).2) Z (by rw[ù];have:=i.M;omega) t
        .have e:kind=9:=Z
         subst e;have E:∀W,e9 fg w W->Ò À 113 #[Ç O n cp,Å É C] W λe G=>e=Æ (j1 ((mF vs C).map (·.1)))/\e9 fg W G:=λW b=>MN (u.I b) S T C M9;cases Q:mF vs C with
         |none=>
          rw[Q]at E;exact aqn h d U E
         |some p2=>
          rw[Q]at E;exact aqo h d trivial E _ (λW b=>apB (f.r.r b id)<|(u.M<|IW Q).r.r b id) λW a m c t=>Uw (abj _ _) Z (by have:=Uo p.2.s p2.2.s 8;omega) t
end
end Go.Proofs.Y.gd
namespace Go.Proofs.Y.kA
open Go Go.Proofs Go.RowKit Go.Proofs.Y.Lift Go.Proofs.Y.gd
def kB(a:List (Nat×fH)):List fH:=a.map (·.2)
def abk(d:fH)(l:List fH):fH:=l.foldl (λa b=>if a.h<b.h then b else a) d
theorem abl:∀(a:List (Nat×fH)) (d:Nat×fH),(vi d a).2=abk d.2 (kB a)
 |[],_=>rfl
 |x::r,d=>by show(vi (Am d x) r).2=abk (if d.2.h<x.2.h then x.2 else d.2) (kB r);rw[abl r];unfold Am;split<;>rfl
theorem Uy{a b:List (Nat×fH)}(h:kB a=kB b)(v:Int):(mF a v).map (·.2)=(mF b v).map (·.2):=by
 have c:∀i:Nat,(a[i]?).map (·.2)=(b[i]?).map (·.2):=λi=>by have:=congrArg (λl:List fH=>l[i]?) h;simpa[kB]using this
 unfold mF;grind [abl]
theorem aqt{a b:List (Nat×fH)}(h:kB a=kB b):a.length=b.length:=by have:=congrArg List.length h;simpa[kB]using this
theorem abm{a b:List (Nat×fH)}(h:kB a=kB b)(v:Int)(x:Nat)(gM:List Tx):rv a v x gM=rv b v x gM:=by have c:=Uy h v;unfold rv;grind [aqt]
theorem aqu{a b:List (Nat×fH)}(h:kB a=kB b)(q:Qn):tM a q=tM b q:=by
 have c:=Uy h q.v;have d:=Uy h q.C;have e:∀p:fH,CK a p q=CK b p q:=λp=>by unfold CK;grind
 unfold tM;grind
structure lH(s:List fH):Prop where
 I:0<s.length
 C:s.length<=40
 r:∀v∈s,Ug v/\gJ v.s/\0<=v.h/\v.h<s.length
def sC(a:List (Nat×fH))(v:Int)(x:Nat)(gM:List Tx):List fH:=kB a++(rv a v x gM).1.toList
def lH.M{f:List (Nat×fH)}(h:lH (kB f)){gM:List Tx}(j:∀t∈gM,t.Ok)(l:gM.length<=1000):lH (sC f c i gM):=by
 unfold kA.sC;have z:(kB f).length=f.length:=by simp[kB]
 unfold rv;cases m:mF f c with
 |none=>simpa using h
 |some p=>
  have n:p.2∈kB f:=Ú.2 ⟨p,IW m,U⟩;let⟨B,k,C,D⟩:=h.r _ n;simp only;split
  .simpa using h
  .rename_i E;cases g:vg i p.2.s gM with
   |none=>simpa using h
   |some r=>
    simp only[Option.toList];have F:=h.C;have o:gJ r.1:=by unfold vg at g;obtain⟨G,w,rfl⟩:=ò.1 g;exact(Uh gM j k (λ_ q=>by cases q) (λ_ q=>by cases q) (by simp;omega) (by simp;omega) w).1.r i<|Af _
    refine⟨fl,by simp;omega,λu y=> ?_⟩;rcases â.1 y with q|q
    .let⟨a,b,e,d⟩:=h.r u q;refine⟨a,b,e,?_⟩;rw[Ù];simp;omega
    .simp at q;subst q;refine⟨ao4 j k l g,o,by show 0<=p.2.h+1;omega,?_⟩;rw[Ù];show p.2.h+1<_;simp;omega
def jb(Y:fw)(u w:Í):Prop:=∀(i j o:Nat) (v:Ñ),Y i j->u.cell? ⟨i,o,Á⟩=Â v->∃a,w.cell? ⟨j,o,Á⟩=Â a/\fp Y v a
section
variable{Y:fw}
theorem aqv{k:IntKind}(h:fp Y (Å k c) v):v=Å k c:=by cases h;rfl
theorem aqw(h:fp Y (Ä B) v):v=Ä B:=by cases h;rfl
theorem Na(h:fp Y (Ã<|Â a) v):∃b,v=Ã (Â b)/\hD Y a b:=by
 cases h with
 |jT q=>exact⟨_,U,q⟩
def Nb(h:fp Y (Ç O n i) v):∃b,v=Ç b n i/\∀a,O=Â a->∃d,b=Â d/\hD Y a d:=by
 cases h with
 |oz=>exact⟨Á,U,λa q=>by cases q⟩
 |kP q=>exact⟨_,U,λa e=>by cases e;exact⟨_,U,q⟩⟩
theorem aqx(a:kv v=Î)(h:fp Y v x):x=v:=by cases h<;>first|rfl|(simp[kv]at a;done)
theorem At(h:hD Y ⟨b,i,Á⟩ a):∃c,a=⟨c,i,Á⟩/\Y b c:=by let⟨d,e,f⟩:=h;let⟨c,g,j⟩:=a;grind
theorem jb.r(a:jb Y u w){k:IntKind}(h:Y i j)(d:u.cell? ⟨i,b,Á⟩=Â (Å k c)):w.cell? ⟨j,b,Á⟩=Â (Å k c):=by let⟨e,f,g⟩:=a i j b _ h d;grind [aqv]
theorem jb.C(a:jb Y u w)(h:Y i j)(b:u.cell? ⟨i,n,Á⟩=Â (Ä B)):w.cell? ⟨j,n,Á⟩=Â (Ä B):=by let⟨c,d,e⟩:=a i j n _ h b;grind [aqw]
theorem jb.aqy(a:jb Y u w)(c:kv v=Î)(h:Y i j)(b:u.cell? ⟨i,n,Á⟩=Â v):w.cell? ⟨j,n,Á⟩=Â v:=by let⟨d,e,f⟩:=a i j n _ h b;grind [aqx]
def Uz(s:gd.St):∀v∈iy s,(∃n,v=Å ã n)\/∃p,v=Ä p:=λv n=>by
 unfold iy at n;obtain⟨i,_,rfl⟩:=Ú.1 n;unfold qy qx;split
 .exact È ⟨_,U⟩
 .split
  .exact Ï ⟨_,U⟩
  .exact È ⟨_,U⟩
def aqz(a:jb Y u w){s:gd.St}(c:Y b i)(d:mE b s h u):mE i s h w:=by
 refine⟨λj v e=> ?_,a.r c d.h⟩;have f:=d.C j v e;rcases Uz s v (ç e)with⟨n,rfl⟩|⟨p,rfl⟩
 .exact a.r c f
 .exact a.C c f
def abn(a:jb Y u w)(f:Y b i)(g:∀v∈l,kv v=Î)(h:Al ⟨b,j,Á⟩ n l u):Al ⟨i,j,Á⟩ n l w:=by let⟨p,c,k,m⟩:=h;let⟨G,q,r⟩:=a b i j _ f k;obtain⟨s,rfl,t⟩:=Nb r;refine⟨s,c,q,λd x e=> ?_⟩;let⟨H,y,z,B⟩:=m d x e;let⟨I,C,D⟩:=t _ z;obtain⟨E,rfl,F⟩:=At D;exact⟨E,y,C,a.aqy (g x<|ç e) F B⟩
def aqA(a:jb Y u w){v:fH}(c:Y b i)(h:sx b v u):sx i v w:= ⟨aqz a c h.r,h.C,h.I,h.M,abn a c (N' _) h.N,abn a c (aat _) h.S⟩
def wZ{α β:Type}{R:Nat->α->β->Prop}:∀(l:List α) (k:Nat),(∀j x,l[j]?=Â x->∃y,R (k+j) x y)->∃a:List β,a.length=l.length/\∀j y,a[j]?=Â y->∃x,l[j]?=Â x/\R (k+j) x y
 |[],_,_=>⟨[],U,λj y h=>by simp at h⟩
 |x::r,k,h=>by
  let⟨y,c⟩:=h 0 x U;obtain⟨a,d,e⟩:=wZ r (k+1) λj z b=>by let⟨q,f⟩:=h (j+1) z b;exact⟨q,by rwa[show k+1+j=k+(j+1) by omega]⟩
  refine⟨y::a,by simp[d],λj z b=> ?_⟩;cases j with
  |zero=>cases b;exact⟨x,U,c⟩
  |succ j=>
   let⟨q,f,g⟩:=e j z b;exact⟨q,f,by rwa[show k+(j+1)=k+1+j by omega]⟩
theorem I1(a:jb Y u w){e:List (Nat×fH)}(i:fp Y z jQ)(h:MO z e u):∃c,kB c=kB e/\MO jQ c w:=by
 obtain⟨J,n,k,rfl,l,f⟩:=h;obtain⟨g,rfl,m⟩:=Nb i;let⟨c,o,K⟩:=wZ (R:=λj (x y:Nat×fH)=>x.2=y.2/\∃q d,g=Â ⟨q,d,Á⟩/\w.cell? ⟨q,d+j,Á⟩=Â (Ã<|Â ⟨y.1,0,Á⟩)/\sx y.1 y.2 w) e 0 λj x p=>by let⟨b,v⟩:=x;let⟨q,d,r,s,t⟩:=f.C j b v p;let⟨L,B,C⟩:=m _ r;obtain⟨y,rfl,D⟩:=At C;let⟨M,E,F⟩:=a q y _ _ D s;obtain⟨N,rfl,G⟩:=Na F;obtain⟨H,rfl,I⟩:=At G;exact⟨(H,v),U,y,d,B,by rwa[œ],aqA a I t⟩
 refine⟨c,?_,g,n,k,U,l,⟨by rw[o];exact f.r,λj b v q=> ?_⟩⟩
 .refine Ŕ λj=> ?_;unfold kB;grind
 .grind
end
def lr(a:Nat->Prop)(B:Nat):fw:=⟨λi j=>i=j/\a i,B⟩
def aqB(a:Nat->Prop)(B:Nat):Bi (lr a B):= ⟨λ_ _ _ h k=>h.1.symm.trans k.1,λ_ _ _ h k=>h.1.trans k.1.symm,λi j h=>by rw[h.1]⟩
def Au{V:Nat->Prop}{B:Nat}(h:∀i,X i->V i):(lr X B).r (lr V B):=⟨λ_ _ q=>⟨q.1,h _ q.2⟩,λ_=>aqB V B,U⟩
def kO(B:Nat)(a:Nat->Prop)(w:Í):Prop:=∀b,a b->∃c e d,w.heap[b]?=Â (Û c e d)/\d.2<=c.size/\fT (lr a B) c c/\0<c.size/\Dd c/\e≠304/\e≠305
section
variable{B:Nat}{V:Nat->Prop}
def kO.I(h:kO B X w)(k:kO B V w):kO B (λb=>X b\/V b) w:=by
 rintro b (q|q)
 .let⟨c,e,a,d,f,g,i⟩:=h b q;exact⟨c,e,a,d,f,g.I (Au λ_=>È),i⟩
 .let⟨c,e,a,d,f,g,i⟩:=k b q;exact⟨c,e,a,d,f,g.I (Au λ_=>Ï),i⟩
def kO.C(h:kO B X w)(k:∀b,X b->u.heap[b]?=w.heap[b]?):kO B X u:=λb q=>by let⟨c,e,a,d,f⟩:=h b q;exact⟨c,e,a,by rwa[k b q],f⟩
theorem kO.r(h:kO B X w)(a:X b)(d:w.cell? ⟨b,i,Á⟩=Â v):fp (lr X B) v v:=by let⟨c,e,j,f,_,g,_⟩:=h b a;simp only[à,f,ö,ì,if_false]at d;rcases g.S i with⟨q,_⟩|⟨x,k,l,m,n⟩;all_goals grind
def CL(h:fp (lr X B) (Ã<|Â a) v):X a.block:=by
 cases h with
 |jT q=>exact q.1.2
def CM(h:fp (lr X B) (Ç (Â a) n i) v):X a.block:=by
 cases h with
 |kP q=>exact q.1.2
def aqC{Y:fw}(h:kv v=Î):fp Y v v:=by cases v<;>first|exact .mG _|exact .iG _ _|(simp[kv]at h;done)
def pT{Y:fw}(h:∀v∈d.toList,fp Y v v):fT Y d d:=⟨U,λi a _=>h _<|î.2<|ă a⟩
def aqD(h:kv v=Î):yM v=Ë:=by
 cases v with
 |int k n=>cases k<;>first|rfl|(simp[kv]at h;done)
 |_=>rfl
def Av(h:∀v∈d.toList,yM v=Ë):Dd d:=λk v a=>h v<|î.2<|ĵ a
def I2(v:Ñ)(i:Nat):Prop:=v.ownBlock=Â i
def I3(X:Nat->Prop)(g b:Nat)(a c:Ñ)(i:Nat):Prop:=X i\/i=g\/i=b\/I2 a i\/I2 c i
def abo{G:Í}(a:mA T=Î)(h:tH v T u)(o:∀j,v.ownBlock=Â j->G.heap.size<=j)(p:sj G.heap.size u):∀i,I2 v i->∃c e f,u.heap[i]?=Â (Û c e f)/\f.2<=c.size/\fT (lr V B) c c/\0<c.size/\Dd c/\e≠304/\e≠305:=λi b=>by
 rcases h with rfl|⟨g,n,c,k,rfl,l⟩
 .cases b
 .have e:g=i:=by unfold I2 at b;simpa[Value.ownBlock]using b
  subst e;let⟨r,m⟩:=p g k T (0,0) (o g U) l a;exact⟨k,T,(0,0),l,Ø _,pT λv d=>aqC<|m v d,r,Av λv d=>aqD<|m v d,(λq=>by rw[q]at a;cases a),(λq=>by rw[q]at a;cases a)⟩
def abp(h:tH v T u)(a:∀i,I2 v i->V i):fp (lr V B) v v:=by
 rcases h with rfl|⟨g,n,c,b,rfl,d⟩
 .exact .oz _ _
 .exact fp.kP (Y:=lr V B) ⟨⟨U,a g U⟩,U,U⟩ n c
theorem aqE{G:Í}(J:kO B X G)(k:e9 fg G u)(K:∀i,X i->i<G.heap.size){l:List (Nat×fH)}{s:gd.St}(o:Uc b s h G u)(r:Ub l b G u m)(L:∀p∈l,X p.1): ∃e,(∀i,X i->e i)/\e m/\kO B e u/\∀i,e i->X i\/G.heap.size<=i:=by
 have t:=k.Y _ λi c T w M y=>by rw[ı M]at y;cases y
 let⟨a,d,N,z,C,D,E⟩:=o.r;refine⟨I3 X m b a d,λi q=>È q,Ï<|È U,?_,?_⟩
 .rintro i (q|rfl|rfl|q|q)
  .let⟨c,e,w,n,x,f,j⟩:=J i q;exact⟨c,e,w,by rwa[k.N i (K i q) id],x,f.I (Au λ_=>È),j⟩
  .let⟨F,n,x,f⟩:=r.r;have H:∀v∈F.toList,v=Ã Á\/∃j,v=Ã (Â ⟨j,0,Á⟩)/\I3 X i b a d j:=λv e=>by
    rcases f v e with q|q|q
    .unfold sy at q;obtain⟨p,I,rfl⟩:=Ú.1 q;exact Ï ⟨_,U,È<|L p I⟩
    .exact Ï ⟨_,q,Ï<|Ï<|È U⟩
    .exact È q
   refine⟨F,136,(0,0),n,Ø _,pT λv e=> ?_,x,Av λv e=> ?_,A,A⟩
   .rcases H v e with rfl|⟨j,rfl,I⟩
    .exact .lW
    .exact .jT ⟨⟨U,I⟩,U,U⟩
   .rcases H v e with rfl|⟨j,rfl,I⟩<;>rfl
  .have f:∀v∈jl s a++[Å É h,d],fp (lr (I3 X m i a d) B) v v/\yM v=Ë:=λv e=>by
    rw[Ai]at e;have I:=abp (B:=B) (V:=I3 X m i a d) z λj q=>Ï<|Ï<|Ï<|È q;have F:=abp (B:=B) (V:=I3 X m i a d) C λj q=>Ï<|Ï<|Ï<|Ï q;have H:∀{x:Ñ} {T:č},tH x T u->yM x=Ë:=λ{x T} q=>by rcases q with rfl|⟨_,_,_,_,rfl,_⟩<;>rfl
    rcases â.1 e with q|q
    .rcases â.1 q with q|q
     .rcases Uz s v q with⟨n,rfl⟩|⟨p,rfl⟩
      .exact⟨.iG _ _,U⟩
      .exact⟨.ko _,U⟩
     .grind
    .simp at q;rcases q with rfl|rfl
     .exact⟨.iG _ _,U⟩
     .grind
   exact⟨_,147,(0,0),N,Ø _,pT λv e=>(f v<|by simpa using e).1,by simp[mN],Av λv e=>(f v<|by simpa using e).2,A,A⟩
  .exact abo U z D t i q
  .exact abo U C E t i q
 .rintro i (q|rfl|rfl|q|q)
  .exact È q
  .exact Ï r.C
  .exact Ï o.C
  .exact Ï<|D i q
  .exact Ï<|E i q
def Nc{Y:fw}(h:fp Y v x):fp (lr X B) v v->fp (lr (λj=>∃i,X i/\Y i j) B) x x:=by
 induction h with
 |mG b=>exact λ_=> .mG b
 |iG k n=>exact λ_=> .iG k n
 |ko s=>exact λ_=> .ko s
 |lW=>exact λ_=> .lW
 |@jT a a' q=>exact λz=>fp.jT (Y:=lr (λj=>∃i,X i/\Y i j) B) ⟨⟨U,_,CL z,q.1⟩,U,U⟩
 |oz n c=>exact λ_=> .oz n c
 |@kP a a' q n c=>exact λz=>fp.kP (Y:=lr (λj=>∃i,X i/\Y i j) B) ⟨⟨U,_,CM z,q.1⟩,U,U⟩ n c
 |vv=>exact λ_=> .vv
 |fn f=>exact λ_=> .fn f
 |vw=>exact λ_=> .vw
 |vx=>exact λ_=> .vx
 |vy=>exact λ_=> .vy
 |yJ t _ b=>exact λz=> .yJ t (b (by cases z with|yJ _ y=>exact y))
 |oO f _ b=>exact λz=> .oO U λi c _=>b i (by rwa[f]) c (by cases z with|oO _ y=>exact y i _ _)
 |nT f _ b=>exact λz=> .nT U λi c _=>b i (by rwa[f]) c (by cases z with|nT _ y=>exact y i _ _)
def aqF{Y:fw}(h:fp Y v x):yM x=yM v:=by cases h<;>rfl
theorem UA{Y:fw}{r:Nat->Prop}(h:jk Y r u w)(s:kO B X u):kO B (λj=>∃i,X i/\Y i j) w:=by
 rintro j ⟨i,t,x⟩;let⟨c,a,e,F,y,z,C,b,G,H,I⟩:=h.r i j x;let⟨d,J,qR,m,_,D,K,E,n,o⟩:=s i t;rw[z]at m;cases m;have L:=b.C.resolve_right λq=>q.2.1.elim n o;refine⟨a,e,y,C,?_,pT λv f=> ?_,Z,Av λv f=> ?_,n,o⟩
 .grind
 .obtain⟨k,g,rfl⟩:=Ĝ f;have l:k<a.size:=by simpa using g
  have:=Nc (b.r k Z l)<|D.C k Z Z;simpa using this
 .obtain⟨k,g,rfl⟩:=Ĝ f;have l:k<a.size:=by simpa using g
  have p:=aqF<|b.r k Z l;rw[(E k c[k]<|å Z)]at p;simpa using p
def Aw{Y:fw}(h:jk Y X u w):jb Y u w:=λi j o v b c=>h.gB (a:=⟨i,o,Á⟩) (a':=⟨j,o,Á⟩) ⟨b,U,U⟩ c
end
end Go.Proofs.Y.kA
namespace Go.Proofs.Y.Lift
open Go
def abq{α β:Type}{c:α->β->Option (ForInStep β)}{I:β->Prop}(d:∀a b s,I b->c a b=Â s->I s.value): ∀(l:List α) (b r:β),I b->forIn l b c=Â r->I r
 |[],b,r,hi,h=>by simp at h;subst h;exact hi
 |a::l,b,r,hi,h=>by
  rw[List.forIn_cons]at h;cases e:c a b with
  |none=>rw[e]at h;simp at h
  |some s=>
   rw[e]at h;have:=d a b s hi e;cases s with
   |done x=>simp at h;subst h;exact this
   |yield x=>simp at h;exact abq d l x r this h
def jU.gU(h:jU v):∀x∈v.cells,jU x:=by
 intro x a;cases h with
 |oO h=>
  obtain⟨i,b,rfl⟩:=Array.mem_iff_getElem.1 a;exact h i b
 |nT h=>simp[Ĺ]at a;subst a;exact .nT h
 |_=>simp[Ĺ]at a;subst a;constructor
def ZP(a:č->Option ħ):Prop:=∀t i z,a t=Â i->i.zero=Â z->jU z
def UB(h:∀x∈d,jU x):jU (.agg d):=.oO λ_ a=>h _<|ă a
theorem aqG{l:č->Option ħ}(h:ZP l){m:Array Field}(g:ŕ l m=Â zJ)(q:zJ.zero=Â z):jU z:=by
 unfold ŕ at g;simp only[<-Array.forIn_toList]at g;generalize t:(forIn m.toList _ _:Option _)=L at g;cases L with
 |none=>simp at g
 |some r=>
  have u:=abq (I:=λx=>∀a,x.2.2.2.2.2.2.2.1=Â a->∀v∈a,jU v) ?_ _ _ _ ?_ t
  .have:∃a,r.2.2.2.2.2.2.2.1=Â a/\z=.agg a:=by
    grind [ò]
   obtain⟨a,e,rfl⟩:=this;exact UB<|u a e
  .intro f b s w d;have y:∀(e:Option Ñ) (k:Nat) (x:Option (Array Ñ)),(∀z,e=Â z->jU z)->x=(if k>Ų then Á else do pure ((<-b.2.2.2.2.2.2.2.1)++(<-e).cells))->∀a,x=Â a->∀v∈a,jU v:=by
    intro e k x B C a c v n;subst C;split at c
    .simp at c
    .cases j:b.2.2.2.2.2.2.2.1 with
     |none=>rw[j]at c;simp at c
     |some E=>
      cases o:e with
      |none=>rw[j,o]at c;simp at c
      |some D=>
       rw[j,o]at c;simp at c;subst c;rcases Array.mem_append.1 n with p|p
       .exact w _ j v p
       .exact(B D o).gU v p
   cases e:l f.type with
   |none=>rw[e]at d;simp at d
   |some j=>
    rw[e,ê,ş]at d;have k:=y j.zero (b.2.1+j.size) _ (λz q=>h _ _ _ e q) U;generalize(if b.2.1+j.size>Ų then Á else(do pure ((<-b.2.2.2.2.2.2.2.1)++(<-j.zero).cells):Option (Array Ñ)))=X at d k;generalize(if b.1.size+1<m.size then ";" else "")=Y at d;simp only[bind,pure,Option.bind]at d;repeat' split at d
    all_goals first
     |(simp only[Ô]at d;subst d;exact k)
     |(simp at d;done)
  .intro a c v n;simp at c;subst c;simp at n
def aqH{c:č->Option ħ}(h:ZP c){d:TypeDesc}(a:Χ c d=Â zJ)(b:zJ.zero=Â z):jU z:=by
 unfold Χ at a;cases d with
 |struct k=>exact aqG h a b
 |array n e=>
  simp only[ê,Ü,ā,Ô]at a;obtain⟨f,v,st,_,rfl⟩:=a;simp only at b;split at b
  .simp at b
  .split at b
   .simp at b;subst b;exact UB fl
   .simp only[ò]at b;obtain⟨j,g,rfl⟩:=b;refine UB λx k=> ?_;simp only[Array.mem_flatten,Array.mem_replicate]at k;obtain⟨l,⟨_,rfl⟩,k⟩:=k;exact(h _ _ _ v g).gU x k
 |pointer e=>
  simp only[ê,Ü,ā]at a;let⟨f,v,a⟩:=a;repeat' split at a
  all_goals first
   |(simp at a;done)
   |(simp only[Ü,Ô]at a;obtain⟨_,_,rfl⟩:=a;simp only[ł,Ô]at b;subst b;constructor)
 |slice e=>
  simp only[ê,Ü,ā,Ô]at a;obtain⟨_,_,_,_,rfl⟩:=a;simp only[ł,Ô]at b;subst b;constructor
 |map k e=>
  simp only[ê,Ü,ā,Ô]at a;obtain⟨_,_,_,_,_,_,_,_,rfl⟩:=a;simp only[ł,Ô]at b;subst b;constructor
 |chan k e=>
  simp only[ê,Ü,ā,Ô]at a;obtain⟨_,_,_,_,rfl⟩:=a;simp only[ł,Ô]at b;subst b;constructor
 |func k e v=>
  simp only[ê,Ü,ā,Ô]at a;obtain⟨_,_,rfl⟩:=a;simp only[ł,Ô]at b;subst b;constructor
 |_=>simp at a
def abr{T:Tables}(a:∀(t:Nat) (i:ħ) (z:Ñ),T.types[t]?=Â i->i.zero=Â z->jU z):∀f,ZP<|ţ T f
 |0=>λt i z h=>by simp[ţ]at h
 |f+1=>λt i z h b=>by
  unfold ţ at h;split at h
  .exact a t i z h b
  .simp only[Ü]at h;let⟨d,_,c⟩:=h;exact aqH (abr a f) c b
def aqI(a:∀(t:Nat) (i:ħ) (z:Ñ),P.types[t]?=Â i->i.zero=Â z->jU z):nV P:=λt i z h b=>by
 have h:P.toTables.info? t=Â i:=h;unfold Tables.info? at h;split at h
 .exact a t i z h b
 .exact abr a _ t i z h b
end Go.Proofs.Y.Lift
namespace Go.Proofs.Y.fv
open Go Go.Conc Go.Proofs.Y.Lift Go.RowKit Go.Conc.Lib Go.ConcR.Gen
open Go.Proofs Go.Proofs.YtgpphkdoanciiaaGreatDoor
def UC:Ñ->Bool
 |.agg a=>a.toList.all yU
 |v=>yU v
def abt(h:UC v=Î):jU v:=by
 cases v with
 |agg b=>exact .oO λi a=>Gr<|(ĭ.1 h) _<|î.2<|ă a
 |_=>exact Gr h
def abu:Ñ->Bool
 |ë a=>a.toList.all UC
 |v=>UC v
def aqJ(h:abu v=Î):jU v:=by
 cases v with
 |tuple b=>exact .nT λi a=>abt<|(ĭ.1 h) _<|î.2<|ă a
 |_=>exact abt h
def Fs(i:ħ):Bool:=match i.zero with
 |some z=>abu z
 |none=>Î
def aqK(h:P.types.toList.all Fs=Î):nV P:=aqI λt i z a b=>by have:=(ĭ.1 h) i<|î.2<|ĵ a;unfold Fs at this;rw[b]at this;exact aqJ this
def yO:nV À:=aqK fP
end Go.Proofs.Y.fv
namespace Go.Proofs.Y.kA
open Go Go.Conc Go.Proofs Go.RowKit Go.Proofs.Y.Lift Go.Proofs.Y.gd Go.Proofs.Y.fv
noncomputable def nB:Nat:=À.globals.size
def pU(a:Nat->Prop)(b:Nat):Prop:=a b\/b=1\/b=2\/b=3\/b=4
def Nd(b:Nat)(e:č)(w:Í):Prop:=∃c a,w.heap[b]?=Â (Û c e a)/\a.2<=c.size/\a.2<=16/\0<c.size/\∀v∈c.toList,∃k n,v=Å k n
structure mP(w:Í):Prop where
 fx:nB<=w.heap.size
 M:kO nB (λb=>b=1\/b=2) w
 I:Nd 3 304 w
 C:Nd 4 305 w
 S:gd.lS w
 jd:iN w
 N:qH w
section
variable{V:Nat->Prop}
theorem mP.r{w':Í}(h:mP w)(f:nB<=w'.heap.size)(k:∀b,b=1\/b=2\/b=3\/b=4->w'.heap[b]?=w.heap[b]?):mP w':=by
 have d:∀b o,b=1\/b=2\/b=3\/b=4->w'.cell? ⟨b,o,Á⟩=w.cell? ⟨b,o,Á⟩:=λb o e=>by simp only[à,k b e]
 refine⟨f,h.M.C λb e=>k b<|e.imp id È,?_,?_,?_,?_,?_⟩
 .let⟨c,i,a,r⟩:=h.I;exact⟨c,i,by rwa[k 3 fl],r⟩
 .let⟨c,i,a,r⟩:=h.C;exact⟨c,i,by rwa[k 4 fl],r⟩
 .have c:=h.S;have i:À.globalNamed "internal/strconv.uint64pow10"=Â 1:=ft
  unfold gd.lS χ ο at*;grind
 .let⟨c,g,a⟩:=h.jd.M;refine⟨⟨c,g,by rwa[k 2 fl]⟩,λi r j=> ?_⟩;rw[d 2 _ fl,d 2 _ fl,d 2 _ fl];exact h.jd.I i r j
 .have:=h.N;unfold qH at*;grind
def abv(u:kO nB X w)(x:∀b,X b->lD b=Ë)(g:mP w):L9 (pU X) (pU X) nB w:=by
 have p:∀{a:Nat->Prop} {c:Array Ñ},(∀b,a b->pU X b)->fT (lr a nB) c c->fT (qu (pU X) nB) c c:=λ{a c} hX r=>r.I<|Au hX;refine⟨?_,g.fx⟩;have s:∀b e,(e=304\/e=305)->lD b=Î->Nd b e w->∃c e d,w.heap[b]?=Â (Û c e d)/\d.2<=c.size/\fT (qu (pU X) nB) c c/\(pU X b->0<c.size/\(lD b=Î->(e=304\/e=305)/\d.2<=16)/\(lD b=Ë->Dd c)):=λb e y B h=>by let⟨c,d,f,j,l,m,o⟩:=h;exact⟨c,e,d,f,j,pT λv i=>by obtain⟨k,n,rfl⟩:=o v i;exact .iG _ _,λ_=>⟨m,λ_=>⟨y,l⟩,λq=>by rw[B]at q;cases q⟩⟩
 rintro b (q|q|q|rfl|rfl)
 .let⟨c,e,d,f,j,l,m,o,_⟩:=u b q;exact⟨c,e,d,f,j,p (λ_=>È) l,λ_=>⟨m,λt=>(by rw[x b q]at t;cases t),λ_=>o⟩⟩
 .let⟨c,e,d,f,j,l,m,o,_⟩:=g.M b<|È q;exact⟨c,e,d,f,j,p (λi k=>k.elim (λz=>Ï<|È z) λz=>Ï<|Ï<|È z) l,λ_=>⟨m,λt=>(by rw[q]at t;cases t),λ_=>o⟩⟩
 .let⟨c,e,d,f,j,l,m,o,_⟩:=g.M b<|Ï q;exact⟨c,e,d,f,j,p (λi k=>k.elim (λz=>Ï<|È z) λz=>Ï<|Ï<|È z) l,λ_=>⟨m,λt=>(by rw[q]at t;cases t),λ_=>o⟩⟩
 .exact s 3 304 (È U) U g.I
 .exact s 4 305 (Ï U) U g.C
def pV(a:lD b=Ë\/i<16)(h:w.cell? ⟨b,i,Á⟩=Â v):(World.tp (lq V w) xQ 0).cell? ⟨b,i,Á⟩=Â v:=by
 have j:(World.tp (lq V w) xQ 0).heap[b]?=(w.heap[b]?).map (pJ V b):=EI b;simp only[à,j];simp only[à]at h;cases g:w.heap[b]? with
 |none=>rw[g]at h;cases h
 |some k=>
  rw[g]at h;cases k with
  |cells c e m=>
   simp only[Ă,pJ,ö,ì,if_false]at h|-;split
   .rename_i d;split at d
    .split at d
     .rename_i l;cases d;rcases a with a|a
      .rw[l]at a;cases a
      .unfold u9;rw[Array.getElem?_extract];simp;exact⟨by have:=(á.1 h).1;omega,h⟩
     .cases d;exact h
    .cases d;exact h
   .rename_i f;split at f
    .split at f<;>exact absurd U<|f _ _ _
    .exact absurd U<|f _ _ _
  |_=>cases h
def abw{T:ŷ}(d:kO nB X w)(e:∀b,X b->lD b=Ë):jb (lr X nB) w (World.tp (lq V w) T 0):=by rintro i j o v ⟨rfl,a⟩ c;exact⟨v,pV (È<|e i a) c,d.r a c⟩
end
def RD(s:List fH)(b:Ñ)(a:Nat->Prop)(w:Í):Prop:=∃c,kB c=s/\lH s/\MO b c w/\kO nB a w/\fp (lr a nB) b b
section
variable{V:Nat->Prop}{s:List fH}
def abx(h:kO nB X w)(k:∀b,X b->u.heap[b]?=w.heap[b]?):jb (lr X nB) w u:=by rintro i j o v ⟨rfl,a⟩ c;exact⟨v,by simp only[à,k i a];exact c,h.r a c⟩
def RD.r(h:RD s v X w)(k:∀b,X b->u.heap[b]?=w.heap[b]?):RD s v X u:=by let⟨l,d,e,f,a,c⟩:=h;let⟨g,i,j⟩:=I1 (abx a k) c f;exact⟨g,i.trans d,e,j,a.C k,c⟩
def I4(r:Nat)(q:Qn)(w:Í):Prop:=pR r q.x q.y q.g q.k q.r q.v q.C q.I w
def aby{Y:fw}(a:jb Y u w){r:Nat}{q:Qn}(b:Y r i)(h:I4 r q u):I4 i q w:= ⟨a.r b h.I,a.r b h.S,a.r b h.a,a.r b h.Y,a.r b h.N,a.r b h.M,a.r b h.c,a.r b h.b⟩
def aqL{T:ŷ}(g:mP w):gd.lS (World.tp (lq V w) T 0):=by
 have a:=g.S;have h:À.globalNamed "internal/strconv.uint64pow10"=Â 1:=ft
 unfold gd.lS χ ο at*;rw[h]at a|-;simp only[ş]at a|-;have i:(World.tp (lq V w) T 0).heap[1]?=(w.heap[1]?).map (pJ V 1):=EI 1;rw[i];cases f:w.heap[1]? with
 |none=>rw[f]at a;cases a
 |some j=>
  rw[f]at a;cases j with
  |cells c e k=>
   simp only[Ă,pJ,lD]at a|-;split
   .rename_i b;split at b<;>(simp at b;obtain⟨rfl,_⟩:=b;exact a)
   .rename_i d;split at d
    .exact absurd U<|d _ _ _
    .exact absurd U<|d _ _ _
  |_=>cases a
theorem abz{T:ŷ}(g:mP w):iN (World.tp (lq V w) T 0):=by
 let⟨f,h,d⟩:=g.jd.M;refine⟨?_,λi r e=> ?_⟩
 .have a:(World.tp (lq V w) T 0).heap[2]?=(w.heap[2]?).map (pJ V 2):=EI 2;rw[a,d];simp only[Ă,pJ,lD];grind
 .let⟨a,b,c⟩:=g.jd.I i r e;exact⟨pV (È U) a,pV (È U) b,pV (È U) c⟩
def aqM{T:ŷ}(g:mP w):qH (World.tp (lq V w) T 0):=pV (Ï A) g.N
theorem Ft{T:ŷ}:kt (World.tp (lq V w) T 0):=λi o h=>B' (Sh:=V) (w:=w) i o h
theorem aqN{l:fc}{q:Qn}{r:Nat}(x:RD s v X l.w)(I:∀b,X b->l.M b)(y:kO nB V l.w)(J:∀b,V b->l.M b)(h:V r)(z:I4 r q l.w)(ok:q.Ok)(g:mP l.w)(K:∀b,b=1\/b=2\/b=3\/b=4->l.M b)(j:∀b,X b\/V b->lD b=Ë)(m:List (Nat×fH))(B:kB m=s): EL (λg=>ya g=Î) 67 #[v,Ã<|Â ⟨r,0,Á⟩] l (pU λb=>X b\/V b) λe _=>e=Ä (tM m q):=by
 let⟨L,c,d,D,E,o⟩:=x;have t:=E.I y;refine⟨?_,abv t j g,?_,?_,λT=> ?_⟩
 .rintro b (q|q);all_goals grind
 .intro b a;unfold ya at a;simp at a;exact Ï a
 .refine pT λe a=> ?_;simp at a;rcases a with rfl|rfl
  .exact o.fR<|Au λi k=>È<|È k
  .exact fp.jT (Y:=qu (pU λb=>X b\/V b) nB) ⟨⟨U,È<|Ï h⟩,U,U⟩
 .have a:=abw (V:=pU λb=>X b\/V b) (T:=T) t j;obtain⟨F,f,N,n,G,rfl,O,u⟩:=I1 a (o.fR<|Au λi k=>È k) D;have i:n=(kB F).length:=by rw[u.r];simp[kB]
  have P:=d.I;have Q:=d.C;rw[f,c]at i;have C:=aqs (cp:=G) u Z Z (λp H=> ?_) (aby a ⟨U,Ï h⟩ z) ok (abz g) (aqL g)<|aqM g
  .apply C.mono;rintro e S ⟨rfl,k⟩;exact⟨by rw[aqu<|f.trans<|c.trans B.symm],k.gU Ft⟩
  .have:p.2∈s:=by rw[<-c,<-f];exact Ú.2 ⟨p,H,U⟩
   exact(d.r _ this).1
end
def CN(r:Nat)(v:Int)(x:Nat)(gM:List Tx)(w:Í):Prop:=∃a n c b,CG r v x a n c w/\Cw a n b w/\lR b=gM/\n<=1000
section
variable{V:Nat->Prop}{s:List fH}
def abA(h:kO nB X w):∀i,X i->i<w.heap.size:=λi a=>by let⟨c,e,d,b,_⟩:=h i a;exact(á.1 b).1
theorem abB{T:ŷ}(f:lD b=Ë)(h:w.heap[b]?=Â (Û d e xJ))(i:xJ.2<=d.size):∃a,(World.tp (lq V w) T 0).heap[b]?=Â (Û d e a)/\a.2<=d.size:=by have g:(World.tp (lq V w) T 0).heap[b]?=(w.heap[b]?).map (pJ V b):=EI b;rw[g,h];simp only[Ă,pJ,f,ì,if_false];grind
def aqO{T:ŷ}(h:kO nB X w)(d:∀b,X b->lD b=Ë):kO nB X (World.tp (lq V w) T 0):=λb a=>by let⟨c,e,m,f,g,i⟩:=h b a;let⟨j,k,l⟩:=abB (V:=V) (T:=T) (d b a) f g;exact⟨c,e,j,k,l,i⟩
def aqP{T:ŷ}(k:kO nB X w)(l:∀b,X b->lD b=Ë){r:Nat}{v:Int}{gM:List Tx}(o:X r)(h:CN r v i gM w):CN r v i gM (World.tp (lq V w) T 0):=by
 let⟨D,n,E,F,g,p,G,H⟩:=h;have m:=l r o;refine⟨D,n,E,F,⟨pV (È m) g.M,pV (È m) g.N,pV (È m) g.I⟩,⟨p.r,λj a t q=> ?_⟩,G,H⟩;let⟨tb,I,s,u,d,J⟩:=p.C j a t q;have y:X tb:=by have:=k.r o g.I;rw[s]at this;exact CM this
 have z:=CL<|k.r y u;have f:=l a z;let⟨K,O,B⟩:=d.b;let⟨c,e,P,C,L,_⟩:=k a z;rw[B]at C;cases C;obtain⟨M,N,_⟩:=abB f B L;exact⟨tb,I,s,pV (È<|l tb y) u,⟨⟨K,M,N⟩,pV (È f) d.r,pV (È f) d.C,pV (È f) d.I,pV (È f) d.M,pV (È f) d.Y,pV (È f) d.N⟩,J⟩
def Rg(s:List fH)(v:Ñ)(u:Í):Prop:=∃X,RD s v X u
def Rg.tp{T:ŷ}(h:Rg s v w):Rg s v (World.tp w T n):=by let⟨X,h⟩:=h;exact⟨X,h.r λ_ _=>rfl⟩
def aqQ{Y:fw}{d:Nat->Prop}(h:rK Y d u w)(a:fp Y v x)(e:Rg s v u):∃c,RD s x c w/\∀b,c b->∃i,Y i b:=by let⟨X,f⟩:=e;have g:RD s v X {u with tape:=w.tape,drawn:=w.drawn}:=f.r λ_ _=>rfl;let⟨t,j,k,l,m,n⟩:=g;let⟨o,p,q⟩:=I1 (Aw h) a l;exact⟨_,⟨o,p.trans j,k,q,UA h m,Nc a n⟩,λb ⟨i,_,r⟩=>⟨i,r⟩⟩
theorem aqR{l:fc}{r:Nat}{gM:List Tx}(hRD:RD s v X l.w)(hU:∀b,X b->l.M b)(L:kO nB V l.w)(hV:∀b,V b->l.M b)(N:V r)(hq:CN r h m gM l.w)(hx:m<8)(o:-1<=h)(UD:∀t∈gM,t.Ok)(hn:gM.length<=1000)(g:mP l.w)(hG:∀b,b=1\/b=2\/b=3\/b=4->l.M b)(y:∀b,X b\/V b->lD b=Ë)(B:List (Nat×fH))(H:kB B=s): EL (λg=>ya g=Î) 66 #[v,Ã<|Â ⟨r,0,Á⟩] l (pU λb=>X b\/V b) λz u=>∃p n c,z=ë #[Ç p n c,Ä (rv B h m gM).2]/\Rg (sC B h m gM) (Ç p n c) u:=by
 let⟨vs,h1,D,h3,O,d⟩:=hRD;have P:=O.I L;refine⟨?_,abv P y g,?_,?_,λT=> ?_⟩
 .rintro b (q|q);all_goals grind
 .intro b u;unfold ya at u;simp at u;exact Ï u
 .refine pT λh o=> ?_;simp at o;rcases o with rfl|rfl
  .exact d.fR<|Au λi j=>È<|È j
  .exact fp.jT (Y:=qu (pU λb=>X b\/V b) nB) ⟨⟨U,È<|Ï N⟩,U,U⟩
 .have f:=aqO (V:=pU λb=>X b\/V b) (T:=T) O λb q=>y b<|È q;obtain⟨z,k1,Q,n,S,rfl,W,E⟩:=I1 (abw (V:=pU λb=>X b\/V b) (T:=T) P y) (d.fR<|Au λi j=>È j) h3;obtain⟨tp,tn,tc,a,q1,q2,rfl,q4⟩:=(aqP (V:=pU λb=>X b\/V b) (T:=T) L (λb q=>y b<|Ï q) N hq);have c:=k1.trans h1;have hlen:n=s.length:=by rw[E.r,<-c];simp[kB]
  have avV:=D.I;have hle:=D.C;have mr:kt (World.tp (lq (pU λb=>X b\/V b) l.w) T 0):=Ft;have C:=aoY E Z Z W (λp I=>by
   have:p.2∈s:=by rw[<-c];exact Ú.2 ⟨p,I,U⟩
   have:=(D.r _ this).2.2.2;omega) q1 q2 q4 (abz g) hx o
  have u:sC z h m (lR a)=sC B h m (lR a):=by unfold sC;rw[abm<|c.trans H.symm,c,H]
  have F:lH (sC z h m<|lR a):=lH.M (by rwa[c]) UD hn;have ha:=abm (c.trans H.symm) h m<|lR a;generalize World.tp (lq (pU λb=>X b\/V b) l.w) T 0=G at*;refine C.mono ?_;rintro e u' ⟨k,hA⟩;rcases hA with⟨J,rfl⟩|⟨nv,b,tB,J,rfl,e3,e4,gb,gn,gc,rfl,e6⟩
  .refine⟨⟨Q,n,S,by rw[ha],?_⟩,k.gU mr⟩;rw[<-u];have K:sC z h m (lR a)=s:=by unfold sC;rw[J,c];simp
   rw[K]at F|-;exact⟨X,z,c,F,⟨Q,n,S,U,W,E.I k⟩,f.C λi j=>k.N i (abA f i j) id,d⟩
  .let⟨i,m1,m2,m3,_⟩:=aqE f k (abA f) e4 e6 λp I=>by
    let⟨j,hj⟩:=ĕ I;let⟨sb,so,f1,f2,_⟩:=E.C j p.1 p.2 hj;have:X sb:=by rw[f1]at d;exact CM d
    exact CL<|f.r this f2
   refine⟨⟨Â ⟨gb,0,Á⟩,gn,gc,by rw[ha],?_⟩,k.gU mr⟩;rw[<-u];have K:sC z h m (lR a)=kB (z++[(b,nv)]):=by unfold sC;rw[J];simp[kB]
   rw[K]at F|-;exact⟨i,_,U,F,e3,m3,fp.kP (Y:=lr i nB) ⟨⟨U,m2⟩,U,U⟩ gn gc⟩
end
structure wH where
 r:Nat->Int×Nat×List Tx
 C:Nat->Qn
def oJ(s:List fH):List (Nat×fH):=s.map λv=>(0,v)
theorem I5(s:List fH):kB (oJ s)=s:=by simp[kB,oJ,Function.comp_def]
def CO(s:List fH)(i:Int×Nat×List Tx):List fH:=sC (oJ s) i.1 i.2.1 i.2.2
def pW(a:wH)(I:List Nat)(b:List fH):Nat->List fH
 |0=>b
 |k+1=>CO (pW a I b k)<|a.r<|I.getD k 0
def yu(a:wH)(kd:Nat->Int)(p:Nat)(s:List fH):ByteArray:=if kd p=1 then(rv (oJ s) (a.r p).1 (a.r p).2.1 (a.r p).2.2).2 else tM (oJ s) (a.C p)
def iD(e:fc)(a:Nat->Prop)(c:wH)(kd:Nat->Int)(R:Nat)(d:List fH)(f:Nat->Prop):xZ where
 γ:=List fH
 C:=d
 M:=λk s g=>g=CO s (c.r<|(ic kd R).getD k 0)
 RD:=λs h V w=>RD s h V w/\∀b,V b->a b\/e.w.heap.size<=b
 I:=λp=>yu c kd p<|pW c (ic kd R) d<|fO kd p
 r:=f
def UE{kd:Nat->Int}:∀(R k:Nat),k<(ic kd R).length->fO kd ((ic kd R).getD k 0)=k
 |0,k,h=>by simp[ic]at h
 |R+1,k,h=>by
  by_cases q:kd R=1
  .rw[tA q]at h|-;rcases Nat.lt_or_ge k (ic kd R).length with z|z
   .have e:(ic kd R++[R]).getD k 0=(ic kd R).getD k 0:=by simp[Ğ,Ĥ z]
    rw[e];exact UE R k z
   .have e:k=(ic kd R).length:=by simp at h;omega
    subst e;simp[Ğ,fO]
  .rw[wm q]at h|-;exact UE R k h
section
variable{y:Nat->Prop}
def Nf(h:kO nB y w)(g:mP w):∀b,y b->lD b=Ë:=λb i=>by
 let⟨c,e,m,f,_,_,_,_,j,k⟩:=h b i;cases d:lD b with
 |false=>rfl
 |true=>
  unfold lD at d;simp at d;rcases d with rfl|rfl
  .let⟨l,qR,a,_⟩:=g.I;rw[f]at a;cases a;exact absurd U j
  .let⟨l,qR,a,_⟩:=g.C;rw[f]at a;cases a;exact absurd U k
def aqS(p:kO nB X w)(k:∀b,X b->u.heap[b]?=w.heap[b]?){r:Nat}{gM:List Tx}(g:X r)(h:CN r c i gM w):CN r c i gM u:=by
 have d:∀{b o:Nat} {z:Ñ},X b->w.cell? ⟨b,o,Á⟩=Â z->u.cell? ⟨b,o,Á⟩=Â z:=λ{b o z} l q=>by simp only[à,k b l];exact q
 let⟨C,n,D,E,m,s,F,G⟩:=h;refine⟨C,n,D,E,⟨d g m.M,d g m.N,d g m.I⟩,⟨s.r,λj a t q=> ?_⟩,F,G⟩;let⟨tb,H,y,B,e,I⟩:=s.C j a t q;have l:X tb:=by have:=p.r g m.I;rw[y]at this;exact CM this
 have f:=CL<|p.r l B;let⟨J,K,L⟩:=e.b;exact⟨tb,H,y,d l B,⟨⟨J,K,by rwa[k a f]⟩,d f e.r,d f e.C,d f e.I,d f e.M,d f e.Y,d f e.N⟩,I⟩
end
structure I6(l0:fc)(bt:wH)(kd:Nat->Int)(rq:Nat->Nat)(R:Nat)(Q:Nat->Prop):Prop where
 M:mP l0.w
 I:∀b,b=1\/b=2\/b=3\/b=4->l0.O b
 C:kO nB Q l0.w
 fq:∀b,Q b->l0.O b
 r:∀p,p<R->Q (rq p)
 kS:∀p,p<R->kd p=1->CN (rq p) (bt.r p).1 (bt.r p).2.1 (bt.r p).2.2 l0.w/\(bt.r p).2.1<8/\-1<=(bt.r p).1/\(∀t∈(bt.r p).2.2,t.Ok)/\(bt.r p).2.2.length<=1000
 S7:∀p,p<R->kd p≠1->I4 (rq p) (bt.C p) l0.w/\(bt.C p).Ok
def abC{V:Nat->Prop}{l:fc}{a:Ñ->Í->Prop}(h:EL X F d l V vQ)(b:∀v u,vQ v u->a v u):EL X F d l V a:= ⟨h.N,h.S,h.I,h.r,λT=>(h.C T).mono λe u q=>by
  cases e with
  |returned v=>exact⟨b v u q.1,q.2⟩
  |_=>exact q⟩
section
variable{l0:fc}{bt:wH}{kd:Nat->Int}{rq:Nat->Nat}{R:Nat}{Q C d:Nat->Prop}{B:List fH}{E F:Option ü}
def abD{s:List fH}(h:fv.nD ((kN (iD l0 d bt kd R B C) i n R kd rq D E F j9 j7 k m J j qX l0).r À) b s):s=pW bt (ic kd R) B b:=by
 have c:∀(b:Nat) (s:((kN (iD l0 d bt kd R B C) i n R kd rq D E F j9 j7 k m J j qX l0).r À).γ),fv.nD ((kN (iD l0 d bt kd R B C) i n R kd rq D E F j9 j7 k m J j qX l0).r À) b s->s=pW bt (ic kd R) B b:=λb s h=>by
  induction h with
  |vG=>rfl
  |Dz _ a e=>
   rwa[e]at a
 exact c b s h
def aqT(h:I6 l0 bt kd rq R Q)(N:l0.w.heap.size<=m):EF (kN (iD l0 d bt kd R B C) i n R kd rq D E F j9 j7 k m J j qX l0):=by
 apply alG yO E_ D' U;intro a s O W l q t f x y P g G;let⟨f,S⟩:=f;have T:=y.fx m<|g m<|Ï U;have H:l0.w.heap.size<=l.w.heap.size:=Z
 have o:=G;have p:=h.M.r (Ì h.M.fx H) λb c=>o b<|h.I b c;have r:=h.C.C λb c=>o b<|h.fq b c;have e:=Ib<|wz q;let⟨I,K⟩:=h.S7 _ e.1 e.2;refine⟨_,abC (aqN f x r (λb c=>g b<|È<|h.fq b c) (h.r _ e.1) (aby (abx h.C λb c=>o b<|h.fq b c) ⟨U,h.r _ e.1⟩ I) K p (λb c=>g b<|È<|h.I b c) (λb c=>c.elim (Nf (by let⟨_,_,_,_,z,_⟩:=f;exact z) p b)<|Nf r p b) (oJ s)<|I5 s) λv u L=> ?_⟩;rw[L];have z:=abD t;have M:(kN (iD l0 d bt kd R B C) i n R kd rq D E F j9 j7 k m J j qX l0).b a=fO kd ((jC kd R).getD a 0):=if_pos q;rw[M]at z;show _=Ä (yu bt kd ((jC kd R).getD a 0)<|pW bt (ic kd R) B<|fO kd<|(jC kd R).getD a 0);rw[<-z];unfold yu;rw[if_neg e.2]
theorem aqU(h:I6 l0 bt kd rq R Q)(hZ:(∀b,Q b->d b)/\∀b,b=1\/b=2\/b=3\/b=4->d b)(Z2:l0.w.heap.size<=m):EE (kN (iD l0 d bt kd R B C) i n R kd rq D E F j9 j7 k m J j qX l0):=by
 refine alH yO E_ D' U (λs o u=>Rg s o u) (λs o u T n q=>Rg.tp q) ?_;intro T s o W l H I g K L hq r M;let⟨g,PZ⟩:=g;have hs:=L.fx m<|r m<|Ï U;have N:l0.w.heap.size<=l.w.heap.size:=Z
 have t:=M;have x:=h.M.r (Ì h.M.fx N) λb a=>t b<|h.I b a;have y:=h.C.C λb a=>t b<|h.fq b a;have G:=H;have f:=Ia<|wz G;let⟨O,P,S,V,X⟩:=h.kS _ f.1 f.2;refine⟨_,abC (aqR g K y (λb a=>r b<|È<|h.fq b a) (h.r _ f.1) (aqS h.C (λb a=>t b<|h.fq b a) (h.r _ f.1) O) P S V X x (λb a=>r b<|È<|h.I b a) (λb a=>a.elim (Nf (by let⟨_,_,_,_,z,_⟩:=g;exact z) x b)<|Nf y x b) (oJ s)<|I5 s) λv u hv=> ?_,?_⟩
 .obtain⟨p,z,c,rfl,Y⟩:=hv;refine⟨p,z,c,CO s<|bt.r<|(ic kd R).getD T 0,?_,U,Y⟩;have e:(kN (iD l0 d bt kd R B C) i n R kd rq D E F j9 j7 k m J j qX l0).e (T+1)=yu bt kd ((ic kd R).getD T 0) (pW bt (ic kd R) B<|fO kd<|(ic kd R).getD T 0):=U;rw[e,UE R T G,<-(abD I)];unfold yu;rw[if_pos f.2]
 .intro Y Sh u w s' w_ LZ e p h3 h4;let⟨V',k1,c⟩:=aqQ e p h3;refine⟨V',⟨k1,λb a=> ?_⟩,c⟩;let⟨z,hi⟩:=c b a;rcases h4 z b hi with((q|q)|q)|q;all_goals grind
end
section
variable{R:Nat}{kd:Nat->Int}{o:Nat->Nat}{r:List Ē}{l:fc}{u:Nat->fc}{bt:wH}{j f:Nat->Prop}{s0:List fH}
def aqV{s:List fH}(h:zZ (iD l f bt kd R s0 j) k s):s=pW bt (ic kd R) s0 k:=by
 have b:∀(k:Nat) (s:(iD l f bt kd R s0 j).γ),zZ (iD l f bt kd R s0 j) k s->s=pW bt (ic kd R) s0 k:=λk s h=>by
  induction h with
  |vG=>rfl
  |Dz _ a c=>
   rwa[c]at a
 exact b k s h
structure Ax(f:Nat->Prop)(bt:wH)(R:Nat)(kd:Nat->Int)(s0:List fH)(l:fc)(an:Nat)(sl:Ñ)(l':fc):Prop where
 M:∀b,l.O b->l'.O b/\l'.w.heap[b]?=l.w.heap[b]?
 r:l'.O an/\∀p,p<R->l'.w.cell? ⟨an,p,Á⟩=Â (Ä<|yu bt kd p<|pW bt (ic kd R) s0<|fO kd p)
 S:∃V,RD (pW bt (ic kd R) s0<|fO kd R) sl V l'.w/\∀b,V b->l'.O b/\(f b\/l.w.heap.size<=b)
 d:l'.d=0
 q:¬l'.q
 rd:∀b,¬l'.I b
 C:(∀a,¬l'.r a)/\(∀a,¬l'.N a)/\∀a,¬l'.K a
 I:l'.w.cell? ⟨an,R,Á⟩=Á/\kY l'.w an=Â (0,0)
def aqW{a:fc}(h:Gp (iD l f bt kd R s0 j) R kd l i v a):Ax f bt R kd s0 l i v a:=by let⟨s,V,g,c,k⟩:=h.Ic;have e:=aqV g;subst e;exact⟨h.vL,h.kJ,⟨V,c.1,λb q=>⟨k b q,c.2 b q⟩⟩,h.d,h.q,h.rd,h.u7,h.Dh⟩
def aqX{J:(Loc->Prop)->Nat->Jd}{F:Ē}(P:qX=F.at y (Ð Q (j9::jJ)::L)::r)(c:fv.si À zX i (LX kd o R n v l qX) .fB D u E w qJ)(C:Option (Nat×Nat))(s:gA l)(S:∀b,¬l.I b)(W:¬l.q)(Y:l.d=0)(Ng:wA zX i l)(H:I6 l bt kd o R X)(hZ:(∀b,X b->f b)/\∀b,b=1\/b=2\/b=3\/b=4->f b)(I:∀b,f b->l.O b)(K:∀b,j b->f b)(Ck:RD s0 v j l.w)(xW:w.os=l.w.os/\w.output=l.w.output)(hn:1<=n)(hs:n+R<1000) (hJ:∀t x z B p m c,wA t x z->gA z->Ax f bt R kd s0 l B (Ç p m c) z->fv.fi À Î (J t x) z (G (F.at (y.put ((Q[j9]?).bind (·.dst))<|ë #[Ç (Â ⟨B,0,Á⟩) R R,Ç p m c])<|Ð Q jJ::L) r)): ∃N t x T V Ie g e tB h,ſ À N (Į E w C) qJ=(.next<|Į g e tB,h)/\(e.os=l.w.os/\e.output=l.w.output)/\fv.si À t x (J t x) T V Ie g e h:= alz (M:=iD l f bt kd R s0 j) P c C s S W Y Ng (λb q=>I b<|K b q) (λs C V w e h L=>⟨h.1.r L,h.2⟩) (λs C V w h=>⟨by let⟨_,_,_,⟨g,n,N,e,_⟩,_⟩:=h.1;exact⟨g,n,N,e⟩,λb q=>(h.2 b q).imp (I b) id⟩) ⟨Ck,λb h=>È<|K b h⟩ xW hn hs (λg N V T cq B ba bi all e=>⟨aqU H hZ e,aqT H e⟩) λt x z B p m c e g N=>hJ t x z B p m c e g<|aqW N
end
end Go.Proofs.Y.kA
namespace Go.Proofs.Y.mQ
open Go Go.Proofs Go.RowKit Go.Proofs.Y.Lift Go.Proofs.Y.gd
def jo(c:Int):Bool:=decide (48<=c)&&decide (c<=57)
def sD(c:Int):Bool:=decide (97<=c)&&decide (c<=104)
def wI(c:Int):Int:=
 if c=105 then 1 else if c=103 then 2 else if c=98 then 3 else if c=99 then 4 else if c=109 then 5
 else if c=114 then 6 else if c=108 then 7 else if c=117 then 8 else if c=100 then 9 else 0
def Nh(c:Int):Int:=if c=62 then 1 else if c=123 then 2 else if c=58 then 3 else 0
def abE(h:48<=c/\c<=57):jo c=Î:=by simp[jo,h]
theorem Fu(c:Int):jo c=Î↔(48<=c/\c<=57):=by simp[jo]
def aqY(c:Int):sD c=Î↔(97<=c/\c<=104):=by simp[sD]
def ry(k:Int):List Int:=
 if k=1 then[86,58,120,47,66]else if k=2 then[86,58,120,115]else if k=3 then[86,58,120]
 else if k=4 then[86,58,120,62,121,40,110,44,107,41]else if k=5 then[86,58,120,62,121,40,107,41]
 else if k=9 then[86,58,87]else[86]
def sE(k:Int):List Int:=
 if k=1 then[121,61,110]else if k=2 then[80]else[121,40,110,44,107,41]
def pb(a c:Int):Bool:=
 if a=86\/a=87 then c==104||jo c
 else if a=110\/a=107 then jo c
 else if a=120\/a=121 then sD c
 else if a=115 then jo c||(decide (97<=c)&&decide (c<=102))
 else c==a
def qI(a c:Int):Int:=
 if c=48\/jo c=Ë then 0
 else if a=86\/a=87 then 1
 else if a=110\/a=107 then 5
 else 0
def j2(s:ByteArray):List Int:=s.data.toList.map λc=>((c.toNat:Nat):Int)
def aqZ(B:ByteArray)(k:Nat)(h:k<B.size):(j2 B).drop k=((B[k].toNat:Nat):Int)::(j2 B).drop (k+1):=by
 have a:k<(j2 B).length:=by simpa[j2]using h
 rw[List.drop_eq_getElem_cons a];congr 1;simp[j2,ċ]
theorem UF(B:ByteArray):(j2 B).length=B.size:=by unfold j2;simp_all
theorem wK(s:ByteArray)(h:0<s.size):j2 s=((s[0].toNat:Nat):Int)::(j2 s).tail:=by have:=aqZ s 0 h;grind
theorem abF(s:ByteArray)(h:s.size=0):j2 s=[]:=by grind [Ý,UF]
def aq0(s:ByteArray):j2 (s.extract 1 s.size)=(j2 s).tail:=by unfold j2;rw[Ĳ,ĺ,<-List.map_tail];congr 1;rw[ĥ,<-List.drop_one];apply List.take_of_length_le;simp_all
theorem aq1(s:ByteArray)(h:s.size<=10):(s.extract 1 s.size).size<=10:=by grind [Č]
theorem aq2(a c:Int):0<=qI a c/\qI a c<=5:=by unfold qI;grind
structure PT where
 c:List Int
 p:ByteArray
structure PR where
 c:List Int
 r:List PT
structure PD where
 S:List PR
 r:Bool
 I:PR
 M:Bool
 N:PT
structure PS where
 C:List Int
 r:Int
 I:Int
 M:Int
 d:PD
namespace PD
def Y(d:PD):List PT:=if d.M then d.I.r++[d.N]else d.I.r
def C(d:PD):List PR:=if d.r then d.S++[⟨d.I.c,d.Y⟩]else d.S
def ov(d:PD)(i:Nat)(z:Int):PD:={d with I:={d.I with c:=d.I.c.set i z}}
def oK(d:PD)(i:Nat)(z:Int):PD:={d with N:={d.N with c:=d.N.c.set i z}}
def iw(d:PD)(i:Nat)(z:Int):PD:=if d.M then d.oK i z else d.ov i z
def oL(d:PD)(p:ByteArray):PD:={d with N:={d.N with p:=p}}
def Fs:PT:=⟨[0,0,0,0,0],⟨#[]⟩⟩
def abG(k:Int):PR:=⟨[0,0,0,0,k,0,0,0],[]⟩
def nO(d:PD):PD:={d with I:=⟨d.I.c,d.Y⟩,M:=Î,N:=Fs}
def Fv(d:PD)(k:Int):PD:={S:=d.C,r:=Î,I:=abG k,M:=Ë,N:=d.N}
def fL(d:PD)(want z:Int):PD:=
 if want=86 then d.ov 5 z else if want=87 then d.ov 6 z else if want=120 then d.iw 0 z else if want=121 then d.iw 1 z
 else if want=110 then d.iw 2 z else if want=107 then d.iw 3 z else if want=115 then d.ov 7 z else d
def tN(d:PD)(i:Nat):Int:=if d.M then d.N.c.getD i 0 else d.I.c.getD i 0
def G(d:PD)(a:Int):Int:=if a=86 then d.I.c.getD 5 0 else if a=87 then d.I.c.getD 6 0 else if a=110 then d.tN 2 else d.tN 3
end PD
def nj(a c:Int):Int:=
 if a=120\/a=121 then Þ [97,98,99,100,101,102,103,104] c.toNat.toUInt8
 else if a=115 then Þ [48,49,50,51,52,53,54,55,56,57,97,98,99,100,101,102] c.toNat.toUInt8
 else if c=104 then-1 else(c-48)%256
def pX(z c:Int):Int:=É.wrap<|É.wrap (z*10)+(c-48)%256
def pY(st:PS)(c:Int):Option PS:=
 if c=59/\st.d.S.length+1<24 then Â {st with C:=[82]}
 else if c=44/\0<st.d.Y.length/\st.d.Y.length<8 then Â {st with C:=[120,84],d:=st.d.nO}
 else Á
def yv(st:PS)(k:Int):Option PS:=if k=0 then Á else Â {st with C:=ry k,d:=st.d.Fv k}
def yw(st:PS)(k:Int):Option PS:=if k=0 then Á else Â {st with C:=sE k,I:=0,d:=st.d.oK 4 k}
def ow(st:PS)(a c:Int):PS:={st with r:=qI a c,M:=a,d:=st.d.fL a (nj a c)}
def jS(B:ByteArray)(k:Nat)(st:PS)(c:Int):Option PS:=
 match st.C with
 |[]=>pY st c
 |want::tl=>
  if want=82 then yv st (wI c)
  else if want=66 then
   if sD c=Î then Â (ow {st with C:=[84],d:=st.d.nO} 120 c)else pY st c
  else if want=84 then yw st (Nh c)
  else if want=80 then
   if c=125 then Â {st with C:=tl,d:=st.d.oL (B.extract (k-st.I.toNat) k)}
   else if st.I=40\/lE c=0 then Á else Â {st with I:=st.I+1}
  else if pb want c=Î then Â {ow st want c with C:=tl}
  else Á
def CP(st:PS)(c:Int):PS:={st with r:=st.r-1,d:=st.d.fL st.M (pX (st.d.G st.M) c)}
def kX(B:ByteArray)(k:Nat)(st:PS)(c:Int):Option PS:=
 if 0<st.r/\jo c=Î then Â (CP st c)else jS B k {st with r:=0} c
def j4(B:ByteArray):Nat->Nat->PS->Nat×PS
 |0,k,st=>(k,st)
 |f+1,k,st=>if h:k<B.size then match kX B k st (B[k].toNat:Int)with
  |none=>(k,st)
  |some a=>j4 B f (k+1) a
  else(k,st)
def pd0:PD:=⟨[],Ë,⟨[],[]⟩,Ë,⟨[],⟨#[]⟩⟩⟩
def nP:PS:=⟨[82],0,0,0,pd0⟩
def sF(c:Int)(w:Í): Ò À 94 #[Å ū c] w λe a=>e=Æ (õ<|jo c)/\a=w:=by
 go_enter Tryz.func94,Tryz.ntmps94;go_wp2;all_goals go_ret
 all_goals exact⟨I_ (by simp only[jo];first|(simp[*];done)|(rw[Ę];simp;omega)),U⟩
def aq3(s:ByteArray)(c:Int)(w:Í): Ò À 167 #[Ä s,Å ū c] w λe a=>e=Æ (Å É<|Þ s.data.toList c.toNat.toUInt8)/\a=w:=by go_enter Tryz.func167,Tryz.ntmps167;go_wp2;rw[run_callFunc_extern Tryz.func185 ft ft ft ft,Lib.run_indexByteString];simp only[ų];rw[Oper.upon_value];go_wp2;go_ret;exact⟨U,U⟩
def I7(s:ByteArray)(c:Int)(w:Í): Ò À 146 #[Ä s,Å ū c] w λe a=>e=Æ (Å É<|Þ s.data.toList c.toNat.toUInt8)/\a=w:=by go_enter Tryz.func146,Tryz.ntmps146;go_wp2_with (go_at_call 167;refine(aq3 _ _ _).mono ?_;rintro e a ⟨rfl,rfl⟩);go_ret;exact⟨U,U⟩
def Ni(c:Int):Bool:=jo c||(decide (97<=c)&&decide (c<=102))
def aq4:∀n:Fin 256,decide (0<=Þ [97,98,99,100,101,102,103,104] n.val.toUInt8)=sD (n.val:Int):=by decide+kernel
def aq5:∀n:Fin 256,decide (0<=Þ [48,49,50,51,52,53,54,55,56,57,97,98,99,100,101,102] n.val.toUInt8)=Ni (n.val:Int):=by decide+kernel
def aq6(a:0<=c)(b:c<256):decide (0<=Þ [97,98,99,100,101,102,103,104] c.toNat.toUInt8)=sD c:=by have:=aq4 ⟨c.toNat,Z⟩;rwa[show((c.toNat:Nat):Int)=c from by omega]at this
def aq7(a:0<=c)(b:c<256):decide (0<=Þ [48,49,50,51,52,53,54,55,56,57,97,98,99,100,101,102] c.toNat.toUInt8)=Ni c:=by have:=aq5 ⟨c.toNat,Z⟩;rwa[show((c.toNat:Nat):Int)=c from by omega]at this
def UG(c:Int)(b:0<=c)(d:c<256)(w:Í): Ò À 98 #[Å ū c] w λe a=>e=Æ (õ<|sD c)/\a=w:=by
 have f:=aq6 b d;go_enter Tryz.func98,Tryz.ntmps98;go_wp2_with (go_at_call 146;refine(I7 _ _ _).mono ?_;rintro e a ⟨rfl,rfl⟩);all_goals go_ret
 all_goals exact⟨U,U⟩
def aq8(c:Int)(b:0<=c)(d:c<256)(w:Í): Ò À 149 #[Å ū c] w λe a=>e=Æ (õ<|Ni c)/\a=w:=by
 have f:=aq7 b d;go_enter Tryz.func149,Tryz.ntmps149;go_wp2_with (go_at_call 146;refine(I7 _ _ _).mono ?_;rintro e a ⟨rfl,rfl⟩);all_goals go_ret
 all_goals exact⟨U,U⟩
def aq9(c:Int)(w:Í): Ò À 102 #[Å ū c] w λe a=>e=Æ (Å É<|Nh c)/\a=w:=by
 go_enter Tryz.func102,Tryz.ntmps102;go_wp2;all_goals go_ret
 all_goals refine⟨EP ?_,U⟩
 all_goals simp only[beq_iff_eq,beq_eq_false_iff_ne,ne_eq]at*
 all_goals simp[Nh, *]
def ara(c:Int)(w:Í): Ò À 97 #[Å ū c] w λe a=>e=Æ (Å É<|wI c)/\a=w:=by
 go_enter Tryz.func97,Tryz.ntmps97;go_wp2;all_goals go_ret
 all_goals refine⟨EP ?_,U⟩
 all_goals simp only[beq_iff_eq,beq_eq_false_iff_ne,ne_eq]at*
 all_goals simp[wI, *]
def abH(b c:Int)(d:0<=c)(f:c<256)(w:Í): Ò À 104 #[Å ū b,Å ū c] w λe a=>e=Æ (õ<|pb b c)/\a=w:=by
 go_enter Tryz.func104,Tryz.ntmps104;go_wp2_with (first|(go_at_call 94;refine(sF _ _).mono ?_;rintro e a ⟨rfl,rfl⟩)|(go_at_call 98;refine(UG _ d f _).mono ?_;rintro e a ⟨rfl,rfl⟩)|(go_at_call 149;refine(aq8 _ d f _).mono ?_;rintro e a ⟨rfl,rfl⟩));all_goals go_ret
 all_goals refine⟨I_ ?_,U⟩
 all_goals try go_light
 all_goals simp only[beq_iff_eq,beq_eq_false_iff_ne,ne_eq]at*
 all_goals unfold pb
 all_goals first|(simp[Ni, *];done)|(rw[Ę];simp[*];done)|(rw[Ę];simp[*];omega)
def arb(k:Int)(w:Í): Ò À 145 #[Å É k] w λe a=>(∃b:ByteArray,e=Æ (Ä b)/\b.size<=10/\j2 b=ry k)/\a=w:=by
 go_enter Tryz.func145,Tryz.ntmps145;go_wp2;all_goals go_ret
 all_goals refine⟨⟨_,U,?_,?_⟩,U⟩
 all_goals try go_light
 all_goals simp only[beq_iff_eq,beq_eq_false_iff_ne,ne_eq]at*
 all_goals first|(simp[j2,ry, *];done)|decide
def ard(k:Int)(w:Í): Ò À 148 #[Å É k] w λe a=>(∃b:ByteArray,e=Æ (Ä b)/\b.size<=10/\j2 b=sE k)/\a=w:=by
 go_enter Tryz.func148,Tryz.ntmps148;go_wp2;all_goals go_ret
 all_goals refine⟨⟨_,U,?_,?_⟩,U⟩
 all_goals try go_light
 all_goals simp only[beq_iff_eq,beq_eq_false_iff_ne,ne_eq]at*
 all_goals first|(simp[j2,sE, *];done)|decide
def nk(m s:Nat):Ñ->Prop
 |Å ū _=>False
 |Å _ _=>True
 |õ _=>True
 |Ä _=>True
 |Ã Á=>True
 |Ã (Â a)=>m<=a.block/\a.block<s
 |Ç Á _ _=>True
 |Ç (Â a) _ _=>m<=a.block/\a.block<s
 |_=>False
def nk.r(h:nk m i v)(d:i<=n):nk m n v:=by
 cases v with
 |int k b=>cases k<;>exact h
 |pointer a=>cases a with
  |none=>trivial
  |some a=>exact⟨h.1,Ġ h.2 d⟩
 |slice a b c=>cases a with
  |none=>trivial
  |some a=>exact⟨h.1,Ġ h.2 d⟩
 |_=>exact h
def Nj(m s:Nat)(o:Obj):Prop:=∃c e a,o=Û c e a/\a.2<=c.size/\0<c.size/\e≠304/\e≠305/\∀v∈c.toList,nk m s v
def jF(m:Nat)(w:Í):Prop:=∀i o,m<=i->w.heap[i]?=Â o->Nj m w.heap.size o
def Nj.r{o:Obj}(h:Nj m i o)(a:i<=n):Nj m n o:=by let⟨c,e,b,d,f,g,j,k,l⟩:=h;exact⟨c,e,b,d,f,g,j,k,λv p=>(l v p).r a⟩
def jF.I(w:Í):jF w.heap.size w:=λi o a h=>by rw[ı a]at h;cases h
def jF.fU(h:jF m w):jF m w.drew:=h
def jF.iU(h:jF m w)(n:Nat):jF m (w.drewN n):=h
theorem jF.gK(h:jF m w)(cs:Array Ñ)(t:č)(c:0<cs.size)(b:t≠304/\t≠305)(d:∀v∈cs.toList,nk m w.heap.size v):jF m (w.alloc<|Û cs t):=by
 intro i o f a;have k:(w.alloc<|Û cs t).heap.size=w.heap.size+1:=fl
 by_cases e:i<w.heap.size
 .rw[Š _ _ _ e]at a;exact(h i o f a).r Z
 .by_cases g:i=w.heap.size
  .subst g;rw[Ŵ]at a;cases a;exact⟨cs,t,(0,0),U,Ø _,c,b.1,b.2,λv j=>(d v j).r Z⟩
  .grind
def jF.r(h:jF m w)(p:ü)(l:nk m w.heap.size v):jF m (w.setCell p v):=by
 intro i o f a;have n:(w.setCell p v).heap.size=w.heap.size:=fl
 rw[n];by_cases e:i=p.block
 .subst e;unfold Ż at a;simp only[Ķ,if_true]at a;cases d:w.heap[p.block]? with
  |none=>rw[d]at a;cases a
  |some x=>
   rw[d]at a;obtain⟨c,e,r,rfl,g,j,s,t,k⟩:=h _ _ f d;simp only[Ă,Ô]at a;subst a;refine⟨_,e,r,U,?_,?_,s,t,λu b=> ?_⟩
   .split
    .exact g
    .rwa[Ĭ]
   .split
    .exact j
    .rwa[Ĭ]
   .split at b
    .exact k u b
    .rw[Array.toList_setIfInBounds]at b;rcases Ħ b with q|q
     .exact k u q
     .rwa[q]
 .rw[ġ _ _ _ _ (by simpa using e)]at a;exact h i o f a
theorem arf{ty:č}{bytes base:Nat}(y:P.underlying t=Â (.slice e))(B:P.info? e=Â zJ)(G:zJ.zero=Â (Ã Á)) (s:zJ.size=1) (H:zJ.bytes=bytes) (f:w.ownsRow base e 1 v n l) (a:ü) (c:Nat) (C:∀j M,[z][j]?=Â M->w.cell? (a.add j)=Â M) (N:z.oneCell'=Î) (O:n+1<=ī) (I:(n+1)*bytes<=140737488355328) (W:base<=w.heap.size) (X:mA e=Ë) (hm:m<=base) (D:jF m w) (hg:nk m w.heap.size z) (Y:e≠304/\e≠305): ∃h u,(ė #[t,t] ty #[v,Ç (Â a) 1 c]).run P w=.ok h u/\qw w base e 1 v n l 1 [z] h u/\jF m u/\nk m u.heap.size h:=by
 obtain⟨h,u,J,E⟩:=Ti y B G s H U f a c [z] Z U C (λx b=>by simp at b;subst b;exact N) O I W<|È X;have hgv:nk m u.heap.size h:=by
  obtain⟨p,o,rfl⟩:=jj E.fq;cases p with
  |none=>trivial
  |some p=>
   have k:=E.fq.lt p.block (by rcases E.fq.2 with⟨q,_⟩|⟨g,r,d,q,_⟩<;>(cases q;try rfl));exact⟨Z,k.2⟩
 refine⟨h,u,J,E,?_,hgv⟩;have q:[z].length=1*zJ.size:=by rw[s];rfl
 have hlx:l.length=n*zJ.size:=by rw[s];exact f.1
 have al1:n+1<=9223372036854775807:=by simp only[ī]at O;omega
 have uB:∀x∈l,nk m w.heap.size x:=λx b=>by
  rcases f.2 with⟨_,rfl⟩|⟨g,r,d,rfl,hbg,p,hnc,hcm,Q,htake⟩
  .grind
  .let⟨c2,e2,qR,S,_,_,_,_,q6⟩:=D g _ Z p;grind
 have gr:∀T,jF m (w.drew.alloc<|Û (l.toArray++[z].toArray++φ (Ĺ<|Ã Á) (grownCap w (n+1) T e-(n+1))) e):=λT=>by
  refine jF.gK D _ _ (by simp;omega) Y λx b=> ?_;simp only[Array.toList_append,â]at b;rcases b with(b|b)|b
  .exact uB x b
  .grind
  .have:=Tg b;simp[Ĺ]at this;subst this;trivial
 rcases f.2 with⟨rfl,rfl⟩|⟨g,r,d,rfl,hbg,p,hnc,hcm,Q,htake⟩
 .have b:=Ý (by simpa using f.1);subst b;have K:=run_append_nil w t ty e zJ (Ã Á) y B G a 1 c [z] q C Z Z (by rw[H];have k:=I;simp only[œ]at k;omega);grind
 .by_cases arh:n+1<=r
  .have Tk:n*zJ.size+[z].length<=d.size:=by rw[q,Q,s];omega
   have K:=run_append_room w t ty e zJ y B g n r d p a 1 c [z] q C (λx b=>by simp at b;subst b;exact N) arh Tk;rw[K]at J;cases J;have ari:=setRow_heap w g d (d.toList.take (n*zJ.size)++[z]++d.toList.drop (n*zJ.size+[z].length)).toArray e _ p;have arj:=λk (L:k≠g)=>setRow_other w g k (d.toList.take (n*zJ.size)++[z]++d.toList.drop (n*zJ.size+[z].length)).toArray L;let⟨c2,e2,qR,S,q2,q3,q4,q5,q6⟩:=D g _ Z p;cases S;intro k o L F;have ku:(w.setRow g (d.toList.take (n*zJ.size)++[z]++d.toList.drop (n*zJ.size+[z].length)).toArray).heap.size=w.heap.size:=fl
   rw[ku];by_cases V:k=g
   .subst V;rw[ari]at F;cases F;refine⟨_,_,_,U,fl,(by simp;omega),q4,q5,λx b=> ?_⟩;grind
   .rw[arj k V]at F;exact D k o L F
  .have k:w.ownsRow base e zJ.size (Ç (Â ⟨g,0,Á⟩) n r) n l:=by rwa[s]
   have K:=run_append_grow w t ty e zJ (Ã Á) y B G ⟨g,0,Á⟩ n r l hlx (k.cells U) a 1 c [z] q C Z Z (by rw[H];exact growslice_fits Z I);grind
def abI{f:Array ĝ}{E:Prop}{base:Nat} (k:o.guard=Á) (s x:Operand) (t:č) (p:o.op=Op.call {callee:=Callee.builtin κ,args:=#[s,x],argTypes:=#[t,t]}) {bytes:Nat} (q:P.underlying t=Â (.slice e)) (r:P.info? e=Â zJ) (B:zJ.zero=Â (Ã Á)) (C:zJ.size=1) (D:zJ.bytes=bytes) (F:y.eval s=v) (G:w.ownsRow base e 1 v n l) (ad:ü) (H:y.eval x=Ç (Â ad) 1 b) (I:∀j g,[z][j]?=Â g->w.cell? (ad.add j)=Â g) (J:z.oneCell'=Î) (L:n+1<=ī) (M:(n+1)*bytes<=140737488355328) (N:base<=w.heap.size) (O:mA e=Ë) (S:m<=base) (T:jF m w) (V:nk m w.heap.size z) (W:e≠304/\e≠305) (h:∀d u,qw w base e 1 v n l 1 [z] d u->jF m u->nk m u.heap.size d->K (y.put o.dst d) u): if đ o (Ι f y.tmps)=Î then Oper.wp P o y w K vJ else E:=by
 have X:đ o (Ι f y.tmps)=Î:=by simp[đ,k]
 rw[if_pos X];let⟨d,u,Y,h2,h3,h4⟩:=arf (ty:=o.type) q r B C D G ad b I J L M N O S T V W;unfold Oper.wp;simp[ś,p,ρ,ar,ς,F,H,Y,ų];exact h d u h2 h3 h4
def nQ(l:List Nat):List Ñ:=l.map λa=>Ã<|Â ⟨a,0,Á⟩
def oM(l:List Int):List Ñ:=l.map λz=>Å É z
def Fw(p:PT):List Ñ:=oM p.c++[Ä p.p]
def CQ(c:List Int)(a:Ñ):List Ñ:=oM c++[a]
structure pd(lo hi:Nat)(tb:List Nat)(l:List PT)(w:Í):Prop where
 r:tb.length=l.length
 I:∀(j a:Nat) (p:PT),tb[j]?=Â a->l[j]?=Â p->lo<=a/\a<hi/\p.c.length=5/\fh a (Fw p) 200 w
structure wL(B q:Nat)(r:PR)(w:Í):Prop where
 M:q<B
 C:r.c.length=8
 I:∃vb tb,fh q (CQ r.c vb) 161 w/\w.ownsRow 0 149 1 vb tb.length (nQ tb)/\(∀j,vb.ownBlock=Â j->j<B)/\pd 0 B tb r.r w
structure pZ(B:Nat)(qs:List Nat)(rs:List PR)(w:Í):Prop where
 I:qs.length=rs.length
 M:∀(j q:Nat) (r:PR),qs[j]?=Â q->rs[j]?=Â r->wL B q r w
section
variable{w':Í}{lo hi B q:Nat}{tb qs:List Nat}{l:List PT}{r:PR}{rs:List PR}
def pd.C(h:pd lo hi tb l w)(k:e9 X w w')(f:∀a c g,lo<=a->a<hi->w.heap[a]?=Â (Û c 200 g)->¬X a):pd lo hi tb l w':= ⟨h.r,λj a p i m=>by let⟨b,d,n,e⟩:=h.I j a p i m;exact⟨b,d,n,e.I k<|f a _ _ b d e⟩⟩
def pd.M(h:pd lo hi tb l w)(f:i<=lo)(g:hi<=n):pd i n tb l w:= ⟨h.r,λj a p b c=>by let⟨k,m,d,e⟩:=h.I j a p b c;exact⟨Z,Z,d,e⟩⟩
theorem pd.N(lo hi:Nat)(w:Í):pd lo hi [] [] w:=⟨U,λj a p h=>by cases h⟩
theorem Fy{α:Type}{l:List α}{a x:α}(h:(l++[a])[j]?=Â x):l[j]?=Â x\/j=l.length/\x=a:=by grind
theorem pd.UH{p:PT}(h:pd lo hi tb l w)(g:lo<=i)(k:i<hi)(m:p.c.length=5)(n:fh i (Fw p) 200 w):pd lo hi (tb++[i]) (l++[p]) w:=by
 refine⟨by simp[h.r],λj x y d b=> ?_⟩;rcases Fy d with e|⟨e,rfl⟩
 .rcases Fy b with f|⟨f,rfl⟩
  .exact h.I j x y e f
  .have:=(Õ.1 e).1;have:=h.r;omega
 .rcases Fy b with f|⟨f,rfl⟩
  .have:=(Õ.1 f).1;have:=h.r;omega
  .grind
def UI(B:Nat)(w:Í)(i:Nat):Prop:=B<=i\/∃c T a,w.heap[i]?=Â (Û c T a)/\(T=153\/T=148)
theorem UJ(a:UI B w i)(hi:i<B)(h:w.heap[i]?=Â (Û d T xJ))(b:T≠153/\T≠148):False:=by rcases a with q|⟨e,f,qR,g,j⟩;all_goals grind
theorem wL.vL(h:wL B q r w)(k:e9 X w w')(d:∀i,i<w.heap.size->X i->UI B w i):wL B q r w':=by let⟨f,tb,b,g,l,m⟩:=h.I;refine⟨h.M,h.C,f,tb,b.I k λx=>UJ (d q b.M x) h.M b A,ij g k λj o x=> ?_,l,m.C k λa c p _ n e x=>UJ (d a (á.1 e).1 x) n e A⟩;grind [me,UJ]
def wL.fR(h:wL B q r w)(a:B<=i):wL i q r w:=by let⟨b,tb,c,d,e,f⟩:=h.I;exact⟨by have:=h.M;omega,h.C,b,tb,c,d,λj g=>by have:=e j g;omega,f.M (æ _) a⟩
def pZ.C(h:pZ B qs rs w)(k:e9 X w w')(a:∀i,i<w.heap.size->X i->UI B w i):pZ B qs rs w':= ⟨h.I,λj q r b c=>(h.M j q r b c).vL k a⟩
def pZ.UH(h:pZ B qs rs w)(b:B<=i)(c:wL i q r w):pZ i (qs++[q]) (rs++[r]) w:=by
 refine⟨by simp[h.I],λj x y d a=> ?_⟩;rcases Fy d with e|⟨e,rfl⟩
 .rcases Fy a with f|⟨f,rfl⟩
  .exact(h.M j x y e f).fR b
  .have:=(Õ.1 e).1;have:=h.I;omega
 .rcases Fy a with f|⟨f,rfl⟩
  .have:=(Õ.1 f).1;have:=h.I;omega
  .exact c
theorem pZ.N(B:Nat)(w:Í):pZ B [] [] w:=⟨U,λj q r h=>by cases h⟩
end
structure Gh where
 a:List Nat
 q:Nat
 t:Nat
 B:Nat
 tb:List Nat
 N:Ñ
 r:Ñ
 b:Option ü
namespace Gh
def C(g:Gh)(d:PD):List Nat:=if d.r then g.a++[g.q]else g.a
def I(g:Gh)(d:PD):List Nat:=if d.M then g.tb++[g.t]else g.tb
def S(g:Gh)(d:PD):Option ü:=if d.r then Â ⟨g.q,0,Á⟩else Á
def Y(g:Gh)(d:PD):Option ü:=if d.M then Â ⟨g.t,0,Á⟩else g.b
def M(g:Gh)(d:PD):Nat:=if d.M then g.t else g.q
def G(g:Gh)(d:PD):Option ü:=if d.r then Â ⟨g.M d,0,Á⟩else Á
def CR(g:Gh)(d:PD)(a:Int):ü:=if a=86 then⟨g.q,5,Á⟩else if a=87 then⟨g.q,6,Á⟩else if a=110 then⟨g.M d,2,Á⟩else⟨g.M d,3,Á⟩
end Gh
structure wM(m:Nat)(g:Gh)(d:PD)(w:Í):Prop where
 S:m<=g.B
 N:g.B<=g.q
 M:d.I.c.length=8
 r:fh g.q (CQ d.I.c g.r) 161 w
 I:w.ownsRow g.B 149 1 g.r (g.I d).length (nQ<|g.I d)
 Y:pd g.B g.t g.tb d.I.r w
 C:d.M=Î->g.B<=g.t/\d.N.c.length=5/\fh g.t (Fw d.N) 200 w
 a:d.M=Ë->g.tb=[]/\d.I.r=[]
structure k9(m:Nat)(g:Gh)(d:PD)(w:Í):Prop where
 C:w.ownsRow m 148 1 g.N (g.C d).length (nQ<|g.C d)
 I:pZ g.B g.a d.S w
 r:d.r=Î->wM m g d w
 N:d.r=Ë->d.M=Ë
def UK(s:ByteArray)(g:Gh)(d:PD)(a:Option ü)(lu b:Int):List Ñ:=
 [Ä s,g.N,Ã<|g.S d,Ã<|g.Y d,Ã<|g.G d,Ã a,Å É lu,Å É b]
structure gR(m b:Nat)(g:Gh)(c:Option ü)(s:ByteArray)(st:PS)(w:Í):Prop where
 S:m<=b
 a:jF m w
 r:fh b (UK s g st.d c st.r st.I) 153 w
 M:s.size<=10
 I:j2 s=st.C
 C:k9 m g st.d w
 c:0<st.r->st.d.r=Î/\c=Â (g.CR st.d st.M)
 N:st.d.r=Î\/st.C=[82]
def sG(m b:Nat)(st:PS)(w a:Í):Prop:=e9 (λi=>m<=i) w a/\∃g i s,gR m b g i s st a
section
variable{w':Í}{g:Gh}{d:PD}{s:ByteArray}{st:PS}
theorem wM.vL(h:wM m g d w)(k:e9 X w w')(p:∀i c T b,w.heap[i]?=Â (Û c T b)->X i->T=153\/T=148):wM m g d w':=by
 have l:∀{i:Nat} {c:Array Ñ} {T:č} {b:Nat×Nat},w.heap[i]?=Â (Û c T b)->(T≠153/\T≠148)->¬X i:=λ{i c T b} n f x=>(p i c T b n x).elim f.1 f.2;refine⟨h.S,h.N,h.M,h.r.I k<|l h.r A,ij h.I k λj r=> ?_,h.Y.C k λa c b _ _ q=>l q A,λe=> ?_,h.a⟩
 .let⟨o,s⟩:=me h.I r;grind
 .let⟨n,f,o⟩:=h.C e;exact⟨n,f,o.I k<|l o A⟩
theorem k9.rd(h:k9 m g d w)(k:e9 X w w')(b:∀i c T a,w.heap[i]?=Â (Û c T a)->X i->T=153)(f:∀i,i<w.heap.size->X i->∃c a,w.heap[i]?=Â (Û c 153 a)):k9 m g d w':=by
 refine⟨ij h.C k λj l x=> ?_,h.I.C k λi n x=> ?_,λe=>(h.r e).vL k λi c T a q x=>È<|b i c T a q x,h.N⟩
 .let⟨o,q⟩:=me h.C l;grind
 .let⟨c,a,q⟩:=f i n x;exact Ï ⟨c,_,a,q,È U⟩
def k9.M(h:k9 m g d w)(a:fh b l 153 w)(k:e9 (λi=>i=b) w w'):k9 m g d w':= h.rd k (λi c T e q x=>by subst x;unfold fh at a;rw[a]at q;cases q;rfl) λi _ x=>⟨l.toArray,(0,0),by rwa[x]⟩
def p6{i:Nat}{v:Value}{j:Nat}{vs:List Value}{T:TypeId}(h:fh j vs T w)(hT:mA T=false:=by decide):e9 (λk=>k=j) w (w.setCell ⟨j,i,none⟩ v):=e9.I (X:=λk=>k=j) U v<|Ï<|h.G hT
def k9.G(h:k9 m g d w):(g.C d).length=d.C.length:=by unfold Gh.C PD.C;split<;>simp[h.I.I]
def wM.G(h:wM m g d w):(g.I d).length=d.Y.length:=by unfold Gh.I PD.Y;split<;>simp[h.Y.r]
def UL(h:i<zQ.length)(v:Ñ):(oM zQ++[v])[i]?=Â (Å É<|zQ.getD i 0):=by rw[Ĥ (by simpa[oM]using h)];simp[oM,Ğ,h]
def abJ(l:List Int)(i:Nat)(z:Int)(v:Ñ)(h:i<l.length):(oM l++[v]).set i (Å É z)=oM (l.set i z)++[v]:=by rw[List.set_append_left _ _ (by simpa[oM]using h)];simp[oM,List.map_set]
def abK(l:List Int)(v u:Ñ):(oM l++[v]).set l.length u=oM l++[u]:=by rw[Ĵ _ _ (by simp[oM])];simp[oM]
def CS(l:List Int)(v:Ñ):(oM l++[v])[l.length]?=Â v:=by rw[ğ (by simp[oM])];simp[oM]
theorem k9.S(h:k9 m g d w)(on:d.r=Î)(n:i<8)(z:Int):k9 m g (d.ov i z) (w.setCell ⟨g.q,i,Á⟩<|Å É z):=by
 have l:=h.r on;have k:e9 (λk=>k=g.q) w (w.setCell ⟨g.q,i,Á⟩<|Å É z):=p6 l.r;have r:=l.N;refine⟨ij h.C k λj b x=>jE h.C l.r A (by rw[b,x]),h.I.C k λi _ x=>È Z,λ_=>⟨l.S,l.N,by simp[PD.ov,l.M],?_,ij l.I k λj b x=>jE l.I l.r A (by rw[b,x]),l.Y.C k λa c s _ _ q x=> ?_,λe=> ?_,l.a⟩,h.N⟩
 .have:=l.r.fL i<|Å É z;unfold CQ at this;rw[abJ _ _ _ _ (by rwa[l.M])]at this;exact this
 .have:=l.r;unfold fh at this;grind
 .let⟨o,p,f⟩:=l.C e;exact⟨o,p,f.I k λx=>(fh.S f l.r A) x⟩
theorem k9.iw(h:k9 m g d w)(on:d.r=Î)(f:d.M=Î){p:PT}(n:p.c.length=5)(r:(Fw d.N).set i v=Fw p):k9 m g {d with N:=p} (w.setCell ⟨g.t,i,Á⟩ v):=by have l:=h.r on;let⟨o,s,b⟩:=l.C f;have k:e9 (λk=>k=g.t) w (w.setCell ⟨g.t,i,Á⟩ v):=p6 b;refine⟨ij h.C k λj e x=>jE h.C b A (by rw[e,x]),h.I.C k λi _ x=>È Z,λ_=>⟨l.S,l.N,l.M,l.r.I k λx=>(fh.S l.r b A) x,ij l.I k λj e x=>jE l.I b A (by rw[e,x]),l.Y.C k λa c u _ q _ x=>by omega,λ_=>⟨o,n,?_⟩,l.a⟩,h.N⟩;have:=b.fL i v;grind
def k9.Y(h:k9 m g d w)(on:d.r=Î)(a:d.M=Î)(c:i<5)(z:Int):k9 m g (d.oK i z) (w.setCell ⟨g.t,i,Á⟩<|Å É z):=by let⟨e,b,f⟩:=(h.r on).C a;exact h.iw on a (by simp[b])<|abJ _ _ _ _<|by rwa[b]
def k9.oL(h:k9 m g d w)(on:d.r=Î)(a:d.M=Î)(p:ByteArray):k9 m g (d.oL p) (w.setCell ⟨g.t,5,Á⟩<|Ä p):=by let⟨e,b,f⟩:=(h.r on).C a;refine h.iw on a b ?_;have:=abK d.N.c (Ä d.N.p)<|Ä p;rwa[b]at this
structure qK(m b:Nat)(g:Gh)(d:PD)(ab ao:Nat)(f:Int->PD)(x:Int)(w:Í):Prop where
 r:ab≠b
 N:m<=ab
 Y:ab<w.heap.size
 C:w.cell? ⟨ab,ao,Á⟩=Â (Å É x)
 I:w.frozen? ⟨ab,ao,Á⟩=Ë
 nf:NF ab w
 S:∀W,k9 m g d W->∀z,k9 m g (f z)<|W.setCell ⟨ab,ao,Á⟩<|Å É z
 M:∀z,g.S (f z)=g.S d/\g.Y (f z)=g.Y d/\g.G (f z)=g.G d/\(f z).r=d.r/\∀n,g.CR (f z) n=g.CR d n
theorem Fz(h:k9 m g d w)(f:fh b l 153 w)(on:d.r=Î)(e:i<8):qK m b g d g.q i (λz=>d.ov i z) (d.I.c.getD i 0) w:=by have a:=h.r on;exact⟨fh.S a.r f A,Ì a.S a.N,a.r.M,a.r.r i _ (UL (by rwa[a.M]) _),a.r.C i,a.r.G,λW j z=>j.S on e z,λz=>⟨U,U,U,U,λn=>rfl⟩⟩
theorem abL(h:k9 m g d w)(k:fh b l 153 w)(on:d.r=Î)(f:d.M=Î)(j:i<5):qK m b g d g.t i (λz=>d.oK i z) (d.N.c.getD i 0) w:=by have a:=h.r on;let⟨o,p,e⟩:=a.C f;exact⟨fh.S e k A,Ì a.S o,e.M,e.r i _ (UL (by rwa[p]) _),e.C i,e.G,λW q z=>q.Y on f j z,λz=>⟨U,U,U,U,λn=>rfl⟩⟩
theorem FA(h:k9 m g d w)(a:fh b l 153 w)(on:d.r=Î)(c:i<4):qK m b g d (g.M d) i (λz=>d.iw i z) (d.tN i) w:=by unfold PD.iw PD.tN Gh.M;split;all_goals grind [abL,Fz]
theorem gR.G{f:Int->PD}(h:gR m b g O s st w)(n:qK m b g st.d i j f c w)(z:Int):gR m b g O s {st with d:=f z} (w.setCell ⟨i,j,Á⟩<|Å É z):=by
 let⟨e,l,o,a,p⟩:=n.M z;have k:e9 (λk=>k=i) w (w.setCell ⟨i,j,Á⟩<|Å É z):=e9.I (X:=λk=>k=i) U _<|È U;refine⟨h.S,h.a.r _ trivial,?_,h.M,h.I,n.S w h.C z,λq=> ?_,?_⟩
 .have:=h.r.I k λc=>n.r c.symm;unfold UK at this|-;grind
 .let⟨r,t⟩:=h.c q;grind
 .simp only[a];exact h.N
def gR.Nk(h:gR m b g O s st w)(a:ByteArray)(r:List Int)(c:a.size<=10)(e:j2 a=r)(f:st.d.r=Î\/r=[82]):gR m b g O a {st with C:=r} (w.setCell ⟨b,0,Á⟩<|Ä a):= ⟨h.S,h.a.r _ trivial,h.r.fL 0 _,c,e,h.C.M h.r<|p6 h.r,h.c,f⟩
def gR.Y(h:gR m b g O s st w)(z:Int)(a:0<z->st.d.r=Î/\O=Â (g.CR st.d st.M)):gR m b g O s {st with r:=z} (w.setCell ⟨b,6,Á⟩<|Å É z):= ⟨h.S,h.a.r _ trivial,h.r.fL 6 _,h.M,h.I,h.C.M h.r<|p6 h.r,a,h.N⟩
def gR.abM(h:gR m b g O s st w)(z:Int):gR m b g O s {st with I:=z} (w.setCell ⟨b,7,Á⟩<|Å É z):= ⟨h.S,h.a.r _ trivial,h.r.fL 7 _,h.M,h.I,h.C.M h.r<|p6 h.r,h.c,h.N⟩
def gR.abN(h:gR m b g O s st w)(a:ü)(n:Int)(d:st.r=0)(c:m<=a.block/\a.block<w.heap.size):gR m b g (Â a) s {st with M:=n} (w.setCell ⟨b,5,Á⟩<|Ã<|Â a):= ⟨h.S,h.a.r _ c,h.r.fL 5 _,h.M,h.I,h.C.M h.r<|p6 h.r,λq=>by have:0<st.r:=q;omega,h.N⟩
def gR.fU(h:gR m b g O s st w):gR m b g O s st w.drew:=by have k:=e9.fU fg w;exact⟨h.S,h.a,h.r.I k id,h.M,h.I,h.C.rd k (λ_ _ _ _ _ x=>x.elim) λ_ _ x=>x.elim,h.c,h.N⟩
end
section
variable{w':Í}{g:Gh}{st:PS}{f:Int->PD}{x:Int}
def qK.rd{d:PD}(h:qK m b g d n j f x w)(i:Nat)(v:Ñ):qK m b g d n j f x (w.setCell ⟨b,i,Á⟩ v):= ⟨h.r,h.N,by simpa using h.Y,by rw[Ii<|Ne.symm h.r];exact h.C,by rw[World.frozen?_setCell];exact h.I,λc T a q=>h.nf c T a (by rwa[ġ _ _ _ _ (by simpa using h.r)]at q),h.S,h.M⟩
def gR.UM(h:gR m b g O B st w)(n:Int)(a:st.r=0):gR m b g O B {st with M:=n} w:= ⟨h.S,h.a,h.r,h.M,h.I,h.C,λq=>by have:0<st.r:=q;omega,h.N⟩
def mR(h:gR m b g O B st w)(i:Nat)(v:Ñ):e9 (λi=>m<=i) w (w.setCell ⟨b,i,Á⟩ v):=e9.I (X:=λi=>m<=i) (p:=⟨b,i,Á⟩) h.S v<|Ï h.r.G
def FB(h:qK m b g st.d n j f x w)(z:Int):e9 (λi=>m<=i) w (w.setCell ⟨n,j,Á⟩<|Å É z):=e9.I (X:=λi=>m<=i) (p:=⟨n,j,Á⟩) h.N _<|È U
def wN(c a:Int):Int:=if c=104\/c=48 then 0 else a-1
def jR(c:Int):Int:=if c=104 then-1 else(c-48)%256
def UN{st:PS}(h:st.r=0)(n:Int)(d:PD):({st with r:=0,M:=n,d:=d}:PS)={st with M:=n,d:=d}:=by rw[<-h]
def Nl(h:gR m b g O B st w)(i:qK m b g st.d n j f x w)(k:st.r=0)(o:st.d.r=Î)(c l a:Int)(y:0<=l)(C:l<=6)(p:∀z,g.CR (f z) a=⟨n,j,Á⟩): Ò À 147 #[Ã<|Â ⟨b,0,Á⟩,Ã<|Â ⟨n,j,Á⟩,Å ū c,Å É l] w λe w'=>
  e=Æ (ë #[])/\sG m b {st with r:=wN c l,M:=a,d:=f (jR c)} w w':=by
 have D:=h.r.r 5 _ U;have E:=h.r.r 6 _ U;have F:=h.r.C 5;have G:=h.r.C 6;have I:=i.C;have J:=i.I;have K:=i.r;have L:¬b=n:=λe=>i.r e.symm;have s:m<=n/\n<w.heap.size:=⟨i.N,i.Y⟩;have H:=fe<|Ê h<|Ê i<|Ê p<|Ê k o;by_cases r:c=104
 .subst r;go_enter Ŗ,ŋ;go_wp2;first|go_end0|refine ÿ (results_none U _ _ _) U ?_
  let⟨h,i,p,k,o⟩:=H.out;refine⟨U,FB i _,g,O,B,?_⟩;have:=(h.G i<|-1).UM a k;rw[show wN 104 l=0 from if_pos<|È U,UN k];exact this
 .have M:(c==104)=Ë:=by rwa[beq_eq_false_iff_ne]
  have t:jR c=(c-48)%256:=if_neg r;by_cases v:c=48
  .subst v;go_enter Ŗ,ŋ;go_wp2;go_end0;let⟨h,i,p,k,o⟩:=H.out;have u:=h.abN ⟨n,j,Á⟩ a k s;have q:=i.rd 5<|Ã<|Â ⟨n,j,Á⟩;refine⟨U,(mR h 5 _).ff<|FB q _,g,Â ⟨n,j,Á⟩,B,?_⟩;have:=u.G q 0;rw[show wN 48 l=0 from if_pos<|Ï U,UN k,t];exact this
  .go_enter Ŗ,ŋ;go_wp2;go_end0;let⟨h,i,p,k,o⟩:=H.out;have q:=i.rd 5<|Ã<|Â ⟨n,j,Á⟩;have u:=(h.abN ⟨n,j,Á⟩ a k s).G q<|(c-48)%256;refine⟨U,((mR h 5 _).ff<|FB q _).ff<|mR u 6 _,g,Â ⟨n,j,Á⟩,B,?_⟩;rw[show wN c l=l-1 from if_neg Z,t];exact(u.Y (l-1) λ_=>⟨by simp only;rwa[(i.M _).2.2.2.1],by simp only;rw[p]⟩)
theorem Nn{b a:Int}(h:pb a c=Î)(d:(a=86\/a=87)/\b=2\/(a=110\/a=107)/\b=6):wN c b=qI a c:=by unfold wN qI;unfold pb at h;grind [Fu]
theorem Np{a:Int}(h:¬(a=86\/a=87)/\¬(a=110\/a=107)):qI a c=0:=by unfold qI;grind
theorem Nq{a:Int}(h:a=86\/a=87\/a=110\/a=107):nj a c=jR c:=by unfold nj jR;grind
def UO(h:gR m b g O B st w)(i:qK m b g st.d n j f x w)(k:st.r=0){a z:Int}(e:c=0)(l:w'=(w.setCell ⟨n,j,Á⟩<|Å É z).drew):sG m b {st with r:=c,M:=a,d:=f z} w w':=by subst l;subst e;rw[UN k];exact⟨(FB i z).ff<|e9.fU _ _,g,O,B,((h.G i z).UM a k).fU⟩
end
section
variable{g:Gh}{st:PS}
def I8{d:PD}(a:d.M=Î):g.Y d=Â ⟨g.t,0,Á⟩:=if_pos a
def ark:yw st 0=Á:=rfl
def arl(h:gR m b g O B st w)(r:st.r=0)(on:st.d.r=Î)(f:st.d.M=Î)(k:Int): Ò À 101 #[Ã<|Â ⟨b,0,Á⟩,Å É k] w λe u=>match yw st k with
  |none=>e=Æ (õ Ë)/\u=w
  |some a=>e=Æ (õ Î)/\sG m b a w u:=by
 have s:=h.r.r 0 _ U;have o:=h.r.r 3 _ U;have v:=h.r.r 7 _ U;rw[I8 f]at o;have x:=h.r.C 0;have y:=h.r.C 7;have a:=abL h.C h.r on f (i:=4) A;have z:=a.C;have C:=a.I;have D:=a.r;have E:¬b=g.t:=λe=>a.r e.symm;have H:=fe<|Ê h a;by_cases c:k=0
 .subst c;rw[ark];go_enter Κ,ż;go_wp2;go_ret;exact⟨U,U⟩
 .have F:(k==0)=Ë:=by rwa[beq_eq_false_iff_ne]
  have e:yw st k=Â {st with C:=sE k,I:=0,d:=st.d.oK 4 k}:=if_neg c;rw[e];go_enter Κ,ż;go_wp2_with (go_at_call 148;refine(ard _ _).mono ?_;rintro e u ⟨⟨j,rfl,p,q⟩,l⟩;subst u);go_ret;let⟨h,a⟩:=H.out;have l:=h.G a k;have n:=l.abM 0;exact⟨U,((FB a k).ff<|mR l 7 _).ff<|mR n 0 _,g,O,j,n.Nk j _ p q<|È on⟩
end
def arn:(À.info? 149).map (λi=>(i.zero,i.size,i.bytes))=Â (Â<|Ã Á,1,8):=ft
def aro:(À.info? 148).map (λi=>(i.zero,i.size,i.bytes))=Â (Â<|Ã Á,1,8):=ft
section
variable{g:Gh}{nm:Option ü}{s:ByteArray}{st:PS}{d:PD}{T:Nat}
structure vm(m:Nat)(g:Gh)(d:PD)(T:Nat)(w:Í):Prop where
 C:w.ownsRow m 148 1 g.N (g.C d).length (nQ<|g.C d)
 I:pZ g.B g.a d.S w
 N:pd g.B T (g.I d) d.Y w
 tb:fh T (Fw PD.Fs) 200 w
def I9(x:i=j)(h:fh j l t w):w.heap[i]?=Â (Û l.toArray t (0,0)):=by rwa[x]
theorem vm.r(h:vm m g d T w)(k:e9 X w u)(f:∀i,i<w.heap.size->X i->∃c t b,w.heap[i]?=Â (Û c t b)/\(t=153\/(t=161\/t=149)/\g.B<=i)):vm m g d T u:=by
 have e:∀{i:Nat} {c:Array Ñ} {t:č} {b:Nat×Nat},w.heap[i]?=Â (Û c t b)->(t≠153/\t≠161/\t≠149)->¬X i:=λ{i c t b} q1 q2 x=>by grind
 refine⟨ij h.C k λj l=> ?_,h.I.C k λi n x=> ?_,h.N.C k λa c b _ _ q=>e q A,h.tb.I k<|e h.tb A⟩
 .let⟨o,p⟩:=me h.C l;grind
 .let⟨r,s,qR,o,p⟩:=f i n x;rcases p with rfl|⟨_,z⟩
  .exact Ï ⟨_,_,_,o,È U⟩
  .exact È z
def vm.fM(h:vm m g d T w)(k:e9 fg w u):vm m g d T u:=h.r k λ_ _ x=>x.elim
def vm.M(h:vm m g d T w)(a:fh b l 153 w):vm m g d T (w.setCell ⟨b,i,Á⟩ v):= h.r (p6 a) λi _ x=>⟨_,_,_,I9 x a,È U⟩
theorem wM.abO(l:wM m g d w):pd g.B w.heap.size (g.I d) d.Y w:=by
 unfold Gh.I PD.Y;split
 .rename_i e;let⟨b,c,a⟩:=l.C e;have:=a.M;exact(l.Y.M (æ _) Z).UH b a.M c a
 .rename_i e;let⟨b,c⟩:=l.a (by simpa using e);grind [pd.N]
theorem jF.C(n:jF m w)(g:fh b l e w)(C:m<=b)(p:e≠304/\e≠305)(d:Array Ñ)(t:č)(u:0<d.size)(r:t≠304/\t≠305)(h:∀v∈d.toList,nk m (w.heap.size+1) v):jF m ((w.setCell ⟨b,i,Á⟩<|Ã<|Â ⟨w.heap.size,0,Á⟩).alloc<|Û d t):=by
 have s:(w.setCell ⟨b,i,Á⟩<|Ã<|Â ⟨w.heap.size,0,Á⟩).heap.size=w.heap.size:=fl
 have D:=g.M;intro j o k c;have x:((w.setCell ⟨b,i,Á⟩<|Ã<|Â ⟨w.heap.size,0,Á⟩).alloc<|Û d t).heap.size=w.heap.size+1:=fl
 rw[x];by_cases a:j<w.heap.size
 .rw[Š _ _ _ (by rwa[s])]at c;by_cases f:j=b
  .subst f;have:=g.fL i<|Ã<|Â ⟨w.heap.size,0,Á⟩;unfold fh at this;rw[this]at c;cases c;let⟨E,F,G,y,H,z,I,J,B⟩:=n j _ k g;cases y;refine⟨_,_,_,U,fl,by simpa using z,p.1,p.2,λv h=> ?_⟩;rcases Ħ (by simpa using h)with q|q
   .exact(B v<|by simpa using q).r Z
   .rw[q];exact⟨Ì k<|Nat.le_of_lt a,Nat.lt_succ_self _⟩
  .rw[ġ _ _ _ _ (by simpa using f)]at c;exact(n j o k c).r Z
 .by_cases f:j=w.heap.size
  .have:=Ŵ (w.setCell ⟨b,i,Á⟩<|Ã<|Â ⟨w.heap.size,0,Á⟩)<|Û d t;rw[s]at this;rw[f,this]at c;cases c;exact⟨_,_,_,U,Ø _,u,r.1,r.2,h⟩
  .grind
def Nr(b:Nat)(w:Í):Í:=(w.setCell ⟨b,3,Á⟩<|Ã<|Â ⟨w.heap.size,0,Á⟩).alloc<|Û #[Å É 0,Å É 0,Å É 0,Å É 0,Å É 0,Ä ⟨#[]⟩] 200
def rdM(s:ByteArray)(g:Gh)(d:PD)(a b nm:Option ü)(lu c:Int):List Ñ:=
 [Ä s,g.N,Ã<|g.S d,Ã a,Ã b,Ã nm,Å É lu,Å É c]
structure FC(m b:Nat)(g:Gh)(d:PD)(T:Nat)(s:ByteArray)(tm nm:Option ü)(lu UP:Int)(w0 w:Í):Prop where
 S:e9 (λi=>m<=i) w0 w
 N:jF m w
 r:fh b (rdM s g d (Â ⟨T,0,Á⟩) tm nm lu UP) 153 w
 M:vm m g d T w
 I:fh g.q (CQ d.I.c g.r) 161 w
 C:w.ownsRow g.B 149 1 g.r (g.I d).length (nQ<|g.I d)
def FC.fM{lu:Int}(h:FC m b g d T s O nm lu c W w)(k:e9 fg w u)(a:jF m u):FC m b g d T s O nm lu c W u:= ⟨h.S.C k λ_ _ x=>x.elim,a,h.r.I k id,h.M.fM k,h.I.I k id,ij h.C k λ_ _=>id⟩
theorem gR.arp(h:gR m b g nm s st w)(on:st.d.r=Î):FC m b g st.d w.heap.size s (g.G st.d) nm st.r st.I w (Nr b w):=by
 have l:=h.C.r on;have p:(w.setCell ⟨b,3,Á⟩<|Ã<|Â ⟨w.heap.size,0,Á⟩).heap.size=w.heap.size:=fl
 have n:e9 fg (w.setCell ⟨b,3,Á⟩<|Ã<|Â ⟨w.heap.size,0,Á⟩) (Nr b w):=e9.gK _ _ _ _;have r:e9 (λk=>k=b) w (w.setCell ⟨b,3,Á⟩<|Ã<|Â ⟨w.heap.size,0,Á⟩):=p6 h.r;have e:=r.C n λ_ _ x=>x.elim;refine⟨e.S λk _ x=>by rw[x];exact h.S,?_,(h.r.fL 3 _).I n id,⟨ij h.C.C e λj f x=>jE h.C.C h.r A (by rw[f,x]),h.C.I.C e λi _ x=>Ï ⟨_,_,_,I9 x h.r,È U⟩,l.abO.C e λa c t _ _ q x=> ?_,?_⟩,l.r.I e λx=>fh.S l.r h.r A x,ij l.I e λj f x=>jE l.I h.r A<|by rw[f,x]⟩
 .exact h.a.C h.r h.S A _ _ fl A λv o=>by simp at o;rcases o with rfl|rfl<;>trivial
 .have o:=h.r;unfold fh at o;grind
 .have:=fh.N (w.setCell ⟨b,3,Á⟩<|Ã<|Â ⟨w.heap.size,0,Á⟩) [Å É 0,Å É 0,Å É 0,Å É 0,Å É 0,Ä ⟨#[]⟩] 200;rwa[p]at this
def UQ(g:Gh)(d:PD)(T:Nat)(v:Ñ):Gh:={g with t:=T,tb:=g.I d,r:=v}
theorem FC.jN(h:FC m b g st.d T s O nm st.r st.I w u)(C:m<=b)(on:st.d.r=Î)(a:m<=g.B/\g.B<=g.q/\st.d.I.c.length=8)(D:g.B<=T)(hd:st.r=0) (l:qw u g.B 149 1 g.r (g.I st.d).length (nQ<|g.I st.d) 1 [Ã<|Â ⟨T,0,Á⟩] v W) (K:jF m W) (L:nk m W.heap.size v) (n:jX=((W.setCell ⟨g.q,8,Á⟩ v).setCell ⟨b,4,Á⟩<|Ã<|Â ⟨T,0,Á⟩).setCell ⟨b,0,Á⟩ (Ä ⟨#[84]⟩)): e9 (λi=>m<=i) w jX/\gR m b (UQ g st.d T v) nm ⟨#[84]⟩ {st with C:=[84],d:=st.d.nO} jX:=by
 have E:∀{j:Nat} {M:List Ñ} {t:č},fh j M t u->149≠t->¬g.r.ownBlock=Â j:=λN f=>jE h.C N f;have F:=h.r.I l.r<|E h.r A;have f:=h.I.I l.r<|E h.I A;have P:=h.M.r l.r λi _ x=>by let⟨k,z⟩:=me h.C x;exact⟨_,_,_,z,Ï ⟨Ï U,(h.C.lt i x).1⟩⟩
 have o:e9 (λk=>k=g.q) W (W.setCell ⟨g.q,8,Á⟩ v):=p6 f;have G:fh g.q (CQ st.d.I.c v) 161 (W.setCell ⟨g.q,8,Á⟩ v):=by have:=f.fL 8 v;have e:=abK st.d.I.c g.r v;rw[a.2.2]at e;unfold CQ at this|-;grind
 have z:=F.I o λx=>fh.S F f A x;have H:=P.r o λi _ x=>⟨_,_,_,I9 x f,Ï ⟨È U,by rw[x];exact a.2.1⟩⟩;have I:=ij l.fq o λj p x=>jE l.fq f A (by rw[p,x]);have Q:jF m (W.setCell ⟨g.q,8,Á⟩ v):=K.r _ L;have S:e9 (λk=>k=b) (W.setCell ⟨g.q,8,Á⟩ v) ((W.setCell ⟨g.q,8,Á⟩ v).setCell ⟨b,4,Á⟩<|Ã<|Â ⟨T,0,Á⟩):=p6 z;have r:=z.fL 4<|Ã<|Â ⟨T,0,Á⟩;have V:e9 (λk=>k=b) ((W.setCell ⟨g.q,8,Á⟩ v).setCell ⟨b,4,Á⟩<|Ã<|Â ⟨T,0,Á⟩) jX:=by rw[n];exact p6 r
 have J:=r.fL 0<|Ä ⟨#[84]⟩;rw[<-n]at J;have k:vm m g st.d T jX:=by rw[n];exact(H.M z).M r
 have y:=S.ff V;have X:=G.I y λx=>fh.S G z A x;have Y:=ij I y λj p x=>jE I z A (by rw[p,x]);have hTl:=H.tb.M;have c5:jF m jX:=by rw[n];refine(Q.r _ ?_).r _ trivial;exact⟨Ì a.1 D,hTl⟩
 have e1:(g.I st.d++[T]).length=(g.I st.d).length+1:=fl
 have e2:nQ (g.I st.d++[T])=nQ (g.I st.d)++[Ã<|Â ⟨T,0,Á⟩]:=by simp[nQ]
 refine⟨((h.S.C l.r λi _ x=> ?_).C o λi _ x=> ?_).C y λi _ x=> ?_,C,c5,?_,A,U,⟨k.C,k.I,λ_=>⟨a.1,a.2.1,a.2.2,X,?_,k.N,λ_=>⟨D,U,k.tb⟩,λe=>by cases e⟩,λe=> ?_⟩,λe=> ?_,È on⟩
 .have:=(h.C.lt i x).1;have:=a.1;omega
 .grind
 .rwa[x]
 .have e:(UQ g st.d T v).S st.d.nO=g.S st.d:=U;unfold UK;rw[e];have e4:(UQ g st.d T v).G st.d.nO=Â ⟨T,0,Á⟩:=if_pos on;rwa[e4]
 .show jX.ownsRow g.B 149 1 v (g.I st.d++[T]).length (nQ<|g.I st.d++[T]);rwa[e1,e2]
 .have:st.d.r=Ë:=e;grind
 .grind
def abP(h:gR m b g nm s st w)(C:st.r=0)(o:st.d.r=Î)(D:st.d.Y.length<=100000): Ò À 99 #[Ã<|Â ⟨b,0,Á⟩] w λe u=>e=Æ (ë #[])/\sG m b {st with C:=[84],d:=st.d.nO} w u:=by
 have Y:=h.r.r 3 _ U;have f3:=h.r.C 3;have gT:=h.r.M;have l:=h.C.r o;have y:=h.arp o;have E:=λv=>by have:=CS st.d.I.c v;rwa[l.M]at this
 have F:m<=g.B/\g.B<=g.q/\st.d.I.c.length=8:=⟨l.S,l.N,l.M⟩;have G:g.B<=w.heap.size:=by have:=l.r.M;have:=l.N;omega
 have I:(g.I st.d).length<=100000:=by rwa[l.G]
 have J:=h.S;have H:=fe<|Ê F<|Ê G<|Ê I<|Ê J<|Ê C o;have j:=fe<|E g.r;have x:g.S st.d=Â ⟨g.q,0,Á⟩:=if_pos o;go_enter Tryz.func99,Tryz.ntmps99;go_wp2_with fail;change ß À _ _ _ (Nr b w);have k:=y.fM (e9.fU _ _) y.N.fU;generalize hT:w.heap.size=T at*;generalize L:(Nr b w).drew=w1 at*;let⟨i0,M,N,O,P⟩:=ů arn;have p:=fe<|Ê M<|Ê N<|Ê O P;refine mD (λu=>u.cell? ⟨b,2,Á⟩=Â (Ã<|g.S st.d)/\u.cell? ⟨b,3,Á⟩=Â (Ã<|Â ⟨T,0,Á⟩)/\u.cell? ⟨g.q,8,Á⟩=Â g.r) [19] ft ?_;rw[L];rw[x];have Q:Hid (w1.cell? ⟨b,2,Á⟩=Â (Ã<|Â ⟨g.q,0,Á⟩)/\w1.cell? ⟨b,3,Á⟩=Â (Ã<|Â ⟨T,0,Á⟩)/\w1.cell? ⟨g.q,8,Á⟩=Â g.r):=fe ⟨by rw[<-x];exact k.r.r 2 _ U,k.r.r 3 _ U,k.I.r 8 _ j.out⟩;have r:=fe x;iterate 15 apply tk Q.out
 have S:=k.M.tb.M;have a:=k.fM (e9.gK fg w1 #[Ã<|Â ⟨T,0,Á⟩] 149) (k.N.gK _ _ fl A λv f=>by simp at f;subst f;exact⟨Ì H.out.1.1 H.out.2.1,S⟩);apply gC 15;intro K i;go_simp;refine i.out _ _ (λ_=>⟨by rw[<-r.out];exact a.r.r 2 _ U,a.r.r 3 _ U,a.I.r 8 _ j.out⟩) ?_;apply gC 16;intro K i;refine abI fP _ _ 159 fP Tryz.underlying159 p.out.1 p.out.2.1 p.out.2.2.1 p.out.2.2.2 fP a.C ⟨w1.heap.size,0,Á⟩ fP (Λ w1 _ _) U (by have:=H.out.2.2.1;unfold ī;omega) (by have:=H.out.2.2.1;omega) (by have:=H.out.2.1;have:=a.M.tb.M;omega) A H.out.1.1 a.N ⟨Ì H.out.1.1 H.out.2.1,a.M.tb.M⟩ A ?_;intro v9 w9 t V W;obtain⟨a9,n9c,rfl⟩:=jj t.fq;have f:=a.r.I t.r<|jE a.C a.r A;have n:=a.I.I t.r<|jE a.C a.I A;refine i.out _ _ (λ_=>⟨by rw[<-r.out];exact f.r 2 _ U,f.r 3 _ U,n.r 8 _ j.out⟩) ?_;apply gC 17;intro K i;go_simp;refine i.out _ _ (λ_=>⟨by rw[<-r.out];exact f.r 2 _ U,f.r 3 _ U,n.r 8 _ j.out⟩) ?_;apply gC 18;intro K i;go_simp;refine i.out _ _ (λ_=>⟨by rw[<-r.out];exact f.r 2 _ U,f.r 3 _ U,n.r 8 _ j.out⟩) ?_;have cq8:=n.r 8 _ j.out;have fq8:=n.C 8;have cb4:=f.r 4 _ U;have fb4:=f.C 4;have cb0:=f.r 0 _ U;have fb0:=f.C 0;have cb3:=f.r 3 _ U;have X:=fh.S n f A;have hbq:¬b=g.q:=λe=>X e.symm;apply gC 19;intro K i;go_simp;apply i.out _ _ λz=>absurd A z;refine mf ft ?_ _;have z:=fe<|a.jN H.out.2.2.2.1 o H.out.1 H.out.2.1 H.out.2.2.2.2.1 t V W U;go_wp2_with fail;go_end0;exact⟨U,z.out.1,_,_,_,z.out.2⟩
end
section
variable{g:Gh}{nm:Option ü}{s:ByteArray}{f:PS}{d:PD}{Q:Nat}{k:Int}
def arq(h:w.ownsRow i e 1 v n l)(c:j<=i):w.ownsRow j e 1 v n l:= ⟨h.1,h.2.imp id λ⟨g,d,f,a,b,r⟩=>⟨g,d,f,a,Ì c b,r⟩⟩
def wM.gh(l:wM m g d w):wL w.heap.size g.q ⟨d.I.c,d.Y⟩ w:= ⟨l.r.M,l.M,g.r,g.I d,l.r,arq l.I<|Ø _,λj a=>(l.I.lt j a).2,l.abO.M (Ø _)<|æ _⟩
theorem k9.abQ(h:k9 m g d w)(a:d.r=Ë->d.S=[]):pZ w.heap.size (g.C d) d.C w:=by
 unfold Gh.C PD.C;split
 .rename_i e;have l:=h.r e;have b:=l.r.M;have c:=l.N;exact h.I.UH Z l.gh
 .rename_i e;have f:=a (by simpa using e);have:=h.I.I;grind [Ý,pZ.N]
def Ns(b:Nat)(k:Int)(w:Í):Í:=(w.setCell ⟨b,2,Á⟩<|Ã<|Â ⟨w.heap.size,0,Á⟩).alloc<|Û #[Å É 0,Å É 0,Å É 0,Å É 0,Å É k,Å É 0,Å É 0,Å É 0,Ç Á 0 0] 161
def rdQ(s:ByteArray)(g:Gh)(d:PD)(Q:Nat)(nm:Option ü)(lu a:Int):List Ñ:=
 [Ä s,g.N,Ã<|Â ⟨Q,0,Á⟩,Ã<|g.Y d,Ã<|g.G d,Ã nm,Å É lu,Å É a]
structure FD(m b:Nat)(g:Gh)(d:PD)(Q:Nat)(k:Int)(s:ByteArray)(nm:Option ü)(lu UP:Int)(w0 w:Í):Prop where
 S:e9 (λi=>m<=i) w0 w
 M:jF m w
 r:fh b (rdQ s g d Q nm lu UP) 153 w
 I:fh Q (CQ (PD.abG k).c<|Ç Á 0 0) 161 w
 N:pZ Q (g.C d) d.C w
 C:w.ownsRow m 148 1 g.N (g.C d).length (nQ<|g.C d)
def FD.fM{lu:Int}(h:FD m b g d Q k s nm lu c W w)(a:e9 fg w u)(e:jF m u):FD m b g d Q k s nm lu c W u:= ⟨h.S.C a λ_ _ x=>x.elim,e,h.r.I a id,h.I.I a id,h.N.C a λ_ _ x=>x.elim,ij h.C a λ_ _=>id⟩
def gR.ars(h:gR m b g nm s f w)(k:Int)(l:f.d.r=Ë->f.d.S=[]):FD m b g f.d w.heap.size k s nm f.r f.I w (Ns b k w):=by
 have n:(w.setCell ⟨b,2,Á⟩<|Ã<|Â ⟨w.heap.size,0,Á⟩).heap.size=w.heap.size:=fl
 have c:e9 fg (w.setCell ⟨b,2,Á⟩<|Ã<|Â ⟨w.heap.size,0,Á⟩) (Ns b k w):=e9.gK _ _ _ _;have o:e9 (λk=>k=b) w (w.setCell ⟨b,2,Á⟩<|Ã<|Â ⟨w.heap.size,0,Á⟩):=p6 h.r;have a:=o.C c λ_ _ x=>x.elim;refine⟨a.S λk _ x=>by rw[x];exact h.S,?_,(h.r.fL 2 _).I c id,?_,(h.C.abQ l).C a λi _ x=>Ï ⟨_,_,_,I9 x h.r,È U⟩,ij h.C.C a λj p x=>jE h.C.C h.r A<|by rw[p,x]⟩
 .exact h.a.C h.r h.S A _ _ fl A λv e=>by simp at e;rcases e with rfl|rfl|rfl|rfl<;>trivial
 .have:=fh.N (w.setCell ⟨b,2,Á⟩<|Ã<|Â ⟨w.heap.size,0,Á⟩) [Å É 0,Å É 0,Å É 0,Å É 0,Å É k,Å É 0,Å É 0,Å É 0,Ç Á 0 0] 161;rwa[n]at this
def aru(g:Gh)(d:PD)(Q:Nat)(v:Ñ):Gh:={a:=g.C d,q:=Q,t:=Q,B:=Q,tb:=[],N:=v,r:=Ç Á 0 0,b:=g.Y d}
theorem FD.jN{sb:ByteArray}(h:FD m b g f.d Q k s nm f.r f.I w u)(o:m<=b)(p:m<=Q)(S:f.r=0)(y:sb.size<=10)(B:j2 sb=ry k) (a:qw u m 148 1 g.N (g.C f.d).length (nQ<|g.C f.d) 1 [Ã<|Â ⟨Q,0,Á⟩] v W) (C:jF m W) (D:nk m W.heap.size v) (l:jX=((W.setCell ⟨b,1,Á⟩ v).setCell ⟨b,4,Á⟩<|Ã<|Â ⟨Q,0,Á⟩).setCell ⟨b,0,Á⟩ (Ä sb)): e9 (λi=>m<=i) w jX/\gR m b (aru g f.d Q v) nm sb {f with C:=ry k,d:=f.d.Fv k} jX:=by
 have c:=h.r.I a.r<|jE h.C h.r A;have n:=h.I.I a.r<|jE h.C h.I A;have E:=h.N.C a.r λi _ x=>by let⟨e,z⟩:=me h.C x;exact Ï ⟨_,_,_,z,Ï U⟩
 have F:e9 (λk=>k=b) W (W.setCell ⟨b,1,Á⟩ v):=p6 c;have q:=c.fL 1 v;have G:e9 (λk=>k=b) (W.setCell ⟨b,1,Á⟩ v) ((W.setCell ⟨b,1,Á⟩ v).setCell ⟨b,4,Á⟩<|Ã<|Â ⟨Q,0,Á⟩):=p6 q;have r:=q.fL 4<|Ã<|Â ⟨Q,0,Á⟩;have H:e9 (λk=>k=b) ((W.setCell ⟨b,1,Á⟩ v).setCell ⟨b,4,Á⟩<|Ã<|Â ⟨Q,0,Á⟩) jX:=by rw[l];exact p6 r
 have t:=r.fL 0<|Ä sb;rw[<-l]at t;have z:=(F.ff G).ff H;have I:=n.I z λx=>fh.S n c A x;have J:=E.C z λi _ x=>Ï ⟨_,_,_,I9 x c,È U⟩;have K:=ij a.fq z λj L x=>jE a.fq c A (by rw[L,x]);have M:Q<(W.setCell ⟨b,1,Á⟩ v).heap.size:=by simpa using n.M
 have N:jF m jX:=by rw[l];refine((C.r _ D).r _ ?_).r _ trivial;exact⟨p,M⟩
 have O:(g.C f.d++[Q]).length=(g.C f.d).length+1:=fl
 have P:nQ (g.C f.d++[Q])=nQ (g.C f.d)++[Ã<|Â ⟨Q,0,Á⟩]:=by simp[nQ]
 refine⟨(h.S.C a.r λi _ x=> ?_).C z λi _ x=> ?_,o,N,t,y,B,⟨?_,J,λ_=>⟨p,æ _,U,I,?_,pd.N _ _ _,(λe=>by cases e),λ_=>⟨rfl,rfl⟩⟩,(λe=>by cases e)⟩,λe=> ?_,È rfl⟩
 .exact(h.C.lt i x).1
 .rwa[x]
 .show jX.ownsRow m 148 1 v (g.C f.d++[Q]).length (nQ<|g.C f.d++[Q]);rwa[O,P]
 .exact⟨U,È ⟨U,U⟩⟩
 .grind
def arv:yv f 0=Á:=rfl
def arw(h:gR m b g nm s f w)(r:f.r=0)(t:f.d.r=Ë->f.d.S=[])(x:f.d.C.length<=100000)(k:Int): Ò À 96 #[Ã<|Â ⟨b,0,Á⟩,Å É k] w λe u=>match yv f k with
  |none=>e=Æ (õ Ë)/\u=w
  |some c=>e=Æ (õ Î)/\sG m b c w u:=by
 by_cases l:k=0
 .subst l;rw[arv];go_enter Ω,Μ;go_wp2;go_ret;exact⟨U,U⟩
 have Q:(k==0)=Ë:=by rwa[beq_eq_false_iff_ne]
 have e:yv f k=Â {f with C:=ry k,d:=f.d.Fv k}:=if_neg l;rw[e];have S:=h.r.r 2 _ U;have V:=h.r.C 2;have W:=h.r.M;have p:=h.ars k t;have y:(g.C f.d).length<=100000:=by rwa[h.C.G]
 have z:=h.S;have B:m<=w.heap.size:=Z
 have H:=fe<|Ê z<|Ê B<|Ê y r;go_enter Ω,Μ;go_wp2_with fail;change ß À _ _ _ (Ns b k w);have i:=p.fM (e9.fU _ _) p.M.fU;generalize X:w.heap.size=T at*;generalize C:(Ns b k w).drew=w1 at*;let⟨Y,D,E,F,G⟩:=ů aro;have j:=fe<|Ê D<|Ê E<|Ê F G;refine mD (λu=>u.cell? ⟨b,1,Á⟩=Â g.N/\u.cell? ⟨b,2,Á⟩=Â (Ã<|Â ⟨T,0,Á⟩)) [13] ft ?_;rw[C];have I:Hid (w1.cell? ⟨b,1,Á⟩=Â g.N/\w1.cell? ⟨b,2,Á⟩=Â (Ã<|Â ⟨T,0,Á⟩)):=fe ⟨i.r.r 1 _ U,i.r.r 2 _ U⟩;iterate 9 apply tk I.out
 have J:=i.I.M;have a:=i.fM (e9.gK fg w1 #[Ã<|Â ⟨T,0,Á⟩] 148) (i.M.gK _ _ fl A λv c=>by simp at c;subst c;exact⟨H.out.2.1,J⟩);apply gC 9;intro K c;go_simp;apply c.out _ _ λ_=>⟨a.r.r 1 _ U,a.r.r 2 _ U⟩;apply gC 10;intro K c;refine abI fP _ _ 61 fP Tryz.underlying61 j.out.1 j.out.2.1 j.out.2.2.1 j.out.2.2.2 fP a.C ⟨w1.heap.size,0,Á⟩ fP (Λ w1 _ _) U (by have:=H.out.2.2.1;unfold ī;omega) (by have:=H.out.2.2.1;omega) (by have:=H.out.2.1;have:=a.I.M;omega) A (æ _) a.M ⟨H.out.2.1,a.I.M⟩ A ?_;intro v9 w9 n L M;obtain⟨a9,n9c,rfl⟩:=jj n.fq;have v:=a.r.I n.r<|jE a.C a.r A;apply c.out _ _ λ_=>⟨v.r 1 _ U,v.r 2 _ U⟩;apply gC 11;intro K c;go_simp;apply c.out _ _ λ_=>⟨v.r 1 _ U,v.r 2 _ U⟩;apply gC 12;intro K c;go_simp;apply c.out _ _ λ_=>⟨v.r 1 _ U,v.r 2 _ U⟩;have cb1:=v.r 1 _ U;have fb1:=v.C 1;have cb4:=v.r 4 _ U;have fb4:=v.C 4;have cb0:=v.r 0 _ U;have fb0:=v.C 0;have cb2:=v.r 2 _ U;apply gC 13;intro K c;go_simp;apply c.out _ _ λo=>absurd A o;refine mf ft ?_ _;have N:=fe λo q O=>a.jN (sb:=o) H.out.1 H.out.2.1 H.out.2.2.2 q O n L M U;go_wp2_with (go_at_call 145;refine(arb _ _).mono ?_;rintro e u ⟨⟨o,rfl,O,P⟩,q⟩;subst u);go_ret;have q:=N.out o O P;exact⟨U,q.1,_,_,_,q.2⟩
end
def lT(i:Nat)(z:Int):Prop:=match i with
 |0=>0<=z/\z<8
 |1=>0<=z/\z<8
 |2=>0<=z/\z<1000000
 |3=>0<=z/\z<1000000
 |4=>1<=z/\z<10
 |5=>-1<=z/\z<1000000
 |6=>-1<=z/\z<1000000
 |7=>0<=z/\z<16
 |_=>True
structure FE(n m:Nat)(c:List Int):Prop where
 C:c.length=n
 r:∀i,i<m->lT i (c.getD i 0)
theorem FE.I(h:FE n m zQ)(i:Nat)(z:Int)(b:i<m->lT i z):FE n m (zQ.set i z):=by refine⟨by simp[h.C],λj a=> ?_⟩;have:=h.r j a;grind
def abR(h:i<zQ.length)(z:Int):(zQ.set i z).getD i 0=z:=by simp[Ğ,h]
structure ot(t:PT):Prop where
 c:FE 5 4 t.c
 p:t.p.size<=40/\∀c∈t.p.data.toList,yh c=Î
structure vn(r:PR):Prop where
 c:FE 8 8 r.c
 C:∀t∈r.r,ot t
 n:r.r.length<=8
structure kC(d:PD):Prop where
 N:d.r=Ë->d.S=[]/\d.M=Ë
 b:d.M=Ë->d.I.r=[]
 C:d.C.length<=24
 I:d.Y.length<=8
 S:∀r∈d.S,vn r
 M:d.r=Î->FE 8 8 d.I.c
 a:d.r=Î->∀t∈d.I.r,ot t
 Y:d.M=Î->ot d.N
structure jy(B:ByteArray)(k:Nat)(st:PS):Prop where
 M:0<=st.r
 r:st.r<=5
 C:0<=st.I
 I:st.I<=40
 e:0<st.r->(st.M=86\/st.M=87\/st.M=110\/st.M=107)/\st.d.r=Î/\0<=st.d.G st.M/\st.d.G st.M<10^(6-st.r.toNat)
 d:kC st.d
 c:st.d.r=Î\/st.C=[82]
 b:82∈st.C->st.d.C.length<24
 N:84∈st.C\/80∈st.C->st.d.M=Î
 a:66∈st.C->st.d.M=Ë
 S:80∈st.C->st.C=[80]/\st.r=0
 Y:80∈st.C->st.I.toNat<=k/\∀j (h:j<B.size),k-st.I.toNat<=j->j<k->yh B[j]=Î
section
variable{d:PD}{st o:PS}
def kC.abS(h:kC d)(on:d.r=Î):∀t∈d.Y,ot t:=by
 unfold PD.Y;split
 .rename_i e;intro t a;rcases â.1 a with q|q
  .exact h.a on t q
  .rw[ō]at q;rw[q];exact h.Y e
 .exact h.a on
def kC.G(h:kC d):∀r∈d.C,vn r:=by
 unfold PD.C;split
 .rename_i e;intro r a;rcases â.1 a with q|q
  .exact h.S r q
  .rw[ō]at q;rw[q];exact⟨h.M e,h.abS e,h.I⟩
 .exact h.S
def yx(d:PD):d.C.length=d.S.length+(if d.r then 1 else 0):=by unfold PD.C;split<;>simp
def Ja(d:PD):d.Y.length=d.I.r.length+(if d.M then 1 else 0):=by unfold PD.Y;split<;>simp
def kC.r(h:kC d)(i:Nat)(z:Int)(a:lT i z):kC (d.ov i z):= ⟨h.N,h.b,by have:=h.C;rw[yx]at this|-;exact this,by have:=h.I;rw[Ja]at this|-;exact this,h.S,λe=>(h.M e).I i z λ_=>a,h.a,h.Y⟩
def kC.oK(h:kC d)(i:Nat)(z:Int)(a:i<4->lT i z):kC (d.oK i z):= ⟨h.N,h.b,by have:=h.C;rw[yx]at this|-;exact this,by have:=h.I;rw[Ja]at this|-;exact this,h.S,h.M,h.a,λe=>⟨(h.Y e).c.I i z a,(h.Y e).p⟩⟩
def kC.iw(h:kC d)(i:Nat)(z:Int)(a:lT i z):kC (d.iw i z):=by
 unfold PD.iw;split
 .exact h.oK i z λ_=>a
 .exact h.r i z a
def kC.oL(h:kC d)(p:ByteArray)(a:p.size<=40/\∀c∈p.data.toList,yh c=Î):kC (d.oL p):= ⟨h.N,h.b,by have:=h.C;rw[yx]at this|-;exact this,by have:=h.I;rw[Ja]at this|-;exact this,h.S,h.M,h.a,λe=>⟨(h.Y e).c,a⟩⟩
def arx:ot PD.Fs:=⟨⟨U,λi a=>by
 match i,a with
 |0,_=>exact⟨A,A⟩
 |1,_=>exact⟨A,A⟩
 |2,_=>exact⟨A,A⟩
 |3,_=>exact⟨A,A⟩⟩,⟨A,λc b=>by cases b⟩⟩
def kC.nO(h:kC d)(on:d.r=Î)(a:d.Y.length<8):kC d.nO:= ⟨(λe=>by have:d.r=Ë:=e;rw[on]at this;cases this),(λe=>by cases e),by have:=h.C;rw[yx]at this|-;exact this,by rwa[Ja],h.S,λe=>h.M e,λ_=>h.abS on,λ_=>arx⟩
def kC.Fv(h:kC d)(q:Int)(a:1<=q/\q<10)(b:d.C.length<24):kC (d.Fv q):= ⟨(λe=>by cases e),λ_=>rfl,by rwa[yx],by show(0:Nat)<=8;decide,h.G,λ_=>⟨U,λi c=>by
   match i,c with
   |0,_=>exact⟨by show(0:Int)<=0;decide,by show(0:Int)<8;decide⟩
   |1,_=>exact⟨by show(0:Int)<=0;decide,by show(0:Int)<8;decide⟩
   |2,_=>exact⟨by show(0:Int)<=0;decide,by show(0:Int)<1000000;decide⟩
   |3,_=>exact⟨by show(0:Int)<=0;decide,by show(0:Int)<1000000;decide⟩
   |4,_=>exact a
   |5,_=>exact⟨by show(-1:Int)<=0;decide,by show(0:Int)<1000000;decide⟩
   |6,_=>exact⟨by show(-1:Int)<=0;decide,by show(0:Int)<1000000;decide⟩
   |7,_=>exact⟨by show(0:Int)<=0;decide,by show(0:Int)<16;decide⟩⟩,(λ_ t f=>by cases f),(λe=>by cases e)⟩
def kC.fL(h:kC d)(want z:Int)(a:(want=86->lT 5 z)/\(want=87->lT 6 z)/\(want=120->lT 0 z)/\(want=121->lT 1 z)/\(want=110->lT 2 z)/\(want=107->lT 3 z)/\(want=115->lT 7 z)):kC (d.fL want z):=by
 let⟨b,c,e,f,g,i,j⟩:=a;unfold PD.fL;repeat' split
 .exact h.r 5 z<|b ‹_›
 .exact h.r 6 z<|c ‹_›
 .exact h.iw 0 z<|e ‹_›
 .exact h.iw 1 z<|f ‹_›
 .exact h.iw 2 z<|g ‹_›
 .exact h.iw 3 z<|i ‹_›
 .exact h.r 7 z<|j ‹_›
 .exact h
def UR(d:PD)(a z:Int):(d.fL a z).r=d.r/\(d.fL a z).M=d.M/\(d.fL a z).C.length=d.C.length:=by
 unfold PD.fL PD.iw;repeat' split
 all_goals exact⟨U,U,(yx _).trans (yx d).symm⟩
theorem US(h:kC d)(on:d.r=Î)(a z:Int)(f:a=86\/a=87\/a=110\/a=107):(d.fL a z).G a=z:=by
 have g:=(h.M on).C;have b:∀i,i<4->(d.iw i z).tN i=z:=λi j=>by
  unfold PD.iw;split
  .rename_i e;have k:=(h.Y e).c.C;show(if d.M=Î then(d.N.c.set i z).getD i 0 else d.I.c.getD i 0)=z;grind
  .rename_i e;show(if d.M=Î then d.N.c.getD i 0 else(d.I.c.set i z).getD i 0)=z;grind
 rcases f with rfl|rfl|rfl|rfl
 .exact abR Z z
 .exact abR Z z
 .exact b 2 A
 .exact b 3 A
def Nt:∀(l:List UInt8) (c:UInt8),Þ l c<l.length
 |[],_=>by show(-1:Int)<0;decide
 |a::l,c=>by
  have:=Nt l c;unfold Þ;split
  .simp
  .split<;>(simp;omega)
def UT:∀(l:List UInt8) (c:UInt8),c∈l->0<=Þ l c
 |[],_,h=>by cases h
 |a::l,c,h=>by
  unfold Þ;split
  .decide
  .rename_i e;rcases List.mem_cons.1 h with q|q
   .subst q;simp at e
   .have:=UT l c q;split
    .rename_i b;rw[beq_iff_eq]at b;omega
    .omega
def abT{l:List UInt8}(h:c.toNat∈l.map UInt8.toNat):c.toNat.toUInt8∈l:=by let⟨x,a,b⟩:=Ú.1 h;rw[<-b];simpa using a
def abU(h:sD c=Î):0<=Þ [97,98,99,100,101,102,103,104] c.toNat.toUInt8:=by rw[aqY]at h;refine UT _ _<|abT ?_;simp;omega
def arz(h:(jo c||(decide (97<=c)&&decide (c<=102)))=Î):0<=Þ [48,49,50,51,52,53,54,55,56,57,97,98,99,100,101,102] c.toNat.toUInt8:=by simp only[Bool.or_eq_true,Fu,Bool.and_eq_true,decide_eq_true_eq]at h;refine UT _ _<|abT ?_;simp;omega
theorem arA(a:pb h c=Î):(h=86->lT 5 (nj h c))/\(h=87->lT 6 (nj h c))/\(h=120->lT 0 (nj h c))/\(h=121->lT 1 (nj h c))/\(h=110->lT 2 (nj h c))/\(h=107->lT 3 (nj h c))/\(h=115->lT 7 (nj h c)):=by
 unfold pb at a;have b:(c==104||jo c)=Î->-1<=(if c=104 then-1 else(c-48)%256)/\(if c=104 then(-1:Int)else(c-48)%256)<1000000:=λq=>by split<;>omega
 have d:jo c=Î->0<=(if c=104 then-1 else(c-48)%256)/\(if c=104 then(-1:Int)else(c-48)%256)<1000000:=λq=>by rw[Fu]at q;grind
 refine⟨?_,?_,?_,?_,?_,?_,?_⟩<;>rintro rfl
 .exact b a
 .exact b a
 .exact⟨abU a,Nt _ _⟩
 .exact⟨abU a,Nt _ _⟩
 .exact d a
 .exact d a
 .exact⟨arz a,Nt _ _⟩
theorem arB{lu:Int}(a:jo c=Î)(b:0<=h)(d:0<lu)(e:lu<=5)(f:h<10^(6-lu.toNat)):0<=pX h c/\pX h c<10^(6-(lu-1).toNat)/\pX h c<1000000:=by
 rw[Fu]at a;have g:h<100000->pX h c=h*10+(c-48):=λq=>by unfold pX;rw[Ļ (h*10) ⟨Z,Z⟩,Ļ _ ⟨Z,Z⟩];omega
 have i:lu=1\/lu=2\/lu=3\/lu=4\/lu=5:=Z
 grind
def kC.lu(h:kC d)(a z:Int)(c:a=86\/a=87\/a=110\/a=107)(b:0<=z/\z<1000000):kC (d.fL a z):= h.fL a z ⟨λ_=>⟨Z,b.2⟩,λ_=>⟨Z,b.2⟩,λe=>by omega,λe=>by omega,λ_=>b,λ_=>b,λe=>by omega⟩
def jy.arC(h:jy B k st)(e:0<st.r)(j:jo c=Î):jy B (k+1) (CP st c):=by
 let⟨a,b,l,m⟩:=h.e e;let⟨f,n,o⟩:=arB j l e h.r m;let⟨g,i,p⟩:=UR st.d st.M<|pX (st.d.G st.M) c;refine⟨by show 0<=st.r-1;omega,by have:=h.r;show st.r-1<=5;omega,h.C,h.I,λ_=>⟨a,g.trans b,?_⟩,h.d.lu _ _ a ⟨f,o⟩,?_,λq=> ?_,λq=>i.trans<|h.N q,λq=>i.trans<|h.a q,λq=> ?_,λq=> ?_⟩
 .show 0<=(st.d.fL st.M<|pX (st.d.G st.M) c).G st.M/\(st.d.fL st.M<|pX (st.d.G st.M) c).G st.M<10^(6-(st.r-1).toNat);rw[US h.d b _ _ a];exact⟨f,n⟩
 .exact È<|g.trans b
 .show(st.d.fL st.M<|pX (st.d.G st.M) c).C.length<24;rw[p];exact h.b q
 .have:=(h.S q).2;omega
 .have:=(h.S q).2;omega
def jy.vG(h:jy B k st):jy B k {st with r:=0}:= ⟨Ť _,by show(0:Int)<=5;decide,h.C,h.I,(λq=>by cases q),h.d,h.c,h.b,h.N,h.a,λq=>⟨(h.S q).1,rfl⟩,h.Y⟩
theorem jy.on(h:jy B k st)(a:82∉st.C):st.d.r=Î:=by rcases h.c with q|q;all_goals grind
def kC.arD(h:kC d)(a:d.M=Î):d.r=Î:=by
 cases e:d.r with
 |true=>rfl
 |false=>have:=(h.N e).2;rw[a]at this;cases this
theorem abV(h:jy B k st)(b:st.r=0)(on:st.d.r=Î)(a:pY st c=Â o):jy B (k+1) o:=by
 unfold pY at a;split at a
 .rename_i e;cases a;refine⟨h.M,h.r,h.C,h.I,λq=> ?_,h.d,Ï U,λ_=> ?_,λq=> ?_,λq=> ?_,λq=> ?_,λq=> ?_⟩
  .grind
  .rw[yx,on];exact e.2
  .simp at q
  .simp at q
  .simp at q
  .simp at q
 .split at a
  .rename_i e;cases a;refine⟨h.M,h.r,h.C,h.I,λq=> ?_,h.d.nO on e.2.2,È on,λq=> ?_,λ_=>rfl,λq=> ?_,λq=> ?_,λq=> ?_⟩;all_goals grind
  .cases a
def arE(q:Int):82∉ry q/\84∉ry q/\80∉ry q:=by
 unfold ry;repeat' split
 all_goals decide
theorem arF(q:Int):82∉sE q/\84∉sE q/\66∉sE q/\(80∈sE q->sE q=[80]):=by unfold sE;grind
def arG(c:Int):0<=wI c/\wI c<10:=by
 unfold wI;repeat' split
 all_goals decide
theorem arH(h:jy B k st)(i:st.r=0)(f:82∈st.C)(a:yv st (wI c)=Â o):jy B (k+1) o:=by
 unfold yv at a;split at a
 .cases a
 .rename_i e;cases a;let⟨g,j,b⟩:=arE<|wI c;have l:=arG c;refine⟨h.M,h.r,h.C,h.I,λq=> ?_,h.d.Fv _ Z<|h.b f,È U,λq=>absurd q g,λq=> ?_,λ_=>rfl,λq=>absurd q b,λq=>absurd q b⟩;all_goals grind
theorem arI(h:jy B k st)(c:st.r=0)(q:Int)(f:84∈st.C)(a:yw st q=Â o):jy B (k+1) o:=by
 unfold yw at a;split at a
 .cases a
 .cases a;let⟨g,m,i,l⟩:=arF q;have b:=h.N<|È f;refine⟨h.M,h.r,Ť _,by show(0:Int)<=40;decide,λq=> ?_,h.d.oK 4 q λe=>by omega,È<|h.d.arD b,λq=>absurd q g,λ_=>b,λq=>absurd q i,λq=>⟨l q,c⟩,λ_=>⟨Ø _,λj _ n p=> ?_⟩⟩;all_goals grind
theorem arJ{a:Int}(h:0<qI a c):(a=86\/a=87)/\qI a c=1/\jo c=Î/\c≠48\/(a=110\/a=107)/\qI a c=5/\jo c=Î/\c≠48:=by unfold qI at h|-;grind
theorem abW(h:jy B k st)(on:st.d.r=Î){want:Int}(l:pb want c=Î)(r:List Int)(a:∀x∈r,x∈st.C)(g:80∉r):jy B (k+1) {ow st want c with C:=r}:=by
 let⟨m,i,n⟩:=UR st.d want<|nj want c;have j:=aq2 want c;refine⟨j.1,j.2,h.C,h.I,λq=> ?_,h.d.fL _ _<|arA l,È<|m.trans on,λq=> ?_,λq=>i.trans<|h.N<|q.imp (a _)<|a _,λq=>i.trans<|h.a<|a _ q,λq=>absurd q g,λq=>absurd q g⟩
 .have q:=q;show(want=86\/want=87\/want=110\/want=107)/\(st.d.fL want<|nj want c).r=Î/\0<=(st.d.fL want<|nj want c).G want/\(st.d.fL want<|nj want c).G want<10^(6-(qI want c).toNat);rcases arJ q with⟨o,b,e,p⟩|⟨o,b,e,p⟩
  .have f:want=86\/want=87\/want=110\/want=107:=Z
   rw[US h.d on _ _ f,b];rw[Fu]at e;have:nj want c=(c-48)%256:=by unfold nj;grind
   grind
  .have f:want=86\/want=87\/want=110\/want=107:=Z
   rw[US h.d on _ _ f,b];rw[Fu]at e;have:nj want c=(c-48)%256:=by unfold nj;grind
   grind
 .show(st.d.fL want<|nj want c).C.length<24;rw[n];exact h.b<|a _ q
def arK{x:UInt8}(h:x∈(B.extract i b).data.toList):∃j,∃e:j<B.size,i<=j/\j<b/\B[j]=x:=by rw[Ĳ,ĺ,ĥ]at h;obtain⟨c,d,rfl⟩:=Ĝ h;simp only[Ś,List.length_drop,ě]at d;have f:B.data.size=B.size:=rfl;exact⟨i+c,Z,Z,Z,by simp[ċ]⟩
theorem arL(h:jy B k st)(l:st.r=0)(F:k<B.size)(a:jS B k st (B[k].toNat:Int)=Â o):jy B (k+1) o:=by
 unfold jS at a;split at a
 .rename_i e;exact abV h l (h.on<|by rw[e];decide) a
 .rename_i t p e;have c:t∈st.C:=by rw[e];exact List.mem_cons_self ..
  split at a
  .rename_i f;subst f;exact arH h l c a
  rename_i G;have i:st.d.r=Î:=by rcases h.c with q|q;all_goals grind
  split at a
  .rename_i f;subst f;split at a
   .rename_i u;cases a;have n:=h.a c;have b:st.d.Y.length<8:=by rw[Ja,h.d.b n,n];decide
    have v:jy B k {st with C:=[84],d:=st.d.nO}:=by refine⟨h.M,h.r,h.C,h.I,λq=> ?_,h.d.nO i b,È i,λq=> ?_,λ_=>rfl,λq=> ?_,λq=> ?_,λq=> ?_⟩;all_goals grind
    exact abW (want:=120) v i u [84] (λx b=>b) A
   .exact abV h l i a
  split at a
  .rename_i f;subst f;exact arI h l _ c a
  split at a
  .rename_i f;subst f;let⟨H,w⟩:=h.Y c;have n:=h.N<|Ï c;have y:=(h.S c).1;have I:=h.C;have J:=h.I;split at a
   .cases a;have z:p=[]:=by rw[y]at e;cases e;rfl
    subst z;refine⟨h.M,h.r,h.C,h.I,λq=> ?_,h.d.oL _ ⟨by rw[Č];omega,λx b=> ?_⟩,È i,λq=> ?_,λq=> ?_,λq=> ?_,λq=> ?_,λq=> ?_⟩
    .grind
    .obtain⟨j,r,m,s,rfl⟩:=arK b;exact w j r m s
    .cases q
    .grind
    .cases q
    .cases q
    .cases q
   .split at a
    .cases a
    .rename_i g;cases a;have K:=λq=>g<|È q;have C:=λq=>g<|Ï q;refine⟨h.M,h.r,by show 0<=st.I+1;omega,by show st.I+1<=40;omega,h.e,h.d,h.c,h.b,h.N,h.a,h.S,λ_=>⟨by show(st.I+1).toNat<=k+1;omega,λj r m s=> ?_⟩⟩;have m:k+1-(st.I+1).toNat<=j:=m;by_cases D:j=k
     .subst D;unfold yh;simpa using C
     .grind
  split at a
  .rename_i L M N E;cases a;refine abW h i E p (λx b=>by rw[e];exact Ĕ _ b) λq=> ?_;have:=(h.S<|by rw[e];exact Ĕ _ q).1;grind
  .cases a
def abX(h:jy B k st)(b:k<B.size)(a:kX B k st (B[k].toNat:Int)=Â o):jy B (k+1) o:=by
 unfold kX at a;split at a
 .rename_i e;cases a;exact h.arC e.1 e.2
 .exact arL h.vG U b a
def UU(B:ByteArray):jy B 0 nP:= ⟨A,A,A,A,(λq=>by cases q),⟨λ_=>⟨rfl,rfl⟩,λ_=>rfl,A,A,(λr e=>by cases e),(λe=>by cases e),(λe=>by cases e),(λe=>by cases e)⟩,Ï rfl,λ_=>by decide,(λq=>by rcases q with q|q<;>simp[nP]at q),(λq=>by simp[nP]at q),(λq=>by simp[nP]at q),(λq=>by simp[nP]at q)⟩
def UW:∀(f k:Nat) (st:PS),jy B k st->k<=B.size->jy B (j4 B f k st).1 (j4 B f k st).2/\(j4 B f k st).1<=B.size
 |0,k,st,h,hk=>⟨h,hk⟩
 |f+1,k,st,h,hk=>by
  unfold j4;split
  .rename_i a;split
   .exact⟨h,hk⟩
   .rename_i o e;exact UW f (k+1) o (abX h a e) Z
  .exact⟨h,hk⟩
end
section
variable{g:Gh}{st:PS}
def abY{d:PD}(i:Nat)(z:Int):g.M (d.iw i z)=g.M d:=by unfold PD.iw Gh.M;split<;>simp[PD.oK,PD.ov, *]
def abZ{d:PD}(h:i=2\/i=3)(z:Int):g.CR (d.iw i z) (if i=2 then 110 else 107)=⟨g.M d,i,Á⟩:=by
 rcases h with rfl|rfl
 .show(⟨g.M<|d.iw 2 z,2,Á⟩:ü)=_;rw[abY]
 .show(⟨g.M<|d.iw 3 z,3,Á⟩:ü)=_;rw[abY]
def ab0{d:PD}(on:d.r=Î):g.S d=Â ⟨g.q,0,Á⟩:=if_pos on
def arM{d:PD}(on:d.r=Î):g.G d=Â ⟨g.M d,0,Á⟩:=if_pos on
def Ml(h:gR m b g O B st w)(j:st.r=0)(on:st.d.r=Î)(a c:Int)(v:pb a c=Î): Ò À 100 #[Ã<|Â ⟨b,0,Á⟩,Å ū a,Å ū c] w λe u=>e=Æ (ë #[])/\sG m b (ow st a c) w u:=by
 have G:w.cell? ⟨b,2,Á⟩=Â (Ã<|g.S st.d):=h.r.r 2 _ U;have x:w.cell? ⟨b,4,Á⟩=Â (Ã<|g.G st.d):=h.r.r 4 _ U;rw[ab0 on]at G;rw[arM on]at x;have H:=fe<|Ê h v;clear h v;generalize y:g.M st.d=tm at x;have n:=fe y;clear y;by_cases o:a=86
 .subst o;have k:=fe (show ow st 86 c={st with r:=wN c 2,M:=86,d:=st.d.ov 5 (jR c)}from by unfold ow;rw[<-Nn H.out.2 (È ⟨È U,U⟩),Nq A];rfl);go_enter Ā,û;go_wp2_with (go_at_call 147;refine(Nl H.out.1 (Fz H.out.1.C H.out.1.r on (i:=5) A) j on _ _ 86 A A λz=>rfl).mono ?_;rintro e u ⟨rfl,l⟩);go_end0;exact⟨U,by rwa[k.out]⟩
 have I:(a==86)=Ë:=by rwa[beq_eq_false_iff_ne]
 by_cases p:a=87
 .subst p;have k:=fe (show ow st 87 c={st with r:=wN c 2,M:=87,d:=st.d.ov 6 (jR c)}from by unfold ow;rw[<-Nn H.out.2 (È ⟨Ï U,U⟩),Nq A];rfl);go_enter Ā,û;go_wp2_with (go_at_call 147;refine(Nl H.out.1 (Fz H.out.1.C H.out.1.r on (i:=6) A) j on _ _ 87 A A λz=>rfl).mono ?_;rintro e u ⟨rfl,l⟩);go_end0;exact⟨U,by rwa[k.out]⟩
 have J:(a==87)=Ë:=by rwa[beq_eq_false_iff_ne]
 by_cases q:a=120
 .subst q;have f:=fe ((by have:=FA H.out.1.C H.out.1.r on (i:=0) A;rw[n.out]at this;exact this:qK m b g st.d tm 0 (λz=>st.d.iw 0 z) (st.d.tN 0) w));have C:=f.out.C;have D:=f.out.I;have E:=f.out.r;go_enter Ā,û;go_wp2_with fail;go_region_with (go_at_call 146;refine(I7 _ _ _).mono ?_;rintro e u ⟨rfl,F⟩;subst u);all_goals go_end0
  all_goals exact⟨U,UO H.out.1 f.out j (Np A) U⟩
 have K:(a==120)=Ë:=by rwa[beq_eq_false_iff_ne]
 by_cases r:a=121
 .subst r;have f:=fe ((by have:=FA H.out.1.C H.out.1.r on (i:=1) A;rw[n.out]at this;exact this:qK m b g st.d tm 1 (λz=>st.d.iw 1 z) (st.d.tN 1) w));have C:=f.out.C;have D:=f.out.I;have E:=f.out.r;go_enter Ā,û;go_wp2_with fail;go_region_with (go_at_call 146;refine(I7 _ _ _).mono ?_;rintro e u ⟨rfl,F⟩;subst u);all_goals go_end0
  all_goals exact⟨U,UO H.out.1 f.out j (Np A) U⟩
 have L:(a==121)=Ë:=by rwa[beq_eq_false_iff_ne]
 by_cases s:a=110
 .subst s;have k:=fe (show ow st 110 c={st with r:=wN c 6,M:=110,d:=st.d.iw 2 (jR c)}from by unfold ow;rw[<-Nn H.out.2 (Ï ⟨È U,U⟩),Nq A];rfl);go_enter Ā,û;go_wp2_with (go_at_call 147;refine(Nl H.out.1 ((by have:=FA H.out.1.C H.out.1.r on (i:=2) A;rw[n.out]at this;exact this:qK m b g st.d tm 2 (λz=>st.d.iw 2 z) (st.d.tN 2) w)) j on _ _ 110 A A λz=>(by have:=abZ (g:=g) (d:=st.d) (i:=2) (È U) z;rwa[n.out]at this)).mono ?_;rintro e u ⟨rfl,l⟩);go_end0;exact⟨U,by rwa[k.out]⟩
 have M:(a==110)=Ë:=by rwa[beq_eq_false_iff_ne]
 by_cases t:a=107
 .subst t;have k:=fe (show ow st 107 c={st with r:=wN c 6,M:=107,d:=st.d.iw 3 (jR c)}from by unfold ow;rw[<-Nn H.out.2 (Ï ⟨Ï U,U⟩),Nq A];rfl);go_enter Ā,û;go_wp2_with (go_at_call 147;refine(Nl H.out.1 ((by have:=FA H.out.1.C H.out.1.r on (i:=3) A;rw[n.out]at this;exact this:qK m b g st.d tm 3 (λz=>st.d.iw 3 z) (st.d.tN 3) w)) j on _ _ 107 A A λz=>(by have:=abZ (g:=g) (d:=st.d) (i:=3) (Ï U) z;rwa[n.out]at this)).mono ?_;rintro e u ⟨rfl,l⟩);go_end0;exact⟨U,by rwa[k.out]⟩
 have l:(a==107)=Ë:=by rwa[beq_eq_false_iff_ne]
 by_cases k:a=115
 .subst k;have f:=fe<|Fz H.out.1.C H.out.1.r on (i:=7) A;have C:=f.out.C;have D:=f.out.I;have E:=f.out.r;go_enter Ā,û;go_wp2_with fail;go_region_with (go_at_call 146;refine(I7 _ _ _).mono ?_;rintro e u ⟨rfl,F⟩;subst u);all_goals go_end0
  all_goals exact⟨U,UO H.out.1 f.out j (Np A) U⟩
 have f:(a==115)=Ë:=by rwa[beq_eq_false_iff_ne]
 go_enter Ā,û;go_wp2;go_end0;refine⟨U,e9.fX _ _,g,O,B,?_⟩;have e:ow st a c={st with M:=a}:=by unfold ow PD.fL;rw[Np ⟨Z,Z⟩,if_neg o,if_neg p,if_neg q,if_neg r,if_neg s,if_neg t,if_neg k,<-j]
 rw[e];exact H.out.1.UM a j
end
section
variable{g:Gh}{s:ByteArray}{st:PS}{d:PD}
def Nu(m b:Nat)(o:Option PS)(e:Ending)(w u:Í):Prop:=
 (o=Á/\e=Æ (õ Ë)/\u=w)\/∃a,o=Â a/\e=Æ (õ Î)/\sG m b a w u
def ab1{o:Option PS}{e:Ending}(h:match o with
 |none=>e=Æ (õ Ë)/\u=w
 |some a=>e=Æ (õ Î)/\sG m b a w u):Nu m b o e w u:=by
 cases o with
 |none=>exact È ⟨U,h⟩
 |some a=>exact Ï ⟨a,U,h⟩
def arN{d:PD}(on:d.r=Î):d.C.length=d.S.length+1:=by rw[yx,on];rfl
def ab2(h:gR m b g O s st w)(j:st.r=0)(on:st.d.r=Î)(y:st.d.Y.length<=8)(z:st.d.C.length<=24)(c:Int): Ò À 95 #[Ã<|Â ⟨b,0,Á⟩,Å ū c] w λe u=>Nu m b (pY st c) e w u:=by
 have l:=h.C.r on;let⟨I,J,p⟩:=jj h.C.C;let⟨K,L,q⟩:=jj l.I;rw[h.C.G]at p;rw[l.G]at q;have M:=h.r.r 0 _ U;have r:=h.r.r 1 _ U;have B:=h.r.r 2 _ U;rw[ab0 on]at B;rw[p]at r;have t:=l.r.r 8 _ (by have:=CS st.d.I.c g.r;rwa[l.M]at this);rw[q]at t;have N:=h.r.C 0;obtain⟨v,f⟩:∃n,st.d.C.length=n:=⟨_,U⟩;obtain⟨x,i⟩:∃n,st.d.Y.length=n:=⟨_,U⟩;rw[f]at r z;rw[i]at t y;have k:st.d.S.length+1=v:=by rw[<-f];exact(arN on).symm
 have H:=fe<|Ê h<|Ê f<|Ê i<|Ê k j;by_cases C:c=59/\v<24
 .obtain⟨rfl,a⟩:=C;go_enter ť,ŗ;go_wp2;go_ret;let⟨h,f,i,k,j⟩:=H.out;exact Ï ⟨_,by rw[pY,if_pos ⟨U,Z⟩],U,mR h 0 _,g,O,_,h.Nk _ [82] A A<|È on⟩
 by_cases D:c=44/\0<x/\x<8
 .obtain⟨rfl,P,Q⟩:=D;go_enter ť,ŗ;go_wp2_with (go_at_call 99;refine(abP H.out.1 H.out.2.2.2.2 on (by have:=H.out.2.2.1;omega)).mono ?_;rintro e u ⟨rfl,o,E,F,S,a⟩;have T:=a.r.r 0 _ U;have V:=a.r.C 0;have G:=fe<|Ê o a;clear o a);go_ret;let⟨h,f,i,k,j⟩:=H.out;let⟨o,a⟩:=G.out;exact Ï ⟨_,by rw[pY,if_neg Z,if_pos ⟨U,Z,Z⟩],U,o.ff<|mR a 0 _,E,F,_,a.Nk _ [120,84] A A<|È on⟩
 .have a:=fe (show pY st c=Á by
   let⟨h,f,i,k,j⟩:=H.out;rw[pY,if_neg Z,if_neg Z])
  go_enter ť,ŗ;go_wp2_with fail;all_goals first|(go_ret;exact È ⟨a.out,U,U⟩)|(exfalso;simp only[beq_iff_eq,decide_eq_true_eq]at*;omega)
def ky:Τ->Option Τ
 |ń c=>Â c
 |.seq a b=>match ky a with
  |some c=>Â c
  |none=>ky b
 |.block _ c=>ky c
 |.scope c=>ky c
 |.cond _ a b=>match ky a with
  |some c=>Â c
  |none=>ky b
 |_=>Á
noncomputable def qL:Τ:=(Tryz.f61.body.bind ky).getD aj
def p7(b:Nat)(B:ByteArray)(i:Ñ)(u:Nat->Ñ):Ĉ:=⟨#[Ã<|Â ⟨b,0,Á⟩,Ä B,ĸ,ĸ,Å É 0,i,u 6,u 7,u 8,u 9,u 10,u 11,u 12,u 13,u 14,u 15,u 16,u 17,u 18,u 19,u 20,u 21,u 22,u 23,u 24,u 25,u 26,u 27,u 28,u 29,u 30,u 31,u 32,u 33,u 34,u 35,u 36,u 37,u 38,u 39,u 40,u 41,u 42,u 43,u 44,u 45,u 46,u 47,u 48,u 49,u 50,u 51,u 52,u 53,u 54,u 55,u 56,u 57,u 58,u 59,u 60,u 61,u 62,u 63,u 64,u 65,u 66,u 67,u 68,u 69,u 70,u 71,u 72,u 73,u 74,u 75,u 76,u 77,u 78,u 79,u 80,u 81,u 82,u 83,u 84,u 85,u 86,u 87,u 88,u 89,u 90,u 91,u 92,u 93,u 94,u 95,u 96,u 97,u 98,u 99,u 100,u 101,u 102,u 103,u 104,u 105,u 106,u 107,u 108,u 109,u 110,u 111,u 112,u 113,u 114,u 115,u 116,u 117,u 118,u 119,u 120,u 121,u 122,u 123,u 124,u 125,u 126,u 127,u 128,u 129,u 130,u 131,u 132,u 133,u 134,u 135,u 136,u 137,u 138,u 139,u 140,u 141,u 142,u 143,u 144,u 145,u 146],[]⟩
def Fr(b:Nat)(B:ByteArray)(i:Ñ)(a:Ĉ):Prop:=∃u,a=p7 b B i u
def gp{b:Nat}{B:ByteArray}{i:Value}{a:Act}(h:a=p7 b B i (λn=>a.tmps.getD n undef):=by rfl):Fr b B i a:=⟨_,h⟩
def QQ(X:Ĉ->Í->Prop):Exit->Ĉ->Í->Prop
 |.exit 0,a,w=>X a w
 |_,_,_=>False
def sH(m b:Nat)(B:ByteArray)(k:Nat)(st:PS)(a u:Í):Prop:=∃(h:k<B.size) (h:PS),kX B k st (B[k].toNat:Int)=Â h/\sG m b h a u
def sI(m b:Nat)(B:ByteArray)(k:Nat)(st:PS)(a u:Í):Prop:=∃h:k<B.size,kX B k st (B[k].toNat:Int)=Á/\∃c,sG m b c a u
theorem vo{d:Int}(h:(0<d/\yQ=Ë)\/d<=0):¬(0<d/\yQ=Î):=by grind
def vp(h:¬(0<st.r/\jo c=Î)):kX B k st c=jS B k {st with r:=0} c:=if_neg h
def arO(a:0<st.r)(b:jo c=Î):kX B k st c=Â (CP st c):=if_pos ⟨a,b⟩
section
variable{want:Int}
def arP(h:st.C=[]):jS B k st c=pY st c:=by rw[jS,h]
def arQ(h:st.C=want::zQ)(a:want=82):jS B k st c=yv st (wI c):=by rw[jS,h];simp only;rw[if_pos a]
def arR(h:st.C=want::zQ)(a:want=66)(b:sD c=Î):jS B k st c=Â (ow {st with C:=[84],d:=st.d.nO} 120 c):=by rw[jS,h];simp only;rw[if_neg Z,if_pos a,if_pos b]
def arS(h:st.C=want::zQ)(a:want=66)(b:sD c=Ë):jS B k st c=pY st c:=by rw[jS,h];simp only;rw[if_neg Z,if_pos a,if_neg (by rw[b];decide)]
def arT(h:st.C=want::zQ)(a:want=84):jS B k st c=yw st (Nh c):=by rw[jS,h];simp only;rw[if_neg Z,if_neg Z,if_pos a]
def arU(h:st.C=want::zQ)(a:want=80)(b:c=125):jS B k st c=Â {st with C:=zQ,d:=st.d.oL (B.extract (k-st.I.toNat) k)}:=by rw[jS,h];simp only;rw[if_neg Z,if_neg Z,if_neg Z,if_pos a,if_pos b]
def ab3(h:st.C=want::zQ)(a:want=80)(b:¬c=125)(d:st.I=40\/lE c=0):jS B k st c=Á:=by rw[jS,h];simp only;rw[if_neg Z,if_neg Z,if_neg Z,if_pos a,if_neg b,if_pos d]
def arV(h:st.C=want::zQ)(a:want=80)(b:¬c=125)(d:¬st.I=40)(e:¬lE c=0):jS B k st c=Â {st with I:=st.I+1}:=by rw[jS,h];simp only;rw[if_neg Z,if_neg Z,if_neg Z,if_pos a,if_neg b,if_neg Z]
def arW(h:st.C=want::zQ)(a:¬want=82)(b:¬want=66)(d:¬want=84)(e:¬want=80)(f:pb want c=Î):jS B k st c=Â {ow st want c with C:=zQ}:=by rw[jS,h];simp only;rw[if_neg a,if_neg b,if_neg d,if_neg e,if_pos f]
def arX(h:st.C=want::zQ)(a:¬want=82)(b:¬want=66)(d:¬want=84)(e:¬want=80)(f:pb want c=Ë):jS B k st c=Á:=by rw[jS,h];simp only;rw[if_neg a,if_neg b,if_neg d,if_neg e,if_neg (by rw[f];decide)]
end
def vq(c:UInt8):(0:Int)<=(c.toNat:Int)/\(c.toNat:Int)<256:=⟨Int.natCast_nonneg _,by have:=c.toNat_lt;omega⟩
def UX(s:ByteArray)(h:s.size=0):(s.toList==[])=Î:=by simp_all
theorem tO(s:ByteArray)(h:¬s.size=0):(s.toList==[])=Ë:=by
 rw[beq_eq_false_iff_ne];intro e;have:s.toList.length=s.size:=by rw[ByteArray.toList_eq];rfl
 grind
def gR.arY(h:gR m b g O s st w)(on:st.d.r=Î)(i:c=86\/c=87\/c=110\/c=107):∃a e f,g.CR st.d c=⟨a,e,Á⟩/\qK m b g st.d a e f (st.d.G c) w/\∀z,f z=st.d.fL c z:=by
 rcases i with rfl|rfl|rfl|rfl
 .exact⟨_,_,_,U,Fz h.C h.r on A,λz=>rfl⟩
 .exact⟨_,_,_,U,Fz h.C h.r on A,λz=>rfl⟩
 .exact⟨_,_,_,U,FA h.C h.r on A,λz=>rfl⟩
 .exact⟨_,_,_,U,FA h.C h.r on A,λz=>rfl⟩
def gR.oL(h:gR m b g O s st w)(on:st.d.r=Î)(a:st.d.M=Î)(p:ByteArray):gR m b g O s {st with d:=st.d.oL p} (w.setCell ⟨g.t,5,Á⟩<|Ä p)/\e9 (λi=>m<=i) w (w.setCell ⟨g.t,5,Á⟩<|Ä p):=by have l:=h.C.r on;let⟨f,j,c⟩:=l.C a;have e:e9 (λi=>i=g.t) w (w.setCell ⟨g.t,5,Á⟩<|Ä p):=p6 c;exact⟨⟨h.S,h.a.r _ trivial,h.r.I e λx=>fh.S h.r c A x,h.M,h.I,h.C.oL on a p,h.c,h.N⟩,e.S λi _ x=>by have:=l.S;omega⟩
def gR.ab4(h:gR m b g O s st w)(on:st.d.r=Î)(a:st.C=c::zQ):gR m b g O (s.extract 1 s.size) {st with C:=zQ} (w.setCell ⟨b,0,Á⟩<|Ä<|s.extract 1 s.size):= h.Nk _ zQ (aq1 s h.M) (by rw[aq0,h.I,a];rfl)<|È on
def gR.arZ(h:gR m b g O s st w)(a:st.C=c::zQ):0<s.size:=by have:=UF s;rw[h.I,a]at this;simp at this;omega
end
section
variable{g:Gh}{s:ByteArray}{st:PS}{d:PD}
def ar0(h:gR m b g O s st w)(a:st.r=0)(c:st.d.r=Ë->st.d.S=[])(f:st.d.C.length<=100000)(k:Int): Ò À 96 #[Ã<|Â ⟨b,0,Á⟩,Å É k] w λe u=>Nu m b (yv st k) e w u:=(arw h a c f k).mono λ_ _ q=>ab1 q
def ar1(h:gR m b g O s st w)(a:st.r=0)(on:st.d.r=Î)(c:st.d.M=Î)(k:Int): Ò À 101 #[Ã<|Â ⟨b,0,Á⟩,Å É k] w λe u=>Nu m b (yw st k) e w u:=(arl h a on c k).mono λ_ _ q=>ab1 q
theorem ar2{X:Ĉ->Í->Prop}{a:Ĉ}(G:Fr b B (Å É k) a) (h:gR m b g O s st w) (i:jy B k st) (Q:B.size<=1200) (H:k<B.size) (n:0<st.r) (I:jo (B[k].toNat:Int)=Î) (S:∀a u,Fr b B (Å É<|(k:Int)+1) a/\sH m b B k st w u->K a u) (_hQ:∀a u,Fr b B (Å É k) a/\sI m b B k st w u->X a u): ß À qL (Exit.then K<|QQ X) a w:=by
 obtain⟨c,rfl⟩:=G;unfold p7;conv=>arg 2;whnf
 have T:w.cell? ⟨b,0,Á⟩=Â (Ä s):=h.r.r 0 _ U;have V:w.cell? ⟨b,6,Á⟩=Â (Å É st.r):=h.r.r 6 _ U;have W:w.cell? ⟨b,7,Á⟩=Â (Å É st.I):=h.r.r 7 _ U;have Y:=h.r.C 0;have f6:=h.r.C 6;have f7:=h.r.C 7;have d0:=i.M;have d1:=i.r;have e0:=i.C;have e1:=i.I;let⟨q,on,_,_⟩:=i.e n;let⟨r,ao,f,t,j,v⟩:=h.arY on q;have J:w.cell? ⟨b,5,Á⟩=Â (Ã O):=h.r.r 5 _ U;rw[(h.c n).2,t]at J;obtain⟨x,o⟩:∃x,st.d.G st.M=x:=⟨_,U⟩;have L:=j.C;rw[o]at L;have fm:=j.I;obtain⟨M,N⟩:∃y,wrap64 (x*10)=y:=⟨_,U⟩;obtain⟨l,P⟩:∃y,wrap64 (M+((B[k].toNat:Int)-48)%256)=y:=⟨_,U⟩;have Nv:¬r=b:=j.r;have Nw:¬b=r:=λe=>j.r e.symm;have z:=h.Y (st.r-1) λ_=>h.c n;have p:=j.rd 6<|Å É<|st.r-1;have C:=z.G p l;have D:pX (st.d.G st.M) (B[k].toNat:Int)=l:=by rw[pX,š,š,o,N,P]
 have E:CP st (B[k].toNat:Int)={st with r:=st.r-1,d:=f l}:=by rw[CP,D,v]
 have F:Hid (kX B k st (B[k].toNat:Int)=Â {st with r:=st.r-1,d:=f l}/\sG m b {st with r:=st.r-1,d:=f l} w (ξ _)):= fe ⟨by rw[arO n I,E],(((mR h 6 _).ff<|FB (st:=st) p _).C (e9.fU fg _) λ_ _ x=>x.elim),g,O,s,C.fU⟩;clear z p C D E j v t h i o q;go_wp2_with (go_at_call 94;refine(sF _ _).mono ?_;rintro e u ⟨rfl,hw⟩;subst u);go_region;all_goals
  go_wp2;exact⟨gp,⟨H,_,F.out.1,F.out.2⟩⟩
theorem ar3{X:Ĉ->Í->Prop}(z:Fr b B (Å É k) y) (i:gR m b g O s st w) (j:jy B k st) (Q:B.size<=1200) (l:k<B.size) (n:(0<st.r/\jo (B[k].toNat:Int)=Ë)\/st.r<=0) (o:s.size=0) (S:∀y u,Fr b B (Å É<|(k:Int)+1) y/\sH m b B k st w u->K y u) (C:∀y u,Fr b B (Å É k) y/\sI m b B k st w u->X y u): ß À qL (Exit.then K<|QQ X) y w:=by
 obtain⟨f,rfl⟩:=z;unfold p7;conv=>arg 2;whnf
 have T:w.cell? ⟨b,0,Á⟩=Â (Ä s):=i.r.r 0 _ U;have V:w.cell? ⟨b,6,Á⟩=Â (Å É st.r):=i.r.r 6 _ U;have W:w.cell? ⟨b,7,Á⟩=Â (Å É st.I):=i.r.r 7 _ U;have Y:=i.r.C 0;have f6:=i.r.C 6;have f7:=i.r.C 7;have d0:=j.M;have d1:=j.r;have e0:=j.C;have e1:=j.I;have p:=fe<|vp (B:=B) (k:=k)<|vo n;have r:=i.Y 0 λh=>absurd h A;have t:=fe<|mR i 6<|Å É 0;have D:=j.d.C;have E:=j.d.I;have F:=fe r;let⟨uu,Ay⟩:=vq B[k];have rm:=UX s o;have h:st.C=[]:=by rw[<-i.I];exact abF s o
 have G:st.d.r=Î:=by
  rcases i.N with q|q
  .exact q
  .rw[h]at q;cases q
 have v:=fe<|arP (B:=B) (k:=k) (c:=(B[k].toNat:Int)) (st:={st with r:=0}) h;clear h i j;rcases n with⟨H,oc⟩|H;all_goals
  go_wp2_with (first|(go_at_call 94;refine(sF _ _).mono ?_;rintro e u ⟨rfl,x⟩;subst u)|(go_at_call 95;refine(ab2 r U G E D _).mono ?_;rintro e u (⟨q,rfl,x⟩|⟨I,q,rfl,J,L,M,N,P⟩)))
  .subst x;exact C _ _ ⟨gp,⟨l,p.out.trans<|v.out.trans q,_,t.out,_,_,_,F.out⟩⟩
  .exact⟨gp,⟨l,I,p.out.trans<|v.out.trans q,t.out.ff J,L,M,N,P⟩⟩
theorem ar4{X:Ĉ->Í->Prop}(z:Fr b B (Å É k) y) (i:gR m b g O s st w) (j:jy B k st) (P:B.size<=1200) (o:k<B.size) (p:(0<st.r/\jo (B[k].toNat:Int)=Ë)\/st.r<=0) (q:0<s.size) (l:((s[0]'q).toNat:Int)=82) (Q:∀y u,Fr b B (Å É<|(k:Int)+1) y/\sH m b B k st w u->K y u) (C:∀y u,Fr b B (Å É k) y/\sI m b B k st w u->X y u): ß À qL (Exit.then K<|QQ X) y w:=by
 obtain⟨f,rfl⟩:=z;unfold p7;conv=>arg 2;whnf
 have S:w.cell? ⟨b,0,Á⟩=Â (Ä s):=i.r.r 0 _ U;have T:w.cell? ⟨b,6,Á⟩=Â (Å É st.r):=i.r.r 6 _ U;have V:w.cell? ⟨b,7,Á⟩=Â (Å É st.I):=i.r.r 7 _ U;have W:=i.r.C 0;have Y:=i.r.C 6;have f7:=i.r.C 7;have d0:=j.M;have d1:=j.r;have e0:=j.C;have e1:=j.I;have r:=fe<|vp (B:=B) (k:=k)<|vo p;have t:=i.Y 0 λh=>absurd h A;have v:=fe<|mR i 6<|Å É 0;have Az:=j.d.C;have CU:=j.d.I;have D:=fe t;let⟨uu,Ay⟩:=vq B[k];have rm:=tO s Z;have tP:s.size<=10:=i.M;have E:=fe (show st.C=(s[0].toNat:Int)::(j2 s).tail by rw[<-i.I];exact wK s q);have x:=fe<|arQ (B:=B) (k:=k) (c:=(B[k].toNat:Int)) (st:={st with r:=0}) E.out l;have yy:((s[0].toNat:Int)==82)=Î:=by rw[l];rfl
 have F:=fe λe=>(j.d.N e).1;clear l i j;rcases p with⟨G,oc⟩|G;all_goals
  go_wp2_with (first|(go_at_call 94;refine(sF _ _).mono ?_;rintro e u ⟨rfl,h⟩;subst u)|(go_at_call 97;refine(ara _ _).mono ?_;rintro e u ⟨rfl,h⟩;subst u)|(go_at_call 96;refine(ar0 t U F.out (by show st.d.C.length<=100000;omega) _).mono ?_;rintro e u (⟨n,rfl,h⟩|⟨H,n,rfl,I,J,L,M,N⟩)))
  .subst h;exact C _ _ ⟨gp,⟨o,r.out.trans<|x.out.trans n,_,v.out,_,_,_,D.out⟩⟩
  .exact⟨gp,⟨o,H,r.out.trans<|x.out.trans n,v.out.ff I,J,L,M,N⟩⟩
end
section
variable{g:Gh}{s:ByteArray}{st:PS}{d:PD}
def ar5{X:Ĉ->Í->Prop}(t:Fr b B (Å É k) y) (f:gR m b g O s st w) (i:jy B k st) (M:B.size<=1200) (v:k<B.size) (l:(0<st.r/\jo (B[k].toNat:Int)=Ë)\/st.r<=0) (n:0<s.size) (j:((s[0]'n).toNat:Int)=66) (o:sD (B[k].toNat:Int)=Î) (N:∀y u,Fr b B (Å É<|(k:Int)+1) y/\sH m b B k st w u->K y u) (_hQ:∀y u,Fr b B (Å É k) y/\sI m b B k st w u->X y u): ß À qL (Exit.then K<|QQ X) y w:=by
 obtain⟨c,rfl⟩:=t;unfold p7;conv=>arg 2;whnf
 have P:w.cell? ⟨b,0,Á⟩=Â (Ä s):=f.r.r 0 _ U;have Q:w.cell? ⟨b,6,Á⟩=Â (Å É st.r):=f.r.r 6 _ U;have S:w.cell? ⟨b,7,Á⟩=Â (Å É st.I):=f.r.r 7 _ U;have T:=f.r.C 0;have V:=f.r.C 6;have W:=f.r.C 7;have Y:=i.M;have d1:=i.r;have e0:=i.C;have e1:=i.I;have x:=fe<|vp (B:=B) (k:=k)<|vo l;have p:=f.Y 0 λh=>absurd h A;have z:=fe<|mR f 6<|Å É 0;have Az:=i.d.C;have CU:=i.d.I;have HH1:=fe p;let⟨C,D⟩:=vq B[k];have rm:=tO s Z;have tP:s.size<=10:=f.M;have h:=fe (show st.C=(s[0].toNat:Int)::(j2 s).tail by rw[<-f.I];exact wK s n);have r:st.d.r=Î:=by
  rcases f.N with q|q
  .exact q
  .rw[h.out]at q;injection q with q;omega
 have q:=fe<|arR (B:=B) (k:=k) (st:={st with r:=0}) h.out j o;have yy:((s[0].toNat:Int)==82)=Ë:=by rw[j];rfl
 have FF:((s[0].toNat:Int)==66)=Î:=by rw[j];rfl
 clear j f i;rcases l with⟨E,oc⟩|E;all_goals
  go_wp2_with (first|(go_at_call 94;refine(sF _ _).mono ?_;rintro e u ⟨rfl,F⟩;subst u)|(go_at_call 98;refine(UG _ C D _).mono ?_;rintro e u ⟨rfl,F⟩;subst u)|(go_at_call 99;refine(abP p U r<|by show st.d.Y.length<=100000;omega).mono ?_;rintro e u ⟨rfl,F,H,I,J,G⟩)|(go_at_call 100;refine(Ml G U r _ _<|show pb 120 _=Î from o).mono ?_;rintro e w'' ⟨rfl,G,H,I,J,L⟩))
  exact⟨gp,⟨v,_,x.out.trans q.out,z.out.ff<|F.ff G,H,I,J,L⟩⟩
def ar6{X:Ĉ->Í->Prop}(z:Fr b B (Å É k) y) (f:gR m b g O s st w) (i:jy B k st) (V:B.size<=1200) (l:k<B.size) (n:(0<st.r/\jo (B[k].toNat:Int)=Ë)\/st.r<=0) (o:0<s.size) (j:((s[0]'o).toNat:Int)=66) (C:sD (B[k].toNat:Int)=Ë) (W:∀y u,Fr b B (Å É<|(k:Int)+1) y/\sH m b B k st w u->K y u) (D:∀y u,Fr b B (Å É k) y/\sI m b B k st w u->X y u): ß À qL (Exit.then K<|QQ X) y w:=by
 obtain⟨c,rfl⟩:=z;unfold p7;conv=>arg 2;whnf
 have Y:w.cell? ⟨b,0,Á⟩=Â (Ä s):=f.r.r 0 _ U;have c6:w.cell? ⟨b,6,Á⟩=Â (Å É st.r):=f.r.r 6 _ U;have c7:w.cell? ⟨b,7,Á⟩=Â (Å É st.I):=f.r.r 7 _ U;have f0:=f.r.C 0;have f6:=f.r.C 6;have f7:=f.r.C 7;have d0:=i.M;have d1:=i.r;have e0:=i.C;have e1:=i.I;have p:=fe<|vp (B:=B) (k:=k)<|vo n;have r:=f.Y 0 λh=>absurd h A;have t:=fe<|mR f 6<|Å É 0;have E:=i.d.C;have F:=i.d.I;have G:=fe r;let⟨H,I⟩:=vq B[k];have rm:=tO s Z;have tP:s.size<=10:=f.M;have v:=fe (show st.C=(s[0].toNat:Int)::(j2 s).tail by rw[<-f.I];exact wK s o);have J:st.d.r=Î:=by
  rcases f.N with q|q
  .exact q
  .rw[v.out]at q;injection q with q;omega
 have x:=fe<|arS (B:=B) (k:=k) (st:={st with r:=0}) v.out j C;have yy:((s[0].toNat:Int)==82)=Ë:=by rw[j];rfl
 have FF:((s[0].toNat:Int)==66)=Î:=by rw[j];rfl
 clear j f i;rcases n with⟨L,oc⟩|L;all_goals
  go_wp2_with (first|(go_at_call 94;refine(sF _ _).mono ?_;rintro e u ⟨rfl,h⟩;subst u)|(go_at_call 98;refine(UG _ H I _).mono ?_;rintro e u ⟨rfl,h⟩;subst u)|(go_at_call 95;refine(ab2 r U J F E _).mono ?_;rintro e u (⟨q,rfl,h⟩|⟨M,q,rfl,N,P,Q,S,T⟩)))
  .subst h;exact D _ _ ⟨gp,⟨l,p.out.trans<|x.out.trans q,_,t.out,_,_,_,G.out⟩⟩
  .exact⟨gp,⟨l,M,p.out.trans<|x.out.trans q,t.out.ff N,P,Q,S,T⟩⟩
theorem ar7{X:Ĉ->Í->Prop}(C:Fr b B (Å É k) y) (i:gR m b g O s st w) (j:jy B k st) (Q:B.size<=1200) (o:k<B.size) (p:(0<st.r/\jo (B[k].toNat:Int)=Ë)\/st.r<=0) (r:0<s.size) (l:((s[0]'r).toNat:Int)=84) (S:∀y u,Fr b B (Å É<|(k:Int)+1) y/\sH m b B k st w u->K y u) (D:∀y u,Fr b B (Å É k) y/\sI m b B k st w u->X y u): ß À qL (Exit.then K<|QQ X) y w:=by
 obtain⟨f,rfl⟩:=C;unfold p7;conv=>arg 2;whnf
 have T:w.cell? ⟨b,0,Á⟩=Â (Ä s):=i.r.r 0 _ U;have V:w.cell? ⟨b,6,Á⟩=Â (Å É st.r):=i.r.r 6 _ U;have W:w.cell? ⟨b,7,Á⟩=Â (Å É st.I):=i.r.r 7 _ U;have Y:=i.r.C 0;have f6:=i.r.C 6;have f7:=i.r.C 7;have d0:=j.M;have d1:=j.r;have e0:=j.C;have e1:=j.I;have t:=fe<|vp (B:=B) (k:=k)<|vo p;have v:=i.Y 0 λh=>absurd h A;have x:=fe<|mR i 6<|Å É 0;have Az:=j.d.C;have CU:=j.d.I;have E:=fe v;let⟨uu,Ay⟩:=vq B[k];have rm:=tO s Z;have tP:s.size<=10:=i.M;have h:=fe (show st.C=(s[0].toNat:Int)::(j2 s).tail by rw[<-i.I];exact wK s r);have F:st.d.r=Î:=by
  rcases i.N with q|q
  .exact q
  .rw[h.out]at q;injection q with q;omega
 have G:st.d.M=Î:=j.N (by rw[h.out,l];simp);have z:=fe<|arT (B:=B) (k:=k) (c:=(B[k].toNat:Int)) (st:={st with r:=0}) h.out l;have yy:((s[0].toNat:Int)==82)=Ë:=by rw[l];rfl
 have FF:((s[0].toNat:Int)==66)=Ë:=by rw[l];rfl
 have FG:((s[0].toNat:Int)==84)=Î:=by rw[l];rfl
 clear l i j;rcases p with⟨H,oc⟩|H;all_goals
  go_wp2_with (first|(go_at_call 94;refine(sF _ _).mono ?_;rintro e u ⟨rfl,q⟩;subst u)|(go_at_call 102;refine(aq9 _ _).mono ?_;rintro e u ⟨rfl,q⟩;subst u)|(go_at_call 101;refine(ar1 v U F G _).mono ?_;rintro e u (⟨n,rfl,q⟩|⟨I,n,rfl,J,L,M,N,P⟩)))
  .subst q;exact D _ _ ⟨gp,⟨o,t.out.trans<|z.out.trans n,_,x.out,_,_,_,E.out⟩⟩
  .exact⟨gp,⟨o,I,t.out.trans<|z.out.trans n,x.out.ff J,L,M,N,P⟩⟩
end
section
variable{g:Gh}{s:ByteArray}{st:PS}{d:PD}
theorem ar8{X:Ĉ->Í->Prop}(N:Fr b B (Å É k) y) (i:gR m b g O s st w) (j:jy B k st) (hB:B.size<=1200) (P:k<B.size) (E:(0<st.r/\jo (B[k].toNat:Int)=Ë)\/st.r<=0) (F:0<s.size) (l:((s[0]'F).toNat:Int)=80) (r:(B[k].toNat:Int)=125) (hK:∀y u,Fr b B (Å É<|(k:Int)+1) y/\sH m b B k st w u->K y u) (_hQ:∀y u,Fr b B (Å É k) y/\sI m b B k st w u->X y u): ß À qL (Exit.then K<|QQ X) y w:=by
 obtain⟨f,rfl⟩:=N;unfold p7;conv=>arg 2;whnf
 have c0:w.cell? ⟨b,0,Á⟩=Â (Ä s):=i.r.r 0 _ U;have c6:w.cell? ⟨b,6,Á⟩=Â (Å É st.r):=i.r.r 6 _ U;have Q:w.cell? ⟨b,7,Á⟩=Â (Å É st.I):=i.r.r 7 _ U;have f0:=i.r.C 0;have f6:=i.r.C 6;have f7:=i.r.C 7;have d0:=j.M;have d1:=j.r;have S:=j.C;have T:=j.I;have G:=fe<|vp (B:=B) (k:=k)<|vo E;have v:=i.Y 0 λh=>absurd h A;have H:=fe<|mR i 6<|Å É 0;have Az:=j.d.C;have CU:=j.d.I;have V:=fe v;let⟨uu,Ay⟩:=vq B[k];have rm:=tO s Z;have tP:s.size<=10:=i.M;have h:=fe (show st.C=(s[0].toNat:Int)::(j2 s).tail by rw[<-i.I];exact wK s F);have z:st.d.r=Î:=by
  rcases i.N with q|q
  .exact q
  .rw[h.out]at q;injection q with q;omega
 have C:st.d.M=Î:=j.N (by rw[h.out,l];simp);have W:w.cell? ⟨b,3,Á⟩=Â (Ã<|g.Y st.d):=i.r.r 3 _ U;rw[I8 C]at W;let⟨Y,I,q⟩:=(i.C.r z).C C;have UY:w.cell? ⟨g.t,5,Á⟩=Â (Ä st.d.N.p):=q.r 5 _ (by have:=CS st.d.N.c<|Ä st.d.N.p;rwa[I]at this);have UZ:=q.C 5;have Nw:¬b=g.t:=λe=>fh.S q i.r A e.symm;have Nv:¬g.t=b:=fh.S q i.r A;let⟨Nx,_⟩:=j.Y (by rw[h.out,l];simp);have yy:((s[0].toNat:Int)==82)=Ë:=by rw[l];rfl
 have FF:((s[0].toNat:Int)==66)=Ë:=by rw[l];rfl
 have FG:((s[0].toNat:Int)==84)=Ë:=by rw[l];rfl
 have Jb:((s[0].toNat:Int)==80)=Î:=by rw[l];rfl
 clear Y I q;have J:=fe<|arU (B:=B) (k:=k) (st:={st with r:=0}) h.out l r;have U0:((B[k].toNat:Int) !=125)=Ë:=by rw[r];rfl
 obtain⟨n,L⟩:∃t:Nat,st.I=(t:Int):=⟨st.I.toNat,Z⟩;have o:=v.oL z C<|B.extract (k-n) k;have M:=o.1.ab4 z h.out;have D:=fe (Ê (show kX B k st (B[k].toNat:Int)=Â {({st with r:=0}:PS)with C:=(j2 s).tail,d:=st.d.oL (B.extract (k-n) k)} by rw[G.out,J.out,show({st with r:=0}:PS).I.toNat=n by show st.I.toNat=n;omega])<|Ê ((H.out.ff o.2).ff<|mR o.1 0<|Ä<|s.extract 1 s.size) M);rw[L]at Q S T Nx;clear r l i j o M L J G H V v;rcases E with⟨Ca,oc⟩|Ca;all_goals
  go_wp2_with (first|(go_at_call 94;refine(sF _ _).mono ?_;rintro e u ⟨rfl,x⟩;subst u))
  go_region
  all_goals
   go_wp2;exact⟨gp,⟨P,_,D.out.1,D.out.2.1.C (e9.fU fg _) λ_ _ x=>x.elim,_,_,_,D.out.2.2.fU⟩⟩
theorem ar9{X:Ĉ->Í->Prop}(C:Fr b B (Å É k) y) (i:gR m b g O s st w) (j:jy B k st) (Q:B.size<=1200) (D:k<B.size) (v:(0<st.r/\jo (B[k].toNat:Int)=Ë)\/st.r<=0) (x:0<s.size) (l:((s[0]'x).toNat:Int)=80) (o:¬(B[k].toNat:Int)=125) (r:st.I=40) (_hK:∀y u,Fr b B (Å É<|(k:Int)+1) y/\sH m b B k st w u->K y u) (E:∀y u,Fr b B (Å É k) y/\sI m b B k st w u->X y u): ß À qL (Exit.then K<|QQ X) y w:=by
 obtain⟨f,rfl⟩:=C;unfold p7;conv=>arg 2;whnf
 have S:w.cell? ⟨b,0,Á⟩=Â (Ä s):=i.r.r 0 _ U;have T:w.cell? ⟨b,6,Á⟩=Â (Å É st.r):=i.r.r 6 _ U;have V:w.cell? ⟨b,7,Á⟩=Â (Å É st.I):=i.r.r 7 _ U;have W:=i.r.C 0;have Y:=i.r.C 6;have f7:=i.r.C 7;have d0:=j.M;have d1:=j.r;have e0:=j.C;have e1:=j.I;have F:=fe<|vp (B:=B) (k:=k)<|vo v;have G:=i.Y 0 λh=>absurd h A;have H:=fe<|mR i 6<|Å É 0;have Az:=j.d.C;have CU:=j.d.I;have I:=fe G;let⟨uu,Ay⟩:=vq B[k];have rm:=tO s Z;have tP:s.size<=10:=i.M;have n:=fe (show st.C=(s[0].toNat:Int)::(j2 s).tail by rw[<-i.I];exact wK s x);have J:st.d.r=Î:=by
  rcases i.N with q|q
  .exact q
  .rw[n.out]at q;injection q with q;omega
 have q:st.d.M=Î:=j.N (by rw[n.out,l];simp);have L:w.cell? ⟨b,3,Á⟩=Â (Ã<|g.Y st.d):=i.r.r 3 _ U;rw[I8 q]at L;let⟨M,z,h⟩:=(i.C.r J).C q;have UY:w.cell? ⟨g.t,5,Á⟩=Â (Ä st.d.N.p):=h.r 5 _ (by have:=CS st.d.N.c<|Ä st.d.N.p;rwa[z]at this);have UZ:=h.C 5;have Nw:¬b=g.t:=λe=>fh.S h i.r A e.symm;have Nv:¬g.t=b:=fh.S h i.r A;let⟨Nx,_⟩:=j.Y (by rw[n.out,l];simp);have yy:((s[0].toNat:Int)==82)=Ë:=by rw[l];rfl
 have FF:((s[0].toNat:Int)==66)=Ë:=by rw[l];rfl
 have FG:((s[0].toNat:Int)==84)=Ë:=by rw[l];rfl
 have Jb:((s[0].toNat:Int)==80)=Î:=by rw[l];rfl
 clear M z h;have U0:((B[k].toNat:Int) !=125)=Î:=by rwa[bne_iff_ne]
 have N:=fe<|ab3 (B:=B) (k:=k) (st:={st with r:=0}) n.out l o<|È r;have ab5:(st.I==40)=Î:=by rw[r];rfl
 clear r o l i j;rcases v with⟨P,oc⟩|P;all_goals
  go_wp2_with (first|(go_at_call 94;refine(sF _ _).mono ?_;rintro e u ⟨rfl,hw⟩;subst u))
  exact E _ _ ⟨gp,⟨D,F.out.trans N.out,_,H.out,_,_,_,I.out⟩⟩
theorem asa{X:Ĉ->Í->Prop}(E:Fr b B (Å É k) y) (i:gR m b g O s st w) (j:jy B k st) (S:B.size<=1200) (F:k<B.size) (v:(0<st.r/\jo (B[k].toNat:Int)=Ë)\/st.r<=0) (x:0<s.size) (l:((s[0]'x).toNat:Int)=80) (o:¬(B[k].toNat:Int)=125) (r:¬st.I=40) (z:¬lE (B[k].toNat:Int)=0) (T:∀y u,Fr b B (Å É<|(k:Int)+1) y/\sH m b B k st w u->K y u) (_hQ:∀y u,Fr b B (Å É k) y/\sI m b B k st w u->X y u): ß À qL (Exit.then K<|QQ X) y w:=by
 obtain⟨f,rfl⟩:=E;unfold p7;conv=>arg 2;whnf
 have V:w.cell? ⟨b,0,Á⟩=Â (Ä s):=i.r.r 0 _ U;have W:w.cell? ⟨b,6,Á⟩=Â (Å É st.r):=i.r.r 6 _ U;have Y:w.cell? ⟨b,7,Á⟩=Â (Å É st.I):=i.r.r 7 _ U;have f0:=i.r.C 0;have f6:=i.r.C 6;have f7:=i.r.C 7;have d0:=j.M;have d1:=j.r;have e0:=j.C;have e1:=j.I;have G:=fe<|vp (B:=B) (k:=k)<|vo v;have H:=i.Y 0 λh=>absurd h A;have I:=fe<|mR i 6<|Å É 0;have Az:=j.d.C;have CU:=j.d.I;have C:=fe H;let⟨uu,Ay⟩:=vq B[k];have rm:=tO s Z;have tP:s.size<=10:=i.M;have n:=fe (show st.C=(s[0].toNat:Int)::(j2 s).tail by rw[<-i.I];exact wK s x);have J:st.d.r=Î:=by
  rcases i.N with q|q
  .exact q
  .rw[n.out]at q;injection q with q;omega
 have q:st.d.M=Î:=j.N (by rw[n.out,l];simp);have L:w.cell? ⟨b,3,Á⟩=Â (Ã<|g.Y st.d):=i.r.r 3 _ U;rw[I8 q]at L;let⟨M,D,h⟩:=(i.C.r J).C q;have UY:w.cell? ⟨g.t,5,Á⟩=Â (Ä st.d.N.p):=h.r 5 _ (by have:=CS st.d.N.c<|Ä st.d.N.p;rwa[D]at this);have UZ:=h.C 5;have Nw:¬b=g.t:=λe=>fh.S h i.r A e.symm;have Nv:¬g.t=b:=fh.S h i.r A;let⟨Nx,_⟩:=j.Y (by rw[n.out,l];simp);have yy:((s[0].toNat:Int)==82)=Ë:=by rw[l];rfl
 have FF:((s[0].toNat:Int)==66)=Ë:=by rw[l];rfl
 have FG:((s[0].toNat:Int)==84)=Ë:=by rw[l];rfl
 have Jb:((s[0].toNat:Int)==80)=Î:=by rw[l];rfl
 clear M D h;have U0:((B[k].toNat:Int) !=125)=Î:=by rwa[bne_iff_ne]
 have N:=fe<|arV (B:=B) (k:=k) (st:={st with r:=0}) n.out l o r z;have ab5:(st.I==40)=Ë:=by rwa[beq_eq_false_iff_ne]
 have zK:((lE (B[k].toNat:Int):Int)==0)=Ë:=by rw[beq_eq_false_iff_ne];omega
 clear r o l i j z;rcases v with⟨P,oc⟩|P;all_goals
  go_wp2_with (first|(go_at_call 94;refine(sF _ _).mono ?_;rintro e u ⟨rfl,Q⟩;subst u)|(go_at_call 103;refine(qB _ _).mono ?_;rintro e u ⟨rfl,Q⟩;subst u))
  exact⟨gp,⟨F,_,G.out.trans N.out,I.out.ff<|mR C.out 7 _,_,_,_,C.out.abM _⟩⟩
theorem asb{X:Ĉ->Í->Prop}(D:Fr b B (Å É k) y) (i:gR m b g O s st w) (j:jy B k st) (T:B.size<=1200) (E:k<B.size) (v:(0<st.r/\jo (B[k].toNat:Int)=Ë)\/st.r<=0) (x:0<s.size) (l:((s[0]'x).toNat:Int)=80) (o:¬(B[k].toNat:Int)=125) (z:¬st.I=40) (r:lE (B[k].toNat:Int)=0) (_hK:∀y u,Fr b B (Å É<|(k:Int)+1) y/\sH m b B k st w u->K y u) (F:∀y u,Fr b B (Å É k) y/\sI m b B k st w u->X y u): ß À qL (Exit.then K<|QQ X) y w:=by
 obtain⟨f,rfl⟩:=D;unfold p7;conv=>arg 2;whnf
 have V:w.cell? ⟨b,0,Á⟩=Â (Ä s):=i.r.r 0 _ U;have W:w.cell? ⟨b,6,Á⟩=Â (Å É st.r):=i.r.r 6 _ U;have Y:w.cell? ⟨b,7,Á⟩=Â (Å É st.I):=i.r.r 7 _ U;have f0:=i.r.C 0;have f6:=i.r.C 6;have f7:=i.r.C 7;have d0:=j.M;have d1:=j.r;have e0:=j.C;have e1:=j.I;have G:=fe<|vp (B:=B) (k:=k)<|vo v;have H:=i.Y 0 λh=>absurd h A;have I:=fe<|mR i 6<|Å É 0;have Az:=j.d.C;have CU:=j.d.I;have J:=fe H;let⟨uu,Ay⟩:=vq B[k];have rm:=tO s Z;have tP:s.size<=10:=i.M;have n:=fe (show st.C=(s[0].toNat:Int)::(j2 s).tail by rw[<-i.I];exact wK s x);have L:st.d.r=Î:=by
  rcases i.N with q|q
  .exact q
  .rw[n.out]at q;injection q with q;omega
 have q:st.d.M=Î:=j.N (by rw[n.out,l];simp);have M:w.cell? ⟨b,3,Á⟩=Â (Ã<|g.Y st.d):=i.r.r 3 _ U;rw[I8 q]at M;let⟨N,C,h⟩:=(i.C.r L).C q;have UY:w.cell? ⟨g.t,5,Á⟩=Â (Ä st.d.N.p):=h.r 5 _ (by have:=CS st.d.N.c<|Ä st.d.N.p;rwa[C]at this);have UZ:=h.C 5;have Nw:¬b=g.t:=λe=>fh.S h i.r A e.symm;have Nv:¬g.t=b:=fh.S h i.r A;let⟨Nx,_⟩:=j.Y (by rw[n.out,l];simp);have yy:((s[0].toNat:Int)==82)=Ë:=by rw[l];rfl
 have FF:((s[0].toNat:Int)==66)=Ë:=by rw[l];rfl
 have FG:((s[0].toNat:Int)==84)=Ë:=by rw[l];rfl
 have Jb:((s[0].toNat:Int)==80)=Î:=by rw[l];rfl
 clear N C h;have U0:((B[k].toNat:Int) !=125)=Î:=by rwa[bne_iff_ne]
 have P:=fe<|ab3 (B:=B) (k:=k) (st:={st with r:=0}) n.out l o<|Ï r;have ab5:(st.I==40)=Ë:=by rwa[beq_eq_false_iff_ne]
 have zK:((lE (B[k].toNat:Int):Int)==0)=Î:=by rw[r];rfl
 clear z o l i j r;rcases v with⟨Q,oc⟩|Q;all_goals
  go_wp2_with (first|(go_at_call 94;refine(sF _ _).mono ?_;rintro e u ⟨rfl,S⟩;subst u)|(go_at_call 103;refine(qB _ _).mono ?_;rintro e u ⟨rfl,S⟩;subst u))
  exact F _ _ ⟨gp,⟨E,G.out.trans P.out,_,I.out,_,_,_,J.out⟩⟩
end
section
variable{g:Gh}{s:ByteArray}{st:PS}{d:PD}
def asc{X:Ĉ->Í->Prop}(D:Fr b B (Å É k) y) (f:gR m b g O s st w) (i:jy B k st) (Q:B.size<=1200) (E:k<B.size) (v:(0<st.r/\jo (B[k].toNat:Int)=Ë)\/st.r<=0) (j:0<s.size) (n:¬((s[0]'j).toNat:Int)=82) (o:¬((s[0]'j).toNat:Int)=66) (p:¬((s[0]'j).toNat:Int)=84) (r:¬((s[0]'j).toNat:Int)=80) (x:pb ((s[0]'j).toNat:Int) (B[k].toNat:Int)=Î) (S:∀y u,Fr b B (Å É<|(k:Int)+1) y/\sH m b B k st w u->K y u) (_hQ:∀y u,Fr b B (Å É k) y/\sI m b B k st w u->X y u): ß À qL (Exit.then K<|QQ X) y w:=by
 obtain⟨c,rfl⟩:=D;unfold p7;conv=>arg 2;whnf
 have T:w.cell? ⟨b,0,Á⟩=Â (Ä s):=f.r.r 0 _ U;have V:w.cell? ⟨b,6,Á⟩=Â (Å É st.r):=f.r.r 6 _ U;have W:w.cell? ⟨b,7,Á⟩=Â (Å É st.I):=f.r.r 7 _ U;have Y:=f.r.C 0;have f6:=f.r.C 6;have f7:=f.r.C 7;have d0:=i.M;have d1:=i.r;have e0:=i.C;have e1:=i.I;have F:=fe<|vp (B:=B) (k:=k)<|vo v;have G:=f.Y 0 λh=>absurd h A;have H:=fe<|mR f 6<|Å É 0;have Az:=i.d.C;let⟨I,J⟩:=vq B[k];have rm:=tO s Z;have tP:s.size<=10:=f.M;have l:=fe (show st.C=(s[0].toNat:Int)::(j2 s).tail by rw[<-f.I];exact wK s j);have z:st.d.r=Î:=by
  rcases f.N with q|q
  .exact q
  .rw[l.out]at q;injection q with q;omega
 have yy:((s[0].toNat:Int)==82)=Ë:=by rwa[beq_eq_false_iff_ne]
 have ase:((s[0].toNat:Int)==66)=Ë:=by rwa[beq_eq_false_iff_ne]
 have FG:((s[0].toNat:Int)==84)=Ë:=by rwa[beq_eq_false_iff_ne]
 have Jb:((s[0].toNat:Int)==80)=Ë:=by rwa[beq_eq_false_iff_ne]
 have L:=fe<|arW (B:=B) (k:=k) (st:={st with r:=0}) l.out n o p r x;have M:=fe x;clear n o p r f i;rcases v with⟨N,oc⟩|N;all_goals
  go_wp2_with (first|(go_at_call 94;refine(sF _ _).mono ?_;rintro e u ⟨rfl,h⟩;subst u)|(go_at_call 104;refine(abH _ _ I J _).mono ?_;rintro e u ⟨rfl,h⟩;subst u)|(go_at_call 100;refine(Ml G U z _ _ M.out).mono ?_;rintro e P ⟨rfl,C,g',nm',q,h⟩;have k0:P.cell? ⟨b,0,Á⟩=Â (Ä q):=h.r.r 0 _ U;have kf0:=h.r.C 0;have uw:0<q.size:=h.arZ l.out;have avW:q.size<=10:=h.M;have t:=fe<|Ê C h;clear C h))
  exact⟨gp,⟨E,_,F.out.trans L.out,H.out.ff<|t.out.1.ff<|mR t.out.2 0 _,_,_,_,t.out.2.ab4 ((UR _ _ _).1.trans z) l.out⟩⟩
def asf{X:Ĉ->Í->Prop}(t:Fr b B (Å É k) y) (f:gR m b g O s st w) (i:jy B k st) (L:B.size<=1200) (v:k<B.size) (r:(0<st.r/\jo (B[k].toNat:Int)=Ë)\/st.r<=0) (j:0<s.size) (l:¬((s[0]'j).toNat:Int)=82) (n:¬((s[0]'j).toNat:Int)=66) (o:¬((s[0]'j).toNat:Int)=84) (p:¬((s[0]'j).toNat:Int)=80) (x:pb ((s[0]'j).toNat:Int) (B[k].toNat:Int)=Ë) (_hK:∀y u,Fr b B (Å É<|(k:Int)+1) y/\sH m b B k st w u->K y u) (z:∀y u,Fr b B (Å É k) y/\sI m b B k st w u->X y u): ß À qL (Exit.then K<|QQ X) y w:=by
 obtain⟨c,rfl⟩:=t;unfold p7;conv=>arg 2;whnf
 have M:w.cell? ⟨b,0,Á⟩=Â (Ä s):=f.r.r 0 _ U;have N:w.cell? ⟨b,6,Á⟩=Â (Å É st.r):=f.r.r 6 _ U;have P:w.cell? ⟨b,7,Á⟩=Â (Å É st.I):=f.r.r 7 _ U;have Q:=f.r.C 0;have S:=f.r.C 6;have T:=f.r.C 7;have V:=i.M;have W:=i.r;have Y:=i.C;have e1:=i.I;have C:=fe<|vp (B:=B) (k:=k)<|vo r;have D:=f.Y 0 λh=>absurd h A;have E:=fe<|mR f 6<|Å É 0;have Az:=i.d.C;have CU:=i.d.I;have F:=fe D;let⟨G,H⟩:=vq B[k];have rm:=tO s Z;have tP:s.size<=10:=f.M;have h:=fe (show st.C=(s[0].toNat:Int)::(j2 s).tail by rw[<-f.I];exact wK s j);have on:st.d.r=Î:=by
  rcases f.N with q|q
  .exact q
  .rw[h.out]at q;injection q with q;omega
 have yy:((s[0].toNat:Int)==82)=Ë:=by rwa[beq_eq_false_iff_ne]
 have ase:((s[0].toNat:Int)==66)=Ë:=by rwa[beq_eq_false_iff_ne]
 have FG:((s[0].toNat:Int)==84)=Ë:=by rwa[beq_eq_false_iff_ne]
 have Jb:((s[0].toNat:Int)==80)=Ë:=by rwa[beq_eq_false_iff_ne]
 have q:=fe<|arX (B:=B) (k:=k) (st:={st with r:=0}) h.out l n o p x;clear l n o p f i;rcases r with⟨I,oc⟩|I;all_goals
  go_wp2_with (first|(go_at_call 94;refine(sF _ _).mono ?_;rintro e u ⟨rfl,J⟩;subst u)|(go_at_call 104;refine(abH _ _ G H _).mono ?_;rintro e u ⟨rfl,J⟩;subst u))
  exact z _ _ ⟨gp,⟨v,C.out.trans q.out,_,E.out,_,_,_,F.out⟩⟩
end
section
variable{g:Gh}{st:PS}{d:PD}
theorem asg{X:Ĉ->Í->Prop}{c:ByteArray}(d:Fr b c (Å É k) y) (e:gR m b g O B st w) (f:jy c k st) (h:c.size<=1200) (i:k<c.size) (j:∀y v,Fr b c (Å É<|(k:Int)+1) y/\sH m b c k st w v->K y v) (l:∀y v,Fr b c (Å É k) y/\sI m b c k st w v->X y v): ß À qL (Exit.then K<|QQ X) y w:=by
 by_cases u:0<st.r/\jo (c[k].toNat:Int)=Î
 .grind [ar2]
 have n:(0<st.r/\jo (c[k].toNat:Int)=Ë)\/st.r<=0:=by grind
 by_cases x:B.size=0
 .grind [ar3]
 have o:0<B.size:=Z
 by_cases q:(B[0].toNat:Int)=82
 .grind [ar4]
 by_cases p:(B[0].toNat:Int)=66
 .cases r:sD (c[k].toNat:Int)with
  |true=>exact ar5 d e f h i n o p r j l
  |false=>exact ar6 d e f h i n o p r j l
 by_cases r:(B[0].toNat:Int)=84
 .grind [ar7]
 by_cases s:(B[0].toNat:Int)=80
 .grind [ar8,ar9,asb,asa]
 cases t:pb (B[0].toNat:Int) (c[k].toNat:Int)with
 |true=>exact asc d e f h i n o q p r s t j l
 |false=>exact asf d e f h i n o q p r s t j l
def ash{X:Ĉ->Í->Prop}(c:Fr b B (Å É k) y)(_hB:B.size<=1200)(e:¬k<B.size)(_hk:k<=B.size) (d:∀y v,Fr b B (Å É k) y/\v=w->X y v): ß À qL (Exit.then K<|QQ X) y w:=by
 obtain⟨u,rfl⟩:=c;unfold p7;conv=>arg 2;whnf
 go_wp2;exact d _ _ ⟨gp,U⟩
def lF(B:ByteArray):Nat×PS:=j4 B B.size 0 nP
def RI(m b:Nat)(c:ByteArray)(w:Í)(a:Ĉ)(d:Í):Prop:=
 ∃(k:Nat) (g:Gh) (O:Option ü) (B:ByteArray) (st:PS),k<=c.size/\Fr b c (Å É k) a/\gR m b g O B st d/\e9 (λi=>m<=i) w d/\jy c k st/\lF c=j4 c (c.size-k) k st
def Rmu(B:ByteArray)(a:Ĉ)(_:Í):Nat:=B.size-(intOf<|a.tmps.getD 5 ĸ).toNat
def RX(m b:Nat)(B:ByteArray)(w:Í)(a:Ĉ)(d:Í):Prop:=
 ∃(k:Nat) (c:PS),k<=B.size/\Fr b B (Å É k) a/\sG m b c w d/\(lF B).1=k/\(k=B.size->(lF B).2=c)
def ab6{w:Í}(h:Fr b B (Å É c) y):Rmu B y w=B.size-c.toNat:=by obtain⟨u,rfl⟩:=h;rfl
def asi{a:PS}(b:k<B.size)(c:kX B k st (B[k].toNat:Int)=Â a):j4 B (B.size-k) k st=j4 B (B.size-(k+1)) (k+1) a:=by rw[show B.size-k=(B.size-(k+1))+1 by omega,j4,dif_pos b,c]
def asj(a:k<B.size)(b:kX B k st (B[k].toNat:Int)=Á):j4 B (B.size-k) k st=(k,st):=by rw[show B.size-k=(B.size-(k+1))+1 by omega,j4,dif_pos a,b]
def asl{c:ByteArray}(f:Fr b c (Å É 0) y)(h:gR m b g O B nP w)(q:c.size<=1200): ß À (ń qL) (QQ<|RX m b c w) y w:=by
 apply Γ (RI m b c w) (Rmu c) ⟨0,g,O,B,nP,Ø _,f,h,e9.fX _ _,UU c,U⟩;rintro y u ⟨k,g,O,B,st,l,f,r,n,s,o⟩;by_cases i:k<c.size
 .refine asg f r s q i ?_ ?_
  .rintro t v ⟨d,x,e,j,p,z,C,D,E⟩;refine⟨⟨k+1,z,C,D,e,Z,by simpa using d,E,n.ff p,abX s i j,o.trans<|asi i j⟩,?_⟩;rw[ab6 d,ab6 (w:=u) f];omega
  .rintro t v ⟨d,x,j,z,p,C⟩;have:=o.trans<|asj i j;exact⟨k,z,l,d,⟨n.ff p,C⟩,by rw[this],λe=>by omega⟩
 .apply ash f q i l;rintro t v ⟨d,rfl⟩;have:lF c=(k,st):=by rw[o,show c.size-k=0 by omega];rfl
  exact⟨k,st,l,d,⟨n,g,O,B,r⟩,by rw[this],λ_=>by rw[this]⟩
def asn{c:ByteArray}(h:gR m b g O B nP w)(f:c.size<=1200): Ò À 61 #[Ã<|Â ⟨b,0,Á⟩,Ä c] w λe u=>
  ∃(k:Nat) (d:PS),k<=c.size/\e=Æ (Å É k)/\sG m b d w u/\(lF c).1=k/\(k=c.size->(lF c).2=d):=by
 go_enter Tryz.func61,Tryz.ntmps61;go_wp2;go_step3;go_wp2;go_step3;go_wp2;refine İ ?_ (asl gp h f);rintro(_|(_|_)|_|_|_|_) a v hq;all_goals first|exact absurd hq id|skip
 let⟨k,d,i,j,l⟩:=hq;obtain⟨e,rfl⟩:=j;unfold p7;go_wp2;(try rw[Exit.noGoto_ret]);go_ret;exact⟨k,d,i,U,(fe l).out⟩
end
def lU(B:ByteArray):Int×Bool×List PR:=
 if B.size=0 then(0,Î,[])else(((lF B).1:Int),decide ((lF B).1=B.size)&&(decide ((lF B).2.C=[])||decide ((lF B).2.C=[66])),(lF B).2.d.C)
def gL(B:ByteArray):Int×Int×List PR:=
 if 1200<B.size then(1,0,[])else if(lU B).2.1=Î then(0,0,(lU B).2.2)else(2,(lU B).1,[])
def CV(m:Nat)(v:Ñ)(b:List PR)(w:Í):Prop:=jF m w/\∃a,w.ownsRow m 148 1 v a.length (nQ a)/\pZ w.heap.size a b w
section
variable{g:Gh}{s:ByteArray}{st:PS}
def CV.pn(w:Í):CV w.heap.size (Ç Á 0 0) [] w:=⟨jF.I w,[],⟨U,È ⟨U,U⟩⟩,pZ.N _ _⟩
def gR.iP(h:gR m b g O s st w)(a:st.d.r=Ë->st.d.S=[])(n:Nat):CV m g.N st.d.C (w.drewN n):= ⟨h.a.iU n,g.C st.d,ij h.C.C (e9.iU fg w n) λ_ _=>id,(h.C.abQ a).C (e9.iU fg w n) λ_ _ x=>x.elim⟩
def g0(m:Nat):Gh:={a:=[],q:=0,t:=0,B:=m,tb:=[],N:=Ç Á 0 0,r:=Ç Á 0 0,b:=Á}
def aso(w:Í):gR w.heap.size w.heap.size (g0 w.heap.size) Á ⟨#[82]⟩ nP (w.alloc<|Û #[Ä ⟨#[82]⟩,Ç Á 0 0,Ã Á,Ã Á,Ã Á,Ã Á,Å É 0,Å É 0] 153):= ⟨æ _,(jF.I w).gK _ _ A A (λv e=>by simp at e;rcases e with rfl|rfl|rfl|rfl<;>trivial),fh.N w [Ä ⟨#[82]⟩,Ç Á 0 0,Ã Á,Ã Á,Ã Á,Ã Á,Å É 0,Å É 0] 153,A,A,⟨⟨U,È ⟨U,U⟩⟩,pZ.N _ _,(λe=>by cases e),λ_=>rfl⟩,(λq=>by cases q),Ï rfl⟩
def asq(s:ByteArray):j2 s=[66]↔s.toList=[66]:=by
 unfold j2;rw[ByteArray.toList_eq];constructor
 .intro h;match hl:s.data.toList with
  |[]=>rw[hl]at h;simp at h
  |[x]=>
   rw[hl]at h;simp only[ŉ,Ő,List.cons.injEq,and_true]at h;have:x=66:=UInt8.toNat_inj.1 (by have:x.toNat=66:=Z;rw[this];rfl);rw[this]
  |x::y::r=>rw[hl]at h;simp at h
 .intro h;rw[h];rfl
def U1(a:¬B.size=0):(lU B).1=((lF B).1:Int):=by rw[lU,if_neg a]
def ab7(a:¬B.size=0):(lU B).2.2=(lF B).2.d.C:=by rw[lU,if_neg a]
def asr(a:¬B.size=0)(h:¬(lF B).1=B.size):(lU B).2.1=Ë:=by rw[lU,if_neg a];simp[h]
def ab8(a:¬B.size=0)(h:(lF B).1=B.size){x:Bool}(b:x=(decide ((lF B).2.C=[])||decide ((lF B).2.C=[66]))):(lU B).2.1=x:=by rw[lU,if_neg a,b];simp[h]
def asu(B:ByteArray):(lF B).2.d.r=Ë->(lF B).2.d.S=[]:=λe=>((UW B.size 0 nP (UU B)<|Ø _).1.d.N e).1
theorem ab9(q:B.size<=1200): Ò À 45 #[Ä B] w λe u=>
  e9 fg w u/\∃v,e=Æ (ë #[v,Å É (lU B).1,õ (lU B).2.1])/\((lU B).2.1=Î->CV w.heap.size v (lU B).2.2 u):=by
 by_cases a:B.size=0
 .have f:=UX B a;have n:=fe (show lU B=(0,Î,[])from if_pos a);go_enter ε,Ν;go_wp2;apply ÿ (v:=ë #[Ç Á 0 0,Å É 0,õ Î]) (by simp[Ń,Ģ,go_sem]) U;exact⟨e9.fX _ _,_,by rw[n.out],λ_=>by rw[n.out];exact CV.pn w⟩
 .have f:=tO B a;have b:=fe a;go_enter ε,Ν;go_wp2_with (go_at_call 61;refine(asn (aso w) q).mono ?_;rintro e r ⟨k,d,i,rfl,⟨n,g,O,s,c⟩,h,t⟩);have l:e9 fg w r:=((e9.gK (λi=>w.heap.size<=i) w _ _).ff n).S λi D x=>by omega
  have E:=c.r.r 0 _ U;have F:=c.r.r 1 _ U;by_cases m:k=B.size
  .subst m;have y:=t U;subst y;have o:=fe c.I;have p:=fe λn=>c.iP (asu B) n;have n:=fe h;have d:=fe l;have z:((B.size:Int)==(B.size:Int))=Î:=fl
   by_cases a:s.size=0
   .have f:=UX s a;have j:=fe (ab8 b.out n.out (x:=Î)<|by rw[<-o.out,abF s a];rfl);go_quiet (fail);go_wp2;apply ÿ (v:=ë #[g.N,Å É B.size,õ Î]) (by simp[Ń,Ģ,go_sem]) U;exact⟨d.out.ff<|e9.iU _ _ _,_,by rw[U1 b.out,n.out,j.out],λ_=>by rw[ab7 b.out];exact p.out _⟩
   .have f:=tO s a;have j:=fe (ab8 b.out n.out (x:=(s.toList==[66])) (by
     rw[<-o.out];have C:¬j2 s=[]:=λe=>by have:=UF s;grind
     rw[decide_eq_false C,Bool.false_or,Ę,beq_iff_eq,decide_eq_true_iff,asq]))
    go_quiet (fail)
    go_wp2;apply ÿ (v:=ë #[g.N,Å É B.size,õ<|s.toList==[66]]) (by simp[Ń,Ģ,go_sem]) U;exact⟨d.out.ff<|e9.iU _ _ _,_,by rw[U1 b.out,n.out,j.out],λ_=>by rw[ab7 b.out];exact p.out _⟩
  .have z:((k:Int)==(B.size:Int))=Ë:=by rw[beq_eq_false_iff_ne];omega
   have n:=fe (Ê h<|asr b.out<|by rwa[h]);have d:=fe l;go_quiet (fail);go_wp2;apply ÿ (v:=ë #[g.N,Å É k,õ Ë]) (by simp[Ń,Ģ,go_sem]) U;exact⟨d.out.ff<|e9.iU _ _ _,_,by rw[U1 b.out,n.out.1,n.out.2],λe=>by rw[n.out.2]at e;cases e⟩
def asv(h:B.size<=ī): Ò À 36 #[Ä B] w λe u=>
  e9 fg w u/\∃v,e=Æ (ë #[v,Å É (gL B).1,Å É (gL B).2.1])/\((gL B).1=0->CV w.heap.size v (gL B).2.2 u)/\((gL B).1≠0->v=Ç Á 0 0):=by
 unfold ī at h;by_cases b:1200<B.size
 .have a:=fe (show gL B=(1,0,[]) by rw[gL,if_pos b]);go_enter ļ,Ř;go_wp2;apply ÿ (v:=ë #[Ç Á 0 0,Å É 1,Å É 0]) (by simp[Ń,Ľ,go_sem]) U;exact⟨e9.fX _ _,_,by rw[a.out],(λe=>by rw[a.out]at e;cases e),λ_=>rfl⟩
 .have f:B.size<=1200:=Z
  cases c:(lU B).2.1 with
  |true=>
   have a:=fe (show gL B=(0,0,(lU B).2.2) by rw[gL,if_neg b,if_pos c]);go_enter ļ,Ř;go_wp2_with (go_at_call 45;refine(ab9 f).mono ?_;rintro e i ⟨d,v,rfl,g⟩);apply ÿ (v:=ë #[v,Å É 0,Å É 0]) (by simp[Ń,Ľ,go_sem]) U;exact⟨d,_,by rw[a.out],(λ_=>by rw[a.out];exact g c),λe=>by rw[a.out]at e;exact absurd U e⟩
  |false=>
   have a:=fe (show gL B=(2,(lU B).1,[]) by rw[gL,if_neg b,if_neg (by rw[c];exact Bool.false_ne_true)]);go_enter ļ,Ř;go_wp2_with (go_at_call 45;refine(ab9 f).mono ?_;rintro e i ⟨d,v,rfl,g⟩);apply ÿ (v:=ë #[Ç Á 0 0,Å É 2,Å É (lU B).1]) (by simp[Ń,Ľ,go_sem]) U;exact⟨d,_,by rw[a.out],(λe=>by rw[a.out]at e;cases e),λ_=>rfl⟩
end
end Go.Proofs.Y.mQ
namespace Go.Proofs.Y.kA
open Go Go.Conc Go.Proofs Go.RowKit Go.Proofs.Y.Lift Go.Proofs.Y.gd Go.Proofs.Y.fv Go.Proofs.Y.mQ
structure Jc(a:Nat)(t:PT)(w:Í):Prop where
 r:∃cs fz,w.heap[a]?=Â (Û cs 200 fz)
 c:∀i,i<5->w.cell? ⟨a,i,Á⟩=Â (Å É<|t.c.getD i 0)
 p:w.cell? ⟨a,5,Á⟩=Â (Ä t.p)
structure yz(r:Nat)(p:PR)(w:Í):Prop where
 c:∀i,i<8->w.cell? ⟨r,i,Á⟩=Â (Å É<|p.c.getD i 0)
 b:∃bp n cp,w.cell? ⟨r,8,Á⟩=Â (Ç bp n cp)/\n=p.r.length/\∀(j:Nat) (t:PT),p.r[j]?=Â t->∃tb a,bp=Â ⟨tb,0,Á⟩/\w.cell? ⟨tb,j,Á⟩=Â (Ã<|Â ⟨a,0,Á⟩)/\Jc a t w
structure RQ(rs:List PR)(v:Ñ)(U:Nat->Prop)(w:Í):Prop where
 C:kO nB U w
 I:fp (lr U nB) v v
 M:∃bp cp,v=Ç bp rs.length cp/\∀(j:Nat) (p:PR),rs[j]?=Â p->∃sb r,bp=Â ⟨sb,0,Á⟩/\w.cell? ⟨sb,j,Á⟩=Â (Ã<|Â ⟨r,0,Á⟩)/\yz r p w
section
variable{f:Nat->Prop}{rs:List PR}{Y:fw}
theorem asw(h:jk Y X u w){t:PT}(d:Y i n)(k:Jc i t u):Jc n t w:=by refine⟨?_,λb f=>(Aw h).r d<|k.c b f,(Aw h).C d k.p⟩;let⟨c,g,e,j,l,m,o,_⟩:=h.r i n d;let⟨r,s,q⟩:=k.r;grind
theorem asx(h:jk Y X u w){r:Nat}{p:PR}(e:Y r i)(k:yz r p u):yz i p w:=by refine⟨λd f=>(Aw h).r e<|k.c d f,?_⟩;let⟨G,n,g,l,m,o⟩:=k.b;let⟨x,q,s⟩:=Aw h r i 8 _ e l;obtain⟨v,rfl,y⟩:=Nb s;refine⟨v,n,g,q,m,λj t z=> ?_⟩;let⟨tb,a,B,C,H⟩:=o j t z;let⟨I,J,D⟩:=y _ B;obtain⟨E,rfl,F⟩:=At D;let⟨K,L,M⟩:=Aw h tb E j _ F C;grind [Na,At,asw]
theorem asy(h:jk Y X u w)(b:fp Y v x)(a:RQ rs v f u):RQ rs x (λj=>∃i,f i/\Y i j) w:=by refine⟨UA h a.C,Nc b a.I,?_⟩;obtain⟨s,i,rfl,c⟩:=a.M;obtain⟨d,rfl,e⟩:=Nb b;refine⟨d,i,U,λj p g=> ?_⟩;let⟨k,r,l,m,t⟩:=c j p g;let⟨y,z,n⟩:=e _ l;obtain⟨o,rfl,q⟩:=At n;let⟨B,C,D⟩:=Aw h k o j _ q m;grind [Na,At,asx]
def CW(k:W.heap[b]?=w.heap[b]?)(h:w.cell? ⟨b,i,Á⟩=Â z):W.cell? ⟨b,i,Á⟩=Â z:=by simp only[à,k];exact h
def asz(l:kO nB X w)(k:∀b,X b->W.heap[b]?=w.heap[b]?){r:Nat}{p:PR}(d:X r)(h:yz r p w):yz r p W:=by
 refine⟨λi e=>CW (k r d)<|h.c i e,?_⟩;let⟨u,n,v,m,x,y⟩:=h.b;refine⟨u,n,v,CW (k r d) m,x,λj t z=> ?_⟩;let⟨tb,a,o,q,f⟩:=y j t z;have s:X tb:=by have:=l.r d m;rw[o]at this;exact CM this
 have g:=CL<|l.r s q;exact⟨tb,a,o,CW (k tb s) q,⟨by rw[k a g];exact f.r,λi e=>CW (k a g)<|f.c i e,CW (k a g) f.p⟩⟩
def RQ.r(h:RQ rs v f w)(k:∀b,f b->W.heap[b]?=w.heap[b]?):RQ rs v f W:=by
 refine⟨h.C.C k,h.I,?_⟩;obtain⟨g,i,rfl,l⟩:=h.M;refine⟨g,i,U,λj p m=> ?_⟩;let⟨a,r,c,d,n⟩:=l j p m;have e:f a:=by have:=h.I;rw[c]at this;exact CM this
 exact⟨a,r,c,CW (k a e) d,asz h.C k (CL<|h.C.r e d) n⟩
def acd{v:Ñ}(h:nk m i v):fp (lr (λd=>m<=d/\d<i) nB) v v:=by
 cases v with
 |int k n=>exact .iG k n
 |bool b=>exact .mG b
 |string i=>exact .ko i
 |pointer a=>cases a with
  |none=>exact .lW
  |some a=>exact fp.jT (Y:=lr (λd=>m<=d/\d<i) nB) ⟨⟨U,h⟩,U,U⟩
 |slice a n c=>cases a with
  |none=>exact .oz n c
  |some a=>exact fp.kP (Y:=lr (λd=>m<=d/\d<i) nB) ⟨⟨U,h⟩,U,U⟩ n c
 |_=>exact absurd h<|by simp[nk]
def asA{v:Ñ}(h:nk m i v):yM v=Ë:=by
 cases v with
 |int k n=>cases k<;>first|rfl|exact absurd h<|by simp[nk]
 |_=>rfl
def asB(h:jF m w):kO nB (λi=>m<=i/\i<w.heap.size) w:=λb i=>by let⟨c,e,f,g,j,k,l,n,d⟩:=h b _ i.1<|å i.2;exact⟨c,e,f,by rw[å i.2,g],j,pT λv a=>acd<|d v a,k,Av λv a=>asA<|d v a,l,n⟩
theorem Mk{base:Nat}(h:w.ownsRow base e 1 v jJ.length (nQ jJ)):∃b f,v=Ç b jJ.length f/\∀(j r:Nat),jJ[j]?=Â r->∃a,b=Â ⟨a,0,Á⟩/\base<=a/\w.cell? ⟨a,j,Á⟩=Â (Ã<|Â ⟨r,0,Á⟩):=by
 obtain⟨m,⟨n,o⟩|⟨g,p,q,rfl,i,k,s,t,u,l⟩⟩:=h
 .grind
 .refine⟨_,_,U,λj r c=>⟨g,U,i,?_⟩⟩;have x:=(Õ.1 c).1;have d:(nQ jJ)[j]?=Â (Ã<|Â ⟨r,0,Á⟩):=by simp[nQ,c]
  rw[<-l,List.getElem?_take_of_lt Z]at d;simp only[à,k,ö,ì,if_false];simpa using d
def ace(h:fh n (oM zQ++[z]) T w)(a:i<zQ.length):w.cell? ⟨n,i,Á⟩=Â (Å É<|zQ.getD i 0):=h.r i _<|UL a z
def acf(h:fh i (oM zQ++[z]) T w)(a:zQ.length=n):w.cell? ⟨i,n,Á⟩=Â z:=h.r n _<|by rw[<-a];exact CS zQ z
def asC{r:PR}(h:wL i n r w):yz n r w:=by
 let⟨x,tb,e,l,y,b⟩:=h.I;refine⟨λa c=>ace e (by rwa[h.C]),?_⟩;obtain⟨m,o,rfl,p⟩:=Mk l;refine⟨m,_,o,acf e h.C,b.r,λj t f=> ?_⟩;have g:j<tb.length:=by rw[b.r];exact(Õ.1 f).1
 let⟨s,u,z,v⟩:=p j tb[j]<|Ó g;let⟨_,_,k,d⟩:=b.I j tb[j] t (Ó g) f;exact⟨s,tb[j],u,v,⟨_,_,d⟩,λa c=>ace d (by rwa[k]),acf d k⟩
def asD(h:CV m v rs w):RQ rs v (λi=>m<=i/\i<w.heap.size) w:=by
 let⟨f,i,b,c⟩:=h;obtain⟨d,k,rfl,l⟩:=Mk b;refine⟨asB f,?_,d,k,by rw[c.I],λj p e=> ?_⟩
 .cases d with
  |none=>exact .oz _ _
  |some a=>
   have:=b.lt a.block (by rcases b.2 with⟨q,_⟩|⟨g,n,o,q,_⟩<;>(cases q;try rfl));exact acd this
 .have a:j<i.length:=by rw[c.I];exact(Õ.1 e).1
  let⟨g,q,o,n⟩:=l j i[j]<|Ó a;exact⟨g,i[j],q,n,asC<|c.M j i[j] p (Ó a) e⟩
end
def acg(B:ByteArray)(z:Ñ)(u:Í):Prop:=∃v,z=ë #[v,Å É (gL B).1,Å É (gL B).2.1]/\((gL B).1=0->∃a,RQ (gL B).2.2 v a u)
def asE(B:ByteArray):xl (acg B):=λv u T D h=>by let⟨x,a,b⟩:=h;refine⟨x,a,λe=> ?_⟩;let⟨U,c⟩:=b e;exact⟨U,c.r λ_ _=>rfl⟩
def ach{l:fc}(f:gA l)(s:¬l.q)(t:nB<=l.w.heap.size)(u:B.size<=ī)(m:Bool)(h:Ē)(k:List Ē): fv.fi À m (λa n=>iB l a/\a.d=l.d/\∃v,n=G (h.finish<|ë #[v,Å É (gL B).1,Å É (gL B).2.1]) k/\((gL B).1=0->∃V,RQ (gL B).2.2 v V a.w/\∀b,V b->a.O b/\l.w.heap.size<=b)) l (G (è À 36 #[Ä B] Ą)<|h::k):=by
 let⟨X,c,C,V⟩:=Ab 36 fP;have D:∀T,Ò À 36 #[Ä B] (World.tp (lq (λj=>False/\¬(mq l).O j) l.w) T 0) fun|Æ v,j=>acg B v j/\kt j|_,_=>False:=λT=>by refine(asv u).mono ?_;rintro e p ⟨g,v,rfl,i,o⟩;exact⟨⟨v,U,λe=>⟨_,asD<|i e⟩⟩,g.gU Ft⟩
 refine((EJ yO Me Ab (asE B) fP C V (EK f) s (λb q=>q.elim) ⟨λb q=>q.elim,t⟩ (λg q=>by cases q) (pT λv g=>by simp at g;subst g;exact .ko B) D m h k).mq f).fR ?_;rintro a n ⟨x',⟨Y,j,v,v',_,E,F,⟨v0,rfl,o⟩,H,I,_,J⟩,rfl,K,L,_,_⟩;cases F with
 |@nT _ cs'' hs mK=>
  let⟨M⟩:=cs'';match M,hs with
  |[x,y,z],_=>
   have g:=mK 0 fl fl;have p:=mK 1 fl fl;have r:=mK 2 fl fl;simp at g p r;cases p;cases r;refine⟨K,J,x,H,λe=> ?_⟩;let⟨U,N⟩:=o e;refine⟨_,asy E g (N.r λ_ _=>rfl),λb V=> ?_⟩;let⟨i,_,P⟩:=V;let⟨Q,S⟩:=I i b P;have W:l.w.heap.size<=b:=S.elim (λq=>q.elim) λq=>q.elim (λq=>q.elim) id;refine⟨È (Q.resolve_right λq=> ?_),W⟩;rw[L]at q;have:=f.fx b q;omega
end Go.Proofs.Y.kA
namespace Go.Proofs.Y.gd
open Go Go.Proofs Go.RowKit Go.Proofs.Y.Lift
def CX:List Ñ:=iy (j0 8)++[Ç Á 0 0,Å É 0,Ç Á 0 0]
def asF(w:Í):Ò À 44 #[] w λe a=>∃c B,e=Æ (Ç (Â ⟨c,0,Á⟩) 1 1)/\fh B CX 147 a/\fh c [Ã<|Â ⟨B,0,Á⟩] 136 a/\e9 fg w a:=by
 have d:(iy<|j0 8).length=144:=sr _;have i:(iy (j0 8)++[Ç Á 0 0]).length=145:=by rw[Ù,d];rfl
 have f:=fe<|Ê d i;unfold CX;have j:=fe λW=>aoJ W;generalize j0 8=s at*;go_enter Tryz.func44,Tryz.ntmps44;go_wp2_with (first
  |(go_at_call 60;refine(j.out _).mono ?_;rintro e W ⟨rfl,b⟩;have k:=fe b;clear b)
  |(with_reducible refine Ď U (Â 2) U _ _ (TW U U f.out.1) ?_)
  |(with_reducible refine Ď U (Â 3) U _ _ (ao0 U U f.out.2) ?_)
  |(with_reducible refine Ď U (Â 4) U _ _ (aar U U) ?_))
 have g:=fh.N (W.alloc<|Û (iy s++[Ç Á 0 0,Å É 0,Ç Á 0 0]).toArray 147) [Ã<|Â ⟨W.heap.size,0,Á⟩] 136;have h:=e9.gK fg (W.alloc<|Û (iy s++[Ç Á 0 0,Å É 0,Ç Á 0 0]).toArray 147) #[Ã<|Â ⟨W.heap.size,0,Á⟩] 136;have l:(W.alloc<|Û (iy s++[Ç Á 0 0,Å É 0,Ç Á 0 0]).toArray 147).heap.size=W.heap.size+1:=fl
 rw[l]at g;have b:=fe<|Ê ((fh.N W (iy s++[Ç Á 0 0,Å É 0,Ç Á 0 0]) 147).I h id)<|Ê g<|(k.out.ff<|e9.gK fg W (iy s++[Ç Á 0 0,Å É 0,Ç Á 0 0]).toArray 147).ff h;go_ret;exact⟨W.heap.size+1,W.heap.size,U,b.out.1,b.out.2.1,b.out.2.2⟩
def asG(n:Int)(j:1<=n)(k:n<=8)(w:Í):Ò À 35 #[Å É n] w λe b=>∃g a B,e=Æ (ë #[Ã<|Â ⟨g,0,Á⟩,Å É 0])/\fh g [Å É n,Ç (Â ⟨a,0,Á⟩) 1 1] 68 b/\fh B CX 147 b/\fh a [Ã<|Â ⟨B,0,Á⟩] 136 b/\e9 fg w b:=by go_enter ζ,Tryz.ntmps35;go_wp2_with (go_at_call 44;refine(asF _).mono ?_;rintro e c ⟨a,B,rfl,f,h,i⟩;have d:=fe<|Ê f<|Ê h i;clear f h i);go_ret2;have f:=e9.gK fg c #[Å É n,Ç (Â ⟨a,0,Á⟩) 1 1] 68;exact⟨c.heap.size,a,B,U,fh.N c [Å É n,Ç (Â ⟨a,0,Á⟩) 1 1] 68,d.out.1.I f id,d.out.2.1.I f id,d.out.2.2.ff f⟩
end Go.Proofs.Y.gd
namespace Go.Proofs.Y.kA
open Go Go.Conc Go.Proofs Go.RowKit Go.Proofs.Y.Lift Go.Proofs.Y.gd Go.Proofs.Y.fv Go.Proofs.Y.mQ
section
variable{Y:fw}{a:Nat->Prop}
def aci:∀v∈CX,(∃k n,v=Å k n/\k≠ū)\/(∃p,v=Ä p)\/v=Ç Á 0 0:=λv k=>by
 unfold CX at k;rcases â.1 k with q|q
 .rcases Uz _ v q with⟨n,rfl⟩|⟨p,rfl⟩
  .exact È ⟨_,_,U,A⟩
  .exact Ï<|È ⟨p,U⟩
 .simp at q;rcases q with rfl|rfl|rfl
  .exact Ï<|Ï U
  .exact È ⟨_,_,U,A⟩
  .exact Ï<|Ï U
def acj:lH [gd.jR]:=⟨A,A,λv b=>by simp at b;subst b;exact⟨⟨(λp a=>by cases a),(λp a=>by cases a),Ø _,Ø _⟩,aaQ,Ť _,show(0:Int)<1 by decide⟩⟩
def asH(d:gd.fh n CX 147 w)(f:gd.fh i [Ã<|Â ⟨n,0,Á⟩] 136 w):RD [gd.jR] (Ç (Â ⟨i,0,Á⟩) 1 1) (λk=>k=i\/k=n) w:=by
 refine⟨[(n,gd.jR)],U,acj,⟨_,1,1,U,æ _,⟨U,λj b v e=> ?_⟩⟩,?_,fp.kP (Y:=lr (λk=>k=i\/k=n) nB) ⟨⟨U,È U⟩,U,U⟩ 1 1⟩
 .cases j with
  |zero=>
   cases e;exact⟨_,0,U,f.r 0 _ U,(ao1 aaQ<|by rwa[ő])⟩
  |succ j=>simp at e
 .rintro b (rfl|rfl)
  .refine⟨_,_,_,f,fl,pT λv c=> ?_,fl,Av λv c=> ?_,A,A⟩
   .simp at c;subst c;exact fp.jT (Y:=lr (λk=>k=b\/k=n) nB) ⟨⟨U,Ï U⟩,U,U⟩
   .simp at c;subst c;rfl
  .refine⟨_,_,_,d,fl,pT λv c=> ?_,by simp[CX],Av λv c=> ?_,A,A⟩
   .rcases aci v (by simpa using c)with⟨k,a,rfl,_⟩|⟨p,rfl⟩|rfl
    .exact .iG k a
    .exact .ko p
    .exact .oz 0 0
   .rcases aci v (by simpa using c)with⟨k,a,rfl,g⟩|⟨p,rfl⟩|rfl
    .cases k<;>first|rfl|exact absurd U g
    .rfl
    .rfl
def FH(b:Nat)(n:Int)(c:Ñ)(w:Í):Prop:=∃a,w.heap[b]?=Â (Û #[Å É n,c] 68 a)/\a=(0,0)
def FH.r(h:FH i c v w)(k:W.heap[i]?=w.heap[i]?):FH i c v W:=by let⟨a,b,d⟩:=h;exact⟨a,k.trans b,d⟩
def asI(h:jk Y a u w)(g:∀b,¬a b)(q:Y i j)(k:gd.fh i [Å É c,v] 68 u):∃l,fp Y v l/\FH j c l w:=by
 let⟨d,r,e,D,s,m,t,z,_,B,_⟩:=h.r i j q;unfold gd.fh at k;rw[k]at m;cases m;have f:=z.N<|g j;let⟨C⟩:=r;match C,f.r with
 |[x,y],_=>
  have o:=f.C 0 fl fl;have p:=f.C 1 fl fl;simp at o p;cases o;exact⟨y,p,s,t,(B<|g j).symm⟩
end
def acn(n:Int)(z:Ñ)(u:Í):Prop:=∃a b B,z=ë #[Ã<|Â ⟨a,0,Á⟩,Å É 0]/\gd.fh a [Å É n,Ç (Â ⟨b,0,Á⟩) 1 1] 68 u/\RD [gd.jR] (Ç (Â ⟨b,0,Á⟩) 1 1) (λi=>i=b\/i=B) u/\a≠b/\a≠B
def asJ(n:Int):xl (acn n):=λv u T D h=>by let⟨b,c,B,d,e,a⟩:=h;exact⟨b,c,B,d,e,a.1.r λ_ _=>rfl,a.2⟩
def asK{l:fc}(p:gA l)(K:¬l.q)(L:nB<=l.w.heap.size){n:Int}(M:1<=n)(N:n<=8)(C:Bool)(r:Ē)(s:List Ē): fv.fi À C (λf D=>iB l f/\f.d=l.d/\∃a e,D=G (r.finish<|ë #[Ã<|Â ⟨a,0,Á⟩,Å É 0]) s/\FH a n e f.w/\f.O a/\l.w.heap.size<=a/\∃V,RD [gd.jR] e V f.w/\¬V a/\∀b,V b->f.O b/\l.w.heap.size<=b) l (G (è À 35 #[Å É n] Ą)<|r::s):=by
 let⟨fn,c,P,t⟩:=Ab 35 fP;have Q:∀T,Ò À 35 #[Å É n] (World.tp (lq (λj=>False/\¬(mq l).O j) l.w) T 0) fun|Æ v,h=>acn n v h/\kt h|_,_=>False:=λT=>by refine(asG n M N _).mono ?_;rintro e z ⟨a,k,B,rfl,V,m,o,g⟩;exact⟨⟨a,k,B,U,V,asH m o,gd.fh.S V o A,gd.fh.S V m A⟩,g.gU Ft⟩
 refine((EJ yO Me Ab (asJ n) fP P t (EK p) K (λb q=>q.elim) ⟨λb q=>q.elim,L⟩ (λg q=>by cases q) (pT λv e=>by simp at e;subst e;exact .iG _ _) Q C r s).mq p).fR ?_;rintro f D ⟨u,⟨Y,h,v,v',_,g,S,⟨a,k,B,rfl,V,m,o,W⟩,X,q7,_,q6⟩,rfl,ha,hR,_,_⟩;have E:∀i j,Y i j->(qZ l u).O j/\l.w.heap.size<=j:=λi j e=>by let⟨z,F⟩:=q7 i j e;have H:l.w.heap.size<=j:=F.elim (λq=>q.elim) λq=>q.elim (λq=>q.elim) id;refine⟨È (z.resolve_right λq=> ?_),H⟩;rw[hR]at q;have:=p.fx j q;omega
 cases S with
 |@nT _ cs'' hs mK=>
  let⟨ls⟩:=cs'';match ls,hs with
  |[x,y],_=>
   have F:=mK 0 fl fl;have H:=mK 1 fl fl;simp at F H;cases H;obtain⟨a2,rfl,m3⟩:=Na F;obtain⟨I,rfl,z⟩:=At m3;have h2':RD [gd.jR] (Ç (Â ⟨k,0,Á⟩) 1 1) (λi=>i=k\/i=B) {h with tape:=u.w.tape,drawn:=u.w.drawn}:=m.r λ_ _=>rfl;let⟨tB,J,e2⟩:=asI g (λj q=>q.1) z V;let⟨vs,k1,k2,k3,k4,k5⟩:=h2';let⟨vs',n1,n2⟩:=I1 (Aw g) J k3;let⟨p1,p2⟩:=E a I z;refine⟨ha,q6,I,tB,X,e2,p1,p2,_,⟨vs',n1.trans k1,k2,n2,UA g k4,Nc J k5⟩,?_,λb t=> ?_⟩
   .rintro⟨i,hi,e⟩;have:=g.C.2.1 _ _ _ z e;subst this;exact hi.elim o W
   .let⟨i,_,e⟩:=t;exact E i b e
end Go.Proofs.Y.kA
namespace Go.Proofs.Y.kA
open Go Go.Conc Go.Proofs Go.RowKit Go.Proofs.Y.Lift Go.Proofs.Y.gd Go.Proofs.Y.fv Go.Proofs.Y.mQ
structure vr(an:Nat)(xs:List ByteArray)(w:Í):Prop where
 r:∀(p:Nat) (x:ByteArray),xs[p]?=Â x->w.cell? ⟨an,p,Á⟩=Â (Ä x)
 C:w.cell? ⟨an,xs.length,Á⟩=Á
section
variable{an:Nat}{xs:List ByteArray}
theorem vr.rI(h:vr an xs w)(j:0<xs.length):∃c e d,w.heap[an]?=Â (Û c e d)/\c.size=xs.length/\∀v∈c.toList,∃x,v=Ä x:=by
 have i:∀p,p<xs.length->w.cell? ⟨an,p,Á⟩=Â (Ä xs[p]!):=λp a=>h.r p _ (by simp[a]);have b:=i 0 j;have f:=h.C;simp only[à]at b f;cases g:w.heap[an]? with
 |none=>rw[g]at b;cases b
 |some o=>
  cases o<;>rw[g]at b f<;>simp only[ö,ì,if_false]at b f<;>first|cases b|skip
  rename_i c e d;have k:c.size<=xs.length:=by grind
  have l:=λp a=>by have:=i p a;simp only[à,g,ö,ì,if_false]at this;exact this
  have m:xs.length<=c.size:=by grind
  refine⟨c,e,d,U,Nat.le_antisymm k m,λv n=> ?_⟩;let⟨p,a⟩:=ĕ n;have q:p<c.size:=by have:=(Õ.1 a).1;simpa using this
  have:=l p Z;rw[ķ]at a;rw[this]at a;cases a;exact⟨_,U⟩
end
def asL{l:fc}(o:gA l)(F:¬l.q)(H:nB<=l.w.heap.size)(h:vr i vX l.w)(I:0<vX.length)(J:l.M i)(p:lD i=Ë)(f:kY l.w i=Â (0,0))(hn:vX.length<=1000)(K:B.size=1)(L:iO vX+vX.length<=140737488355328)(r:Bool)(k:Ē)(m:List Ē): fv.fi À r (λn s=>iB l n/\n.d=l.d/\s=G (k.finish<|Ä<|ja B vX) m) l (G (è À 38 #[Ç (Â ⟨i,0,Á⟩) vX.length vX.length,Ä B] Ą)<|k::m):=by
 let⟨fn,c,N,P⟩:=Ab 38 fP;let⟨t,e,Q,y,b2,z⟩:=h.rI I;have C:(λj=>j=i/\¬(mq l).O j)=λj=>j=i:=by funext j;exact propext ⟨λq=>q.1,λq=>⟨q,id⟩⟩
 have S:∀T,Ò À 38 #[Ç (Â ⟨i,0,Á⟩) vX.length vX.length,Ä B] (World.tp (lq (λj=>j=i) l.w) T 0) fun|Æ v,E=>v=Ä (ja B vX)/\kt E|_,_=>False:=λT=>by
  refine(Uv U Z (æ _) K (λj v a=> ?_) L).mono ?_
  .unfold jm at a;rw[Ī]at a;obtain⟨x,b,rfl⟩:=ò.1 a;exact⟨i,0,U,by rw[œ];exact pV (È p)<|h.r j x b⟩
  .rintro e g ⟨rfl,b⟩;exact⟨U,b.gU Ft⟩
 have V:∀v∈t.toList,fp (qu (λj=>j=i) À.globals.size) v v:=λv a=>by obtain⟨x,rfl⟩:=z v a;exact .ko x
 have X:fT (qu (λj=>j=i) À.globals.size) #[Ç (Â ⟨i,0,Á⟩) vX.length vX.length,Ä B] #[Ç (Â ⟨i,0,Á⟩) vX.length vX.length,Ä B]:=pT λv a=>by
  have b:v=Ç (Â ⟨i,0,Á⟩) vX.length vX.length\/v=Ä B:=by simpa using a
  rcases b with rfl|rfl
  .exact fp.kP (Y:=qu (λj=>j=i) À.globals.size) ⟨⟨U,U⟩,U,U⟩ _ _
  .exact .ko B
 have W:=EJ yO Me Ab (λv u T D h=>h) fP N P (EK o) F (λb q=>Ï<|by rwa[q]) (by rw[C];refine⟨λb q=> ?_,H⟩;subst q;exact⟨t,e,Q,y,(by unfold kY at f;rw[y]at f;cases f;exact Ø _),pT V,λ_=>⟨Z,(λq=>by rw[p]at q;cases q),λ_=>Av λv a=>by obtain⟨x,rfl⟩:=z v a;rfl⟩⟩) (λg q=>by cases q) X (by rwa[C]) r k m;refine(W.mq o).fR ?_;rintro n s ⟨D,⟨Y,E,v,v',_,_,b,rfl,g,_,_,u⟩,rfl,x,_,_,_⟩;cases b;exact⟨x,u,g⟩
end Go.Proofs.Y.kA
namespace Go.Proofs.Y.fv
open Go Go.Conc Go.Proofs.Y.Lift
open Go.ConcN (sumTo sumTo_congr)
def U2(P:ω)(a:Ñ->Í->Prop):Jd:=λl g=>g.status=.running/\∃v,(∀w,stepG P Î g w=.ended (.done v) w)/\a v l.w
section
variable{Y:Nat->Prop}{e:Nat->fc}
def kL.nk{J:Jd}{T:gy}(c:kL P Y zX i J T D e E w qJ){sl:Option (Nat×Nat)}(k:vQ v u):Ξ P vQ (Į E w sl) (.done v) u qJ:=by
 have C:=c.r.r;have f:∀a g,E[a]?=Â g->a≠0->QuitsD P (D a) (Deaf qJ a) g:=λa g b d=>by
  let⟨g0,j,h,_,_⟩:=c.r.C a g b;obtain rfl:g=g0:=by cases h;rfl
  simp only[d,if_false]at j;rw[C.f a<|(á.1 b).1];exact j _<|fG.fX _ _
 refine⟨v,U,k,C.l,c.N,⟨λg l=> ?_,U⟩,λa g b d=>⟨D a,(f a g b d).hears _⟩⟩;let⟨j,h⟩:=ĕ l;rw[List.getElem?_drop]at h;exact⟨_,(f (1+j) g (by rwa[<-ķ]) Z).leaves⟩
theorem asM{J:Jd}{T:gy}{l:fc}(u:l.w=W)(v:l.d=0)(m:¬l.q)(n:∀b,¬l.I b)(r:∀a,¬l.r a)(o:∀a,¬l.N a)(y:∀a,¬l.K a)(z:∀b,l.O b->b<W.heap.size)(B:g.status=.running)(C:lk P Î J T l g):si P (λ_=>False) 0 J T (λ_=>0) (λ_=>l) #[g] W #[]:=by
 have f:∀(p:Nat) a,touchAt #[] p=Â a->False:=λp a h=>by unfold touchAt Trace.act? at h;simp at h
 refine⟨fl,⟨⟨λi j s D E=> ?_,λi j s D E=> ?_,λi _ b _=>n b,λi _ a _=>o a,λ_ _ _ _=>id,λi _ a e=>e.elim (λq=>absurd q<|r a) λq=>absurd q<|o a,λi _ b F=>F.elim (z b) λq=>absurd q<|n b,λ_ h=>h.elim,λi _=>by rw[u];exact fG.fX _ _,λi _=>⟨λa e p x k=>(f p x k).elim,λa e=>(n _ e).elim,λa e=>(r a e).elim,λa e=>(o a e).elim⟩,λi _=>by rw[v];rfl,λH q=> ?_,λI G=>by simp at G,λp a c h=>(f p a h).elim,λi _ a e=>absurd e<|y a⟩,λi x k=> ?_,λj _=>rfl⟩,λi L s=> ?_,m,λp a h=>(f p a h).elim,λp a x h=>(f p a h).elim,λa _ q m=> ?_,?_⟩
 .grind
 .grind
 .let⟨i,j,_,⟨a,b,e,_⟩,_⟩:=q;simp[Trace.act?]at e
 .have t:i<1:=(á.1 k).1;obtain rfl:i=0:=Z
  obtain rfl:g=x:=by simpa using k
  exact⟨g,C,.gl,È B,È U⟩
 .grind
 .simp[Trace.act?]at m
 .intro i g t;simp[Trace.g?]at t
end
end Go.Proofs.Y.fv
namespace Go.Proofs.Y.kA
open Go Go.Conc Go.Proofs Go.RowKit Go.Proofs.Y.Lift Go.Proofs.Y.gd Go.Proofs.Y.fv Go.Proofs.Y.mQ
open Go.ConcN (sumTo)
def AA(f:Ñ->Í->Prop)(c:Array Ċ)(w:Í)(d:Option (Nat×Nat))(t:Ž):Prop:=
 ∃N a v b e,ſ À (N+1) (Į c w d) t=(.ended (.done v) b,e)/\runN À N (Į c w d)=.next a/\step À a=.ended (.done v) b/\Ξ À f a (.done v) b e
section
variable{f:Array Ċ}{w':Í}{sl e:Option (Nat×Nat)}{t:Ž}{l:fc}
def AA.fR{a:Ñ->Í->Prop}(h:AA vQ E w sl t)(b:∀v u,vQ v u->a v u):AA a E w sl t:=by let⟨M,c,v,x,d,e,f,g,i⟩:=h;exact⟨M,c,v,x,d,e,f,g,i.mono λv q=>b v x q⟩
def AA.qZ{N:Nat}(r:ſ À N (Į E w sl) t=(.next<|Į f w' e,qJ))(h:AA vQ f w' e qJ):AA vQ E w sl t:=by
 let⟨M,a,v,x,b,c,d,g,i⟩:=h;refine⟨N+M,a,v,x,b,?_,?_,g,i⟩
 .rwa[Nat.add_assoc,runNT_add,r]
 .rw[<-Ţ À (N+M) (Į E w sl) t,runNT_add,r];rwa[Ţ]
def sJ(vQ:Ñ->Í->Prop)(E:Array Ċ)(w:Í)(sl:Option (Nat×Nat))(t:Ž):Prop:=AA (λv u=>vQ v u/\u.os=w.os/\u.output=w.output) E w sl t
def sJ.r{N:Nat}(r:ſ À N (Į E w sl) t=(.next<|Į f w' e,qJ))(a:w'.os=w.os/\w'.output=w.output)(h:sJ vQ f w' e qJ):sJ vQ E w sl t:= AA.qZ r<|h.fR λ_ _ q=>⟨q.1,q.2.1.trans a.1,q.2.2.trans a.2⟩
def kL.asN{Y:Nat->Prop}:∀(s:Nat) (h:Nat->Nat) (j:Nat->fc) (E:Array Ċ) (w:Í) (sl:Option (Nat×Nat)) (t:Ž),sumTo E.size h=s->kL À Y zX n (U2 À vQ) .fB h j E w t->sJ vQ E w sl t:=by
 intro s
 induction s using Nat.strongRecOn with
 |_ s r=>
  intro h j E w sl t I c;have J:=c.C;obtain⟨g0,a⟩:∃g,E[0]?=Â g:=⟨_,å Z⟩;have o:∀d,U2 À vQ {j 0 with w:=w.at d} g0:=λd=>by
   let⟨u,b,k,_,_⟩:=(c.I d).r.C 0 g0 a;obtain rfl:g0=u:=by cases k;rfl
   exact b (w.at d)<|(c.I d).r.r.r 0 Z
  obtain⟨i,g,d,e,l,x,m⟩:=crowd_pick c.KT ⟨0,g0,a,(o 0).1⟩;by_cases p:i=0
  .subst p;rw[a]at l;obtain rfl:=ag l;let⟨_,v,q,y⟩:=o d;have u:stepT À (Į E w sl)=(.ended (.done v)<|w.at d,#[]):=by
    rw[m,ConcN.runT_crowd_ended a<|q<|w.at d];rfl
   refine⟨0,Į E w sl,v,w.at d,t,?_,U,?_,c.nk ⟨y,U,U⟩⟩
   .simp[ſ,u]
   .have:=stepT_fst À (Į E w sl) Î;rw[<-this];rw[u]
  .let⟨q,y,f,u,b,k,K,L,z⟩:=(c.I d).j_ (sl:=e) l p x;let⟨N,B,v,w',qJ,C,D,F,G⟩:=r (sumTo f.size q) (by rw[k];omega) q y f (w.at d) e (t++u) U z;refine⟨N+1,B,v,w',qJ,by simp only[ſ,m,b];exact C,?_,F,G⟩;have:=Ţ À (N+1) (Į E w sl) t;rw[<-this];simp only[ſ,m,b];rwa[Ţ]
structure gE(l:fc):Prop where
 r:gA l
 d:l.d=0
 q:¬l.q
 rd:∀b,¬l.I b
 I:∀a,¬l.r a
 M:∀a,¬l.N a
 k:∀a,¬l.K a
def gE.C(h:gE l)(r:fG l l.w u):gE {l with w:=u}:= ⟨⟨h.r.c,h.r.Y,h.r.N,λb q=>Ġ (h.r.fx b q) r.r,λa q=>q.elim (λz=>(h.I a z).elim) λz=>(h.M a z).elim,λa q=>(h.k a q).elim⟩,h.d,h.q,h.rd,h.I,h.M,h.k⟩
def iM(vQ:Ñ->Í->Prop)(l:fc)(g:Ċ):Prop:=
 gE l->g.status=.running->∀(a:Loc->Prop) (H:Nat) (J:Jd) (c:Nat->Nat) (b:Nat->fc) (E:Array Ċ) (sl:Option (Nat×Nat)) (t:Ž),wA a H l->fv.si À a H J .fB c b E l.w t->(b 0).d=0->E[0]?=Â g->sJ vQ E l.w sl t
def asO{a:fc}(h:wA zX i l)(k:rj l a l.w a.w):wA zX i a:= ⟨h.r,λb c x d q=>by
  rcases k.N b c with z|z
  .exact h.fq b z x d q
  .have:=h.r x q;have:=h.C;omega,Ì h.C k.r⟩
def U3{J f:Jd}{e:Nat->fc}(a:gE l)(h:g.status=.running)(j:wA zX i l)(c:fv.si À zX i J .fB D e E l.w t)(m:(e 0).d=0)(n:E[0]?=Â g)(W:fv.fi À Î f l g):∃T,fv.si À zX i f T D (fv.vH e l) E l.w t:=by let⟨T,o⟩:=jq W;exact⟨T,kL.Y c m n h U a.d a.q a.rd a.I a.M a.k (λb q=>⟨a.r.fx b<|È q,j.fq b q⟩) o⟩
def aco{Y:Nat->Prop}{J:Jd}{a:Nat->fc}(c:kL À Y zX i J .fB D a E w t):∃g,E[0]?=Â g/\J {a 0 with w:=w} g:=by
 obtain⟨g0,b⟩:∃g,E[0]?=Â g:=⟨_,å c.C⟩;let⟨d,e,f,_,_⟩:=c.r.C 0 g0 b;obtain rfl:g0=d:=by cases f;rfl
 exact⟨g0,b,e w<|c.r.r.r 0 c.C⟩
def Je(vQ:Ñ->Í->Prop):Jd:=λl g=>gE l/\g.status=.running/\iM vQ l g
def asP{b:Nat->fc}{T:gy}(m:(b 0).w=w)(n:wA zX i (b 0))(c:fv.si À zX i (Je vQ) T D b E w t):sJ vQ E w sl t:=by let⟨N,o,p,f,w',e,qJ,r,_,a,j⟩:=kL.G (λl g h=>È h.2.1) T _ D b E w sl t U c;let⟨v,q,h,s,u⟩:=aco j;refine sJ.r r ⟨a.C,a.I⟩<|u h s zX i (Je vQ) o p f e qJ ?_ j h.d q;apply asO n;rw[m];exact⟨a.r,a.N,a.rd,a.S,a.b,a.k,a.jV,a.M,a.Y,a.C,a.I,a.c⟩
def mh(W:fv.fi À Î (Je vQ) l g):iM vQ l g:=by intro b d i H J j k E sl t a c e f;let⟨T,h⟩:=U3 b d a c e f W;exact asP (by rw[fv.S4]) (by rwa[fv.S4]) h
def acp(W:fv.fi À Î (U2 À vQ) l g):iM vQ l g:=by intro b d s H J i u E sl t j c k m;let⟨T,n⟩:=U3 b d j c k m W;let⟨N,o,p,f,w',e,qJ,r,_,a,q⟩:=kL.G (λl g h=>È h.1) T _ i _ E l.w sl t U n;exact sJ.r r ⟨a.C,a.I⟩<|kL.asN _ o p f w' e qJ U q
def Ax.N{e:wH}{R:Nat}{kd:Nat->Int}{f:List fH}{c:fc}(h:Ax X e R kd f l i v c)(r:fG c c.w u):Ax X e R kd f l i v {c with w:=u}:=by have a:=λb q=>r.I b<|È q;let⟨V,j,g⟩:=h.S;exact⟨λb q=>⟨(h.M b q).1,(a b (h.M b q).1).trans (h.M b q).2⟩,⟨h.r.1,λp k=>(gN<|a i h.r.1).trans<|h.r.2 p k⟩,⟨V,j.r λb q=>a b (g b q).1,g⟩,h.d,h.q,h.rd,h.C,(gN<|a i h.r.1).trans h.I.1,(xn<|a i h.r.1).trans h.I.2⟩
def asQ{kd:Nat->Int}{bt:wH}{V0 h:Nat->Prop}{s0:List fH}{B:Option ü}{I:Option ü}{R:Nat}{C:Ē}{z:Array ĝ} (HU:0<R->I=Â ⟨j7,0,Á⟩) (wq:0<R->l.M j7) (HY:∀i,i<R->l.w.cell? ⟨j7,i,Á⟩=Â (Ã<|Â ⟨D i,0,Á⟩)) (HZ:∀i,i<R->l.w.cell? ⟨D i,4,Á⟩=Â (Å É<|kd i)) (K:I6 l bt kd D R X) (hZ:(∀b,X b->h b)/\∀b,b=1\/b=2\/b=3\/b=4->h b) (hZO:∀b,h b->l.O b) (hVZ:∀b,V0 b->h b) (Ck:RD s0 (Ç B j j9) V0 l.w) (hn:1<=n) (hs:n+R<1000) (hJ:∀o v p m c,gE o->Ax h bt R kd s0 l v (Ç p m c) o->iM vQ o (G (C.at (y.put ((z[i]?).bind (·.dst))<|ë #[Ç (Â ⟨v,0,Á⟩) R R,Ç p m c])<|Ð z jJ::L) qX)): iM vQ l (EA (Ç B j j9) (Ç I R j6) n<|C.at y (Ð z (i::jJ)::L)::qX):=by
 intro s hr jr H J lv lot E sl t Ng c hd P;have W:fv.fi À Î (LX kd D R n (Ç B j j9) l<|C.at y (Ð z (i::jJ)::L)::qX) l (EA (Ç B j j9) (Ç I R j6) n<|C.at y (Ð z (i::jJ)::L)::qX):= akn s.r s.q s.d Z HU wq HY (λi P=>È<|K.fq _<|K.r i P) HZ λg S o u x F v T V Y bw bf v1 h1 h2=>⟨g,S,u,x,F,v,T,V,Y,bw,bf,v1,h1,h2,U⟩;let⟨T,c'⟩:=U3 s hr Ng c hd P W;let⟨N,jD,Ie,f,w',e,qJ,r,_,x,c''⟩:=kL.G (λlx gx S=>by obtain⟨_,_,_,_,_,_,_,_,_,_,_,_,_,_,rfl⟩:=S;exact È U) T _ lv _ E l.w sl t U c';apply sJ.r r ⟨x.C,x.I⟩;let⟨N2,asR,V,T2,LY,Ta,gs2,w2,LZ,t2,r2,io2,c2⟩:=aqX (J:=λu V o F=>wA u V o/\Je vQ o F) U c'' e s.r s.rd s.q s.d Ng K hZ hZO hVZ Ck ⟨x.C,x.I⟩ hn hs λEH H' o v p m c Y z2 u=> .fB λw₁ F=>by have ln:gE o:=⟨z2,u.d,u.q,u.rd,u.C.1,u.C.2.1,u.C.2.2⟩;exact⟨⟨Y.r,Y.fq,Ì Y.C F.r⟩,ln.C F,U,hJ _ v p m c (ln.C F)<|u.N F⟩
 apply sJ.r r2 ⟨io2.1.trans x.C.symm,io2.2.trans x.I.symm⟩;let⟨N3,TN,asS,gs3,w3,sl3,t3,r3,_,wn3,c3⟩:=kL.G (λlx gx S=>È S.2.2.1) T2 _ LY Ta gs2 w2 LZ t2 U c2;apply sJ.r r3 ⟨wn3.C,wn3.I⟩;let⟨g3,U4,qd,S,hr3,hs3⟩:=aco c3;exact hs3 S hr3 asR V _ TN asS gs3 sl3 t3 qd c3 S.d U4
end
end Go.Proofs.Y.kA
namespace Go.Proofs.Y.kA
open Go Go.Conc Go.Proofs Go.RowKit Go.Proofs.Y.Lift Go.Proofs.Y.gd Go.Proofs.Y.fv Go.Proofs.Y.mQ
open Go.Conc.Lib Go.ConcR.Gen Go.Proofs.YtgpphkdoanciiaaGreatDoor
def toTx(t:PT):Tx:=⟨(t.c.getD 0 0).toNat,(t.c.getD 1 0).toNat,t.c.getD 2 0,t.c.getD 3 0,t.c.getD 4 0,t.p⟩
def toQn(r:PR):Qn:=⟨(r.c.getD 0 0).toNat,(r.c.getD 1 0).toNat,(r.c.getD 2 0).toNat,(r.c.getD 3 0).toNat,r.c.getD 4 0,r.c.getD 5 0,r.c.getD 6 0,(r.c.getD 7 0).toNat⟩
def p8:PR:=⟨[],[]⟩
def wO(a:List PR):wH where
 r:=λp=>((a.getD p p8).c.getD 5 0,((a.getD p p8).c.getD 0 0).toNat,(a.getD p p8).r.map toTx)
 C:=λp=>toQn<|a.getD p p8
def ly(a:List PR)(p:Nat):Int:=(a.getD p p8).c.getD 4 0
section
variable{r:Nat}{p:PR}{t:PT}{a:Nat}{rs:List PR}{l:fc}
theorem toTx_ok(h:ot t):(toTx t).Ok:=by have d:=h.c.r 0 A;have e:=h.c.r 1 A;have a:=h.c.r 2 A;have b:=h.c.r 3 A;simp only[lT]at d e a b;exact⟨by show(t.c.getD 0 0).toNat<8;omega,by show(t.c.getD 1 0).toNat<8;omega,a.1,a.2,b.1,b.2,h.p⟩
theorem AB(a:0<=c)(h:w.cell? ⟨b,i,Á⟩=Â (Å É c)):w.cell? ⟨b,i,Á⟩=Â (Å É (c.toNat:Nat)):=by grind
theorem asT(h:ot t)(k:Jc a t w):mg a (toTx t) w:=by have b:=h.c.r 0 A;have d:=h.c.r 1 A;simp only[lT]at b d;exact⟨k.r,AB b.1<|k.c 0 A,AB d.1<|k.c 1 A,k.c 2 A,k.c 3 A,k.c 4 A,k.p⟩
theorem asU(h:vn p)(k:yz r p w):CN r (p.c.getD 5 0) (p.c.getD 0 0).toNat (p.r.map toTx) w:=by
 have e:=h.c.r 0 A;simp only[lT]at e;let⟨f,n,g,i,l,m⟩:=k.b;let⟨o,s,u⟩:=wZ (R:=λj t (y:Nat×Tx)=>y.2=toTx t/\∃d,f=Â ⟨d,0,Á⟩/\w.cell? ⟨d,j,Á⟩=Â (Ã<|Â ⟨y.1,0,Á⟩)/\Jc y.1 t w) p.r 0 λj t v=>by let⟨d,a,y,q,x⟩:=m j t v;simp_all
 refine⟨f,n,g,o,⟨AB e.1<|k.c 0 A,k.c 5 A,i⟩,⟨by rw[l,s],λj a t q=> ?_⟩,?_,by have:=h.n;omega⟩
 .let⟨x,z,y,d,D,B,C⟩:=u j (a,t) q;simp only at y B C;subst y;have E:=h.C x<|ç z;grind [asT,toTx_ok]
 .refine Ŕ λj=> ?_;unfold lR;grind
def asV(h:vn p)(k:yz r p w):I4 r (toQn p) w:=by have a:=h.c.r 0 A;have b:=h.c.r 1 A;have d:=h.c.r 2 A;have e:=h.c.r 3 A;have f:=h.c.r 7 A;simp only[lT]at a b d e f;exact⟨AB a.1<|k.c 0 A,AB b.1<|k.c 1 A,AB d.1<|k.c 2 A,AB e.1<|k.c 3 A,k.c 4 A,k.c 5 A,k.c 6 A,AB f.1<|k.c 7 A⟩
def acr(h:vn p)(k:p.c.getD 4 0≠1):(toQn p).Ok:=by
 have d:=h.c.r 0 A;have e:=h.c.r 1 A;have f:=h.c.r 2 A;have g:=h.c.r 3 A;have i:=h.c.r 4 A;have a:=h.c.r 5 A;have b:=h.c.r 6 A;have j:=h.c.r 7 A;simp only[lT]at d e f g i a b j;refine⟨?_,?_,?_,?_,?_,?_,a.1,b.1,?_⟩
 .show(p.c.getD 0 0).toNat<8;omega
 .show(p.c.getD 1 0).toNat<8;omega
 .show(p.c.getD 2 0).toNat<1000000;omega
 .show(p.c.getD 3 0).toNat<18446744073709551616;omega
 .show 2<=p.c.getD 4 0;omega
 .show p.c.getD 4 0<=9;omega
 .show(p.c.getD 7 0).toNat<16;omega
theorem asW(h:RQ rs v X l.w)(j:∀r∈rs,vn r)(B:mP l.w)(C:∀b,b=1\/b=2\/b=3\/b=4->l.O b)(k:∀b,X b->l.O b): ∃a d e f,v=Ç a rs.length d/\(0<rs.length->a=Â ⟨e,0,Á⟩)/\(0<rs.length->l.O e)/\(∀i,i<rs.length->l.w.cell? ⟨e,i,Á⟩=Â (Ã<|Â ⟨f i,0,Á⟩))/\(∀i,i<rs.length->l.w.cell? ⟨f i,4,Á⟩=Â (Å É<|ly rs i))/\I6 l (wO rs) (ly rs) f rs.length X:=by
 obtain⟨m,D,rfl,E⟩:=h.M;have o:∀i,i<rs.length->rs[i]?=Â (rs.getD i p8):=λi a=>by simp[Ğ,a]
 have p:=λi a=>ç<|o i a;obtain⟨e,s⟩:∃e,∀i,i<rs.length->m=Â ⟨e,0,Á⟩:=by
  by_cases d:0<rs.length
  .let⟨g,r,q,_⟩:=E 0 _<|o 0 d;exact⟨g,λ_ _=>q⟩
  .simp_all
 have F:∀i,∃r,i<rs.length->l.w.cell? ⟨e,i,Á⟩=Â (Ã<|Â ⟨r,0,Á⟩)/\yz r (rs.getD i p8) l.w:=λi=>by grind
 let⟨f,g⟩:=Classical.axiomOfChoice F;have u:=λd=>by have:=h.I;rw[s 0 d]at this;exact CM this
 refine⟨m,D,e,f,U,λd=>s 0 d,λd=>k _<|u d,λi a=>(g i a).1,λi a=>(g i a).2.c 4 A,B,C,h.C,k,λi a=>(CL<|h.C.r (u Z) (g i a).1),λi a y=> ?_,λi a y=> ?_⟩
 .have q:=j _<|p i a;have d:=q.c.r 0 A;have z:=q.c.r 5 A;simp only[lT]at d z;refine⟨asU q (g i a).2,?_,z.1,λt G=> ?_,?_⟩
  .show((rs.getD i p8).c.getD 0 0).toNat<8;omega
  .obtain⟨x,H,rfl⟩:=Ú.1 G;exact toTx_ok<|q.C x H
  .show((rs.getD i p8).r.map toTx).length<=1000;rw[ù];have:=q.n;omega
 .have q:=j _<|p i a;exact⟨asV q (g i a).2,acr q y⟩
end
theorem Jf:(∀r∈(gL B).2.2,vn r)/\(gL B).2.2.length<=24:=by
 unfold gL;split
 .grind
 .split
  .unfold lU;split
   .grind
   .have:=(UW B.size 0 nP (UU B)<|Ø _).1.d;exact⟨this.G,this.C⟩
  .grind
def km(rs:List PR)(s:List fH):List ByteArray:=(ĳ rs.length).map λp=>yu (wO rs) (ly rs) p<|pW (wO rs) (ic (ly rs) rs.length) s<|fO (ly rs) p
def AF(rs:List PR)(s:List fH):List fH:=pW (wO rs) (ic (ly rs) rs.length) s<|fO (ly rs) rs.length
def lV(s:List fH)(B:ByteArray):ByteArray×Int×List fH:=
 if(gL B).1=0 then(ja ⟨#[59]⟩<|km (gL B).2.2 s,0,AF (gL B).2.2 s)else(⟨#[]⟩,(gL B).1,s)
section
variable{b:Ē}{l:fc}{a:Ĉ}
def acs{md:Ŀ}(I:Array Bool->Ĉ->fc->Prop) (o:∀c a l i k,I c a l->i∈ä md Q c->(∀f g,I (c.setIfInBounds i Î) f g->iM vQ g (G (b.at f<|Ð Q k::L) qX))->iM vQ l (G (b.at a<|Ð Q (i::k)::L) qX)) (m:∀c a l,I c a l->c.size=Q.size->ä md Q c=[]->iM vQ l (G (b.at a<|Ð Q []::L) qX)): ∀(d t:Nat) (c:Array Bool) (a:Ĉ) (l:fc),c.size=Q.size->jw c<=d->I c a l->iM vQ l (G (b.at a<|Ð Q (ć md Q d t c [])::L) qX):=by
 intro d
 induction d with
 |zero=>
  intro t c a l e p h;simpa[ć]using m c a l h e<|RL e Z
 |succ d q=>
  intro t c a l e p h;simp only[ć];change iM vQ l (G (b.at a (Ð Q (match(ä md Q c)[t%(ä md Q c).length]? with
   |some i=>ć md Q d (t/(ä md Q c).length) (c.setIfInBounds i Î) [i]
   |none=>[].reverse)::L)) qX)
  cases j:(ä md Q c)[t%(ä md Q c).length]? with
  |none=>
   have r:ä md Q c=[]:=by
    cases s:ä md Q c with
    |nil=>rfl
    |cons x n=>
     rw[s]at j;have u:t%(x::n).length<(x::n).length:=Nat.mod_lt _ fl;simp at j;simp at u;omega
   simpa using m c a l h e r
  |some i=>
   simp only[];rw[linearise_go_acc,List.reverse_singleton,List.singleton_append];have n:=ç j;refine o c a l i _ h n λf g r=>(q _ _ f g (by simpa using e) (by have:=K1 (Β.1 n).1;omega) r)
def asX{id:Nat}(I:Array Bool->Ĉ->fc->Prop)(e:gE l) (j:∀f,fG l l.w f->I (Ū Q.size Ë) a {l with w:=f}) (k:∀g c a l i m,I c a l->i∈ä g Q c->(∀n o,I (c.setIfInBounds i Î) n o->iM vQ o (G (b.at n<|Ð Q m::L) qX))->iM vQ l (G (b.at a<|Ð Q (i::m)::L) qX)) (p:∀g c a l,I c a l->c.size=Q.size->ä g Q c=[]->iM vQ l (G (b.at a<|Ð Q []::L) qX)): iM vQ l (G (b.at a<|ax (.region id Q Î)::L) qX):=by
 refine mh (.mk U λf r=>⟨_,_,_,_,stepG_region_draw,RJ (mb e.r.r r) e.q,.fB λs d=> ?_⟩);have h:=r.ff ⟨d.r,d.I,d.N,d.Y,d.S⟩;refine⟨e.C h,U,?_⟩;unfold Region.schedule;split
 .exact acs I (k _) (p _) _ _ _ _ _ fl (by rw[Eb];exact æ _)<|j s h
 .exact acs I (k _) (p _) _ _ _ _ _ fl (by rw[Eb];exact æ _)<|j s h
def asY{I:Ĉ->fc->Prop}(W:fv.fi À Î (λa d=>∃c,d=G (b.at c<|Ð Q jJ::L) qX/\I c a) l g)(f:∀c a,I c a->gE a)(i:∀c a,I c a->iM vQ a (G (b.at c<|Ð Q jJ::L) qX)):iM vQ l g:= mh (W.fR λa d h=>by obtain⟨c,rfl,e⟩:=h;exact⟨f c a e,U,i c a e⟩)
def wP{f:FuncId}{fn:Func}(xs:List Value)(n:Nat)(hf:Tryz.prog.funcs[f]?=some fn)(hb:fn.body=some (kU fn []):=by kernel_rfl)(hn:fn.ntmps=xs.length+n:=by kernel_rfl):Frame.enter Tryz.prog f xs.toArray .normal=(base f).at ⟨(xs++List.replicate n undef).toArray,[]⟩ [.code<|kU fn []]:=by rw[enter_at _ hf hb,hn,ř,Nat.add_sub_cancel_left,show xs.toArray++Ū n ĸ=(xs++ą n ĸ).toArray from Array.ext' fl]
def vt{J:Jd}{f:Ρ}{args:Array Ñ}(d:Q[i]?=Â o)(e:đ o (Ι Q a.tmps)=Î)(g:b.kind≠.early)(h:jZ l) (j:∀w,(ś a.eval o).run À w=.ok (.enter f args) w) (k:∀w,(ś a.eval o).events À w #[]=#[]) (m:∀c,fG l l.w c->fv.fi À Î J {l with w:=c} (G (è À f args Ą)<|b.at a (Ð Q (i::jJ)::L)::qX)): fv.fi À Î J l (G (b.at a<|Ð Q (i::jJ)::L) qX):=by refine .mk U λc r=>⟨G (è À f args Ą)<|b.at a (Ð Q (i::jJ)::L)::qX,c,#[],{l with w:=c},?_,G9 c<|mb h r,m c r⟩;rw[stepG_enter d e g<|j c];unfold ay;rw[k c,seen_none]
def yA{f:Ρ}{args:Array Ñ}(e:gE l)(j:Q[i]?=Â o)(k:đ o (Ι Q a.tmps)=Î)(m:b.kind≠.early) (n:∀w,(ś a.eval o).run À w=.ok (.enter f args) w) (p:∀w,(ś a.eval o).events À w #[]=#[]) (q:∀d,fG l l.w d->iM vQ {l with w:=d} (G (è À f args Ą)<|b.at a (Ð Q (i::jJ)::L)::qX)): iM vQ l (G (b.at a<|Ð Q (i::jJ)::L) qX):= mh (vt j k m e.r.r n p λd r=> .fB λg c=>by have h:fG l l.w g:=r.ff ⟨c.r,c.I,c.N,c.Y,c.S⟩;exact⟨e.C h,U,q g h⟩)
def iB.u7{c:fc}(e:gE l)(h:iB l c)(k:c.d=l.d):gE c:=by
 have g:∀b,¬c.I b:=by rw[h.I];exact e.rd
 have f:∀a,¬c.r a:=by rw[h.N];exact e.I
 have i:∀a,¬c.N a:=by rw[h.Y];exact e.M
 have j:∀a,¬c.K a:=by rw[h.K];exact e.k
 exact⟨⟨λb _=>g b,λa q=>(f a q).elim,λa q=>q.elim (λz=>(f a z).elim) λz=>(i a z).elim,λb q=>q.elim (λz=>h.fx b z) λz=>(g b z).elim,λa q=>q.elim (λz=>(f a z).elim) λz=>(i a z).elim,λa q=>(j a q).elim⟩,k.trans e.d,by rw[h.q];exact e.q,g,f,i,j⟩
end
def Jg:ĝ:=⟨Â 21,.move<|ň 0,26, "attic.go:46",#[],Á⟩
def Jh:ĝ:=⟨Â 22,.nilCheck<|ň 21,0, "attic.go:46",#[⟨0,ĉ⟩],Á⟩
def Ji:ĝ:=⟨Â 23,.fieldAddr 68 (ň 22) 1,0, "attic.go:46",#[⟨1,ĉ⟩],Á⟩
def Jj:ĝ:=⟨Â 24,.load 65<|ň 23,65, "attic.go:46",#[⟨2,ĉ⟩],Á⟩
def Jk:ĝ:=⟨Â 25,.move<|ň 6,61, "attic.go:46",#[],Á⟩
def Jl:ĝ:=⟨Â 26,.move<|ň 0,26, "attic.go:46",#[],Á⟩
def Jm:ĝ:=⟨Â 27,.nilCheck<|ň 26,0, "attic.go:46",#[⟨5,ĉ⟩],Á⟩
def Jn:ĝ:=⟨Â 28,.fieldAddr 68 (ň 27) 0,0, "attic.go:46",#[⟨6,ĉ⟩],Á⟩
def Jo:ĝ:=⟨Â 29,.load 3<|ň 28,3, "attic.go:46",#[⟨7,ĉ⟩],Á⟩
def yB:ĝ:=⟨Â 30,.call {callee:=.value<|.func 37,args:=#[ň 24,ň 25,ň 29],argTypes:=#[65,61,3]},66, "attic.go:46",#[⟨3,ĉ⟩,⟨4,ĉ⟩,⟨8,ĉ⟩],Á⟩
def AG:ĝ:=⟨Â 20,.move<|ň 30,66, "attic.go:46",#[⟨9,ĉ⟩],Á⟩
def CY:ĝ:=⟨Â 31,.extract (ň 20) 0,25, "attic.go:46",#[⟨10,ĉ⟩],Á⟩
def CZ:ĝ:=⟨Â 32,.extract (ň 20) 1,65, "attic.go:46",#[⟨10,ĉ⟩,{on:=13,ground:=Ground.gcOnly Departure.lateStores}],Á⟩
def C0:ĝ:=⟨Â 9,.assign<|ň 31,25, "attic.go:46",#[⟨11,ĉ⟩,⟨9,.chain⟩,⟨0,ñ⟩,⟨1,ñ⟩,⟨2,ñ⟩,⟨3,ñ⟩,⟨4,ñ⟩,⟨5,ñ⟩,⟨6,ñ⟩,⟨7,ñ⟩,⟨8,ñ⟩,⟨9,ñ⟩,⟨10,ñ⟩,⟨11,ñ⟩,{on:=12,ground:=Ground.textOnly Departure.lateStores}],Á⟩
def C3:ĝ:=⟨Â 10,.assign<|ň 32,65, "attic.go:46",#[⟨12,ĉ⟩,⟨13,.chain⟩,⟨0,ñ⟩,⟨1,ñ⟩,⟨2,ñ⟩,⟨3,ñ⟩,⟨4,ñ⟩,⟨5,ñ⟩,⟨6,ñ⟩,⟨7,ñ⟩,⟨8,ñ⟩,⟨9,ñ⟩,⟨10,ñ⟩,⟨11,ñ⟩,⟨12,ñ⟩,⟨13,ñ⟩],Á⟩
def oN:Array ĝ:=#[Jg,Jh,Ji,Jj,Jk,Jl,Jm,Jn,Jo,yB,AG,CY,CZ,C0,C3]
noncomputable def U5:Τ:=kU Tryz.f17 [1,1,1,1]
structure ox(l:fc)(ab n:Nat)(s:List fH)(sl:Ñ)(V:Nat->Prop):Prop where
 r:mP l.w
 C:∀b,b=1\/b=2\/b=3\/b=4->l.O b
 Y:FH ab n sl l.w
 fq:l.O ab
 rd:RD s sl V l.w
 S:∀b,V b->l.O b
 d:¬V ab
 a:1<=n
 c:n<=8
 I:¬(ab=1\/ab=2\/ab=3\/ab=4)
structure Ny(l l':fc)(ab n:Nat)(s':List fH)(V:Nat->Prop):Prop where
 vL:∀b,l.O b->b≠ab->l'.O b/\l'.w.heap[b]?=l.w.heap[b]?
 att:∃tB V',ox l' ab n s' tB V'/\∀b,V' b->V b\/(b=1\/b=2\/b=3\/b=4)\/l.w.heap.size<=b
section
variable{l d:fc}{ab:Nat}{s:List fH}{sl:Ñ}{V:Nat->Prop}
def ox.N{a:fc}(h:ox l ab n s sl V)(c:∀b,l.O b->a.O b)(d:∀b,l.O b->a.w.heap[b]?=l.w.heap[b]?)(e:l.w.heap.size<=a.w.heap.size):ox a ab n s sl V:= ⟨h.r.r (Ì h.r.fx e) λb q=>d b<|h.C b q,λb q=>c b<|h.C b q,h.Y.r<|d ab h.fq,c ab h.fq,h.rd.r λb q=>d b<|h.S b q,λb q=>c b<|h.S b q,h.d,h.a,h.c,h.I⟩
def ox.M(h:ox l ab n s sl V)(r:fG l l.w u):ox {l with w:=u} ab n s sl V:=h.N (λ_ q=>q) (λb q=>r.I b<|È q) r.r
def kn(ab:Nat)(n:Nat)(sl rs:Ñ)(x:Value×Value):Nat->Ñ
 |0=>Ã<|Â ⟨ab,0,Á⟩
 |1=>Ã<|Â ⟨ab,0,Á⟩
 |2=>Ã<|Â ⟨ab,1,Á⟩
 |3=>sl
 |4=>rs
 |5=>Ã<|Â ⟨ab,0,Á⟩
 |6=>Ã<|Â ⟨ab,0,Á⟩
 |7=>Ã<|Â ⟨ab,0,Á⟩
 |8=>Å É n
 |9=>ë #[x.1,x.2]
 |10=>ë #[x.1,x.2]
 |11=>x.1
 |12=>x.2
 |13=>x.1
 |14=>x.2
 |_=>ĸ
def wR(d:fc)(V:Nat->Prop)(rs:List PR)(s:List fH)(listed:Array Bool)(x:Value×Value)(l:fc):Prop:=
 gE l/\(listed.getD 9 Ë=Ë->gk fg d l)/\(listed.getD 9 Ë=Î->∃a e p m c,gk fg d a/\x=(Ç (Â ⟨e,0,Á⟩) rs.length rs.length,Ç p m c)/\Ax (λb=>V b\/b=1\/b=2\/b=3\/b=4) (wO rs) rs.length (ly rs) s a e (Ç p m c) l)
def wR.ki{V:Nat->Prop}{a:List PR}{s:List fH}{listed:Array Bool}{x:Value×Value}(h:wR d V a s listed x l)(b:i≠9){w₁:Í}(r:fG l l.w w₁):wR d V a s (listed.setIfInBounds i Î) x {l with w:=w₁}:=by
 have e:(listed.setIfInBounds i Î).getD 9 Ë=listed.getD 9 Ë:=by simp[Array.getD_eq_getD_getElem?,Array.getElem?_setIfInBounds_ne b]
 refine⟨h.1.C r,λq=> ?_,λq=> ?_⟩
 .rw[e]at q;exact(h.2.1 q).G r
 .rw[e]at q;let⟨f,g,p,m,c,j,k,n⟩:=h.2.2 q;exact⟨f,g,p,m,c,j,k,n.N r⟩
theorem asZ{D:Array Ñ}{I:List PR}(J:ox d ab n s sl V)(T:D.size=39)(W:D[0]?=Â (Ã<|Â ⟨ab,0,Á⟩))(Y:D[6]?=Â z) (md:Ŀ) (listed:Array Bool) (a:Ĉ) (l:fc) (i:Nat) (O:List Nat) (hI:II oN D (kn ab n sl z) (wR d X I s) listed a l) (p:i∈ä md oN listed) (F:i≠9): fv.fi À Î (λc e=>∃b,e=G ((base 17).at b<|Ð oN O::L) qX/\II oN D (kn ab n sl z) (wR d X I s) (listed.setIfInBounds i Î) b c) l (G ((base 17).at a<|Ð oN (i::O)::L) qX):=by
 let⟨x,g,H⟩:=hI;have t:qY oN D.size=Î:=by rw[T];decide
 have K:=zE p;have u:=H.1.r.r;have y:=H.1.q;have P:=(g.C A).trans W;have FI:=(g.C A).trans Y;have B:∀c,fG l l.w c->wR d X I s (listed.setIfInBounds i Î) x {l with w:=c}:=λc r=>H.ki F r;let⟨fr,mK,_⟩:=J.Y;have early:∀m,m<15->listed.getD m Ë=Ë->(∃e,e∈yB.after/\e.on=m/\vU e=Î)->listed.getD 9 Ë=Ë:=λm _ hm ⟨e,h1,h2,h3⟩=>by
  cases q:listed.getD 9 Ë with
  |false=>rfl
  |true=>
   have:=g.Y 9 yB e U q h1 h3;rw[h2,hm]at this;cases this
 have ku:oN.size=15:=A
 rw[ku]at K;have Dt:listed.getD i Ë=Ë:=by have:=(Β.1 p).1;grind
 have S:∀{j v},(∃e,e∈yB.after/\e.on=i/\vU e=Î)->#[Å É n,sl][j]?=Â v->gX l ⟨ab,j,Á⟩/\l.w.cell? ⟨ab,j,Á⟩=Â v:=λq h=>by have b:=H.2.1<|early i K Dt q;exact⟨È<|b.M<|È J.fq,(gN<|b.r ab (È J.fq) id).trans<|by simp[à,mK,h]⟩
 match i,K,F with
 |9,_,F=>exact absurd U F
 |0,_,_=>
  exact im (o:=Jg) t g U U p (by k_ne) u y (λc r=>by simp only[kn,Jg];go_simp) (λc r e f=>by simp[go_sem,Jg,P]at f) B
 |1,_,_=>
  have b:=g.r 0 Jg 21 U (ig p U U) U;simp only[kn]at b;exact im (o:=Jh) t g U U p (by k_ne) u y (λc r=>by simp only[kn,Jh];go_simp) (λc r e f=>by simp[go_sem,Jh,b]at f) B
 |2,_,_=>
  have b:=g.r 1 Jh 22 U (ig p U U) U;simp only[kn]at b;exact im (o:=Ji) t g U U p (by k_ne) u y (λc r=>by simp only[kn,Ji];go_simp) (λc r e f=>by simp[go_sem,Ji,b]at f) B
 |3,_,_=>
  have b:=g.r 2 Ji 23 U (ig p U U) U;simp only[kn]at b;let⟨C,E⟩:=S (j:=1) ⟨⟨3,ĉ⟩,by simp[yB],U,U⟩ U;refine im (o:=Jj) t g U U p (by k_ne) u y (λc r=> ?_) (λc r e f=> ?_) B
  .have N:=(C.r r).trans E;simp only[kn,Jj];go_simp
  .have N:=(C.r r).trans E;simp[go_sem,Jj,b,N]at f;subst f;exact C.rd
 |4,_,_=>
  exact im (o:=Jk) t g U U p (by k_ne) u y (λc r=>by simp only[kn,Jk];go_simp) (λc r e f=>by simp[go_sem,Jk,FI]at f) B
 |5,_,_=>
  exact im (o:=Jl) t g U U p (by k_ne) u y (λc r=>by simp only[kn,Jl];go_simp) (λc r e f=>by simp[go_sem,Jl,P]at f) B
 |6,_,_=>
  have b:=g.r 5 Jl 26 U (ig p U U) U;simp only[kn]at b;exact im (o:=Jm) t g U U p (by k_ne) u y (λc r=>by simp only[kn,Jm];go_simp) (λc r e f=>by simp[go_sem,Jm,b]at f) B
 |7,_,_=>
  have b:=g.r 6 Jm 27 U (ig p U U) U;simp only[kn]at b;exact im (o:=Jn) t g U U p (by k_ne) u y (λc r=>by simp only[kn,Jn];go_simp) (λc r e f=>by simp[go_sem,Jn,b]at f) B
 |8,_,_=>
  have b:=g.r 7 Jn 28 U (ig p U U) U;simp only[kn]at b;let⟨C,E⟩:=S (j:=0) ⟨⟨8,ĉ⟩,by simp[yB],U,U⟩ U;refine im (o:=Jo) t g U U p (by k_ne) u y (λc r=> ?_) (λc r e f=> ?_) B
  .have N:=(C.r r).trans E;simp only[kn,Jo];go_simp
  .simp[go_sem,Jo,b,(C.r r).trans E]at f;subst f;exact C.rd
 |10,_,_=>
  have b:=g.r 9 yB 30 U (ig p U U) U;simp only[kn]at b;exact im (o:=AG) t g U U p (by k_ne) u y (λc r=>by simp only[kn,AG];go_simp) (λc r e f=>by simp[go_sem,AG,b]at f) B
 |11,_,_=>
  have b:=g.r 10 AG 20 U (ig p U U) U;simp only[kn]at b;exact im (o:=CY) t g U U p (by k_ne) u y (λc r=>by simp only[kn,CY];go_simp) (λc r e f=>by simp[go_sem,CY,b]at f) B
 |12,_,_=>
  have b:=g.r 10 AG 20 U (ig p U U) U;simp only[kn]at b;exact im (o:=CZ) t g U U p (by k_ne) u y (λc r=>by simp only[kn,CZ];go_simp) (λc r e f=>by simp[go_sem,CZ,b]at f) B
 |13,_,_=>
  have b:=g.r 11 CY 31 U (ig p U U) U;simp only[kn]at b;exact im (o:=C0) t g U U p (by k_ne) u y (λc r=>by simp only[kn,C0];go_simp) (λc r e f=>by simp[go_sem,C0,b]at f) B
 |14,_,_=>
  have b:=g.r 12 CZ 32 U (ig p U U) U;simp only[kn]at b;exact im (o:=C3) t g U U p (by k_ne) u y (λc r=>by simp only[kn,C3];go_simp) (λc r e f=>by simp[go_sem,C3,b]at f) B
end
def as0(x y:Ñ)(n:Nat)(a:List Ē):G (è À 37 #[x,y,Å É n] Ą) a=EA x y n a:=by unfold EA;rw[enter_at #[x,y,Å É n] η (c:=kU Tryz.f37 []) ft];kernel_rfl
section
variable{l g:fc}{s:List fH}{V:Nat->Prop}{d:List PR}
theorem as1{F:Array Ñ}(D:ox g i n s x V)(W:RQ d v X g.w)(M:∀b,X b->g.O b)(Y:∀r∈d,vn r)(K6:d.length<=24)(ht:F.size=39) (md:Ŀ) (listed:Array Bool) (a:Ĉ) (l:fc) (N:List Nat) (hI:II oN F (kn i n x v) (wR g (λb=>V b\/X b) d s) listed a l) (B:9∈ä md oN listed) (hn:∀P E,II oN F (kn i n x v) (wR g (λb=>V b\/X b) d s) (listed.setIfInBounds 9 Î) P E->iM vQ E (G ((base 17).at P<|Ð oN N::L) qX)): iM vQ l (G ((base 17).at a<|Ð oN (9::N)::L) qX):=by
 let⟨t,y,Q⟩:=hI;have Dt:=(Β.1 B).1;have h9s:9<listed.size:=by grind
 have H:listed.getD 9 Ë=Ë:=by grind
 have e24:a.tmps[24]?=Â x:=y.r 3 Jj 24 U (ig B U U) U;have e25:a.tmps[25]?=Â v:=y.r 4 Jk 25 U (ig B U U) U;have e29:a.tmps[29]?=Â (Å É n):=y.r 8 Jo 29 U (ig B U U) U;have late:∀(S:Value×Value) j,listed.getD j Ë=Î->kn i n x v S j=kn i n x v t j:=λS j u=>by
  have c:listed.getD 10 Ë=Ë:=by
   cases q:listed.getD 10 Ë with
   |false=>rfl
   |true=>exact absurd (y.Y 10 AG ⟨9,ĉ⟩ U q (by simp[AG]) U)<|by rw[H];decide
  have e:listed.getD 11 Ë=Ë:=by
   cases q:listed.getD 11 Ë with
   |false=>rfl
   |true=>exact absurd (y.Y 11 CY ⟨10,ĉ⟩ U q (by simp[CY]) U)<|by rw[c];decide
  have h:listed.getD 12 Ë=Ë:=by
   cases q:listed.getD 12 Ë with
   |false=>rfl
   |true=>exact absurd (y.Y 12 CZ ⟨10,ĉ⟩ U q (by simp[CZ]) U)<|by rw[c];decide
  have m:listed.getD 13 Ë=Ë:=by
   cases q:listed.getD 13 Ë with
   |false=>rfl
   |true=>exact absurd (y.Y 13 C0 ⟨11,ĉ⟩ U q (by simp[C0]) U)<|by rw[e];decide
  have p:listed.getD 14 Ë=Ë:=by
   cases q:listed.getD 14 Ë with
   |false=>rfl
   |true=>exact absurd (y.Y 14 C3 ⟨12,ĉ⟩ U q (by simp[C3]) U)<|by rw[h];decide
  match j with
  |9=>rw[H]at u;cases u
  |10=>rw[c]at u;cases u
  |11=>rw[e]at u;cases u
  |12=>rw[h]at u;cases u
  |13=>rw[m]at u;cases u
  |14=>rw[p]at u;cases u
  |0|1|2|3|4|5|6|7|8=>rfl
  |j+15=>rfl
 refine yA (f:=37) (args:=#[x,v,Å É n]) Q.1 (o:=yB) U (K5 U _) (by k_ne) (λw=> ?_) (λw=> ?_) λw₁ r=> ?_
 .simp only[yB];go_simp
 .exact ô U η U U #[]
 have z:=(Q.2.1 H).G r;have C:=D.N (λb q=>z.O b q) (λb q=>z.r b (È q) id) z.I;have T:=λb q=>z.O b<|M b q;obtain⟨ra,cr,rb,rq,rfl,HU,wq,HY,HZ,ready⟩:=asW (W.r λb q=>z.r b (È<|M b q) id) Y C.r C.C T;obtain⟨I,J,K,rfl⟩:∃I J K,x=Ç I J K:=by let⟨_,_,_,⟨I,J,K,e,_⟩,_⟩:=D.rd;grind
 rw[as0];refine asQ HU (λh=>È<|wq h) HY HZ ready ⟨λb q=>È<|Ï q,λb q=>Ï q⟩ (λb q=>q.elim (λq=>q.elim (C.S b)<|T b)<|C.C b) (λb q=>È<|È q) C.rd D.a (by have:=D.c;omega) λE e p m c h hT=> ?_;refine hn _ E ⟨(Ç (Â ⟨e,0,Á⟩) d.length d.length,Ç p m c),(y.Zj<|late _).fL (by rw[ht];decide) U B λ_=>rfl,h,λq=> ?_,λ_=>⟨_,e,p,m,c,z,U,hT⟩⟩;simp_all
end
section
variable{l o l4:fc}{ab:Nat}{s:List fH}{sl:Ñ}{V:Nat->Prop}{rs:List PR}
structure acu(l l4:fc)(ab n:Nat)(s:List fH)(sl:Ñ)(V:Nat->Prop)(rs:List PR)(an:Nat)(tB:Ñ):Prop where
 r:∀b,l.O b->l4.O b/\l4.w.heap[b]?=l.w.heap[b]?
 fx:nB<=l4.w.heap.size
 C:l4.O an/\vr an (km rs s) l4.w/\kY l4.w an=Â (0,0)
 Ic:∃V',RD (AF rs s) tB V' l4.w/\(∀b,V' b->l4.O b)/\¬V' ab/\∀b,V' b->V b\/(b=1\/b=2\/b=3\/b=4)\/l.w.heap.size<=b
def as2{kd:Nat->Int}(h:∀p,p<rs.length->w.cell? ⟨i,p,Á⟩=Â (Ä<|yu (wO rs) (ly rs) p<|pW (wO rs) (ic (ly rs) rs.length) s<|fO (ly rs) p))(d:w.cell? ⟨i,rs.length,Á⟩=Á):vr i (km rs s) w:=by refine⟨λp x a=> ?_,by unfold km;simpa using d⟩;unfold km at a;rw[Ī]at a;obtain⟨q,e,rfl⟩:=ò.1 a;let⟨b,c⟩:=Õ.1 e;simp at b c;subst c;exact h p b
def FJ:(km rs s).length=rs.length:=by simp[km]
def as3:nB<=5:=by show À.globals.size<=5;decide+kernel
def as4{f:fc}{p:Option ü}(d:ox l ab n s sl V)(t:gA l)(u:∀b,X b->l.w.heap.size<=b)(v:∀b,l.O b->o.O b/\o.w.heap[b]?=l.w.heap[b]?)(x:l.w.heap.size<=o.w.heap.size)(y:gA l4)(e:gk fg o f)(a:Ax (λb=>(V b\/X b)\/b=1\/b=2\/b=3\/b=4) (wO rs) rs.length (ly rs) s f i (Ç p m j) l4):acu l l4 ab n s sl V rs i (Ç p m j):=by
 have g:∀b,l.O b->l4.O b/\l4.w.heap[b]?=l.w.heap[b]?:=λb q=>by let⟨z,h⟩:=v b q;let⟨k,r⟩:=a.M b<|e.O b z;exact⟨k,r.trans<|(e.r b (È z) id).trans h⟩
 refine⟨g,?_,⟨a.r.1,as2 (kd:=ly rs) a.r.2 a.I.1,a.I.2⟩,?_⟩
 .have:=y.fx 4<|È (g 4<|d.C 4 A).1;have:=as3;omega
 .let⟨h,B,k⟩:=a.S;have r:∀b,h b->V b\/(b=1\/b=2\/b=3\/b=4)\/l.w.heap.size<=b:=λb q=>by
   rcases(k b q).2 with((z|z)|z)|z
   .exact È z
   .exact Ï<|Ï<|u b z
   .exact Ï<|È z
   .exact Ï<|Ï<|Ì (Ì x e.I) z
  refine⟨h,B,λb q=>(k b q).1,λq=> ?_,r⟩;rcases r ab q with z|z|z
  .exact d.d z
  .exact d.I z
  .have:=t.fx ab<|È d.fq;omega
def as5{f:fc}{p:Option ü}(d:ox l ab n s sl V)(h:acu l l4 ab n s sl V rs i (Ç p m j))(E:gA l4)(g:∀b,l4.O b->f.O b)(r:∀b,l4.O b->f.w.heap[b]?=(l4.w.setCell ⟨ab,1,Á⟩<|Ç p m j).heap[b]?)(v:l4.w.heap.size<=f.w.heap.size):Ny l f ab n (AF rs s) V:=by
 let⟨x,y,t,u,z⟩:=h.Ic;have k:∀b,l4.O b->b≠ab->f.w.heap[b]?=l4.w.heap[b]?:=λb q e=>(r b q).trans<|lA (a:=⟨ab,1,Á⟩) e;have o:=h.r ab d.fq;refine⟨λb q e=>⟨g b (h.r b q).1,(k b (h.r b q).1 e).trans (h.r b q).2⟩,Ç p m j,x,⟨?_,λb q=>g b (h.r b<|d.C b q).1,?_,g ab o.1,y.r λb q=>k b (t b q) λe=>u<|e▸q,λb q=>g b<|t b q,u,d.a,d.c,d.I⟩,z⟩
 .exact d.r.r (Ì h.fx v) λb q=>(k b (h.r b<|d.C b q).1 λe=>d.I<|e▸q).trans (h.r b<|d.C b q).2
 .let⟨B,C,D⟩:=d.Y;refine⟨B,?_,D⟩;rw[r ab o.1];unfold Ż;simp[Ķ,o.2,C]
def as6{J:Jd}(b:jZ l)(d:fv.fi À Î J l (G (f.at (y.put ((Q[i]?).bind (·.dst))<|Ä ⟨#[]⟩)<|Ð Q jJ::L) qX)): fv.fi À Î J l (G (è À 38 #[Ç O 0 j,Ä B] Ą)<|f.at y (Ð Q (i::jJ)::L)::qX):=by
 have hF:True:=trivial;rw[wP [_,_] 73 ē];simp only[ą,Đ,ę];conv in kU _ _=>whnf
 apply fN (n:=60) b;repeat w_go fu
 u_in fu hF
 refine Ŧ (t:=4) U U ē U ⟨by u_nil,?_⟩;refine ï λ_ _=> ?_;exact d
def vr.I{w':Í}{xs:List ByteArray}(h:vr i xs w)(k:w'.heap[i]?=w.heap[i]?):vr i xs w':= ⟨λp x a=>CW k<|h.r p x a,by have:=h.C;simp only[à,k]at this|-;exact this⟩
def as7{xs:List ByteArray}(g:mP w)(h:vr i xs w):lD i=Ë:=by
 have b:∀e,Nd i e w->False:=λe ⟨c,o,j,_,_,d,l⟩=>by
  have f:w.cell? ⟨i,0,Á⟩=Â c[0]:=by simp only[à,j,ö,ì,if_false];exact å d
  rcases ģ xs.length with q|q
  .have a:=h.C;rw[q,f]at a;cases a
  .have a:=h.r 0 _<|Ó q;let⟨k,n,m⟩:=l c[0]<|î.2<|ă d;rw[f,m]at a;cases a
 cases q:lD i with
 |false=>rfl
 |true=>
  unfold lD at q;simp at q;rcases q with rfl|rfl
  .exact(b _ g.I).elim
  .exact(b _ g.C).elim
def iB.as8(a:jZ l)(r:fG l l.w u):iB l {l with w:=u}:=⟨λ_ q=>q,λ_ q=>È q,U,U,U,U,U,r,mb a r⟩
def as9{a:Ĉ}{xs:List ByteArray}(b:gE l)(j:nB<=l.w.heap.size)(h:vr n xs l.w)(m:l.O n)(o:lD n=Ë)(p:kY l.w n=Â (0,0))(s:xs.length<=1000){N:Nat}(t:xs.length=N)(u:B.size=1)(v:iO xs+xs.length<=140737488355328): fv.fi À Î (λc g=>iB l c/\c.d=l.d/\g=G (f.at (a.put ((Q[i]?).bind (·.dst))<|Ä<|ja B xs)<|Ð Q jJ::L) qX) l (G (è À 38 #[Ç (Â ⟨n,0,Á⟩) N N,Ä B] Ą)<|f.at a (Ð Q (i::jJ)::L)::qX):=by
 subst t;rcases ģ xs.length with e|e
 .have x:=Ý e;subst x;exact as6 b.r.r<|.fB λy r=>⟨iB.as8 b.r.r r,U,U⟩
 .refine(asL b.r b.q j h e (È m) o p s u v Î _ qX).fR ?_;rintro c g ⟨r,x,rfl⟩;exact⟨r,x,by rw[Ě]⟩
def ata{N:Array Ñ}{cf:Ē}(C:ox l ab n s sl V)(EB:gA l)(U6:∀b,X b->l.w.heap.size<=b)(hl:∀b,l.O b->o.O b/\o.w.heap[b]?=l.w.heap[b]?)(ku:l.w.heap.size<=o.w.heap.size)(K6:rs.length<=24)(sY:iO (km rs s)+rs.length<=140737488355328)(ht:N.size=39)(ht0:N[0]?=Â (Ã<|Â ⟨ab,0,Á⟩)) (hJ:∀P,gE P->Ny l P ab n (AF rs s) V->iM vQ P (G (cf.at (y.put ((Q[i]?).bind (·.dst))<|ë #[Ä<|ja ⟨#[59]⟩<|km rs s,Å É 0])<|Ð Q jJ::L) qX)) (md:Ŀ) (listed:Array Bool) (a:Ĉ) (l4:fc) (hI:II oN N (kn ab n sl v) (wR o (λb=>V b\/X b) rs s) listed a l4) (H:listed.size=oN.size) (I:ä md oN listed=[]): iM vQ l4 (G ((base 17).at a<|Ð oN []::[ax U5])<|cf.at y (Ð Q (i::jJ)::L)::qX):=by
 have hF:True:=trivial;let⟨x,D,g,_,hS⟩:=hI;have J:∀i∈ĳ 15,listed.getD i Ë=Î:=by
  cases md
  .exact pG I H (ĳ 15) [] fP λi c=>by cases c
  .exact λi c=>pG I H [0,1,2,3,4,5,6,7,8,9,10,11,13,12,14] [] fP (λi c=>by cases c) i (by have:=Ŷ.1 c;revert i;decide)
  .exact pG I H (ĳ 15) [] fP λi c=>by cases c
 obtain⟨l1,r,p,m,c,k1,rfl,hT⟩:=hS<|J 9 A;have h:=as4 (rs:=rs) C EB U6 hl ku g.r k1 hT;let⟨F,ds⟩:=a;obtain rfl:ds=[]:=D.M;have S:F[0]?=Â (Ã<|Â ⟨ab,0,Á⟩):=(D.C A).trans ht0;have T:F[9]?=Â (Ç (Â ⟨r,0,Á⟩) rs.length rs.length):=D.r 13 C0 9 U (J 13 A) U;have W:F[10]?=Â (Ç p m c):=D.r 14 C3 10 U (J 14 A) U;have H5:F.size=39:=D.S.trans ht;clear D J hS hT k1 I H;obtain⟨u,rfl⟩:=vY F H5;simp only[List.getElem?_toArray,Ī,List.getElem?_range,Nat.reduceLT,Ă,Ô]at S T W;simp only[ĳ,List.range.loop,List.map,S,T,W];clear S T W H5;let⟨fr,mK,hfr⟩:=C.Y;let⟨Nz,hab⟩:=h.r ab C.fq;have Y:l4.w.heap[ab]?=Â (Û #[Å É n,sl] 68 (0,0)):=by rw[hab,mK,hfr]
 have c1:l4.w.cell? ⟨ab,1,Á⟩=Â sl:=by simp[à,Y]
 have z1:l4.w.frozen? ⟨ab,1,Á⟩=Ë:=by simp[World.frozen?,Y]
 have B2:=g.q;apply mh;apply fN (n:=20) g.r.r;conv in U5=>whnf
 iterate 7 w_go fu
 refine ï λ_ _=> ?_;apply Hs (p:=ab) (off:=1) (v:=Ç p m c) (u:=sl) U U (by k_ne) g.r.r B2 Nz c1 z1 U (λw z B=>by go_simp) (λw z B=>by simp[go_sem,events_store _ _ _ _ _ _ (show Value.oneCell' (Ç p m c)=Î from rfl),z,B]);have k5:=Ld (X:=λb=>b=ab) (p:=ab) (w':=l4.w.setCell ⟨ab,1,Á⟩<|Ç p m c) g.r (fG.fX _ _) Nz U fv.kg λj hj=>fv.lA hj;have sf:=k5.N g.r;have avX:(l4.w.setCell ⟨ab,1,Á⟩<|Ç p m c).heap.size=l4.w.heap.size:=fv.kg;have rW:gE ({l4 with w:=l4.w.setCell ⟨ab,1,Á⟩ (Ç p m c)}:fc):=⟨sf,g.d,g.q,g.rd,g.I,g.M,g.k⟩;have c0:l4.w.cell? ⟨ab,0,Á⟩=Â (Å É n):=by simp[à,Y]
 have atb:r≠ab:=λe=>by
  rcases ģ (km rs s).length with q|q
  .have z:=h.C.2.1.C;rw[q,e,c0]at z;cases z
  .have B:=h.C.2.1.r 0 _<|Ó q;rw[e,c0]at B;cases B
 have acv:(l4.w.setCell ⟨ab,1,Á⟩<|Ç p m c).heap[r]?=l4.w.heap[r]?:=fv.lA (a:=⟨ab,1,Á⟩) atb;have UD:=h.C.2.1.I acv;have BN:kY (l4.w.setCell ⟨ab,1,Á⟩<|Ç p m c) r=Â (0,0):=(xn acv).trans h.C.2.2;have atc:lD r=Ë:=as7 (C.r.r h.fx λb q=>(h.r b<|C.C b q).2) h.C.2.1;have hlen:(km rs s).length=rs.length:=FJ;apply fN (n:=20) sf.r;iterate 4 w_go fu
 refine ï λ_ _=> ?_;refine vt (f:=38) (args:=#[Ç (Â ⟨r,0,Á⟩) rs.length rs.length,Ä ⟨#[59]⟩]) U fP (by k_ne) sf.r (λw=>by go_simp) (λw=>ô U ē U U #[]) λw₁ E=> ?_;have FI:=rW.C E;have atd:vr r (km rs s) w₁:=UD.I<|E.I r<|È h.C.1;refine fv.fi.lG ?_ (as9 (xs:=km rs s) FI (Ì (by rw[fv.kg];exact h.fx) E.r) atd h.C.1 atc ((xn<|E.I r<|È h.C.1).trans BN) Z hlen U Z);rintro K g6 ⟨M,hd,rfl⟩;have U7:gE K:=iB.u7 FI M hd;have hk6:∀b,l4.O b->K.w.heap[b]?=(l4.w.setCell ⟨ab,1,Á⟩<|Ç p m c).heap[b]?:=λb q=>(M.r.I b<|È q).trans<|E.I b<|È q;have hs6:l4.w.heap.size<=K.w.heap.size:=by have z:=M.r.r;have B:=E.r;have h3:(l4.w.setCell ⟨ab,1,Á⟩<|Ç p m c).heap.size=l4.w.heap.size:=fv.kg;exact Ì (Nat.le_of_eq h3.symm)<|Ì B z
 have B:∀b,l4.O b->K.O b:=λb q=>M.O b q;generalize ja ⟨#[59]⟩ (km rs s)=ans at*;walk_nrm;apply fN (n:=20) U7.r.r;repeat w_go fu
 u_in fu hF
 refine θ (t:=4) (u:=5) U U Ł U ⟨by u_nil,?_⟩;refine ï λ_ _=> ?_;refine .fB λxk z=>⟨U7.C z,U,hJ _ (U7.C z)<|as5 C h g.r B (λb q=>(z.I b<|È<|B b q).trans<|hk6 b q)<|Ì hs6 z.r⟩
end
section
variable{l:fc}{s:List fH}
theorem ate{e:fc}{c:Nat->Prop}{g:List PR}(B:ox l j n s v X)(C:gA l)(D:ox e j n s v X)(k:gE e)(W:RQ g z c e.w)(Y:∀b,c b->e.O b)(hok:∀r∈g,vn r)(E:g.length<=24)(F:∀b,c b->l.w.heap.size<=b)(H:∀b,l.O b->e.O b/\e.w.heap[b]?=l.w.heap[b]?)(I:l.w.heap.size<=e.w.heap.size)(J:iO (km g s)+g.length<=140737488355328)(t:d.size=39)(u:d[0]?=Â (Ã<|Â ⟨j,0,Á⟩))(K:d[6]?=Â z) (M:∀h,gE h->Ny l h j n (AF g s) X->iM vQ h (G (f.at (y.put ((Q[i]?).bind (·.dst))<|ë #[Ä<|ja ⟨#[59]⟩<|km g s,Å É 0])<|Ð Q jJ::L) qX)): iM vQ e (G ((base 17).at ⟨d,[]⟩<|ax (.region 4 oN Î)::[ax U5])<|f.at y (Ð Q (i::jJ)::L)::qX):=by
 refine asX (II oN d (kn j n v z)<|wR e (λb=>X b\/c b) g s) k (λa x=> ?_) (λm o a l i jJ p N P=> ?_) λm o a l p S T=> ?_
 .refine⟨(ĸ,ĸ),lL.G _ _ _,k.C x,λ_=>(gk.fX k.r.r).G x,λq=> ?_⟩;exact absurd q A
 .by_cases V:i=9
  .grind [as1]
  .exact asY (asZ D t u K m o a l i jJ p N V) (λN h q=>by let⟨x,_,q⟩:=q;exact q.1) P
 .exact ata B C F H I E J t u M m o a l p S T
def acw(p:gE l)(r:ox l j n s v X)(I:B.size<=ī)(J:(gL B).1=0->iO (km (gL B).2.2 s)+(gL B).2.2.length<=140737488355328) (t:∀z,gE z->Ny l z j n (lV s B).2.2 X->iM vQ z (G (f.at (y.put ((Q[i]?).bind (·.dst))<|ë #[Ä (lV s B).1,Å É (lV s B).2.1])<|Ð Q jJ::L) qX)): iM vQ l (G (è À 17 #[Ã<|Â ⟨j,0,Á⟩,Ä B] Ą)<|f.at y (Ð Q (i::jJ)::L)::qX):=by
 have hF:=trivial;rw[wP [_,_] 37 Ł];simp only[ą,Đ,ę];conv in kU _ _=>whnf
 apply mh;apply fN (n:=20) p.r.r;iterate 8 w_go fu
 refine ï λ_ _=> ?_;refine vt (f:=36) (args:=#[Ä B]) U fP (by k_ne) p.r.r (λw=>by go_simp) (λw=>ô U ļ U U #[]) λw₁ m=> ?_;have C:=p.C m;refine fv.fi.lG ?_<|ach C.r C.q (Ì r.r.fx m.r) I Î _ _;rintro u g1 ⟨x,K,a,rfl,M⟩;have g:=iB.u7 C x K;have h:∀b,l.O b->u.O b/\u.w.heap[b]?=l.w.heap[b]?:=λb q=>⟨x.O b q,(x.r.I b<|È q).trans<|m.I b<|È q⟩;have F:=Ì m.r x.r.r;rw[Ě];by_cases k:(gL B).1=0
 .have D:lV s B=(ja ⟨#[59]⟩<|km (gL B).2.2 s,0,AF (gL B).2.2 s):=if_pos k;let⟨c,N,E⟩:=M k;have P:=J k;rw[D]at t;obtain⟨S,T⟩:=Jf;rw[k];generalize(gL B).2.2=rs at*;generalize(gL B).2.1=U8 at*;walk_nrm;apply fN (n:=40) g.r.r;repeat w_go fu
  refine ï λ_ _=> ?_;refine .fB λo d=>⟨g.C d,U,?_⟩;have V:=g.C d;have e:∀b,l.O b->({u with w:=o}:fc).O b/\o.heap[b]?=l.w.heap[b]?:=λb q=>⟨(h b q).1,(d.I b<|È (h b q).1).trans (h b q).2⟩;have H:=Ì F d.r;have W:=r.N (λb q=>(e b q).1) (λb q=>(e b q).2) H;have Y:=N.r λb q=>d.I b<|È (E b q).1;have hQ3:=λb q=>(E b q).1;have U6:=λb q=>Ì m.r (E b q).2;exact ate r p.r W V Y hQ3 S T U6 e H P U U U t
 .have D:lV s B=(⟨#[]⟩,(gL B).1,s):=if_neg k;rw[D]at t;have c:((gL B).1 !=0)=Î:=by rwa[bne_iff_ne]
  generalize(gL B).1=er at*;generalize(gL B).2.1=U8 at*;walk_nrm;apply fN (n:=40) g.r.r;repeat w_go fu
  u_in fu hF
  refine θ U U Ł U ⟨by u_nil,?_⟩;refine ï λ_ _=> ?_;refine .fB λo d=>⟨g.C d,U,t _ (g.C d) ?_⟩;have e:∀b,l.O b->({u with w:=o}:fc).O b/\o.heap[b]?=l.w.heap[b]?:=λb q=>⟨(h b q).1,(d.I b<|È (h b q).1).trans (h b q).2⟩;exact⟨λb q _=>e b q,v,X,r.N (λb q=>(e b q).1) (λb q=>(e b q).2)<|Ì F d.r,λb q=>È q⟩
end
def NA(a:ByteArray)(c:a.size=1):∀b:List ByteArray,(ja a b).size<=iO b+b.length
 |[]=>Ø _
 |x::r=>by
  show(x.data.toList++kz a r).toArray.size<=_;have d:iO (x::r)=x.size+iO r:=by simp[iO]
  have e:x.data.toList.length=x.size:=by rw[ě];rfl
  simp only[ř,Ù,M1 a c r,d,e,ď];omega
def U9{M:Nat}(a:∀z∈vX,z.size<=M)(b:M<=100)(c:vX.length<=400000):(pS vX).size<=100000000:=by
 unfold pS;split
 .decide
 .have d:=NA ⟨#[44]⟩ U vX;have e:=Fo vX a;have:M*vX.length<=100*400000:=ű b c;omega
theorem FK(i:Nat):(nX i).size<=3:=by
 unfold nX oF;rw[ø];split
 .show 1+1<=3;decide
 .show 1+2<=3;decide
theorem acy(s:gd.St)(x y:Nat)(k:Int):∀(m i:Nat),i+m<=1000->(tJ s x y k i m).size<=20
 |0,i,_=>by unfold tJ;decide
 |m+1,i,h=>by
  unfold tJ;split
  .exact pP i Z
  .exact acy s x y k m (i+1) Z
theorem atf(s t:gd.St):(nL s t 8).length<=400000:=by
 unfold nL;have a:∀l:List Nat,(l.flatMap<|sB s t).length<=18*l.length:=λl=>by
  induction l with
  |nil=>simp
  |cons i l b=>
   rw[List.flatMap_cons,Ù,ď];have:(sB s t i).length<=18:=by unfold sB;grind [Ù,MX,aaZ]
   omega
 grind
theorem atg{i:List (Nat×fH)}{q:Qn}(n:lH (kB i))(ok:q.Ok):(tM i q).size<=100000000:=by
 unfold tM;split
 .grind [FK]
 .rename_i p o;let⟨b,f,v,w⟩:=n.r _<|Ú.2 ⟨p,IW o,U⟩;have j:∀u,u<18446744073709551616->(fC u).size<=100000000:=λu r=>by have:=pP u r;omega
  unfold CK;split
  .have c:=f.C q.x q.I;exact j _ (by have:=c.1;have:=c.2;omega)
  .split
   .have c:=f.fj q.x;exact j _ (by have:=c.1;have:=c.2;omega)
   .split
    .split
     .grind [FK]
     .rename_i B;have l:gi (q.k:Int):=⟨Z,by have:=ok.k;omega⟩;have e:=Iw p.2.s [] q.x q.y q.g q.k f ok.x ok.y l Z Z (by simp;omega);unfold qG;have C:=e.r;have m:=e.M;have t:=e.I;simp at t;have D:=NA ⟨#[44]⟩ U<|[fC (gl p.2.s [] q.x q.y q.g q.k).C.toNat,fC (gl p.2.s [] q.x q.y q.g q.k).M.toNat,fC (gl p.2.s [] q.x q.y q.g q.k).r.toNat]++(gl p.2.s [] q.x q.y q.g q.k).I.map oI;have E:=Fo (M:=21) ([fC (gl p.2.s [] q.x q.y q.g q.k).C.toNat,fC (gl p.2.s [] q.x q.y q.g q.k).M.toNat,fC (gl p.2.s [] q.x q.y q.g q.k).r.toNat]++(gl p.2.s [] q.x q.y q.g q.k).I.map oI) λz d=>by
       rcases â.1 d with h|h
       .simp at h;rcases h with rfl|rfl|rfl
        .have:=pP (gl p.2.s [] q.x q.y q.g q.k).C.toNat (by cases(gl p.2.s [] q.x q.y q.g q.k).C<;>decide);omega
        .have:=pP (gl p.2.s [] q.x q.y q.g q.k).M.toNat (by have:=m.1;have:=m.2;omega);omega
        .grind [pP]
       .obtain⟨e,a,rfl⟩:=Ú.1 h;exact M5 ((Uf p.2.s [] q.x q.y q.g q.k f ok.x ok.y l Z Z (by simp;omega) λ_ q=>by cases q) e a).2
      grind
    .split
     .grind [acy]
     .split
      .have:=abg<|E9 p.2.s;have:=abh<|16-(nN<|E9 p.2.s).size;unfold M8;rw[ø];omega
      .split
       .exact U9 (λz d=>by obtain⟨e,a,rfl⟩:=Ú.1 d;exact M5 (b.C e a).2) Z<|by rw[ù];exact b.I
       .split
        .exact U9 (λz d=>by obtain⟨e,a,rfl⟩:=Ú.1 d;exact aa8 (b.r e a).1 (b.r e a).2) Z (by rw[ù];have:=b.M;omega)
        .split
         .grind [FK]
         .exact U9 (abj _ _) Z<|atf _ _
theorem ath(a:List (Nat×fH))(v:Int)(x:Nat)(gM:List Tx):(rv a v x gM).2.size<=3:=by
 unfold rv;split
 .exact FK 3
 .split
  .exact FK 4
  .split
   .exact FK 5
   .show(oF a.length).size<=3;unfold oF;split
    .show 1<=3;decide
    .show 2<=3;decide
def ati{s:List fH}{i:Int×Nat×List Tx}(h:lH s)(a:∀t∈i.2.2,t.Ok)(b:i.2.2.length<=1000):lH (CO s i):= lH.M (by rwa[I5]) a b
def acz{a:List PR}{s:List fH}(h:lH s)(b:∀r∈a,vn r):∀k,k<=(ic (ly a) a.length).length->lH (pW (wO a) (ic (ly a) a.length) s k)
 |0,_=>h
 |k+1,hk=>by
  have c:a.getD ((ic (ly a) a.length).getD k 0) p8∈a:=ç (i:=(ic (ly a) a.length).getD k 0) (by have q:=(Ia<|wz (l:=ic (ly a) a.length)<|show k<_ from hk).1;generalize(ic (ly a) a.length).getD k 0=j at q;simp[Ğ,q]);have q:=b _ c;refine ati (acz h b k Z) (λt d=> ?_) ?_
  .obtain⟨x,t,rfl⟩:=Ú.1 d;exact toTx_ok<|q.C x t
  .show((a.getD _ p8).r.map toTx).length<=1000;rw[ù];have:=q.n;omega
def Sy(kd:Nat->Int):∀{p R:Nat},p<=R->fO kd p<=(ic kd R).length:=λ{p R} h=>by
 show(ic kd p).length<=(ic kd R).length
 induction h with
 |refl=>exact æ _
 |@step R _ ih=>
  by_cases q:kd R=1
  .rw[tA q];simp;omega
  .rwa[wm q]
theorem acA{a:List PR}{s:List fH}(h:lH s)(b:∀r∈a,vn r)(l:a.length<=24):iO (km a s)+a.length<=2400000024:=by
 have d:=Fo (M:=100000000) (km a s) λz c=>by
  unfold km at c;obtain⟨p,e,rfl⟩:=Ú.1 c;have f:=Ŷ.1 e;have g:=acz h b (fO (ly a) p)<|Sy _ Z;unfold yu;split
  .grind [Ì,ath]
  .rename_i j;have k:a.getD p p8∈a:=ç (i:=p) (by simp[Ğ,f]);exact atg (by rwa[I5])<|acr (b _ k) j
 rw[FJ]at d;omega
def acB{s:List fH}(h:lH s):iO (km (gL B).2.2 s)+(gL B).2.2.length<=140737488355328:=Ì (acA h Jf.1 Jf.2) A
theorem atj{s:List fH}(h:lH s)(B:ByteArray):(lV s B).1.size<=10^12:=by
 unfold lV;split
 .have a:=NA ⟨#[59]⟩ U<|km (gL B).2.2 s;have b:=acA h (Jf (B:=B)).1 Jf.2;rw[FJ]at a;grind
 .exact Ø _
def Jp(c:Int):Int:=if c<0 then(-(c+1))%8 else c%8
def atl(c:Int)(b:-9223372036854775808<=c)(d:c<=9223372036854775807)(w:Í):Ò À 30 #[Å É c,Å É 8] w λe a=>e=Æ (Å É<|Jp c)/\a=w:=by
 unfold Jp;by_cases h:c<0
 .rw[if_pos h];have e:-(c+1).tmod 8=(-(c+1))%8:=by rw[<-Int.neg_tmod,Int.tmod_eq_emod_of_nonneg Z]
  have H:=fe e.symm;clear e;go_enter ŧ,Ο;go_wp2;go_ret;exact⟨by rw[H.out];rfl,U⟩
 .rw[if_neg h];go_enter ŧ,Ο;go_wp2;go_ret;exact⟨U,U⟩
def NB(a:ü)(w:Í):Sem.events À (binOp BinOp.eql 26 (Ã<|Â a)<|Ã Á) w #[]=#[]:=ft
theorem AH{l:fc}(a:gE l)(p:nB<=l.w.heap.size){f:Ρ}{args:Array Ñ}{r:Ñ}(m:EO f=Î)(s:∀v∈args.toList,fp (qu (λ_=>False) À.globals.size) v v)(t:∀{Y v},fp Y r v->v=r)(x:∀w,Ò À f args w λe y=>e=Æ r/\y=w)(n:Bool)(c:Ē)(i:List Ē): fv.fi À n (λk o=>iB l k/\k.d=l.d/\o=G (c.finish r) i) l (G (è À f args Ą)<|c::i):=by
 let⟨E,F,z,B⟩:=Ab f m;have C:∀T,Ò À f args (World.tp (lq (λj=>False/\¬(mq l).O j) l.w) T 0) fun|Æ v,j=>v=r/\kt j|_,_=>False:=λT=>by refine(x _).mono ?_;grind [Ft]
 refine((EJ yO Me Ab (λv u T D h=>h) m z B (EK a.r) a.q (λb q=>q.elim) ⟨λb q=>q.elim,p⟩ (λg q=>by cases q) (pT s) C n c i).mq a.r).fR ?_;rintro k o ⟨D,⟨Y,j,v,H,_,_,g,rfl,b,_,_,h⟩,rfl,u,_,_,_⟩;rw[t g]at b;exact⟨u,h,b⟩
def Va:ByteArray:=⟨#[98,48,58,97,59,98,48,58,104,59,117,48,59,98,49,58,97]⟩
def atm:(lV [gd.jR] Va).1=⟨#[49,48,48,48,59,49,48,48,48,59,45,59,33,51]⟩:=ft
def atn:(lV [gd.jR] Va).2=(0,[gd.jR]):=ft
structure ato(l l':fc)(ab n:Nat)(sl:Ñ)(V:Nat->Prop):Prop where
 r:ox l' ab n [gd.jR] sl V
 C:∀b,l.O b->l'.O b/\l'.w.heap[b]?=l.w.heap[b]?
 I:l.w.heap.size<=ab
 M:∀b,V b->(b=1\/b=2\/b=3\/b=4)\/l.w.heap.size<=b
section
variable{l:fc}
def atp{J:Jd}{s:List fH}(c:gE l)(d:ox l j n s z X)(g:fv.fi À Î J l (G (f.at (y.put ((Q[i]?).bind (·.dst))<|Å É s.length)<|Ð Q jJ::L) qX)): fv.fi À Î J l (G (è À 22 #[Ã<|Â ⟨j,0,Á⟩] Ą)<|f.at y (Ð Q (i::jJ)::L)::qX):=by
 have hF:True:=trivial;obtain⟨a,b,rfl⟩:∃a b,z=Ç a s.length b:=by
  let⟨o,h,_,⟨a,k,b,e,_,m⟩,_⟩:=d.rd;have:k=s.length:=by rw[m.r,<-h];simp[kB]
  exact⟨a,b,by rw[e,this]⟩
 have o:s.length<=40:=by let⟨_,_,e,_⟩:=d.rd;exact e.C
 let⟨p,k,_⟩:=d.Y;have m:l.w.cell? ⟨j,1,Á⟩=Â (Ç a s.length b):=by simp[à,k]
 rw[wP [_] 7 Ũ];simp only[ą,Đ,ę];conv in kU _ _=>whnf
 refine fN (n:=20) c.r.r ?_;repeat w_go fu
 refine ï λ_ _=> ?_;refine oZ (x:=⟨j,1,Á⟩) (v:=Ç a s.length b) U fP (by k_ne) c.r.r c.q (È<|È d.fq) m (λw h=>by go_simp) (λw h=>by simp[go_sem,h]) ?_;walk_nrm;refine fN (n:=20) c.r.r ?_;repeat w_go fu
 u_in fu hF
 refine Ŧ (t:=2) U U Ũ U ⟨by u_nil,?_⟩;refine ï λ_ _=> ?_;exact g
def atq(j:gE l)(p:mP l.w)(I:∀b,b=1\/b=2\/b=3\/b=4->l.O b)(c:Int)(uu:-9223372036854775808<=c)(Ay:c<=9223372036854775807) (hJ:∀J a n K V,gE J->ato l J a n K V->iM vQ J (G (f.at (y.put ((Q[i]?).bind (·.dst))<|Ã<|Â ⟨a,0,Á⟩)<|Ð Q jJ::L) qX)): iM vQ l (G (è À 15 #[Å É c] Ą)<|f.at y (Ð Q (i::jJ)::L)::qX):=by
 have hF:True:=trivial;rw[wP [_] 36 ι];simp only[ą,Đ,ę];conv in kU _ _=>whnf
 apply mh;apply fN (n:=20) j.r.r;repeat w_go fu
 refine ï λ_ _=> ?_;refine vt (f:=30) (args:=#[Å É c,Å É 8]) U fP (by k_ne) j.r.r (λw=>by go_simp) (λw=>ô U ŧ U U #[]) λw₁ r=> ?_;have T:=j.C r;refine fv.fi.lG ?_ (AH T (Ì p.fx r.r) fP (λv h=>by simp at h;rcases h with rfl|rfl<;>exact .iG _ _) (λh=>by cases h;rfl) (atl c uu Ay) Î _ _);rintro s g1 ⟨u,hd,rfl⟩;obtain⟨z,hz,Iu,EG⟩:∃z,Jp c=z/\0<=z/\z<8:=⟨_,U,by unfold Jp;split<;>omega,by unfold Jp;split<;>omega⟩;rw[hz];have M:gE s:=iB.u7 T u hd;have x:∀b,l.O b->s.O b/\s.w.heap[b]?=l.w.heap[b]?:=λb q=>⟨u.O b q,(u.r.I b<|È q).trans<|r.I b<|È q⟩;have B:l.w.heap.size<=s.w.heap.size:=Ì r.r u.r.r;rw[Ě];walk_nrm;refine fN (n:=20) M.r.r ?_;repeat w_go fu
 refine ï λ_ _=> ?_;have oW:É.wrap (1+z)=1+z:=Ļ _ ⟨Z,Z⟩;refine vt (f:=35) (args:=#[Å É<|1+z]) U fP (by k_ne) M.r.r (λw=>by go_simp) (λw=>ô U ζ U U #[]) λxk h=> ?_;have N:=M.C h;obtain⟨n,hn⟩:∃n:Nat,1+z=n:=⟨(1+z).toNat,Z⟩;rw[hn];refine fv.fi.lG ?_<|asK N.r N.q (Ì (Ì p.fx B) h.r) (n:=(n:Int)) Z Z Î _ _;rintro d g3 ⟨C,xL,a,K,rfl,mK,Nz,hab,V,ri,hnV,W⟩;have g:gE d:=iB.u7 N C xL;have k:∀b,l.O b->d.O b/\d.w.heap[b]?=l.w.heap[b]?:=λb q=>⟨C.O b (x b q).1,(C.r.I b<|È (x b q).1).trans<|(h.I b<|È (x b q).1).trans (x b q).2⟩;have X:l.w.heap.size<=d.w.heap.size:=Ì B<|Ì h.r C.r.r;have atr:l.w.heap.size<=a:=Ì B<|Ì h.r hab;have atu:∀b,b=1\/b=2\/b=3\/b=4->b<l.w.heap.size:=λb q=>j.r.fx b<|È<|I b q;have hin:ox d a n [gd.jR] K V:=⟨p.r (Ì p.fx X) λb q=>(k b<|I b q).2,λb q=>(k b<|I b q).1,mK,Nz,ri,λb q=>(W b q).1,hnV,Z,Z,λq=>by have:=atu a q;omega⟩;have hVn:∀b,V b->l.w.heap.size<=b:=λb q=>Ì B<|Ì h.r (W b q).2;rw[Ě];walk_nrm;apply fN (n:=60) g.r.r;repeat w_go fu
 refine ï λ_ _=> ?_;apply mY (v:=õ Ë) U fP (by k_ne) g.r.r g.q (λw _=>by go_simp) (λw _ e m=>by simp[go_sem,NB]at m);walk_nrm;apply fN (n:=60) g.r.r;repeat w_go fu
 refine ï λ_ _=> ?_;refine .fB λY m=>⟨g.C m,U,?_⟩;have rW:=g.C m;have atv:=hin.M m;have P:∀b,l.O b->({d with w:=Y}:fc).O b/\Y.heap[b]?=l.w.heap[b]?:=λb q=>⟨(k b q).1,(m.I b<|È (k b q).1).trans (k b q).2⟩;refine yA (f:=17) (args:=#[Ã<|Â ⟨a,0,Á⟩,Ä ⟨#[98,48,58,97,59,98,48,58,104,59,117,48,59,98,49,58,97]⟩]) rW U fP (by k_ne) (λw=>by go_simp) (λw=>ô U Ł U U #[]) λacC D=> ?_;change iM vQ _ (G (è À 17 #[Ã<|Â ⟨a,0,Á⟩,Ä Va] Ą) _);refine acw (rW.C D) (atv.M D) A (λ_=>acB acj) λl6 E acD=> ?_;rw[atn]at acD|-;rw[atm];let⟨KO,sl6,V6,acE,hV6⟩:=acD;have lz:∀b,l.O b->b≠a:=λb q e=>by have:=j.r.fx b<|È q;omega
 have F:∀b,l.O b->l6.O b/\l6.w.heap[b]?=l.w.heap[b]?:=λb q=>by let⟨o,H⟩:=KO b (P b q).1<|lz b q;exact⟨o,H.trans<|(D.I b<|È (P b q).1).trans (P b q).2⟩
 have hV7:∀b,V6 b->(b=1\/b=2\/b=3\/b=4)\/l.w.heap.size<=b:=λb q=>by
  rcases hV6 b q with z|z|z
  .exact Ï<|hVn b z
  .exact È z
  .exact Ï<|Ì X<|Ì (Ì m.r D.r) z
 walk_nrm;apply mh;apply fN (n:=60) E.r.r;repeat w_go fu
 refine ï λ_ _=> ?_;refine vt (f:=22) (args:=#[Ã<|Â ⟨a,0,Á⟩]) U fP (by k_ne) E.r.r (λw=>by go_simp) (λw=>ô U Ũ U U #[]) λse o=> ?_;apply atp (E.C o) (acE.M o);have S:=E.C o;have atw:=acE.M o;walk_nrm;apply fN (n:=60) S.r.r;repeat w_go fu
 u_in fu hF
 refine Ŧ (t:=2) U U ι U ⟨by u_nil,?_⟩;refine ï λ_ _=> ?_;exact .fB λavY H=>⟨S.C H,U,hJ _ a n sl6 V6 (S.C H) ⟨atw.M H,λb q=>⟨(F b q).1,(H.I b<|È (F b q).1).trans<|(o.I b<|È (F b q).1).trans (F b q).2⟩,atr,hV7⟩⟩
end
def Vb{t:Tmp}(d:f.kind=Ą)(e:y.defers=[])(g:P.funcs[f.fn]?=Â s)(c:s.results=#[.tmp t])(h:P.inits.idxOf? f.fn=Á):stepG P Î (G {f.at y L with mode:=.returning} []) w=.ended (.done<|y.tmps.getD t ĸ) w:=by have i:=results_tmp c y.tmps P w;have j:=events_results_tmp (P:=P) (w:=w) c y.tmps;simp[G,stepG,unwind,doReturn,Frame.at,d,e,g,i,j,h,seen,GStep.after]
def atx{l:fc}(e:iM vQ l g)(a:gE l)(c:g.status=.running):sJ vQ #[g] l.w Á #[]:=e a c (λ_=>False) 0 _ _ _ _ Á _ ⟨λx q=>q.elim,λ_ _ _ _ q=>q,Ø _⟩ (asM (P:=À) (J:=λ_ _=>True) (T:=.fB) U a.d a.q a.rd a.I a.M a.k (λb q=>a.r.fx b<|È q) c λ_ _=>trivial) a.d U
def acG(W:Í):fc:={O:=λb=>b<W.heap.size,I:=λ_=>False,r:=λ_=>False,N:=λ_=>False,K:=λ_=>False,d:=0,q:=False,w:=W}
def acH(W:Í):gE (acG W):= ⟨⟨λ_ _=>id,λ_ q=>q.elim,λ_ q=>q.elim (λz=>z.elim) λz=>z.elim,λ_ q=>q.elim id λz=>z.elim,λ_ q=>q.elim (λz=>z.elim) λz=>z.elim,λ_ q=>q.elim⟩,U,id,λ_=>id,λ_=>id,λ_=>id,λ_=>id⟩
structure nU(W w':Í):Prop where
 rI:∀b,b<W.heap.size->w'.heap[b]?=W.heap[b]?
 DF:W.heap.size<=w'.heap.size
def aty(g:mP W):∀b,b=1\/b=2\/b=3\/b=4->b<W.heap.size:=λb q=>by let⟨c,a,h,_⟩:=g.C;have:=(á.1 h).1;omega
end Go.Proofs.Y.kA
