import Derived.Test.YtgpphkdoanciiaaGreatDoorWAD
import Derived.Lib.Bytealg
import Derived.WalkKit
import Derived.WalkSpells
import Derived.WalkLawsBesides
import Derived.Deep.Light
import Derived.WalkMore
import Derived.Deep.QuietTactic
import Derived.BigQuiet
import Derived.Conc.LeavingOf
import Derived.Conc.CrowdStepC
import Derived.Listen
import Derived.ProofKit
import Derived.Deep.Slices
set_option linter.all false
set_option maxRecDepth 1000000
set_option maxHeartbeats 8000000
open Go.Proofs.Tryz renaming prog->À,ntmps67->í,func67->ó,zeroCells292->û,ntmps100->ü,func100->Ā,underlying25->Č,func38->ĕ,results45->Ĥ,func36->ļ,results36->Ľ,func17->Ł,ntmps160->Ŋ,ntmps147->ŋ,ntmps38->Ŏ,func160->Œ,func147->Ŗ,ntmps95->ŗ,ntmps36->Ř,func95->ť,func30->ŧ,func22->Ũ,ntmps123->Ÿ,ntmps101->ż,func123->Δ,func101->Κ,ntmps96->Μ,ntmps45->Ν,ntmps30->Ο,func96->Ω,func45->ε,func35->ζ,func37->η,func15->ι,f38->ah
open Option renaming none->Á,some->Â,bind_eq_some_iff->Ü,bind_eq_bind->ê,map->ð,map_eq_some_iff->ò,isSome_none->ö,pure_def->ā,map_some->Ă,bind_some->ş
open Go.Value renaming pointer->Ã,string->Ä,int->Å,slice->Æ,tuple->ë,bool->õ,cells->Ĺ
open Go.Ending renaming returned->Ç
open Or renaming inl->È,inr->Ï
open Go.IntKind renaming i64->É,u64->ã,wrap_u64->Ć,wrap_i64->ŝ,u8->ū
open And renaming intro->Ê
open Bool renaming false->Ë,true->Î,false_eq_true->ì,eq_iff_iff->Ě
open Nat renaming le_trans->Ì,zero_le->Ø,le_refl->æ,lt_of_lt_of_le->Ģ,eq_zero_or_pos->ĥ,zero_add->œ,mul_le_mul->ű
open Go renaming World->Í,Value->Ñ,Calls->Ò,Addr->ù,bodyPost_ret->ÿ,Act->Ĉ,Goroutine->Ċ,TypeId->Ď,maxLen->đ,Frame->Ĕ,Oper->ğ,TypeInfo->ĩ,undef->ĸ,results->Ń,execOp->ś,runNT_fst->Ţ,run_underlying->Ů,info_parts->ů,heap_alloc_new->Ŵ,Tape->ŷ,Trace->Ž,runNT->ſ,mem_ready->Β,wp_loop->Γ,wpList_plain->Ε,yielded->Ι,cell_one_new->Λ,FuncId->Ρ,Code->Τ,storeCells->ν,resolve->ρ,builtin->ς,Program->ω,invoke->ak
open Go.Item renaming inRegion->Ð,code->av
open List renaming getElem?_eq_getElem->Ó,getElem?_eq_some_iff->Õ,length_append->Ù,mem_map->Ú,eq_nil_of_length_eq_zero->Ý,mem_append->â,mem_of_getElem?->ç,setIfInBounds_toArray->é,length_map->ú,set_cons_zero->ý,set_cons_succ->þ,replicate->ą,length_cons->Đ,cons_append->Ē,mem_cons_of_mem->Ė,getElem?_of_mem->ė,append_nil->Ę,nil_append->ě,getElem_of_mem->Ğ,getD->Ġ,getElem?_append_right->ġ,getElem?_append_left->Ħ,extract_eq_take_drop->ħ,mem_or_eq_of_mem_set->Ĩ,take_add_one->Ī,getElem?_map->ī,all_eq_true->ĭ,range->ĳ,set_append_right->Ĵ,length_pos_iff->Ņ,map_cons->ŉ,mem_singleton->ō,map_nil->Ő,append_assoc->ő,ext_getElem?->Ŕ,size_toArray->ř,length_take->Ś,map_toArray->Ŝ,mem_flatMap->Ş,length_nil->ũ,mem_range->Ŷ
open Option.some renaming injEq->Ô,inj->af
open Go.Lib renaming byteCells->Ö,indexByte->Þ,strCells->į,hasPrefix->ź,TabIs->χ
open Go.Obj renaming cells->Û
open Go.World renaming cell?->ß,setCell->Ż,drew->ξ,var?->ο
open Go.Code renaming wp->à,wp_mono->İ,loop->ń,skip->ai
open Array renaming getElem?_eq_some_iff->á,getElem?_eq_getElem->å,mem_toList_iff->î,getElem_mem->ă,length_toList->ĝ,size_setIfInBounds->Ĭ,getElem?_eq_none->ı,mem_of_getElem?->ĵ,getElem?_modify->Ķ,getElem?_toList->ķ,toList_extract->ĺ,replicate->Ū
open Go.Region renaming ready->ä,wanted->ē,Mode->Ŀ
open Go.Frame renaming enter->è,finish_at->Ĝ
open Go.Conc.Goes renaming stop->ï
open Go.Ground renaming phase->ñ,data->ĉ
open Go.Conc renaming events_call_body->ô,crowd->Į,goes_leave1->Ŧ,Good->Ξ,goes_leave2->θ,listed->ax
open ByteArray renaming size_append->ø,getElem_eq_getElem_data->ċ,size_extract->č,data_extract->Ĳ,size->ŭ,data->Ű,extract->σ,mk->aA
open Go.CallKind renaming normal->Ą
open Go.Region.linearise renaming go->ć
open Go.Great renaming wpList_runTo->ď
open Go.Builtin renaming append_->ę,firstCells->Ō,lenOf->Ź,append->κ,zeroCells->φ
open Go.RowKit.Below renaming heap_setCell->ģ,heap_alloc->Š
open Go.IntWalk renaming i64_in->Ļ,i64_left->š
open Go.Made renaming word->ł,reckonStruct->ŕ,infoAt->ţ,mostCells->Ų,reckon->Χ
open Int renaming toNat_of_nonneg->ņ,le_refl->Ť
open Go.Operand renaming tmp->ň
open Go.Result renaming andThen_ok->ŏ,andThen->ų
variable{i n j b k m J j9 j7 j6:Nat}{w u W jX:Í}{v x z jQ:Ñ}{g:Ċ}{a p:ù}{h c:Int}{e t T:Ď}{d q:Array Ñ}{P:ω}{y:Ĉ}{B:ByteArray}{X:Nat->Prop}{O:Option ù}{l:List Ñ}{yQ:Bool}{K H:Ĉ->Í->Prop}{o:ğ}{D:Nat->Nat}{E:Array Ċ}{L:List Go.Item}{jJ:List Nat}{qX:List Ĕ}{qJ:Ž}{zX:Go.Loc->Prop}{zQ:List Int}{zJ:ĩ}{xQ:ŷ}{xJ:Nat×Nat}{vX:List ByteArray}{vQ:Ñ->Í->Prop}{vJ:Go.Exit->Ĉ->Í->Prop}{Q:Array ğ}{f:Ĕ}{F:Ρ}{s:Go.Func}
namespace Go.Proofs.Y.iz
open Go Go.Proofs Go.RowKit Go.Proofs.Y.Lift
def BH:Τ->Option Τ
 |ń c=>Â c
 |.seq a b=>match BH b with
  |some c=>Â c
  |none=>BH a
 |.block _ c=>BH c
 |.scope c=>BH c
 |.cond _ a b=>match BH b with
  |some c=>Â c
  |none=>BH a
 |_=>Á
noncomputable def Lf:Τ:=(ah.body.bind kr).getD ai
noncomputable def Lg:Τ:=(ah.body.bind BH).getD ai
def QE(k:Nat)(X:Ĉ->Í->Prop):Exit->Ĉ->Í->Prop
 |.exit i,a,w=>i=k/\X a w
 |_,_,_=>False
def qm(a:ByteArray)(b:List ByteArray):List UInt8:=b.flatMap λy=>a.data.toList++y.data.toList
def anx(a:ByteArray):List ByteArray->List UInt8
 |[]=>[]
 |x::r=>x.data.toList++qm a r
def iK(xs:List ByteArray):Nat:=(xs.map ŭ).sum
def SB(a b:List ByteArray):iK (a++b)=iK a+iK b:=by simp[iK]
def C_(a:List ByteArray)(j:Nat):iK (a.take j)<=iK a:=by have h:=SB (a.take j)<|a.drop j;simp_all
theorem Lh(a:ByteArray)(c:a.size=1):∀b:List ByteArray,(qm a b).length=iK b+b.length
 |[]=>rfl
 |x::r=>by
  have e:qm a (x::r)=(a.data.toList++x.data.toList)++qm a r:=U;have d:a.data.toList.length=1:=by simpa using c
  have f:x.data.toList.length=x.size:=fh
  have g:iK (x::r)=x.size+iK r:=by simp[iK]
  rw[e,Ù,Ù,Lh a c r,d,f,g,Đ];omega
def D7(a:Option ù)(n b:Nat)(c:ByteArray)(m i:Int)(u:Nat->Ñ):Ĉ:=⟨#[Æ a n b,Ä c,u 2,u 3,u 4,Å É m,u 6,u 7,u 8,u 9,u 10,u 11,u 12,u 13,u 14,u 15,u 16,u 17,u 18,u 19,u 20,u 21,u 22,u 23,u 24,u 25,u 26,u 27,u 28,u 29,u 30,u 31,u 32,u 33,u 34,u 35,u 36,u 37,u 38,Æ a n b,Å É n,Å É i,u 42,u 43,u 44,u 45,u 46,u 47,u 48,u 49,u 50,u 51,u 52,u 53,u 54,u 55,u 56,u 57,u 58,u 59,u 60,u 61,u 62,u 63,u 64,u 65,u 66,u 67,u 68,u 69,u 70,u 71,u 72,u 73,u 74],[]⟩
def D8(b:Option ù)(n c:Nat)(d:ByteArray)(m i:Int)(a:Ĉ):Prop:=∃u,a=D7 b n c d m i u
def pR(a:Option ù)(n c b:Nat)(d:ByteArray)(i:Int)(u:Nat->Ñ):Ĉ:=⟨#[u 0,Ä d,u 2,u 3,u 4,u 5,u 6,u 7,Ã<|Â ⟨b,0,Á⟩,u 9,u 10,u 11,u 12,u 13,u 14,u 15,u 16,u 17,u 18,u 19,u 20,u 21,u 22,u 23,u 24,u 25,u 26,u 27,u 28,u 29,u 30,u 31,u 32,u 33,u 34,u 35,u 36,u 37,u 38,u 39,u 40,u 41,u 42,u 43,u 44,u 45,u 46,u 47,u 48,u 49,u 50,u 51,u 52,u 53,u 54,u 55,u 56,u 57,u 58,u 59,u 60,u 61,u 62,Æ a n c,Å É n,Å É i,u 66,u 67,u 68,u 69,u 70,u 71,u 72,u 73,u 74],[]⟩
def D9(c:Option ù)(n d b:Nat)(e:ByteArray)(i:Int)(a:Ĉ):Prop:=∃u,a=pR c n d b e i u
section
variable{X:Ĉ->Í->Prop}{sep:ByteArray}{xs:List ByteArray}
def anz(u:Nat->Ñ)(m:Int)(b:∀a,D8 O n i sep m n a->X a w): à À Lf (Exit.then K<|QE 1 X) (D7 O n i sep m n u) w:=by
 unfold D7;conv=>arg 2;whnf
 go_wp2_with fail
 exact⟨U,b _ (gl _)⟩
def anB(u:Nat->Ñ)(m j:Nat)(f:j<n)(g:n<=1000000)(b c:Nat)(e:O=Â ⟨b,c,Á⟩)(x:ByteArray)(h:w.cell? ⟨b,c+j,Á⟩=Â (Ä x))(k:m+x.size<=140737488355328) (d:∀a,D8 O n i sep ((m+x.size:Nat):Int) ((j+1:Nat):Int) a->K a w): à À Lf (Exit.then K<|QE 1 X) (D7 O n i sep m j u) w:=by
 unfold D7;conv=>arg 2;whnf
 subst e;have H:=e8 d;clear d;go_wp2_with fail;exact H.out _ (gl _)
def J1(O:Option ù)(n i:Nat)(sep:ByteArray)(b:Nat)(xs:List ByteArray)(u:Í)(a:Ĉ)(w:Í):Prop:=
 ∃j:Nat,D8 O n i sep ((b+iK (xs.take j):Nat):Int) j a/\j<=n/\w=u
def C'(O:Option ù)(n i:Nat)(sep:ByteArray)(b:Nat)(xs:List ByteArray)(u:Í)(a:Ĉ)(w:Í):Prop:=
 D8 O n i sep ((b+iK xs:Nat):Int) n a/\w=u
def Li(n:Nat)(a:Ĉ)(_:Í):Nat:=match a.tmps.getD 41 ĸ with
 |Å _ i=>n-i.toNat
 |_=>0
def D_(b:D8 O n i sep h j y):Li n y w=n-j:=by obtain⟨u,rfl⟩:=b;show n-(j:Int).toNat=_;simp
theorem anC(r:n=xs.length)(f:n<=1000000)(g:mS O (kt xs) u)(s:j+iK xs<=140737488355328)(a:Ĉ)(w:Í)(h:J1 O n i sep j xs u a w): à À Lf (Exit.then (λb c=>J1 O n i sep j xs u b c/\Li n b c<Li n a w)<|QE 1<|C' O n i sep j xs u) a w:=by
 obtain⟨b,d,t,rfl⟩:=h;rw[D_ d];obtain⟨c,rfl⟩:=d;by_cases k:b=n
 .subst k;refine anz c _ λa q=>⟨?_,U⟩;grind
 .obtain⟨x,e⟩:∃x,xs[b]?=Â x:=⟨_,Ó Z⟩;let⟨l,m,o,p⟩:=g b (Ä x) (by simp[kt,e]);have v:iK (xs.take<|b+1)=iK (xs.take b)+x.size:=by
   rw[Ī,e,SB];simp[iK]
  have y:=C_ xs<|b+1;refine anB c _ b Z f l m o x p Z λa q=>⟨⟨b+1,?_,Z,U⟩,by rw[D_ q];omega⟩;grind
def anD(u:Nat->Ñ)(c:∀a,D9 O n i b sep n a->X a w): à À Lg (Exit.then K<|QE 3 X) (pR O n i b sep n u) w:=by
 unfold pR;conv=>arg 2;whnf
 go_wp2_with fail
 exact⟨U,c _ (gl _)⟩
def anE(c:Nat->Ñ)(j:Nat)(y:j<n)(z:n<=1000000)(d f:Nat)(o:O=Â ⟨d,f,Á⟩)(x:ByteArray)(p:u.cell? ⟨d,f+j,Á⟩=Â (Ä x))(l:List UInt8)(g:om u b (Ö l) w)(q:sep.size=1)(B:l.length+1+x.size<=140737488355328) (r:∀a h,D9 O n i b sep ((j+1:Nat):Int) a->om u b (Ö<|l++(sep.data.toList++x.data.toList)) h->K a h): à À Lg (Exit.then K<|QE 3 X) (pR O n i b sep j c) w:=by
 unfold pR;conv=>arg 2;whnf
 subst o;have C:=g.r.r p id;have k:=Lib.byteCells_length l;have s:(Ö l++į sep).length=l.length+1:=by rw[Ù,k,Lib.strCells_length,q]
 have E:Ö l++į sep++į x=Ö (l++(sep.data.toList++x.data.toList)):=by simp[Ö,į]
 have H:=e8<|Ê g<|Ê r<|Ê k<|Ê s E;go_wp2_with (first
  |(go_at_call 55;refine(SA t.out x<|by rw[H.out.2.2.2.1];omega).mono ?_;rintro e D ⟨rfl,m⟩;have v:=e8 m;clear m)
  |(go_at_call 55;refine(SA H.out.1 sep (by rw[H.out.2.2.1];omega)).mono ?_;rintro e D ⟨rfl,m⟩;have t:=e8 m;clear m))
 apply H.out.2.1 _ _ (gl _);rw[<-H.out.2.2.2.2];exact v.out
def J2(O:Option ù)(n i b:Nat)(sep:ByteArray)(c:List UInt8)(xs:List ByteArray)(u:Í)(a:Ĉ)(w:Í):Prop:=
 ∃j:Nat,D9 O n i b sep j a/\j<=n/\om u b (Ö<|c++qm sep (xs.take j)) w
def D'(O:Option ù)(n i b:Nat)(sep:ByteArray)(c:List UInt8)(xs:List ByteArray)(u:Í)(a:Ĉ)(w:Í):Prop:=
 D9 O n i b sep n a/\om u b (Ö<|c++qm sep xs) w
def Lj(n:Nat)(a:Ĉ)(_:Í):Nat:=match a.tmps.getD 65 ĸ with
 |Å _ i=>n-i.toNat
 |_=>0
def E_(c:D9 O n i b sep j y):Lj n y w=n-j:=by obtain⟨u,rfl⟩:=c;show n-(j:Int).toNat=_;simp
theorem anF{d:List UInt8}(z:n=xs.length)(h:n<=1000000)(k:sep.size=1)(l:mS O (kt xs) u)(B:d.length+iK xs+n<=140737488355328)(a:Ĉ)(w:Í)(m:J2 O n i b sep d xs u a w): à À Lg (Exit.then (λc e=>J2 O n i b sep d xs u c e/\Lj n c e<Lj n a w)<|QE 3<|D' O n i b sep d xs u) a w:=by
 let⟨j,g,C,o⟩:=m;rw[E_ g];obtain⟨c,rfl⟩:=g;by_cases p:j=n
 .subst p;refine anD c λa q=>⟨q,?_⟩;grind
 .obtain⟨x,f⟩:∃x,xs[j]?=Â x:=⟨_,Ó Z⟩;let⟨r,s,t,v⟩:=l j (Ä x) (by simp[kt,f]);have D:iK (xs.take<|j+1)=iK (xs.take j)+x.size:=by
   rw[Ī,f,SB];simp[iK]
  have E:=C_ xs<|j+1;have y:(d++qm sep (xs.take j)).length=d.length+iK (xs.take j)+j:=by grind [Ù,Lh,Ś]
  have F:qm sep (xs.take<|j+1)=qm sep (xs.take j)++(sep.data.toList++x.data.toList):=by rw[Ī,f];simp[qm]
  refine anE c j Z h r s t x v _ o k (by rw[y];omega) λa e q G=>⟨⟨j+1,q,Z,?_⟩,by rw[E_ q];omega⟩;grind
end
section
variable{sep:ByteArray}{xs:List ByteArray}
def ot(sep:ByteArray)(xs:List ByteArray):ByteArray:=⟨(anx sep xs).toArray⟩
def anG:Ò À 38 #[Æ O 0 i,Ä sep] w λe a=>e=Ç (Ä ⟨#[]⟩)/\eZ e9 w a:=by go_enter ĕ,Ŏ;go_wp2_with fail;go_ret;exact⟨U,eZ.fQ _ _⟩
def anH(a b:Nat)(x:ByteArray)(d:w.cell? ⟨a,b,Á⟩=Â (Ä x)):Ò À 38 #[Æ (Â ⟨a,b,Á⟩) 1 i,Ä sep] w λe c=>e=Ç (Ä x)/\eZ e9 w c:=by go_enter ĕ,Ŏ;go_wp2_with fail;go_ret;exact⟨U,eZ.fQ _ _⟩
theorem anI(k:Nat)(K:1<=k)(L:k<1000000)(c d:Nat)(M:k+1<=i)(B:sep.size=1)(x:ByteArray)(g:k=xs.length)(f:mS (Â ⟨c,d,Á⟩) (kt<|x::xs) w)(C:iK (x::xs)+(k+1)<=140737488355328): Ò À 38 #[Æ (Â ⟨c,d,Á⟩) (k+1) i,Ä sep] w λe b=>e=Ç (Ä<|ot sep<|x::xs)/\eZ e9 w b:=by
 have D:iK (x::xs)=x.size+iK xs:=by simp[iK]
 have m:∀a,D8 (Â ⟨c,d,Á⟩) (k+1) i sep ((k+iK ((x::xs).take 0):Nat):Int) (0:Nat) a->à À (ń Lf) (QE 1<|C' (Â ⟨c,d,Á⟩) (k+1) i sep k (x::xs) w) a w:=λa h=>
  Γ (J1 (Â ⟨c,d,Á⟩) (k+1) i sep k (x::xs) w) (Li<|k+1) ⟨0,h,Ø _,U⟩<|anC (by simp[g]) Z f Z
 have n:mS (Â ⟨c,d+1,Á⟩) (kt xs) w:=λj u E=>by let⟨b,o,z,l⟩:=f (j+1) u (by simpa[kt]using E);grind
 have p:∀a W,D9 (Â ⟨c,d+1,Á⟩) k (i-1) w.heap.size sep (0:Nat) a->om w w.heap.size (Ö<|x.data.toList++qm sep (xs.take 0)) W->à À (ń Lg) (QE 3<|D' (Â ⟨c,d+1,Á⟩) k (i-1) w.heap.size sep x.data.toList xs w) a W:=λa W h o=>
  Γ (J2 (Â ⟨c,d+1,Á⟩) k (i-1) w.heap.size sep x.data.toList xs w) (Lj k) ⟨0,h,Ø _,o⟩<|anF g Z B n (by simp only[ĝ];have:x.data.size=x.size:=rfl;omega)
 let⟨_,_,F,q⟩:=f 0 (Ä x) U;cases F;have r:w.cell? ⟨c,d,Á⟩=Â (Ä x):=q;have s:x.data.toList++qm sep xs≠[]:=by grind [Ù,Lh,ũ]
 have N:(1:Int)<9223372036854775807/(k:Int):=by rw[Int.lt_iff_add_one_le,Int.le_ediv_iff_mul_le Z];omega
 have t:0<k+iK (x::xs)/\k+iK (x::xs)<=281474976710656:=Z
 have y:(Ö []).length+x.size<=140737488355328:=by simp[Ö];omega
 have H:=e8<|Ê m<|Ê p<|Ê t<|Ê y<|Ê s r;clear m p t y s q r f n g C D;generalize G:iK (x::xs)=S at*;go_enter ĕ,Ŏ;go_wp2_with fail;refine İ ?_ (H.out.1 _ (gl _));rintro(_|_|_|_|_|_) a v hq;all_goals first|exact absurd hq id|skip
 obtain⟨rfl,b,rfl⟩:=hq;rw[G]at b;obtain⟨u,rfl⟩:=b;unfold D7;go_wp2_with (first
  |(go_at_call 54;refine(anv ⟨æ _,eZ.gC _ _ _ _,fe.N v [Ã Á,Æ Á 0 0] 109⟩ (k+S) H.out.2.2.1.1 H.out.2.2.1.2).mono ?_;rintro e I ⟨rfl,l⟩;have J:=l.r.r H.out.2.2.2.2.2 id;have z:=e8 l;clear l)
  |(go_at_call 55;refine(SA z.out x H.out.2.2.2.1).mono ?_;rintro e l ⟨rfl,z⟩;have I:=e8 z;clear z))
 have J:om v v.heap.size (Ö<|x.data.toList++qm sep (xs.take 0)) l:=by have:=I.out;show om v v.heap.size (Ö<|x.data.toList++[]) l;rw[Ę];exact this
 refine İ ?_ (H.out.2.1 _ _ (gl _) J);rintro(_|_|_|_|_|_) a w3 hq;all_goals first|exact absurd hq id|skip
 obtain⟨rfl,b,o⟩:=hq;obtain⟨v,rfl⟩:=b;unfold pR;go_wp2_with (go_at_call 56;refine(anw (e8 o).out H.out.2.2.2.2.1).mono ?_;rintro e O ⟨rfl,z⟩;have I:=e8 z;clear z);go_ret;exact⟨U,I.out⟩
def SC(a:n=xs.length)(f:n<=1000000)(g:n<=i)(h:sep.size=1)(b:mS O (kt xs) w)(j:iK xs+n<=140737488355328): Ò À 38 #[Æ O n i,Ä sep] w λe c=>e=Ç (Ä<|ot sep xs)/\eZ e9 w c:=by
 cases xs with
 |nil=>subst a;exact anG
 |cons x r=>
  let⟨c,d,k,l⟩:=b 0 (Ä x) U;subst k;cases r with
  |nil=>
   subst a;have e:ot sep [x]=x:=by show aA ((x.data.toList++[]).toArray)=x;rw[Ę]
   rw[e];exact anH c d x l
  |cons y r=>
   subst a;exact anI (r.length+1) Z (by simp at f;omega) c d g h x U b j
def anJ(a:n=xs.length)(c:n<=1000000)(d:n<=i)(h:mS O (kt xs) w)(f:iK xs+n<=140737488355328): Ò À 123 #[Æ O n i] w λe b=>e=Ç (Ä<|if xs=[]then⟨#[45]⟩else ot ⟨#[44]⟩ xs)/\eZ e9 w b:=by
 have H:=e8<|SC (sep:=⟨#[44]⟩) a c d U h f;by_cases b:xs=[]
 .subst b;have e:=a;subst e;rw[if_pos U];clear a f H c d;go_enter Δ,Ÿ;go_wp2_with fail;go_ret;exact⟨U,eZ.fQ _ _⟩
 .rw[if_neg b];have k:0<n:=by rw[a];exact Ņ.2 b
  have l:((n:Int)==0)=Ë:=by simp;omega
  clear a;generalize ot ⟨#[44]⟩ xs=z at*;go_enter Δ,Ÿ;go_wp2_with (go_at_call 38;apply H.out.mono;rintro e m ⟨rfl,g⟩;have j:=e8 g;clear g);go_ret;exact⟨U,j.out⟩
end
def Ea{M:Nat}:∀(a:List ByteArray),(∀z∈a,z.size<=M)->iK a<=M*a.length
 |[],_=>Ø _
 |x::r,h=>by
  have c:=Ea r λz b=>h z<|Ė _ b;have d:=h x fh;have e:iK (x::r)=x.size+iK r:=by simp[iK]
  rw[e,Đ,Nat.mul_add];omega
def Ll{e:Nat×Int}(h:fW e.2):(rh e).size<=21:=by unfold rh;rw[ø];have:=xa e.1;have:=qi e.2.toNat (by have:=h.1;have:=h.2;omega);omega
def F_{e:Int×Bool}(a:0<=e.1)(h:e.1<=400):(D4 e).size<=41:=by unfold D4;rw[ø,ø];have:=qi e.1.toNat Z;have:=qi e.2.toNat (by cases e.2<;>decide);have:ŭ ⟨#[58]⟩=1:=rfl;omega
section
variable{b:List ByteArray}
def F'{ty:Ď}{base:Nat}(b:P.underlying t=Â (.slice e))(d:P.info? e=Â zJ)(h:w.ownsRow base e j v n l)(a:Option ù)(c:Nat): (ę #[t,t] ty #[v,Æ a 0 c]).run P w=.ok v w:=by
 have f:(Ō zJ.size 0<|Æ a 0 c).run P w=.ok #[] w:=by cases a<;>simp[Ō,loadCells,loadCellsFrom]
 rcases h.2 with⟨rfl,rfl⟩|⟨g,m,o,rfl,_,_,k,_⟩
 .simp[ę,Ů b,sizeOf,typeInfo,d,Ź,f,ν]
 .simp[ę,Ů b,sizeOf,typeInfo,d,Ź,f,k,ν]
def anK{r:Array ğ}{t:List ğ}(l:o.guard=Á)(s c:Operand) (m:o.op=.call {callee:=.builtin κ,args:=#[s,c],argTypes:=#[25,25]}) (d:gX u v vX w) (n:y.eval s=v) {base:Nat} (B:w.ownsRow base 9 1 x b.length (kt b)) (e:y.eval c=x) (I:vX.length+b.length<=1000000) (h:∀j k,gX u j (vX++b) k->wpList À r vJ t (y.put o.dst j) k):wpList À r vJ (o::t) y w:=by
 let⟨J,p,D,E,F⟩:=ů yV;rcases B.2 with⟨f,G⟩|⟨g,H,L,f,_⟩
 .have z:=Ý G;subst z;rw[f]at e;refine Ε l λK i=> ?_;have q:=F' (ty:=o.type) Č p d.fi Á 0;unfold Oper.wp ś;simp only[m,ρ,ak,ς,Sem.run_bind,Sem.run_pure,ŏ,Ŝ,ŉ,Ő,n,e,q];exact i _ _<|h v w<|by rwa[Ę]
 .by_cases C:b=[]
  .subst C;rw[f]at e;refine Ε l λK i=> ?_;have q:=F' (ty:=o.type) Č p d.fi (Â ⟨g,0,Á⟩) H;unfold Oper.wp ś;simp only[m,ρ,ak,ς,Sem.run_bind,Sem.run_pure,ŏ,Ŝ,ŉ,Ő,n,e,q,ũ];exact i _ _<|h v w<|by rwa[Ę]
  .have K:=Ņ.2 C;refine Bl l s c 25 m Č p D E F U n d.fi ⟨g,0,Á⟩ (kt b) (e.trans f) K (by simp[kt]) (B.cells<|by rw[f];rfl) (λi q=>by unfold kt at q;obtain⟨z,_,rfl⟩:=Ú.1 q;rfl) (by unfold đ;omega) Z d.r.M ?_;intro j k z;refine h j k ⟨?_,d.r.C z.r λi M q=> ?_⟩
   .have:=z.fi;rwa[show kt vX++kt b=kt (vX++b) by simp[kt],show vX.length+b.length=(vX++b).length by simp]at this
   .have:=(d.fi.lt i q).1;omega
end
def gX.I(h:gX u (Æ O n i) vX w):mS O (kt vX) w/\n=vX.length/\n<=i:=by
 rcases h.fi.2 with⟨b,d⟩|⟨g,f,k,b,_,_,d,_⟩
 .cases b;refine⟨λj x e=> ?_,d.symm,æ _⟩;rw[Ý d]at e;cases e
 .have e:n=vX.length:=by injection b
  subst e;injection b with _ _ h4;exact⟨mS.r h.fi,U,by rwa[h4]⟩
def SF(r:Bq):ByteArray:=ot ⟨#[44]⟩<|[gH r.C.toNat,gH r.M.toNat,gH r.r.toNat]++r.I.map rh
theorem anL(x y:Nat)(g k:Int)(b c:Nat)(a:Bool)(f:List (Nat×Int))(L:b<18446744073709551616)(M:c<18446744073709551616)(S:f.length<=400000)(V:wY f)(W:lh w) (T:Ò À 158 #[Ã<|Â ⟨i,0,Á⟩,Å É x,Å É y,Å ã g,Å ã k] w λe h=>∃B,e=Ç (ë #[.agg #[Å ã b,õ a,Å ã c],B])/\h.ownsRow 0 257 2 B f.length (j0 f)/\eZ e9 w h): Ò À 119 #[Ã<|Â ⟨i,0,Á⟩,Å É x,Å É y,Å ã g,Å ã k] w λe h=>e=Ç (Ä<|ot ⟨#[44]⟩<|[gH a.toNat,gH c,gH b]++f.map rh)/\eZ e9 w h:=by
 have N:a.toNat<18446744073709551616:=by cases a<;>decide
 have H:=e8<|Ê T<|Ê W V;go_enter Tryz.func119,Tryz.ntmps119;go_wp2_with (go_at_call 158;apply H.out.1.mono;rintro e j ⟨B,rfl,q,d⟩;obtain⟨v,Q,rfl⟩:=jy q;have C:=e8<|Ê d q;clear d q);change à À _ _ _ (j.alloc<|Û #[Å ã b,õ a,Å ã c] 252);have D:=(eZ.gC e9 j #[Å ã b,õ a,Å ã c] 252).fc<|eZ.fN _ _;have E:=(H.out.2.1.r C.out.1).r D;have o:=(fe.N j [Å ã b,õ a,Å ã c] 252).I (eZ.fN e9 _) id;have O:=C.out.1.fc D;have X:=gW C.out.2 D λ_ _=>id;refine lP (λh=>h.cell? ⟨j.heap.size,0,Á⟩=Â (Å ã b)/\h.cell? ⟨j.heap.size,1,Á⟩=Â (õ a)/\h.cell? ⟨j.heap.size,2,Á⟩=Â (Å ã c)) [] fl ?_;have l:=e8<|Ê (o.r 0 _ rfl)<|Ê (o.r 1 _ rfl)<|o.r 2 _ rfl;generalize j.heap.size=ob at*;generalize ξ (j.alloc<|Û #[Å ã b,õ a,Å ã c] 252)=w5 at*;iterate 3 apply tk l.out
 apply tk l.out 5;apply tk l.out 6;apply tk l.out 8;apply tk l.out 9;apply tk l.out 10;apply gu 3;intro K d;go_simp;go_at_call 159;refine(GV _ _).mono ?_;rintro e Y ⟨rfl,p9⟩;subst Y;rw[u_];apply d.out _ _ λ_=>l.out;apply gu 4;intro K d;go_simp;go_at_call 118;refine(wZ a.toNat N _ E).mono ?_;rintro e wa ⟨rfl,p⟩;have r:=o.I p id;have P:=E.r p;apply d.out _ _ λ_=>⟨r.r 0 _ U,r.r 1 _ U,r.r 2 _ U⟩;apply gu 7;intro K d;go_simp;go_at_call 118;refine(wZ c M _ P).mono ?_;rintro e wb ⟨rfl,s⟩;have t:=r.I s id;have Pb:=P.r s;apply d.out _ _ λ_=>⟨t.r 0 _ U,t.r 1 _ U,t.r 2 _ U⟩;apply gu 11;intro K d;go_simp;go_at_call 118;refine(wZ b L _ Pb).mono ?_;rintro e m ⟨rfl,F⟩;have u:=t.I F id;have n:=u.I (eZ.gC e9 m #[Ä<|gH a.toNat,Ä<|gH c,Ä<|gH b] 9) id;apply d.out _ _ λ_=>⟨u.r 0 _ U,u.r 1 _ U,u.r 2 _ U⟩;apply gu 12;intro K d;go_simp;apply d.out _ _ λ_=>⟨n.r 0 _ U,n.r 1 _ U,n.r 2 _ U⟩;apply gu 13;intro K d;go_simp;apply d.out _ _ λ_=>⟨n.r 0 _ U,n.r 1 _ U,n.r 2 _ U⟩;refine lA fl ?_ _;have G:eZ e9 w5 (m.alloc<|Û #[Ä<|gH a.toNat,Ä<|gH c,Ä<|gH b] 9):=((p.fc s).fc F).fc<|eZ.gC _ _ _ _;have T6:gX w (Æ (Â ⟨m.heap.size,0,Á⟩) 3 3) [gH a.toNat,gH c,gH b] (m.alloc<|Û #[Ä<|gH a.toNat,Ä<|gH c,Ä<|gH b] 9):=⟨World.ownsRow_lit m #[Ä<|gH a.toNat,Ä<|gH c,Ä<|gH b] 3 (Ì O.M ((p.fc s).fc F).M) (by unfold đ;omega) U,O.fc G⟩;have L6:=gW X G λ_ _=>id;have P6:=E.r G;have I:=e8<|Ê T6<|Ê L6 P6;generalize m.alloc (Û #[Ä<|gH a.toNat,Ä<|gH c,Ä<|gH b] 9)=w6 at*;generalize m.heap.size=tb at*;have jC:∀z∈[gH a.toNat,gH c,gH b]++f.map rh,z.size<=21:=λz hz=>by
  rcases â.1 hz with q|q
  .have h1:=qi a.toNat N;have h2:=qi c M;have v:=qi b L;grind
  .obtain⟨e,v,rfl⟩:=Ú.1 q;exact Ll (H.out.2.2 e v).2
 have rJ:=Ea _ jC;have hlen:([gH a.toNat,gH c,gH b]++f.map rh).length=3+f.length:=by simp;omega
 have J:=e8<|Ê rJ hlen;go_wp2_with (first
  |(go_at_call 124;refine(t_ U S H.out.2.2 I.out.2.2<|mS.r I.out.2.1).mono ?_;rintro e v ⟨lt,rfl,q⟩;obtain⟨ta,tc,rfl⟩:=jy q.fi;rw[ú]at q;have Q:=e8 q;clear q)
  |(at_builtin;refine anK U _ _ U (I.out.1.fG Q.out.r) U Q.out.fi U (by simp;omega) ?_;intro cv w8 v;obtain⟨ca,cc,rfl⟩:=jy v.fi;generalize([gH a.toNat,gH c,gH b]++f.map rh).length=cn at v|-;have q:=e8 v;clear v)
  |(go_at_call 38;refine(SC q.out.I.2.1 (by have:=q.out.I.2.1;rw[this,J.out.2];omega) q.out.I.2.2 U q.out.I.1 (by have:=q.out.I.2.1;have h1:=J.out.1;have h2:=J.out.2;omega)).mono ?_;rintro e w9 ⟨rfl,v⟩;have Q:=e8 v;clear v))
 go_ret;exact⟨U,q.out.r.fc Q.out⟩
def anM{s:St}(v:lR i s h w)(b:gD s)(z:iF w)(B:lh w)(x y:Nat)(g k:Int)(c:x<8)(d:y<8)(f:0<=g)(j:g<=100000)(l:fW k): Ò À 119 #[Ã<|Â ⟨i,0,Á⟩,Å É x,Å É y,Å ã g,Å ã k] w λe q=>e=Ç (Ä<|SF<|gd s [] x y g k)/\eZ e9 w q:=by have T:=p_ v b z x y g k c d f j l _ U;have e:=KL s [] x y g k b c d l f j (by simp;omega);have m:=Sk s [] x y g k b c d l f j (by simp;omega) (λ_ q=>by cases q);obtain⟨q,o,a,t,p,C⟩:∃q o a t p,gd s [] x y g k=⟨q,o,a,t,p⟩:=⟨_,_,_,_,_,U⟩;rw[C]at T e m|-;have D:=e.C;have E:=e.r;have r:=e.M;have u:=e.I;simp only at D E r u m T;obtain⟨F,rfl⟩:∃n:Nat,q=n:=⟨q.toNat,Z⟩;obtain⟨G,rfl⟩:∃n:Nat,a=n:=⟨a.toNat,by have:=r.1;omega⟩;exact anL x y g k F G o p Z (by have:=r.2;omega) (by simp at u;omega) m B T
def pK(w:Í):Prop:=w.cell? ⟨4,15,Á⟩=Â (Å ū 4)
def pK.r(h:pK w)(k:eZ e9 w u):pK u:=k.r h id
def anN(c:pK w):Ò À 207 #[Å ã 16] w λe a=>e=Ç (Å É 4)/\a=w:=by
 unfold pK at c;have b:ã.wrap (bits BinOp.and ã 16 (ã.wrap<|-16)*285870213051353865)/288230376151711744=15:=A
 go_enter Tryz.func207,Tryz.ntmps207;go_wp2;go_ret;exact⟨U,U⟩
def tz(c:pK w):Ò À 201 #[Å ã 16] w λe a=>e=Ç (Å É 4)/\a=w:=by go_enter Tryz.func201,Tryz.ntmps201;go_wp2_with (go_at_call 207;refine(anN c).mono ?_;rintro e a ⟨rfl,b⟩;subst a);go_ret;exact⟨U,U⟩
def anO:Ò À 200 #[Å É 16] w λe a=>e=Ç (õ Î)/\a=w:=by
 have b:bits BinOp.and É 16 15=0:=A
 go_enter Tryz.func200,Tryz.ntmps200;go_wp2;go_ret;simp_all
def oQ(d:Nat):UInt8:=if h:d<36 then(⟨#[48,49,50,51,52,53,54,55,56,57,97,98,99,100,101,102,103,104,105,106,107,108,109,110,111,112,113,114,115,116,117,118,119,120,121,122]⟩:ByteArray)[d]'h else 0
def tY:Nat->Nat->List UInt8->List UInt8
 |0,_,acc=>acc
 |k+1,n,acc=>if n<16 then oQ n::acc else tY k (n/16) (oQ (n%16)::acc)
def G_:∀k n a,(tY k n a).length<=k+a.length
 |0,_,a=>by simp[tY]
 |k+1,n,a=>by
  unfold tY;split
  .simp;omega
  .have:=G_ k (n/16)<|oQ (n%16)::a;simp at this;omega
noncomputable def Lm:Τ:=(Tryz.f190.body.bind kr).getD ai
def Eb(a:Nat)(n i:Int)(u:Nat->Ñ):Ĉ:=⟨#[u 0,Å ã n,Å É 16,õ Ë,õ Ë,u 5,u 6,u 7,u 8,u 9,Æ Á 0 0,u 11,Ã<|Â ⟨a,0,Á⟩,Å É i,Å ã 4,Å ã 16,Å ã 15,u 17,u 18,u 19,u 20,u 21,u 22,u 23,u 24,u 25,u 26,u 27,u 28,u 29,u 30,u 31,u 32,u 33,u 34,u 35,u 36,u 37,u 38,u 39,u 40,u 41,u 42,u 43,u 44,u 45,u 46,u 47,u 48,u 49,u 50,u 51,u 52,u 53,u 54,u 55,u 56,u 57,u 58,u 59,u 60,u 61,u 62,u 63,u 64,u 65,u 66,u 67,u 68,u 69,u 70,u 71,u 72,u 73,u 74,u 75,u 76,u 77,u 78,u 79,u 80,u 81,u 82,u 83,u 84,u 85,u 86,u 87,u 88,u 89,u 90,u 91,u 92,u 93,u 94,u 95,u 96,u 97,u 98,u 99,u 100,u 101],[]⟩
def Ec(b:Nat)(n i:Int)(a:Ĉ):Prop:=∃u,a=Eb b n i u
def zc(i:Nat)(a:List UInt8):List Ñ:=ą i (Å ū 0)++Ö a
def H_(i:Nat)(a:List UInt8):(zc i a).length=i+a.length:=by simp[zc,Ö]
theorem I_(i:Nat)(a:List UInt8)(c:UInt8):(zc (i+1) a).set i (Å ū c.toNat)=zc i (c::a):=by unfold zc;rw[List.replicate_succ',ő,Ĵ _ _ fh];simp[Ö]
section
variable{X:Ĉ->Í->Prop}
def anP(u:Nat->Ñ)(n b:Nat)(d:n<16)(c:∀a,Ec i n b a->X a w): à À Lm (Exit.then K<|QE 0 X) (Eb i n b u) w:=by
 unfold Eb;conv=>arg 2;whnf
 go_wp2_with fail
 exact⟨U,c _ (gl _)⟩
def anQ(u:Nat->Ñ)(n b:Nat)(g:16<=n)(h:n<18446744073709551616)(j:b<65)(v:Ñ)(c:w.cell? ⟨i,b,Á⟩=Â v)(k:w.frozen? ⟨i,b,Á⟩=Ë) (e:∀a,Ec i ((n/16:Nat):Int) b a->K a (w.setCell ⟨i,b,Á⟩<|Å ū (oQ<|n%16).toNat)): à À Lm (Exit.then K<|QE 0 X) (Eb i n ((b+1:Nat):Int) u) w:=by
 unfold Eb;conv=>arg 2;whnf
 have l:bits BinOp.and ã (n:Int) 15=((n%16:Nat):Int):=by have:=(bits_nat ã 64 A (λn f H=>by rw[Ć];omega) n 15 Z A).1;rwa[show(15:Nat)=2^4-1 from rfl,Nat.and_two_pow_sub_one_eq_mod]at this
 have f:n%16<36:=Z
 have m:(⟨#[48,49,50,51,52,53,54,55,56,57,97,98,99,100,101,102,103,104,105,106,107,108,109,110,111,112,113,114,115,116,117,118,119,120,121,122]⟩:ByteArray)[n%16]'f=oQ (n%16):=by unfold oQ;rw[dif_pos f]
 have H:=e8 e;clear e;generalize o:n%16=d at*;go_wp2_with fail;exact H.out _ (gl _)
def XI(i:Nat)(u:Í)(d:List UInt8)(a:Ĉ)(w:Í):Prop:=
 ∃(n b:Nat) (c:List UInt8),Ec i n b a/\50<=b/\b+c.length=65/\n<16^(b-49)/\n<18446744073709551616/\eZ (λk=>k=i) u w/\fe i (zc b c) 292 w/\tY (b-49) n c=d
def XE(i:Nat)(u:Í)(d:List UInt8)(a:Ĉ)(w:Í):Prop:=
 ∃(n b:Nat) (c:List UInt8),Ec i n b a/\n<16/\50<=b/\b+c.length=65/\eZ (λk=>k=i) u w/\fe i (zc b c) 292 w/\oQ n::c=d
def Ln(a:Ĉ)(_:Í):Nat:=match a.tmps.getD 1 ĸ with
 |Å _ i=>i.toNat
 |_=>0
def I'(b:Ec i n j y):Ln y w=n:=by obtain⟨u,rfl⟩:=b;show(n:Int).toNat=_;simp
theorem anR{h:List UInt8}(a:Ĉ)(w:Í)(o:XI i u h a w): à À Lm (Exit.then (λb c=>XI i u h b c/\Ln b c<Ln a w)<|QE 0<|XE i u h) a w:=by
 let⟨n,b,f,l,p,r,s,t,m,e,d⟩:=o;rw[I' l];obtain⟨c,rfl⟩:=l;obtain⟨j,rfl⟩:∃j,b=j+1:=⟨b-1,Z⟩;have x:j+1-49=(j-49)+1:=Z
 rw[x]at d s;unfold tY at d;by_cases g:n<16
 .rw[if_pos g]at d;exact anP c n (j+1) g λa q=>⟨n,j+1,f,q,g,p,r,m,e,d⟩
 .rw[if_neg g]at d;have y:50<=j:=by
   grind
  have C:(zc (j+1) f).length=65:=by rw[H_];omega
  obtain⟨v,z⟩:∃v,(zc (j+1) f)[j]?=Â v:=⟨_,Ó Z⟩;have B:n/16<16^(j-49):=by grind
  refine anQ c n j Z t Z v (e.r j v z) (e.C j) λa q=>⟨⟨n/16,j,oQ (n%16)::f,q,y,by simp;omega,B,Z,m.fc (eZ.I (X:=λk=>k=i) U _<|Ï e.G),?_,d⟩,by rw[I' q];omega⟩;have:=e.fX j<|Å ū (oQ<|n%16).toNat;grind [I_]
end
def anS:û=(zc 65 []).toArray:=fl
def mT(n:Nat):ByteArray:=⟨(tY 16 n []).toArray⟩
theorem anT(n:Nat)(l:n<18446744073709551616)(o:pK w):Ò À 190 #[Æ Á 0 0,Å ã n,Å É 16,õ Ë,õ Ë] w λe p=>e=Ç (ë #[Æ Á 0 0,Ä<|mT n])/\eZ e9 w p:=by
 have L:∀a,Ec w.heap.size n (65:Nat) a->à À (ń Lm) (QE 0<|XE w.heap.size (w.alloc<|Û û 292)<|tY 16 n []) a (w.alloc<|Û û 292):=λa r=>
  Γ (XI w.heap.size (w.alloc<|Û û 292)<|tY 16 n []) Ln ⟨n,65,[],r,Z,U,by show n<16^16;omega,l,eZ.fQ _ _,by rw[anS];exact fe.N w (zc 65 []) 292,U⟩ anR
 have H:=e8<|Ê o L;unfold mT;generalize tY 16 n []=res at*;go_enter Tryz.func190,Tryz.ntmps190;go_wp2_with (first
  |(go_at_call 200;refine anO.mono ?_;rintro e b ⟨rfl,c⟩;subst b)
  |(go_at_call 201;refine(tz (H.out.1.r kp)).mono ?_;rintro e b ⟨rfl,c⟩;subst b))
 refine İ (Q:=QE 0<|XE w.heap.size (w.alloc<|Û û 292) res) ?_ (H.out.2 _ (gl _));rintro(_|_|_|_|_|_) a v hq;all_goals first|exact absurd hq id|skip
 obtain⟨rfl,m,i,c,s,E,F,G,x,b,d⟩:=hq;obtain⟨u,rfl⟩:=s;unfold Eb;obtain⟨j,rfl⟩:∃j,i=j+1:=⟨i-1,Z⟩;have I:(zc (j+1) c).length=65:=by rw[H_];omega
 obtain⟨z,y⟩:∃z,(zc (j+1) c)[j]?=Â z:=⟨_,Ó Z⟩;have J:=b.r j z y;have K:=b.C j;have M:(0:Int)<=(j:Int):=Z
 have N:(j:Int)<65:=Z
 have O:(j:Int)<=65:=Z
 have S:(0:Int)<=(m:Int):=Z
 have T:(m:Int)<36:=Z
 have f:m<36:=Z
 have V:(⟨#[48,49,50,51,52,53,54,55,56,57,97,98,99,100,101,102,103,104,105,106,107,108,109,110,111,112,113,114,115,116,117,118,119,120,121,122]⟩:ByteArray)[m]'f=oQ m:=by unfold oQ;rw[dif_pos f]
 have B:=(eZ.gC e9 w û 292).C x λi C q=>by omega
 have g:=b.fX j<|Å ū (oQ m).toNat;rw[I_,d]at g;have D:eZ e9 w (v.setCell ⟨w.heap.size,j,Á⟩<|Å ū (oQ m).toNat):=B.C (eZ.I (X:=λk=>k=w.heap.size) U _<|Ï b.G) λi C q=>by omega
 have W:res.length=65-j:=by rw[<-d];simp;omega
 have Y:(convert 107 9<|Æ (Â ⟨w.heap.size,j,Á⟩) (65-j)<|65-j).run À (v.setCell ⟨w.heap.size,j,Á⟩<|Å ū (oQ m).toNat)=.ok (Ä ⟨res.toArray⟩) (v.setCell ⟨w.heap.size,j,Á⟩<|Å ū (oQ m).toNat):=by have h:=run_convert_bytes_back (P:=À) (v.setCell ⟨w.heap.size,j,Á⟩<|Å ū (oQ m).toNat) 107 9 5 ⟨w.heap.size,j,Á⟩ (65-j) res fl fl fl (λt k=>by rw[Addr.add_mid];apply g.r (j+t) _;unfold zc;rw[ġ fh];simp[Ö,Ó k]);grind
 have k:=e8 D;go_wp2;go_ret2;simp_all
def anU(n:Nat)(b:n<18446744073709551616)(c:pK w):Ò À 172 #[Å ã n,Å É 16] w λe a=>e=Ç (Ä<|mT n)/\eZ e9 w a:=by go_enter Tryz.func172,Tryz.ntmps172;go_wp2_with (go_at_call 190;refine(anT n b c).mono ?_;rintro e a ⟨rfl,d⟩);go_ret;exact⟨U,d⟩
def anV(n:Nat)(b:n<18446744073709551616)(c:pK w):Ò À 157 #[Å ã n,Å É 16] w λe a=>e=Ç (Ä<|mT n)/\eZ e9 w a:=by go_enter Tryz.func157,Tryz.ntmps157;go_wp2_with (go_at_call 172;refine(anU n b c).mono ?_;rintro e a ⟨rfl,d⟩);go_ret;exact⟨U,d⟩
def anW(s:ByteArray)(w:Í)(h:s.data.toList.head?=Â 48):Ò À 175 #[Ä s,Ä ⟨#[48]⟩] w λe b=>e=Ç (õ Î)/\b=w:=by
 have H:=Tryz.strings_HasPrefix s ⟨#[48]⟩ w;have e:ź s.data.toList (Ű ⟨#[48]⟩).toList=Î:=by
  generalize s.data.toList=l at h;cases l with
  |nil=>cases h
  |cons a r=>cases h;rfl
 rwa[e]at H
def anX(s:ByteArray)(w:Í)(h:¬s.data.toList.head?=Â 48):Ò À 175 #[Ä s,Ä ⟨#[48]⟩] w λe b=>e=Ç (õ Ë)/\b=w:=by
 have H:=Tryz.strings_HasPrefix s ⟨#[48]⟩ w;have e:ź s.data.toList (Ű ⟨#[48]⟩).toList=Ë:=by
  generalize s.data.toList=l at h;cases l with
  |nil=>rfl
  |cons a r=>
   have c:¬a=48:=λq=>h (by rw[q];rfl);show((48:UInt8)==a&&List.isPrefixOf [] r)=Ë;have:((48:UInt8)==a)=Ë:=beq_eq_false_iff_ne.2 λq=>c q.symm;rw[this];rfl
 rwa[e]at H
def yZ(k:Nat):ByteArray:=σ ⟨#[48,48,48,48,48,48,48,48,48,48,48,48,48,48,48,48,48,48,48,48,48,48,48,48,48,48,48,48,48,48,48,48,48,48,48,48,48,48,48,48,48,48,48,48,48,48,48,48,48,48,48,48,48,48,48,48,48,48,48,48,48,48,48,48]⟩ 0 k
def anY(k:Nat)(d:2<=k)(f:k<=64):Ò À 160 #[Ä ⟨#[48]⟩,Å É k] w λe a=>e=Ç (Ä<|yZ k)/\a=w:=by
 have g:((k:Int)==0)=Ë:=by simp;omega
 have h:((k:Int)==1)=Ë:=by simp;omega
 have i:¬(k:Int)<0:=Z
 have j:(0:Int)<=(k:Int):=Z
 have l:(k:Int)<=64:=Z
 have m:ã.wrap (k:Int)=(k:Int):=by rw[Ć];omega
 have n:É.wrap (k:Int)=(k:Int):=by rw[ŝ];omega
 have M:=Tryz.bits_Mul 1 k A Z w;rw[show 1*k/18446744073709551616=0 by omega,show 1*k%18446744073709551616=k by omega]at M;have c:=e8 M;go_enter Œ,Ŋ;go_wp2_with (first
  |(go_at_call 174;refine c.out.mono ?_;rintro e a ⟨rfl,b⟩;subst a)
  |(go_at_call 175;refine(anX _ _ A).mono ?_;rintro e a ⟨rfl,b⟩;subst a)
  |(go_at_call 175;refine(anW _ _ A).mono ?_;rintro e a ⟨rfl,b⟩;subst a))
 go_ret;exact⟨U,U⟩
def anZ:Ò À 160 #[Ä ⟨#[48]⟩,Å É 0] w λe a=>e=Ç (Ä ⟨#[]⟩)/\a=w:=by go_enter Œ,Ŋ;go_wp2;go_ret;exact⟨U,U⟩
def an0:Ò À 160 #[Ä ⟨#[48]⟩,Å É 1] w λe a=>e=Ç (Ä ⟨#[48]⟩)/\a=w:=by go_enter Œ,Ŋ;go_wp2;go_ret;exact⟨U,U⟩
def an1(k:Nat)(a:k<=64):Ò À 160 #[Ä ⟨#[48]⟩,Å É k] w λe b=>e=Ç (Ä<|yZ k)/\b=w:=by
 match k with
 |0=>exact anZ
 |1=>exact an0
 |k+2=>exact anY (k+2) Z a
def Lp(n:Nat):ByteArray:=yZ (16-(mT n).size)++mT n
def J_(n:Nat):(mT n).size<=16:=by show(tY 16 n []).toArray.size<=16;have:=G_ 16 n [];simpa using this
def J'(k:Nat):(yZ k).size<=k:=by unfold yZ;rw[č];omega
def an2(n:Nat)(c:n<18446744073709551616)(d:pK w):Ò À 121 #[Å ã n] w λe a=>e=Ç (Ä<|Lp n)/\eZ e9 w a:=by
 have g:=J_ n;have h:=J'<|16-(mT n).size;have T:=anV n c d;have R:∀W:Í,Ò À 160 #[Ä ⟨#[48]⟩,Å É ((16-(mT n).size:Nat):Int)] W λe a=>e=Ç (Ä<|yZ<|16-(mT n).size)/\a=W:=λW=>an1 _ Z;have i:É.wrap ((16:Int)-((mT n).size:Int))=((16-(mT n).size:Nat):Int):=by rw[ŝ];omega
 have j:(16:Int)-((mT n).size:Int)=((16-(mT n).size:Nat):Int):=Z
 have l:¬9223372036854775807<(yZ<|16-(mT n).size).size+(mT n).size:=Z
 unfold Lp;have H:=e8<|Ê T R;generalize m:yZ (16-(mT n).size)=zs at*;generalize o:16-(mT n).size=k at*;generalize mT n=fs at*;go_enter Tryz.func121,Tryz.ntmps121;go_wp2_with (first
  |(go_at_call 157;refine H.out.1.mono ?_;rintro e p ⟨rfl,b⟩;have f:=e8 b;clear b)
  |(go_at_call 160;refine(H.out.2 _).mono ?_;rintro e b ⟨rfl,p⟩;subst b))
 go_ret;exact⟨U,f.out⟩
structure oR(r:Nat)(x y g k:Nat)(kind v v2:Int)(slot:Nat)(w:Í):Prop where
 I:w.cell? ⟨r,0,Á⟩=Â (Å É x)
 S:w.cell? ⟨r,1,Á⟩=Â (Å É y)
 a:w.cell? ⟨r,2,Á⟩=Â (Å É g)
 Y:w.cell? ⟨r,3,Á⟩=Â (Å É k)
 N:w.cell? ⟨r,4,Á⟩=Â (Å É kind)
 M:w.cell? ⟨r,5,Á⟩=Â (Å É v)
 c:w.cell? ⟨r,6,Á⟩=Â (Å É v2)
 b:w.cell? ⟨r,7,Á⟩=Â (Å É slot)
def gX.N(h:gX u v vX W)(k:eZ e9 w u):gX w v vX W:=by
 refine⟨⟨h.fi.1,?_⟩,k.fc h.r⟩;rcases h.fi.2 with q|⟨g,a,b,c,d,q⟩
 .exact È q
 .exact Ï ⟨g,a,b,c,Ì k.M d,q⟩
section
variable{cp r x y g slot:Nat}{v v2:Int}
def oR.C{w:Í}(h:oR r x y g k c v v2 slot w)(q:eZ e9 w u):oR r x y g k c v v2 slot u:= ⟨q.r h.I id,q.r h.S id,q.r h.a id,q.r h.Y id,q.r h.N id,q.r h.M id,q.r h.c id,q.r h.b id⟩
def an3(F:Ò À 113 #[Æ O n cp,Å É v] w λe b=>e=Ç (jK<|Â i)/\eZ e9 w b)(h:oR r x y g k 2 v v2 slot w)(p:x<8)(q:slot<16)(z:Nat)(j:w.cell? ⟨i,x*18+2+slot,Á⟩=Â (Å ã z)) (C:∀W,eZ e9 w W->Ò À 118 #[Å ã z] W λe b=>e=Ç (Ä B)/\eZ e9 W b): Ò À 67 #[Æ O n cp,Ã<|Â ⟨r,0,Á⟩] w λe b=>e=Ç (Ä B)/\eZ e9 w b:=by
 have s:=h.M;have m:=h.N;have t:(0:Int)<=(x:Int):=Z
 have u:(x:Int)<8:=Z
 have D:(0:Int)<=(slot:Int):=Z
 have E:(slot:Int)<16:=Z
 have H:=e8<|Ê F C;have d:=e8 h;clear F C h;go_enter ó,í;go_wp2_with (go_at_call 113;apply H.out.1.mono;rintro e f ⟨rfl,c⟩;dsimp only[jK,ð];have l:=c.r m id;have a:=e8 c;clear c);refine lP (λb=>b.cell? ⟨r,0,Á⟩=Â (Å É x)/\b.cell? ⟨r,7,Á⟩=Â (Å É slot)/\b.cell? ⟨i,x*18+2+slot,Á⟩=Â (Å ã z)) [] fl ?_;have o:=e8<|Ê ((d.out.C a.out).C<|eZ.fN e9 _).I<|Ê ((d.out.C a.out).C<|eZ.fN e9 _).b<|(a.out.fc<|eZ.fN _ _).r j id;iterate 17 apply tk o.out
 apply gu 17;intro K f;go_simp;go_at_call 118;refine(H.out.2 _<|a.out.fc<|eZ.fN _ _).mono ?_;rintro e G ⟨rfl,l⟩;have c:=e8 l;clear l;dsimp only;apply f.out _ _ λ_=>⟨(d.out.C<|(a.out.fc<|eZ.fN _ _).fc c.out).I,(d.out.C<|(a.out.fc<|eZ.fN _ _).fc c.out).b,(((a.out.fc<|eZ.fN _ _).fc c.out).r j id)⟩;clear f K;apply gu 18;intro K f;go_simp;apply f.out _ _ λ_=>⟨(d.out.C<|(a.out.fc<|eZ.fN _ _).fc c.out).I,(d.out.C<|(a.out.fc<|eZ.fN _ _).fc c.out).b,(((a.out.fc<|eZ.fN _ _).fc c.out).r j id)⟩;clear f K;try simp only[Act.put,é,ý,þ]
 refine lA fl ?_ _;go_wp2_with fail;go_ret;exact⟨U,(a.out.fc<|eZ.fN _ _).fc c.out⟩
def an4(F:Ò À 113 #[Æ O n cp,Å É v] w λe a=>e=Ç (jK<|Â i)/\eZ e9 w a)(f:oR r x y g k 3 v v2 slot w)(p:x<8)(z:Nat)(h:w.cell? ⟨i,x*18,Á⟩=Â (Å ã z)) (C:∀W,eZ e9 w W->Ò À 118 #[Å ã z] W λe a=>e=Ç (Ä B)/\eZ e9 W a): Ò À 67 #[Æ O n cp,Ã<|Â ⟨r,0,Á⟩] w λe a=>e=Ç (Ä B)/\eZ e9 w a:=by
 have q:=f.M;have m:=f.N;have s:(0:Int)<=(x:Int):=Z
 have t:(x:Int)<8:=Z
 have H:=e8<|Ê F C;have j:=e8 f;clear F C f;go_enter ó,í;go_wp2_with (go_at_call 113;apply H.out.1.mono;rintro e d ⟨rfl,c⟩;dsimp only[jK,ð];have l:=c.r m id;have b:=e8 c;clear c);refine lP (λa=>a.cell? ⟨r,0,Á⟩=Â (Å É x)/\a.cell? ⟨i,x*18,Á⟩=Â (Å ã z)) [] fl ?_;have o:=e8<|Ê ((j.out.C b.out).C<|eZ.fN e9 _).I<|(b.out.fc<|eZ.fN _ _).r h id;iterate 12 apply tk o.out
 apply gu 12;intro K c;go_simp;go_at_call 118;refine(H.out.2 _<|b.out.fc<|eZ.fN _ _).mono ?_;rintro e u ⟨rfl,l⟩;have d:=e8 l;clear l;dsimp only;apply c.out _ _ λ_=>⟨(j.out.C<|(b.out.fc<|eZ.fN _ _).fc d.out).I,(((b.out.fc<|eZ.fN _ _).fc d.out).r h id)⟩;clear c K;apply gu 13;intro K c;go_simp;apply c.out _ _ λ_=>⟨(j.out.C<|(b.out.fc<|eZ.fN _ _).fc d.out).I,(((b.out.fc<|eZ.fN _ _).fc d.out).r h id)⟩;clear c K;try simp only[Act.put,é,ý,þ]
 refine lA fl ?_ _;go_wp2_with fail;go_ret;exact⟨U,(b.out.fc<|eZ.fN _ _).fc d.out⟩
def an5(F:Ò À 113 #[Æ O n cp,Å É v] w λe c=>e=Ç (jK<|Â i)/\eZ e9 w c)(h:oR r x y g k 4 v v2 slot w)(o:g<=400)(p:k<18446744073709551616) (C:∀W,eZ e9 w W->Ò À 119 #[Ã<|Â ⟨i,0,Á⟩,Å É x,Å É y,Å ã g,Å ã k] W λe c=>e=Ç (Ä B)/\eZ e9 W c): Ò À 67 #[Æ O n cp,Ã<|Â ⟨r,0,Á⟩] w λe c=>e=Ç (Ä B)/\eZ e9 w c:=by
 have q:=h.M;have l:=h.N;have s:ã.wrap (k:Int)=(k:Int):=by rw[Ć];omega
 have t:ã.wrap (g:Int)=(g:Int):=by rw[Ć];omega
 have u:¬(400:Int)<(g:Int):=Z
 have z:(g:Int)<=400:=Z
 have H:=e8<|Ê F C;have b:=e8 h;clear F C h;go_enter ó,í;go_wp2_with (go_at_call 113;apply H.out.1.mono;rintro e f ⟨rfl,d⟩;dsimp only[jK,ð];have j:=d.r l id;have m:=d.r b.out.a id;have a:=e8 d;clear d);refine lP (λc=>c.cell? ⟨r,0,Á⟩=Â (Å É x)/\c.cell? ⟨r,1,Á⟩=Â (Å É y)/\c.cell? ⟨r,2,Á⟩=Â (Å É g)/\c.cell? ⟨r,3,Á⟩=Â (Å É k)) [] fl ?_;have m:=e8<|Ê ((b.out.C a.out).C<|eZ.fN e9 _).I<|Ê ((b.out.C a.out).C<|eZ.fN e9 _).S<|Ê ((b.out.C a.out).C<|eZ.fN e9 _).a ((b.out.C a.out).C<|eZ.fN e9 _).Y;iterate 23 apply tk m.out
 apply gu 23;intro K f;go_simp;go_at_call 119;refine(H.out.2 _<|a.out.fc<|eZ.fN _ _).mono ?_;rintro e D ⟨rfl,j⟩;have d:=e8 j;clear j;dsimp only;apply f.out _ _ λ_=>⟨(b.out.C<|(a.out.fc<|eZ.fN _ _).fc d.out).I,(b.out.C<|(a.out.fc<|eZ.fN _ _).fc d.out).S,(b.out.C<|(a.out.fc<|eZ.fN _ _).fc d.out).a,(b.out.C<|(a.out.fc<|eZ.fN _ _).fc d.out).Y⟩;clear f K;apply gu 24;intro K f;go_simp;apply f.out _ _ λ_=>⟨(b.out.C<|(a.out.fc<|eZ.fN _ _).fc d.out).I,(b.out.C<|(a.out.fc<|eZ.fN _ _).fc d.out).S,(b.out.C<|(a.out.fc<|eZ.fN _ _).fc d.out).a,(b.out.C<|(a.out.fc<|eZ.fN _ _).fc d.out).Y⟩;clear f K;try simp only[Act.put,é,ý,þ]
 refine lA fl ?_ _;go_wp2_with fail;go_ret;exact⟨U,(a.out.fc<|eZ.fN _ _).fc d.out⟩
def an6(F:Ò À 113 #[Æ O n cp,Å É v] w λe b=>e=Ç (jK<|Â i)/\eZ e9 w b)(h:oR r x y g k 5 v v2 slot w)(o:k<18446744073709551616) (C:∀W,eZ e9 w W->Ò À 120 #[Ã<|Â ⟨i,0,Á⟩,Å É x,Å É y,Å ã k] W λe b=>e=Ç (Ä B)/\eZ e9 W b): Ò À 67 #[Æ O n cp,Ã<|Â ⟨r,0,Á⟩] w λe b=>e=Ç (Ä B)/\eZ e9 w b:=by
 have p:=h.M;have l:=h.N;have q:ã.wrap (k:Int)=(k:Int):=by rw[Ć];omega
 have H:=e8<|Ê F C;have c:=e8 h;clear F C h;go_enter ó,í;go_wp2_with (go_at_call 113;apply H.out.1.mono;rintro e f ⟨rfl,d⟩;dsimp only[jK,ð];have j:=d.r l id;have a:=e8 d;clear d);refine lP (λb=>b.cell? ⟨r,0,Á⟩=Â (Å É x)/\b.cell? ⟨r,1,Á⟩=Â (Å É y)/\b.cell? ⟨r,3,Á⟩=Â (Å É k)) [] fl ?_;have m:=e8<|Ê ((c.out.C a.out).C<|eZ.fN e9 _).I<|Ê ((c.out.C a.out).C<|eZ.fN e9 _).S ((c.out.C a.out).C<|eZ.fN e9 _).Y;iterate 17 apply tk m.out
 apply gu 17;intro K f;go_simp;go_at_call 120;refine(H.out.2 _<|a.out.fc<|eZ.fN _ _).mono ?_;rintro e s ⟨rfl,j⟩;have d:=e8 j;clear j;dsimp only;apply f.out _ _ λ_=>⟨(c.out.C<|(a.out.fc<|eZ.fN _ _).fc d.out).I,(c.out.C<|(a.out.fc<|eZ.fN _ _).fc d.out).S,(c.out.C<|(a.out.fc<|eZ.fN _ _).fc d.out).Y⟩;clear f K;apply gu 18;intro K f;go_simp;apply f.out _ _ λ_=>⟨(c.out.C<|(a.out.fc<|eZ.fN _ _).fc d.out).I,(c.out.C<|(a.out.fc<|eZ.fN _ _).fc d.out).S,(c.out.C<|(a.out.fc<|eZ.fN _ _).fc d.out).Y⟩;clear f K;try simp only[Act.put,é,ý,þ]
 refine lA fl ?_ _;go_wp2_with fail;go_ret;exact⟨U,(a.out.fc<|eZ.fN _ _).fc d.out⟩
def an7(F:Ò À 113 #[Æ O n cp,Å É v] w λe a=>e=Ç (jK<|Â i)/\eZ e9 w a)(b:oR r x y g k 6 v v2 slot w)(z:Nat)(C:∀W,eZ e9 w W->Ò À 122 #[Ã<|Â ⟨i,0,Á⟩] W λe a=>e=Ç (Å ã z)/\eZ e9 W a)(d:∀W,eZ e9 w W->Ò À 121 #[Å ã z] W λe a=>e=Ç (Ä B)/\eZ e9 W a): Ò À 67 #[Æ O n cp,Ã<|Â ⟨r,0,Á⟩] w λe a=>e=Ç (Ä B)/\eZ e9 w a:=by
 have m:=b.M;have j:=b.N;have l:=e8 d;clear d;have H:=e8<|Ê F C;have o:=e8 b;clear F C b;go_enter ó,í;go_wp2_with (first
  |(go_at_call 113;refine H.out.1.mono ?_;rintro e h ⟨rfl,c⟩;dsimp only[jK,ð];have p:=c.r j id;have f:=e8 c;clear c)
  |(go_at_call 122;refine(H.out.2 _ f.out).mono ?_;rintro e p ⟨rfl,c⟩;have h:=e8<|f.out.fc c;clear c)
  |(go_at_call 121;refine(l.out _ h.out).mono ?_;rintro e p ⟨rfl,c⟩;have f:=e8 (h.out.fc c);clear c))
 go_ret;exact⟨U,f.out⟩
def an8(F:Ò À 113 #[Æ O n cp,Å É v] w λe b=>e=Ç (jK<|Â i)/\eZ e9 w b)(d:oR r x y g k 7 v v2 slot w)(l:Option ù)(o p:Nat)(u:w.cell? ⟨i,144,Á⟩=Â (Æ l o p))(f:List ByteArray)(C:∀W,eZ e9 w W->Ò À 124 #[Æ l o p] W λe b=>∃j,e=Ç j/\gX W j f b)(q:∀W a m c,gX w (Æ a m c) f W->Ò À 123 #[Æ a m c] W λe b=>e=Ç (Ä B)/\eZ e9 W b): Ò À 67 #[Æ O n cp,Ã<|Â ⟨r,0,Á⟩] w λe b=>e=Ç (Ä B)/\eZ e9 w b:=by
 have J:=d.M;have z:=d.N;have D:=e8 q;clear q;have H:=e8<|Ê F C;have K:=e8 d;clear F C d;go_enter ó,í;go_wp2_with (first
  |(go_at_call 113;refine H.out.1.mono ?_;rintro e t ⟨rfl,h⟩;dsimp only[jK,ð];have E:=h.r z id;have G:=h.r u id;have s:=e8 h;clear h)
  |(go_at_call 124;refine(H.out.2 _ s.out).mono ?_;rintro e E ⟨j,rfl,h⟩;obtain⟨G,I,rfl⟩:=jy h.fi;generalize f.length=tn at h|-;have t:=e8 (show gX w (Æ G tn I) f E from h.N s.out);clear h)
  |(go_at_call 123;refine(D.out _ _ _ _ t.out).mono ?_;rintro e E ⟨rfl,h⟩;have s:=e8 (t.out.r.fc h);clear h))
 go_ret;exact⟨U,s.out⟩
def an9(F:Ò À 113 #[Æ O n cp,Å É v] w λe b=>e=Ç (jK<|Â i)/\eZ e9 w b)(d:oR r x y g k 8 v v2 slot w)(l:Option ù)(o p:Nat)(u:w.cell? ⟨i,146,Á⟩=Â (Æ l o p))(f:List ByteArray)(C:∀W,eZ e9 w W->Ò À 125 #[Æ l o p] W λe b=>∃j,e=Ç j/\gX W j f b)(q:∀W a m c,gX w (Æ a m c) f W->Ò À 123 #[Æ a m c] W λe b=>e=Ç (Ä B)/\eZ e9 W b): Ò À 67 #[Æ O n cp,Ã<|Â ⟨r,0,Á⟩] w λe b=>e=Ç (Ä B)/\eZ e9 w b:=by
 have J:=d.M;have z:=d.N;have D:=e8 q;clear q;have H:=e8<|Ê F C;have K:=e8 d;clear F C d;go_enter ó,í;go_wp2_with (first
  |(go_at_call 113;refine H.out.1.mono ?_;rintro e t ⟨rfl,h⟩;dsimp only[jK,ð];have E:=h.r z id;have G:=h.r u id;have s:=e8 h;clear h)
  |(go_at_call 125;refine(H.out.2 _ s.out).mono ?_;rintro e E ⟨j,rfl,h⟩;obtain⟨G,I,rfl⟩:=jy h.fi;generalize f.length=tn at h|-;have t:=e8 (show gX w (Æ G tn I) f E from h.N s.out);clear h)
  |(go_at_call 123;refine(D.out _ _ _ _ t.out).mono ?_;rintro e E ⟨rfl,h⟩;have s:=e8 (t.out.r.fc h);clear h))
 go_ret;exact⟨U,s.out⟩
def aoa(F:Ò À 113 #[Æ O n cp,Å É v] w λe c=>e=Ç (jK<|Â i)/\eZ e9 w c)(a:oR r x y g k 4 v v2 slot w)(j:400<g)(C:B=oC 6): Ò À 67 #[Æ O n cp,Ã<|Â ⟨r,0,Á⟩] w λe c=>e=Ç (Ä B)/\eZ e9 w c:=by
 have l:=a.M;have d:=a.N;have m:(400:Int)<(g:Int):=Z
 have H:=e8<|Ê F C;have f:=e8 a;clear F C a;go_enter ó,í;go_wp2_with (first
  |(go_at_call 113;refine H.out.1.mono ?_;rintro e o ⟨rfl,b⟩;dsimp only[jK,ð];have p:=b.r d id;have q:=b.r f.out.a id;have h:=e8 b;clear b)
  |(go_at_call 114;refine(DC 6 A _).mono ?_;rintro e b ⟨rfl,o⟩;subst b))
 go_ret;exact⟨by rw[H.out.2];rfl,h.out⟩
def aob(F:Ò À 113 #[Æ O n cp,Å É v] w λe a=>e=Ç (jK<|Â i)/\eZ e9 w a)(b:oR r x y g k 9 v v2 slot w)(C:B=oC 3)(d:∀W,eZ e9 w W->Ò À 113 #[Æ O n cp,Å É v2] W λe a=>e=Ç (jK Á)/\eZ e9 W a): Ò À 67 #[Æ O n cp,Ã<|Â ⟨r,0,Á⟩] w λe a=>e=Ç (Ä B)/\eZ e9 w a:=by
 have p:=b.M;have j:=b.N;have l:=e8 d;clear d;have H:=e8<|Ê F C;have m:=e8 b;clear F C b;go_enter ó,í;go_wp2_with (first
  |(go_at_call 113;with_reducible refine H.out.1.mono ?_;rintro e h ⟨rfl,c⟩;dsimp only[jK,ð];have o:=c.r j id;have q:=c.r m.out.c id;have f:=e8 c;clear c)
  |(go_at_call 113;refine(l.out _ f.out).mono ?_;rintro e c ⟨rfl,h⟩;dsimp only[jK,ð];have o:=e8<|f.out.fc h;clear h)
  |(go_at_call 114;refine(DC 3 A _).mono ?_;rintro e c ⟨rfl,h⟩;subst c))
 go_ret;exact⟨by rw[H.out.2];rfl,o.out⟩
def aoc(F:Ò À 113 #[Æ O n cp,Å É v] w λe b=>e=Ç (jK<|Â i)/\eZ e9 w b)(f:oR r x y g k 9 v v2 slot w)(C:True)(p:∀W,eZ e9 w W->Ò À 113 #[Æ O n cp,Å É v2] W λe b=>e=Ç (jK<|Â j)/\eZ e9 W b)(l:List ByteArray)(q:∀W,eZ e9 w W->Ò À 126 #[Ã<|Â ⟨i,0,Á⟩,Ã<|Â ⟨j,0,Á⟩] W λe b=>∃o,e=Ç o/\gX W o l b)(s:∀W a m c,gX w (Æ a m c) l W->Ò À 123 #[Æ a m c] W λe b=>e=Ç (Ä B)/\eZ e9 W b): Ò À 67 #[Æ O n cp,Ã<|Â ⟨r,0,Á⟩] w λe b=>e=Ç (Ä B)/\eZ e9 w b:=by
 have L:=f.M;have D:=f.N;have E:=e8 p;have t:=e8<|Ê q s;clear p q s;have H:=e8<|Ê F C;have G:=e8 f;clear F C f;go_enter ó,í;go_wp2_with (first
  |(go_at_call 113;with_reducible refine H.out.1.mono ?_;rintro e u ⟨rfl,d⟩;dsimp only[jK,ð];have z:=d.r D id;have I:=d.r G.out.c id;have h:=e8 d;clear d)
  |(go_at_call 113;refine(E.out _ h.out).mono ?_;rintro e z ⟨rfl,d⟩;dsimp only[jK,ð];have u:=e8 (h.out.fc d);clear d))
 apply lP (λb=>True/\True) [] fl;have I:=e8<|Ê trivial trivial;iterate 8 apply tk I.out
 apply gu 8;intro K d;go_simp;go_at_call 126;refine(t.out.1 _<|u.out.fc<|eZ.fN _ _).mono ?_;rintro e M ⟨o,rfl,h⟩;obtain⟨N,P,rfl⟩:=jy h.fi;generalize l.length=tn at h|-;have z:=e8<|h.N<|u.out.fc<|eZ.fN _ _;clear h;dsimp only;apply d.out _ _ λ_=>⟨trivial,trivial⟩;clear d K;apply gu 9;intro K d;go_simp;go_at_call 123;refine(t.out.2 _ _ _ _ z.out).mono ?_;rintro e Q ⟨rfl,u⟩;have J:=e8<|z.out.r.fc u;clear u;dsimp only;apply d.out _ _ λ_=>⟨trivial,trivial⟩;clear d K;apply gu 10;intro K d;go_simp;apply d.out _ _ λ_=>⟨trivial,trivial⟩;clear d K;try simp only[Act.put,é,ý,þ]
 refine lA fl ?_ _;go_wp2_with fail;go_ret;exact⟨U,J.out⟩
def aod(F:Ò À 113 #[Æ O n cp,Å É v] w λe a=>e=Ç (jK Á)/\eZ e9 w a)(b:oR r x y g k h v v2 slot w): Ò À 67 #[Æ O n cp,Ã<|Â ⟨r,0,Á⟩] w λe a=>e=Ç (Ä<|oC 3)/\eZ e9 w a:=by
 have f:=b.M;have H:=e8 F;clear F b;go_enter ó,í;go_wp2_with (first
  |(go_at_call 113;refine H.out.mono ?_;rintro e i ⟨rfl,c⟩;dsimp only[jK,ð];have d:=e8 c;clear c)
  |(go_at_call 114;refine(DC 3 A _).mono ?_;rintro e c ⟨rfl,i⟩;subst c))
 go_ret;exact⟨U,d.out⟩
end
structure Qn where
 x:Nat
 y:Nat
 g:Nat
 k:Nat
 r:Int
 v:Int
 C:Int
 I:Nat
structure Qn.Ok(q:Qn):Prop where
 x:q.x<8
 y:q.y<8
 g:q.g<1000000
 k:q.k<18446744073709551616
 asu:2<=q.r
 asv:q.r<=9
 v:-1<=q.v
 v2:-1<=q.C
 asw:q.I<16
def Ed(a:List ByteArray):ByteArray:=if a=[]then⟨#[45]⟩else ot ⟨#[44]⟩ a
def Ee(a:List (Nat×fJ))(p:fJ)(q:Qn):ByteArray:=
 if q.r=2 then gH ((p.s q.x).C q.I).toNat
 else if q.r=3 then gH (p.s q.x).fp.toNat
 else if q.r=4 then if 400<q.g then oC 6 else SF (gd p.s [] q.x q.y q.g q.k)
 else if q.r=5 then sj p.s q.x q.y q.k 0 401
 else if q.r=6 then Lp (DX p.s)
 else if q.r=7 then Ed (p.r.map rh)
 else if q.r=8 then Ed (p.C.map D4)
 else match nR a q.C with
  |none=>oC 3
  |some b=>Ed<|qk p.s b.2.s 8
def xc(a:List (Nat×fJ))(q:Qn):ByteArray:=
 match nR a q.v with
 |none=>oC 3
 |some p=>Ee a p.2 q
def SG{M:Nat}(b:∀z∈vX,z.size<=M)(d:M<=100)(f:vX.length<=400000)(h:gX w (Æ O m i) vX W): Ò À 123 #[Æ O m i] W λe g=>e=Ç (Ä<|Ed vX)/\eZ e9 W g:=by obtain⟨e,g,j⟩:=h.I;have k:=Ea vX b;have:M*vX.length<=100*400000:=ű d f;exact anJ g Z j e Z
def aoe(s:St):DX s<18446744073709551616:=by unfold DX K1;exact Sb _ _<|d_ λi=>h_ _ _ _
theorem SH{b:ByteArray}(c:B.size<=1)(d:b.size<=1):(B++b).size<=2:=by grind
def K_(s t:St):∀z∈qk s t 8,z.size<=2:=λz a=>by
 unfold qk at a;obtain⟨i,_,h⟩:=Ş.1 a;unfold yW w7 at h;rcases â.1 h with h|h
 .rcases â.1 h with h|h
  .split at h
   .cases h
   .simp at h;subst h;exact SH (xa i)<|æ _
  .split at h
   .cases h
   .simp at h;subst h;exact SH (xa i)<|æ _
 .unfold qj at h;obtain⟨j,_,h⟩:=Ş.1 h;unfold BG at h;split at h
  .cases h
  .simp at h;subst h;exact SH (xa i)<|A_ j
section
variable{cp:Nat}{vs:List (Nat×fJ)}{q:Qn}
def aof(u:pJ O n vs w)(S:n<=1000)(T:0<n)(hvo:∀p∈vs,Sl p.2)(d:oR i q.x q.y q.g q.k q.r q.v q.C q.I w)(ok:q.Ok)(V:iF w)(o:lh w)(hd:pK w): Ò À 67 #[Æ O n cp,Ã<|Â ⟨i,0,Á⟩] w λe G=>e=Ç (Ä<|xc vs q)/\eZ e9 w G:=by
 have F:=K5 (cp:=cp) u S T q.v ok.v;unfold xc;cases B:nR vs q.v with
 |none=>
  rw[B]at F;exact aod F d
 |some p=>
  rw[B]at F;have h:=F;have X:=Hk B;have f:=u.M X;have j:=hvo p X;obtain⟨x,y,g,k,kind,v,C,Y⟩:=q;obtain⟨r,H,hg,I,tN,sY,hv,Lq,J⟩:=ok;simp only at r H hg I tN sY hv Lq J d h B|-;obtain⟨cb,_,cs⟩:=f.r.gN r;have Fv:fW (k:Int):=⟨Z,Z⟩;unfold Ee;simp only;split
  .rename_i e;subst e;have c:=cs Y J;have l:=f.C.C x Y;rw[<-ņ l.1]at c;exact an3 h d r J _ c λW b=>wZ _ (by have:=l.1;have:=l.2;omega) W<|o.r b
  .split
   .rename_i e;subst e;have l:=f.C.fp x;rw[<-ņ l.1]at cb;exact an4 h d r _ cb λW b=>wZ _ (by have:=l.1;have:=l.2;omega) W<|o.r b
   .split
    .rename_i e;subst e;split
     .rename_i hh;exact aoa h d hh U
     .exact an5 h d Z I λW b=>anM (f.r.r b id) f.C (V.r b id) (o.r b) x y g k r H Z Z Fv
    .split
     .rename_i e;subst e;exact an6 h d I λW b=>am0 (f.r.r b id) f.C (V.r b id) (o.r b) r H Fv
     .split
      .rename_i e;subst e;exact an7 h d _ (λW b=>amj (f.r.r b id) f.C) λW b=>an2 _ (aoe _)<|hd.r b
      .split
       .rename_i e;subst e;obtain⟨K,L,M,N⟩:=f.N;exact an8 h d K _ L M _ (λW b=>t_ U j.I j.C (o.r b)<|mS.C N b) λW a m c t=>SG (λz P=>by obtain⟨e,D,rfl⟩:=Ú.1 P;exact Ll (j.C e D).2) Z (by rw[ú];exact j.I) t
       .split
        .rename_i e;subst e;obtain⟨K,L,M,N⟩:=f.S;exact an9 h d K _ L M _ (λW b=>am7 U j.M j.r (o.r b)<|mS.C N b) λW a m c t=>SG (λz P=>by obtain⟨e,D,rfl⟩:=Ú.1 P;exact F_ (j.r e D).1 (j.r e D).2) Z (by rw[ú];have:=j.M;omega) t
        .have e:kind=9:=Z
         subst e;have E:∀W,eZ e9 w W->Ò À 113 #[Æ O n cp,Å É C] W λe G=>e=Ç (jK ((nR vs C).map (·.1)))/\eZ e9 W G:=λW b=>K5 (u.I b) S T C Lq;cases Q:nR vs C with
         |none=>
          rw[Q]at E;exact aob h d U E
         |some p2=>
          rw[Q]at E;exact aoc h d trivial E _ (λW b=>ank (f.r.r b id)<|(u.M<|Hk Q).r.r b id) λW a m c t=>SG (K_ _ _) Z (by have:=Sv p.2.s p2.2.s 8;omega) t
end
end Go.Proofs.Y.iz
namespace Go.Proofs.Y.lS
open Go Go.Proofs Go.RowKit Go.Proofs.Y.Lift Go.Proofs.Y.iz
def j1(a:List (Nat×fJ)):List fJ:=a.map (·.2)
def L_(d:fJ)(l:List fJ):fJ:=l.foldl (λa b=>if a.h<b.h then b else a) d
theorem M_:∀(a:List (Nat×fJ)) (d:Nat×fJ),(tU d a).2=L_ d.2 (j1 a)
 |[],_=>rfl
 |x::r,d=>by show(tU (yR d x) r).2=L_ (if d.2.h<x.2.h then x.2 else d.2) (j1 r);rw[M_ r];unfold yR;split<;>rfl
theorem SJ{a b:List (Nat×fJ)}(h:j1 a=j1 b)(v:Int):(nR a v).map (·.2)=(nR b v).map (·.2):=by
 have c:∀i:Nat,(a[i]?).map (·.2)=(b[i]?).map (·.2):=λi=>by have:=congrArg (λl:List fJ=>l[i]?) h;simpa[j1]using this
 unfold nR;grind [M_]
theorem aog{a b:List (Nat×fJ)}(h:j1 a=j1 b):a.length=b.length:=by have:=congrArg List.length h;simpa[j1]using this
theorem M'{a b:List (Nat×fJ)}(h:j1 a=j1 b)(v:Int)(x:Nat)(c:List Tx):tV a v x c=tV b v x c:=by have d:=SJ h v;unfold tV;grind [aog]
theorem aoh{a b:List (Nat×fJ)}(h:j1 a=j1 b)(q:Qn):xc a q=xc b q:=by
 have c:=SJ h q.v;have d:=SJ h q.C;have e:∀p:fJ,Ee a p q=Ee b p q:=λp=>by unfold Ee;grind
 unfold xc;grind
structure lF(s:List fJ):Prop where
 I:0<s.length
 C:s.length<=40
 r:∀v∈s,Sl v/\gD v.s/\0<=v.h/\v.h<s.length
def sr(a:List (Nat×fJ))(v:Int)(x:Nat)(b:List Tx):List fJ:=j1 a++(tV a v x b).1.toList
def lF.M{f:List (Nat×fJ)}(h:lF (j1 f)){g:List Tx}(k:∀t∈g,t.Ok)(m:g.length<=1000):lF (sr f c i g):=by
 unfold lS.sr;have B:(j1 f).length=f.length:=by simp[j1]
 unfold tV;cases n:nR f c with
 |none=>simpa using h
 |some p=>
  have o:p.2∈j1 f:=Ú.2 ⟨p,Hk n,U⟩;let⟨C,l,D,E⟩:=h.r _ o;simp only;split
  .simpa using h
  .rename_i F;cases j:wW i p.2.s g with
   |none=>simpa using h
   |some r=>
    simp only[Option.toList];have G:=h.C;have w:gD r.1:=by unfold wW at j;obtain⟨H,y,rfl⟩:=ò.1 j;exact(Sm g k l (λ_ q=>by cases q) (λ_ q=>by cases q) (by simp;omega) (by simp;omega) y).1.r i<|yH _
    refine⟨fh,by simp;omega,λu z=> ?_⟩;rcases â.1 z with q|q
    .let⟨a,b,e,d⟩:=h.r u q;refine⟨a,b,e,?_⟩;rw[Ù];simp;omega
    .simp at q;subst q;refine⟨amO k l m j,w,by show 0<=p.2.h+1;omega,?_⟩;rw[Ù];show p.2.h+1<_;simp;omega
def iQ(Y:fj)(u w:Í):Prop:=∀(i j o:Nat) (v:Ñ),Y i j->u.cell? ⟨i,o,Á⟩=Â v->∃a,w.cell? ⟨j,o,Á⟩=Â a/\fg Y v a
section
variable{Y:fj}
theorem aoi{k:IntKind}(h:fg Y (Å k c) v):v=Å k c:=by cases h;rfl
theorem aoj(h:fg Y (Ä B) v):v=Ä B:=by cases h;rfl
theorem Lr(h:fg Y (Ã<|Â a) v):∃b,v=Ã (Â b)/\gT Y a b:=by
 cases h with
 |jF q=>exact⟨_,U,q⟩
def Ls(h:fg Y (Æ O n i) v):∃b,v=Æ b n i/\∀a,O=Â a->∃d,b=Â d/\gT Y a d:=by
 cases h with
 |nF=>exact⟨Á,U,λa q=>by cases q⟩
 |kx q=>exact⟨_,U,λa e=>by cases e;exact⟨_,U,q⟩⟩
theorem aok(a:jZ v=Î)(h:fg Y v x):x=v:=by cases h<;>first|rfl|(simp[jZ]at a;done)
theorem za(h:gT Y ⟨b,i,Á⟩ a):∃c,a=⟨c,i,Á⟩/\Y b c:=by let⟨d,e,f⟩:=h;let⟨c,g,j⟩:=a;grind
theorem iQ.r(a:iQ Y u w){k:IntKind}(h:Y i j)(d:u.cell? ⟨i,b,Á⟩=Â (Å k c)):w.cell? ⟨j,b,Á⟩=Â (Å k c):=by let⟨e,f,g⟩:=a i j b _ h d;grind [aoi]
theorem iQ.C(a:iQ Y u w)(h:Y i j)(b:u.cell? ⟨i,n,Á⟩=Â (Ä B)):w.cell? ⟨j,n,Á⟩=Â (Ä B):=by let⟨c,d,e⟩:=a i j n _ h b;grind [aoj]
theorem iQ.aol(a:iQ Y u w)(c:jZ v=Î)(h:Y i j)(b:u.cell? ⟨i,n,Á⟩=Â v):w.cell? ⟨j,n,Á⟩=Â v:=by let⟨d,e,f⟩:=a i j n _ h b;grind [aok]
def SK(s:iz.St):∀v∈ic s,(∃n,v=Å ã n)\/∃p,v=Ä p:=λv n=>by
 unfold ic at n;obtain⟨i,_,rfl⟩:=Ú.1 n;unfold pC pB;split
 .exact È ⟨_,U⟩
 .split
  .exact Ï ⟨_,U⟩
  .exact È ⟨_,U⟩
def aom(a:iQ Y u w){s:iz.St}(c:Y b i)(d:lR b s h u):lR i s h w:=by
 refine⟨λj v e=> ?_,a.r c d.h⟩;have f:=d.C j v e;rcases SK s v (ç e)with⟨n,rfl⟩|⟨p,rfl⟩
 .exact a.r c f
 .exact a.C c f
def N_(a:iQ Y u w)(f:Y b i)(g:∀v∈l,jZ v=Î)(h:yP ⟨b,j,Á⟩ n l u):yP ⟨i,j,Á⟩ n l w:=by let⟨p,c,k,m⟩:=h;let⟨G,q,r⟩:=a b i j _ f k;obtain⟨s,rfl,t⟩:=Ls r;refine⟨s,c,q,λd x e=> ?_⟩;let⟨H,y,z,B⟩:=m d x e;let⟨I,C,D⟩:=t _ z;obtain⟨E,rfl,F⟩:=za D;exact⟨E,y,C,a.aol (g x<|ç e) F B⟩
def aon(a:iQ Y u w){v:fJ}(c:Y b i)(h:re b v u):re i v w:= ⟨aom a c h.r,h.C,h.I,h.M,N_ a c (Y7 _) h.N,N_ a c (ZM _) h.S⟩
def vu{α β:Type}{R:Nat->α->β->Prop}:∀(l:List α) (k:Nat),(∀j x,l[j]?=Â x->∃y,R (k+j) x y)->∃a:List β,a.length=l.length/\∀j y,a[j]?=Â y->∃x,l[j]?=Â x/\R (k+j) x y
 |[],_,_=>⟨[],U,λj y h=>by simp at h⟩
 |x::r,k,h=>by
  let⟨y,c⟩:=h 0 x U;obtain⟨a,d,e⟩:=vu r (k+1) λj z b=>by let⟨q,f⟩:=h (j+1) z b;exact⟨q,by rwa[show k+1+j=k+(j+1) by omega]⟩
  refine⟨y::a,by simp[d],λj z b=> ?_⟩;cases j with
  |zero=>cases b;exact⟨x,U,c⟩
  |succ j=>
   let⟨q,f,g⟩:=e j z b;exact⟨q,f,by rwa[show k+(j+1)=k+1+j by omega]⟩
theorem Ho(a:iQ Y u w){e:List (Nat×fJ)}(i:fg Y z jQ)(h:K6 z e u):∃c,j1 c=j1 e/\K6 jQ c w:=by
 obtain⟨J,n,k,rfl,l,f⟩:=h;obtain⟨g,rfl,m⟩:=Ls i;let⟨c,o,K⟩:=vu (R:=λj (x y:Nat×fJ)=>x.2=y.2/\∃q d,g=Â ⟨q,d,Á⟩/\w.cell? ⟨q,d+j,Á⟩=Â (Ã<|Â ⟨y.1,0,Á⟩)/\re y.1 y.2 w) e 0 λj x p=>by let⟨b,v⟩:=x;let⟨q,d,r,s,t⟩:=f.C j b v p;let⟨L,B,C⟩:=m _ r;obtain⟨y,rfl,D⟩:=za C;let⟨M,E,F⟩:=a q y _ _ D s;obtain⟨N,rfl,G⟩:=Lr F;obtain⟨H,rfl,I⟩:=za G;exact⟨(H,v),U,y,d,B,by rwa[œ],aon a I t⟩
 refine⟨c,?_,g,n,k,U,l,⟨by rw[o];exact f.r,λj b v q=> ?_⟩⟩
 .refine Ŕ λj=> ?_;unfold j1;grind
 .grind
end
def kO(a:Nat->Prop)(B:Nat):fj:=⟨λi j=>i=j/\a i,B⟩
def aoo(a:Nat->Prop)(B:Nat):Bi (kO a B):= ⟨λ_ _ _ h k=>h.1.symm.trans k.1,λ_ _ _ h k=>h.1.trans k.1.symm,λi j h=>by rw[h.1]⟩
def zd{V:Nat->Prop}{B:Nat}(h:∀i,X i->V i):(kO X B).r (kO V B):=⟨λ_ _ q=>⟨q.1,h _ q.2⟩,λ_=>aoo V B,U⟩
def ku(B:Nat)(a:Nat->Prop)(w:Í):Prop:=∀b,a b->∃c e d,w.heap[b]?=Â (Û c e d)/\d.2<=c.size/\fM (kO a B) c c/\0<c.size/\BZ c/\e≠304/\e≠305
section
variable{B:Nat}{V:Nat->Prop}
def ku.I(h:ku B X w)(k:ku B V w):ku B (λb=>X b\/V b) w:=by
 rintro b (q|q)
 .let⟨c,e,a,d,f,g,i⟩:=h b q;exact⟨c,e,a,d,f,g.I (zd λ_=>È),i⟩
 .let⟨c,e,a,d,f,g,i⟩:=k b q;exact⟨c,e,a,d,f,g.I (zd λ_=>Ï),i⟩
def ku.C(h:ku B X w)(k:∀b,X b->u.heap[b]?=w.heap[b]?):ku B X u:=λb q=>by let⟨c,e,a,d,f⟩:=h b q;exact⟨c,e,a,by rwa[k b q],f⟩
theorem ku.r(h:ku B X w)(a:X b)(d:w.cell? ⟨b,i,Á⟩=Â v):fg (kO X B) v v:=by let⟨c,e,j,f,_,g,_⟩:=h b a;simp only[ß,f,ö,ì,if_false]at d;rcases g.S i with⟨q,_⟩|⟨x,k,l,m,n⟩;all_goals grind
def BJ(h:fg (kO X B) (Ã<|Â a) v):X a.block:=by
 cases h with
 |jF q=>exact q.1.2
def BK(h:fg (kO X B) (Æ (Â a) n i) v):X a.block:=by
 cases h with
 |kx q=>exact q.1.2
def aop{Y:fj}(h:jZ v=Î):fg Y v v:=by cases v<;>first|exact .lT _|exact .iC _ _|(simp[jZ]at h;done)
def oS{Y:fj}(h:∀v∈d.toList,fg Y v v):fM Y d d:=⟨U,λi a _=>h _<|î.2<|ă a⟩
def aoq(h:jZ v=Î):xr v=Ë:=by
 cases v with
 |int k n=>cases k<;>first|rfl|(simp[jZ]at h;done)
 |_=>rfl
def ze(h:∀v∈d.toList,xr v=Ë):BZ d:=λk v a=>h v<|î.2<|ĵ a
def Hp(v:Ñ)(i:Nat):Prop:=v.ownBlock=Â i
def Hq(X:Nat->Prop)(g b:Nat)(a c:Ñ)(i:Nat):Prop:=X i\/i=g\/i=b\/Hp a i\/Hp c i
def N'{G:Í}(a:lM T=Î)(h:si v T u)(o:∀j,v.ownBlock=Â j->G.heap.size<=j)(p:qT G.heap.size u):∀i,Hp v i->∃c e f,u.heap[i]?=Â (Û c e f)/\f.2<=c.size/\fM (kO V B) c c/\0<c.size/\BZ c/\e≠304/\e≠305:=λi b=>by
 rcases h with rfl|⟨g,n,c,k,rfl,l⟩
 .cases b
 .have e:g=i:=by unfold Hp at b;simpa[Value.ownBlock]using b
  subst e;let⟨r,m⟩:=p g k T (0,0) (o g U) l a;exact⟨k,T,(0,0),l,Ø _,oS λv d=>aop<|m v d,r,ze λv d=>aoq<|m v d,(λq=>by rw[q]at a;cases a),(λq=>by rw[q]at a;cases a)⟩
def O_(h:si v T u)(a:∀i,Hp v i->V i):fg (kO V B) v v:=by
 rcases h with rfl|⟨g,n,c,b,rfl,d⟩
 .exact .nF _ _
 .exact fg.kx (Y:=kO V B) ⟨⟨U,a g U⟩,U,U⟩ n c
theorem aor{G:Í}(J:ku B X G)(k:eZ e9 G u)(K:∀i,X i->i<G.heap.size){l:List (Nat×fJ)}{s:iz.St}(o:Sg b s h G u)(r:Sf l b G u m)(L:∀p∈l,X p.1): ∃e,(∀i,X i->e i)/\e m/\ku B e u/\∀i,e i->X i\/G.heap.size<=i:=by
 have t:=k.Y _ λi c T w M y=>by rw[ı M]at y;cases y
 let⟨a,d,N,z,C,D,E⟩:=o.r;refine⟨Hq X m b a d,λi q=>È q,Ï<|È U,?_,?_⟩
 .rintro i (q|rfl|rfl|q|q)
  .let⟨c,e,w,n,x,f,j⟩:=J i q;exact⟨c,e,w,by rwa[k.N i (K i q) id],x,f.I (zd λ_=>È),j⟩
  .let⟨F,n,x,f⟩:=r.r;have H:∀v∈F.toList,v=Ã Á\/∃j,v=Ã (Â ⟨j,0,Á⟩)/\Hq X i b a d j:=λv e=>by
    rcases f v e with q|q|q
    .unfold rf at q;obtain⟨p,I,rfl⟩:=Ú.1 q;exact Ï ⟨_,U,È<|L p I⟩
    .exact Ï ⟨_,q,Ï<|Ï<|È U⟩
    .exact È q
   refine⟨F,136,(0,0),n,Ø _,oS λv e=> ?_,x,ze λv e=> ?_,A,A⟩
   .rcases H v e with rfl|⟨j,rfl,I⟩
    .exact .lk
    .exact .jF ⟨⟨U,I⟩,U,U⟩
   .rcases H v e with rfl|⟨j,rfl,I⟩<;>rfl
  .have f:∀v∈jb s a++[Å É h,d],fg (kO (Hq X m i a d) B) v v/\xr v=Ë:=λv e=>by
    rw[yM]at e;have I:=O_ (B:=B) (V:=Hq X m i a d) z λj q=>Ï<|Ï<|Ï<|È q;have F:=O_ (B:=B) (V:=Hq X m i a d) C λj q=>Ï<|Ï<|Ï<|Ï q;have H:∀{x:Ñ} {T:Ď},si x T u->xr x=Ë:=λ{x T} q=>by rcases q with rfl|⟨_,_,_,_,rfl,_⟩<;>rfl
    rcases â.1 e with q|q
    .rcases â.1 q with q|q
     .rcases SK s v q with⟨n,rfl⟩|⟨p,rfl⟩
      .exact⟨.iC _ _,U⟩
      .exact⟨.kD _,U⟩
     .grind
    .simp at q;rcases q with rfl|rfl
     .exact⟨.iC _ _,U⟩
     .grind
   exact⟨_,147,(0,0),N,Ø _,oS λv e=>(f v<|by simpa using e).1,by simp[mb],ze λv e=>(f v<|by simpa using e).2,A,A⟩
  .exact N' U z D t i q
  .exact N' U C E t i q
 .rintro i (q|rfl|rfl|q|q)
  .exact È q
  .exact Ï r.C
  .exact Ï o.C
  .exact Ï<|D i q
  .exact Ï<|E i q
def Lt{Y:fj}(h:fg Y v x):fg (kO X B) v v->fg (kO (λj=>∃i,X i/\Y i j) B) x x:=by
 induction h with
 |lT b=>exact λ_=> .lT b
 |iC k n=>exact λ_=> .iC k n
 |kD s=>exact λ_=> .kD s
 |lk=>exact λ_=> .lk
 |@jF a a' q=>exact λz=>fg.jF (Y:=kO (λj=>∃i,X i/\Y i j) B) ⟨⟨U,_,BJ z,q.1⟩,U,U⟩
 |nF n c=>exact λ_=> .nF n c
 |@kx a a' q n c=>exact λz=>fg.kx (Y:=kO (λj=>∃i,X i/\Y i j) B) ⟨⟨U,_,BK z,q.1⟩,U,U⟩ n c
 |uo=>exact λ_=> .uo
 |fn f=>exact λ_=> .fn f
 |uq=>exact λ_=> .uq
 |uu=>exact λ_=> .uu
 |uw=>exact λ_=> .uw
 |xo t _ b=>exact λz=> .xo t (b (by cases z with|xo _ y=>exact y))
 |nU f _ b=>exact λz=> .nU U λi c _=>b i (by rwa[f]) c (by cases z with|nU _ y=>exact y i _ _)
 |mX f _ b=>exact λz=> .mX U λi c _=>b i (by rwa[f]) c (by cases z with|mX _ y=>exact y i _ _)
def aos{Y:fj}(h:fg Y v x):xr x=xr v:=by cases h<;>rfl
theorem SL{Y:fj}{r:Nat->Prop}(h:ja Y r u w)(s:ku B X u):ku B (λj=>∃i,X i/\Y i j) w:=by
 rintro j ⟨i,t,x⟩;let⟨c,a,e,F,y,z,C,b,G,H,I⟩:=h.r i j x;let⟨d,J,pR,m,_,D,K,E,n,o⟩:=s i t;rw[z]at m;cases m;have L:=b.C.resolve_right λq=>q.2.1.elim n o;refine⟨a,e,y,C,?_,oS λv f=> ?_,Z,ze λv f=> ?_,n,o⟩
 .grind
 .obtain⟨k,g,rfl⟩:=Ğ f;have l:k<a.size:=by simpa using g
  have:=Lt (b.r k Z l)<|D.C k Z Z;simpa using this
 .obtain⟨k,g,rfl⟩:=Ğ f;have l:k<a.size:=by simpa using g
  have p:=aos<|b.r k Z l;rw[(E k c[k]<|å Z)]at p;simpa using p
def zf{Y:fj}(h:ja Y X u w):iQ Y u w:=λi j o v b c=>h.gq (a:=⟨i,o,Á⟩) (a':=⟨j,o,Á⟩) ⟨b,U,U⟩ c
end
end Go.Proofs.Y.lS
namespace Go.Proofs.Y.Lift
open Go
def P_{α β:Type}{c:α->β->Option (ForInStep β)}{I:β->Prop}(d:∀a b s,I b->c a b=Â s->I s.value): ∀(l:List α) (b r:β),I b->forIn l b c=Â r->I r
 |[],b,r,hi,h=>by simp at h;subst h;exact hi
 |a::l,b,r,hi,h=>by
  rw[List.forIn_cons]at h;cases e:c a b with
  |none=>rw[e]at h;simp at h
  |some s=>
   rw[e]at h;have:=d a b s hi e;cases s with
   |done x=>simp at h;subst h;exact this
   |yield x=>simp at h;exact P_ d l x r this h
def jG.gN(h:jG v):∀x∈v.cells,jG x:=by
 intro x a;cases h with
 |nU h=>
  obtain⟨i,b,rfl⟩:=Array.mem_iff_getElem.1 a;exact h i b
 |mX h=>simp[Ĺ]at a;subst a;exact .mX h
 |_=>simp[Ĺ]at a;subst a;constructor
def ZP(a:Ď->Option ĩ):Prop:=∀t i z,a t=Â i->i.zero=Â z->jG z
def SN(h:∀x∈d,jG x):jG (.agg d):=.nU λ_ a=>h _<|ă a
theorem aot{l:Ď->Option ĩ}(h:ZP l){m:Array Field}(g:ŕ l m=Â zJ)(q:zJ.zero=Â z):jG z:=by
 unfold ŕ at g;simp only[<-Array.forIn_toList]at g;generalize t:(forIn m.toList _ _:Option _)=L at g;cases L with
 |none=>simp at g
 |some r=>
  have u:=P_ (I:=λx=>∀a,x.2.2.2.2.2.2.2.1=Â a->∀v∈a,jG v) ?_ _ _ _ ?_ t
  .have:∃a,r.2.2.2.2.2.2.2.1=Â a/\z=.agg a:=by
    grind [ò]
   obtain⟨a,e,rfl⟩:=this;exact SN<|u a e
  .intro f b s w d;have y:∀(e:Option Ñ) (k:Nat) (x:Option (Array Ñ)),(∀z,e=Â z->jG z)->x=(if k>Ų then Á else do pure ((<-b.2.2.2.2.2.2.2.1)++(<-e).cells))->∀a,x=Â a->∀v∈a,jG v:=by
    intro e k x B C a c v n;subst C;split at c
    .simp at c
    .cases j:b.2.2.2.2.2.2.2.1 with
     |none=>rw[j]at c;simp at c
     |some E=>
      cases o:e with
      |none=>rw[j,o]at c;simp at c
      |some D=>
       rw[j,o]at c;simp at c;subst c;rcases Array.mem_append.1 n with p|p
       .exact w _ j v p
       .exact(B D o).gN v p
   cases e:l f.type with
   |none=>rw[e]at d;simp at d
   |some j=>
    rw[e,ê,ş]at d;have k:=y j.zero (b.2.1+j.size) _ (λz q=>h _ _ _ e q) U;generalize(if b.2.1+j.size>Ų then Á else(do pure ((<-b.2.2.2.2.2.2.2.1)++(<-j.zero).cells):Option (Array Ñ)))=X at d k;generalize(if b.1.size+1<m.size then ";" else "")=Y at d;simp only[bind,pure,Option.bind]at d;repeat' split at d
    all_goals first
     |(simp only[Ô]at d;subst d;exact k)
     |(simp at d;done)
  .intro a c v n;simp at c;subst c;simp at n
def aou{c:Ď->Option ĩ}(h:ZP c){d:TypeDesc}(a:Χ c d=Â zJ)(b:zJ.zero=Â z):jG z:=by
 unfold Χ at a;cases d with
 |struct k=>exact aot h a b
 |array n e=>
  simp only[ê,Ü,ā,Ô]at a;obtain⟨f,v,st,_,rfl⟩:=a;simp only at b;split at b
  .simp at b
  .split at b
   .simp at b;subst b;exact SN fh
   .simp only[ò]at b;obtain⟨j,g,rfl⟩:=b;refine SN λx k=> ?_;simp only[Array.mem_flatten,Array.mem_replicate]at k;obtain⟨l,⟨_,rfl⟩,k⟩:=k;exact(h _ _ _ v g).gN x k
 |pointer e=>
  simp only[ê,Ü,ā]at a;let⟨f,v,a⟩:=a;repeat' split at a
  all_goals first
   |(simp at a;done)
   |(simp only[Ü,Ô]at a;obtain⟨_,_,rfl⟩:=a;simp only[ł,Ô]at b;subst b;constructor)
 |slice e=>
  simp only[ê,Ü,ā,Ô]at a;obtain⟨_,_,_,_,rfl⟩:=a;simp only[ł,Ô]at b;subst b;constructor
 |map k e=>
  simp only[ê,Ü,ā,Ô]at a;obtain⟨_,_,_,_,_,_,_,_,rfl⟩:=a;simp only[ł,Ô]at b;subst b;constructor
 |chan k e=>
  simp only[ê,Ü,ā,Ô]at a;obtain⟨_,_,_,_,rfl⟩:=a;simp only[ł,Ô]at b;subst b;constructor
 |func k e v=>
  simp only[ê,Ü,ā,Ô]at a;obtain⟨_,_,rfl⟩:=a;simp only[ł,Ô]at b;subst b;constructor
 |_=>simp at a
def P'{T:Tables}(a:∀(t:Nat) (i:ĩ) (z:Ñ),T.types[t]?=Â i->i.zero=Â z->jG z):∀f,ZP<|ţ T f
 |0=>λt i z h=>by simp[ţ]at h
 |f+1=>λt i z h b=>by
  unfold ţ at h;split at h
  .exact a t i z h b
  .simp only[Ü]at h;let⟨d,_,c⟩:=h;exact aou (P' a f) c b
def aov(a:∀(t:Nat) (i:ĩ) (z:Ñ),P.types[t]?=Â i->i.zero=Â z->jG z):mZ P:=λt i z h b=>by
 have h:P.toTables.info? t=Â i:=h;unfold Tables.info? at h;split at h
 .exact a t i z h b
 .exact P' a _ t i z h b
end Go.Proofs.Y.Lift
namespace Go.Proofs.Y.fw
open Go Go.Conc Go.Proofs.Y.Lift Go.RowKit Go.Conc.Lib Go.ConcR.Gen
open Go.Proofs Go.Proofs.YtgpphkdoanciiaaGreatDoor
def SO:Ñ->Bool
 |.agg a=>a.toList.all xA
 |v=>xA v
def Q_(h:SO v=Î):jG v:=by
 cases v with
 |agg b=>exact .nU λi a=>E2<|(ĭ.1 h) _<|î.2<|ă a
 |_=>exact E2 h
def Q':Ñ->Bool
 |ë a=>a.toList.all SO
 |v=>SO v
def aow(h:Q' v=Î):jG v:=by
 cases v with
 |tuple b=>exact .mX λi a=>Q_<|(ĭ.1 h) _<|î.2<|ă a
 |_=>exact Q_ h
def Ef(i:ĩ):Bool:=match i.zero with
 |some z=>Q' z
 |none=>Î
def aox(h:P.types.toList.all Ef=Î):mZ P:=aov λt i z a b=>by have:=(ĭ.1 h) i<|î.2<|ĵ a;unfold Ef at this;rw[b]at this;exact aow this
def xu:mZ À:=aox fP
end Go.Proofs.Y.fw
namespace Go.Proofs.Y.lS
open Go Go.Conc Go.Proofs Go.RowKit Go.Proofs.Y.Lift Go.Proofs.Y.iz Go.Proofs.Y.fw
noncomputable def nB:Nat:=À.globals.size
def oT(a:Nat->Prop)(b:Nat):Prop:=a b\/b=1\/b=2\/b=3\/b=4
def Lu(b:Nat)(e:Ď)(w:Í):Prop:=∃c a,w.heap[b]?=Â (Û c e a)/\a.2<=c.size/\a.2<=16/\0<c.size/\∀v∈c.toList,∃k n,v=Å k n
structure mU(w:Í):Prop where
 fq:nB<=w.heap.size
 M:ku nB (λb=>b=1\/b=2) w
 I:Lu 3 304 w
 C:Lu 4 305 w
 S:iz.lh w
 iT:iF w
 N:pK w
section
variable{V:Nat->Prop}
theorem mU.r{w':Í}(h:mU w)(f:nB<=w'.heap.size)(k:∀b,b=1\/b=2\/b=3\/b=4->w'.heap[b]?=w.heap[b]?):mU w':=by
 have d:∀b o,b=1\/b=2\/b=3\/b=4->w'.cell? ⟨b,o,Á⟩=w.cell? ⟨b,o,Á⟩:=λb o e=>by simp only[ß,k b e]
 refine⟨f,h.M.C λb e=>k b<|e.imp id È,?_,?_,?_,?_,?_⟩
 .let⟨c,i,a,r⟩:=h.I;exact⟨c,i,by rwa[k 3 fh],r⟩
 .let⟨c,i,a,r⟩:=h.C;exact⟨c,i,by rwa[k 4 fh],r⟩
 .have c:=h.S;have i:À.globalNamed "internal/strconv.uint64pow10"=Â 1:=fl
  unfold iz.lh χ ο at*;grind
 .let⟨c,g,a⟩:=h.iT.M;refine⟨⟨c,g,by rwa[k 2 fh]⟩,λi r j=> ?_⟩;rw[d 2 _ fh,d 2 _ fh,d 2 _ fh];exact h.iT.I i r j
 .have:=h.N;unfold pK at*;grind
def R_(u:ku nB X w)(x:∀b,X b->kU b=Ë)(g:mU w):Kr (oT X) (oT X) nB w:=by
 have p:∀{a:Nat->Prop} {c:Array Ñ},(∀b,a b->oT X b)->fM (kO a nB) c c->fM (pz (oT X) nB) c c:=λ{a c} hX r=>r.I<|zd hX;refine⟨?_,g.fq⟩;have s:∀b e,(e=304\/e=305)->kU b=Î->Lu b e w->∃c e d,w.heap[b]?=Â (Û c e d)/\d.2<=c.size/\fM (pz (oT X) nB) c c/\(oT X b->0<c.size/\(kU b=Î->(e=304\/e=305)/\d.2<=16)/\(kU b=Ë->BZ c)):=λb e y B h=>by let⟨c,d,f,j,l,m,o⟩:=h;exact⟨c,e,d,f,j,oS λv i=>by obtain⟨k,n,rfl⟩:=o v i;exact .iC _ _,λ_=>⟨m,λ_=>⟨y,l⟩,λq=>by rw[B]at q;cases q⟩⟩
 rintro b (q|q|q|rfl|rfl)
 .let⟨c,e,d,f,j,l,m,o,_⟩:=u b q;exact⟨c,e,d,f,j,p (λ_=>È) l,λ_=>⟨m,λt=>(by rw[x b q]at t;cases t),λ_=>o⟩⟩
 .let⟨c,e,d,f,j,l,m,o,_⟩:=g.M b<|È q;exact⟨c,e,d,f,j,p (λi k=>k.elim (λz=>Ï<|È z) λz=>Ï<|Ï<|È z) l,λ_=>⟨m,λt=>(by rw[q]at t;cases t),λ_=>o⟩⟩
 .let⟨c,e,d,f,j,l,m,o,_⟩:=g.M b<|Ï q;exact⟨c,e,d,f,j,p (λi k=>k.elim (λz=>Ï<|È z) λz=>Ï<|Ï<|È z) l,λ_=>⟨m,λt=>(by rw[q]at t;cases t),λ_=>o⟩⟩
 .exact s 3 304 (È U) U g.I
 .exact s 4 305 (Ï U) U g.C
def oU(a:kU b=Ë\/i<16)(h:w.cell? ⟨b,i,Á⟩=Â v):(World.tp (kN V w) xQ 0).cell? ⟨b,i,Á⟩=Â v:=by
 have j:(World.tp (kN V w) xQ 0).heap[b]?=(w.heap[b]?).map (oN V b):=Dl b;simp only[ß,j];simp only[ß]at h;cases g:w.heap[b]? with
 |none=>rw[g]at h;cases h
 |some k=>
  rw[g]at h;cases k with
  |cells c e m=>
   simp only[Ă,oN,ö,ì,if_false]at h|-;split
   .rename_i d;split at d
    .split at d
     .rename_i l;cases d;rcases a with a|a
      .rw[l]at a;cases a
      .unfold tM;rw[Array.getElem?_extract];simp;exact⟨by have:=(á.1 h).1;omega,h⟩
     .cases d;exact h
    .cases d;exact h
   .rename_i f;split at f
    .split at f<;>exact absurd U<|f _ _ _
    .exact absurd U<|f _ _ _
  |_=>cases h
def R'{T:ŷ}(d:ku nB X w)(e:∀b,X b->kU b=Ë):iQ (kO X nB) w (World.tp (kN V w) T 0):=by rintro i j o v ⟨rfl,a⟩ c;exact⟨v,oU (È<|e i a) c,d.r a c⟩
end
def RD(s:List fJ)(b:Ñ)(a:Nat->Prop)(w:Í):Prop:=∃c,j1 c=s/\lF s/\K6 b c w/\ku nB a w/\fg (kO a nB) b b
section
variable{V:Nat->Prop}{s:List fJ}
def S_(h:ku nB X w)(k:∀b,X b->u.heap[b]?=w.heap[b]?):iQ (kO X nB) w u:=by rintro i j o v ⟨rfl,a⟩ c;exact⟨v,by simp only[ß,k i a];exact c,h.r a c⟩
def RD.r(h:RD s v X w)(k:∀b,X b->u.heap[b]?=w.heap[b]?):RD s v X u:=by let⟨l,d,e,f,a,c⟩:=h;let⟨g,i,j⟩:=Ho (S_ a k) c f;exact⟨g,i.trans d,e,j,a.C k,c⟩
def Hr(r:Nat)(q:Qn)(w:Í):Prop:=oR r q.x q.y q.g q.k q.r q.v q.C q.I w
def S'{Y:fj}(a:iQ Y u w){r:Nat}{q:Qn}(b:Y r i)(h:Hr r q u):Hr i q w:= ⟨a.r b h.I,a.r b h.S,a.r b h.a,a.r b h.Y,a.r b h.N,a.r b h.M,a.r b h.c,a.r b h.b⟩
def aoy{T:ŷ}(g:mU w):iz.lh (World.tp (kN V w) T 0):=by
 have a:=g.S;have h:À.globalNamed "internal/strconv.uint64pow10"=Â 1:=fl
 unfold iz.lh χ ο at*;rw[h]at a|-;simp only[ş]at a|-;have i:(World.tp (kN V w) T 0).heap[1]?=(w.heap[1]?).map (oN V 1):=Dl 1;rw[i];cases f:w.heap[1]? with
 |none=>rw[f]at a;cases a
 |some j=>
  rw[f]at a;cases j with
  |cells c e k=>
   simp only[Ă,oN,kU]at a|-;split
   .rename_i b;split at b<;>(simp at b;obtain⟨rfl,_⟩:=b;exact a)
   .rename_i d;split at d
    .exact absurd U<|d _ _ _
    .exact absurd U<|d _ _ _
  |_=>cases a
theorem T_{T:ŷ}(g:mU w):iF (World.tp (kN V w) T 0):=by
 let⟨f,h,d⟩:=g.iT.M;refine⟨?_,λi r e=> ?_⟩
 .have a:(World.tp (kN V w) T 0).heap[2]?=(w.heap[2]?).map (oN V 2):=Dl 2;rw[a,d];simp only[Ă,oN,kU];grind
 .let⟨a,b,c⟩:=g.iT.I i r e;exact⟨oU (È U) a,oU (È U) b,oU (È U) c⟩
def aoz{T:ŷ}(g:mU w):pK (World.tp (kN V w) T 0):=oU (Ï A) g.N
theorem Eg{T:ŷ}:jW (World.tp (kN V w) T 0):=λi o h=>YO (Sh:=V) (w:=w) i o h
theorem aoA{l:e7}{q:Qn}{r:Nat}(x:RD s v X l.w)(I:∀b,X b->l.M b)(y:ku nB V l.w)(J:∀b,V b->l.M b)(h:V r)(z:Hr r q l.w)(ok:q.Ok)(g:mU l.w)(K:∀b,b=1\/b=2\/b=3\/b=4->l.M b)(j:∀b,X b\/V b->kU b=Ë)(m:List (Nat×fJ))(B:j1 m=s): Dp (λg=>wH g=Î) 67 #[v,Ã<|Â ⟨r,0,Á⟩] l (oT λb=>X b\/V b) λe _=>e=Ä (xc m q):=by
 let⟨L,c,d,D,E,o⟩:=x;have t:=E.I y;refine⟨?_,R_ t j g,?_,?_,λT=> ?_⟩
 .rintro b (q|q);all_goals grind
 .intro b a;unfold wH at a;simp at a;exact Ï a
 .refine oS λe a=> ?_;simp at a;rcases a with rfl|rfl
  .exact o.fI<|zd λi k=>È<|È k
  .exact fg.jF (Y:=pz (oT λb=>X b\/V b) nB) ⟨⟨U,È<|Ï h⟩,U,U⟩
 .have a:=R' (V:=oT λb=>X b\/V b) (T:=T) t j;obtain⟨F,f,N,n,G,rfl,O,u⟩:=Ho a (o.fI<|zd λi k=>È k) D;have i:n=(j1 F).length:=by rw[u.r];simp[j1]
  have P:=d.I;have Q:=d.C;rw[f,c]at i;have C:=aof (cp:=G) u Z Z (λp H=> ?_) (S' a ⟨U,Ï h⟩ z) ok (T_ g) (aoy g)<|aoz g
  .apply C.mono;rintro e S ⟨rfl,k⟩;exact⟨by rw[aoh<|f.trans<|c.trans B.symm],k.gN Eg⟩
  .have:p.2∈s:=by rw[<-c,<-f];exact Ú.2 ⟨p,H,U⟩
   exact(d.r _ this).1
end
def BL(r:Nat)(v:Int)(x:Nat)(c:List Tx)(w:Í):Prop:=∃a n d b,BB r v x a n d w/\Bv a n b w/\lb b=c/\n<=1000
section
variable{V:Nat->Prop}{s:List fJ}
def U_(h:ku nB X w):∀i,X i->i<w.heap.size:=λi a=>by let⟨c,e,d,b,_⟩:=h i a;exact(á.1 b).1
theorem U'{T:ŷ}(f:kU b=Ë)(h:w.heap[b]?=Â (Û d e xJ))(i:xJ.2<=d.size):∃a,(World.tp (kN V w) T 0).heap[b]?=Â (Û d e a)/\a.2<=d.size:=by have g:(World.tp (kN V w) T 0).heap[b]?=(w.heap[b]?).map (oN V b):=Dl b;rw[g,h];simp only[Ă,oN,f,ì,if_false];grind
def aoB{T:ŷ}(h:ku nB X w)(d:∀b,X b->kU b=Ë):ku nB X (World.tp (kN V w) T 0):=λb a=>by let⟨c,e,m,f,g,i⟩:=h b a;let⟨j,k,l⟩:=U' (V:=V) (T:=T) (d b a) f g;exact⟨c,e,j,k,l,i⟩
def aoC{T:ŷ}(k:ku nB X w)(l:∀b,X b->kU b=Ë){r:Nat}{v:Int}{o:List Tx}(p:X r)(h:BL r v i o w):BL r v i o (World.tp (kN V w) T 0):=by
 let⟨E,n,F,G,g,s,H,I⟩:=h;have m:=l r p;refine⟨E,n,F,G,⟨oU (È m) g.M,oU (È m) g.N,oU (È m) g.I⟩,⟨s.r,λj a t q=> ?_⟩,H,I⟩;let⟨tb,J,u,y,d,K⟩:=s.C j a t q;have z:X tb:=by have:=k.r p g.I;rw[u]at this;exact BK this
 have B:=BJ<|k.r z y;have f:=l a B;let⟨L,P,C⟩:=d.b;let⟨c,e,Q,D,M,_⟩:=k a B;rw[C]at D;cases D;obtain⟨N,O,_⟩:=U' f C M;exact⟨tb,J,u,oU (È<|l tb z) y,⟨⟨L,N,O⟩,oU (È f) d.r,oU (È f) d.C,oU (È f) d.I,oU (È f) d.M,oU (È f) d.Y,oU (È f) d.N⟩,K⟩
def Rg(s:List fJ)(v:Ñ)(u:Í):Prop:=∃X,RD s v X u
def Rg.tp{T:ŷ}(h:Rg s v w):Rg s v (World.tp w T n):=by let⟨X,h⟩:=h;exact⟨X,h.r λ_ _=>rfl⟩
def aoD{Y:fj}{d:Nat->Prop}(h:qB Y d u w)(a:fg Y v x)(e:Rg s v u):∃c,RD s x c w/\∀b,c b->∃i,Y i b:=by let⟨X,f⟩:=e;have g:RD s v X {u with tape:=w.tape,drawn:=w.drawn}:=f.r λ_ _=>rfl;let⟨t,j,k,l,m,n⟩:=g;let⟨o,p,q⟩:=Ho (zf h) a l;exact⟨_,⟨o,p.trans j,k,q,SL h m,Lt a n⟩,λb ⟨i,_,r⟩=>⟨i,r⟩⟩
theorem aoE{l:e7}{r:Nat}{d:List Tx}(hRD:RD s v X l.w)(hU:∀b,X b->l.M b)(N:ku nB V l.w)(hV:∀b,V b->l.M b)(O:V r)(hq:BL r h m d l.w)(hx:m<8)(y:-1<=h)(SQ:∀t∈d,t.Ok)(hn:d.length<=1000)(g:mU l.w)(hG:∀b,b=1\/b=2\/b=3\/b=4->l.M b)(B:∀b,X b\/V b->kU b=Ë)(D:List (Nat×fJ))(I:j1 D=s): Dp (λg=>wH g=Î) 66 #[v,Ã<|Â ⟨r,0,Á⟩] l (oT λb=>X b\/V b) λz u=>∃p n c,z=ë #[Æ p n c,Ä (tV D h m d).2]/\Rg (sr D h m d) (Æ p n c) u:=by
 let⟨vs,h1,E,h3,P,f⟩:=hRD;have Q:=P.I N;refine⟨?_,R_ Q B g,?_,?_,λT=> ?_⟩
 .rintro b (q|q);all_goals grind
 .intro b u;unfold wH at u;simp at u;exact Ï u
 .refine oS λh y=> ?_;simp at y;rcases y with rfl|rfl
  .exact f.fI<|zd λi j=>È<|È j
  .exact fg.jF (Y:=pz (oT λb=>X b\/V b) nB) ⟨⟨U,È<|Ï O⟩,U,U⟩
 .have o:=aoB (V:=oT λb=>X b\/V b) (T:=T) P λb q=>B b<|È q;obtain⟨z,k1,S,n,W,rfl,V_,F⟩:=Ho (R' (V:=oT λb=>X b\/V b) (T:=T) Q B) (f.fI<|zd λi j=>È j) h3;obtain⟨tp,tn,tc,a,q1,q2,rfl,q4⟩:=(aoC (V:=oT λb=>X b\/V b) (T:=T) N (λb q=>B b<|Ï q) O hq);have c:=k1.trans h1;have hlen:n=s.length:=by rw[F.r,<-c];simp[j1]
  have asx:=E.I;have hle:=E.C;have py:jW (World.tp (kN (oT λb=>X b\/V b) l.w) T 0):=Eg;have C:=amI F Z Z V_ (λp J=>by
   have:p.2∈s:=by rw[<-c];exact Ú.2 ⟨p,J,U⟩
   have:=(E.r _ this).2.2.2;omega) q1 q2 q4 (T_ g) hx y
  have u:sr z h m (lb a)=sr D h m (lb a):=by unfold sr;rw[M'<|c.trans I.symm,c,I]
  have H:lF (sr z h m<|lb a):=lF.M (by rwa[c]) SQ hn;have ha:=M' (c.trans I.symm) h m<|lb a;generalize World.tp (kN (oT λb=>X b\/V b) l.w) T 0=G at*;refine C.mono ?_;rintro e u' ⟨k,hA⟩;rcases hA with⟨K,rfl⟩|⟨nv,b,rY,K,rfl,e3,e4,gb,gn,gc,rfl,e6⟩
  .refine⟨⟨S,n,W,by rw[ha],?_⟩,k.gN py⟩;rw[<-u];have L:sr z h m (lb a)=s:=by unfold sr;rw[K,c];simp
   rw[L]at H|-;exact⟨X,z,c,H,⟨S,n,W,U,V_,F.I k⟩,o.C λi j=>k.N i (U_ o i j) id,f⟩
  .let⟨i,m1,m2,m3,_⟩:=aor o k (U_ o) e4 e6 λp J=>by
    let⟨j,hj⟩:=ė J;let⟨sb,so,f1,f2,_⟩:=F.C j p.1 p.2 hj;have:X sb:=by rw[f1]at f;exact BK f
    exact BJ<|o.r this f2
   refine⟨⟨Â ⟨gb,0,Á⟩,gn,gc,by rw[ha],?_⟩,k.gN py⟩;rw[<-u];have L:sr z h m (lb a)=j1 (z++[(b,nv)]):=by unfold sr;rw[K];simp[j1]
   rw[L]at H|-;exact⟨i,_,U,H,e3,m3,fg.kx (Y:=kO i nB) ⟨⟨U,m2⟩,U,U⟩ gn gc⟩
end
structure vf where
 r:Nat->Int×Nat×List Tx
 C:Nat->Qn
def BM(s:List fJ):List (Nat×fJ):=s.map λv=>(0,v)
theorem Lv(s:List fJ):j1 (BM s)=s:=by simp[j1,BM,Function.comp_def]
def Lw(s:List fJ)(i:Int×Nat×List Tx):List fJ:=sr (BM s) i.1 i.2.1 i.2.2
def qn(a:vf)(I:List Nat)(b:List fJ):Nat->List fJ
 |0=>b
 |k+1=>Lw (qn a I b k)<|a.r<|I.getD k 0
def xd(a:vf)(kd:Nat->Int)(p:Nat)(s:List fJ):ByteArray:=if kd p=1 then(tV (BM s) (a.r p).1 (a.r p).2.1 (a.r p).2.2).2 else xc (BM s) (a.C p)
def im(e:e7)(a:Nat->Prop)(c:vf)(kd:Nat->Int)(R:Nat)(d:List fJ)(f:Nat->Prop):wG where
 γ:=List fJ
 C:=d
 M:=λk s g=>g=Lw s (c.r<|(ij kd R).getD k 0)
 RD:=λs h V w=>RD s h V w/\∀b,V b->a b\/e.w.heap.size<=b
 I:=λp=>xd c kd p<|qn c (ij kd R) d<|fL kd p
 r:=f
def SR{kd:Nat->Int}:∀(R k:Nat),k<(ij kd R).length->fL kd ((ij kd R).getD k 0)=k
 |0,k,h=>by simp[ij]at h
 |R+1,k,h=>by
  by_cases q:kd R=1
  .rw[A5 q]at h|-;rcases Nat.lt_or_ge k (ij kd R).length with z|z
   .have e:(ij kd R++[R]).getD k 0=(ij kd R).getD k 0:=by simp[Ġ,Ħ z]
    rw[e];exact SR R k z
   .have e:k=(ij kd R).length:=by simp at h;omega
    subst e;simp[Ġ,fL]
  .rw[A6 q]at h|-;exact SR R k h
section
variable{y:Nat->Prop}
def Lx(h:ku nB y w)(g:mU w):∀b,y b->kU b=Ë:=λb i=>by
 let⟨c,e,m,f,_,_,_,_,j,k⟩:=h b i;cases d:kU b with
 |false=>rfl
 |true=>
  unfold kU at d;simp at d;rcases d with rfl|rfl
  .let⟨l,pR,a,_⟩:=g.I;rw[f]at a;cases a;exact absurd U j
  .let⟨l,pR,a,_⟩:=g.C;rw[f]at a;cases a;exact absurd U k
def aoF(p:ku nB X w)(k:∀b,X b->u.heap[b]?=w.heap[b]?){r:Nat}{s:List Tx}(g:X r)(h:BL r c i s w):BL r c i s u:=by
 have d:∀{b o:Nat} {z:Ñ},X b->w.cell? ⟨b,o,Á⟩=Â z->u.cell? ⟨b,o,Á⟩=Â z:=λ{b o z} l q=>by simp only[ß,k b l];exact q
 let⟨D,n,E,F,m,y,G,H⟩:=h;refine⟨D,n,E,F,⟨d g m.M,d g m.N,d g m.I⟩,⟨y.r,λj a t q=> ?_⟩,G,H⟩;let⟨tb,I,B,C,e,J⟩:=y.C j a t q;have l:X tb:=by have:=p.r g m.I;rw[B]at this;exact BK this
 have f:=BJ<|p.r l C;let⟨K,L,M⟩:=e.b;exact⟨tb,I,B,d l C,⟨⟨K,L,by rwa[k a f]⟩,d f e.r,d f e.C,d f e.I,d f e.M,d f e.Y,d f e.N⟩,J⟩
end
structure Hs(l0:e7)(bt:vf)(kd:Nat->Int)(rq:Nat->Nat)(R:Nat)(Q:Nat->Prop):Prop where
 M:mU l0.w
 I:∀b,b=1\/b=2\/b=3\/b=4->l0.O b
 C:ku nB Q l0.w
 fi:∀b,Q b->l0.O b
 r:∀p,p<R->Q (rq p)
 kA:∀p,p<R->kd p=1->BL (rq p) (bt.r p).1 (bt.r p).2.1 (bt.r p).2.2 l0.w/\(bt.r p).2.1<8/\-1<=(bt.r p).1/\(∀t∈(bt.r p).2.2,t.Ok)/\(bt.r p).2.2.length<=1000
 Q7:∀p,p<R->kd p≠1->Hr (rq p) (bt.C p) l0.w/\(bt.C p).Ok
def W_{V:Nat->Prop}{l:e7}{a:Ñ->Í->Prop}(h:Dp X F d l V vQ)(b:∀v u,vQ v u->a v u):Dp X F d l V a:= ⟨h.N,h.S,h.I,h.r,λT=>(h.C T).mono λe u q=>by
  cases e with
  |returned v=>exact⟨b v u q.1,q.2⟩
  |_=>exact q⟩
section
variable{l0:e7}{bt:vf}{kd:Nat->Int}{rq:Nat->Nat}{R:Nat}{Q C d:Nat->Prop}{B:List fJ}{E F:Option ù}
def X_{s:List fJ}(h:fw.mL ((kq (im l0 d bt kd R B C) i n R kd rq D E F j9 j7 k m J j qX l0).r À) b s):s=qn bt (ij kd R) B b:=by
 have c:∀(b:Nat) (s:((kq (im l0 d bt kd R B C) i n R kd rq D E F j9 j7 k m J j qX l0).r À).γ),fw.mL ((kq (im l0 d bt kd R B C) i n R kd rq D E F j9 j7 k m J j qX l0).r À) b s->s=qn bt (ij kd R) B b:=λb s h=>by
  induction h with
  |uF=>rfl
  |Ck _ a e=>
   rwa[e]at a
 exact c b s h
def aoG(h:Hs l0 bt kd rq R Q)(N:l0.w.heap.size<=m):Di (kq (im l0 d bt kd R B C) i n R kd rq D E F j9 j7 k m J j qX l0):=by
 apply ajq xu YT YS U;intro a s O W l q t f x y P g G;let⟨f,S⟩:=f;have T:=y.fq m<|g m<|Ï U;have H:l0.w.heap.size<=l.w.heap.size:=Z
 have o:=G;have p:=h.M.r (Ì h.M.fq H) λb c=>o b<|h.I b c;have r:=h.C.C λb c=>o b<|h.fi b c;have e:=GG<|u7 q;let⟨I,K⟩:=h.Q7 _ e.1 e.2;refine⟨_,W_ (aoA f x r (λb c=>g b<|È<|h.fi b c) (h.r _ e.1) (S' (S_ h.C λb c=>o b<|h.fi b c) ⟨U,h.r _ e.1⟩ I) K p (λb c=>g b<|È<|h.I b c) (λb c=>c.elim (Lx (by let⟨_,_,_,_,z,_⟩:=f;exact z) p b)<|Lx r p b) (BM s)<|Lv s) λv u L=> ?_⟩;rw[L];have z:=X_ t;have M:(kq (im l0 d bt kd R B C) i n R kd rq D E F j9 j7 k m J j qX l0).b a=fL kd ((jl kd R).getD a 0):=if_pos q;rw[M]at z;show _=Ä (xd bt kd ((jl kd R).getD a 0)<|qn bt (ij kd R) B<|fL kd<|(jl kd R).getD a 0);rw[<-z];unfold xd;rw[if_neg e.2]
theorem aoH(h:Hs l0 bt kd rq R Q)(hZ:(∀b,Q b->d b)/\∀b,b=1\/b=2\/b=3\/b=4->d b)(Yh:l0.w.heap.size<=m):Dh (kq (im l0 d bt kd R B C) i n R kd rq D E F j9 j7 k m J j qX l0):=by
 refine ajr xu YT YS U (λs o u=>Rg s o u) (λs o u T n q=>Rg.tp q) ?_;intro T s o W l H I g K L hq r M;let⟨g,NT⟩:=g;have hs:=L.fq m<|r m<|Ï U;have N:l0.w.heap.size<=l.w.heap.size:=Z
 have t:=M;have x:=h.M.r (Ì h.M.fq N) λb a=>t b<|h.I b a;have y:=h.C.C λb a=>t b<|h.fi b a;have G:=H;have f:=GF<|u7 G;let⟨O,P,S,V,X⟩:=h.kA _ f.1 f.2;refine⟨_,W_ (aoE g K y (λb a=>r b<|È<|h.fi b a) (h.r _ f.1) (aoF h.C (λb a=>t b<|h.fi b a) (h.r _ f.1) O) P S V X x (λb a=>r b<|È<|h.I b a) (λb a=>a.elim (Lx (by let⟨_,_,_,_,z,_⟩:=g;exact z) x b)<|Lx y x b) (BM s)<|Lv s) λv u hv=> ?_,?_⟩
 .obtain⟨p,z,c,rfl,Y⟩:=hv;refine⟨p,z,c,Lw s<|bt.r<|(ij kd R).getD T 0,?_,U,Y⟩;have e:(kq (im l0 d bt kd R B C) i n R kd rq D E F j9 j7 k m J j qX l0).e (T+1)=xd bt kd ((ij kd R).getD T 0) (qn bt (ij kd R) B<|fL kd<|(ij kd R).getD T 0):=U;rw[e,SR R T G,<-(X_ I)];unfold xd;rw[if_pos f.2]
 .intro Y Sh u w s' YI GI e p h3 h4;let⟨V',k1,c⟩:=aoD e p h3;refine⟨V',⟨k1,λb a=> ?_⟩,c⟩;let⟨z,hi⟩:=c b a;rcases h4 z b hi with((q|q)|q)|q;all_goals grind
end
section
variable{R:Nat}{kd:Nat->Int}{o:Nat->Nat}{r:List Ĕ}{l:e7}{u:Nat->e7}{bt:vf}{j f:Nat->Prop}{s0:List fJ}
def aoI{s:List fJ}(h:yz (im l f bt kd R s0 j) k s):s=qn bt (ij kd R) s0 k:=by
 have b:∀(k:Nat) (s:(im l f bt kd R s0 j).γ),yz (im l f bt kd R s0 j) k s->s=qn bt (ij kd R) s0 k:=λk s h=>by
  induction h with
  |uF=>rfl
  |Ck _ a c=>
   rwa[c]at a
 exact b k s h
structure zg(f:Nat->Prop)(bt:vf)(R:Nat)(kd:Nat->Int)(s0:List fJ)(l:e7)(an:Nat)(sl:Ñ)(l':e7):Prop where
 M:∀b,l.O b->l'.O b/\l'.w.heap[b]?=l.w.heap[b]?
 r:l'.O an/\∀p,p<R->l'.w.cell? ⟨an,p,Á⟩=Â (Ä<|xd bt kd p<|qn bt (ij kd R) s0<|fL kd p)
 Y:∃V,RD (qn bt (ij kd R) s0<|fL kd R) sl V l'.w/\∀b,V b->l'.O b/\(f b\/l.w.heap.size<=b)
 d:l'.d=0
 q:¬l'.q
 S:∀b,¬l'.I b
 C:(∀a,¬l'.r a)/\(∀a,¬l'.N a)/\∀a,¬l'.K a
 I:l'.w.cell? ⟨an,R,Á⟩=Á/\kE l'.w an=Â (0,0)
def aoJ{a:e7}(h:EX (im l f bt kd R s0 j) R kd l i v a):zg f bt R kd s0 l i v a:=by let⟨s,V,g,c,k⟩:=h.GH;have e:=aoI g;subst e;exact⟨h.uJ,h.kl,⟨V,c.1,λb q=>⟨k b q,c.2 b q⟩⟩,h.d,h.q,h.rd,h.Bg,h.B4⟩
def aoK{J:(Loc->Prop)->Nat->Jd}{F:Ĕ}(P:qX=F.at y (Ð Q (j9::jJ)::L)::r)(c:fw.qS À zX i (Kk kd o R n v l qX) .fv D u E w qJ)(C:Option (Nat×Nat))(s:gp l)(S:∀b,¬l.I b)(W:¬l.q)(Y:l.d=0)(Ly:u9 zX i l)(H:Hs l bt kd o R X)(hZ:(∀b,X b->f b)/\∀b,b=1\/b=2\/b=3\/b=4->f b)(I:∀b,f b->l.O b)(K:∀b,j b->f b)(Bf:RD s0 v j l.w)(wE:w.os=l.w.os/\w.output=l.w.output)(hn:1<=n)(hs:n+R<1000) (hJ:∀t x z B p m c,u9 t x z->gp z->zg f bt R kd s0 l B (Æ p m c) z->fw.ff À Î (J t x) z (G (F.at (y.put ((Q[j9]?).bind (·.dst))<|ë #[Æ (Â ⟨B,0,Á⟩) R R,Æ p m c])<|Ð Q jJ::L) r)): ∃N t x T V GJ g e rY h,ſ À N (Į E w C) qJ=(.next<|Į g e rY,h)/\(e.os=l.w.os/\e.output=l.w.output)/\fw.qS À t x (J t x) T V GJ g e h:= ajj (M:=im l f bt kd R s0 j) P c C s S W Y Ly (λb q=>I b<|K b q) (λs C V w e h L=>⟨h.1.r L,h.2⟩) (λs C V w h=>⟨by let⟨_,_,_,⟨g,n,N,e,_⟩,_⟩:=h.1;exact⟨g,n,N,e⟩,λb q=>(h.2 b q).imp (I b) id⟩) ⟨Bf,λb h=>È<|K b h⟩ wE hn hs (λg N V T cq B ba bi all e=>⟨aoH H hZ e,aoG H e⟩) λt x z B p m c e g N=>hJ t x z B p m c e g<|aoJ N
end
end Go.Proofs.Y.lS
namespace Go.Proofs.Y.vg
open Go Go.Proofs Go.RowKit Go.Proofs.Y.Lift Go.Proofs.Y.iz
def jT(c:Int):Bool:=decide (48<=c)&&decide (c<=57)
def ri(c:Int):Bool:=decide (97<=c)&&decide (c<=104)
def xe(c:Int):Int:=
 if c=105 then 1 else if c=103 then 2 else if c=98 then 3 else if c=99 then 4 else if c=109 then 5
 else if c=114 then 6 else if c=108 then 7 else if c=117 then 8 else if c=100 then 9 else 0
def Lz(c:Int):Int:=if c=62 then 1 else if c=123 then 2 else if c=58 then 3 else 0
theorem Eh(c:Int):jT c=Î↔(48<=c/\c<=57):=by simp[jT]
def aoL(c:Int):ri c=Î↔(97<=c/\c<=104):=by simp[ri]
def vh(k:Int):List Int:=
 if k=1 then[86,58,120,47,66]else if k=2 then[86,58,120,115]else if k=3 then[86,58,120]
 else if k=4 then[86,58,120,62,121,40,110,44,107,41]else if k=5 then[86,58,120,62,121,40,107,41]
 else if k=9 then[86,58,87]else[86]
def vi(k:Int):List Int:=
 if k=1 then[121,61,110]else if k=2 then[80]else[121,40,110,44,107,41]
def pL(a c:Int):Bool:=
 if a=86\/a=87 then c==104||jT c
 else if a=110\/a=107 then jT c
 else if a=120\/a=121 then ri c
 else if a=115 then jT c||(decide (97<=c)&&decide (c<=102))
 else c==a
def rj(a c:Int):Int:=
 if c=48\/jT c=Ë then 0
 else if a=86\/a=87 then 1
 else if a=110\/a=107 then 5
 else 0
def jL(s:ByteArray):List Int:=s.data.toList.map λc=>((c.toNat:Nat):Int)
def aoM(B:ByteArray)(k:Nat)(h:k<B.size):(jL B).drop k=((B[k].toNat:Nat):Int)::(jL B).drop (k+1):=by
 have a:k<(jL B).length:=by simpa[jL]using h
 rw[List.drop_eq_getElem_cons a];congr 1;simp[jL,ċ]
theorem SS(B:ByteArray):(jL B).length=B.size:=by unfold jL;simp_all
theorem vj(s:ByteArray)(h:0<s.size):jL s=((s[0].toNat:Nat):Int)::(jL s).tail:=by have:=aoM s 0 h;grind
theorem X'(s:ByteArray)(h:s.size=0):jL s=[]:=by grind [Ý,SS]
def aoN(s:ByteArray):jL (s.extract 1 s.size)=(jL s).tail:=by unfold jL;rw[Ĳ,ĺ,<-List.map_tail];congr 1;rw[ħ,<-List.drop_one];apply List.take_of_length_le;simp_all
theorem aoO(s:ByteArray)(h:s.size<=10):(s.extract 1 s.size).size<=10:=by grind [č]
theorem aoP(a c:Int):0<=rj a c/\rj a c<=5:=by unfold rj;grind
structure PT where
 c:List Int
 p:ByteArray
structure PR where
 c:List Int
 r:List PT
structure PD where
 S:List PR
 r:Bool
 I:PR
 M:Bool
 N:PT
structure PS where
 C:List Int
 r:Int
 I:Int
 M:Int
 d:PD
namespace PD
def Y(d:PD):List PT:=if d.M then d.I.r++[d.N]else d.I.r
def C(d:PD):List PR:=if d.r then d.S++[⟨d.I.c,d.Y⟩]else d.S
def tZ(d:PD)(i:Nat)(z:Int):PD:={d with I:={d.I with c:=d.I.c.set i z}}
def vk(d:PD)(i:Nat)(z:Int):PD:={d with N:={d.N with c:=d.N.c.set i z}}
def kv(d:PD)(i:Nat)(z:Int):PD:=if d.M then d.vk i z else d.tZ i z
def su(d:PD)(p:ByteArray):PD:={d with N:={d.N with p:=p}}
def Ef:PT:=⟨[0,0,0,0,0],⟨#[]⟩⟩
def Y_(k:Int):PR:=⟨[0,0,0,0,k,0,0,0],[]⟩
def sw(d:PD):PD:={d with I:=⟨d.I.c,d.Y⟩,M:=Î,N:=Ef}
def Ei(d:PD)(k:Int):PD:={S:=d.C,r:=Î,I:=Y_ k,M:=Ë,N:=d.N}
def fX(d:PD)(a z:Int):PD:=
 if a=86 then d.tZ 5 z else if a=87 then d.tZ 6 z else if a=120 then d.kv 0 z else if a=121 then d.kv 1 z
 else if a=110 then d.kv 2 z else if a=107 then d.kv 3 z else if a=115 then d.tZ 7 z else d
def xf(d:PD)(i:Nat):Int:=if d.M then d.N.c.getD i 0 else d.I.c.getD i 0
def G(d:PD)(a:Int):Int:=if a=86 then d.I.c.getD 5 0 else if a=87 then d.I.c.getD 6 0 else if a=110 then d.xf 2 else d.xf 3
end PD
def nz(a c:Int):Int:=
 if a=120\/a=121 then Þ [97,98,99,100,101,102,103,104] c.toNat.toUInt8
 else if a=115 then Þ [48,49,50,51,52,53,54,55,56,57,97,98,99,100,101,102] c.toNat.toUInt8
 else if c=104 then-1 else(c-48)%256
def sx(z c:Int):Int:=É.wrap<|É.wrap (z*10)+(c-48)%256
def ua(st:PS)(c:Int):Option PS:=
 if c=59/\st.d.S.length+1<24 then Â {st with C:=[82]}
 else if c=44/\0<st.d.Y.length/\st.d.Y.length<8 then Â {st with C:=[120,84],d:=st.d.sw}
 else Á
def zh(st:PS)(k:Int):Option PS:=if k=0 then Á else Â {st with C:=vh k,d:=st.d.Ei k}
def zi(st:PS)(k:Int):Option PS:=if k=0 then Á else Â {st with C:=vi k,I:=0,d:=st.d.vk 4 k}
def oV(st:PS)(a c:Int):PS:={st with r:=rj a c,M:=a,d:=st.d.fX a (nz a c)}
def lD(B:ByteArray)(k:Nat)(st:PS)(c:Int):Option PS:=
 match st.C with
 |[]=>ua st c
 |want::tl=>
  if want=82 then zh st (xe c)
  else if want=66 then
   if ri c=Î then Â (oV {st with C:=[84],d:=st.d.sw} 120 c)else ua st c
  else if want=84 then zi st (Lz c)
  else if want=80 then
   if c=125 then Â {st with C:=tl,d:=st.d.su (B.extract (k-st.I.toNat) k)}
   else if st.I=40\/lz c=0 then Á else Â {st with I:=st.I+1}
  else if pL want c=Î then Â {oV st want c with C:=tl}
  else Á
def Ht(st:PS)(c:Int):PS:={st with r:=st.r-1,d:=st.d.fX st.M (sx (st.d.G st.M) c)}
def uf(B:ByteArray)(k:Nat)(st:PS)(c:Int):Option PS:=
 if 0<st.r/\jT c=Î then Â (Ht st c)else lD B k {st with r:=0} c
def sy(B:ByteArray):Nat->Nat->PS->Nat×PS
 |0,k,st=>(k,st)
 |f+1,k,st=>if h:k<B.size then match uf B k st (B[k].toNat:Int)with
  |none=>(k,st)
  |some a=>sy B f (k+1) a
  else(k,st)
def pd0:PD:=⟨[],Ë,⟨[],[]⟩,Ë,⟨[],⟨#[]⟩⟩⟩
def sB:PS:=⟨[82],0,0,0,pd0⟩
def rm(c:Int)(w:Í): Ò À 94 #[Å ū c] w λe a=>e=Ç (õ<|jT c)/\a=w:=by
 go_enter Tryz.func94,Tryz.ntmps94;go_wp2;all_goals go_ret
 all_goals exact⟨YY (by simp only[jT];first|(simp[*];done)|(rw[Ě];simp;omega)),U⟩
def aoQ(s:ByteArray)(c:Int)(w:Í): Ò À 167 #[Ä s,Å ū c] w λe a=>e=Ç (Å É<|Þ s.data.toList c.toNat.toUInt8)/\a=w:=by go_enter Tryz.func167,Tryz.ntmps167;go_wp2;rw[run_callFunc_extern Tryz.func185 fl fl fl fl,Lib.run_indexByteString];simp only[ų];rw[Oper.upon_value];go_wp2;go_ret;exact⟨U,U⟩
def Hu(s:ByteArray)(c:Int)(w:Í): Ò À 146 #[Ä s,Å ū c] w λe a=>e=Ç (Å É<|Þ s.data.toList c.toNat.toUInt8)/\a=w:=by go_enter Tryz.func146,Tryz.ntmps146;go_wp2_with (go_at_call 167;refine(aoQ _ _ _).mono ?_;rintro e a ⟨rfl,rfl⟩);go_ret;exact⟨U,U⟩
def LA(c:Int):Bool:=jT c||(decide (97<=c)&&decide (c<=102))
def aoR:∀n:Fin 256,decide (0<=Þ [97,98,99,100,101,102,103,104] n.val.toUInt8)=ri (n.val:Int):=by decide+kernel
def aoS:∀n:Fin 256,decide (0<=Þ [48,49,50,51,52,53,54,55,56,57,97,98,99,100,101,102] n.val.toUInt8)=LA (n.val:Int):=by decide+kernel
def aoT(a:0<=c)(b:c<256):decide (0<=Þ [97,98,99,100,101,102,103,104] c.toNat.toUInt8)=ri c:=by have:=aoR ⟨c.toNat,Z⟩;rwa[show((c.toNat:Nat):Int)=c from by omega]at this
def aoU(a:0<=c)(b:c<256):decide (0<=Þ [48,49,50,51,52,53,54,55,56,57,97,98,99,100,101,102] c.toNat.toUInt8)=LA c:=by have:=aoS ⟨c.toNat,Z⟩;rwa[show((c.toNat:Nat):Int)=c from by omega]at this
def SU(c:Int)(b:0<=c)(d:c<256)(w:Í): Ò À 98 #[Å ū c] w λe a=>e=Ç (õ<|ri c)/\a=w:=by
 have f:=aoT b d;go_enter Tryz.func98,Tryz.ntmps98;go_wp2_with (go_at_call 146;refine(Hu _ _ _).mono ?_;rintro e a ⟨rfl,rfl⟩);all_goals go_ret
 all_goals exact⟨U,U⟩
def aoV(c:Int)(b:0<=c)(d:c<256)(w:Í): Ò À 149 #[Å ū c] w λe a=>e=Ç (õ<|LA c)/\a=w:=by
 have f:=aoU b d;go_enter Tryz.func149,Tryz.ntmps149;go_wp2_with (go_at_call 146;refine(Hu _ _ _).mono ?_;rintro e a ⟨rfl,rfl⟩);all_goals go_ret
 all_goals exact⟨U,U⟩
def aoW(c:Int)(w:Í): Ò À 102 #[Å ū c] w λe a=>e=Ç (Å É<|Lz c)/\a=w:=by
 go_enter Tryz.func102,Tryz.ntmps102;go_wp2;all_goals go_ret
 all_goals refine⟨Dt ?_,U⟩
 all_goals simp only[beq_iff_eq,beq_eq_false_iff_ne,ne_eq]at*
 all_goals simp[Lz, *]
def aoX(c:Int)(w:Í): Ò À 97 #[Å ū c] w λe a=>e=Ç (Å É<|xe c)/\a=w:=by
 go_enter Tryz.func97,Tryz.ntmps97;go_wp2;all_goals go_ret
 all_goals refine⟨Dt ?_,U⟩
 all_goals simp only[beq_iff_eq,beq_eq_false_iff_ne,ne_eq]at*
 all_goals simp[xe, *]
def Z_(b c:Int)(d:0<=c)(f:c<256)(w:Í): Ò À 104 #[Å ū b,Å ū c] w λe a=>e=Ç (õ<|pL b c)/\a=w:=by
 go_enter Tryz.func104,Tryz.ntmps104;go_wp2_with (first|(go_at_call 94;refine(rm _ _).mono ?_;rintro e a ⟨rfl,rfl⟩)|(go_at_call 98;refine(SU _ d f _).mono ?_;rintro e a ⟨rfl,rfl⟩)|(go_at_call 149;refine(aoV _ d f _).mono ?_;rintro e a ⟨rfl,rfl⟩));all_goals go_ret
 all_goals refine⟨YY ?_,U⟩
 all_goals try go_light
 all_goals simp only[beq_iff_eq,beq_eq_false_iff_ne,ne_eq]at*
 all_goals unfold pL
 all_goals first|(simp[LA, *];done)|(rw[Ě];simp[*];done)|(rw[Ě];simp[*];omega)
def aoY(k:Int)(w:Í): Ò À 145 #[Å É k] w λe a=>(∃b:ByteArray,e=Ç (Ä b)/\b.size<=10/\jL b=vh k)/\a=w:=by
 go_enter Tryz.func145,Tryz.ntmps145;go_wp2;all_goals go_ret
 all_goals refine⟨⟨_,U,?_,?_⟩,U⟩
 all_goals try go_light
 all_goals simp only[beq_iff_eq,beq_eq_false_iff_ne,ne_eq]at*
 all_goals first|(simp[jL,vh, *];done)|decide
def aoZ(k:Int)(w:Í): Ò À 148 #[Å É k] w λe a=>(∃b:ByteArray,e=Ç (Ä b)/\b.size<=10/\jL b=vi k)/\a=w:=by
 go_enter Tryz.func148,Tryz.ntmps148;go_wp2;all_goals go_ret
 all_goals refine⟨⟨_,U,?_,?_⟩,U⟩
 all_goals try go_light
 all_goals simp only[beq_iff_eq,beq_eq_false_iff_ne,ne_eq]at*
 all_goals first|(simp[jL,vi, *];done)|decide
def mB(m s:Nat):Ñ->Prop
 |Å ū _=>False
 |Å _ _=>True
 |õ _=>True
 |Ä _=>True
 |Ã Á=>True
 |Ã (Â a)=>m<=a.block/\a.block<s
 |Æ Á _ _=>True
 |Æ (Â a) _ _=>m<=a.block/\a.block<s
 |_=>False
def mB.r(h:mB m i v)(d:i<=n):mB m n v:=by
 cases v with
 |int k b=>cases k<;>exact h
 |pointer a=>cases a with
  |none=>trivial
  |some a=>exact⟨h.1,Ģ h.2 d⟩
 |slice a b c=>cases a with
  |none=>trivial
  |some a=>exact⟨h.1,Ģ h.2 d⟩
 |_=>exact h
def LB(m s:Nat)(o:Obj):Prop:=∃c e a,o=Û c e a/\a.2<=c.size/\0<c.size/\e≠304/\e≠305/\∀v∈c.toList,mB m s v
def jq(m:Nat)(w:Í):Prop:=∀i o,m<=i->w.heap[i]?=Â o->LB m w.heap.size o
def LB.r{o:Obj}(h:LB m i o)(a:i<=n):LB m n o:=by let⟨c,e,b,d,f,g,j,k,l⟩:=h;exact⟨c,e,b,d,f,g,j,k,λv p=>(l v p).r a⟩
def jq.I(w:Í):jq w.heap.size w:=λi o a h=>by rw[ı a]at h;cases h
def jq.fN(h:jq m w):jq m w.drew:=h
def jq.iJ(h:jq m w)(n:Nat):jq m (w.drewN n):=h
theorem jq.gC(h:jq m w)(cs:Array Ñ)(t:Ď)(c:0<cs.size)(b:t≠304/\t≠305)(d:∀v∈cs.toList,mB m w.heap.size v):jq m (w.alloc<|Û cs t):=by
 intro i o f a;have k:(w.alloc<|Û cs t).heap.size=w.heap.size+1:=fh
 by_cases e:i<w.heap.size
 .rw[Š _ _ _ e]at a;exact(h i o f a).r Z
 .by_cases g:i=w.heap.size
  .subst g;rw[Ŵ]at a;cases a;exact⟨cs,t,(0,0),U,Ø _,c,b.1,b.2,λv j=>(d v j).r Z⟩
  .grind
def jq.r(h:jq m w)(p:ù)(l:mB m w.heap.size v):jq m (w.setCell p v):=by
 intro i o f a;have n:(w.setCell p v).heap.size=w.heap.size:=fh
 rw[n];by_cases e:i=p.block
 .subst e;unfold Ż at a;simp only[Ķ,if_true]at a;cases d:w.heap[p.block]? with
  |none=>rw[d]at a;cases a
  |some x=>
   rw[d]at a;obtain⟨c,e,r,rfl,g,j,s,t,k⟩:=h _ _ f d;simp only[Ă,Ô]at a;subst a;refine⟨_,e,r,U,?_,?_,s,t,λu b=> ?_⟩
   .split
    .exact g
    .rwa[Ĭ]
   .split
    .exact j
    .rwa[Ĭ]
   .split at b
    .exact k u b
    .rw[Array.toList_setIfInBounds]at b;rcases Ĩ b with q|q
     .exact k u q
     .rwa[q]
 .rw[ģ _ _ _ _ (by simpa using e)]at a;exact h i o f a
theorem ao0{ty:Ď}{bytes base:Nat}(y:P.underlying t=Â (.slice e))(B:P.info? e=Â zJ)(G:zJ.zero=Â (Ã Á)) (s:zJ.size=1) (H:zJ.bytes=bytes) (f:w.ownsRow base e 1 v n l) (a:ù) (c:Nat) (C:∀j M,[z][j]?=Â M->w.cell? (a.add j)=Â M) (N:z.oneCell'=Î) (O:n+1<=đ) (I:(n+1)*bytes<=140737488355328) (W:base<=w.heap.size) (X:lM e=Ë) (hm:m<=base) (D:jq m w) (hg:mB m w.heap.size z) (Y:e≠304/\e≠305): ∃h u,(ę #[t,t] ty #[v,Æ (Â a) 1 c]).run P w=.ok h u/\pA w base e 1 v n l 1 [z] h u/\jq m u/\mB m u.heap.size h:=by
 obtain⟨h,u,J,E⟩:=Rj y B G s H U f a c [z] Z U C (λx b=>by simp at b;subst b;exact N) O I W<|È X;have hgv:mB m u.heap.size h:=by
  obtain⟨p,o,rfl⟩:=jy E.fi;cases p with
  |none=>trivial
  |some p=>
   have k:=E.fi.lt p.block (by rcases E.fi.2 with⟨q,_⟩|⟨g,r,d,q,_⟩<;>(cases q;try rfl));exact⟨Z,k.2⟩
 refine⟨h,u,J,E,?_,hgv⟩;have q:[z].length=1*zJ.size:=by rw[s];rfl
 have hlx:l.length=n*zJ.size:=by rw[s];exact f.1
 have ajL:n+1<=9223372036854775807:=by simp only[đ]at O;omega
 have FI:∀x∈l,mB m w.heap.size x:=λx b=>by
  rcases f.2 with⟨_,rfl⟩|⟨g,r,d,rfl,hbg,p,hnc,hcm,Q,htake⟩
  .grind
  .let⟨c2,e2,pR,S,_,_,_,_,q6⟩:=D g _ Z p;grind
 have gr:∀T,jq m (w.drew.alloc<|Û (l.toArray++[z].toArray++φ (Ĺ<|Ã Á) (grownCap w (n+1) T e-(n+1))) e):=λT=>by
  refine jq.gC D _ _ (by simp;omega) Y λx b=> ?_;simp only[Array.toList_append,â]at b;rcases b with(b|b)|b
  .exact FI x b
  .grind
  .have:=Ri b;simp[Ĺ]at this;subst this;trivial
 rcases f.2 with⟨rfl,rfl⟩|⟨g,r,d,rfl,hbg,p,hnc,hcm,Q,htake⟩
 .have b:=Ý (by simpa using f.1);subst b;have K:=run_append_nil w t ty e zJ (Ã Á) y B G a 1 c [z] q C Z Z (by rw[H];have k:=I;simp only[œ]at k;omega);grind
 .by_cases ao1:n+1<=r
  .have Rk:n*zJ.size+[z].length<=d.size:=by rw[q,Q,s];omega
   have K:=run_append_room w t ty e zJ y B g n r d p a 1 c [z] q C (λx b=>by simp at b;subst b;exact N) ao1 Rk;rw[K]at J;cases J;have ao2:=setRow_heap w g d (d.toList.take (n*zJ.size)++[z]++d.toList.drop (n*zJ.size+[z].length)).toArray e _ p;have ao3:=λk (L:k≠g)=>setRow_other w g k (d.toList.take (n*zJ.size)++[z]++d.toList.drop (n*zJ.size+[z].length)).toArray L;let⟨c2,e2,pR,S,q2,q3,q4,q5,q6⟩:=D g _ Z p;cases S;intro k o L F;have jC:(w.setRow g (d.toList.take (n*zJ.size)++[z]++d.toList.drop (n*zJ.size+[z].length)).toArray).heap.size=w.heap.size:=fh
   rw[jC];by_cases V:k=g
   .subst V;rw[ao2]at F;cases F;refine⟨_,_,_,U,fh,(by simp;omega),q4,q5,λx b=> ?_⟩;grind
   .rw[ao3 k V]at F;exact D k o L F
  .have k:w.ownsRow base e zJ.size (Æ (Â ⟨g,0,Á⟩) n r) n l:=by rwa[s]
   have K:=run_append_grow w t ty e zJ (Ã Á) y B G ⟨g,0,Á⟩ n r l hlx (k.cells U) a 1 c [z] q C Z Z (by rw[H];exact growslice_fits Z I);grind
def Z'{f:Array ğ}{E:Prop}{base:Nat} (k:o.guard=Á) (s x:Operand) (t:Ď) (p:o.op=Op.call {callee:=Callee.builtin κ,args:=#[s,x],argTypes:=#[t,t]}) {bytes:Nat} (q:P.underlying t=Â (.slice e)) (r:P.info? e=Â zJ) (B:zJ.zero=Â (Ã Á)) (C:zJ.size=1) (D:zJ.bytes=bytes) (F:y.eval s=v) (G:w.ownsRow base e 1 v n l) (ad:ù) (H:y.eval x=Æ (Â ad) 1 b) (I:∀j g,[z][j]?=Â g->w.cell? (ad.add j)=Â g) (J:z.oneCell'=Î) (L:n+1<=đ) (M:(n+1)*bytes<=140737488355328) (N:base<=w.heap.size) (O:lM e=Ë) (S:m<=base) (T:jq m w) (V:mB m w.heap.size z) (W:e≠304/\e≠305) (h:∀d u,pA w base e 1 v n l 1 [z] d u->jq m u->mB m u.heap.size d->K (y.put o.dst d) u): if ē o (Ι f y.tmps)=Î then Oper.wp P o y w K vJ else E:=by
 have X:ē o (Ι f y.tmps)=Î:=by simp[ē,k]
 rw[if_pos X];let⟨d,u,Y,h2,h3,h4⟩:=ao0 (ty:=o.type) q r B C D G ad b I J L M N O S T V W;unfold Oper.wp;simp[ś,p,ρ,ak,ς,F,H,Y,ų];exact h d u h2 h3 h4
def mV(l:List Nat):List Ñ:=l.map λa=>Ã<|Â ⟨a,0,Á⟩
def nS(l:List Int):List Ñ:=l.map λz=>Å É z
def Ej(p:PT):List Ñ:=nS p.c++[Ä p.p]
def BN(c:List Int)(a:Ñ):List Ñ:=nS c++[a]
structure ou(lo hi:Nat)(tb:List Nat)(l:List PT)(w:Í):Prop where
 r:tb.length=l.length
 I:∀(j a:Nat) (p:PT),tb[j]?=Â a->l[j]?=Â p->lo<=a/\a<hi/\p.c.length=5/\fe a (Ej p) 200 w
structure vl(B q:Nat)(r:PR)(w:Í):Prop where
 M:q<B
 C:r.c.length=8
 I:∃vb tb,fe q (BN r.c vb) 161 w/\w.ownsRow 0 149 1 vb tb.length (mV tb)/\(∀j,vb.ownBlock=Â j->j<B)/\ou 0 B tb r.r w
structure oW(B:Nat)(qs:List Nat)(rs:List PR)(w:Í):Prop where
 I:qs.length=rs.length
 M:∀(j q:Nat) (r:PR),qs[j]?=Â q->rs[j]?=Â r->vl B q r w
section
variable{w':Í}{lo hi B q:Nat}{tb qs:List Nat}{l:List PT}{r:PR}{rs:List PR}
def ou.C(h:ou lo hi tb l w)(k:eZ X w w')(f:∀a c g,lo<=a->a<hi->w.heap[a]?=Â (Û c 200 g)->¬X a):ou lo hi tb l w':= ⟨h.r,λj a p i m=>by let⟨b,d,n,e⟩:=h.I j a p i m;exact⟨b,d,n,e.I k<|f a _ _ b d e⟩⟩
def ou.M(h:ou lo hi tb l w)(f:i<=lo)(g:hi<=n):ou i n tb l w:= ⟨h.r,λj a p b c=>by let⟨k,m,d,e⟩:=h.I j a p b c;exact⟨Z,Z,d,e⟩⟩
theorem ou.N(lo hi:Nat)(w:Í):ou lo hi [] [] w:=⟨U,λj a p h=>by cases h⟩
theorem Ek{α:Type}{l:List α}{a x:α}(h:(l++[a])[j]?=Â x):l[j]?=Â x\/j=l.length/\x=a:=by grind
theorem ou.SV{p:PT}(h:ou lo hi tb l w)(g:lo<=i)(k:i<hi)(m:p.c.length=5)(n:fe i (Ej p) 200 w):ou lo hi (tb++[i]) (l++[p]) w:=by
 refine⟨by simp[h.r],λj x y d b=> ?_⟩;rcases Ek d with e|⟨e,rfl⟩
 .rcases Ek b with f|⟨f,rfl⟩
  .exact h.I j x y e f
  .have:=(Õ.1 e).1;have:=h.r;omega
 .rcases Ek b with f|⟨f,rfl⟩
  .have:=(Õ.1 f).1;have:=h.r;omega
  .grind
def SY(B:Nat)(w:Í)(i:Nat):Prop:=B<=i\/∃c T a,w.heap[i]?=Â (Û c T a)/\(T=153\/T=148)
theorem SZ(a:SY B w i)(hi:i<B)(h:w.heap[i]?=Â (Û d T xJ))(b:T≠153/\T≠148):False:=by rcases a with q|⟨e,f,pR,g,j⟩;all_goals grind
theorem vl.uJ(h:vl B q r w)(k:eZ X w w')(d:∀i,i<w.heap.size->X i->SY B w i):vl B q r w':=by let⟨f,tb,b,g,l,m⟩:=h.I;refine⟨h.M,h.C,f,tb,b.I k λx=>SZ (d q b.M x) h.M b A,gW g k λj o x=> ?_,l,m.C k λa c p _ n e x=>SZ (d a (á.1 e).1 x) n e A⟩;grind [ly,SZ]
def vl.fI(h:vl B q r w)(a:B<=i):vl i q r w:=by let⟨b,tb,c,d,e,f⟩:=h.I;exact⟨by have:=h.M;omega,h.C,b,tb,c,d,λj g=>by have:=e j g;omega,f.M (æ _) a⟩
def oW.C(h:oW B qs rs w)(k:eZ X w w')(a:∀i,i<w.heap.size->X i->SY B w i):oW B qs rs w':= ⟨h.I,λj q r b c=>(h.M j q r b c).uJ k a⟩
def oW.SV(h:oW B qs rs w)(b:B<=i)(c:vl i q r w):oW i (qs++[q]) (rs++[r]) w:=by
 refine⟨by simp[h.I],λj x y d a=> ?_⟩;rcases Ek d with e|⟨e,rfl⟩
 .rcases Ek a with f|⟨f,rfl⟩
  .exact(h.M j x y e f).fI b
  .have:=(Õ.1 e).1;have:=h.I;omega
 .rcases Ek a with f|⟨f,rfl⟩
  .have:=(Õ.1 f).1;have:=h.I;omega
  .exact c
theorem oW.N(B:Nat)(w:Í):oW B [] [] w:=⟨U,λj q r h=>by cases h⟩
end
structure Gh where
 a:List Nat
 q:Nat
 t:Nat
 B:Nat
 tb:List Nat
 N:Ñ
 r:Ñ
 b:Option ù
namespace Gh
def C(g:Gh)(d:PD):List Nat:=if d.r then g.a++[g.q]else g.a
def I(g:Gh)(d:PD):List Nat:=if d.M then g.tb++[g.t]else g.tb
def S(g:Gh)(d:PD):Option ù:=if d.r then Â ⟨g.q,0,Á⟩else Á
def Y(g:Gh)(d:PD):Option ù:=if d.M then Â ⟨g.t,0,Á⟩else g.b
def M(g:Gh)(d:PD):Nat:=if d.M then g.t else g.q
def G(g:Gh)(d:PD):Option ù:=if d.r then Â ⟨g.M d,0,Á⟩else Á
def BO(g:Gh)(d:PD)(a:Int):ù:=if a=86 then⟨g.q,5,Á⟩else if a=87 then⟨g.q,6,Á⟩else if a=110 then⟨g.M d,2,Á⟩else⟨g.M d,3,Á⟩
end Gh
structure vm(m:Nat)(g:Gh)(d:PD)(w:Í):Prop where
 S:m<=g.B
 N:g.B<=g.q
 M:d.I.c.length=8
 r:fe g.q (BN d.I.c g.r) 161 w
 I:w.ownsRow g.B 149 1 g.r (g.I d).length (mV<|g.I d)
 Y:ou g.B g.t g.tb d.I.r w
 C:d.M=Î->g.B<=g.t/\d.N.c.length=5/\fe g.t (Ej d.N) 200 w
 a:d.M=Ë->g.tb=[]/\d.I.r=[]
structure kG(m:Nat)(g:Gh)(d:PD)(w:Í):Prop where
 C:w.ownsRow m 148 1 g.N (g.C d).length (mV<|g.C d)
 I:oW g.B g.a d.S w
 r:d.r=Î->vm m g d w
 N:d.r=Ë->d.M=Ë
def S0(s:ByteArray)(g:Gh)(d:PD)(a:Option ù)(kP b:Int):List Ñ:=
 [Ä s,g.N,Ã<|g.S d,Ã<|g.Y d,Ã<|g.G d,Ã a,Å É kP,Å É b]
structure gL(m b:Nat)(g:Gh)(c:Option ù)(s:ByteArray)(st:PS)(w:Í):Prop where
 S:m<=b
 a:jq m w
 r:fe b (S0 s g st.d c st.r st.I) 153 w
 M:s.size<=10
 I:jL s=st.C
 C:kG m g st.d w
 c:0<st.r->st.d.r=Î/\c=Â (g.BO st.d st.M)
 N:st.d.r=Î\/st.C=[82]
def rn(m b:Nat)(st:PS)(w a:Í):Prop:=eZ (λi=>m<=i) w a/\∃g i s,gL m b g i s st a
section
variable{w':Í}{g:Gh}{d:PD}{s:ByteArray}{st:PS}
theorem vm.uJ(h:vm m g d w)(k:eZ X w w')(p:∀i c T b,w.heap[i]?=Â (Û c T b)->X i->T=153\/T=148):vm m g d w':=by
 have l:∀{i:Nat} {c:Array Ñ} {T:Ď} {b:Nat×Nat},w.heap[i]?=Â (Û c T b)->(T≠153/\T≠148)->¬X i:=λ{i c T b} n f x=>(p i c T b n x).elim f.1 f.2;refine⟨h.S,h.N,h.M,h.r.I k<|l h.r A,gW h.I k λj r=> ?_,h.Y.C k λa c b _ _ q=>l q A,λe=> ?_,h.a⟩
 .let⟨o,s⟩:=ly h.I r;grind
 .let⟨n,f,o⟩:=h.C e;exact⟨n,f,o.I k<|l o A⟩
theorem kG.S(h:kG m g d w)(k:eZ X w w')(b:∀i c T a,w.heap[i]?=Â (Û c T a)->X i->T=153)(f:∀i,i<w.heap.size->X i->∃c a,w.heap[i]?=Â (Û c 153 a)):kG m g d w':=by
 refine⟨gW h.C k λj l x=> ?_,h.I.C k λi n x=> ?_,λe=>(h.r e).uJ k λi c T a q x=>È<|b i c T a q x,h.N⟩
 .let⟨o,q⟩:=ly h.C l;grind
 .let⟨c,a,q⟩:=f i n x;exact Ï ⟨c,_,a,q,È U⟩
def kG.M(h:kG m g d w)(a:fe b l 153 w)(k:eZ (λi=>i=b) w w'):kG m g d w':= h.S k (λi c T e q x=>by subst x;unfold fe at a;rw[a]at q;cases q;rfl) λi _ x=>⟨l.toArray,(0,0),by rwa[x]⟩
def oX{i:Nat}{v:Value}{j:Nat}{vs:List Value}{T:TypeId}(h:fe j vs T w)(hT:lM T=false:=by decide):eZ (λk=>k=j) w (w.setCell ⟨j,i,none⟩ v):=eZ.I (X:=λk=>k=j) U v<|Ï<|h.G hT
def kG.aac(h:kG m g d w):(g.C d).length=d.C.length:=by unfold Gh.C PD.C;split<;>simp[h.I.I]
def vm.G(h:vm m g d w):(g.I d).length=d.Y.length:=by unfold Gh.I PD.Y;split<;>simp[h.Y.r]
def S2(h:i<zQ.length)(v:Ñ):(nS zQ++[v])[i]?=Â (Å É<|zQ.getD i 0):=by rw[Ħ (by simpa[nS]using h)];simp[nS,Ġ,h]
def aad(l:List Int)(i:Nat)(z:Int)(v:Ñ)(h:i<l.length):(nS l++[v]).set i (Å É z)=nS (l.set i z)++[v]:=by rw[List.set_append_left _ _ (by simpa[nS]using h)];simp[nS,List.map_set]
def aae(l:List Int)(v u:Ñ):(nS l++[v]).set l.length u=nS l++[u]:=by rw[Ĵ _ _ (by simp[nS])];simp[nS]
def BP(l:List Int)(v:Ñ):(nS l++[v])[l.length]?=Â v:=by rw[ġ (by simp[nS])];simp[nS]
theorem kG.Y(h:kG m g d w)(on:d.r=Î)(n:i<8)(z:Int):kG m g (d.tZ i z) (w.setCell ⟨g.q,i,Á⟩<|Å É z):=by
 have l:=h.r on;have k:eZ (λk=>k=g.q) w (w.setCell ⟨g.q,i,Á⟩<|Å É z):=oX l.r;have r:=l.N;refine⟨gW h.C k λj b x=>jo h.C l.r A (by rw[b,x]),h.I.C k λi _ x=>È Z,λ_=>⟨l.S,l.N,by simp[PD.tZ,l.M],?_,gW l.I k λj b x=>jo l.I l.r A (by rw[b,x]),l.Y.C k λa c s _ _ q x=> ?_,λe=> ?_,l.a⟩,h.N⟩
 .have:=l.r.fX i<|Å É z;unfold BN at this;rw[aad _ _ _ _ (by rwa[l.M])]at this;exact this
 .have:=l.r;unfold fe at this;grind
 .let⟨o,p,f⟩:=l.C e;exact⟨o,p,f.I k λx=>(fe.S f l.r A) x⟩
theorem kG.kv(h:kG m g d w)(on:d.r=Î)(f:d.M=Î){p:PT}(n:p.c.length=5)(r:(Ej d.N).set i v=Ej p):kG m g {d with N:=p} (w.setCell ⟨g.t,i,Á⟩ v):=by have l:=h.r on;let⟨o,s,b⟩:=l.C f;have k:eZ (λk=>k=g.t) w (w.setCell ⟨g.t,i,Á⟩ v):=oX b;refine⟨gW h.C k λj e x=>jo h.C b A (by rw[e,x]),h.I.C k λi _ x=>È Z,λ_=>⟨l.S,l.N,l.M,l.r.I k λx=>(fe.S l.r b A) x,gW l.I k λj e x=>jo l.I b A (by rw[e,x]),l.Y.C k λa c u _ q _ x=>by omega,λ_=>⟨o,n,?_⟩,l.a⟩,h.N⟩;have:=b.fX i v;grind
def kG.G(h:kG m g d w)(on:d.r=Î)(a:d.M=Î)(c:i<5)(z:Int):kG m g (d.vk i z) (w.setCell ⟨g.t,i,Á⟩<|Å É z):=by let⟨e,b,f⟩:=(h.r on).C a;exact h.kv on a (by simp[b])<|aad _ _ _ _<|by rwa[b]
def kG.su(h:kG m g d w)(on:d.r=Î)(a:d.M=Î)(p:ByteArray):kG m g (d.su p) (w.setCell ⟨g.t,5,Á⟩<|Ä p):=by let⟨e,b,f⟩:=(h.r on).C a;refine h.kv on a b ?_;have:=aae d.N.c (Ä d.N.p)<|Ä p;rwa[b]at this
structure pM(m b:Nat)(g:Gh)(d:PD)(ab ao:Nat)(f:Int->PD)(x:Int)(w:Í):Prop where
 r:ab≠b
 N:m<=ab
 a:ab<w.heap.size
 C:w.cell? ⟨ab,ao,Á⟩=Â (Å É x)
 I:w.frozen? ⟨ab,ao,Á⟩=Ë
 nf:NF ab w
 Y:∀W,kG m g d W->∀z,kG m g (f z)<|W.setCell ⟨ab,ao,Á⟩<|Å É z
 M:∀z,g.S (f z)=g.S d/\g.Y (f z)=g.Y d/\g.G (f z)=g.G d/\(f z).r=d.r/\∀n,g.BO (f z) n=g.BO d n
theorem El(h:kG m g d w)(f:fe b l 153 w)(on:d.r=Î)(e:i<8):pM m b g d g.q i (λz=>d.tZ i z) (d.I.c.getD i 0) w:=by have a:=h.r on;exact⟨fe.S a.r f A,Ì a.S a.N,a.r.M,a.r.r i _ (S2 (by rwa[a.M]) _),a.r.C i,a.r.G,λW j z=>j.Y on e z,λz=>⟨U,U,U,U,λn=>rfl⟩⟩
theorem aaf(h:kG m g d w)(k:fe b l 153 w)(on:d.r=Î)(f:d.M=Î)(j:i<5):pM m b g d g.t i (λz=>d.vk i z) (d.N.c.getD i 0) w:=by have a:=h.r on;let⟨o,p,e⟩:=a.C f;exact⟨fe.S e k A,Ì a.S o,e.M,e.r i _ (S2 (by rwa[p]) _),e.C i,e.G,λW q z=>q.G on f j z,λz=>⟨U,U,U,U,λn=>rfl⟩⟩
theorem Em(h:kG m g d w)(a:fe b l 153 w)(on:d.r=Î)(c:i<4):pM m b g d (g.M d) i (λz=>d.kv i z) (d.xf i) w:=by unfold PD.kv PD.xf Gh.M;split;all_goals grind [aaf,El]
theorem gL.G{f:Int->PD}(h:gL m b g O s st w)(n:pM m b g st.d i j f c w)(z:Int):gL m b g O s {st with d:=f z} (w.setCell ⟨i,j,Á⟩<|Å É z):=by
 let⟨e,l,o,a,p⟩:=n.M z;have k:eZ (λk=>k=i) w (w.setCell ⟨i,j,Á⟩<|Å É z):=eZ.I (X:=λk=>k=i) U _<|È U;refine⟨h.S,h.a.r _ trivial,?_,h.M,h.I,n.Y w h.C z,λq=> ?_,?_⟩
 .have:=h.r.I k λc=>n.r c.symm;unfold S0 at this|-;grind
 .let⟨r,t⟩:=h.c q;grind
 .simp only[a];exact h.N
def gL.LC(h:gL m b g O s st w)(a:ByteArray)(r:List Int)(c:a.size<=10)(e:jL a=r)(f:st.d.r=Î\/r=[82]):gL m b g O a {st with C:=r} (w.setCell ⟨b,0,Á⟩<|Ä a):= ⟨h.S,h.a.r _ trivial,h.r.fX 0 _,c,e,h.C.M h.r<|oX h.r,h.c,f⟩
def gL.Y(h:gL m b g O s st w)(z:Int)(a:0<z->st.d.r=Î/\O=Â (g.BO st.d st.M)):gL m b g O s {st with r:=z} (w.setCell ⟨b,6,Á⟩<|Å É z):= ⟨h.S,h.a.r _ trivial,h.r.fX 6 _,h.M,h.I,h.C.M h.r<|oX h.r,a,h.N⟩
def gL.aag(h:gL m b g O s st w)(z:Int):gL m b g O s {st with I:=z} (w.setCell ⟨b,7,Á⟩<|Å É z):= ⟨h.S,h.a.r _ trivial,h.r.fX 7 _,h.M,h.I,h.C.M h.r<|oX h.r,h.c,h.N⟩
def gL.aah(h:gL m b g O s st w)(a:ù)(n:Int)(d:st.r=0)(c:m<=a.block/\a.block<w.heap.size):gL m b g (Â a) s {st with M:=n} (w.setCell ⟨b,5,Á⟩<|Ã<|Â a):= ⟨h.S,h.a.r _ c,h.r.fX 5 _,h.M,h.I,h.C.M h.r<|oX h.r,λq=>by have:0<st.r:=q;omega,h.N⟩
def gL.fN(h:gL m b g O s st w):gL m b g O s st w.drew:=by have k:=eZ.fN e9 w;exact⟨h.S,h.a,h.r.I k id,h.M,h.I,h.C.S k (λ_ _ _ _ _ x=>x.elim) λ_ _ x=>x.elim,h.c,h.N⟩
end
section
variable{g:Gh}{st:PS}{f:Int->PD}
def pM.S{d:PD}(a:pM m b g d n j f h w)(i:Nat)(v:Ñ):pM m b g d n j f h (w.setCell ⟨b,i,Á⟩ v):= ⟨a.r,a.N,by simpa using a.a,by rw[GN<|Ne.symm a.r];exact a.C,by rw[World.frozen?_setCell];exact a.I,λc T e q=>a.nf c T e (by rwa[ģ _ _ _ _ (by simpa using a.r)]at q),a.Y,a.M⟩
def gL.S3(h:gL m b g O B st w)(n:Int)(a:st.r=0):gL m b g O B {st with M:=n} w:= ⟨h.S,h.a,h.r,h.M,h.I,h.C,λq=>by have:0<st.r:=q;omega,h.N⟩
def me(h:gL m b g O B st w)(i:Nat)(v:Ñ):eZ (λi=>m<=i) w (w.setCell ⟨b,i,Á⟩ v):=eZ.I (X:=λi=>m<=i) (p:=⟨b,i,Á⟩) h.S v<|Ï h.r.G
def En(a:pM m b g st.d n j f h w)(z:Int):eZ (λi=>m<=i) w (w.setCell ⟨n,j,Á⟩<|Å É z):=eZ.I (X:=λi=>m<=i) (p:=⟨n,j,Á⟩) a.N _<|È U
def vn(c a:Int):Int:=if c=104\/c=48 then 0 else a-1
def mA(c:Int):Int:=if c=104 then-1 else(c-48)%256
def S4{st:PS}(h:st.r=0)(n:Int)(d:PD):({st with r:=0,M:=n,d:=d}:PS)={st with M:=n,d:=d}:=by rw[<-h]
def LD(a:gL m b g O B st w)(k:pM m b g st.d n j f h w)(l:st.r=0)(p:st.d.r=Î)(c o i:Int)(C:0<=o)(D:o<=6)(q:∀z,g.BO (f z) i=⟨n,j,Á⟩): Ò À 147 #[Ã<|Â ⟨b,0,Á⟩,Ã<|Â ⟨n,j,Á⟩,Å ū c,Å É o] w λe u=>
  e=Ç (ë #[])/\rn m b {st with r:=vn c o,M:=i,d:=f (mA c)} w u:=by
 have E:=a.r.r 5 _ U;have F:=a.r.r 6 _ U;have G:=a.r.C 5;have I:=a.r.C 6;have J:=k.C;have K:=k.I;have L:=k.r;have M:¬b=n:=λe=>k.r e.symm;have t:m<=n/\n<w.heap.size:=⟨k.N,k.a⟩;have H:=e8<|Ê a<|Ê k<|Ê q<|Ê l p;by_cases s:c=104
 .subst s;go_enter Ŗ,ŋ;go_wp2;first|go_end0|refine ÿ (results_none U _ _ _) U ?_
  let⟨a,k,q,l,p⟩:=H.out;refine⟨U,En k _,g,O,B,?_⟩;have:=(a.G k<|-1).S3 i l;rw[show vn 104 o=0 from if_pos<|È U,S4 l];exact this
 .have N:(c==104)=Ë:=by rwa[beq_eq_false_iff_ne]
  have v:mA c=(c-48)%256:=if_neg s;by_cases y:c=48
  .subst y;go_enter Ŗ,ŋ;go_wp2;go_end0;let⟨a,k,q,l,p⟩:=H.out;have x:=a.aah ⟨n,j,Á⟩ i l t;have r:=k.S 5<|Ã<|Â ⟨n,j,Á⟩;refine⟨U,(me a 5 _).fc<|En r _,g,Â ⟨n,j,Á⟩,B,?_⟩;have:=x.G r 0;rw[show vn 48 o=0 from if_pos<|Ï U,S4 l,v];exact this
  .go_enter Ŗ,ŋ;go_wp2;go_end0;let⟨a,k,q,l,p⟩:=H.out;have r:=k.S 5<|Ã<|Â ⟨n,j,Á⟩;have x:=(a.aah ⟨n,j,Á⟩ i l t).G r<|(c-48)%256;refine⟨U,((me a 5 _).fc<|En r _).fc<|me x 6 _,g,Â ⟨n,j,Á⟩,B,?_⟩;rw[show vn c o=o-1 from if_neg Z,v];exact(x.Y (o-1) λ_=>⟨by simp only;rwa[(k.M _).2.2.2.1],by simp only;rw[q]⟩)
theorem LF{b a:Int}(h:pL a c=Î)(d:(a=86\/a=87)/\b=2\/(a=110\/a=107)/\b=6):vn c b=rj a c:=by unfold vn rj;unfold pL at h;grind [Eh]
theorem LG{a:Int}(h:¬(a=86\/a=87)/\¬(a=110\/a=107)):rj a c=0:=by unfold rj;grind
theorem LH{a:Int}(h:a=86\/a=87\/a=110\/a=107):nz a c=mA c:=by unfold nz mA;grind
def S5(a:gL m b g O B st w)(k:pM m b g st.d n j f h w)(l:st.r=0){i z:Int}(e:c=0)(o:u=(w.setCell ⟨n,j,Á⟩<|Å É z).drew):rn m b {st with r:=c,M:=i,d:=f z} w u:=by subst o;subst e;rw[S4 l];exact⟨(En k z).fc<|eZ.fN _ _,g,O,B,((a.G k z).S3 i l).fN⟩
end
section
variable{g:Gh}{st:PS}
def Hv{d:PD}(a:d.M=Î):g.Y d=Â ⟨g.t,0,Á⟩:=if_pos a
def ao4:zi st 0=Á:=rfl
def ao5(h:gL m b g O B st w)(r:st.r=0)(on:st.d.r=Î)(f:st.d.M=Î)(k:Int): Ò À 101 #[Ã<|Â ⟨b,0,Á⟩,Å É k] w λe u=>match zi st k with
  |none=>e=Ç (õ Ë)/\u=w
  |some a=>e=Ç (õ Î)/\rn m b a w u:=by
 have s:=h.r.r 0 _ U;have o:=h.r.r 3 _ U;have v:=h.r.r 7 _ U;rw[Hv f]at o;have x:=h.r.C 0;have y:=h.r.C 7;have a:=aaf h.C h.r on f (i:=4) A;have z:=a.C;have C:=a.I;have D:=a.r;have E:¬b=g.t:=λe=>a.r e.symm;have H:=e8<|Ê h a;by_cases c:k=0
 .subst c;rw[ao4];go_enter Κ,ż;go_wp2;go_ret;exact⟨U,U⟩
 .have F:(k==0)=Ë:=by rwa[beq_eq_false_iff_ne]
  have e:zi st k=Â {st with C:=vi k,I:=0,d:=st.d.vk 4 k}:=if_neg c;rw[e];go_enter Κ,ż;go_wp2_with (go_at_call 148;refine(aoZ _ _).mono ?_;rintro e u ⟨⟨j,rfl,p,q⟩,l⟩;subst u);go_ret;let⟨h,a⟩:=H.out;have l:=h.G a k;have n:=l.aag 0;exact⟨U,((En a k).fc<|me l 7 _).fc<|me n 0 _,g,O,j,n.LC j _ p q<|È on⟩
end
def ao6:(À.info? 149).map (λi=>(i.zero,i.size,i.bytes))=Â (Â<|Ã Á,1,8):=fl
def ao7:(À.info? 148).map (λi=>(i.zero,i.size,i.bytes))=Â (Â<|Ã Á,1,8):=fl
section
variable{g:Gh}{nm:Option ù}{s:ByteArray}{st:PS}{d:PD}{T:Nat}
structure ug(m:Nat)(g:Gh)(d:PD)(T:Nat)(w:Í):Prop where
 C:w.ownsRow m 148 1 g.N (g.C d).length (mV<|g.C d)
 I:oW g.B g.a d.S w
 N:ou g.B T (g.I d) d.Y w
 tb:fe T (Ej PD.Ef) 200 w
def Hw(x:i=j)(h:fe j l t w):w.heap[i]?=Â (Û l.toArray t (0,0)):=by rwa[x]
theorem ug.r(h:ug m g d T w)(k:eZ X w u)(f:∀i,i<w.heap.size->X i->∃c t b,w.heap[i]?=Â (Û c t b)/\(t=153\/(t=161\/t=149)/\g.B<=i)):ug m g d T u:=by
 have e:∀{i:Nat} {c:Array Ñ} {t:Ď} {b:Nat×Nat},w.heap[i]?=Â (Û c t b)->(t≠153/\t≠161/\t≠149)->¬X i:=λ{i c t b} q1 q2 x=>by grind
 refine⟨gW h.C k λj l=> ?_,h.I.C k λi n x=> ?_,h.N.C k λa c b _ _ q=>e q A,h.tb.I k<|e h.tb A⟩
 .let⟨o,p⟩:=ly h.C l;grind
 .let⟨r,s,pR,o,p⟩:=f i n x;rcases p with rfl|⟨_,z⟩
  .exact Ï ⟨_,_,_,o,È U⟩
  .exact È z
def ug.fG(h:ug m g d T w)(k:eZ e9 w u):ug m g d T u:=h.r k λ_ _ x=>x.elim
def ug.M(h:ug m g d T w)(a:fe b l 153 w):ug m g d T (w.setCell ⟨b,i,Á⟩ v):= h.r (oX a) λi _ x=>⟨_,_,_,Hw x a,È U⟩
theorem vm.aai(l:vm m g d w):ou g.B w.heap.size (g.I d) d.Y w:=by
 unfold Gh.I PD.Y;split
 .rename_i e;let⟨b,c,a⟩:=l.C e;have:=a.M;exact(l.Y.M (æ _) Z).SV b a.M c a
 .rename_i e;let⟨b,c⟩:=l.a (by simpa using e);grind [ou.N]
theorem jq.C(n:jq m w)(g:fe b l e w)(C:m<=b)(p:e≠304/\e≠305)(d:Array Ñ)(t:Ď)(u:0<d.size)(r:t≠304/\t≠305)(h:∀v∈d.toList,mB m (w.heap.size+1) v):jq m ((w.setCell ⟨b,i,Á⟩<|Ã<|Â ⟨w.heap.size,0,Á⟩).alloc<|Û d t):=by
 have s:(w.setCell ⟨b,i,Á⟩<|Ã<|Â ⟨w.heap.size,0,Á⟩).heap.size=w.heap.size:=fh
 have D:=g.M;intro j o k c;have x:((w.setCell ⟨b,i,Á⟩<|Ã<|Â ⟨w.heap.size,0,Á⟩).alloc<|Û d t).heap.size=w.heap.size+1:=fh
 rw[x];by_cases a:j<w.heap.size
 .rw[Š _ _ _ (by rwa[s])]at c;by_cases f:j=b
  .subst f;have:=g.fX i<|Ã<|Â ⟨w.heap.size,0,Á⟩;unfold fe at this;rw[this]at c;cases c;let⟨E,F,G,y,H,z,I,J,B⟩:=n j _ k g;cases y;refine⟨_,_,_,U,fh,by simpa using z,p.1,p.2,λv h=> ?_⟩;rcases Ĩ (by simpa using h)with q|q
   .exact(B v<|by simpa using q).r Z
   .rw[q];exact⟨Ì k<|Nat.le_of_lt a,Nat.lt_succ_self _⟩
  .rw[ģ _ _ _ _ (by simpa using f)]at c;exact(n j o k c).r Z
 .by_cases f:j=w.heap.size
  .have:=Ŵ (w.setCell ⟨b,i,Á⟩<|Ã<|Â ⟨w.heap.size,0,Á⟩)<|Û d t;rw[s]at this;rw[f,this]at c;cases c;exact⟨_,_,_,U,Ø _,u,r.1,r.2,h⟩
  .grind
def LJ(b:Nat)(w:Í):Í:=(w.setCell ⟨b,3,Á⟩<|Ã<|Â ⟨w.heap.size,0,Á⟩).alloc<|Û #[Å É 0,Å É 0,Å É 0,Å É 0,Å É 0,Ä ⟨#[]⟩] 200
def rdM(s:ByteArray)(g:Gh)(d:PD)(a b nm:Option ù)(kP c:Int):List Ñ:=
 [Ä s,g.N,Ã<|g.S d,Ã a,Ã b,Ã nm,Å É kP,Å É c]
structure Eo(m b:Nat)(g:Gh)(d:PD)(T:Nat)(s:ByteArray)(tm nm:Option ù)(kP S6:Int)(w0 w:Í):Prop where
 S:eZ (λi=>m<=i) w0 w
 N:jq m w
 r:fe b (rdM s g d (Â ⟨T,0,Á⟩) tm nm kP S6) 153 w
 M:ug m g d T w
 I:fe g.q (BN d.I.c g.r) 161 w
 C:w.ownsRow g.B 149 1 g.r (g.I d).length (mV<|g.I d)
def Eo.fG{kP:Int}(h:Eo m b g d T s O nm kP c W w)(k:eZ e9 w u)(a:jq m u):Eo m b g d T s O nm kP c W u:= ⟨h.S.C k λ_ _ x=>x.elim,a,h.r.I k id,h.M.fG k,h.I.I k id,gW h.C k λ_ _=>id⟩
theorem gL.ao8(h:gL m b g nm s st w)(on:st.d.r=Î):Eo m b g st.d w.heap.size s (g.G st.d) nm st.r st.I w (LJ b w):=by
 have l:=h.C.r on;have p:(w.setCell ⟨b,3,Á⟩<|Ã<|Â ⟨w.heap.size,0,Á⟩).heap.size=w.heap.size:=fh
 have n:eZ e9 (w.setCell ⟨b,3,Á⟩<|Ã<|Â ⟨w.heap.size,0,Á⟩) (LJ b w):=eZ.gC _ _ _ _;have r:eZ (λk=>k=b) w (w.setCell ⟨b,3,Á⟩<|Ã<|Â ⟨w.heap.size,0,Á⟩):=oX h.r;have e:=r.C n λ_ _ x=>x.elim;refine⟨e.S λk _ x=>by rw[x];exact h.S,?_,(h.r.fX 3 _).I n id,⟨gW h.C.C e λj f x=>jo h.C.C h.r A (by rw[f,x]),h.C.I.C e λi _ x=>Ï ⟨_,_,_,Hw x h.r,È U⟩,l.aai.C e λa c t _ _ q x=> ?_,?_⟩,l.r.I e λx=>fe.S l.r h.r A x,gW l.I e λj f x=>jo l.I h.r A<|by rw[f,x]⟩
 .exact h.a.C h.r h.S A _ _ fh A λv o=>by simp at o;rcases o with rfl|rfl<;>trivial
 .have o:=h.r;unfold fe at o;grind
 .have:=fe.N (w.setCell ⟨b,3,Á⟩<|Ã<|Â ⟨w.heap.size,0,Á⟩) [Å É 0,Å É 0,Å É 0,Å É 0,Å É 0,Ä ⟨#[]⟩] 200;rwa[p]at this
def S7(g:Gh)(d:PD)(T:Nat)(v:Ñ):Gh:={g with t:=T,tb:=g.I d,r:=v}
theorem Eo.jA(h:Eo m b g st.d T s O nm st.r st.I w u)(C:m<=b)(on:st.d.r=Î)(a:m<=g.B/\g.B<=g.q/\st.d.I.c.length=8)(D:g.B<=T)(hd:st.r=0) (l:pA u g.B 149 1 g.r (g.I st.d).length (mV<|g.I st.d) 1 [Ã<|Â ⟨T,0,Á⟩] v W) (K:jq m W) (L:mB m W.heap.size v) (n:jX=((W.setCell ⟨g.q,8,Á⟩ v).setCell ⟨b,4,Á⟩<|Ã<|Â ⟨T,0,Á⟩).setCell ⟨b,0,Á⟩ (Ä ⟨#[84]⟩)): eZ (λi=>m<=i) w jX/\gL m b (S7 g st.d T v) nm ⟨#[84]⟩ {st with C:=[84],d:=st.d.sw} jX:=by
 have E:∀{j:Nat} {M:List Ñ} {t:Ď},fe j M t u->149≠t->¬g.r.ownBlock=Â j:=λN f=>jo h.C N f;have F:=h.r.I l.r<|E h.r A;have f:=h.I.I l.r<|E h.I A;have P:=h.M.r l.r λi _ x=>by let⟨k,z⟩:=ly h.C x;exact⟨_,_,_,z,Ï ⟨Ï U,(h.C.lt i x).1⟩⟩
 have o:eZ (λk=>k=g.q) W (W.setCell ⟨g.q,8,Á⟩ v):=oX f;have G:fe g.q (BN st.d.I.c v) 161 (W.setCell ⟨g.q,8,Á⟩ v):=by have:=f.fX 8 v;have e:=aae st.d.I.c g.r v;rw[a.2.2]at e;unfold BN at this|-;grind
 have z:=F.I o λx=>fe.S F f A x;have H:=P.r o λi _ x=>⟨_,_,_,Hw x f,Ï ⟨È U,by rw[x];exact a.2.1⟩⟩;have I:=gW l.fi o λj p x=>jo l.fi f A (by rw[p,x]);have Q:jq m (W.setCell ⟨g.q,8,Á⟩ v):=K.r _ L;have S:eZ (λk=>k=b) (W.setCell ⟨g.q,8,Á⟩ v) ((W.setCell ⟨g.q,8,Á⟩ v).setCell ⟨b,4,Á⟩<|Ã<|Â ⟨T,0,Á⟩):=oX z;have r:=z.fX 4<|Ã<|Â ⟨T,0,Á⟩;have V:eZ (λk=>k=b) ((W.setCell ⟨g.q,8,Á⟩ v).setCell ⟨b,4,Á⟩<|Ã<|Â ⟨T,0,Á⟩) jX:=by rw[n];exact oX r
 have J:=r.fX 0<|Ä ⟨#[84]⟩;rw[<-n]at J;have k:ug m g st.d T jX:=by rw[n];exact(H.M z).M r
 have y:=S.fc V;have X:=G.I y λx=>fe.S G z A x;have Y:=gW I y λj p x=>jo I z A (by rw[p,x]);have hTl:=H.tb.M;have c5:jq m jX:=by rw[n];refine(Q.r _ ?_).r _ trivial;exact⟨Ì a.1 D,hTl⟩
 have e1:(g.I st.d++[T]).length=(g.I st.d).length+1:=fh
 have e2:mV (g.I st.d++[T])=mV (g.I st.d)++[Ã<|Â ⟨T,0,Á⟩]:=by simp[mV]
 refine⟨((h.S.C l.r λi _ x=> ?_).C o λi _ x=> ?_).C y λi _ x=> ?_,C,c5,?_,A,U,⟨k.C,k.I,λ_=>⟨a.1,a.2.1,a.2.2,X,?_,k.N,λ_=>⟨D,U,k.tb⟩,λe=>by cases e⟩,λe=> ?_⟩,λe=> ?_,È on⟩
 .have:=(h.C.lt i x).1;have:=a.1;omega
 .grind
 .rwa[x]
 .have e:(S7 g st.d T v).S st.d.sw=g.S st.d:=U;unfold S0;rw[e];have e4:(S7 g st.d T v).G st.d.sw=Â ⟨T,0,Á⟩:=if_pos on;rwa[e4]
 .show jX.ownsRow g.B 149 1 v (g.I st.d++[T]).length (mV<|g.I st.d++[T]);rwa[e1,e2]
 .have:st.d.r=Ë:=e;grind
 .grind
def aaj(h:gL m b g nm s st w)(C:st.r=0)(o:st.d.r=Î)(D:st.d.Y.length<=100000): Ò À 99 #[Ã<|Â ⟨b,0,Á⟩] w λe u=>e=Ç (ë #[])/\rn m b {st with C:=[84],d:=st.d.sw} w u:=by
 have Y:=h.r.r 3 _ U;have f3:=h.r.C 3;have gI:=h.r.M;have l:=h.C.r o;have y:=h.ao8 o;have E:=λv=>by have:=BP st.d.I.c v;rwa[l.M]at this
 have F:m<=g.B/\g.B<=g.q/\st.d.I.c.length=8:=⟨l.S,l.N,l.M⟩;have G:g.B<=w.heap.size:=by have:=l.r.M;have:=l.N;omega
 have I:(g.I st.d).length<=100000:=by rwa[l.G]
 have J:=h.S;have H:=e8<|Ê F<|Ê G<|Ê I<|Ê J<|Ê C o;have j:=e8<|E g.r;have x:g.S st.d=Â ⟨g.q,0,Á⟩:=if_pos o;go_enter Tryz.func99,Tryz.ntmps99;go_wp2_with fail;change à À _ _ _ (LJ b w);have k:=y.fG (eZ.fN _ _) y.N.fN;generalize hT:w.heap.size=T at*;generalize L:(LJ b w).drew=w1 at*;let⟨i0,M,N,O,P⟩:=ů ao6;have p:=e8<|Ê M<|Ê N<|Ê O P;refine lP (λu=>u.cell? ⟨b,2,Á⟩=Â (Ã<|g.S st.d)/\u.cell? ⟨b,3,Á⟩=Â (Ã<|Â ⟨T,0,Á⟩)/\u.cell? ⟨g.q,8,Á⟩=Â g.r) [19] fl ?_;rw[L];rw[x];have Q:Hid (w1.cell? ⟨b,2,Á⟩=Â (Ã<|Â ⟨g.q,0,Á⟩)/\w1.cell? ⟨b,3,Á⟩=Â (Ã<|Â ⟨T,0,Á⟩)/\w1.cell? ⟨g.q,8,Á⟩=Â g.r):=e8 ⟨by rw[<-x];exact k.r.r 2 _ U,k.r.r 3 _ U,k.I.r 8 _ j.out⟩;have r:=e8 x;iterate 15 apply tk Q.out
 have S:=k.M.tb.M;have a:=k.fG (eZ.gC e9 w1 #[Ã<|Â ⟨T,0,Á⟩] 149) (k.N.gC _ _ fh A λv f=>by simp at f;subst f;exact⟨Ì H.out.1.1 H.out.2.1,S⟩);apply gu 15;intro K i;go_simp;refine i.out _ _ (λ_=>⟨by rw[<-r.out];exact a.r.r 2 _ U,a.r.r 3 _ U,a.I.r 8 _ j.out⟩) ?_;apply gu 16;intro K i;refine Z' fP _ _ 159 fP Tryz.underlying159 p.out.1 p.out.2.1 p.out.2.2.1 p.out.2.2.2 fP a.C ⟨w1.heap.size,0,Á⟩ fP (Λ w1 _ _) U (by have:=H.out.2.2.1;unfold đ;omega) (by have:=H.out.2.2.1;omega) (by have:=H.out.2.1;have:=a.M.tb.M;omega) A H.out.1.1 a.N ⟨Ì H.out.1.1 H.out.2.1,a.M.tb.M⟩ A ?_;intro v9 w9 t V W;obtain⟨a9,n9c,rfl⟩:=jy t.fi;have f:=a.r.I t.r<|jo a.C a.r A;have n:=a.I.I t.r<|jo a.C a.I A;refine i.out _ _ (λ_=>⟨by rw[<-r.out];exact f.r 2 _ U,f.r 3 _ U,n.r 8 _ j.out⟩) ?_;apply gu 17;intro K i;go_simp;refine i.out _ _ (λ_=>⟨by rw[<-r.out];exact f.r 2 _ U,f.r 3 _ U,n.r 8 _ j.out⟩) ?_;apply gu 18;intro K i;go_simp;refine i.out _ _ (λ_=>⟨by rw[<-r.out];exact f.r 2 _ U,f.r 3 _ U,n.r 8 _ j.out⟩) ?_;have cq8:=n.r 8 _ j.out;have fq8:=n.C 8;have cb4:=f.r 4 _ U;have fb4:=f.C 4;have cb0:=f.r 0 _ U;have fb0:=f.C 0;have cb3:=f.r 3 _ U;have X:=fe.S n f A;have hbq:¬b=g.q:=λe=>X e.symm;apply gu 19;intro K i;go_simp;apply i.out _ _ λz=>absurd A z;refine lA fl ?_ _;have z:=e8<|a.jA H.out.2.2.2.1 o H.out.1 H.out.2.1 H.out.2.2.2.2.1 t V W U;go_wp2_with fail;go_end0;exact⟨U,z.out.1,_,_,_,z.out.2⟩
end
section
variable{g:Gh}{nm:Option ù}{s:ByteArray}{f:PS}{d:PD}{Q:Nat}{k:Int}
def ao9(h:w.ownsRow i e 1 v n l)(c:j<=i):w.ownsRow j e 1 v n l:= ⟨h.1,h.2.imp id λ⟨g,d,f,a,b,r⟩=>⟨g,d,f,a,Ì c b,r⟩⟩
def vm.fV(l:vm m g d w):vl w.heap.size g.q ⟨d.I.c,d.Y⟩ w:= ⟨l.r.M,l.M,g.r,g.I d,l.r,ao9 l.I<|Ø _,λj a=>(l.I.lt j a).2,l.aai.M (Ø _)<|æ _⟩
theorem kG.aak(h:kG m g d w)(a:d.r=Ë->d.S=[]):oW w.heap.size (g.C d) d.C w:=by
 unfold Gh.C PD.C;split
 .rename_i e;have l:=h.r e;have b:=l.r.M;have c:=l.N;exact h.I.SV Z l.fV
 .rename_i e;have f:=a (by simpa using e);have:=h.I.I;grind [Ý,oW.N]
def LK(b:Nat)(k:Int)(w:Í):Í:=(w.setCell ⟨b,2,Á⟩<|Ã<|Â ⟨w.heap.size,0,Á⟩).alloc<|Û #[Å É 0,Å É 0,Å É 0,Å É 0,Å É k,Å É 0,Å É 0,Å É 0,Æ Á 0 0] 161
def rdQ(s:ByteArray)(g:Gh)(d:PD)(Q:Nat)(nm:Option ù)(kP a:Int):List Ñ:=
 [Ä s,g.N,Ã<|Â ⟨Q,0,Á⟩,Ã<|g.Y d,Ã<|g.G d,Ã nm,Å É kP,Å É a]
structure Ep(m b:Nat)(g:Gh)(d:PD)(Q:Nat)(k:Int)(s:ByteArray)(nm:Option ù)(kP S6:Int)(w0 w:Í):Prop where
 S:eZ (λi=>m<=i) w0 w
 M:jq m w
 r:fe b (rdQ s g d Q nm kP S6) 153 w
 I:fe Q (BN (PD.Y_ k).c<|Æ Á 0 0) 161 w
 N:oW Q (g.C d) d.C w
 C:w.ownsRow m 148 1 g.N (g.C d).length (mV<|g.C d)
def Ep.fG{kP:Int}(h:Ep m b g d Q k s nm kP c W w)(a:eZ e9 w u)(e:jq m u):Ep m b g d Q k s nm kP c W u:= ⟨h.S.C a λ_ _ x=>x.elim,e,h.r.I a id,h.I.I a id,h.N.C a λ_ _ x=>x.elim,gW h.C a λ_ _=>id⟩
def gL.apa(h:gL m b g nm s f w)(k:Int)(l:f.d.r=Ë->f.d.S=[]):Ep m b g f.d w.heap.size k s nm f.r f.I w (LK b k w):=by
 have n:(w.setCell ⟨b,2,Á⟩<|Ã<|Â ⟨w.heap.size,0,Á⟩).heap.size=w.heap.size:=fh
 have c:eZ e9 (w.setCell ⟨b,2,Á⟩<|Ã<|Â ⟨w.heap.size,0,Á⟩) (LK b k w):=eZ.gC _ _ _ _;have o:eZ (λk=>k=b) w (w.setCell ⟨b,2,Á⟩<|Ã<|Â ⟨w.heap.size,0,Á⟩):=oX h.r;have a:=o.C c λ_ _ x=>x.elim;refine⟨a.S λk _ x=>by rw[x];exact h.S,?_,(h.r.fX 2 _).I c id,?_,(h.C.aak l).C a λi _ x=>Ï ⟨_,_,_,Hw x h.r,È U⟩,gW h.C.C a λj p x=>jo h.C.C h.r A<|by rw[p,x]⟩
 .exact h.a.C h.r h.S A _ _ fh A λv e=>by simp at e;rcases e with rfl|rfl|rfl|rfl<;>trivial
 .have:=fe.N (w.setCell ⟨b,2,Á⟩<|Ã<|Â ⟨w.heap.size,0,Á⟩) [Å É 0,Å É 0,Å É 0,Å É 0,Å É k,Å É 0,Å É 0,Å É 0,Æ Á 0 0] 161;rwa[n]at this
def apb(g:Gh)(d:PD)(Q:Nat)(v:Ñ):Gh:={a:=g.C d,q:=Q,t:=Q,B:=Q,tb:=[],N:=v,r:=Æ Á 0 0,b:=g.Y d}
theorem Ep.jA{sb:ByteArray}(h:Ep m b g f.d Q k s nm f.r f.I w u)(o:m<=b)(p:m<=Q)(S:f.r=0)(y:sb.size<=10)(B:jL sb=vh k) (a:pA u m 148 1 g.N (g.C f.d).length (mV<|g.C f.d) 1 [Ã<|Â ⟨Q,0,Á⟩] v W) (C:jq m W) (D:mB m W.heap.size v) (l:jX=((W.setCell ⟨b,1,Á⟩ v).setCell ⟨b,4,Á⟩<|Ã<|Â ⟨Q,0,Á⟩).setCell ⟨b,0,Á⟩ (Ä sb)): eZ (λi=>m<=i) w jX/\gL m b (apb g f.d Q v) nm sb {f with C:=vh k,d:=f.d.Ei k} jX:=by
 have c:=h.r.I a.r<|jo h.C h.r A;have n:=h.I.I a.r<|jo h.C h.I A;have E:=h.N.C a.r λi _ x=>by let⟨e,z⟩:=ly h.C x;exact Ï ⟨_,_,_,z,Ï U⟩
 have F:eZ (λk=>k=b) W (W.setCell ⟨b,1,Á⟩ v):=oX c;have q:=c.fX 1 v;have G:eZ (λk=>k=b) (W.setCell ⟨b,1,Á⟩ v) ((W.setCell ⟨b,1,Á⟩ v).setCell ⟨b,4,Á⟩<|Ã<|Â ⟨Q,0,Á⟩):=oX q;have r:=q.fX 4<|Ã<|Â ⟨Q,0,Á⟩;have H:eZ (λk=>k=b) ((W.setCell ⟨b,1,Á⟩ v).setCell ⟨b,4,Á⟩<|Ã<|Â ⟨Q,0,Á⟩) jX:=by rw[l];exact oX r
 have t:=r.fX 0<|Ä sb;rw[<-l]at t;have z:=(F.fc G).fc H;have I:=n.I z λx=>fe.S n c A x;have J:=E.C z λi _ x=>Ï ⟨_,_,_,Hw x c,È U⟩;have K:=gW a.fi z λj L x=>jo a.fi c A (by rw[L,x]);have M:Q<(W.setCell ⟨b,1,Á⟩ v).heap.size:=by simpa using n.M
 have N:jq m jX:=by rw[l];refine((C.r _ D).r _ ?_).r _ trivial;exact⟨p,M⟩
 have O:(g.C f.d++[Q]).length=(g.C f.d).length+1:=fh
 have P:mV (g.C f.d++[Q])=mV (g.C f.d)++[Ã<|Â ⟨Q,0,Á⟩]:=by simp[mV]
 refine⟨(h.S.C a.r λi _ x=> ?_).C z λi _ x=> ?_,o,N,t,y,B,⟨?_,J,λ_=>⟨p,æ _,U,I,?_,ou.N _ _ _,(λe=>by cases e),λ_=>⟨rfl,rfl⟩⟩,(λe=>by cases e)⟩,λe=> ?_,È rfl⟩
 .exact(h.C.lt i x).1
 .rwa[x]
 .show jX.ownsRow m 148 1 v (g.C f.d++[Q]).length (mV<|g.C f.d++[Q]);rwa[O,P]
 .exact⟨U,È ⟨U,U⟩⟩
 .grind
def apc:zh f 0=Á:=rfl
def apd(h:gL m b g nm s f w)(r:f.r=0)(t:f.d.r=Ë->f.d.S=[])(x:f.d.C.length<=100000)(k:Int): Ò À 96 #[Ã<|Â ⟨b,0,Á⟩,Å É k] w λe u=>match zh f k with
  |none=>e=Ç (õ Ë)/\u=w
  |some c=>e=Ç (õ Î)/\rn m b c w u:=by
 by_cases l:k=0
 .subst l;rw[apc];go_enter Ω,Μ;go_wp2;go_ret;exact⟨U,U⟩
 have Q:(k==0)=Ë:=by rwa[beq_eq_false_iff_ne]
 have e:zh f k=Â {f with C:=vh k,d:=f.d.Ei k}:=if_neg l;rw[e];have S:=h.r.r 2 _ U;have V:=h.r.C 2;have W:=h.r.M;have p:=h.apa k t;have y:(g.C f.d).length<=100000:=by rwa[h.C.aac]
 have z:=h.S;have B:m<=w.heap.size:=Z
 have H:=e8<|Ê z<|Ê B<|Ê y r;go_enter Ω,Μ;go_wp2_with fail;change à À _ _ _ (LK b k w);have i:=p.fG (eZ.fN _ _) p.M.fN;generalize X:w.heap.size=T at*;generalize C:(LK b k w).drew=w1 at*;let⟨Y,D,E,F,G⟩:=ů ao7;have j:=e8<|Ê D<|Ê E<|Ê F G;refine lP (λu=>u.cell? ⟨b,1,Á⟩=Â g.N/\u.cell? ⟨b,2,Á⟩=Â (Ã<|Â ⟨T,0,Á⟩)) [13] fl ?_;rw[C];have I:Hid (w1.cell? ⟨b,1,Á⟩=Â g.N/\w1.cell? ⟨b,2,Á⟩=Â (Ã<|Â ⟨T,0,Á⟩)):=e8 ⟨i.r.r 1 _ U,i.r.r 2 _ U⟩;iterate 9 apply tk I.out
 have J:=i.I.M;have a:=i.fG (eZ.gC e9 w1 #[Ã<|Â ⟨T,0,Á⟩] 148) (i.M.gC _ _ fh A λv c=>by simp at c;subst c;exact⟨H.out.2.1,J⟩);apply gu 9;intro K c;go_simp;apply c.out _ _ λ_=>⟨a.r.r 1 _ U,a.r.r 2 _ U⟩;apply gu 10;intro K c;refine Z' fP _ _ 61 fP Tryz.underlying61 j.out.1 j.out.2.1 j.out.2.2.1 j.out.2.2.2 fP a.C ⟨w1.heap.size,0,Á⟩ fP (Λ w1 _ _) U (by have:=H.out.2.2.1;unfold đ;omega) (by have:=H.out.2.2.1;omega) (by have:=H.out.2.1;have:=a.I.M;omega) A (æ _) a.M ⟨H.out.2.1,a.I.M⟩ A ?_;intro v9 w9 n L M;obtain⟨a9,n9c,rfl⟩:=jy n.fi;have v:=a.r.I n.r<|jo a.C a.r A;apply c.out _ _ λ_=>⟨v.r 1 _ U,v.r 2 _ U⟩;apply gu 11;intro K c;go_simp;apply c.out _ _ λ_=>⟨v.r 1 _ U,v.r 2 _ U⟩;apply gu 12;intro K c;go_simp;apply c.out _ _ λ_=>⟨v.r 1 _ U,v.r 2 _ U⟩;have cb1:=v.r 1 _ U;have fb1:=v.C 1;have cb4:=v.r 4 _ U;have fb4:=v.C 4;have cb0:=v.r 0 _ U;have fb0:=v.C 0;have cb2:=v.r 2 _ U;apply gu 13;intro K c;go_simp;apply c.out _ _ λo=>absurd A o;refine lA fl ?_ _;have N:=e8 λo q O=>a.jA (sb:=o) H.out.1 H.out.2.1 H.out.2.2.2 q O n L M U;go_wp2_with (go_at_call 145;refine(aoY _ _).mono ?_;rintro e u ⟨⟨o,rfl,O,P⟩,q⟩;subst u);go_ret;have q:=N.out o O P;exact⟨U,q.1,_,_,_,q.2⟩
end
def lj(i:Nat)(z:Int):Prop:=match i with
 |0=>0<=z/\z<8
 |1=>0<=z/\z<8
 |2=>0<=z/\z<1000000
 |3=>0<=z/\z<1000000
 |4=>1<=z/\z<10
 |5=>-1<=z/\z<1000000
 |6=>-1<=z/\z<1000000
 |7=>0<=z/\z<16
 |_=>True
structure Er(n m:Nat)(c:List Int):Prop where
 C:c.length=n
 r:∀i,i<m->lj i (c.getD i 0)
theorem Er.I(h:Er n m zQ)(i:Nat)(z:Int)(b:i<m->lj i z):Er n m (zQ.set i z):=by refine⟨by simp[h.C],λj a=> ?_⟩;have:=h.r j a;grind
def aal(h:i<zQ.length)(z:Int):(zQ.set i z).getD i 0=z:=by simp[Ġ,h]
structure ny(t:PT):Prop where
 c:Er 5 4 t.c
 p:t.p.size<=40/\∀c∈t.p.data.toList,wP c=Î
structure uh(r:PR):Prop where
 c:Er 8 8 r.c
 C:∀t∈r.r,ny t
 n:r.r.length<=8
structure j2(d:PD):Prop where
 N:d.r=Ë->d.S=[]/\d.M=Ë
 b:d.M=Ë->d.I.r=[]
 C:d.C.length<=24
 I:d.Y.length<=8
 S:∀r∈d.S,uh r
 M:d.r=Î->Er 8 8 d.I.c
 a:d.r=Î->∀t∈d.I.r,ny t
 Y:d.M=Î->ny d.N
structure jj(B:ByteArray)(k:Nat)(st:PS):Prop where
 M:0<=st.r
 r:st.r<=5
 C:0<=st.I
 I:st.I<=40
 e:0<st.r->(st.M=86\/st.M=87\/st.M=110\/st.M=107)/\st.d.r=Î/\0<=st.d.G st.M/\st.d.G st.M<10^(6-st.r.toNat)
 d:j2 st.d
 c:st.d.r=Î\/st.C=[82]
 b:82∈st.C->st.d.C.length<24
 N:84∈st.C\/80∈st.C->st.d.M=Î
 a:66∈st.C->st.d.M=Ë
 S:80∈st.C->st.C=[80]/\st.r=0
 Y:80∈st.C->st.I.toNat<=k/\∀j (h:j<B.size),k-st.I.toNat<=j->j<k->wP B[j]=Î
section
variable{d:PD}{st o:PS}
def j2.aam(h:j2 d)(on:d.r=Î):∀t∈d.Y,ny t:=by
 unfold PD.Y;split
 .rename_i e;intro t a;rcases â.1 a with q|q
  .exact h.a on t q
  .rw[ō]at q;rw[q];exact h.Y e
 .exact h.a on
def j2.G(h:j2 d):∀r∈d.C,uh r:=by
 unfold PD.C;split
 .rename_i e;intro r a;rcases â.1 a with q|q
  .exact h.S r q
  .rw[ō]at q;rw[q];exact⟨h.M e,h.aam e,h.I⟩
 .exact h.S
def xg(d:PD):d.C.length=d.S.length+(if d.r then 1 else 0):=by unfold PD.C;split<;>simp
def Hx(d:PD):d.Y.length=d.I.r.length+(if d.M then 1 else 0):=by unfold PD.Y;split<;>simp
def j2.r(h:j2 d)(i:Nat)(z:Int)(a:lj i z):j2 (d.tZ i z):= ⟨h.N,h.b,by have:=h.C;rw[xg]at this|-;exact this,by have:=h.I;rw[Hx]at this|-;exact this,h.S,λe=>(h.M e).I i z λ_=>a,h.a,h.Y⟩
def j2.vk(h:j2 d)(i:Nat)(z:Int)(a:i<4->lj i z):j2 (d.vk i z):= ⟨h.N,h.b,by have:=h.C;rw[xg]at this|-;exact this,by have:=h.I;rw[Hx]at this|-;exact this,h.S,h.M,h.a,λe=>⟨(h.Y e).c.I i z a,(h.Y e).p⟩⟩
def j2.kv(h:j2 d)(i:Nat)(z:Int)(a:lj i z):j2 (d.kv i z):=by
 unfold PD.kv;split
 .exact h.vk i z λ_=>a
 .exact h.r i z a
def j2.su(h:j2 d)(p:ByteArray)(a:p.size<=40/\∀c∈p.data.toList,wP c=Î):j2 (d.su p):= ⟨h.N,h.b,by have:=h.C;rw[xg]at this|-;exact this,by have:=h.I;rw[Hx]at this|-;exact this,h.S,h.M,h.a,λe=>⟨(h.Y e).c,a⟩⟩
def ape:ny PD.Ef:=⟨⟨U,λi a=>by
 match i,a with
 |0,_=>exact⟨A,A⟩
 |1,_=>exact⟨A,A⟩
 |2,_=>exact⟨A,A⟩
 |3,_=>exact⟨A,A⟩⟩,⟨A,λc b=>by cases b⟩⟩
def j2.sw(h:j2 d)(on:d.r=Î)(a:d.Y.length<8):j2 d.sw:= ⟨(λe=>by have:d.r=Ë:=e;rw[on]at this;cases this),(λe=>by cases e),by have:=h.C;rw[xg]at this|-;exact this,by rwa[Hx],h.S,λe=>h.M e,λ_=>h.aam on,λ_=>ape⟩
def j2.Ei(h:j2 d)(q:Int)(a:1<=q/\q<10)(b:d.C.length<24):j2 (d.Ei q):= ⟨(λe=>by cases e),λ_=>rfl,by rwa[xg],by show(0:Nat)<=8;decide,h.G,λ_=>⟨U,λi c=>by
   match i,c with
   |0,_=>exact⟨by show(0:Int)<=0;decide,by show(0:Int)<8;decide⟩
   |1,_=>exact⟨by show(0:Int)<=0;decide,by show(0:Int)<8;decide⟩
   |2,_=>exact⟨by show(0:Int)<=0;decide,by show(0:Int)<1000000;decide⟩
   |3,_=>exact⟨by show(0:Int)<=0;decide,by show(0:Int)<1000000;decide⟩
   |4,_=>exact a
   |5,_=>exact⟨by show(-1:Int)<=0;decide,by show(0:Int)<1000000;decide⟩
   |6,_=>exact⟨by show(-1:Int)<=0;decide,by show(0:Int)<1000000;decide⟩
   |7,_=>exact⟨by show(0:Int)<=0;decide,by show(0:Int)<16;decide⟩⟩,(λ_ t f=>by cases f),(λe=>by cases e)⟩
def j2.fX(h:j2 d)(a z:Int)(b:(a=86->lj 5 z)/\(a=87->lj 6 z)/\(a=120->lj 0 z)/\(a=121->lj 1 z)/\(a=110->lj 2 z)/\(a=107->lj 3 z)/\(a=115->lj 7 z)):j2 (d.fX a z):=by
 let⟨c,e,f,g,i,j,k⟩:=b;unfold PD.fX;repeat' split
 .exact h.r 5 z<|c ‹_›
 .exact h.r 6 z<|e ‹_›
 .exact h.kv 0 z<|f ‹_›
 .exact h.kv 1 z<|g ‹_›
 .exact h.kv 2 z<|i ‹_›
 .exact h.kv 3 z<|j ‹_›
 .exact h.r 7 z<|k ‹_›
 .exact h
def S8(d:PD)(a z:Int):(d.fX a z).r=d.r/\(d.fX a z).M=d.M/\(d.fX a z).C.length=d.C.length:=by
 unfold PD.fX PD.kv;repeat' split
 all_goals exact⟨U,U,(xg _).trans (xg d).symm⟩
theorem S9(h:j2 d)(on:d.r=Î)(a z:Int)(f:a=86\/a=87\/a=110\/a=107):(d.fX a z).G a=z:=by
 have g:=(h.M on).C;have b:∀i,i<4->(d.kv i z).xf i=z:=λi j=>by
  unfold PD.kv;split
  .rename_i e;have k:=(h.Y e).c.C;show(if d.M=Î then(d.N.c.set i z).getD i 0 else d.I.c.getD i 0)=z;grind
  .rename_i e;show(if d.M=Î then d.N.c.getD i 0 else(d.I.c.set i z).getD i 0)=z;grind
 rcases f with rfl|rfl|rfl|rfl
 .exact aal Z z
 .exact aal Z z
 .exact b 2 A
 .exact b 3 A
def LL:∀(l:List UInt8) (c:UInt8),Þ l c<l.length
 |[],_=>by show(-1:Int)<0;decide
 |a::l,c=>by
  have:=LL l c;unfold Þ;split
  .simp
  .split<;>(simp;omega)
def Ta:∀(l:List UInt8) (c:UInt8),c∈l->0<=Þ l c
 |[],_,h=>by cases h
 |a::l,c,h=>by
  unfold Þ;split
  .decide
  .rename_i e;rcases List.mem_cons.1 h with q|q
   .subst q;simp at e
   .have:=Ta l c q;split
    .rename_i b;rw[beq_iff_eq]at b;omega
    .omega
def aan{l:List UInt8}(h:c.toNat∈l.map UInt8.toNat):c.toNat.toUInt8∈l:=by let⟨x,a,b⟩:=Ú.1 h;rw[<-b];simpa using a
def aao(h:ri c=Î):0<=Þ [97,98,99,100,101,102,103,104] c.toNat.toUInt8:=by rw[aoL]at h;refine Ta _ _<|aan ?_;simp;omega
def apf(h:(jT c||(decide (97<=c)&&decide (c<=102)))=Î):0<=Þ [48,49,50,51,52,53,54,55,56,57,97,98,99,100,101,102] c.toNat.toUInt8:=by simp only[Bool.or_eq_true,Eh,Bool.and_eq_true,decide_eq_true_eq]at h;refine Ta _ _<|aan ?_;simp;omega
theorem apg(a:pL h c=Î):(h=86->lj 5 (nz h c))/\(h=87->lj 6 (nz h c))/\(h=120->lj 0 (nz h c))/\(h=121->lj 1 (nz h c))/\(h=110->lj 2 (nz h c))/\(h=107->lj 3 (nz h c))/\(h=115->lj 7 (nz h c)):=by
 unfold pL at a;have b:(c==104||jT c)=Î->-1<=(if c=104 then-1 else(c-48)%256)/\(if c=104 then(-1:Int)else(c-48)%256)<1000000:=λq=>by split<;>omega
 have d:jT c=Î->0<=(if c=104 then-1 else(c-48)%256)/\(if c=104 then(-1:Int)else(c-48)%256)<1000000:=λq=>by rw[Eh]at q;grind
 refine⟨?_,?_,?_,?_,?_,?_,?_⟩<;>rintro rfl
 .exact b a
 .exact b a
 .exact⟨aao a,LL _ _⟩
 .exact⟨aao a,LL _ _⟩
 .exact d a
 .exact d a
 .exact⟨apf a,LL _ _⟩
theorem aph{kP:Int}(a:jT c=Î)(b:0<=h)(d:0<kP)(e:kP<=5)(f:h<10^(6-kP.toNat)):0<=sx h c/\sx h c<10^(6-(kP-1).toNat)/\sx h c<1000000:=by
 rw[Eh]at a;have g:h<100000->sx h c=h*10+(c-48):=λq=>by unfold sx;rw[Ļ (h*10) ⟨Z,Z⟩,Ļ _ ⟨Z,Z⟩];omega
 have i:kP=1\/kP=2\/kP=3\/kP=4\/kP=5:=Z
 grind
def j2.kP(h:j2 d)(a z:Int)(c:a=86\/a=87\/a=110\/a=107)(b:0<=z/\z<1000000):j2 (d.fX a z):= h.fX a z ⟨λ_=>⟨Z,b.2⟩,λ_=>⟨Z,b.2⟩,λe=>by omega,λe=>by omega,λ_=>b,λ_=>b,λe=>by omega⟩
def jj.apj(h:jj B k st)(e:0<st.r)(j:jT c=Î):jj B (k+1) (Ht st c):=by
 let⟨a,b,l,m⟩:=h.e e;let⟨f,n,o⟩:=aph j l e h.r m;let⟨g,i,p⟩:=S8 st.d st.M<|sx (st.d.G st.M) c;refine⟨by show 0<=st.r-1;omega,by have:=h.r;show st.r-1<=5;omega,h.C,h.I,λ_=>⟨a,g.trans b,?_⟩,h.d.kP _ _ a ⟨f,o⟩,?_,λq=> ?_,λq=>i.trans<|h.N q,λq=>i.trans<|h.a q,λq=> ?_,λq=> ?_⟩
 .show 0<=(st.d.fX st.M<|sx (st.d.G st.M) c).G st.M/\(st.d.fX st.M<|sx (st.d.G st.M) c).G st.M<10^(6-(st.r-1).toNat);rw[S9 h.d b _ _ a];exact⟨f,n⟩
 .exact È<|g.trans b
 .show(st.d.fX st.M<|sx (st.d.G st.M) c).C.length<24;rw[p];exact h.b q
 .have:=(h.S q).2;omega
 .have:=(h.S q).2;omega
def jj.uF(h:jj B k st):jj B k {st with r:=0}:= ⟨Ť _,by show(0:Int)<=5;decide,h.C,h.I,(λq=>by cases q),h.d,h.c,h.b,h.N,h.a,λq=>⟨(h.S q).1,rfl⟩,h.Y⟩
theorem jj.on(h:jj B k st)(a:82∉st.C):st.d.r=Î:=by rcases h.c with q|q;all_goals grind
def j2.apk(h:j2 d)(a:d.M=Î):d.r=Î:=by
 cases e:d.r with
 |true=>rfl
 |false=>have:=(h.N e).2;rw[a]at this;cases this
theorem aap(h:jj B k st)(b:st.r=0)(on:st.d.r=Î)(a:ua st c=Â o):jj B (k+1) o:=by
 unfold ua at a;split at a
 .rename_i e;cases a;refine⟨h.M,h.r,h.C,h.I,λq=> ?_,h.d,Ï U,λ_=> ?_,λq=> ?_,λq=> ?_,λq=> ?_,λq=> ?_⟩
  .grind
  .rw[xg,on];exact e.2
  .simp at q
  .simp at q
  .simp at q
  .simp at q
 .split at a
  .rename_i e;cases a;refine⟨h.M,h.r,h.C,h.I,λq=> ?_,h.d.sw on e.2.2,È on,λq=> ?_,λ_=>rfl,λq=> ?_,λq=> ?_,λq=> ?_⟩;all_goals grind
  .cases a
def apl(q:Int):82∉vh q/\84∉vh q/\80∉vh q:=by
 unfold vh;repeat' split
 all_goals decide
theorem apm(q:Int):82∉vi q/\84∉vi q/\66∉vi q/\(80∈vi q->vi q=[80]):=by unfold vi;grind
def apn(c:Int):0<=xe c/\xe c<10:=by
 unfold xe;repeat' split
 all_goals decide
theorem apo(h:jj B k st)(i:st.r=0)(f:82∈st.C)(a:zh st (xe c)=Â o):jj B (k+1) o:=by
 unfold zh at a;split at a
 .cases a
 .rename_i e;cases a;let⟨g,j,b⟩:=apl<|xe c;have l:=apn c;refine⟨h.M,h.r,h.C,h.I,λq=> ?_,h.d.Ei _ Z<|h.b f,È U,λq=>absurd q g,λq=> ?_,λ_=>rfl,λq=>absurd q b,λq=>absurd q b⟩;all_goals grind
theorem apq(h:jj B k st)(c:st.r=0)(q:Int)(f:84∈st.C)(a:zi st q=Â o):jj B (k+1) o:=by
 unfold zi at a;split at a
 .cases a
 .cases a;let⟨g,m,i,l⟩:=apm q;have b:=h.N<|È f;refine⟨h.M,h.r,Ť _,by show(0:Int)<=40;decide,λq=> ?_,h.d.vk 4 q λe=>by omega,È<|h.d.apk b,λq=>absurd q g,λ_=>b,λq=>absurd q i,λq=>⟨l q,c⟩,λ_=>⟨Ø _,λj _ n p=> ?_⟩⟩;all_goals grind
theorem apr{a:Int}(h:0<rj a c):(a=86\/a=87)/\rj a c=1/\jT c=Î/\c≠48\/(a=110\/a=107)/\rj a c=5/\jT c=Î/\c≠48:=by unfold rj at h|-;grind
theorem aaq(h:jj B k st)(on:st.d.r=Î){want:Int}(l:pL want c=Î)(r:List Int)(a:∀x∈r,x∈st.C)(g:80∉r):jj B (k+1) {oV st want c with C:=r}:=by
 let⟨m,i,n⟩:=S8 st.d want<|nz want c;have j:=aoP want c;refine⟨j.1,j.2,h.C,h.I,λq=> ?_,h.d.fX _ _<|apg l,È<|m.trans on,λq=> ?_,λq=>i.trans<|h.N<|q.imp (a _)<|a _,λq=>i.trans<|h.a<|a _ q,λq=>absurd q g,λq=>absurd q g⟩
 .have q:=q;show(want=86\/want=87\/want=110\/want=107)/\(st.d.fX want<|nz want c).r=Î/\0<=(st.d.fX want<|nz want c).G want/\(st.d.fX want<|nz want c).G want<10^(6-(rj want c).toNat);rcases apr q with⟨o,b,e,p⟩|⟨o,b,e,p⟩
  .have f:want=86\/want=87\/want=110\/want=107:=Z
   rw[S9 h.d on _ _ f,b];rw[Eh]at e;have:nz want c=(c-48)%256:=by unfold nz;grind
   grind
  .have f:want=86\/want=87\/want=110\/want=107:=Z
   rw[S9 h.d on _ _ f,b];rw[Eh]at e;have:nz want c=(c-48)%256:=by unfold nz;grind
   grind
 .show(st.d.fX want<|nz want c).C.length<24;rw[n];exact h.b<|a _ q
def aps{x:UInt8}(h:x∈(B.extract i b).data.toList):∃j,∃e:j<B.size,i<=j/\j<b/\B[j]=x:=by rw[Ĳ,ĺ,ħ]at h;obtain⟨c,d,rfl⟩:=Ğ h;simp only[Ś,List.length_drop,ĝ]at d;have f:B.data.size=B.size:=rfl;exact⟨i+c,Z,Z,Z,by simp[ċ]⟩
theorem apt(h:jj B k st)(l:st.r=0)(F:k<B.size)(a:lD B k st (B[k].toNat:Int)=Â o):jj B (k+1) o:=by
 unfold lD at a;split at a
 .rename_i e;exact aap h l (h.on<|by rw[e];decide) a
 .rename_i t p e;have c:t∈st.C:=by rw[e];exact List.mem_cons_self ..
  split at a
  .rename_i f;subst f;exact apo h l c a
  rename_i G;have i:st.d.r=Î:=by rcases h.c with q|q;all_goals grind
  split at a
  .rename_i f;subst f;split at a
   .rename_i u;cases a;have n:=h.a c;have b:st.d.Y.length<8:=by rw[Hx,h.d.b n,n];decide
    have v:jj B k {st with C:=[84],d:=st.d.sw}:=by refine⟨h.M,h.r,h.C,h.I,λq=> ?_,h.d.sw i b,È i,λq=> ?_,λ_=>rfl,λq=> ?_,λq=> ?_,λq=> ?_⟩;all_goals grind
    exact aaq (want:=120) v i u [84] (λx b=>b) A
   .exact aap h l i a
  split at a
  .rename_i f;subst f;exact apq h l _ c a
  split at a
  .rename_i f;subst f;let⟨H,w⟩:=h.Y c;have n:=h.N<|Ï c;have y:=(h.S c).1;have I:=h.C;have J:=h.I;split at a
   .cases a;have z:p=[]:=by rw[y]at e;cases e;rfl
    subst z;refine⟨h.M,h.r,h.C,h.I,λq=> ?_,h.d.su _ ⟨by rw[č];omega,λx b=> ?_⟩,È i,λq=> ?_,λq=> ?_,λq=> ?_,λq=> ?_,λq=> ?_⟩
    .grind
    .obtain⟨j,r,m,s,rfl⟩:=aps b;exact w j r m s
    .cases q
    .grind
    .cases q
    .cases q
    .cases q
   .split at a
    .cases a
    .rename_i g;cases a;have K:=λq=>g<|È q;have C:=λq=>g<|Ï q;refine⟨h.M,h.r,by show 0<=st.I+1;omega,by show st.I+1<=40;omega,h.e,h.d,h.c,h.b,h.N,h.a,h.S,λ_=>⟨by show(st.I+1).toNat<=k+1;omega,λj r m s=> ?_⟩⟩;have m:k+1-(st.I+1).toNat<=j:=m;by_cases D:j=k
     .subst D;unfold wP;simpa using C
     .grind
  split at a
  .rename_i L M N E;cases a;refine aaq h i E p (λx b=>by rw[e];exact Ė _ b) λq=> ?_;have:=(h.S<|by rw[e];exact Ė _ q).1;grind
  .cases a
def aar(h:jj B k st)(b:k<B.size)(a:uf B k st (B[k].toNat:Int)=Â o):jj B (k+1) o:=by
 unfold uf at a;split at a
 .rename_i e;cases a;exact h.apj e.1 e.2
 .exact apt h.uF U b a
def Tb(B:ByteArray):jj B 0 sB:= ⟨A,A,A,A,(λq=>by cases q),⟨λ_=>⟨rfl,rfl⟩,λ_=>rfl,A,A,(λr e=>by cases e),(λe=>by cases e),(λe=>by cases e),(λe=>by cases e)⟩,Ï rfl,λ_=>by decide,(λq=>by rcases q with q|q<;>simp[sB]at q),(λq=>by simp[sB]at q),(λq=>by simp[sB]at q),(λq=>by simp[sB]at q)⟩
def Td:∀(f k:Nat) (st:PS),jj B k st->k<=B.size->jj B (sy B f k st).1 (sy B f k st).2/\(sy B f k st).1<=B.size
 |0,k,st,h,hk=>⟨h,hk⟩
 |f+1,k,st,h,hk=>by
  unfold sy;split
  .rename_i a;split
   .exact⟨h,hk⟩
   .rename_i o e;exact Td f (k+1) o (aar h a e) Z
  .exact⟨h,hk⟩
end
section
variable{g:Gh}{st:PS}
def aas{d:PD}(i:Nat)(z:Int):g.M (d.kv i z)=g.M d:=by unfold PD.kv Gh.M;split<;>simp[PD.vk,PD.tZ, *]
def aat{d:PD}(h:i=2\/i=3)(z:Int):g.BO (d.kv i z) (if i=2 then 110 else 107)=⟨g.M d,i,Á⟩:=by
 rcases h with rfl|rfl
 .show(⟨g.M<|d.kv 2 z,2,Á⟩:ù)=_;rw[aas]
 .show(⟨g.M<|d.kv 3 z,3,Á⟩:ù)=_;rw[aas]
def aau{d:PD}(on:d.r=Î):g.S d=Â ⟨g.q,0,Á⟩:=if_pos on
def apu{d:PD}(on:d.r=Î):g.G d=Â ⟨g.M d,0,Á⟩:=if_pos on
def KC(h:gL m b g O B st w)(j:st.r=0)(on:st.d.r=Î)(a c:Int)(v:pL a c=Î): Ò À 100 #[Ã<|Â ⟨b,0,Á⟩,Å ū a,Å ū c] w λe u=>e=Ç (ë #[])/\rn m b (oV st a c) w u:=by
 have G:w.cell? ⟨b,2,Á⟩=Â (Ã<|g.S st.d):=h.r.r 2 _ U;have x:w.cell? ⟨b,4,Á⟩=Â (Ã<|g.G st.d):=h.r.r 4 _ U;rw[aau on]at G;rw[apu on]at x;have H:=e8<|Ê h v;clear h v;generalize y:g.M st.d=tm at x;have n:=e8 y;clear y;by_cases o:a=86
 .subst o;have k:=e8 (show oV st 86 c={st with r:=vn c 2,M:=86,d:=st.d.tZ 5 (mA c)}from by unfold oV;rw[<-LF H.out.2 (È ⟨È U,U⟩),LH A];rfl);go_enter Ā,ü;go_wp2_with (go_at_call 147;refine(LD H.out.1 (El H.out.1.C H.out.1.r on (i:=5) A) j on _ _ 86 A A λz=>rfl).mono ?_;rintro e u ⟨rfl,l⟩);go_end0;exact⟨U,by rwa[k.out]⟩
 have I:(a==86)=Ë:=by rwa[beq_eq_false_iff_ne]
 by_cases p:a=87
 .subst p;have k:=e8 (show oV st 87 c={st with r:=vn c 2,M:=87,d:=st.d.tZ 6 (mA c)}from by unfold oV;rw[<-LF H.out.2 (È ⟨Ï U,U⟩),LH A];rfl);go_enter Ā,ü;go_wp2_with (go_at_call 147;refine(LD H.out.1 (El H.out.1.C H.out.1.r on (i:=6) A) j on _ _ 87 A A λz=>rfl).mono ?_;rintro e u ⟨rfl,l⟩);go_end0;exact⟨U,by rwa[k.out]⟩
 have J:(a==87)=Ë:=by rwa[beq_eq_false_iff_ne]
 by_cases q:a=120
 .subst q;have f:=e8 ((by have:=Em H.out.1.C H.out.1.r on (i:=0) A;rw[n.out]at this;exact this:pM m b g st.d tm 0 (λz=>st.d.kv 0 z) (st.d.xf 0) w));have C:=f.out.C;have D:=f.out.I;have E:=f.out.r;go_enter Ā,ü;go_wp2_with fail;go_region_with (go_at_call 146;refine(Hu _ _ _).mono ?_;rintro e u ⟨rfl,F⟩;subst u);all_goals go_end0
  all_goals exact⟨U,S5 H.out.1 f.out j (LG A) U⟩
 have K:(a==120)=Ë:=by rwa[beq_eq_false_iff_ne]
 by_cases r:a=121
 .subst r;have f:=e8 ((by have:=Em H.out.1.C H.out.1.r on (i:=1) A;rw[n.out]at this;exact this:pM m b g st.d tm 1 (λz=>st.d.kv 1 z) (st.d.xf 1) w));have C:=f.out.C;have D:=f.out.I;have E:=f.out.r;go_enter Ā,ü;go_wp2_with fail;go_region_with (go_at_call 146;refine(Hu _ _ _).mono ?_;rintro e u ⟨rfl,F⟩;subst u);all_goals go_end0
  all_goals exact⟨U,S5 H.out.1 f.out j (LG A) U⟩
 have L:(a==121)=Ë:=by rwa[beq_eq_false_iff_ne]
 by_cases s:a=110
 .subst s;have k:=e8 (show oV st 110 c={st with r:=vn c 6,M:=110,d:=st.d.kv 2 (mA c)}from by unfold oV;rw[<-LF H.out.2 (Ï ⟨È U,U⟩),LH A];rfl);go_enter Ā,ü;go_wp2_with (go_at_call 147;refine(LD H.out.1 ((by have:=Em H.out.1.C H.out.1.r on (i:=2) A;rw[n.out]at this;exact this:pM m b g st.d tm 2 (λz=>st.d.kv 2 z) (st.d.xf 2) w)) j on _ _ 110 A A λz=>(by have:=aat (g:=g) (d:=st.d) (i:=2) (È U) z;rwa[n.out]at this)).mono ?_;rintro e u ⟨rfl,l⟩);go_end0;exact⟨U,by rwa[k.out]⟩
 have M:(a==110)=Ë:=by rwa[beq_eq_false_iff_ne]
 by_cases t:a=107
 .subst t;have k:=e8 (show oV st 107 c={st with r:=vn c 6,M:=107,d:=st.d.kv 3 (mA c)}from by unfold oV;rw[<-LF H.out.2 (Ï ⟨Ï U,U⟩),LH A];rfl);go_enter Ā,ü;go_wp2_with (go_at_call 147;refine(LD H.out.1 ((by have:=Em H.out.1.C H.out.1.r on (i:=3) A;rw[n.out]at this;exact this:pM m b g st.d tm 3 (λz=>st.d.kv 3 z) (st.d.xf 3) w)) j on _ _ 107 A A λz=>(by have:=aat (g:=g) (d:=st.d) (i:=3) (Ï U) z;rwa[n.out]at this)).mono ?_;rintro e u ⟨rfl,l⟩);go_end0;exact⟨U,by rwa[k.out]⟩
 have l:(a==107)=Ë:=by rwa[beq_eq_false_iff_ne]
 by_cases k:a=115
 .subst k;have f:=e8<|El H.out.1.C H.out.1.r on (i:=7) A;have C:=f.out.C;have D:=f.out.I;have E:=f.out.r;go_enter Ā,ü;go_wp2_with fail;go_region_with (go_at_call 146;refine(Hu _ _ _).mono ?_;rintro e u ⟨rfl,F⟩;subst u);all_goals go_end0
  all_goals exact⟨U,S5 H.out.1 f.out j (LG A) U⟩
 have f:(a==115)=Ë:=by rwa[beq_eq_false_iff_ne]
 go_enter Ā,ü;go_wp2;go_end0;refine⟨U,eZ.fQ _ _,g,O,B,?_⟩;have e:oV st a c={st with M:=a}:=by unfold oV PD.fX;rw[LG ⟨Z,Z⟩,if_neg o,if_neg p,if_neg q,if_neg r,if_neg s,if_neg t,if_neg k,<-j]
 rw[e];exact H.out.1.S3 a j
end
section
variable{g:Gh}{s:ByteArray}{st:PS}{d:PD}
def LN(m b:Nat)(o:Option PS)(e:Ending)(w u:Í):Prop:=
 (o=Á/\e=Ç (õ Ë)/\u=w)\/∃a,o=Â a/\e=Ç (õ Î)/\rn m b a w u
def aav{o:Option PS}{e:Ending}(h:match o with
 |none=>e=Ç (õ Ë)/\u=w
 |some a=>e=Ç (õ Î)/\rn m b a w u):LN m b o e w u:=by
 cases o with
 |none=>exact È ⟨U,h⟩
 |some a=>exact Ï ⟨a,U,h⟩
def apv{d:PD}(on:d.r=Î):d.C.length=d.S.length+1:=by rw[xg,on];rfl
def aaw(h:gL m b g O s st w)(j:st.r=0)(on:st.d.r=Î)(y:st.d.Y.length<=8)(z:st.d.C.length<=24)(c:Int): Ò À 95 #[Ã<|Â ⟨b,0,Á⟩,Å ū c] w λe u=>LN m b (ua st c) e w u:=by
 have l:=h.C.r on;let⟨I,J,p⟩:=jy h.C.C;let⟨K,L,q⟩:=jy l.I;rw[h.C.aac]at p;rw[l.G]at q;have M:=h.r.r 0 _ U;have r:=h.r.r 1 _ U;have B:=h.r.r 2 _ U;rw[aau on]at B;rw[p]at r;have t:=l.r.r 8 _ (by have:=BP st.d.I.c g.r;rwa[l.M]at this);rw[q]at t;have N:=h.r.C 0;obtain⟨v,f⟩:∃n,st.d.C.length=n:=⟨_,U⟩;obtain⟨x,i⟩:∃n,st.d.Y.length=n:=⟨_,U⟩;rw[f]at r z;rw[i]at t y;have k:st.d.S.length+1=v:=by rw[<-f];exact(apv on).symm
 have H:=e8<|Ê h<|Ê f<|Ê i<|Ê k j;by_cases C:c=59/\v<24
 .obtain⟨rfl,a⟩:=C;go_enter ť,ŗ;go_wp2;go_ret;let⟨h,f,i,k,j⟩:=H.out;exact Ï ⟨_,by rw[ua,if_pos ⟨U,Z⟩],U,me h 0 _,g,O,_,h.LC _ [82] A A<|È on⟩
 by_cases D:c=44/\0<x/\x<8
 .obtain⟨rfl,P,Q⟩:=D;go_enter ť,ŗ;go_wp2_with (go_at_call 99;refine(aaj H.out.1 H.out.2.2.2.2 on (by have:=H.out.2.2.1;omega)).mono ?_;rintro e u ⟨rfl,o,E,F,S,a⟩;have T:=a.r.r 0 _ U;have V:=a.r.C 0;have G:=e8<|Ê o a;clear o a);go_ret;let⟨h,f,i,k,j⟩:=H.out;let⟨o,a⟩:=G.out;exact Ï ⟨_,by rw[ua,if_neg Z,if_pos ⟨U,Z,Z⟩],U,o.fc<|me a 0 _,E,F,_,a.LC _ [120,84] A A<|È on⟩
 .have a:=e8 (show ua st c=Á by
   let⟨h,f,i,k,j⟩:=H.out;rw[ua,if_neg Z,if_neg Z])
  go_enter ť,ŗ;go_wp2_with fail;all_goals first|(go_ret;exact È ⟨a.out,U,U⟩)|(exfalso;simp only[beq_iff_eq,decide_eq_true_eq]at*;omega)
def kr:Τ->Option Τ
 |ń c=>Â c
 |.seq a b=>match kr a with
  |some c=>Â c
  |none=>kr b
 |.block _ c=>kr c
 |.scope c=>kr c
 |.cond _ a b=>match kr a with
  |some c=>Â c
  |none=>kr b
 |_=>Á
noncomputable def pN:Τ:=(Tryz.f61.body.bind kr).getD ai
def oY(b:Nat)(B:ByteArray)(i:Ñ)(u:Nat->Ñ):Ĉ:=⟨#[Ã<|Â ⟨b,0,Á⟩,Ä B,ĸ,ĸ,Å É 0,i,u 6,u 7,u 8,u 9,u 10,u 11,u 12,u 13,u 14,u 15,u 16,u 17,u 18,u 19,u 20,u 21,u 22,u 23,u 24,u 25,u 26,u 27,u 28,u 29,u 30,u 31,u 32,u 33,u 34,u 35,u 36,u 37,u 38,u 39,u 40,u 41,u 42,u 43,u 44,u 45,u 46,u 47,u 48,u 49,u 50,u 51,u 52,u 53,u 54,u 55,u 56,u 57,u 58,u 59,u 60,u 61,u 62,u 63,u 64,u 65,u 66,u 67,u 68,u 69,u 70,u 71,u 72,u 73,u 74,u 75,u 76,u 77,u 78,u 79,u 80,u 81,u 82,u 83,u 84,u 85,u 86,u 87,u 88,u 89,u 90,u 91,u 92,u 93,u 94,u 95,u 96,u 97,u 98,u 99,u 100,u 101,u 102,u 103,u 104,u 105,u 106,u 107,u 108,u 109,u 110,u 111,u 112,u 113,u 114,u 115,u 116,u 117,u 118,u 119,u 120,u 121,u 122,u 123,u 124,u 125,u 126,u 127,u 128,u 129,u 130,u 131,u 132,u 133,u 134,u 135,u 136,u 137,u 138,u 139,u 140,u 141,u 142,u 143,u 144,u 145,u 146],[]⟩
def Fr(b:Nat)(B:ByteArray)(i:Ñ)(a:Ĉ):Prop:=∃u,a=oY b B i u
def gl{b:Nat}{B:ByteArray}{i:Value}{a:Act}(h:a=oY b B i (λn=>a.tmps.getD n undef):=by rfl):Fr b B i a:=⟨_,h⟩
def QQ(X:Ĉ->Í->Prop):Exit->Ĉ->Í->Prop
 |.exit 0,a,w=>X a w
 |_,_,_=>False
def rp(m b:Nat)(B:ByteArray)(k:Nat)(st:PS)(a u:Í):Prop:=∃(h:k<B.size) (h:PS),uf B k st (B[k].toNat:Int)=Â h/\rn m b h a u
def ru(m b:Nat)(B:ByteArray)(k:Nat)(st:PS)(a u:Í):Prop:=∃h:k<B.size,uf B k st (B[k].toNat:Int)=Á/\∃c,rn m b c a u
theorem ui{d:Int}(h:(0<d/\yQ=Ë)\/d<=0):¬(0<d/\yQ=Î):=by grind
def uj(h:¬(0<st.r/\jT c=Î)):uf B k st c=lD B k {st with r:=0} c:=if_neg h
def apw(a:0<st.r)(b:jT c=Î):uf B k st c=Â (Ht st c):=if_pos ⟨a,b⟩
section
variable{want:Int}
def apx(h:st.C=[]):lD B k st c=ua st c:=by rw[lD,h]
def apy(h:st.C=want::zQ)(a:want=82):lD B k st c=zh st (xe c):=by rw[lD,h];simp only;rw[if_pos a]
def apz(h:st.C=want::zQ)(a:want=66)(b:ri c=Î):lD B k st c=Â (oV {st with C:=[84],d:=st.d.sw} 120 c):=by rw[lD,h];simp only;rw[if_neg Z,if_pos a,if_pos b]
def apA(h:st.C=want::zQ)(a:want=66)(b:ri c=Ë):lD B k st c=ua st c:=by rw[lD,h];simp only;rw[if_neg Z,if_pos a,if_neg (by rw[b];decide)]
def apB(h:st.C=want::zQ)(a:want=84):lD B k st c=zi st (Lz c):=by rw[lD,h];simp only;rw[if_neg Z,if_neg Z,if_pos a]
def apC(h:st.C=want::zQ)(a:want=80)(b:c=125):lD B k st c=Â {st with C:=zQ,d:=st.d.su (B.extract (k-st.I.toNat) k)}:=by rw[lD,h];simp only;rw[if_neg Z,if_neg Z,if_neg Z,if_pos a,if_pos b]
def aax(h:st.C=want::zQ)(a:want=80)(b:¬c=125)(d:st.I=40\/lz c=0):lD B k st c=Á:=by rw[lD,h];simp only;rw[if_neg Z,if_neg Z,if_neg Z,if_pos a,if_neg b,if_pos d]
def apD(h:st.C=want::zQ)(a:want=80)(b:¬c=125)(d:¬st.I=40)(e:¬lz c=0):lD B k st c=Â {st with I:=st.I+1}:=by rw[lD,h];simp only;rw[if_neg Z,if_neg Z,if_neg Z,if_pos a,if_neg b,if_neg Z]
def apE(h:st.C=want::zQ)(a:¬want=82)(b:¬want=66)(d:¬want=84)(e:¬want=80)(f:pL want c=Î):lD B k st c=Â {oV st want c with C:=zQ}:=by rw[lD,h];simp only;rw[if_neg a,if_neg b,if_neg d,if_neg e,if_pos f]
def apF(h:st.C=want::zQ)(a:¬want=82)(b:¬want=66)(d:¬want=84)(e:¬want=80)(f:pL want c=Ë):lD B k st c=Á:=by rw[lD,h];simp only;rw[if_neg a,if_neg b,if_neg d,if_neg e,if_neg (by rw[f];decide)]
end
def uk(c:UInt8):(0:Int)<=(c.toNat:Int)/\(c.toNat:Int)<256:=⟨Int.natCast_nonneg _,by have:=c.toNat_lt;omega⟩
def Te(s:ByteArray)(h:s.size=0):(s.toList==[])=Î:=by simp_all
theorem sC(s:ByteArray)(h:¬s.size=0):(s.toList==[])=Ë:=by
 rw[beq_eq_false_iff_ne];intro e;have:s.toList.length=s.size:=by rw[ByteArray.toList_eq];rfl
 grind
def gL.apG(h:gL m b g O s st w)(on:st.d.r=Î)(i:c=86\/c=87\/c=110\/c=107):∃a e f,g.BO st.d c=⟨a,e,Á⟩/\pM m b g st.d a e f (st.d.G c) w/\∀z,f z=st.d.fX c z:=by
 rcases i with rfl|rfl|rfl|rfl
 .exact⟨_,_,_,U,El h.C h.r on A,λz=>rfl⟩
 .exact⟨_,_,_,U,El h.C h.r on A,λz=>rfl⟩
 .exact⟨_,_,_,U,Em h.C h.r on A,λz=>rfl⟩
 .exact⟨_,_,_,U,Em h.C h.r on A,λz=>rfl⟩
def gL.su(h:gL m b g O s st w)(on:st.d.r=Î)(a:st.d.M=Î)(p:ByteArray):gL m b g O s {st with d:=st.d.su p} (w.setCell ⟨g.t,5,Á⟩<|Ä p)/\eZ (λi=>m<=i) w (w.setCell ⟨g.t,5,Á⟩<|Ä p):=by have l:=h.C.r on;let⟨f,j,c⟩:=l.C a;have e:eZ (λi=>i=g.t) w (w.setCell ⟨g.t,5,Á⟩<|Ä p):=oX c;exact⟨⟨h.S,h.a.r _ trivial,h.r.I e λx=>fe.S h.r c A x,h.M,h.I,h.C.su on a p,h.c,h.N⟩,e.S λi _ x=>by have:=l.S;omega⟩
def gL.aay(h:gL m b g O s st w)(on:st.d.r=Î)(a:st.C=c::zQ):gL m b g O (s.extract 1 s.size) {st with C:=zQ} (w.setCell ⟨b,0,Á⟩<|Ä<|s.extract 1 s.size):= h.LC _ zQ (aoO s h.M) (by rw[aoN,h.I,a];rfl)<|È on
def gL.apH(h:gL m b g O s st w)(a:st.C=c::zQ):0<s.size:=by have:=SS s;rw[h.I,a]at this;simp at this;omega
end
section
variable{g:Gh}{s:ByteArray}{st:PS}{d:PD}
def apI(h:gL m b g O s st w)(a:st.r=0)(c:st.d.r=Ë->st.d.S=[])(f:st.d.C.length<=100000)(k:Int): Ò À 96 #[Ã<|Â ⟨b,0,Á⟩,Å É k] w λe u=>LN m b (zh st k) e w u:=(apd h a c f k).mono λ_ _ q=>aav q
def apJ(h:gL m b g O s st w)(a:st.r=0)(on:st.d.r=Î)(c:st.d.M=Î)(k:Int): Ò À 101 #[Ã<|Â ⟨b,0,Á⟩,Å É k] w λe u=>LN m b (zi st k) e w u:=(ao5 h a on c k).mono λ_ _ q=>aav q
theorem apK{X:Ĉ->Í->Prop}{a:Ĉ}(G:Fr b B (Å É k) a) (h:gL m b g O s st w) (i:jj B k st) (Q:B.size<=1200) (H:k<B.size) (n:0<st.r) (I:jT (B[k].toNat:Int)=Î) (S:∀a u,Fr b B (Å É<|(k:Int)+1) a/\rp m b B k st w u->K a u) (_hQ:∀a u,Fr b B (Å É k) a/\ru m b B k st w u->X a u): à À pN (Exit.then K<|QQ X) a w:=by
 obtain⟨c,rfl⟩:=G;unfold oY;conv=>arg 2;whnf
 have T:w.cell? ⟨b,0,Á⟩=Â (Ä s):=h.r.r 0 _ U;have V:w.cell? ⟨b,6,Á⟩=Â (Å É st.r):=h.r.r 6 _ U;have W:w.cell? ⟨b,7,Á⟩=Â (Å É st.I):=h.r.r 7 _ U;have Y:=h.r.C 0;have f6:=h.r.C 6;have f7:=h.r.C 7;have d0:=i.M;have d1:=i.r;have e0:=i.C;have e1:=i.I;let⟨q,on,_,_⟩:=i.e n;let⟨r,ao,f,t,j,v⟩:=h.apG on q;have J:w.cell? ⟨b,5,Á⟩=Â (Ã O):=h.r.r 5 _ U;rw[(h.c n).2,t]at J;obtain⟨x,o⟩:∃x,st.d.G st.M=x:=⟨_,U⟩;have L:=j.C;rw[o]at L;have fm:=j.I;obtain⟨M,N⟩:∃y,wrap64 (x*10)=y:=⟨_,U⟩;obtain⟨l,P⟩:∃y,wrap64 (M+((B[k].toNat:Int)-48)%256)=y:=⟨_,U⟩;have LO:¬r=b:=j.r;have LP:¬b=r:=λe=>j.r e.symm;have z:=h.Y (st.r-1) λ_=>h.c n;have p:=j.S 6<|Å É<|st.r-1;have C:=z.G p l;have D:sx (st.d.G st.M) (B[k].toNat:Int)=l:=by rw[sx,š,š,o,N,P]
 have E:Ht st (B[k].toNat:Int)={st with r:=st.r-1,d:=f l}:=by rw[Ht,D,v]
 have F:Hid (uf B k st (B[k].toNat:Int)=Â {st with r:=st.r-1,d:=f l}/\rn m b {st with r:=st.r-1,d:=f l} w (ξ _)):= e8 ⟨by rw[apw n I,E],(((me h 6 _).fc<|En (st:=st) p _).C (eZ.fN e9 _) λ_ _ x=>x.elim),g,O,s,C.fN⟩;clear z p C D E j v t h i o q;go_wp2_with (go_at_call 94;refine(rm _ _).mono ?_;rintro e u ⟨rfl,hw⟩;subst u);go_region;all_goals
  go_wp2;exact⟨gl,⟨H,_,F.out.1,F.out.2⟩⟩
theorem apL{X:Ĉ->Í->Prop}(z:Fr b B (Å É k) y) (i:gL m b g O s st w) (j:jj B k st) (Q:B.size<=1200) (l:k<B.size) (n:(0<st.r/\jT (B[k].toNat:Int)=Ë)\/st.r<=0) (o:s.size=0) (S:∀y u,Fr b B (Å É<|(k:Int)+1) y/\rp m b B k st w u->K y u) (C:∀y u,Fr b B (Å É k) y/\ru m b B k st w u->X y u): à À pN (Exit.then K<|QQ X) y w:=by
 obtain⟨f,rfl⟩:=z;unfold oY;conv=>arg 2;whnf
 have T:w.cell? ⟨b,0,Á⟩=Â (Ä s):=i.r.r 0 _ U;have V:w.cell? ⟨b,6,Á⟩=Â (Å É st.r):=i.r.r 6 _ U;have W:w.cell? ⟨b,7,Á⟩=Â (Å É st.I):=i.r.r 7 _ U;have Y:=i.r.C 0;have f6:=i.r.C 6;have f7:=i.r.C 7;have d0:=j.M;have d1:=j.r;have e0:=j.C;have e1:=j.I;have p:=e8<|uj (B:=B) (k:=k)<|ui n;have r:=i.Y 0 λh=>absurd h A;have t:=e8<|me i 6<|Å É 0;have D:=j.d.C;have E:=j.d.I;have F:=e8 r;let⟨sU,zj⟩:=uk B[k];have qe:=Te s o;have h:st.C=[]:=by rw[<-i.I];exact X' s o
 have G:st.d.r=Î:=by
  rcases i.N with q|q
  .exact q
  .rw[h]at q;cases q
 have v:=e8<|apx (B:=B) (k:=k) (c:=(B[k].toNat:Int)) (st:={st with r:=0}) h;clear h i j;rcases n with⟨H,oc⟩|H;all_goals
  go_wp2_with (first|(go_at_call 94;refine(rm _ _).mono ?_;rintro e u ⟨rfl,x⟩;subst u)|(go_at_call 95;refine(aaw r U G E D _).mono ?_;rintro e u (⟨q,rfl,x⟩|⟨I,q,rfl,J,L,M,N,P⟩)))
  .subst x;exact C _ _ ⟨gl,⟨l,p.out.trans<|v.out.trans q,_,t.out,_,_,_,F.out⟩⟩
  .exact⟨gl,⟨l,I,p.out.trans<|v.out.trans q,t.out.fc J,L,M,N,P⟩⟩
theorem apM{X:Ĉ->Í->Prop}(z:Fr b B (Å É k) y) (i:gL m b g O s st w) (j:jj B k st) (P:B.size<=1200) (o:k<B.size) (p:(0<st.r/\jT (B[k].toNat:Int)=Ë)\/st.r<=0) (q:0<s.size) (l:((s[0]'q).toNat:Int)=82) (Q:∀y u,Fr b B (Å É<|(k:Int)+1) y/\rp m b B k st w u->K y u) (C:∀y u,Fr b B (Å É k) y/\ru m b B k st w u->X y u): à À pN (Exit.then K<|QQ X) y w:=by
 obtain⟨f,rfl⟩:=z;unfold oY;conv=>arg 2;whnf
 have S:w.cell? ⟨b,0,Á⟩=Â (Ä s):=i.r.r 0 _ U;have T:w.cell? ⟨b,6,Á⟩=Â (Å É st.r):=i.r.r 6 _ U;have V:w.cell? ⟨b,7,Á⟩=Â (Å É st.I):=i.r.r 7 _ U;have W:=i.r.C 0;have Y:=i.r.C 6;have f7:=i.r.C 7;have d0:=j.M;have d1:=j.r;have e0:=j.C;have e1:=j.I;have r:=e8<|uj (B:=B) (k:=k)<|ui p;have t:=i.Y 0 λh=>absurd h A;have v:=e8<|me i 6<|Å É 0;have zk:=j.d.C;have BQ:=j.d.I;have D:=e8 t;let⟨sU,zj⟩:=uk B[k];have qe:=sC s Z;have xh:s.size<=10:=i.M;have E:=e8 (show st.C=(s[0].toNat:Int)::(jL s).tail by rw[<-i.I];exact vj s q);have x:=e8<|apy (B:=B) (k:=k) (c:=(B[k].toNat:Int)) (st:={st with r:=0}) E.out l;have xi:((s[0].toNat:Int)==82)=Î:=by rw[l];rfl
 have F:=e8 λe=>(j.d.N e).1;clear l i j;rcases p with⟨G,oc⟩|G;all_goals
  go_wp2_with (first|(go_at_call 94;refine(rm _ _).mono ?_;rintro e u ⟨rfl,h⟩;subst u)|(go_at_call 97;refine(aoX _ _).mono ?_;rintro e u ⟨rfl,h⟩;subst u)|(go_at_call 96;refine(apI t U F.out (by show st.d.C.length<=100000;omega) _).mono ?_;rintro e u (⟨n,rfl,h⟩|⟨H,n,rfl,I,J,L,M,N⟩)))
  .subst h;exact C _ _ ⟨gl,⟨o,r.out.trans<|x.out.trans n,_,v.out,_,_,_,D.out⟩⟩
  .exact⟨gl,⟨o,H,r.out.trans<|x.out.trans n,v.out.fc I,J,L,M,N⟩⟩
end
section
variable{g:Gh}{s:ByteArray}{st:PS}{d:PD}
def apN{X:Ĉ->Í->Prop}(t:Fr b B (Å É k) y) (f:gL m b g O s st w) (i:jj B k st) (M:B.size<=1200) (v:k<B.size) (l:(0<st.r/\jT (B[k].toNat:Int)=Ë)\/st.r<=0) (n:0<s.size) (j:((s[0]'n).toNat:Int)=66) (o:ri (B[k].toNat:Int)=Î) (N:∀y u,Fr b B (Å É<|(k:Int)+1) y/\rp m b B k st w u->K y u) (_hQ:∀y u,Fr b B (Å É k) y/\ru m b B k st w u->X y u): à À pN (Exit.then K<|QQ X) y w:=by
 obtain⟨c,rfl⟩:=t;unfold oY;conv=>arg 2;whnf
 have P:w.cell? ⟨b,0,Á⟩=Â (Ä s):=f.r.r 0 _ U;have Q:w.cell? ⟨b,6,Á⟩=Â (Å É st.r):=f.r.r 6 _ U;have S:w.cell? ⟨b,7,Á⟩=Â (Å É st.I):=f.r.r 7 _ U;have T:=f.r.C 0;have V:=f.r.C 6;have W:=f.r.C 7;have Y:=i.M;have d1:=i.r;have e0:=i.C;have e1:=i.I;have x:=e8<|uj (B:=B) (k:=k)<|ui l;have p:=f.Y 0 λh=>absurd h A;have z:=e8<|me f 6<|Å É 0;have zk:=i.d.C;have BQ:=i.d.I;have HH1:=e8 p;let⟨C,D⟩:=uk B[k];have qe:=sC s Z;have xh:s.size<=10:=f.M;have h:=e8 (show st.C=(s[0].toNat:Int)::(jL s).tail by rw[<-f.I];exact vj s n);have r:st.d.r=Î:=by
  rcases f.N with q|q
  .exact q
  .rw[h.out]at q;injection q with q;omega
 have q:=e8<|apz (B:=B) (k:=k) (st:={st with r:=0}) h.out j o;have xi:((s[0].toNat:Int)==82)=Ë:=by rw[j];rfl
 have Es:((s[0].toNat:Int)==66)=Î:=by rw[j];rfl
 clear j f i;rcases l with⟨E,oc⟩|E;all_goals
  go_wp2_with (first|(go_at_call 94;refine(rm _ _).mono ?_;rintro e u ⟨rfl,F⟩;subst u)|(go_at_call 98;refine(SU _ C D _).mono ?_;rintro e u ⟨rfl,F⟩;subst u)|(go_at_call 99;refine(aaj p U r<|by show st.d.Y.length<=100000;omega).mono ?_;rintro e u ⟨rfl,F,H,I,J,G⟩)|(go_at_call 100;refine(KC G U r _ _<|show pL 120 _=Î from o).mono ?_;rintro e w'' ⟨rfl,G,H,I,J,L⟩))
  exact⟨gl,⟨v,_,x.out.trans q.out,z.out.fc<|F.fc G,H,I,J,L⟩⟩
def apO{X:Ĉ->Í->Prop}(z:Fr b B (Å É k) y) (f:gL m b g O s st w) (i:jj B k st) (V:B.size<=1200) (l:k<B.size) (n:(0<st.r/\jT (B[k].toNat:Int)=Ë)\/st.r<=0) (o:0<s.size) (j:((s[0]'o).toNat:Int)=66) (C:ri (B[k].toNat:Int)=Ë) (W:∀y u,Fr b B (Å É<|(k:Int)+1) y/\rp m b B k st w u->K y u) (D:∀y u,Fr b B (Å É k) y/\ru m b B k st w u->X y u): à À pN (Exit.then K<|QQ X) y w:=by
 obtain⟨c,rfl⟩:=z;unfold oY;conv=>arg 2;whnf
 have Y:w.cell? ⟨b,0,Á⟩=Â (Ä s):=f.r.r 0 _ U;have c6:w.cell? ⟨b,6,Á⟩=Â (Å É st.r):=f.r.r 6 _ U;have c7:w.cell? ⟨b,7,Á⟩=Â (Å É st.I):=f.r.r 7 _ U;have f0:=f.r.C 0;have f6:=f.r.C 6;have f7:=f.r.C 7;have d0:=i.M;have d1:=i.r;have e0:=i.C;have e1:=i.I;have p:=e8<|uj (B:=B) (k:=k)<|ui n;have r:=f.Y 0 λh=>absurd h A;have t:=e8<|me f 6<|Å É 0;have E:=i.d.C;have F:=i.d.I;have G:=e8 r;let⟨H,I⟩:=uk B[k];have qe:=sC s Z;have xh:s.size<=10:=f.M;have v:=e8 (show st.C=(s[0].toNat:Int)::(jL s).tail by rw[<-f.I];exact vj s o);have J:st.d.r=Î:=by
  rcases f.N with q|q
  .exact q
  .rw[v.out]at q;injection q with q;omega
 have x:=e8<|apA (B:=B) (k:=k) (st:={st with r:=0}) v.out j C;have xi:((s[0].toNat:Int)==82)=Ë:=by rw[j];rfl
 have Es:((s[0].toNat:Int)==66)=Î:=by rw[j];rfl
 clear j f i;rcases n with⟨L,oc⟩|L;all_goals
  go_wp2_with (first|(go_at_call 94;refine(rm _ _).mono ?_;rintro e u ⟨rfl,h⟩;subst u)|(go_at_call 98;refine(SU _ H I _).mono ?_;rintro e u ⟨rfl,h⟩;subst u)|(go_at_call 95;refine(aaw r U J F E _).mono ?_;rintro e u (⟨q,rfl,h⟩|⟨M,q,rfl,N,P,Q,S,T⟩)))
  .subst h;exact D _ _ ⟨gl,⟨l,p.out.trans<|x.out.trans q,_,t.out,_,_,_,G.out⟩⟩
  .exact⟨gl,⟨l,M,p.out.trans<|x.out.trans q,t.out.fc N,P,Q,S,T⟩⟩
theorem apP{X:Ĉ->Í->Prop}(C:Fr b B (Å É k) y) (i:gL m b g O s st w) (j:jj B k st) (Q:B.size<=1200) (o:k<B.size) (p:(0<st.r/\jT (B[k].toNat:Int)=Ë)\/st.r<=0) (r:0<s.size) (l:((s[0]'r).toNat:Int)=84) (S:∀y u,Fr b B (Å É<|(k:Int)+1) y/\rp m b B k st w u->K y u) (D:∀y u,Fr b B (Å É k) y/\ru m b B k st w u->X y u): à À pN (Exit.then K<|QQ X) y w:=by
 obtain⟨f,rfl⟩:=C;unfold oY;conv=>arg 2;whnf
 have T:w.cell? ⟨b,0,Á⟩=Â (Ä s):=i.r.r 0 _ U;have V:w.cell? ⟨b,6,Á⟩=Â (Å É st.r):=i.r.r 6 _ U;have W:w.cell? ⟨b,7,Á⟩=Â (Å É st.I):=i.r.r 7 _ U;have Y:=i.r.C 0;have f6:=i.r.C 6;have f7:=i.r.C 7;have d0:=j.M;have d1:=j.r;have e0:=j.C;have e1:=j.I;have t:=e8<|uj (B:=B) (k:=k)<|ui p;have v:=i.Y 0 λh=>absurd h A;have x:=e8<|me i 6<|Å É 0;have zk:=j.d.C;have BQ:=j.d.I;have E:=e8 v;let⟨sU,zj⟩:=uk B[k];have qe:=sC s Z;have xh:s.size<=10:=i.M;have h:=e8 (show st.C=(s[0].toNat:Int)::(jL s).tail by rw[<-i.I];exact vj s r);have F:st.d.r=Î:=by
  rcases i.N with q|q
  .exact q
  .rw[h.out]at q;injection q with q;omega
 have G:st.d.M=Î:=j.N (by rw[h.out,l];simp);have z:=e8<|apB (B:=B) (k:=k) (c:=(B[k].toNat:Int)) (st:={st with r:=0}) h.out l;have xi:((s[0].toNat:Int)==82)=Ë:=by rw[l];rfl
 have Es:((s[0].toNat:Int)==66)=Ë:=by rw[l];rfl
 have Et:((s[0].toNat:Int)==84)=Î:=by rw[l];rfl
 clear l i j;rcases p with⟨H,oc⟩|H;all_goals
  go_wp2_with (first|(go_at_call 94;refine(rm _ _).mono ?_;rintro e u ⟨rfl,q⟩;subst u)|(go_at_call 102;refine(aoW _ _).mono ?_;rintro e u ⟨rfl,q⟩;subst u)|(go_at_call 101;refine(apJ v U F G _).mono ?_;rintro e u (⟨n,rfl,q⟩|⟨I,n,rfl,J,L,M,N,P⟩)))
  .subst q;exact D _ _ ⟨gl,⟨o,t.out.trans<|z.out.trans n,_,x.out,_,_,_,E.out⟩⟩
  .exact⟨gl,⟨o,I,t.out.trans<|z.out.trans n,x.out.fc J,L,M,N,P⟩⟩
end
section
variable{g:Gh}{s:ByteArray}{st:PS}{d:PD}
theorem apQ{X:Ĉ->Í->Prop}(N:Fr b B (Å É k) y) (i:gL m b g O s st w) (j:jj B k st) (hB:B.size<=1200) (P:k<B.size) (E:(0<st.r/\jT (B[k].toNat:Int)=Ë)\/st.r<=0) (F:0<s.size) (l:((s[0]'F).toNat:Int)=80) (r:(B[k].toNat:Int)=125) (hK:∀y u,Fr b B (Å É<|(k:Int)+1) y/\rp m b B k st w u->K y u) (_hQ:∀y u,Fr b B (Å É k) y/\ru m b B k st w u->X y u): à À pN (Exit.then K<|QQ X) y w:=by
 obtain⟨f,rfl⟩:=N;unfold oY;conv=>arg 2;whnf
 have c0:w.cell? ⟨b,0,Á⟩=Â (Ä s):=i.r.r 0 _ U;have c6:w.cell? ⟨b,6,Á⟩=Â (Å É st.r):=i.r.r 6 _ U;have Q:w.cell? ⟨b,7,Á⟩=Â (Å É st.I):=i.r.r 7 _ U;have f0:=i.r.C 0;have f6:=i.r.C 6;have f7:=i.r.C 7;have d0:=j.M;have d1:=j.r;have S:=j.C;have T:=j.I;have G:=e8<|uj (B:=B) (k:=k)<|ui E;have v:=i.Y 0 λh=>absurd h A;have H:=e8<|me i 6<|Å É 0;have zk:=j.d.C;have BQ:=j.d.I;have V:=e8 v;let⟨sU,zj⟩:=uk B[k];have qe:=sC s Z;have xh:s.size<=10:=i.M;have h:=e8 (show st.C=(s[0].toNat:Int)::(jL s).tail by rw[<-i.I];exact vj s F);have z:st.d.r=Î:=by
  rcases i.N with q|q
  .exact q
  .rw[h.out]at q;injection q with q;omega
 have C:st.d.M=Î:=j.N (by rw[h.out,l];simp);have W:w.cell? ⟨b,3,Á⟩=Â (Ã<|g.Y st.d):=i.r.r 3 _ U;rw[Hv C]at W;let⟨Y,I,q⟩:=(i.C.r z).C C;have Tf:w.cell? ⟨g.t,5,Á⟩=Â (Ä st.d.N.p):=q.r 5 _ (by have:=BP st.d.N.c<|Ä st.d.N.p;rwa[I]at this);have Tg:=q.C 5;have LP:¬b=g.t:=λe=>fe.S q i.r A e.symm;have LO:¬g.t=b:=fe.S q i.r A;let⟨LQ,_⟩:=j.Y (by rw[h.out,l];simp);have xi:((s[0].toNat:Int)==82)=Ë:=by rw[l];rfl
 have Es:((s[0].toNat:Int)==66)=Ë:=by rw[l];rfl
 have Et:((s[0].toNat:Int)==84)=Ë:=by rw[l];rfl
 have Hz:((s[0].toNat:Int)==80)=Î:=by rw[l];rfl
 clear Y I q;have J:=e8<|apC (B:=B) (k:=k) (st:={st with r:=0}) h.out l r;have Ti:((B[k].toNat:Int) !=125)=Ë:=by rw[r];rfl
 obtain⟨n,L⟩:∃t:Nat,st.I=(t:Int):=⟨st.I.toNat,Z⟩;have o:=v.su z C<|B.extract (k-n) k;have M:=o.1.aay z h.out;have D:=e8 (Ê (show uf B k st (B[k].toNat:Int)=Â {({st with r:=0}:PS)with C:=(jL s).tail,d:=st.d.su (B.extract (k-n) k)} by rw[G.out,J.out,show({st with r:=0}:PS).I.toNat=n by show st.I.toNat=n;omega])<|Ê ((H.out.fc o.2).fc<|me o.1 0<|Ä<|s.extract 1 s.size) M);rw[L]at Q S T LQ;clear r l i j o M L J G H V v;rcases E with⟨A3,oc⟩|A3;all_goals
  go_wp2_with (first|(go_at_call 94;refine(rm _ _).mono ?_;rintro e u ⟨rfl,x⟩;subst u))
  go_region
  all_goals
   go_wp2;exact⟨gl,⟨P,_,D.out.1,D.out.2.1.C (eZ.fN e9 _) λ_ _ x=>x.elim,_,_,_,D.out.2.2.fN⟩⟩
theorem apR{X:Ĉ->Í->Prop}(C:Fr b B (Å É k) y) (i:gL m b g O s st w) (j:jj B k st) (Q:B.size<=1200) (D:k<B.size) (v:(0<st.r/\jT (B[k].toNat:Int)=Ë)\/st.r<=0) (x:0<s.size) (l:((s[0]'x).toNat:Int)=80) (o:¬(B[k].toNat:Int)=125) (r:st.I=40) (_hK:∀y u,Fr b B (Å É<|(k:Int)+1) y/\rp m b B k st w u->K y u) (E:∀y u,Fr b B (Å É k) y/\ru m b B k st w u->X y u): à À pN (Exit.then K<|QQ X) y w:=by
 obtain⟨f,rfl⟩:=C;unfold oY;conv=>arg 2;whnf
 have S:w.cell? ⟨b,0,Á⟩=Â (Ä s):=i.r.r 0 _ U;have T:w.cell? ⟨b,6,Á⟩=Â (Å É st.r):=i.r.r 6 _ U;have V:w.cell? ⟨b,7,Á⟩=Â (Å É st.I):=i.r.r 7 _ U;have W:=i.r.C 0;have Y:=i.r.C 6;have f7:=i.r.C 7;have d0:=j.M;have d1:=j.r;have e0:=j.C;have e1:=j.I;have F:=e8<|uj (B:=B) (k:=k)<|ui v;have G:=i.Y 0 λh=>absurd h A;have H:=e8<|me i 6<|Å É 0;have zk:=j.d.C;have BQ:=j.d.I;have I:=e8 G;let⟨sU,zj⟩:=uk B[k];have qe:=sC s Z;have xh:s.size<=10:=i.M;have n:=e8 (show st.C=(s[0].toNat:Int)::(jL s).tail by rw[<-i.I];exact vj s x);have J:st.d.r=Î:=by
  rcases i.N with q|q
  .exact q
  .rw[n.out]at q;injection q with q;omega
 have q:st.d.M=Î:=j.N (by rw[n.out,l];simp);have L:w.cell? ⟨b,3,Á⟩=Â (Ã<|g.Y st.d):=i.r.r 3 _ U;rw[Hv q]at L;let⟨M,z,h⟩:=(i.C.r J).C q;have Tf:w.cell? ⟨g.t,5,Á⟩=Â (Ä st.d.N.p):=h.r 5 _ (by have:=BP st.d.N.c<|Ä st.d.N.p;rwa[z]at this);have Tg:=h.C 5;have LP:¬b=g.t:=λe=>fe.S h i.r A e.symm;have LO:¬g.t=b:=fe.S h i.r A;let⟨LQ,_⟩:=j.Y (by rw[n.out,l];simp);have xi:((s[0].toNat:Int)==82)=Ë:=by rw[l];rfl
 have Es:((s[0].toNat:Int)==66)=Ë:=by rw[l];rfl
 have Et:((s[0].toNat:Int)==84)=Ë:=by rw[l];rfl
 have Hz:((s[0].toNat:Int)==80)=Î:=by rw[l];rfl
 clear M z h;have Ti:((B[k].toNat:Int) !=125)=Î:=by rwa[bne_iff_ne]
 have N:=e8<|aax (B:=B) (k:=k) (st:={st with r:=0}) n.out l o<|È r;have aaz:(st.I==40)=Î:=by rw[r];rfl
 clear r o l i j;rcases v with⟨P,oc⟩|P;all_goals
  go_wp2_with (first|(go_at_call 94;refine(rm _ _).mono ?_;rintro e u ⟨rfl,hw⟩;subst u))
  exact E _ _ ⟨gl,⟨D,F.out.trans N.out,_,H.out,_,_,_,I.out⟩⟩
theorem apS{X:Ĉ->Í->Prop}(E:Fr b B (Å É k) y) (i:gL m b g O s st w) (j:jj B k st) (S:B.size<=1200) (F:k<B.size) (v:(0<st.r/\jT (B[k].toNat:Int)=Ë)\/st.r<=0) (x:0<s.size) (l:((s[0]'x).toNat:Int)=80) (o:¬(B[k].toNat:Int)=125) (r:¬st.I=40) (z:¬lz (B[k].toNat:Int)=0) (T:∀y u,Fr b B (Å É<|(k:Int)+1) y/\rp m b B k st w u->K y u) (_hQ:∀y u,Fr b B (Å É k) y/\ru m b B k st w u->X y u): à À pN (Exit.then K<|QQ X) y w:=by
 obtain⟨f,rfl⟩:=E;unfold oY;conv=>arg 2;whnf
 have V:w.cell? ⟨b,0,Á⟩=Â (Ä s):=i.r.r 0 _ U;have W:w.cell? ⟨b,6,Á⟩=Â (Å É st.r):=i.r.r 6 _ U;have Y:w.cell? ⟨b,7,Á⟩=Â (Å É st.I):=i.r.r 7 _ U;have f0:=i.r.C 0;have f6:=i.r.C 6;have f7:=i.r.C 7;have d0:=j.M;have d1:=j.r;have e0:=j.C;have e1:=j.I;have G:=e8<|uj (B:=B) (k:=k)<|ui v;have H:=i.Y 0 λh=>absurd h A;have I:=e8<|me i 6<|Å É 0;have zk:=j.d.C;have BQ:=j.d.I;have C:=e8 H;let⟨sU,zj⟩:=uk B[k];have qe:=sC s Z;have xh:s.size<=10:=i.M;have n:=e8 (show st.C=(s[0].toNat:Int)::(jL s).tail by rw[<-i.I];exact vj s x);have J:st.d.r=Î:=by
  rcases i.N with q|q
  .exact q
  .rw[n.out]at q;injection q with q;omega
 have q:st.d.M=Î:=j.N (by rw[n.out,l];simp);have L:w.cell? ⟨b,3,Á⟩=Â (Ã<|g.Y st.d):=i.r.r 3 _ U;rw[Hv q]at L;let⟨M,D,h⟩:=(i.C.r J).C q;have Tf:w.cell? ⟨g.t,5,Á⟩=Â (Ä st.d.N.p):=h.r 5 _ (by have:=BP st.d.N.c<|Ä st.d.N.p;rwa[D]at this);have Tg:=h.C 5;have LP:¬b=g.t:=λe=>fe.S h i.r A e.symm;have LO:¬g.t=b:=fe.S h i.r A;let⟨LQ,_⟩:=j.Y (by rw[n.out,l];simp);have xi:((s[0].toNat:Int)==82)=Ë:=by rw[l];rfl
 have Es:((s[0].toNat:Int)==66)=Ë:=by rw[l];rfl
 have Et:((s[0].toNat:Int)==84)=Ë:=by rw[l];rfl
 have Hz:((s[0].toNat:Int)==80)=Î:=by rw[l];rfl
 clear M D h;have Ti:((B[k].toNat:Int) !=125)=Î:=by rwa[bne_iff_ne]
 have N:=e8<|apD (B:=B) (k:=k) (st:={st with r:=0}) n.out l o r z;have aaz:(st.I==40)=Ë:=by rwa[beq_eq_false_iff_ne]
 have ym:((lz (B[k].toNat:Int):Int)==0)=Ë:=by rw[beq_eq_false_iff_ne];omega
 clear r o l i j z;rcases v with⟨P,oc⟩|P;all_goals
  go_wp2_with (first|(go_at_call 94;refine(rm _ _).mono ?_;rintro e u ⟨rfl,Q⟩;subst u)|(go_at_call 103;refine(pF _ _).mono ?_;rintro e u ⟨rfl,Q⟩;subst u))
  exact⟨gl,⟨F,_,G.out.trans N.out,I.out.fc<|me C.out 7 _,_,_,_,C.out.aag _⟩⟩
theorem apT{X:Ĉ->Í->Prop}(D:Fr b B (Å É k) y) (i:gL m b g O s st w) (j:jj B k st) (T:B.size<=1200) (E:k<B.size) (v:(0<st.r/\jT (B[k].toNat:Int)=Ë)\/st.r<=0) (x:0<s.size) (l:((s[0]'x).toNat:Int)=80) (o:¬(B[k].toNat:Int)=125) (z:¬st.I=40) (r:lz (B[k].toNat:Int)=0) (_hK:∀y u,Fr b B (Å É<|(k:Int)+1) y/\rp m b B k st w u->K y u) (F:∀y u,Fr b B (Å É k) y/\ru m b B k st w u->X y u): à À pN (Exit.then K<|QQ X) y w:=by
 obtain⟨f,rfl⟩:=D;unfold oY;conv=>arg 2;whnf
 have V:w.cell? ⟨b,0,Á⟩=Â (Ä s):=i.r.r 0 _ U;have W:w.cell? ⟨b,6,Á⟩=Â (Å É st.r):=i.r.r 6 _ U;have Y:w.cell? ⟨b,7,Á⟩=Â (Å É st.I):=i.r.r 7 _ U;have f0:=i.r.C 0;have f6:=i.r.C 6;have f7:=i.r.C 7;have d0:=j.M;have d1:=j.r;have e0:=j.C;have e1:=j.I;have G:=e8<|uj (B:=B) (k:=k)<|ui v;have H:=i.Y 0 λh=>absurd h A;have I:=e8<|me i 6<|Å É 0;have zk:=j.d.C;have BQ:=j.d.I;have J:=e8 H;let⟨sU,zj⟩:=uk B[k];have qe:=sC s Z;have xh:s.size<=10:=i.M;have n:=e8 (show st.C=(s[0].toNat:Int)::(jL s).tail by rw[<-i.I];exact vj s x);have L:st.d.r=Î:=by
  rcases i.N with q|q
  .exact q
  .rw[n.out]at q;injection q with q;omega
 have q:st.d.M=Î:=j.N (by rw[n.out,l];simp);have M:w.cell? ⟨b,3,Á⟩=Â (Ã<|g.Y st.d):=i.r.r 3 _ U;rw[Hv q]at M;let⟨N,C,h⟩:=(i.C.r L).C q;have Tf:w.cell? ⟨g.t,5,Á⟩=Â (Ä st.d.N.p):=h.r 5 _ (by have:=BP st.d.N.c<|Ä st.d.N.p;rwa[C]at this);have Tg:=h.C 5;have LP:¬b=g.t:=λe=>fe.S h i.r A e.symm;have LO:¬g.t=b:=fe.S h i.r A;let⟨LQ,_⟩:=j.Y (by rw[n.out,l];simp);have xi:((s[0].toNat:Int)==82)=Ë:=by rw[l];rfl
 have Es:((s[0].toNat:Int)==66)=Ë:=by rw[l];rfl
 have Et:((s[0].toNat:Int)==84)=Ë:=by rw[l];rfl
 have Hz:((s[0].toNat:Int)==80)=Î:=by rw[l];rfl
 clear N C h;have Ti:((B[k].toNat:Int) !=125)=Î:=by rwa[bne_iff_ne]
 have P:=e8<|aax (B:=B) (k:=k) (st:={st with r:=0}) n.out l o<|Ï r;have aaz:(st.I==40)=Ë:=by rwa[beq_eq_false_iff_ne]
 have ym:((lz (B[k].toNat:Int):Int)==0)=Î:=by rw[r];rfl
 clear z o l i j r;rcases v with⟨Q,oc⟩|Q;all_goals
  go_wp2_with (first|(go_at_call 94;refine(rm _ _).mono ?_;rintro e u ⟨rfl,S⟩;subst u)|(go_at_call 103;refine(pF _ _).mono ?_;rintro e u ⟨rfl,S⟩;subst u))
  exact F _ _ ⟨gl,⟨E,G.out.trans P.out,_,I.out,_,_,_,J.out⟩⟩
end
section
variable{g:Gh}{s:ByteArray}{st:PS}{d:PD}
def apU{X:Ĉ->Í->Prop}(D:Fr b B (Å É k) y) (f:gL m b g O s st w) (i:jj B k st) (Q:B.size<=1200) (E:k<B.size) (v:(0<st.r/\jT (B[k].toNat:Int)=Ë)\/st.r<=0) (j:0<s.size) (n:¬((s[0]'j).toNat:Int)=82) (o:¬((s[0]'j).toNat:Int)=66) (p:¬((s[0]'j).toNat:Int)=84) (r:¬((s[0]'j).toNat:Int)=80) (x:pL ((s[0]'j).toNat:Int) (B[k].toNat:Int)=Î) (S:∀y u,Fr b B (Å É<|(k:Int)+1) y/\rp m b B k st w u->K y u) (_hQ:∀y u,Fr b B (Å É k) y/\ru m b B k st w u->X y u): à À pN (Exit.then K<|QQ X) y w:=by
 obtain⟨c,rfl⟩:=D;unfold oY;conv=>arg 2;whnf
 have T:w.cell? ⟨b,0,Á⟩=Â (Ä s):=f.r.r 0 _ U;have V:w.cell? ⟨b,6,Á⟩=Â (Å É st.r):=f.r.r 6 _ U;have W:w.cell? ⟨b,7,Á⟩=Â (Å É st.I):=f.r.r 7 _ U;have Y:=f.r.C 0;have f6:=f.r.C 6;have f7:=f.r.C 7;have d0:=i.M;have d1:=i.r;have e0:=i.C;have e1:=i.I;have F:=e8<|uj (B:=B) (k:=k)<|ui v;have G:=f.Y 0 λh=>absurd h A;have H:=e8<|me f 6<|Å É 0;have zk:=i.d.C;let⟨I,J⟩:=uk B[k];have qe:=sC s Z;have xh:s.size<=10:=f.M;have l:=e8 (show st.C=(s[0].toNat:Int)::(jL s).tail by rw[<-f.I];exact vj s j);have z:st.d.r=Î:=by
  rcases f.N with q|q
  .exact q
  .rw[l.out]at q;injection q with q;omega
 have xi:((s[0].toNat:Int)==82)=Ë:=by rwa[beq_eq_false_iff_ne]
 have apV:((s[0].toNat:Int)==66)=Ë:=by rwa[beq_eq_false_iff_ne]
 have Et:((s[0].toNat:Int)==84)=Ë:=by rwa[beq_eq_false_iff_ne]
 have Hz:((s[0].toNat:Int)==80)=Ë:=by rwa[beq_eq_false_iff_ne]
 have L:=e8<|apE (B:=B) (k:=k) (st:={st with r:=0}) l.out n o p r x;have M:=e8 x;clear n o p r f i;rcases v with⟨N,oc⟩|N;all_goals
  go_wp2_with (first|(go_at_call 94;refine(rm _ _).mono ?_;rintro e u ⟨rfl,h⟩;subst u)|(go_at_call 104;refine(Z_ _ _ I J _).mono ?_;rintro e u ⟨rfl,h⟩;subst u)|(go_at_call 100;refine(KC G U z _ _ M.out).mono ?_;rintro e P ⟨rfl,C,g',nm',q,h⟩;have k0:P.cell? ⟨b,0,Á⟩=Â (Ä q):=h.r.r 0 _ U;have kf0:=h.r.C 0;have sV:0<q.size:=h.apH l.out;have asy:q.size<=10:=h.M;have t:=e8<|Ê C h;clear C h))
  exact⟨gl,⟨E,_,F.out.trans L.out,H.out.fc<|t.out.1.fc<|me t.out.2 0 _,_,_,_,t.out.2.aay ((S8 _ _ _).1.trans z) l.out⟩⟩
def apW{X:Ĉ->Í->Prop}(t:Fr b B (Å É k) y) (f:gL m b g O s st w) (i:jj B k st) (L:B.size<=1200) (v:k<B.size) (r:(0<st.r/\jT (B[k].toNat:Int)=Ë)\/st.r<=0) (j:0<s.size) (l:¬((s[0]'j).toNat:Int)=82) (n:¬((s[0]'j).toNat:Int)=66) (o:¬((s[0]'j).toNat:Int)=84) (p:¬((s[0]'j).toNat:Int)=80) (x:pL ((s[0]'j).toNat:Int) (B[k].toNat:Int)=Ë) (_hK:∀y u,Fr b B (Å É<|(k:Int)+1) y/\rp m b B k st w u->K y u) (z:∀y u,Fr b B (Å É k) y/\ru m b B k st w u->X y u): à À pN (Exit.then K<|QQ X) y w:=by
 obtain⟨c,rfl⟩:=t;unfold oY;conv=>arg 2;whnf
 have M:w.cell? ⟨b,0,Á⟩=Â (Ä s):=f.r.r 0 _ U;have N:w.cell? ⟨b,6,Á⟩=Â (Å É st.r):=f.r.r 6 _ U;have P:w.cell? ⟨b,7,Á⟩=Â (Å É st.I):=f.r.r 7 _ U;have Q:=f.r.C 0;have S:=f.r.C 6;have T:=f.r.C 7;have V:=i.M;have W:=i.r;have Y:=i.C;have e1:=i.I;have C:=e8<|uj (B:=B) (k:=k)<|ui r;have D:=f.Y 0 λh=>absurd h A;have E:=e8<|me f 6<|Å É 0;have zk:=i.d.C;have BQ:=i.d.I;have F:=e8 D;let⟨G,H⟩:=uk B[k];have qe:=sC s Z;have xh:s.size<=10:=f.M;have h:=e8 (show st.C=(s[0].toNat:Int)::(jL s).tail by rw[<-f.I];exact vj s j);have on:st.d.r=Î:=by
  rcases f.N with q|q
  .exact q
  .rw[h.out]at q;injection q with q;omega
 have xi:((s[0].toNat:Int)==82)=Ë:=by rwa[beq_eq_false_iff_ne]
 have apV:((s[0].toNat:Int)==66)=Ë:=by rwa[beq_eq_false_iff_ne]
 have Et:((s[0].toNat:Int)==84)=Ë:=by rwa[beq_eq_false_iff_ne]
 have Hz:((s[0].toNat:Int)==80)=Ë:=by rwa[beq_eq_false_iff_ne]
 have q:=e8<|apF (B:=B) (k:=k) (st:={st with r:=0}) h.out l n o p x;clear l n o p f i;rcases r with⟨I,oc⟩|I;all_goals
  go_wp2_with (first|(go_at_call 94;refine(rm _ _).mono ?_;rintro e u ⟨rfl,J⟩;subst u)|(go_at_call 104;refine(Z_ _ _ G H _).mono ?_;rintro e u ⟨rfl,J⟩;subst u))
  exact z _ _ ⟨gl,⟨v,C.out.trans q.out,_,E.out,_,_,_,F.out⟩⟩
end
section
variable{g:Gh}{c:PS}{d:PD}
theorem apX{X:Ĉ->Í->Prop}{d:ByteArray}(e:Fr b d (Å É k) y) (f:gL m b g O B c w) (h:jj d k c) (i:d.size<=1200) (j:k<d.size) (l:∀y v,Fr b d (Å É<|(k:Int)+1) y/\rp m b d k c w v->K y v) (n:∀y v,Fr b d (Å É k) y/\ru m b d k c w v->X y v): à À pN (Exit.then K<|QQ X) y w:=by
 by_cases x:0<c.r/\jT (d[k].toNat:Int)=Î
 .grind [apK]
 have o:(0<c.r/\jT (d[k].toNat:Int)=Ë)\/c.r<=0:=by grind
 by_cases z:B.size=0
 .grind [apL]
 have p:0<B.size:=Z
 by_cases r:(B[0].toNat:Int)=82
 .grind [apM]
 by_cases q:(B[0].toNat:Int)=66
 .cases s:ri (d[k].toNat:Int)with
  |true=>exact apN e f h i j o p q s l n
  |false=>exact apO e f h i j o p q s l n
 by_cases s:(B[0].toNat:Int)=84
 .grind [apP]
 by_cases t:(B[0].toNat:Int)=80
 .grind [apQ,apR,apT,apS]
 cases u:pL (B[0].toNat:Int) (d[k].toNat:Int)with
 |true=>exact apU e f h i j o p r q s t u l n
 |false=>exact apW e f h i j o p r q s t u l n
def apY{X:Ĉ->Í->Prop}(c:Fr b B (Å É k) y)(_hB:B.size<=1200)(e:¬k<B.size)(_hk:k<=B.size) (d:∀y v,Fr b B (Å É k) y/\v=w->X y v): à À pN (Exit.then K<|QQ X) y w:=by
 obtain⟨u,rfl⟩:=c;unfold oY;conv=>arg 2;whnf
 go_wp2;exact d _ _ ⟨gl,U⟩
def nA(B:ByteArray):Nat×PS:=sy B B.size 0 sB
def RI(m b:Nat)(d:ByteArray)(w:Í)(a:Ĉ)(e:Í):Prop:=
 ∃(k:Nat) (g:Gh) (O:Option ù) (B:ByteArray) (c:PS),k<=d.size/\Fr b d (Å É k) a/\gL m b g O B c e/\eZ (λi=>m<=i) w e/\jj d k c/\nA d=sy d (d.size-k) k c
def Rmu(B:ByteArray)(a:Ĉ)(_:Í):Nat:=B.size-(intOf<|a.tmps.getD 5 ĸ).toNat
def RX(m b:Nat)(B:ByteArray)(w:Í)(a:Ĉ)(d:Í):Prop:=
 ∃(k:Nat) (c:PS),k<=B.size/\Fr b B (Å É k) a/\rn m b c w d/\(nA B).1=k/\(k=B.size->(nA B).2=c)
def aaA{i:Int}{w:Í}(h:Fr b B (Å É i) y):Rmu B y w=B.size-i.toNat:=by obtain⟨u,rfl⟩:=h;rfl
def apZ{a:PS}(b:k<B.size)(d:uf B k c (B[k].toNat:Int)=Â a):sy B (B.size-k) k c=sy B (B.size-(k+1)) (k+1) a:=by rw[show B.size-k=(B.size-(k+1))+1 by omega,sy,dif_pos b,d]
def ap0(a:k<B.size)(b:uf B k c (B[k].toNat:Int)=Á):sy B (B.size-k) k c=(k,c):=by rw[show B.size-k=(B.size-(k+1))+1 by omega,sy,dif_pos a,b]
def ap1{d:ByteArray}(i:Fr b d (Å É 0) y)(h:gL m b g O B sB w)(r:d.size<=1200): à À (ń pN) (QQ<|RX m b d w) y w:=by
 apply Γ (RI m b d w) (Rmu d) ⟨0,g,O,B,sB,Ø _,i,h,eZ.fQ _ _,Tb d,U⟩;rintro y x ⟨k,g,O,B,c,n,i,s,o,t,p⟩;by_cases j:k<d.size
 .refine apX i s t r j ?_ ?_
  .rintro u v ⟨f,z,e,l,q,C,D,E,F⟩;refine⟨⟨k+1,C,D,E,e,Z,by simpa using f,F,o.fc q,aar t j l,p.trans<|apZ j l⟩,?_⟩;rw[aaA f,aaA (w:=x) i];omega
  .rintro u v ⟨f,z,l,C,q,D⟩;have:=p.trans<|ap0 j l;exact⟨k,C,n,f,⟨o.fc q,D⟩,by rw[this],λe=>by omega⟩
 .apply apY i r j n;rintro u v ⟨f,rfl⟩;have:nA d=(k,c):=by rw[p,show d.size-k=0 by omega];rfl
  exact⟨k,c,n,f,⟨o,g,O,B,s⟩,by rw[this],λ_=>by rw[this]⟩
def ap2{c:ByteArray}(h:gL m b g O B sB w)(f:c.size<=1200): Ò À 61 #[Ã<|Â ⟨b,0,Á⟩,Ä c] w λe u=>
  ∃(k:Nat) (d:PS),k<=c.size/\e=Ç (Å É k)/\rn m b d w u/\(nA c).1=k/\(k=c.size->(nA c).2=d):=by
 go_enter Tryz.func61,Tryz.ntmps61;go_wp2;go_step3;go_wp2;go_step3;go_wp2;refine İ ?_ (ap1 gl h f);rintro(_|(_|_)|_|_|_|_) a v hq;all_goals first|exact absurd hq id|skip
 let⟨k,d,i,j,l⟩:=hq;obtain⟨e,rfl⟩:=j;unfold oY;go_wp2;(try rw[Exit.noGoto_ret]);go_ret;exact⟨k,d,i,U,(e8 l).out⟩
end
def mC(B:ByteArray):Int×Bool×List PR:=
 if B.size=0 then(0,Î,[])else(((nA B).1:Int),decide ((nA B).1=B.size)&&(decide ((nA B).2.C=[])||decide ((nA B).2.C=[66])),(nA B).2.d.C)
def iu(B:ByteArray):Int×Int×List PR:=
 if 1200<B.size then(1,0,[])else if(mC B).2.1=Î then(0,0,(mC B).2.2)else(2,(mC B).1,[])
def BR(m:Nat)(v:Ñ)(b:List PR)(w:Í):Prop:=jq m w/\∃a,w.ownsRow m 148 1 v a.length (mV a)/\oW w.heap.size a b w
section
variable{g:Gh}{s:ByteArray}{a:PS}
def BR.oz(w:Í):BR w.heap.size (Æ Á 0 0) [] w:=⟨jq.I w,[],⟨U,È ⟨U,U⟩⟩,oW.N _ _⟩
def gL.iG(h:gL m b g O s a w)(c:a.d.r=Ë->a.d.S=[])(n:Nat):BR m g.N a.d.C (w.drewN n):= ⟨h.a.iJ n,g.C a.d,gW h.C.C (eZ.iJ e9 w n) λ_ _=>id,(h.C.aak c).C (eZ.iJ e9 w n) λ_ _ x=>x.elim⟩
def g0(m:Nat):Gh:={a:=[],q:=0,t:=0,B:=m,tb:=[],N:=Æ Á 0 0,r:=Æ Á 0 0,b:=Á}
def ap3(w:Í):gL w.heap.size w.heap.size (g0 w.heap.size) Á ⟨#[82]⟩ sB (w.alloc<|Û #[Ä ⟨#[82]⟩,Æ Á 0 0,Ã Á,Ã Á,Ã Á,Ã Á,Å É 0,Å É 0] 153):= ⟨æ _,(jq.I w).gC _ _ A A (λv e=>by simp at e;rcases e with rfl|rfl|rfl|rfl<;>trivial),fe.N w [Ä ⟨#[82]⟩,Æ Á 0 0,Ã Á,Ã Á,Ã Á,Ã Á,Å É 0,Å É 0] 153,A,A,⟨⟨U,È ⟨U,U⟩⟩,oW.N _ _,(λe=>by cases e),λ_=>rfl⟩,(λq=>by cases q),Ï rfl⟩
def ap4(s:ByteArray):jL s=[66]↔s.toList=[66]:=by
 unfold jL;rw[ByteArray.toList_eq];constructor
 .intro h;match hl:s.data.toList with
  |[]=>rw[hl]at h;simp at h
  |[x]=>
   rw[hl]at h;simp only[ŉ,Ő,List.cons.injEq,and_true]at h;have:x=66:=UInt8.toNat_inj.1 (by have:x.toNat=66:=Z;rw[this];rfl);rw[this]
  |x::y::r=>rw[hl]at h;simp at h
 .intro h;rw[h];rfl
def Tk(a:¬B.size=0):(mC B).1=((nA B).1:Int):=by rw[mC,if_neg a]
def aaB(a:¬B.size=0):(mC B).2.2=(nA B).2.d.C:=by rw[mC,if_neg a]
def ap5(a:¬B.size=0)(h:¬(nA B).1=B.size):(mC B).2.1=Ë:=by rw[mC,if_neg a];simp[h]
def aaC(a:¬B.size=0)(h:(nA B).1=B.size){x:Bool}(b:x=(decide ((nA B).2.C=[])||decide ((nA B).2.C=[66]))):(mC B).2.1=x:=by rw[mC,if_neg a,b];simp[h]
def ap6(B:ByteArray):(nA B).2.d.r=Ë->(nA B).2.d.S=[]:=λe=>((Td B.size 0 sB (Tb B)<|Ø _).1.d.N e).1
theorem aaD(q:B.size<=1200): Ò À 45 #[Ä B] w λe u=>
  eZ e9 w u/\∃v,e=Ç (ë #[v,Å É (mC B).1,õ (mC B).2.1])/\((mC B).2.1=Î->BR w.heap.size v (mC B).2.2 u):=by
 by_cases a:B.size=0
 .have f:=Te B a;have n:=e8 (show mC B=(0,Î,[])from if_pos a);go_enter ε,Ν;go_wp2;apply ÿ (v:=ë #[Æ Á 0 0,Å É 0,õ Î]) (by simp[Ń,Ĥ,go_sem]) U;exact⟨eZ.fQ _ _,_,by rw[n.out],λ_=>by rw[n.out];exact BR.oz w⟩
 .have f:=sC B a;have b:=e8 a;go_enter ε,Ν;go_wp2_with (go_at_call 61;refine(ap2 (ap3 w) q).mono ?_;rintro e r ⟨k,d,i,rfl,⟨n,g,O,s,c⟩,h,t⟩);have l:eZ e9 w r:=((eZ.gC (λi=>w.heap.size<=i) w _ _).fc n).S λi D x=>by omega
  have E:=c.r.r 0 _ U;have F:=c.r.r 1 _ U;by_cases m:k=B.size
  .subst m;have y:=t U;subst y;have o:=e8 c.I;have p:=e8 λn=>c.iG (ap6 B) n;have n:=e8 h;have d:=e8 l;have z:((B.size:Int)==(B.size:Int))=Î:=fh
   by_cases a:s.size=0
   .have f:=Te s a;have j:=e8 (aaC b.out n.out (x:=Î)<|by rw[<-o.out,X' s a];rfl);go_quiet (fail);go_wp2;apply ÿ (v:=ë #[g.N,Å É B.size,õ Î]) (by simp[Ń,Ĥ,go_sem]) U;exact⟨d.out.fc<|eZ.iJ _ _ _,_,by rw[Tk b.out,n.out,j.out],λ_=>by rw[aaB b.out];exact p.out _⟩
   .have f:=sC s a;have j:=e8 (aaC b.out n.out (x:=(s.toList==[66])) (by
     rw[<-o.out];have C:¬jL s=[]:=λe=>by have:=SS s;grind
     rw[decide_eq_false C,Bool.false_or,Ě,beq_iff_eq,decide_eq_true_iff,ap4]))
    go_quiet (fail)
    go_wp2;apply ÿ (v:=ë #[g.N,Å É B.size,õ<|s.toList==[66]]) (by simp[Ń,Ĥ,go_sem]) U;exact⟨d.out.fc<|eZ.iJ _ _ _,_,by rw[Tk b.out,n.out,j.out],λ_=>by rw[aaB b.out];exact p.out _⟩
  .have z:((k:Int)==(B.size:Int))=Ë:=by rw[beq_eq_false_iff_ne];omega
   have n:=e8 (Ê h<|ap5 b.out<|by rwa[h]);have d:=e8 l;go_quiet (fail);go_wp2;apply ÿ (v:=ë #[g.N,Å É k,õ Ë]) (by simp[Ń,Ĥ,go_sem]) U;exact⟨d.out.fc<|eZ.iJ _ _ _,_,by rw[Tk b.out,n.out.1,n.out.2],λe=>by rw[n.out.2]at e;cases e⟩
def ap7(h:B.size<=đ): Ò À 36 #[Ä B] w λe u=>
  eZ e9 w u/\∃v,e=Ç (ë #[v,Å É (iu B).1,Å É (iu B).2.1])/\((iu B).1=0->BR w.heap.size v (iu B).2.2 u)/\((iu B).1≠0->v=Æ Á 0 0):=by
 unfold đ at h;by_cases b:1200<B.size
 .have a:=e8 (show iu B=(1,0,[]) by rw[iu,if_pos b]);go_enter ļ,Ř;go_wp2;apply ÿ (v:=ë #[Æ Á 0 0,Å É 1,Å É 0]) (by simp[Ń,Ľ,go_sem]) U;exact⟨eZ.fQ _ _,_,by rw[a.out],(λe=>by rw[a.out]at e;cases e),λ_=>rfl⟩
 .have f:B.size<=1200:=Z
  cases c:(mC B).2.1 with
  |true=>
   have a:=e8 (show iu B=(0,0,(mC B).2.2) by rw[iu,if_neg b,if_pos c]);go_enter ļ,Ř;go_wp2_with (go_at_call 45;refine(aaD f).mono ?_;rintro e i ⟨d,v,rfl,g⟩);apply ÿ (v:=ë #[v,Å É 0,Å É 0]) (by simp[Ń,Ľ,go_sem]) U;exact⟨d,_,by rw[a.out],(λ_=>by rw[a.out];exact g c),λe=>by rw[a.out]at e;exact absurd U e⟩
  |false=>
   have a:=e8 (show iu B=(2,(mC B).1,[]) by rw[iu,if_neg b,if_neg (by rw[c];exact Bool.false_ne_true)]);go_enter ļ,Ř;go_wp2_with (go_at_call 45;refine(aaD f).mono ?_;rintro e i ⟨d,v,rfl,g⟩);apply ÿ (v:=ë #[Æ Á 0 0,Å É 2,Å É (mC B).1]) (by simp[Ń,Ľ,go_sem]) U;exact⟨d,_,by rw[a.out],(λe=>by rw[a.out]at e;cases e),λ_=>rfl⟩
end
end Go.Proofs.Y.vg
namespace Go.Proofs.Y.lS
open Go Go.Conc Go.Proofs Go.RowKit Go.Proofs.Y.Lift Go.Proofs.Y.iz Go.Proofs.Y.fw Go.Proofs.Y.vg
structure HA(a:Nat)(t:PT)(w:Í):Prop where
 r:∃cs fz,w.heap[a]?=Â (Û cs 200 fz)
 c:∀i,i<5->w.cell? ⟨a,i,Á⟩=Â (Å É<|t.c.getD i 0)
 p:w.cell? ⟨a,5,Á⟩=Â (Ä t.p)
structure xj(r:Nat)(p:PR)(w:Í):Prop where
 c:∀i,i<8->w.cell? ⟨r,i,Á⟩=Â (Å É<|p.c.getD i 0)
 b:∃bp n cp,w.cell? ⟨r,8,Á⟩=Â (Æ bp n cp)/\n=p.r.length/\∀(j:Nat) (t:PT),p.r[j]?=Â t->∃tb a,bp=Â ⟨tb,0,Á⟩/\w.cell? ⟨tb,j,Á⟩=Â (Ã<|Â ⟨a,0,Á⟩)/\HA a t w
structure RQ(rs:List PR)(v:Ñ)(U:Nat->Prop)(w:Í):Prop where
 C:ku nB U w
 I:fg (kO U nB) v v
 M:∃bp cp,v=Æ bp rs.length cp/\∀(j:Nat) (p:PR),rs[j]?=Â p->∃sb r,bp=Â ⟨sb,0,Á⟩/\w.cell? ⟨sb,j,Á⟩=Â (Ã<|Â ⟨r,0,Á⟩)/\xj r p w
section
variable{f:Nat->Prop}{rs:List PR}{Y:fj}
theorem ap8(h:ja Y X u w){t:PT}(d:Y i n)(k:HA i t u):HA n t w:=by refine⟨?_,λb f=>(zf h).r d<|k.c b f,(zf h).C d k.p⟩;let⟨c,g,e,j,l,m,o,_⟩:=h.r i n d;let⟨r,s,q⟩:=k.r;grind
theorem ap9(h:ja Y X u w){r:Nat}{p:PR}(e:Y r i)(k:xj r p u):xj i p w:=by refine⟨λd f=>(zf h).r e<|k.c d f,?_⟩;let⟨G,n,g,l,m,o⟩:=k.b;let⟨x,q,s⟩:=zf h r i 8 _ e l;obtain⟨v,rfl,y⟩:=Ls s;refine⟨v,n,g,q,m,λj t z=> ?_⟩;let⟨tb,a,B,C,H⟩:=o j t z;let⟨I,J,D⟩:=y _ B;obtain⟨E,rfl,F⟩:=za D;let⟨K,L,M⟩:=zf h tb E j _ F C;grind [Lr,za,ap8]
theorem aqa(h:ja Y X u w)(b:fg Y v x)(a:RQ rs v f u):RQ rs x (λj=>∃i,f i/\Y i j) w:=by refine⟨SL h a.C,Lt b a.I,?_⟩;obtain⟨s,i,rfl,c⟩:=a.M;obtain⟨d,rfl,e⟩:=Ls b;refine⟨d,i,U,λj p g=> ?_⟩;let⟨k,r,l,m,t⟩:=c j p g;let⟨y,z,n⟩:=e _ l;obtain⟨o,rfl,q⟩:=za n;let⟨B,C,D⟩:=zf h k o j _ q m;grind [Lr,za,ap9]
def zm(k:W.heap[b]?=w.heap[b]?)(h:w.cell? ⟨b,i,Á⟩=Â z):W.cell? ⟨b,i,Á⟩=Â z:=by simp only[ß,k];exact h
def aqb(l:ku nB X w)(k:∀b,X b->W.heap[b]?=w.heap[b]?){r:Nat}{p:PR}(d:X r)(h:xj r p w):xj r p W:=by
 refine⟨λi e=>zm (k r d)<|h.c i e,?_⟩;let⟨u,n,v,m,x,y⟩:=h.b;refine⟨u,n,v,zm (k r d) m,x,λj t z=> ?_⟩;let⟨tb,a,o,q,f⟩:=y j t z;have s:X tb:=by have:=l.r d m;rw[o]at this;exact BK this
 have g:=BJ<|l.r s q;exact⟨tb,a,o,zm (k tb s) q,⟨by rw[k a g];exact f.r,λi e=>zm (k a g)<|f.c i e,zm (k a g) f.p⟩⟩
def RQ.r(h:RQ rs v f w)(k:∀b,f b->W.heap[b]?=w.heap[b]?):RQ rs v f W:=by
 refine⟨h.C.C k,h.I,?_⟩;obtain⟨g,i,rfl,l⟩:=h.M;refine⟨g,i,U,λj p m=> ?_⟩;let⟨a,r,c,d,n⟩:=l j p m;have e:f a:=by have:=h.I;rw[c]at this;exact BK this
 exact⟨a,r,c,zm (k a e) d,aqb h.C k (BJ<|h.C.r e d) n⟩
def aaE{v:Ñ}(h:mB m i v):fg (kO (λd=>m<=d/\d<i) nB) v v:=by
 cases v with
 |int k n=>exact .iC k n
 |bool b=>exact .lT b
 |string i=>exact .kD i
 |pointer a=>cases a with
  |none=>exact .lk
  |some a=>exact fg.jF (Y:=kO (λd=>m<=d/\d<i) nB) ⟨⟨U,h⟩,U,U⟩
 |slice a n c=>cases a with
  |none=>exact .nF n c
  |some a=>exact fg.kx (Y:=kO (λd=>m<=d/\d<i) nB) ⟨⟨U,h⟩,U,U⟩ n c
 |_=>exact absurd h<|by simp[mB]
def aqc{v:Ñ}(h:mB m i v):xr v=Ë:=by
 cases v with
 |int k n=>cases k<;>first|rfl|exact absurd h<|by simp[mB]
 |_=>rfl
def aqd(h:jq m w):ku nB (λi=>m<=i/\i<w.heap.size) w:=λb i=>by let⟨c,e,f,g,j,k,l,n,d⟩:=h b _ i.1<|å i.2;exact⟨c,e,f,by rw[å i.2,g],j,oS λv a=>aaE<|d v a,k,ze λv a=>aqc<|d v a,l,n⟩
theorem KB{base:Nat}(h:w.ownsRow base e 1 v jJ.length (mV jJ)):∃b f,v=Æ b jJ.length f/\∀(j r:Nat),jJ[j]?=Â r->∃a,b=Â ⟨a,0,Á⟩/\base<=a/\w.cell? ⟨a,j,Á⟩=Â (Ã<|Â ⟨r,0,Á⟩):=by
 obtain⟨m,⟨n,o⟩|⟨g,p,q,rfl,i,k,s,t,u,l⟩⟩:=h
 .grind
 .refine⟨_,_,U,λj r c=>⟨g,U,i,?_⟩⟩;have x:=(Õ.1 c).1;have d:(mV jJ)[j]?=Â (Ã<|Â ⟨r,0,Á⟩):=by simp[mV,c]
  rw[<-l,List.getElem?_take_of_lt Z]at d;simp only[ß,k,ö,ì,if_false];simpa using d
def aaF(h:fe n (nS zQ++[z]) T w)(a:i<zQ.length):w.cell? ⟨n,i,Á⟩=Â (Å É<|zQ.getD i 0):=h.r i _<|S2 a z
def aaG(h:fe i (nS zQ++[z]) T w)(a:zQ.length=n):w.cell? ⟨i,n,Á⟩=Â z:=h.r n _<|by rw[<-a];exact BP zQ z
def aqe{r:PR}(h:vl i n r w):xj n r w:=by
 let⟨x,tb,e,l,y,b⟩:=h.I;refine⟨λa c=>aaF e (by rwa[h.C]),?_⟩;obtain⟨m,o,rfl,p⟩:=KB l;refine⟨m,_,o,aaG e h.C,b.r,λj t f=> ?_⟩;have g:j<tb.length:=by rw[b.r];exact(Õ.1 f).1
 let⟨s,u,z,v⟩:=p j tb[j]<|Ó g;let⟨_,_,k,d⟩:=b.I j tb[j] t (Ó g) f;exact⟨s,tb[j],u,v,⟨_,_,d⟩,λa c=>aaF d (by rwa[k]),aaG d k⟩
def aqf(h:BR m v rs w):RQ rs v (λi=>m<=i/\i<w.heap.size) w:=by
 let⟨f,i,b,c⟩:=h;obtain⟨d,k,rfl,l⟩:=KB b;refine⟨aqd f,?_,d,k,by rw[c.I],λj p e=> ?_⟩
 .cases d with
  |none=>exact .nF _ _
  |some a=>
   have:=b.lt a.block (by rcases b.2 with⟨q,_⟩|⟨g,n,o,q,_⟩<;>(cases q;try rfl));exact aaE this
 .have a:j<i.length:=by rw[c.I];exact(Õ.1 e).1
  let⟨g,q,o,n⟩:=l j i[j]<|Ó a;exact⟨g,i[j],q,n,aqe<|c.M j i[j] p (Ó a) e⟩
end
def aaH(B:ByteArray)(z:Ñ)(u:Í):Prop:=∃v,z=ë #[v,Å É (iu B).1,Å É (iu B).2.1]/\((iu B).1=0->∃a,RQ (iu B).2.2 v a u)
def aqg(B:ByteArray):vG (aaH B):=λv u T D h=>by let⟨x,a,b⟩:=h;refine⟨x,a,λe=> ?_⟩;let⟨U,c⟩:=b e;exact⟨U,c.r λ_ _=>rfl⟩
def aaI{l:e7}(f:gp l)(s:¬l.q)(t:nB<=l.w.heap.size)(u:B.size<=đ)(m:Bool)(h:Ĕ)(k:List Ĕ): fw.ff À m (λa n=>kn l a/\a.d=l.d/\∃v,n=G (h.finish<|ë #[v,Å É (iu B).1,Å É (iu B).2.1]) k/\((iu B).1=0->∃V,RQ (iu B).2.2 v V a.w/\∀b,V b->a.O b/\l.w.heap.size<=b)) l (G (è À 36 #[Ä B] Ą)<|h::k):=by
 let⟨X,c,C,V⟩:=yC 36 fP;have D:∀T,Ò À 36 #[Ä B] (World.tp (kN (λj=>False/\¬(lJ l).O j) l.w) T 0) fun|Ç v,j=>aaH B v j/\jW j|_,_=>False:=λT=>by refine(ap7 u).mono ?_;rintro e p ⟨g,v,rfl,i,o⟩;exact⟨⟨v,U,λe=>⟨_,aqf<|i e⟩⟩,g.gN Eg⟩
 refine((Dm xu Kw yC (aqg B) fP C V (Dn f) s (λb q=>q.elim) ⟨λb q=>q.elim,t⟩ (λg q=>by cases q) (oS λv g=>by simp at g;subst g;exact .kD B) D m h k).lJ f).fI ?_;rintro a n ⟨x',⟨Y,j,v,v',_,E,F,⟨v0,rfl,o⟩,H,I,_,J⟩,rfl,K,L,_,_⟩;cases F with
 |@mX _ cs'' hs lX=>
  let⟨M⟩:=cs'';match M,hs with
  |[x,y,z],_=>
   have g:=lX 0 fh fh;have p:=lX 1 fh fh;have r:=lX 2 fh fh;simp at g p r;cases p;cases r;refine⟨K,J,x,H,λe=> ?_⟩;let⟨U,N⟩:=o e;refine⟨_,aqa E g (N.r λ_ _=>rfl),λb V=> ?_⟩;let⟨i,_,P⟩:=V;let⟨Q,S⟩:=I i b P;have W:l.w.heap.size<=b:=S.elim (λq=>q.elim) λq=>q.elim (λq=>q.elim) id;refine⟨È (Q.resolve_right λq=> ?_),W⟩;rw[L]at q;have:=f.fq b q;omega
end Go.Proofs.Y.lS
namespace Go.Proofs.Y.iz
open Go Go.Proofs Go.RowKit Go.Proofs.Y.Lift
def BS:List Ñ:=ic (jS 8)++[Æ Á 0 0,Å É 0,Æ Á 0 0]
def aqh(w:Í):Ò À 44 #[] w λe a=>∃c B,e=Ç (Æ (Â ⟨c,0,Á⟩) 1 1)/\fe B BS 147 a/\fe c [Ã<|Â ⟨B,0,Á⟩] 136 a/\eZ e9 w a:=by
 have d:(ic<|jS 8).length=144:=qW _;have i:(ic (jS 8)++[Æ Á 0 0]).length=145:=by rw[Ù,d];rfl
 have f:=e8<|Ê d i;unfold BS;have j:=e8 λW=>amt W;generalize jS 8=s at*;go_enter Tryz.func44,Tryz.ntmps44;go_wp2_with (first
  |(go_at_call 60;refine(j.out _).mono ?_;rintro e W ⟨rfl,b⟩;have k:=e8 b;clear b)
  |(with_reducible refine ď U (Â 2) U _ _ (R3 U U f.out.1) ?_)
  |(with_reducible refine ď U (Â 3) U _ _ (amK U U f.out.2) ?_)
  |(with_reducible refine ď U (Â 4) U _ _ (ZK U U) ?_))
 have g:=fe.N (W.alloc<|Û (ic s++[Æ Á 0 0,Å É 0,Æ Á 0 0]).toArray 147) [Ã<|Â ⟨W.heap.size,0,Á⟩] 136;have h:=eZ.gC e9 (W.alloc<|Û (ic s++[Æ Á 0 0,Å É 0,Æ Á 0 0]).toArray 147) #[Ã<|Â ⟨W.heap.size,0,Á⟩] 136;have l:(W.alloc<|Û (ic s++[Æ Á 0 0,Å É 0,Æ Á 0 0]).toArray 147).heap.size=W.heap.size+1:=fh
 rw[l]at g;have b:=e8<|Ê ((fe.N W (ic s++[Æ Á 0 0,Å É 0,Æ Á 0 0]) 147).I h id)<|Ê g<|(k.out.fc<|eZ.gC e9 W (ic s++[Æ Á 0 0,Å É 0,Æ Á 0 0]).toArray 147).fc h;go_ret;exact⟨W.heap.size+1,W.heap.size,U,b.out.1,b.out.2.1,b.out.2.2⟩
def aqi(n:Int)(j:1<=n)(k:n<=8)(w:Í):Ò À 35 #[Å É n] w λe b=>∃g a B,e=Ç (ë #[Ã<|Â ⟨g,0,Á⟩,Å É 0])/\fe g [Å É n,Æ (Â ⟨a,0,Á⟩) 1 1] 68 b/\fe B BS 147 b/\fe a [Ã<|Â ⟨B,0,Á⟩] 136 b/\eZ e9 w b:=by go_enter ζ,Tryz.ntmps35;go_wp2_with (go_at_call 44;refine(aqh _).mono ?_;rintro e c ⟨a,B,rfl,f,h,i⟩;have d:=e8<|Ê f<|Ê h i;clear f h i);go_ret2;have f:=eZ.gC e9 c #[Å É n,Æ (Â ⟨a,0,Á⟩) 1 1] 68;exact⟨c.heap.size,a,B,U,fe.N c [Å É n,Æ (Â ⟨a,0,Á⟩) 1 1] 68,d.out.1.I f id,d.out.2.1.I f id,d.out.2.2.fc f⟩
end Go.Proofs.Y.iz
namespace Go.Proofs.Y.lS
open Go Go.Conc Go.Proofs Go.RowKit Go.Proofs.Y.Lift Go.Proofs.Y.iz Go.Proofs.Y.fw Go.Proofs.Y.vg
section
variable{Y:fj}{a:Nat->Prop}
def aaJ:∀v∈BS,(∃k n,v=Å k n/\k≠ū)\/(∃p,v=Ä p)\/v=Æ Á 0 0:=λv k=>by
 unfold BS at k;rcases â.1 k with q|q
 .rcases SK _ v q with⟨n,rfl⟩|⟨p,rfl⟩
  .exact È ⟨_,_,U,A⟩
  .exact Ï<|È ⟨p,U⟩
 .simp at q;rcases q with rfl|rfl|rfl
  .exact Ï<|Ï U
  .exact È ⟨_,_,U,A⟩
  .exact Ï<|Ï U
def aaK:lF [iz.mA]:=⟨A,A,λv b=>by simp at b;subst b;exact⟨⟨(λp a=>by cases a),(λp a=>by cases a),Ø _,Ø _⟩,m_,Ť _,show(0:Int)<1 by decide⟩⟩
def aqj(d:iz.fe n BS 147 w)(f:iz.fe i [Ã<|Â ⟨n,0,Á⟩] 136 w):RD [iz.mA] (Æ (Â ⟨i,0,Á⟩) 1 1) (λk=>k=i\/k=n) w:=by
 refine⟨[(n,iz.mA)],U,aaK,⟨_,1,1,U,æ _,⟨U,λj b v e=> ?_⟩⟩,?_,fg.kx (Y:=kO (λk=>k=i\/k=n) nB) ⟨⟨U,È U⟩,U,U⟩ 1 1⟩
 .cases j with
  |zero=>
   cases e;exact⟨_,0,U,f.r 0 _ U,(amL m_<|by rwa[ő])⟩
  |succ j=>simp at e
 .rintro b (rfl|rfl)
  .refine⟨_,_,_,f,fh,oS λv c=> ?_,fh,ze λv c=> ?_,A,A⟩
   .simp at c;subst c;exact fg.jF (Y:=kO (λk=>k=b\/k=n) nB) ⟨⟨U,Ï U⟩,U,U⟩
   .simp at c;subst c;rfl
  .refine⟨_,_,_,d,fh,oS λv c=> ?_,by simp[BS],ze λv c=> ?_,A,A⟩
   .rcases aaJ v (by simpa using c)with⟨k,a,rfl,_⟩|⟨p,rfl⟩|rfl
    .exact .iC k a
    .exact .kD p
    .exact .nF 0 0
   .rcases aaJ v (by simpa using c)with⟨k,a,rfl,g⟩|⟨p,rfl⟩|rfl
    .cases k<;>first|rfl|exact absurd U g
    .rfl
    .rfl
def Eu(b:Nat)(n:Int)(c:Ñ)(w:Í):Prop:=∃a,w.heap[b]?=Â (Û #[Å É n,c] 68 a)/\a=(0,0)
def Eu.r(h:Eu i c v w)(k:W.heap[i]?=w.heap[i]?):Eu i c v W:=by let⟨a,b,d⟩:=h;exact⟨a,k.trans b,d⟩
def aqk(h:ja Y a u w)(g:∀b,¬a b)(q:Y i j)(k:iz.fe i [Å É c,v] 68 u):∃l,fg Y v l/\Eu j c l w:=by
 let⟨d,r,e,D,s,m,t,z,_,B,_⟩:=h.r i j q;unfold iz.fe at k;rw[k]at m;cases m;have f:=z.N<|g j;let⟨C⟩:=r;match C,f.r with
 |[x,y],_=>
  have o:=f.C 0 fh fh;have p:=f.C 1 fh fh;simp at o p;cases o;exact⟨y,p,s,t,(B<|g j).symm⟩
end
def aaL(n:Int)(z:Ñ)(u:Í):Prop:=∃a b B,z=ë #[Ã<|Â ⟨a,0,Á⟩,Å É 0]/\iz.fe a [Å É n,Æ (Â ⟨b,0,Á⟩) 1 1] 68 u/\RD [iz.mA] (Æ (Â ⟨b,0,Á⟩) 1 1) (λi=>i=b\/i=B) u/\a≠b/\a≠B
def aql(n:Int):vG (aaL n):=λv u T D h=>by let⟨b,c,B,d,e,a⟩:=h;exact⟨b,c,B,d,e,a.1.r λ_ _=>rfl,a.2⟩
def aqm{l:e7}(p:gp l)(K:¬l.q)(L:nB<=l.w.heap.size){n:Int}(M:1<=n)(N:n<=8)(C:Bool)(r:Ĕ)(s:List Ĕ): fw.ff À C (λf D=>kn l f/\f.d=l.d/\∃a e,D=G (r.finish<|ë #[Ã<|Â ⟨a,0,Á⟩,Å É 0]) s/\Eu a n e f.w/\f.O a/\l.w.heap.size<=a/\∃V,RD [iz.mA] e V f.w/\¬V a/\∀b,V b->f.O b/\l.w.heap.size<=b) l (G (è À 35 #[Å É n] Ą)<|r::s):=by
 let⟨fn,c,P,t⟩:=yC 35 fP;have Q:∀T,Ò À 35 #[Å É n] (World.tp (kN (λj=>False/\¬(lJ l).O j) l.w) T 0) fun|Ç v,h=>aaL n v h/\jW h|_,_=>False:=λT=>by refine(aqi n M N _).mono ?_;rintro e z ⟨a,k,B,rfl,V,m,o,g⟩;exact⟨⟨a,k,B,U,V,aqj m o,iz.fe.S V o A,iz.fe.S V m A⟩,g.gN Eg⟩
 refine((Dm xu Kw yC (aql n) fP P t (Dn p) K (λb q=>q.elim) ⟨λb q=>q.elim,L⟩ (λg q=>by cases q) (oS λv e=>by simp at e;subst e;exact .iC _ _) Q C r s).lJ p).fI ?_;rintro f D ⟨u,⟨Y,h,v,v',_,g,S,⟨a,k,B,rfl,V,m,o,W⟩,X,q7,_,q6⟩,rfl,ha,hR,_,_⟩;have E:∀i j,Y i j->(pX l u).O j/\l.w.heap.size<=j:=λi j e=>by let⟨z,F⟩:=q7 i j e;have H:l.w.heap.size<=j:=F.elim (λq=>q.elim) λq=>q.elim (λq=>q.elim) id;refine⟨È (z.resolve_right λq=> ?_),H⟩;rw[hR]at q;have:=p.fq j q;omega
 cases S with
 |@mX _ cs'' hs lX=>
  let⟨ls⟩:=cs'';match ls,hs with
  |[x,y],_=>
   have F:=lX 0 fh fh;have H:=lX 1 fh fh;simp at F H;cases H;obtain⟨a2,rfl,m3⟩:=Lr F;obtain⟨I,rfl,z⟩:=za m3;have h2':RD [iz.mA] (Æ (Â ⟨k,0,Á⟩) 1 1) (λi=>i=k\/i=B) {h with tape:=u.w.tape,drawn:=u.w.drawn}:=m.r λ_ _=>rfl;let⟨rY,J,e2⟩:=aqk g (λj q=>q.1) z V;let⟨vs,k1,k2,k3,k4,k5⟩:=h2';let⟨vs',n1,n2⟩:=Ho (zf g) J k3;let⟨p1,p2⟩:=E a I z;refine⟨ha,q6,I,rY,X,e2,p1,p2,_,⟨vs',n1.trans k1,k2,n2,SL g k4,Lt J k5⟩,?_,λb t=> ?_⟩
   .rintro⟨i,hi,e⟩;have:=g.C.2.1 _ _ _ z e;subst this;exact hi.elim o W
   .let⟨i,_,e⟩:=t;exact E i b e
end Go.Proofs.Y.lS
namespace Go.Proofs.Y.lS
open Go Go.Conc Go.Proofs Go.RowKit Go.Proofs.Y.Lift Go.Proofs.Y.iz Go.Proofs.Y.fw Go.Proofs.Y.vg
structure um(an:Nat)(xs:List ByteArray)(w:Í):Prop where
 r:∀(p:Nat) (x:ByteArray),xs[p]?=Â x->w.cell? ⟨an,p,Á⟩=Â (Ä x)
 C:w.cell? ⟨an,xs.length,Á⟩=Á
section
variable{an:Nat}{xs:List ByteArray}
theorem um.qz(h:um an xs w)(j:0<xs.length):∃c e d,w.heap[an]?=Â (Û c e d)/\c.size=xs.length/\∀v∈c.toList,∃x,v=Ä x:=by
 have i:∀p,p<xs.length->w.cell? ⟨an,p,Á⟩=Â (Ä xs[p]!):=λp a=>h.r p _ (by simp[a]);have b:=i 0 j;have f:=h.C;simp only[ß]at b f;cases g:w.heap[an]? with
 |none=>rw[g]at b;cases b
 |some o=>
  cases o<;>rw[g]at b f<;>simp only[ö,ì,if_false]at b f<;>first|cases b|skip
  rename_i c e d;have k:c.size<=xs.length:=by grind
  have l:=λp a=>by have:=i p a;simp only[ß,g,ö,ì,if_false]at this;exact this
  have m:xs.length<=c.size:=by grind
  refine⟨c,e,d,U,Nat.le_antisymm k m,λv n=> ?_⟩;let⟨p,a⟩:=ė n;have q:p<c.size:=by have:=(Õ.1 a).1;simpa using this
  have:=l p Z;rw[ķ]at a;rw[this]at a;cases a;exact⟨_,U⟩
end
def aqn{l:e7}(o:gp l)(F:¬l.q)(H:nB<=l.w.heap.size)(h:um i vX l.w)(I:0<vX.length)(J:l.M i)(p:kU i=Ë)(f:kE l.w i=Â (0,0))(hn:vX.length<=1000)(K:B.size=1)(L:iK vX+vX.length<=140737488355328)(r:Bool)(k:Ĕ)(m:List Ĕ): fw.ff À r (λn s=>kn l n/\n.d=l.d/\s=G (k.finish<|Ä<|ot B vX) m) l (G (è À 38 #[Æ (Â ⟨i,0,Á⟩) vX.length vX.length,Ä B] Ą)<|k::m):=by
 let⟨fn,c,N,P⟩:=yC 38 fP;let⟨t,e,Q,y,b2,z⟩:=h.qz I;have C:(λj=>j=i/\¬(lJ l).O j)=λj=>j=i:=by funext j;exact propext ⟨λq=>q.1,λq=>⟨q,id⟩⟩
 have S:∀T,Ò À 38 #[Æ (Â ⟨i,0,Á⟩) vX.length vX.length,Ä B] (World.tp (kN (λj=>j=i) l.w) T 0) fun|Ç v,E=>v=Ä (ot B vX)/\jW E|_,_=>False:=λT=>by
  refine(SC U Z (æ _) K (λj v a=> ?_) L).mono ?_
  .unfold kt at a;rw[ī]at a;obtain⟨x,b,rfl⟩:=ò.1 a;exact⟨i,0,U,by rw[œ];exact oU (È p)<|h.r j x b⟩
  .rintro e g ⟨rfl,b⟩;exact⟨U,b.gN Eg⟩
 have V:∀v∈t.toList,fg (pz (λj=>j=i) À.globals.size) v v:=λv a=>by obtain⟨x,rfl⟩:=z v a;exact .kD x
 have X:fM (pz (λj=>j=i) À.globals.size) #[Æ (Â ⟨i,0,Á⟩) vX.length vX.length,Ä B] #[Æ (Â ⟨i,0,Á⟩) vX.length vX.length,Ä B]:=oS λv a=>by
  have b:v=Æ (Â ⟨i,0,Á⟩) vX.length vX.length\/v=Ä B:=by simpa using a
  rcases b with rfl|rfl
  .exact fg.kx (Y:=pz (λj=>j=i) À.globals.size) ⟨⟨U,U⟩,U,U⟩ _ _
  .exact .kD B
 have W:=Dm xu Kw yC (λv u T D h=>h) fP N P (Dn o) F (λb q=>Ï<|by rwa[q]) (by rw[C];refine⟨λb q=> ?_,H⟩;subst q;exact⟨t,e,Q,y,(by unfold kE at f;rw[y]at f;cases f;exact Ø _),oS V,λ_=>⟨Z,(λq=>by rw[p]at q;cases q),λ_=>ze λv a=>by obtain⟨x,rfl⟩:=z v a;rfl⟩⟩) (λg q=>by cases q) X (by rwa[C]) r k m;refine(W.lJ o).fI ?_;rintro n s ⟨D,⟨Y,E,v,v',_,_,b,rfl,g,_,_,u⟩,rfl,x,_,_,_⟩;cases b;exact⟨x,u,g⟩
end Go.Proofs.Y.lS
namespace Go.Proofs.Y.fw
open Go Go.Conc Go.Proofs.Y.Lift
open Go.ConcN (sumTo sumTo_congr)
def Tl(P:ω)(a:Ñ->Í->Prop):Jd:=λl g=>g.status=.running/\∃v,(∀w,stepG P Î g w=.ended (.done v) w)/\a v l.w
section
variable{Y:Nat->Prop}{e:Nat->e7}
def ko.mB{J:Jd}{T:gk}(c:ko P Y zX i J T D e E w qJ){sl:Option (Nat×Nat)}(k:vQ v u):Ξ P vQ (Į E w sl) (.done v) u qJ:=by
 have C:=c.r.r;have f:∀a g,E[a]?=Â g->a≠0->QuitsD P (D a) (Deaf qJ a) g:=λa g b d=>by
  let⟨g0,j,h,_,_⟩:=c.r.C a g b;obtain rfl:g=g0:=by cases h;rfl
  simp only[d,if_false]at j;rw[C.f a<|(á.1 b).1];exact j _<|fE.fQ _ _
 refine⟨v,U,k,C.l,c.N,⟨λg l=> ?_,U⟩,λa g b d=>⟨D a,(f a g b d).hears _⟩⟩;let⟨j,h⟩:=ė l;rw[List.getElem?_drop]at h;exact⟨_,(f (1+j) g (by rwa[<-ķ]) Z).leaves⟩
theorem aqo{J:Jd}{T:gk}{l:e7}(u:l.w=W)(v:l.d=0)(m:¬l.q)(n:∀b,¬l.I b)(r:∀a,¬l.r a)(o:∀a,¬l.N a)(y:∀a,¬l.K a)(z:∀b,l.O b->b<W.heap.size)(B:g.status=.running)(C:kJ P Î J T l g):qS P (λ_=>False) 0 J T (λ_=>0) (λ_=>l) #[g] W #[]:=by
 have f:∀(p:Nat) a,touchAt #[] p=Â a->False:=λp a h=>by unfold touchAt Trace.act? at h;simp at h
 refine⟨fh,⟨⟨λi j s D E=> ?_,λi j s D E=> ?_,λi _ b _=>n b,λi _ a _=>o a,λ_ _ _ _=>id,λi _ a e=>e.elim (λq=>absurd q<|r a) λq=>absurd q<|o a,λi _ b F=>F.elim (z b) λq=>absurd q<|n b,λ_ h=>h.elim,λi _=>by rw[u];exact fE.fQ _ _,λi _=>⟨λa e p x k=>(f p x k).elim,λa e=>(n _ e).elim,λa e=>(r a e).elim,λa e=>(o a e).elim⟩,λi _=>by rw[v];rfl,λH q=> ?_,λI G=>by simp at G,λp a c h=>(f p a h).elim,λi _ a e=>absurd e<|y a⟩,λi x k=> ?_,λj _=>rfl⟩,λi L s=> ?_,m,λp a h=>(f p a h).elim,λp a x h=>(f p a h).elim,λa _ q m=> ?_,?_⟩
 .grind
 .grind
 .let⟨i,j,_,⟨a,b,e,_⟩,_⟩:=q;simp[Trace.act?]at e
 .have t:i<1:=(á.1 k).1;obtain rfl:i=0:=Z
  obtain rfl:g=x:=by simpa using k
  exact⟨g,C,.gd,È B,È U⟩
 .grind
 .simp[Trace.act?]at m
 .intro i g t;simp[Trace.g?]at t
end
end Go.Proofs.Y.fw
namespace Go.Proofs.Y.lS
open Go Go.Conc Go.Proofs Go.RowKit Go.Proofs.Y.Lift Go.Proofs.Y.iz Go.Proofs.Y.fw Go.Proofs.Y.vg
open Go.ConcN (sumTo)
def zn(f:Ñ->Í->Prop)(c:Array Ċ)(w:Í)(d:Option (Nat×Nat))(t:Ž):Prop:=
 ∃N a v b e,ſ À (N+1) (Į c w d) t=(.ended (.done v) b,e)/\runN À N (Į c w d)=.next a/\step À a=.ended (.done v) b/\Ξ À f a (.done v) b e
section
variable{f:Array Ċ}{w':Í}{sl e:Option (Nat×Nat)}{t:Ž}{l:e7}
def zn.fI{a:Ñ->Í->Prop}(h:zn vQ E w sl t)(b:∀v u,vQ v u->a v u):zn a E w sl t:=by let⟨M,c,v,x,d,e,f,g,i⟩:=h;exact⟨M,c,v,x,d,e,f,g,i.mono λv q=>b v x q⟩
def zn.pX{N:Nat}(r:ſ À N (Į E w sl) t=(.next<|Į f w' e,qJ))(h:zn vQ f w' e qJ):zn vQ E w sl t:=by
 let⟨M,a,v,x,b,c,d,g,i⟩:=h;refine⟨N+M,a,v,x,b,?_,?_,g,i⟩
 .rwa[Nat.add_assoc,runNT_add,r]
 .rw[<-Ţ À (N+M) (Į E w sl) t,runNT_add,r];rwa[Ţ]
def rv(vQ:Ñ->Í->Prop)(E:Array Ċ)(w:Í)(sl:Option (Nat×Nat))(t:Ž):Prop:=zn (λv u=>vQ v u/\u.os=w.os/\u.output=w.output) E w sl t
def rv.r{N:Nat}(r:ſ À N (Į E w sl) t=(.next<|Į f w' e,qJ))(a:w'.os=w.os/\w'.output=w.output)(h:rv vQ f w' e qJ):rv vQ E w sl t:= zn.pX r<|h.fI λ_ _ q=>⟨q.1,q.2.1.trans a.1,q.2.2.trans a.2⟩
def ko.aqp{Y:Nat->Prop}:∀(s:Nat) (h:Nat->Nat) (j:Nat->e7) (E:Array Ċ) (w:Í) (sl:Option (Nat×Nat)) (t:Ž),sumTo E.size h=s->ko À Y zX n (Tl À vQ) .fv h j E w t->rv vQ E w sl t:=by
 intro s
 induction s using Nat.strongRecOn with
 |_ s r=>
  intro h j E w sl t I c;have J:=c.C;obtain⟨g0,a⟩:∃g,E[0]?=Â g:=⟨_,å Z⟩;have o:∀d,Tl À vQ {j 0 with w:=w.at d} g0:=λd=>by
   let⟨u,b,k,_,_⟩:=(c.I d).r.C 0 g0 a;obtain rfl:g0=u:=by cases k;rfl
   exact b (w.at d)<|(c.I d).r.r.r 0 Z
  obtain⟨i,g,d,e,l,x,m⟩:=crowd_pick c.Jk ⟨0,g0,a,(o 0).1⟩;by_cases p:i=0
  .subst p;rw[a]at l;obtain rfl:=af l;let⟨_,v,q,y⟩:=o d;have u:stepT À (Į E w sl)=(.ended (.done v)<|w.at d,#[]):=by
    rw[m,ConcN.runT_crowd_ended a<|q<|w.at d];rfl
   refine⟨0,Į E w sl,v,w.at d,t,?_,U,?_,c.mB ⟨y,U,U⟩⟩
   .simp[ſ,u]
   .have:=stepT_fst À (Į E w sl) Î;rw[<-this];rw[u]
  .let⟨q,y,f,u,b,k,K,L,z⟩:=(c.I d).Yx (sl:=e) l p x;let⟨N,B,v,w',qJ,C,D,F,G⟩:=r (sumTo f.size q) (by rw[k];omega) q y f (w.at d) e (t++u) U z;refine⟨N+1,B,v,w',qJ,by simp only[ſ,m,b];exact C,?_,F,G⟩;have:=Ţ À (N+1) (Į E w sl) t;rw[<-this];simp only[ſ,m,b];rwa[Ţ]
structure iW(l:e7):Prop where
 r:gp l
 d:l.d=0
 q:¬l.q
 N:∀b,¬l.I b
 I:∀a,¬l.r a
 M:∀a,¬l.N a
 k:∀a,¬l.K a
def iW.C(h:iW l)(r:fE l l.w u):iW {l with w:=u}:= ⟨⟨h.r.c,h.r.Y,h.r.N,λb q=>Ģ (h.r.fq b q) r.r,λa q=>q.elim (λz=>(h.I a z).elim) λz=>(h.M a z).elim,λa q=>(h.k a q).elim⟩,h.d,h.q,h.N,h.I,h.M,h.k⟩
def jf(vQ:Ñ->Í->Prop)(l:e7)(g:Ċ):Prop:=
 iW l->g.status=.running->∀(a:Loc->Prop) (H:Nat) (J:Jd) (c:Nat->Nat) (b:Nat->e7) (E:Array Ċ) (sl:Option (Nat×Nat)) (t:Ž),u9 a H l->fw.qS À a H J .fv c b E l.w t->(b 0).d=0->E[0]?=Â g->rv vQ E l.w sl t
def aqr{a:e7}(h:u9 zX i l)(k:qd l a l.w a.w):u9 zX i a:= ⟨h.r,λb c x d q=>by
  rcases k.N b c with z|z
  .exact h.fi b z x d q
  .have:=h.r x q;have:=h.C;omega,Ì h.C k.r⟩
def Tm{J f:Jd}{e:Nat->e7}(a:iW l)(h:g.status=.running)(j:u9 zX i l)(c:fw.qS À zX i J .fv D e E l.w t)(m:(e 0).d=0)(n:E[0]?=Â g)(W:fw.ff À Î f l g):∃T,fw.qS À zX i f T D (fw.uG e l) E l.w t:=by let⟨T,o⟩:=jc W;exact⟨T,ko.Y c m n h U a.d a.q a.N a.I a.M a.k (λb q=>⟨a.r.fq b<|È q,j.fi b q⟩) o⟩
def aaM{Y:Nat->Prop}{J:Jd}{a:Nat->e7}(c:ko À Y zX i J .fv D a E w t):∃g,E[0]?=Â g/\J {a 0 with w:=w} g:=by
 obtain⟨g0,b⟩:∃g,E[0]?=Â g:=⟨_,å c.C⟩;let⟨d,e,f,_,_⟩:=c.r.C 0 g0 b;obtain rfl:g0=d:=by cases f;rfl
 exact⟨g0,b,e w<|c.r.r.r 0 c.C⟩
def LU(vQ:Ñ->Í->Prop):Jd:=λl g=>iW l/\g.status=.running/\jf vQ l g
def aqs{b:Nat->e7}{T:gk}(m:(b 0).w=w)(n:u9 zX i (b 0))(c:fw.qS À zX i (LU vQ) T D b E w t):rv vQ E w sl t:=by let⟨N,o,p,f,w',e,qJ,r,_,a,j⟩:=ko.G (λl g h=>È h.2.1) T _ D b E w sl t U c;let⟨v,q,h,s,u⟩:=aaM j;refine rv.r r ⟨a.C,a.I⟩<|u h s zX i (LU vQ) o p f e qJ ?_ j h.d q;apply aqr n;rw[m];exact⟨a.r,a.N,a.c,a.S,a.b,a.k,a.jH,a.M,a.Y,a.C,a.I,a.d⟩
def ov(W:fw.ff À Î (LU vQ) l g):jf vQ l g:=by intro b d i H J j k E sl t a c e f;let⟨T,h⟩:=Tm b d a c e f W;exact aqs (by rw[fw.Q0]) (by rwa[fw.Q0]) h
def aqt(W:fw.ff À Î (Tl À vQ) l g):jf vQ l g:=by intro b d s H J i u E sl t j c k m;let⟨T,n⟩:=Tm b d j c k m W;let⟨N,o,p,f,w',e,qJ,r,_,a,q⟩:=ko.G (λl g h=>È h.1) T _ i _ E l.w sl t U n;exact rv.r r ⟨a.C,a.I⟩<|ko.aqp _ o p f w' e qJ U q
def zg.N{e:vf}{R:Nat}{kd:Nat->Int}{f:List fJ}{c:e7}(h:zg X e R kd f l i v c)(r:fE c c.w u):zg X e R kd f l i v {c with w:=u}:=by have a:=λb q=>r.I b<|È q;let⟨V,j,g⟩:=h.Y;exact⟨λb q=>⟨(h.M b q).1,(a b (h.M b q).1).trans (h.M b q).2⟩,⟨h.r.1,λp k=>(gF<|a i h.r.1).trans<|h.r.2 p k⟩,⟨V,j.r λb q=>a b (g b q).1,g⟩,h.d,h.q,h.S,h.C,(gF<|a i h.r.1).trans h.I.1,(vI<|a i h.r.1).trans h.I.2⟩
def aqu{kd:Nat->Int}{bt:vf}{V0 h:Nat->Prop}{s0:List fJ}{B:Option ù}{I:Option ù}{R:Nat}{C:Ĕ}{z:Array ğ} (Gq:0<R->I=Â ⟨j7,0,Á⟩) (uY:0<R->l.M j7) (Gr:∀i,i<R->l.w.cell? ⟨j7,i,Á⟩=Â (Ã<|Â ⟨D i,0,Á⟩)) (Gs:∀i,i<R->l.w.cell? ⟨D i,4,Á⟩=Â (Å É<|kd i)) (K:Hs l bt kd D R X) (hZ:(∀b,X b->h b)/\∀b,b=1\/b=2\/b=3\/b=4->h b) (hZO:∀b,h b->l.O b) (hVZ:∀b,V0 b->h b) (Bf:RD s0 (Æ B j j9) V0 l.w) (hn:1<=n) (hs:n+R<1000) (hJ:∀o v p m c,iW o->zg h bt R kd s0 l v (Æ p m c) o->jf vQ o (G (C.at (y.put ((z[i]?).bind (·.dst))<|ë #[Æ (Â ⟨v,0,Á⟩) R R,Æ p m c])<|Ð z jJ::L) qX)): jf vQ l (De (Æ B j j9) (Æ I R j6) n<|C.at y (Ð z (i::jJ)::L)::qX):=by
 intro s hr jd H J lv lot E sl t Ly c hd P;have W:fw.ff À Î (Kk kd D R n (Æ B j j9) l<|C.at y (Ð z (i::jJ)::L)::qX) l (De (Æ B j j9) (Æ I R j6) n<|C.at y (Ð z (i::jJ)::L)::qX):= ah6 s.r s.q s.d Z Gq uY Gr (λi P=>È<|K.fi _<|K.r i P) Gs λg S o u x F v T V Y bw bf v1 h1 h2=>⟨g,S,u,x,F,v,T,V,Y,bw,bf,v1,h1,h2,U⟩;let⟨T,c'⟩:=Tm s hr Ly c hd P W;let⟨N,jm,GJ,f,w',e,qJ,r,_,x,c''⟩:=ko.G (λlx gx S=>by obtain⟨_,_,_,_,_,_,_,_,_,_,_,_,_,_,rfl⟩:=S;exact È U) T _ lv _ E l.w sl t U c';apply rv.r r ⟨x.C,x.I⟩;let⟨N2,aqv,V,T2,Kl,Ra,gs2,w2,GI,t2,r2,io2,c2⟩:=aoK (J:=λu V o F=>u9 u V o/\LU vQ o F) U c'' e s.r s.N s.q s.d Ly K hZ hZO hVZ Bf ⟨x.C,x.I⟩ hn hs λDk H' o v p m c Y z2 u=> .fv λw₁ F=>by have kL:iW o:=⟨z2,u.d,u.q,u.S,u.C.1,u.C.2.1,u.C.2.2⟩;exact⟨⟨Y.r,Y.fi,Ì Y.C F.r⟩,kL.C F,U,hJ _ v p m c (kL.C F)<|u.N F⟩
 apply rv.r r2 ⟨io2.1.trans x.C.symm,io2.2.trans x.I.symm⟩;let⟨N3,RR,aqw,gs3,w3,sl3,t3,r3,_,wn3,c3⟩:=ko.G (λlx gx S=>È S.2.2.1) T2 _ Kl Ra gs2 w2 GI t2 U c2;apply rv.r r3 ⟨wn3.C,wn3.I⟩;let⟨g3,Tn,o5,S,hr3,hs3⟩:=aaM c3;exact hs3 S hr3 aqv V _ RR aqw gs3 sl3 t3 o5 c3 S.d Tn
end
end Go.Proofs.Y.lS
namespace Go.Proofs.Y.lS
open Go Go.Conc Go.Proofs Go.RowKit Go.Proofs.Y.Lift Go.Proofs.Y.iz Go.Proofs.Y.fw Go.Proofs.Y.vg
open Go.Conc.Lib Go.ConcR.Gen Go.Proofs.YtgpphkdoanciiaaGreatDoor
def toTx(t:PT):Tx:=⟨(t.c.getD 0 0).toNat,(t.c.getD 1 0).toNat,t.c.getD 2 0,t.c.getD 3 0,t.c.getD 4 0,t.p⟩
def toQn(r:PR):Qn:=⟨(r.c.getD 0 0).toNat,(r.c.getD 1 0).toNat,(r.c.getD 2 0).toNat,(r.c.getD 3 0).toNat,r.c.getD 4 0,r.c.getD 5 0,r.c.getD 6 0,(r.c.getD 7 0).toNat⟩
def sD:PR:=⟨[],[]⟩
def xk(a:List PR):vf where
 r:=λp=>((a.getD p sD).c.getD 5 0,((a.getD p sD).c.getD 0 0).toNat,(a.getD p sD).r.map toTx)
 C:=λp=>toQn<|a.getD p sD
def mD(a:List PR)(p:Nat):Int:=(a.getD p sD).c.getD 4 0
section
variable{p:PR}{t:PT}{a:Nat}{rs:List PR}{l:e7}
theorem toTx_ok(h:ny t):(toTx t).Ok:=by have d:=h.c.r 0 A;have e:=h.c.r 1 A;have a:=h.c.r 2 A;have b:=h.c.r 3 A;simp only[lj]at d e a b;exact⟨by show(t.c.getD 0 0).toNat<8;omega,by show(t.c.getD 1 0).toNat<8;omega,a.1,a.2,b.1,b.2,h.p⟩
theorem zo(a:0<=c)(h:w.cell? ⟨b,i,Á⟩=Â (Å É c)):w.cell? ⟨b,i,Á⟩=Â (Å É (c.toNat:Nat)):=by grind
theorem aqx(h:ny t)(k:HA a t w):lB a (toTx t) w:=by have b:=h.c.r 0 A;have d:=h.c.r 1 A;simp only[lj]at b d;exact⟨k.r,zo b.1<|k.c 0 A,zo d.1<|k.c 1 A,k.c 2 A,k.c 3 A,k.c 4 A,k.p⟩
theorem aqy(h:uh p)(k:xj i p w):BL i (p.c.getD 5 0) (p.c.getD 0 0).toNat (p.r.map toTx) w:=by
 have e:=h.c.r 0 A;simp only[lj]at e;let⟨f,n,g,l,m,o⟩:=k.b;let⟨r,s,u⟩:=vu (R:=λj t (y:Nat×Tx)=>y.2=toTx t/\∃d,f=Â ⟨d,0,Á⟩/\w.cell? ⟨d,j,Á⟩=Â (Ã<|Â ⟨y.1,0,Á⟩)/\HA y.1 t w) p.r 0 λj t v=>by let⟨d,a,y,q,x⟩:=o j t v;simp_all
 refine⟨f,n,g,r,⟨zo e.1<|k.c 0 A,k.c 5 A,l⟩,⟨by rw[m,s],λj a t q=> ?_⟩,?_,by have:=h.n;omega⟩
 .let⟨x,z,y,d,D,B,C⟩:=u j (a,t) q;simp only at y B C;subst y;have E:=h.C x<|ç z;grind [aqx,toTx_ok]
 .refine Ŕ λj=> ?_;unfold lb;grind
def aqz(h:uh p)(k:xj i p w):Hr i (toQn p) w:=by have a:=h.c.r 0 A;have b:=h.c.r 1 A;have d:=h.c.r 2 A;have e:=h.c.r 3 A;have f:=h.c.r 7 A;simp only[lj]at a b d e f;exact⟨zo a.1<|k.c 0 A,zo b.1<|k.c 1 A,zo d.1<|k.c 2 A,zo e.1<|k.c 3 A,k.c 4 A,k.c 5 A,k.c 6 A,zo f.1<|k.c 7 A⟩
def aaN(h:uh p)(k:p.c.getD 4 0≠1):(toQn p).Ok:=by
 have d:=h.c.r 0 A;have e:=h.c.r 1 A;have f:=h.c.r 2 A;have g:=h.c.r 3 A;have i:=h.c.r 4 A;have a:=h.c.r 5 A;have b:=h.c.r 6 A;have j:=h.c.r 7 A;simp only[lj]at d e f g i a b j;refine⟨?_,?_,?_,?_,?_,?_,a.1,b.1,?_⟩
 .show(p.c.getD 0 0).toNat<8;omega
 .show(p.c.getD 1 0).toNat<8;omega
 .show(p.c.getD 2 0).toNat<1000000;omega
 .show(p.c.getD 3 0).toNat<18446744073709551616;omega
 .show 2<=p.c.getD 4 0;omega
 .show p.c.getD 4 0<=9;omega
 .show(p.c.getD 7 0).toNat<16;omega
theorem aqA(h:RQ rs v X l.w)(k:∀i∈rs,uh i)(B:mU l.w)(C:∀b,b=1\/b=2\/b=3\/b=4->l.O b)(m:∀b,X b->l.O b): ∃d e f g,v=Æ d rs.length e/\(0<rs.length->d=Â ⟨f,0,Á⟩)/\(0<rs.length->l.O f)/\(∀a,a<rs.length->l.w.cell? ⟨f,a,Á⟩=Â (Ã<|Â ⟨g a,0,Á⟩))/\(∀a,a<rs.length->l.w.cell? ⟨g a,4,Á⟩=Â (Å É<|mD rs a))/\Hs l (xk rs) (mD rs) g rs.length X:=by
 obtain⟨o,D,rfl,E⟩:=h.M;have p:∀a,a<rs.length->rs[a]?=Â (rs.getD a sD):=λa d=>by simp[Ġ,d]
 have r:=λa d=>ç<|p a d;obtain⟨f,s⟩:∃f,∀a,a<rs.length->o=Â ⟨f,0,Á⟩:=by
  by_cases e:0<rs.length
  .let⟨j,i,q,_⟩:=E 0 _<|p 0 e;exact⟨j,λ_ _=>q⟩
  .simp_all
 have F:∀a,∃i,a<rs.length->l.w.cell? ⟨f,a,Á⟩=Â (Ã<|Â ⟨i,0,Á⟩)/\xj i (rs.getD a sD) l.w:=λa=>by grind
 let⟨g,j⟩:=Classical.axiomOfChoice F;have u:=λe=>by have:=h.I;rw[s 0 e]at this;exact BK this
 refine⟨o,D,f,g,U,λe=>s 0 e,λe=>m _<|u e,λa d=>(j a d).1,λa d=>(j a d).2.c 4 A,B,C,h.C,m,λa d=>(BJ<|h.C.r (u Z) (j a d).1),λa d y=> ?_,λa d y=> ?_⟩
 .have q:=k _<|r a d;have e:=q.c.r 0 A;have z:=q.c.r 5 A;simp only[lj]at e z;refine⟨aqy q (j a d).2,?_,z.1,λt G=> ?_,?_⟩
  .show((rs.getD a sD).c.getD 0 0).toNat<8;omega
  .obtain⟨x,H,rfl⟩:=Ú.1 G;exact toTx_ok<|q.C x H
  .show((rs.getD a sD).r.map toTx).length<=1000;rw[ú];have:=q.n;omega
 .have q:=k _<|r a d;exact⟨aqz q (j a d).2,aaN q y⟩
end
theorem To:(∀r∈(iu B).2.2,uh r)/\(iu B).2.2.length<=24:=by
 unfold iu;split
 .grind
 .split
  .unfold mC;split
   .grind
   .have:=(Td B.size 0 sB (Tb B)<|Ø _).1.d;exact⟨this.G,this.C⟩
  .grind
def mf(rs:List PR)(s:List fJ):List ByteArray:=(ĳ rs.length).map λp=>xd (xk rs) (mD rs) p<|qn (xk rs) (ij (mD rs) rs.length) s<|fL (mD rs) p
def zp(rs:List PR)(s:List fJ):List fJ:=qn (xk rs) (ij (mD rs) rs.length) s<|fL (mD rs) rs.length
def mW(s:List fJ)(B:ByteArray):ByteArray×Int×List fJ:=
 if(iu B).1=0 then(ot ⟨#[59]⟩<|mf (iu B).2.2 s,0,zp (iu B).2.2 s)else(⟨#[]⟩,(iu B).1,s)
section
variable{b:Ĕ}{l:e7}{a:Ĉ}
def aaO{md:Ŀ}(I:Array Bool->Ĉ->e7->Prop) (o:∀c a l i k,I c a l->i∈ä md Q c->(∀f g,I (c.setIfInBounds i Î) f g->jf vQ g (G (b.at f<|Ð Q k::L) qX))->jf vQ l (G (b.at a<|Ð Q (i::k)::L) qX)) (m:∀c a l,I c a l->c.size=Q.size->ä md Q c=[]->jf vQ l (G (b.at a<|Ð Q []::L) qX)): ∀(d t:Nat) (c:Array Bool) (a:Ĉ) (l:e7),c.size=Q.size->jh c<=d->I c a l->jf vQ l (G (b.at a<|Ð Q (ć md Q d t c [])::L) qX):=by
 intro d
 induction d with
 |zero=>
  intro t c a l e p h;simpa[ć]using m c a l h e<|PO e Z
 |succ d q=>
  intro t c a l e p h;simp only[ć];change jf vQ l (G (b.at a (Ð Q (match(ä md Q c)[t%(ä md Q c).length]? with
   |some i=>ć md Q d (t/(ä md Q c).length) (c.setIfInBounds i Î) [i]
   |none=>[].reverse)::L)) qX)
  cases j:(ä md Q c)[t%(ä md Q c).length]? with
  |none=>
   have r:ä md Q c=[]:=by
    cases s:ä md Q c with
    |nil=>rfl
    |cons x n=>
     rw[s]at j;have u:t%(x::n).length<(x::n).length:=Nat.mod_lt _ fh;simp at j;simp at u;omega
   simpa using m c a l h e r
  |some i=>
   simp only[];rw[linearise_go_acc,List.reverse_singleton,List.singleton_append];have n:=ç j;refine o c a l i _ h n λf g r=>(q _ _ f g (by simpa using e) (by have:=Js (Β.1 n).1;omega) r)
def aqB{id:Nat}(I:Array Bool->Ĉ->e7->Prop)(e:iW l) (j:∀f,fE l l.w f->I (Ū Q.size Ë) a {l with w:=f}) (k:∀g c a l i m,I c a l->i∈ä g Q c->(∀n o,I (c.setIfInBounds i Î) n o->jf vQ o (G (b.at n<|Ð Q m::L) qX))->jf vQ l (G (b.at a<|Ð Q (i::m)::L) qX)) (p:∀g c a l,I c a l->c.size=Q.size->ä g Q c=[]->jf vQ l (G (b.at a<|Ð Q []::L) qX)): jf vQ l (G (b.at a<|av (.region id Q Î)::L) qX):=by
 refine ov (.mk U λf r=>⟨_,_,_,_,stepG_region_draw,PN (lZ e.r.r r) e.q,.fv λs d=> ?_⟩);have h:=r.fc ⟨d.r,d.I,d.N,d.Y,d.S⟩;refine⟨e.C h,U,?_⟩;unfold Region.schedule;split
 .exact aaO I (k _) (p _) _ _ _ _ _ fh (by rw[CL];exact æ _)<|j s h
 .exact aaO I (k _) (p _) _ _ _ _ _ fh (by rw[CL];exact æ _)<|j s h
def aqC{I:Ĉ->e7->Prop}(W:fw.ff À Î (λa d=>∃c,d=G (b.at c<|Ð Q jJ::L) qX/\I c a) l g)(f:∀c a,I c a->iW a)(i:∀c a,I c a->jf vQ a (G (b.at c<|Ð Q jJ::L) qX)):jf vQ l g:= ov (W.fI λa d h=>by obtain⟨c,rfl,e⟩:=h;exact⟨f c a e,U,i c a e⟩)
def LV{f:FuncId}{fn:Func}(xs:List Value)(n:Nat)(hf:Tryz.prog.funcs[f]?=some fn)(hb:fn.body=some (lu fn []):=by kernel_rfl)(hn:fn.ntmps=xs.length+n:=by kernel_rfl):Frame.enter Tryz.prog f xs.toArray .normal=(base f).at ⟨(xs++List.replicate n undef).toArray,[]⟩ [.code<|lu fn []]:=by rw[enter_at _ hf hb,hn,ř,Nat.add_sub_cancel_left,show xs.toArray++Ū n ĸ=(xs++ą n ĸ).toArray from Array.ext' fh]
def xl{J:Jd}{f:Ρ}{args:Array Ñ}(d:Q[i]?=Â o)(e:ē o (Ι Q a.tmps)=Î)(g:b.kind≠.early)(h:jY l) (j:∀w,(ś a.eval o).run À w=.ok (.enter f args) w) (k:∀w,(ś a.eval o).events À w #[]=#[]) (m:∀c,fE l l.w c->fw.ff À Î J {l with w:=c} (G (è À f args Ą)<|b.at a (Ð Q (i::jJ)::L)::qX)): fw.ff À Î J l (G (b.at a<|Ð Q (i::jJ)::L) qX):=by refine .mk U λc r=>⟨G (è À f args Ą)<|b.at a (Ð Q (i::jJ)::L)::qX,c,#[],{l with w:=c},?_,Oi c<|lZ h r,m c r⟩;rw[stepG_enter d e g<|j c];unfold ax;rw[k c,seen_none]
def zq{f:Ρ}{args:Array Ñ}(e:iW l)(j:Q[i]?=Â o)(k:ē o (Ι Q a.tmps)=Î)(m:b.kind≠.early) (n:∀w,(ś a.eval o).run À w=.ok (.enter f args) w) (p:∀w,(ś a.eval o).events À w #[]=#[]) (q:∀d,fE l l.w d->jf vQ {l with w:=d} (G (è À f args Ą)<|b.at a (Ð Q (i::jJ)::L)::qX)): jf vQ l (G (b.at a<|Ð Q (i::jJ)::L) qX):= ov (xl j k m e.r.r n p λd r=> .fv λg c=>by have h:fE l l.w g:=r.fc ⟨c.r,c.I,c.N,c.Y,c.S⟩;exact⟨e.C h,U,q g h⟩)
def kn.Bg{c:e7}(e:iW l)(h:kn l c)(k:c.d=l.d):iW c:=by
 have g:∀b,¬c.I b:=by rw[h.I];exact e.N
 have f:∀a,¬c.r a:=by rw[h.N];exact e.I
 have i:∀a,¬c.N a:=by rw[h.Y];exact e.M
 have j:∀a,¬c.K a:=by rw[h.K];exact e.k
 exact⟨⟨λb _=>g b,λa q=>(f a q).elim,λa q=>q.elim (λz=>(f a z).elim) λz=>(i a z).elim,λb q=>q.elim (λz=>h.fq b z) λz=>(g b z).elim,λa q=>q.elim (λz=>(f a z).elim) λz=>(i a z).elim,λa q=>(j a q).elim⟩,k.trans e.d,by rw[h.q];exact e.q,g,f,i,j⟩
end
def HB:ğ:=⟨Â 21,.move<|ň 0,26, "attic.go:46",#[],Á⟩
def HC:ğ:=⟨Â 22,.nilCheck<|ň 21,0, "attic.go:46",#[⟨0,ĉ⟩],Á⟩
def HF:ğ:=⟨Â 23,.fieldAddr 68 (ň 22) 1,0, "attic.go:46",#[⟨1,ĉ⟩],Á⟩
def HG:ğ:=⟨Â 24,.load 65<|ň 23,65, "attic.go:46",#[⟨2,ĉ⟩],Á⟩
def HJ:ğ:=⟨Â 25,.move<|ň 6,61, "attic.go:46",#[],Á⟩
def HL:ğ:=⟨Â 26,.move<|ň 0,26, "attic.go:46",#[],Á⟩
def HM:ğ:=⟨Â 27,.nilCheck<|ň 26,0, "attic.go:46",#[⟨5,ĉ⟩],Á⟩
def HN:ğ:=⟨Â 28,.fieldAddr 68 (ň 27) 0,0, "attic.go:46",#[⟨6,ĉ⟩],Á⟩
def HO:ğ:=⟨Â 29,.load 3<|ň 28,3, "attic.go:46",#[⟨7,ĉ⟩],Á⟩
def xm:ğ:=⟨Â 30,.call {callee:=.value<|.func 37,args:=#[ň 24,ň 25,ň 29],argTypes:=#[65,61,3]},66, "attic.go:46",#[⟨3,ĉ⟩,⟨4,ĉ⟩,⟨8,ĉ⟩],Á⟩
def zr:ğ:=⟨Â 20,.move<|ň 30,66, "attic.go:46",#[⟨9,ĉ⟩],Á⟩
def BT:ğ:=⟨Â 31,.extract (ň 20) 0,25, "attic.go:46",#[⟨10,ĉ⟩],Á⟩
def BU:ğ:=⟨Â 32,.extract (ň 20) 1,65, "attic.go:46",#[⟨10,ĉ⟩,{on:=13,ground:=Ground.gcOnly Departure.lateStores}],Á⟩
def BV:ğ:=⟨Â 9,.assign<|ň 31,25, "attic.go:46",#[⟨11,ĉ⟩,⟨9,.chain⟩,⟨0,ñ⟩,⟨1,ñ⟩,⟨2,ñ⟩,⟨3,ñ⟩,⟨4,ñ⟩,⟨5,ñ⟩,⟨6,ñ⟩,⟨7,ñ⟩,⟨8,ñ⟩,⟨9,ñ⟩,⟨10,ñ⟩,⟨11,ñ⟩,{on:=12,ground:=Ground.textOnly Departure.lateStores}],Á⟩
def BW:ğ:=⟨Â 10,.assign<|ň 32,65, "attic.go:46",#[⟨12,ĉ⟩,⟨13,.chain⟩,⟨0,ñ⟩,⟨1,ñ⟩,⟨2,ñ⟩,⟨3,ñ⟩,⟨4,ñ⟩,⟨5,ñ⟩,⟨6,ñ⟩,⟨7,ñ⟩,⟨8,ñ⟩,⟨9,ñ⟩,⟨10,ñ⟩,⟨11,ñ⟩,⟨12,ñ⟩,⟨13,ñ⟩],Á⟩
def nT:Array ğ:=#[HB,HC,HF,HG,HJ,HL,HM,HN,HO,xm,zr,BT,BU,BV,BW]
noncomputable def Tp:Τ:=lu Tryz.f17 [1,1,1,1]
structure nD(l:e7)(ab n:Nat)(s:List fJ)(sl:Ñ)(V:Nat->Prop):Prop where
 r:mU l.w
 C:∀b,b=1\/b=2\/b=3\/b=4->l.O b
 a:Eu ab n sl l.w
 fi:l.O ab
 I:RD s sl V l.w
 Y:∀b,V b->l.O b
 e:¬V ab
 c:1<=n
 d:n<=8
 M:¬(ab=1\/ab=2\/ab=3\/ab=4)
structure LW(l l':e7)(ab n:Nat)(s':List fJ)(V:Nat->Prop):Prop where
 uJ:∀b,l.O b->b≠ab->l'.O b/\l'.w.heap[b]?=l.w.heap[b]?
 att:∃rY V',nD l' ab n s' rY V'/\∀b,V' b->V b\/(b=1\/b=2\/b=3\/b=4)\/l.w.heap.size<=b
section
variable{l d:e7}{ab:Nat}{s:List fJ}{sl:Ñ}{V:Nat->Prop}
def nD.S{a:e7}(h:nD l ab n s sl V)(c:∀b,l.O b->a.O b)(d:∀b,l.O b->a.w.heap[b]?=l.w.heap[b]?)(e:l.w.heap.size<=a.w.heap.size):nD a ab n s sl V:= ⟨h.r.r (Ì h.r.fq e) λb q=>d b<|h.C b q,λb q=>c b<|h.C b q,h.a.r<|d ab h.fi,c ab h.fi,h.I.r λb q=>d b<|h.Y b q,λb q=>c b<|h.Y b q,h.e,h.c,h.d,h.M⟩
def nD.N(h:nD l ab n s sl V)(r:fE l l.w u):nD {l with w:=u} ab n s sl V:=h.S (λ_ q=>q) (λb q=>r.I b<|È q) r.r
def jU(ab:Nat)(n:Nat)(sl rs:Ñ)(x:Value×Value):Nat->Ñ
 |0=>Ã<|Â ⟨ab,0,Á⟩
 |1=>Ã<|Â ⟨ab,0,Á⟩
 |2=>Ã<|Â ⟨ab,1,Á⟩
 |3=>sl
 |4=>rs
 |5=>Ã<|Â ⟨ab,0,Á⟩
 |6=>Ã<|Â ⟨ab,0,Á⟩
 |7=>Ã<|Â ⟨ab,0,Á⟩
 |8=>Å É n
 |9=>ë #[x.1,x.2]
 |10=>ë #[x.1,x.2]
 |11=>x.1
 |12=>x.2
 |13=>x.1
 |14=>x.2
 |_=>ĸ
def vo(d:e7)(V:Nat->Prop)(rs:List PR)(s:List fJ)(listed:Array Bool)(x:Value×Value)(l:e7):Prop:=
 iW l/\(listed.getD 9 Ë=Ë->fY e9 d l)/\(listed.getD 9 Ë=Î->∃a e p m c,fY e9 d a/\x=(Æ (Â ⟨e,0,Á⟩) rs.length rs.length,Æ p m c)/\zg (λb=>V b\/b=1\/b=2\/b=3\/b=4) (xk rs) rs.length (mD rs) s a e (Æ p m c) l)
def vo.jO{V:Nat->Prop}{a:List PR}{s:List fJ}{listed:Array Bool}{x:Value×Value}(h:vo d V a s listed x l)(b:i≠9){w₁:Í}(r:fE l l.w w₁):vo d V a s (listed.setIfInBounds i Î) x {l with w:=w₁}:=by
 have e:(listed.setIfInBounds i Î).getD 9 Ë=listed.getD 9 Ë:=by simp[Array.getD_eq_getD_getElem?,Array.getElem?_setIfInBounds_ne b]
 refine⟨h.1.C r,λq=> ?_,λq=> ?_⟩
 .rw[e]at q;exact(h.2.1 q).G r
 .rw[e]at q;let⟨f,g,p,m,c,j,k,n⟩:=h.2.2 q;exact⟨f,g,p,m,c,j,k,n.N r⟩
theorem aqD{D:Array Ñ}{I:List PR}(J:nD d ab n s sl V)(T:D.size=39)(W:D[0]?=Â (Ã<|Â ⟨ab,0,Á⟩))(Y:D[6]?=Â z) (md:Ŀ) (listed:Array Bool) (a:Ĉ) (l:e7) (i:Nat) (O:List Nat) (hI:II nT D (jU ab n sl z) (vo d X I s) listed a l) (p:i∈ä md nT listed) (F:i≠9): fw.ff À Î (λc e=>∃b,e=G ((base 17).at b<|Ð nT O::L) qX/\II nT D (jU ab n sl z) (vo d X I s) (listed.setIfInBounds i Î) b c) l (G ((base 17).at a<|Ð nT (i::O)::L) qX):=by
 let⟨x,g,H⟩:=hI;have t:tx nT D.size=Î:=by rw[T];decide
 have K:=CM p;have u:=H.1.r.r;have y:=H.1.q;have P:=(g.C A).trans W;have LX:=(g.C A).trans Y;have B:∀c,fE l l.w c->vo d X I s (listed.setIfInBounds i Î) x {l with w:=c}:=λc r=>H.jO F r;let⟨fr,lX,_⟩:=J.a;have early:∀m,m<15->listed.getD m Ë=Ë->(∃e,e∈xm.after/\e.on=m/\yg e=Î)->listed.getD 9 Ë=Ë:=λm _ hm ⟨e,h1,h2,h3⟩=>by
  cases q:listed.getD 9 Ë with
  |false=>rfl
  |true=>
   have:=g.Y 9 xm e U q h1 h3;rw[h2,hm]at this;cases this
 have jC:nT.size=15:=A
 rw[jC]at K;have E3:listed.getD i Ë=Ë:=by have:=(Β.1 p).1;grind
 have S:∀{j v},(∃e,e∈xm.after/\e.on=i/\yg e=Î)->#[Å É n,sl][j]?=Â v->gS l ⟨ab,j,Á⟩/\l.w.cell? ⟨ab,j,Á⟩=Â v:=λq h=>by have b:=H.2.1<|early i K E3 q;exact⟨È<|b.M<|È J.fi,(gF<|b.r ab (È J.fi) id).trans<|by simp[ß,lX,h]⟩
 match i,K,F with
 |9,_,F=>exact absurd U F
 |0,_,_=>
  exact hD (o:=HB) t g U U p (by k_ne) u y (λc r=>by simp only[jU,HB];go_simp) (λc r e f=>by simp[go_sem,HB,P]at f) B
 |1,_,_=>
  have b:=g.r 0 HB 21 U (gY p U U) U;simp only[jU]at b;exact hD (o:=HC) t g U U p (by k_ne) u y (λc r=>by simp only[jU,HC];go_simp) (λc r e f=>by simp[go_sem,HC,b]at f) B
 |2,_,_=>
  have b:=g.r 1 HC 22 U (gY p U U) U;simp only[jU]at b;exact hD (o:=HF) t g U U p (by k_ne) u y (λc r=>by simp only[jU,HF];go_simp) (λc r e f=>by simp[go_sem,HF,b]at f) B
 |3,_,_=>
  have b:=g.r 2 HF 23 U (gY p U U) U;simp only[jU]at b;let⟨C,E⟩:=S (j:=1) ⟨⟨3,ĉ⟩,by simp[xm],U,U⟩ U;refine hD (o:=HG) t g U U p (by k_ne) u y (λc r=> ?_) (λc r e f=> ?_) B
  .have N:=(C.r r).trans E;simp only[jU,HG];go_simp
  .have N:=(C.r r).trans E;simp[go_sem,HG,b,N]at f;subst f;exact C.C
 |4,_,_=>
  exact hD (o:=HJ) t g U U p (by k_ne) u y (λc r=>by simp only[jU,HJ];go_simp) (λc r e f=>by simp[go_sem,HJ,LX]at f) B
 |5,_,_=>
  exact hD (o:=HL) t g U U p (by k_ne) u y (λc r=>by simp only[jU,HL];go_simp) (λc r e f=>by simp[go_sem,HL,P]at f) B
 |6,_,_=>
  have b:=g.r 5 HL 26 U (gY p U U) U;simp only[jU]at b;exact hD (o:=HM) t g U U p (by k_ne) u y (λc r=>by simp only[jU,HM];go_simp) (λc r e f=>by simp[go_sem,HM,b]at f) B
 |7,_,_=>
  have b:=g.r 6 HM 27 U (gY p U U) U;simp only[jU]at b;exact hD (o:=HN) t g U U p (by k_ne) u y (λc r=>by simp only[jU,HN];go_simp) (λc r e f=>by simp[go_sem,HN,b]at f) B
 |8,_,_=>
  have b:=g.r 7 HN 28 U (gY p U U) U;simp only[jU]at b;let⟨C,E⟩:=S (j:=0) ⟨⟨8,ĉ⟩,by simp[xm],U,U⟩ U;refine hD (o:=HO) t g U U p (by k_ne) u y (λc r=> ?_) (λc r e f=> ?_) B
  .have N:=(C.r r).trans E;simp only[jU,HO];go_simp
  .simp[go_sem,HO,b,(C.r r).trans E]at f;subst f;exact C.C
 |10,_,_=>
  have b:=g.r 9 xm 30 U (gY p U U) U;simp only[jU]at b;exact hD (o:=zr) t g U U p (by k_ne) u y (λc r=>by simp only[jU,zr];go_simp) (λc r e f=>by simp[go_sem,zr,b]at f) B
 |11,_,_=>
  have b:=g.r 10 zr 20 U (gY p U U) U;simp only[jU]at b;exact hD (o:=BT) t g U U p (by k_ne) u y (λc r=>by simp only[jU,BT];go_simp) (λc r e f=>by simp[go_sem,BT,b]at f) B
 |12,_,_=>
  have b:=g.r 10 zr 20 U (gY p U U) U;simp only[jU]at b;exact hD (o:=BU) t g U U p (by k_ne) u y (λc r=>by simp only[jU,BU];go_simp) (λc r e f=>by simp[go_sem,BU,b]at f) B
 |13,_,_=>
  have b:=g.r 11 BT 31 U (gY p U U) U;simp only[jU]at b;exact hD (o:=BV) t g U U p (by k_ne) u y (λc r=>by simp only[jU,BV];go_simp) (λc r e f=>by simp[go_sem,BV,b]at f) B
 |14,_,_=>
  have b:=g.r 12 BU 32 U (gY p U U) U;simp only[jU]at b;exact hD (o:=BW) t g U U p (by k_ne) u y (λc r=>by simp only[jU,BW];go_simp) (λc r e f=>by simp[go_sem,BW,b]at f) B
end
def aqE(x y:Ñ)(n:Nat)(a:List Ĕ):G (è À 37 #[x,y,Å É n] Ą) a=De x y n a:=by unfold De;rw[enter_at #[x,y,Å É n] η (c:=lu Tryz.f37 []) fl];kernel_rfl
section
variable{l g:e7}{s:List fJ}{V:Nat->Prop}{d:List PR}
theorem aqF{F:Array Ñ}(D:nD g i n s x V)(W:RQ d v X g.w)(M:∀b,X b->g.O b)(Y:∀r∈d,uh r)(Jv:d.length<=24)(ht:F.size=39) (md:Ŀ) (listed:Array Bool) (a:Ĉ) (l:e7) (N:List Nat) (hI:II nT F (jU i n x v) (vo g (λb=>V b\/X b) d s) listed a l) (B:9∈ä md nT listed) (hn:∀P E,II nT F (jU i n x v) (vo g (λb=>V b\/X b) d s) (listed.setIfInBounds 9 Î) P E->jf vQ E (G ((base 17).at P<|Ð nT N::L) qX)): jf vQ l (G ((base 17).at a<|Ð nT (9::N)::L) qX):=by
 let⟨t,y,Q⟩:=hI;have E3:=(Β.1 B).1;have h9s:9<listed.size:=by grind
 have H:listed.getD 9 Ë=Ë:=by grind
 have e24:a.tmps[24]?=Â x:=y.r 3 HG 24 U (gY B U U) U;have e25:a.tmps[25]?=Â v:=y.r 4 HJ 25 U (gY B U U) U;have e29:a.tmps[29]?=Â (Å É n):=y.r 8 HO 29 U (gY B U U) U;have late:∀(S:Value×Value) j,listed.getD j Ë=Î->jU i n x v S j=jU i n x v t j:=λS j u=>by
  have c:listed.getD 10 Ë=Ë:=by
   cases q:listed.getD 10 Ë with
   |false=>rfl
   |true=>exact absurd (y.Y 10 zr ⟨9,ĉ⟩ U q (by simp[zr]) U)<|by rw[H];decide
  have e:listed.getD 11 Ë=Ë:=by
   cases q:listed.getD 11 Ë with
   |false=>rfl
   |true=>exact absurd (y.Y 11 BT ⟨10,ĉ⟩ U q (by simp[BT]) U)<|by rw[c];decide
  have h:listed.getD 12 Ë=Ë:=by
   cases q:listed.getD 12 Ë with
   |false=>rfl
   |true=>exact absurd (y.Y 12 BU ⟨10,ĉ⟩ U q (by simp[BU]) U)<|by rw[c];decide
  have m:listed.getD 13 Ë=Ë:=by
   cases q:listed.getD 13 Ë with
   |false=>rfl
   |true=>exact absurd (y.Y 13 BV ⟨11,ĉ⟩ U q (by simp[BV]) U)<|by rw[e];decide
  have p:listed.getD 14 Ë=Ë:=by
   cases q:listed.getD 14 Ë with
   |false=>rfl
   |true=>exact absurd (y.Y 14 BW ⟨12,ĉ⟩ U q (by simp[BW]) U)<|by rw[h];decide
  match j with
  |9=>rw[H]at u;cases u
  |10=>rw[c]at u;cases u
  |11=>rw[e]at u;cases u
  |12=>rw[h]at u;cases u
  |13=>rw[m]at u;cases u
  |14=>rw[p]at u;cases u
  |0|1|2|3|4|5|6|7|8=>rfl
  |j+15=>rfl
 refine zq (f:=37) (args:=#[x,v,Å É n]) Q.1 (o:=xm) U (Ju U _) (by k_ne) (λw=> ?_) (λw=> ?_) λw₁ r=> ?_
 .simp only[xm];go_simp
 .exact ô U η U U #[]
 have z:=(Q.2.1 H).G r;have C:=D.S (λb q=>z.O b q) (λb q=>z.r b (È q) id) z.I;have T:=λb q=>z.O b<|M b q;obtain⟨ra,cr,rb,rq,rfl,Gq,uY,Gr,Gs,ready⟩:=aqA (W.r λb q=>z.r b (È<|M b q) id) Y C.r C.C T;obtain⟨I,J,K,rfl⟩:∃I J K,x=Æ I J K:=by let⟨_,_,_,⟨I,J,K,e,_⟩,_⟩:=D.I;grind
 rw[aqE];refine aqu Gq (λh=>È<|uY h) Gr Gs ready ⟨λb q=>È<|Ï q,λb q=>Ï q⟩ (λb q=>q.elim (λq=>q.elim (C.Y b)<|T b)<|C.C b) (λb q=>È<|È q) C.I D.c (by have:=D.d;omega) λE e p m c h hT=> ?_;refine hn _ E ⟨(Æ (Â ⟨e,0,Á⟩) d.length d.length,Æ p m c),(y.Xu<|late _).fX (by rw[ht];decide) U B λ_=>rfl,h,λq=> ?_,λ_=>⟨_,e,p,m,c,z,U,hT⟩⟩;simp_all
end
section
variable{l o l4:e7}{ab:Nat}{s:List fJ}{sl:Ñ}{V:Nat->Prop}{rs:List PR}
structure aaP(l l4:e7)(ab n:Nat)(s:List fJ)(sl:Ñ)(V:Nat->Prop)(rs:List PR)(an:Nat)(rY:Ñ):Prop where
 r:∀b,l.O b->l4.O b/\l4.w.heap[b]?=l.w.heap[b]?
 fq:nB<=l4.w.heap.size
 C:l4.O an/\um an (mf rs s) l4.w/\kE l4.w an=Â (0,0)
 GH:∃V',RD (zp rs s) rY V' l4.w/\(∀b,V' b->l4.O b)/\¬V' ab/\∀b,V' b->V b\/(b=1\/b=2\/b=3\/b=4)\/l.w.heap.size<=b
def aqG{kd:Nat->Int}(h:∀p,p<rs.length->w.cell? ⟨i,p,Á⟩=Â (Ä<|xd (xk rs) (mD rs) p<|qn (xk rs) (ij (mD rs) rs.length) s<|fL (mD rs) p))(d:w.cell? ⟨i,rs.length,Á⟩=Á):um i (mf rs s) w:=by refine⟨λp x a=> ?_,by unfold mf;simpa using d⟩;unfold mf at a;rw[ī]at a;obtain⟨q,e,rfl⟩:=ò.1 a;let⟨b,c⟩:=Õ.1 e;simp at b c;subst c;exact h p b
def aaQ:(mf rs s).length=rs.length:=by simp[mf]
def aqH:nB<=5:=by show À.globals.size<=5;decide+kernel
def aqI{f:e7}{p:Option ù}(d:nD l ab n s sl V)(t:gp l)(u:∀b,X b->l.w.heap.size<=b)(v:∀b,l.O b->o.O b/\o.w.heap[b]?=l.w.heap[b]?)(x:l.w.heap.size<=o.w.heap.size)(y:gp l4)(e:fY e9 o f)(a:zg (λb=>(V b\/X b)\/b=1\/b=2\/b=3\/b=4) (xk rs) rs.length (mD rs) s f i (Æ p m j) l4):aaP l l4 ab n s sl V rs i (Æ p m j):=by
 have g:∀b,l.O b->l4.O b/\l4.w.heap[b]?=l.w.heap[b]?:=λb q=>by let⟨z,h⟩:=v b q;let⟨k,r⟩:=a.M b<|e.O b z;exact⟨k,r.trans<|(e.r b (È z) id).trans h⟩
 refine⟨g,?_,⟨a.r.1,aqG (kd:=mD rs) a.r.2 a.I.1,a.I.2⟩,?_⟩
 .have:=y.fq 4<|È (g 4<|d.C 4 A).1;have:=aqH;omega
 .let⟨h,B,k⟩:=a.Y;have r:∀b,h b->V b\/(b=1\/b=2\/b=3\/b=4)\/l.w.heap.size<=b:=λb q=>by
   rcases(k b q).2 with((z|z)|z)|z
   .exact È z
   .exact Ï<|Ï<|u b z
   .exact Ï<|È z
   .exact Ï<|Ï<|Ì (Ì x e.I) z
  refine⟨h,B,λb q=>(k b q).1,λq=> ?_,r⟩;rcases r ab q with z|z|z
  .exact d.e z
  .exact d.M z
  .have:=t.fq ab<|È d.fi;omega
def aqJ{f:e7}{p:Option ù}(d:nD l ab n s sl V)(h:aaP l l4 ab n s sl V rs i (Æ p m j))(E:gp l4)(g:∀b,l4.O b->f.O b)(r:∀b,l4.O b->f.w.heap[b]?=(l4.w.setCell ⟨ab,1,Á⟩<|Æ p m j).heap[b]?)(v:l4.w.heap.size<=f.w.heap.size):LW l f ab n (zp rs s) V:=by
 let⟨x,y,t,u,z⟩:=h.GH;have k:∀b,l4.O b->b≠ab->f.w.heap[b]?=l4.w.heap[b]?:=λb q e=>(r b q).trans<|kR (a:=⟨ab,1,Á⟩) e;have o:=h.r ab d.fi;refine⟨λb q e=>⟨g b (h.r b q).1,(k b (h.r b q).1 e).trans (h.r b q).2⟩,Æ p m j,x,⟨?_,λb q=>g b (h.r b<|d.C b q).1,?_,g ab o.1,y.r λb q=>k b (t b q) λe=>u<|e▸q,λb q=>g b<|t b q,u,d.c,d.d,d.M⟩,z⟩
 .exact d.r.r (Ì h.fq v) λb q=>(k b (h.r b<|d.C b q).1 λe=>d.M<|e▸q).trans (h.r b<|d.C b q).2
 .let⟨B,C,D⟩:=d.a;refine⟨B,?_,D⟩;rw[r ab o.1];unfold Ż;simp[Ķ,o.2,C]
def aqK{J:Jd}(b:jY l)(d:fw.ff À Î J l (G (f.at (y.put ((Q[i]?).bind (·.dst))<|Ä ⟨#[]⟩)<|Ð Q jJ::L) qX)): fw.ff À Î J l (G (è À 38 #[Æ O 0 j,Ä B] Ą)<|f.at y (Ð Q (i::jJ)::L)::qX):=by
 have hF:True:=trivial;rw[LV [_,_] 73 ĕ];simp only[ą,Ē,ě];conv in lu _ _=>whnf
 apply fZ (n:=60) b;repeat w_go fA
 u_in fA hF
 refine Ŧ (t:=4) U U ĕ U ⟨by u_nil,?_⟩;refine ï λ_ _=> ?_;exact d
def um.I{w':Í}{xs:List ByteArray}(h:um i xs w)(k:w'.heap[i]?=w.heap[i]?):um i xs w':= ⟨λp x a=>zm k<|h.r p x a,by have:=h.C;simp only[ß,k]at this|-;exact this⟩
def aqL{xs:List ByteArray}(g:mU w)(h:um i xs w):kU i=Ë:=by
 have b:∀e,Lu i e w->False:=λe ⟨c,o,j,_,_,d,l⟩=>by
  have f:w.cell? ⟨i,0,Á⟩=Â c[0]:=by simp only[ß,j,ö,ì,if_false];exact å d
  rcases ĥ xs.length with q|q
  .have a:=h.C;rw[q,f]at a;cases a
  .have a:=h.r 0 _<|Ó q;let⟨k,n,m⟩:=l c[0]<|î.2<|ă d;rw[f,m]at a;cases a
 cases q:kU i with
 |false=>rfl
 |true=>
  unfold kU at q;simp at q;rcases q with rfl|rfl
  .exact(b _ g.I).elim
  .exact(b _ g.C).elim
def kn.aqM(a:jY l)(r:fE l l.w u):kn l {l with w:=u}:=⟨λ_ q=>q,λ_ q=>È q,U,U,U,U,U,r,lZ a r⟩
def aqN{a:Ĉ}{xs:List ByteArray}(b:iW l)(j:nB<=l.w.heap.size)(h:um n xs l.w)(m:l.O n)(o:kU n=Ë)(p:kE l.w n=Â (0,0))(s:xs.length<=1000){N:Nat}(t:xs.length=N)(u:B.size=1)(v:iK xs+xs.length<=140737488355328): fw.ff À Î (λc g=>kn l c/\c.d=l.d/\g=G (f.at (a.put ((Q[i]?).bind (·.dst))<|Ä<|ot B xs)<|Ð Q jJ::L) qX) l (G (è À 38 #[Æ (Â ⟨n,0,Á⟩) N N,Ä B] Ą)<|f.at a (Ð Q (i::jJ)::L)::qX):=by
 subst t;rcases ĥ xs.length with e|e
 .have x:=Ý e;subst x;exact aqK b.r.r<|.fv λy r=>⟨kn.aqM b.r.r r,U,U⟩
 .refine(aqn b.r b.q j h e (È m) o p s u v Î _ qX).fI ?_;rintro c g ⟨r,x,rfl⟩;exact⟨r,x,by rw[Ĝ]⟩
def aqO{N:Array Ñ}{cf:Ĕ}(C:nD l ab n s sl V)(Df:gp l)(Tq:∀b,X b->l.w.heap.size<=b)(hl:∀b,l.O b->o.O b/\o.w.heap[b]?=l.w.heap[b]?)(jC:l.w.heap.size<=o.w.heap.size)(Jv:rs.length<=24)(rJ:iK (mf rs s)+rs.length<=140737488355328)(ht:N.size=39)(ht0:N[0]?=Â (Ã<|Â ⟨ab,0,Á⟩)) (hJ:∀P,iW P->LW l P ab n (zp rs s) V->jf vQ P (G (cf.at (y.put ((Q[i]?).bind (·.dst))<|ë #[Ä<|ot ⟨#[59]⟩<|mf rs s,Å É 0])<|Ð Q jJ::L) qX)) (md:Ŀ) (listed:Array Bool) (a:Ĉ) (l4:e7) (hI:II nT N (jU ab n sl v) (vo o (λb=>V b\/X b) rs s) listed a l4) (H:listed.size=nT.size) (I:ä md nT listed=[]): jf vQ l4 (G ((base 17).at a<|Ð nT []::[av Tp])<|cf.at y (Ð Q (i::jJ)::L)::qX):=by
 have hF:True:=trivial;let⟨x,D,g,_,hS⟩:=hI;have J:∀i∈ĳ 15,listed.getD i Ë=Î:=by
  cases md
  .exact pv I H (ĳ 15) [] fP λi c=>by cases c
  .exact λi c=>pv I H [0,1,2,3,4,5,6,7,8,9,10,11,13,12,14] [] fP (λi c=>by cases c) i (by have:=Ŷ.1 c;revert i;decide)
  .exact pv I H (ĳ 15) [] fP λi c=>by cases c
 obtain⟨l1,r,p,m,c,k1,rfl,hT⟩:=hS<|J 9 A;have h:=aqI (rs:=rs) C Df Tq hl jC g.r k1 hT;let⟨F,ds⟩:=a;obtain rfl:ds=[]:=D.M;have S:F[0]?=Â (Ã<|Â ⟨ab,0,Á⟩):=(D.C A).trans ht0;have T:F[9]?=Â (Æ (Â ⟨r,0,Á⟩) rs.length rs.length):=D.r 13 BV 9 U (J 13 A) U;have W:F[10]?=Â (Æ p m c):=D.r 14 BW 10 U (J 14 A) U;have Gy:F.size=39:=D.S.trans ht;clear D J hS hT k1 I H;obtain⟨u,rfl⟩:=yk F Gy;simp only[List.getElem?_toArray,ī,List.getElem?_range,Nat.reduceLT,Ă,Ô]at S T W;simp only[ĳ,List.range.loop,List.map,S,T,W];clear S T W Gy;let⟨fr,lX,hfr⟩:=C.a;let⟨LY,hab⟩:=h.r ab C.fi;have Y:l4.w.heap[ab]?=Â (Û #[Å É n,sl] 68 (0,0)):=by rw[hab,lX,hfr]
 have c1:l4.w.cell? ⟨ab,1,Á⟩=Â sl:=by simp[ß,Y]
 have z1:l4.w.frozen? ⟨ab,1,Á⟩=Ë:=by simp[World.frozen?,Y]
 have AW:=g.q;apply ov;apply fZ (n:=20) g.r.r;conv in Tp=>whnf
 iterate 7 w_go fA
 refine ï λ_ _=> ?_;apply F4 (p:=ab) (off:=1) (v:=Æ p m c) (u:=sl) U U (by k_ne) g.r.r AW LY c1 z1 U (λw z B=>by go_simp) (λw z B=>by simp[go_sem,events_store _ _ _ _ _ _ (show Value.oneCell' (Æ p m c)=Î from rfl),z,B]);have k5:=JC (X:=λb=>b=ab) (p:=ab) (w':=l4.w.setCell ⟨ab,1,Á⟩<|Æ p m c) g.r (fE.fQ _ _) LY U fw.jM λj hj=>fw.kR hj;have qR:=k5.N g.r;have asz:(l4.w.setCell ⟨ab,1,Á⟩<|Æ p m c).heap.size=l4.w.heap.size:=fw.jM;have pZ:iW ({l4 with w:=l4.w.setCell ⟨ab,1,Á⟩ (Æ p m c)}:e7):=⟨qR,g.d,g.q,g.N,g.I,g.M,g.k⟩;have c0:l4.w.cell? ⟨ab,0,Á⟩=Â (Å É n):=by simp[ß,Y]
 have aqP:r≠ab:=λe=>by
  rcases ĥ (mf rs s).length with q|q
  .have z:=h.C.2.1.C;rw[q,e,c0]at z;cases z
  .have B:=h.C.2.1.r 0 _<|Ó q;rw[e,c0]at B;cases B
 have aaR:(l4.w.setCell ⟨ab,1,Á⟩<|Æ p m c).heap[r]?=l4.w.heap[r]?:=fw.kR (a:=⟨ab,1,Á⟩) aqP;have SQ:=h.C.2.1.I aaR;have AF:kE (l4.w.setCell ⟨ab,1,Á⟩<|Æ p m c) r=Â (0,0):=(vI aaR).trans h.C.2.2;have aqQ:kU r=Ë:=aqL (C.r.r h.fq λb q=>(h.r b<|C.C b q).2) h.C.2.1;have hlen:(mf rs s).length=rs.length:=aaQ;apply fZ (n:=20) qR.r;iterate 4 w_go fA
 refine ï λ_ _=> ?_;refine xl (f:=38) (args:=#[Æ (Â ⟨r,0,Á⟩) rs.length rs.length,Ä ⟨#[59]⟩]) U fP (by k_ne) qR.r (λw=>by go_simp) (λw=>ô U ĕ U U #[]) λw₁ E=> ?_;have LX:=pZ.C E;have aqR:um r (mf rs s) w₁:=SQ.I<|E.I r<|È h.C.1;refine fw.ff.lE ?_ (aqN (xs:=mf rs s) LX (Ì (by rw[fw.jM];exact h.fq) E.r) aqR h.C.1 aqQ ((vI<|E.I r<|È h.C.1).trans AF) Z hlen U Z);rintro K g6 ⟨M,hd,rfl⟩;have Ts:iW K:=kn.Bg LX M hd;have hk6:∀b,l4.O b->K.w.heap[b]?=(l4.w.setCell ⟨ab,1,Á⟩<|Æ p m c).heap[b]?:=λb q=>(M.r.I b<|È q).trans<|E.I b<|È q;have hs6:l4.w.heap.size<=K.w.heap.size:=by have z:=M.r.r;have B:=E.r;have h3:(l4.w.setCell ⟨ab,1,Á⟩<|Æ p m c).heap.size=l4.w.heap.size:=fw.jM;exact Ì (Nat.le_of_eq h3.symm)<|Ì B z
 have B:∀b,l4.O b->K.O b:=λb q=>M.O b q;generalize ot ⟨#[59]⟩ (mf rs s)=ans at*;walk_nrm;apply fZ (n:=20) Ts.r.r;repeat w_go fA
 u_in fA hF
 refine θ (t:=4) (u:=5) U U Ł U ⟨by u_nil,?_⟩;refine ï λ_ _=> ?_;refine .fv λzK z=>⟨Ts.C z,U,hJ _ (Ts.C z)<|aqJ C h g.r B (λb q=>(z.I b<|È<|B b q).trans<|hk6 b q)<|Ì hs6 z.r⟩
end
section
variable{l:e7}{s:List fJ}
theorem aqS{e:e7}{c:Nat->Prop}{g:List PR}(B:nD l j n s v X)(C:gp l)(D:nD e j n s v X)(k:iW e)(W:RQ g z c e.w)(Y:∀b,c b->e.O b)(hok:∀r∈g,uh r)(E:g.length<=24)(F:∀b,c b->l.w.heap.size<=b)(H:∀b,l.O b->e.O b/\e.w.heap[b]?=l.w.heap[b]?)(I:l.w.heap.size<=e.w.heap.size)(J:iK (mf g s)+g.length<=140737488355328)(t:d.size=39)(u:d[0]?=Â (Ã<|Â ⟨j,0,Á⟩))(K:d[6]?=Â z) (M:∀h,iW h->LW l h j n (zp g s) X->jf vQ h (G (f.at (y.put ((Q[i]?).bind (·.dst))<|ë #[Ä<|ot ⟨#[59]⟩<|mf g s,Å É 0])<|Ð Q jJ::L) qX)): jf vQ e (G ((base 17).at ⟨d,[]⟩<|av (.region 4 nT Î)::[av Tp])<|f.at y (Ð Q (i::jJ)::L)::qX):=by
 refine aqB (II nT d (jU j n v z)<|vo e (λb=>X b\/c b) g s) k (λa x=> ?_) (λm o a l i jJ p N P=> ?_) λm o a l p S T=> ?_
 .refine⟨(ĸ,ĸ),mr.G _ _ _,k.C x,λ_=>(fY.fQ k.r.r).G x,λq=> ?_⟩;exact absurd q A
 .by_cases V:i=9
  .grind [aqF]
  .exact aqC (aqD D t u K m o a l i jJ p N V) (λN h q=>by let⟨x,_,q⟩:=q;exact q.1) P
 .exact aqO B C F H I E J t u M m o a l p S T
def aaS(p:iW l)(r:nD l j n s v X)(I:B.size<=đ)(J:(iu B).1=0->iK (mf (iu B).2.2 s)+(iu B).2.2.length<=140737488355328) (t:∀z,iW z->LW l z j n (mW s B).2.2 X->jf vQ z (G (f.at (y.put ((Q[i]?).bind (·.dst))<|ë #[Ä (mW s B).1,Å É (mW s B).2.1])<|Ð Q jJ::L) qX)): jf vQ l (G (è À 17 #[Ã<|Â ⟨j,0,Á⟩,Ä B] Ą)<|f.at y (Ð Q (i::jJ)::L)::qX):=by
 have hF:=trivial;rw[LV [_,_] 37 Ł];simp only[ą,Ē,ě];conv in lu _ _=>whnf
 apply ov;apply fZ (n:=20) p.r.r;iterate 8 w_go fA
 refine ï λ_ _=> ?_;refine xl (f:=36) (args:=#[Ä B]) U fP (by k_ne) p.r.r (λw=>by go_simp) (λw=>ô U ļ U U #[]) λw₁ m=> ?_;have C:=p.C m;refine fw.ff.lE ?_<|aaI C.r C.q (Ì r.r.fq m.r) I Î _ _;rintro u g1 ⟨x,K,a,rfl,M⟩;have g:=kn.Bg C x K;have h:∀b,l.O b->u.O b/\u.w.heap[b]?=l.w.heap[b]?:=λb q=>⟨x.O b q,(x.r.I b<|È q).trans<|m.I b<|È q⟩;have F:=Ì m.r x.r.r;rw[Ĝ];by_cases k:(iu B).1=0
 .have D:mW s B=(ot ⟨#[59]⟩<|mf (iu B).2.2 s,0,zp (iu B).2.2 s):=if_pos k;let⟨c,N,E⟩:=M k;have P:=J k;rw[D]at t;obtain⟨S,T⟩:=To;rw[k];generalize(iu B).2.2=rs at*;generalize(iu B).2.1=Tt at*;walk_nrm;apply fZ (n:=40) g.r.r;repeat w_go fA
  refine ï λ_ _=> ?_;refine .fv λo d=>⟨g.C d,U,?_⟩;have V:=g.C d;have e:∀b,l.O b->({u with w:=o}:e7).O b/\o.heap[b]?=l.w.heap[b]?:=λb q=>⟨(h b q).1,(d.I b<|È (h b q).1).trans (h b q).2⟩;have H:=Ì F d.r;have W:=r.S (λb q=>(e b q).1) (λb q=>(e b q).2) H;have Y:=N.r λb q=>d.I b<|È (E b q).1;have hQ3:=λb q=>(E b q).1;have Tq:=λb q=>Ì m.r (E b q).2;exact aqS r p.r W V Y hQ3 S T Tq e H P U U U t
 .have D:mW s B=(⟨#[]⟩,(iu B).1,s):=if_neg k;rw[D]at t;have c:((iu B).1 !=0)=Î:=by rwa[bne_iff_ne]
  generalize(iu B).1=er at*;generalize(iu B).2.1=Tt at*;walk_nrm;apply fZ (n:=40) g.r.r;repeat w_go fA
  u_in fA hF
  refine θ U U Ł U ⟨by u_nil,?_⟩;refine ï λ_ _=> ?_;refine .fv λo d=>⟨g.C d,U,t _ (g.C d) ?_⟩;have e:∀b,l.O b->({u with w:=o}:e7).O b/\o.heap[b]?=l.w.heap[b]?:=λb q=>⟨(h b q).1,(d.I b<|È (h b q).1).trans (h b q).2⟩;exact⟨λb q _=>e b q,v,X,r.S (λb q=>(e b q).1) (λb q=>(e b q).2)<|Ì F d.r,λb q=>È q⟩
end
def aaT(a:ByteArray)(c:a.size=1):∀b:List ByteArray,(ot a b).size<=iK b+b.length
 |[]=>Ø _
 |x::r=>by
  show(x.data.toList++qm a r).toArray.size<=_;have d:iK (x::r)=x.size+iK r:=by simp[iK]
  have e:x.data.toList.length=x.size:=by rw[ĝ];rfl
  simp only[ř,Ù,Lh a c r,d,e,Đ];omega
def Tv{M:Nat}(a:∀z∈vX,z.size<=M)(b:M<=100)(c:vX.length<=400000):(Ed vX).size<=100000000:=by
 unfold Ed;split
 .decide
 .have d:=aaT ⟨#[44]⟩ U vX;have e:=Ea vX a;have:M*vX.length<=100*400000:=ű b c;omega
theorem Ev(i:Nat):(oC i).size<=3:=by
 unfold oC pH;rw[ø];split
 .show 1+1<=3;decide
 .show 1+2<=3;decide
theorem aaU(s:iz.St)(x y:Nat)(k:Int):∀(m i:Nat),i+m<=1000->(sj s x y k i m).size<=20
 |0,i,_=>by unfold sj;decide
 |m+1,i,h=>by
  unfold sj;split
  .exact qi i Z
  .exact aaU s x y k m (i+1) Z
theorem aqT(s t:iz.St):(qk s t 8).length<=400000:=by
 unfold qk;have a:∀l:List Nat,(l.flatMap<|yW s t).length<=18*l.length:=λl=>by
  induction l with
  |nil=>simp
  |cons i l b=>
   rw[List.flatMap_cons,Ù,Đ];have:(yW s t i).length<=18:=by unfold yW;grind [Ù,Ld,y_]
   omega
 grind
theorem aqU{i:List (Nat×fJ)}{q:Qn}(n:lF (j1 i))(ok:q.Ok):(xc i q).size<=100000000:=by
 unfold xc;split
 .grind [Ev]
 .rename_i p o;let⟨b,f,v,w⟩:=n.r _<|Ú.2 ⟨p,Hk o,U⟩;have j:∀u,u<18446744073709551616->(gH u).size<=100000000:=λu r=>by have:=qi u r;omega
  unfold Ee;split
  .have c:=f.C q.x q.I;exact j _ (by have:=c.1;have:=c.2;omega)
  .split
   .have c:=f.fp q.x;exact j _ (by have:=c.1;have:=c.2;omega)
   .split
    .split
     .grind [Ev]
     .rename_i B;have l:fW (q.k:Int):=⟨Z,by have:=ok.k;omega⟩;have e:=KL p.2.s [] q.x q.y q.g q.k f ok.x ok.y l Z Z (by simp;omega);unfold SF;have C:=e.r;have m:=e.M;have t:=e.I;simp at t;have D:=aaT ⟨#[44]⟩ U<|[gH (gd p.2.s [] q.x q.y q.g q.k).C.toNat,gH (gd p.2.s [] q.x q.y q.g q.k).M.toNat,gH (gd p.2.s [] q.x q.y q.g q.k).r.toNat]++(gd p.2.s [] q.x q.y q.g q.k).I.map rh;have E:=Ea (M:=21) ([gH (gd p.2.s [] q.x q.y q.g q.k).C.toNat,gH (gd p.2.s [] q.x q.y q.g q.k).M.toNat,gH (gd p.2.s [] q.x q.y q.g q.k).r.toNat]++(gd p.2.s [] q.x q.y q.g q.k).I.map rh) λz d=>by
       rcases â.1 d with h|h
       .simp at h;rcases h with rfl|rfl|rfl
        .have:=qi (gd p.2.s [] q.x q.y q.g q.k).C.toNat (by cases(gd p.2.s [] q.x q.y q.g q.k).C<;>decide);omega
        .have:=qi (gd p.2.s [] q.x q.y q.g q.k).M.toNat (by have:=m.1;have:=m.2;omega);omega
        .grind [qi]
       .obtain⟨e,a,rfl⟩:=Ú.1 h;exact Ll ((Sk p.2.s [] q.x q.y q.g q.k f ok.x ok.y l Z Z (by simp;omega) λ_ q=>by cases q) e a).2
      grind
    .split
     .grind [aaU]
     .split
      .have:=J_<|DX p.2.s;have:=J'<|16-(mT<|DX p.2.s).size;unfold Lp;rw[ø];omega
      .split
       .exact Tv (λz d=>by obtain⟨e,a,rfl⟩:=Ú.1 d;exact Ll (b.C e a).2) Z<|by rw[ú];exact b.I
       .split
        .exact Tv (λz d=>by obtain⟨e,a,rfl⟩:=Ú.1 d;exact F_ (b.r e a).1 (b.r e a).2) Z (by rw[ú];have:=b.M;omega)
        .split
         .grind [Ev]
         .exact Tv (K_ _ _) Z<|aqT _ _
theorem aqV(a:List (Nat×fJ))(v:Int)(x:Nat)(b:List Tx):(tV a v x b).2.size<=3:=by
 unfold tV;split
 .exact Ev 3
 .split
  .exact Ev 4
  .split
   .exact Ev 5
   .show(pH a.length).size<=3;unfold pH;split
    .show 1<=3;decide
    .show 2<=3;decide
def aqW{s:List fJ}{i:Int×Nat×List Tx}(h:lF s)(a:∀t∈i.2.2,t.Ok)(b:i.2.2.length<=1000):lF (Lw s i):= lF.M (by rwa[Lv]) a b
def aaV{a:List PR}{s:List fJ}(h:lF s)(b:∀r∈a,uh r):∀k,k<=(ij (mD a) a.length).length->lF (qn (xk a) (ij (mD a) a.length) s k)
 |0,_=>h
 |k+1,hk=>by
  have c:a.getD ((ij (mD a) a.length).getD k 0) sD∈a:=ç (i:=(ij (mD a) a.length).getD k 0) (by have q:=(GF<|u7 (l:=ij (mD a) a.length)<|show k<_ from hk).1;generalize(ij (mD a) a.length).getD k 0=j at q;simp[Ġ,q]);have q:=b _ c;refine aqW (aaV h b k Z) (λt d=> ?_) ?_
  .obtain⟨x,t,rfl⟩:=Ú.1 d;exact toTx_ok<|q.C x t
  .show((a.getD _ sD).r.map toTx).length<=1000;rw[ú];have:=q.n;omega
def QA(kd:Nat->Int):∀{p R:Nat},p<=R->fL kd p<=(ij kd R).length:=λ{p R} h=>by
 show(ij kd p).length<=(ij kd R).length
 induction h with
 |refl=>exact æ _
 |@step R _ ih=>
  by_cases q:kd R=1
  .rw[A5 q];simp;omega
  .rwa[A6 q]
theorem aqX{a:List PR}{s:List fJ}(h:lF s)(b:∀r∈a,uh r)(l:a.length<=24):iK (mf a s)+a.length<=2400000024:=by
 have d:=Ea (M:=100000000) (mf a s) λz c=>by
  unfold mf at c;obtain⟨p,e,rfl⟩:=Ú.1 c;have f:=Ŷ.1 e;have g:=aaV h b (fL (mD a) p)<|QA _ Z;unfold xd;split
  .grind [Ì,aqV]
  .rename_i j;have k:a.getD p sD∈a:=ç (i:=p) (by simp[Ġ,f]);exact aqU (by rwa[Lv])<|aaN (b _ k) j
 rw[aaQ]at d;omega
def aaW{s:List fJ}(h:lF s):iK (mf (iu B).2.2 s)+(iu B).2.2.length<=140737488355328:=Ì (aqX h To.1 To.2) A
def HP(c:Int):Int:=if c<0 then(-(c+1))%8 else c%8
def aqY(c:Int)(b:-9223372036854775808<=c)(d:c<=9223372036854775807)(w:Í):Ò À 30 #[Å É c,Å É 8] w λe a=>e=Ç (Å É<|HP c)/\a=w:=by
 unfold HP;by_cases h:c<0
 .rw[if_pos h];have e:-(c+1).tmod 8=(-(c+1))%8:=by rw[<-Int.neg_tmod,Int.tmod_eq_emod_of_nonneg Z]
  have H:=e8 e.symm;clear e;go_enter ŧ,Ο;go_wp2;go_ret;exact⟨by rw[H.out];rfl,U⟩
 .rw[if_neg h];go_enter ŧ,Ο;go_wp2;go_ret;exact⟨U,U⟩
def aaX(a:ù)(w:Í):Sem.events À (binOp BinOp.eql 26 (Ã<|Â a)<|Ã Á) w #[]=#[]:=fl
theorem aqZ{l:e7}(a:iW l)(p:nB<=l.w.heap.size){f:Ρ}{args:Array Ñ}{r:Ñ}(m:Ds f=Î)(s:∀v∈args.toList,fg (pz (λ_=>False) À.globals.size) v v)(t:∀{Y v},fg Y r v->v=r)(x:∀w,Ò À f args w λe y=>e=Ç r/\y=w)(n:Bool)(c:Ĕ)(i:List Ĕ): fw.ff À n (λk o=>kn l k/\k.d=l.d/\o=G (c.finish r) i) l (G (è À f args Ą)<|c::i):=by
 let⟨E,F,z,B⟩:=yC f m;have C:∀T,Ò À f args (World.tp (kN (λj=>False/\¬(lJ l).O j) l.w) T 0) fun|Ç v,j=>v=r/\jW j|_,_=>False:=λT=>by refine(x _).mono ?_;grind [Eg]
 refine((Dm xu Kw yC (λv u T D h=>h) m z B (Dn a.r) a.q (λb q=>q.elim) ⟨λb q=>q.elim,p⟩ (λg q=>by cases q) (oS s) C n c i).lJ a.r).fI ?_;rintro k o ⟨D,⟨Y,j,v,H,_,_,g,rfl,b,_,_,h⟩,rfl,u,_,_,_⟩;rw[t g]at b;exact⟨u,h,b⟩
def Tw:ByteArray:=⟨#[98,48,58,97,59,98,48,58,104,59,117,48,59,98,49,58,97]⟩
def aq0:(mW [iz.mA] Tw).1=⟨#[49,48,48,48,59,49,48,48,48,59,45,59,33,51]⟩:=fl
def aq1:(mW [iz.mA] Tw).2=(0,[iz.mA]):=fl
structure aq2(l l':e7)(ab n:Nat)(sl:Ñ)(V:Nat->Prop):Prop where
 r:nD l' ab n [iz.mA] sl V
 C:∀b,l.O b->l'.O b/\l'.w.heap[b]?=l.w.heap[b]?
 I:l.w.heap.size<=ab
 M:∀b,V b->(b=1\/b=2\/b=3\/b=4)\/l.w.heap.size<=b
section
variable{l:e7}
def Ty{J:Jd}{s:List fJ}(c:iW l)(d:nD l j n s z X)(g:fw.ff À Î J l (G (f.at (y.put ((Q[i]?).bind (·.dst))<|Å É s.length)<|Ð Q jJ::L) qX)): fw.ff À Î J l (G (è À 22 #[Ã<|Â ⟨j,0,Á⟩] Ą)<|f.at y (Ð Q (i::jJ)::L)::qX):=by
 have hF:True:=trivial;obtain⟨a,b,rfl⟩:∃a b,z=Æ a s.length b:=by
  let⟨o,h,_,⟨a,k,b,e,_,m⟩,_⟩:=d.I;have:k=s.length:=by rw[m.r,<-h];simp[j1]
  exact⟨a,b,by rw[e,this]⟩
 have o:s.length<=40:=by let⟨_,_,e,_⟩:=d.I;exact e.C
 let⟨p,k,_⟩:=d.a;have m:l.w.cell? ⟨j,1,Á⟩=Â (Æ a s.length b):=by simp[ß,k]
 rw[LV [_] 7 Ũ];simp only[ą,Ē,ě];conv in lu _ _=>whnf
 refine fZ (n:=20) c.r.r ?_;repeat w_go fA
 refine ï λ_ _=> ?_;refine nJ (x:=⟨j,1,Á⟩) (v:=Æ a s.length b) U fP (by k_ne) c.r.r c.q (È<|È d.fi) m (λw h=>by go_simp) (λw h=>by simp[go_sem,h]) ?_;walk_nrm;refine fZ (n:=20) c.r.r ?_;repeat w_go fA
 u_in fA hF
 refine Ŧ (t:=2) U U Ũ U ⟨by u_nil,?_⟩;refine ï λ_ _=> ?_;exact g
def aq3(j:iW l)(p:mU l.w)(I:∀b,b=1\/b=2\/b=3\/b=4->l.O b)(c:Int)(sU:-9223372036854775808<=c)(zj:c<=9223372036854775807) (hJ:∀J a n K V,iW J->aq2 l J a n K V->jf vQ J (G (f.at (y.put ((Q[i]?).bind (·.dst))<|Ã<|Â ⟨a,0,Á⟩)<|Ð Q jJ::L) qX)): jf vQ l (G (è À 15 #[Å É c] Ą)<|f.at y (Ð Q (i::jJ)::L)::qX):=by
 have hF:True:=trivial;rw[LV [_] 36 ι];simp only[ą,Ē,ě];conv in lu _ _=>whnf
 apply ov;apply fZ (n:=20) j.r.r;repeat w_go fA
 refine ï λ_ _=> ?_;refine xl (f:=30) (args:=#[Å É c,Å É 8]) U fP (by k_ne) j.r.r (λw=>by go_simp) (λw=>ô U ŧ U U #[]) λw₁ r=> ?_;have T:=j.C r;refine fw.ff.lE ?_ (aqZ T (Ì p.fq r.r) fP (λv h=>by simp at h;rcases h with rfl|rfl<;>exact .iC _ _) (λh=>by cases h;rfl) (aqY c sU zj) Î _ _);rintro s g1 ⟨u,hd,rfl⟩;obtain⟨z,hz,G2,Dj⟩:∃z,HP c=z/\0<=z/\z<8:=⟨_,U,by unfold HP;split<;>omega,by unfold HP;split<;>omega⟩;rw[hz];have M:iW s:=kn.Bg T u hd;have x:∀b,l.O b->s.O b/\s.w.heap[b]?=l.w.heap[b]?:=λb q=>⟨u.O b q,(u.r.I b<|È q).trans<|r.I b<|È q⟩;have B:l.w.heap.size<=s.w.heap.size:=Ì r.r u.r.r;rw[Ĝ];walk_nrm;refine fZ (n:=20) M.r.r ?_;repeat w_go fA
 refine ï λ_ _=> ?_;have n8:É.wrap (1+z)=1+z:=Ļ _ ⟨Z,Z⟩;refine xl (f:=35) (args:=#[Å É<|1+z]) U fP (by k_ne) M.r.r (λw=>by go_simp) (λw=>ô U ζ U U #[]) λzK h=> ?_;have N:=M.C h;obtain⟨n,hn⟩:∃n:Nat,1+z=n:=⟨(1+z).toNat,Z⟩;rw[hn];refine fw.ff.lE ?_<|aqm N.r N.q (Ì (Ì p.fq B) h.r) (n:=(n:Int)) Z Z Î _ _;rintro d g3 ⟨C,wq,a,K,rfl,lX,LY,hab,V,qc,hnV,W⟩;have g:iW d:=kn.Bg N C wq;have k:∀b,l.O b->d.O b/\d.w.heap[b]?=l.w.heap[b]?:=λb q=>⟨C.O b (x b q).1,(C.r.I b<|È (x b q).1).trans<|(h.I b<|È (x b q).1).trans (x b q).2⟩;have X:l.w.heap.size<=d.w.heap.size:=Ì B<|Ì h.r C.r.r;have aq4:l.w.heap.size<=a:=Ì B<|Ì h.r hab;have aq5:∀b,b=1\/b=2\/b=3\/b=4->b<l.w.heap.size:=λb q=>j.r.fq b<|È<|I b q;have hin:nD d a n [iz.mA] K V:=⟨p.r (Ì p.fq X) λb q=>(k b<|I b q).2,λb q=>(k b<|I b q).1,lX,LY,qc,λb q=>(W b q).1,hnV,Z,Z,λq=>by have:=aq5 a q;omega⟩;have hVn:∀b,V b->l.w.heap.size<=b:=λb q=>Ì B<|Ì h.r (W b q).2;rw[Ĝ];walk_nrm;apply fZ (n:=60) g.r.r;repeat w_go fA
 refine ï λ_ _=> ?_;apply uQ (v:=õ Ë) U fP (by k_ne) g.r.r g.q (λw _=>by go_simp) (λw _ e m=>by simp[go_sem,aaX]at m);walk_nrm;apply fZ (n:=60) g.r.r;repeat w_go fA
 refine ï λ_ _=> ?_;refine .fv λY m=>⟨g.C m,U,?_⟩;have pZ:=g.C m;have aq6:=hin.N m;have P:∀b,l.O b->({d with w:=Y}:e7).O b/\Y.heap[b]?=l.w.heap[b]?:=λb q=>⟨(k b q).1,(m.I b<|È (k b q).1).trans (k b q).2⟩;refine zq (f:=17) (args:=#[Ã<|Â ⟨a,0,Á⟩,Ä ⟨#[98,48,58,97,59,98,48,58,104,59,117,48,59,98,49,58,97]⟩]) pZ U fP (by k_ne) (λw=>by go_simp) (λw=>ô U Ł U U #[]) λasA D=> ?_;change jf vQ _ (G (è À 17 #[Ã<|Â ⟨a,0,Á⟩,Ä Tw] Ą) _);refine aaS (pZ.C D) (aq6.N D) A (λ_=>aaW aaK) λl6 E aaY=> ?_;rw[aq1]at aaY|-;rw[aq0];let⟨Jf,sl6,V6,aaZ,hV6⟩:=aaY;have kQ:∀b,l.O b->b≠a:=λb q e=>by have:=j.r.fq b<|È q;omega
 have F:∀b,l.O b->l6.O b/\l6.w.heap[b]?=l.w.heap[b]?:=λb q=>by let⟨o,H⟩:=Jf b (P b q).1<|kQ b q;exact⟨o,H.trans<|(D.I b<|È (P b q).1).trans (P b q).2⟩
 have hV7:∀b,V6 b->(b=1\/b=2\/b=3\/b=4)\/l.w.heap.size<=b:=λb q=>by
  rcases hV6 b q with z|z|z
  .exact Ï<|hVn b z
  .exact È z
  .exact Ï<|Ì X<|Ì (Ì m.r D.r) z
 walk_nrm;apply ov;apply fZ (n:=60) E.r.r;repeat w_go fA
 refine ï λ_ _=> ?_;refine xl (f:=22) (args:=#[Ã<|Â ⟨a,0,Á⟩]) U fP (by k_ne) E.r.r (λw=>by go_simp) (λw=>ô U Ũ U U #[]) λDd o=> ?_;apply Ty (E.C o) (aaZ.N o);have S:=E.C o;have aq7:=aaZ.N o;walk_nrm;apply fZ (n:=60) S.r.r;repeat w_go fA
 u_in fA hF
 refine Ŧ (t:=2) U U ι U ⟨by u_nil,?_⟩;refine ï λ_ _=> ?_;exact .fv λaq8 H=>⟨S.C H,U,hJ _ a n sl6 V6 (S.C H) ⟨aq7.N H,λb q=>⟨(F b q).1,(H.I b<|È (F b q).1).trans<|(o.I b<|È (F b q).1).trans (F b q).2⟩,aq4,hV7⟩⟩
end
def zt(l:e7)(c:Option ù)(N:Nat)(f:Nat->ByteArray):Prop:=∀j,j<N->(f j).size<=đ/\∃a b,c=Â ⟨a,b,Á⟩/\l.O a/\l.w.cell? ⟨a,b+j,Á⟩=Â (Ä<|f j)
def zt.r{l a:e7}{d:Option ù}{N:Nat}{f:Nat->ByteArray}(h:zt l d N f)(k:∀b,l.O b->a.O b/\a.w.heap[b]?=l.w.heap[b]?):zt a d N f:=λj g=>by let⟨i,c,m,n,e,o⟩:=h j g;exact⟨i,c,m,n,(k c e).1,zm (k c e).2 o⟩
def aq9{t:Tmp}(d:f.kind=Ą)(e:y.defers=[])(g:P.funcs[f.fn]?=Â s)(c:s.results=#[.tmp t])(h:P.inits.idxOf? f.fn=Á):stepG P Î (G {f.at y L with mode:=.returning} []) w=.ended (.done<|y.tmps.getD t ĸ) w:=by have i:=results_tmp c y.tmps P w;have j:=events_results_tmp (P:=P) (w:=w) c y.tmps;simp[G,stepG,unwind,doReturn,Frame.at,d,e,g,i,j,h,seen,GStep.after]
def ara{l:e7}(e:jf vQ l g)(a:iW l)(c:g.status=.running):rv vQ #[g] l.w Á #[]:=e a c (λ_=>False) 0 _ _ _ _ Á _ ⟨λx q=>q.elim,λ_ _ _ _ q=>q,Ø _⟩ (aqo (P:=À) (J:=λ_ _=>True) (T:=.fv) U a.d a.q a.N a.I a.M a.k (λb q=>a.r.fq b<|È q) c λ_ _=>trivial) a.d U
def LZ(W:Í):e7:={O:=λb=>b<W.heap.size,I:=λ_=>False,r:=λ_=>False,N:=λ_=>False,K:=λ_=>False,d:=0,q:=False,w:=W}
def aa0(W:Í):iW (LZ W):= ⟨⟨λ_ _=>id,λ_ q=>q.elim,λ_ q=>q.elim (λz=>z.elim) λz=>z.elim,λ_ q=>q.elim id λz=>z.elim,λ_ q=>q.elim (λz=>z.elim) λz=>z.elim,λ_ q=>q.elim⟩,U,id,λ_=>id,λ_=>id,λ_=>id,λ_=>id⟩
structure mY(W w':Í):Prop where
 qz:∀b,b<W.heap.size->w'.heap[b]?=W.heap[b]?
 Cm:W.heap.size<=w'.heap.size
def arb(g:mU W):∀b,b=1\/b=2\/b=3\/b=4->b<W.heap.size:=λb q=>by let⟨c,a,h,_⟩:=g.C;have:=(á.1 h).1;omega
def ard:À.cellsOf 9=1:=fl
theorem arf(b a n:Nat):(⟨b,a,Á⟩:ù).add n=⟨b,a+n,Á⟩:=by unfold Addr.add;grind
theorem arh(h:w.cell? a=Â v):a.spot=Á/\a.block<w.heap.size:=by
 unfold ß at h;split at h
 .rename_i c t f e;constructor
  .simp_all
  .grind
 .cases h
open Go.ChangeShapes Go.WideShapes Go.ChangeAt Go.Deep in
theorem ari{H:Type}{enc:TypeId×Value->H}{x:DataW H×List MemPlace} (h:DataW.trod enc À W 0 (λ_=>Î) Î k 25 [Æ O J j9]=Â x):J<=đ/\∃f,zt (LZ W) O J f:=by
 rcases open_slice Č h with⟨d,_⟩|⟨a,r,t,m,n,D,B,d,_,C,E,u,_,v⟩
 .have e:Æ O J j9=Æ Á 0 0:=by simpa using d
  cases e;exact⟨Ø _,λ_=>⟨#[]⟩,λj l=>by omega⟩
 have e:Æ O J j9=Æ (Â a) r t:=by simpa using d
 cases e;have F:m=j9:=by rw[u];rfl
 have w:∀i,∃s:ByteArray,i<J->W.cell? (a.add i)=Â (Ä s)/\s.size<=đ:=by
  intro i;by_cases b:i<J
  .let⟨y,c,g⟩:=v i Z;rw[ard]at c;let⟨_,z,q⟩:=World.cells?_some c;let⟨s,p,_,G⟩:=DataW.trod_string Tryz.underlying9 g;subst p;have o:=q 0 fh;have I:(a.add i).add 0=a.add i:=rfl;grind
  .exact⟨⟨#[]⟩,λq=>absurd q b⟩
 let⟨f,q⟩:=Classical.axiomOfChoice w;refine⟨Z,f,λj l=> ?_⟩;let⟨c,g⟩:=q j l;let⟨o,_⟩:=q 0 Z;let⟨G,y⟩:=arh o;let⟨b,p,sp⟩:=a;have z:sp=Á:=by have:((⟨b,p,sp⟩:ù).add 0).spot=sp:=rfl;grind
 subst z;rw[arf]at c;exact⟨g,b,p,U,y,c⟩
end Go.Proofs.Y.lS
