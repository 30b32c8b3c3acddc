import Derived.Test.YtgpphkdoanciiaaGreatDoorWAD
import Derived.Lib.Bytealg
import Derived.WalkKit
import Derived.WalkSpells
import Derived.WalkLawsBesides
import Derived.Deep.Light
import Derived.WalkMore
import Derived.Deep.QuietTactic
import Derived.BigQuiet
import Derived.Conc.LeavingOf
import Derived.Conc.CrowdStepC
import Derived.Listen
import Derived.ProofKit
import Derived.Deep.Slices
set_option linter.all false
set_option maxRecDepth 1000000
set_option maxHeartbeats 8000000
open Go.Proofs.Tryz renaming prog->À,ntmps67->í,func67->ó,zeroCells292->û,ntmps100->ü,func100->Ā,underlying25->Č,func38->ĕ,results45->Ĥ,func36->ļ,results36->Ľ,func17->Ł,ntmps160->Ŋ,ntmps147->ŋ,ntmps38->Ŏ,func160->Œ,func147->Ŗ,ntmps95->ŗ,ntmps36->Ř,func95->ť,func30->ŧ,func22->Ũ,ntmps123->Ÿ,ntmps101->ż,func123->Δ,func101->Κ,ntmps96->Μ,ntmps45->Ν,ntmps30->Ο,func96->Ω,func45->ε,func35->ζ,func37->η,func15->ι,f38->ai
open Option renaming none->Á,some->Â,bind_eq_some_iff->Ü,bind_eq_bind->ê,map->ð,map_eq_some_iff->ò,isSome_none->ö,pure_def->ā,map_some->Ă,bind_some->ş
open Go.Value renaming pointer->Ã,string->Ä,int->Å,slice->Æ,tuple->ë,bool->õ,cells->Ĺ
open Go.Ending renaming returned->Ç
open Or renaming inl->È,inr->Ï
open Go.IntKind renaming i64->É,u64->ã,wrap_u64->Ć,wrap_i64->ŝ,u8->ū
open And renaming intro->Ê
open Bool renaming false->Ë,true->Î,false_eq_true->ì,eq_iff_iff->Ě
open Nat renaming le_trans->Ì,zero_le->Ö,le_refl->æ,lt_of_lt_of_le->Ģ,eq_zero_or_pos->ĥ,zero_add->œ,mul_le_mul->ű
open Go renaming World->Í,Value->Ñ,Calls->Ò,Addr->ù,bodyPost_ret->ÿ,Act->Ĉ,Goroutine->Ċ,TypeId->Ď,maxLen->đ,Frame->Ĕ,Oper->ğ,TypeInfo->ĩ,undef->ĸ,results->Ń,execOp->ś,runNT_fst->Ţ,run_underlying->Ů,info_parts->ů,heap_alloc_new->Ŵ,Tape->ŷ,Trace->Ž,runNT->ſ,mem_ready->Β,wp_loop->Γ,wpList_plain->Ε,yielded->Ι,cell_one_new->Λ,FuncId->Ρ,Code->Τ,storeCells->ν,resolve->ρ,builtin->ς,Program->ω,invoke->ar
open Go.Item renaming inRegion->Ð,code->ax
open List renaming getElem?_eq_getElem->Ó,getElem?_eq_some_iff->Õ,length_append->Ù,mem_map->Ú,eq_nil_of_length_eq_zero->Ý,mem_append->â,mem_of_getElem?->ç,setIfInBounds_toArray->é,length_map->ú,set_cons_zero->ý,set_cons_succ->þ,replicate->ą,length_cons->Đ,cons_append->Ē,mem_cons_of_mem->Ė,getElem?_of_mem->ė,append_nil->Ę,nil_append->ě,getElem_of_mem->Ğ,getD->Ġ,getElem?_append_right->ġ,getElem?_append_left->Ħ,extract_eq_take_drop->ħ,mem_or_eq_of_mem_set->Ĩ,take_add_one->Ī,getElem?_map->ī,all_eq_true->ĭ,range->ĳ,set_append_right->Ĵ,length_pos_iff->Ņ,map_cons->ŉ,mem_singleton->ō,map_nil->Ő,append_assoc->ő,ext_getElem?->Ŕ,size_toArray->ř,length_take->Ś,map_toArray->Ŝ,mem_flatMap->Ş,length_nil->ũ,mem_range->Ŷ
open Option.some renaming injEq->Ô,inj->ag
open Go.Lib renaming byteCells->Ø,indexByte->Þ,strCells->į,hasPrefix->ź,TabIs->χ
open Go.Obj renaming cells->Û
open Go.World renaming cell?->ß,setCell->Ż,drew->ξ,var?->ο
open Go.Code renaming wp->à,wp_mono->İ,loop->ń,skip->aj
open Array renaming getElem?_eq_some_iff->á,getElem?_eq_getElem->å,mem_toList_iff->î,getElem_mem->ă,length_toList->ĝ,size_setIfInBounds->Ĭ,getElem?_eq_none->ı,mem_of_getElem?->ĵ,getElem?_modify->Ķ,getElem?_toList->ķ,toList_extract->ĺ,replicate->Ū
open Go.Region renaming ready->ä,wanted->ē,Mode->Ŀ
open Go.Frame renaming enter->è,finish_at->Ĝ
open Go.Conc.Goes renaming stop->ï
open Go.Ground renaming phase->ñ,data->ĉ
open Go.Conc renaming events_call_body->ô,crowd->Į,goes_leave1->Ŧ,Good->Ξ,goes_leave2->θ,listed->ay
open ByteArray renaming size_append->ø,getElem_eq_getElem_data->ċ,size_extract->č,data_extract->Ĳ,size->ŭ,data->Ű,extract->σ,mk->aB
open Go.CallKind renaming normal->Ą
open Go.Region.linearise renaming go->ć
open Go.Great renaming wpList_runTo->ď
open Go.Builtin renaming append_->ę,firstCells->Ō,lenOf->Ź,append->κ,zeroCells->φ
open Go.RowKit.Below renaming heap_setCell->ģ,heap_alloc->Š
open Go.IntWalk renaming i64_in->Ļ,i64_left->š
open Go.Made renaming word->ł,reckonStruct->ŕ,infoAt->ţ,mostCells->Ų,reckon->Χ
open Int renaming toNat_of_nonneg->ņ,le_refl->Ť
open Go.Operand renaming tmp->ň
open Go.Result renaming andThen_ok->ŏ,andThen->ų
variable{i n j b k m J j9 j7 j6:Nat}{w u W jX:Í}{v x z jQ:Ñ}{g:Ċ}{a p:ù}{h c:Int}{e t T:Ď}{d q:Array Ñ}{P:ω}{y:Ĉ}{B:ByteArray}{X:Nat->Prop}{O:Option ù}{l:List Ñ}{yQ:Bool}{K H:Ĉ->Í->Prop}{o:ğ}{D:Nat->Nat}{E:Array Ċ}{L:List Go.Item}{jJ:List Nat}{qX:List Ĕ}{qJ:Ž}{zX:Go.Loc->Prop}{zQ:List Int}{zJ:ĩ}{xQ:ŷ}{xJ:Nat×Nat}{vX:List ByteArray}{vQ:Ñ->Í->Prop}{vJ:Go.Exit->Ĉ->Í->Prop}{Q:Array ğ}{f:Ĕ}{F:Ρ}{s:Go.Func}
namespace Go.Proofs.Y.gP
open Go Go.Proofs Go.RowKit Go.Proofs.Y.Lift
def Ca:Τ->Option Τ
 |ń c=>Â c
 |.seq a b=>match Ca b with
  |some c=>Â c
  |none=>Ca a
 |.block _ c=>Ca c
 |.scope c=>Ca c
 |.cond _ a b=>match Ca b with
  |some c=>Â c
  |none=>Ca a
 |_=>Á
noncomputable def L9:Τ:=(ai.body.bind km).getD aj
noncomputable def Ma:Τ:=(ai.body.bind Ca).getD aj
def QE(k:Nat)(X:Ĉ->Í->Prop):Exit->Ĉ->Í->Prop
 |.exit i,a,w=>i=k/\X a w
 |_,_,_=>False
def oh(a:ByteArray)(b:List ByteArray):List UInt8:=b.flatMap λy=>a.data.toList++y.data.toList
def aat(a:ByteArray):List ByteArray->List UInt8
 |[]=>[]
 |x::r=>x.data.toList++oh a r
def iP(xs:List ByteArray):Nat:=(xs.map ŭ).sum
def TG(a b:List ByteArray):iP (a++b)=iP a+iP b:=by simp[iP]
def aau(a:List ByteArray)(j:Nat):iP (a.take j)<=iP a:=by have h:=TG (a.take j)<|a.drop j;simp_all
theorem Mb(a:ByteArray)(c:a.size=1):∀b:List ByteArray,(oh a b).length=iP b+b.length
 |[]=>rfl
 |x::r=>by
  have e:oh a (x::r)=(a.data.toList++x.data.toList)++oh a r:=U;have d:a.data.toList.length=1:=by simpa using c
  have f:x.data.toList.length=x.size:=fj
  have g:iP (x::r)=x.size+iP r:=by simp[iP]
  rw[e,Ù,Ù,Mb a c r,d,f,g,Đ];omega
def EE(a:Option ù)(n b:Nat)(c:ByteArray)(m i:Int)(u:Nat->Ñ):Ĉ:=⟨#[Æ a n b,Ä c,u 2,u 3,u 4,Å É m,u 6,u 7,u 8,u 9,u 10,u 11,u 12,u 13,u 14,u 15,u 16,u 17,u 18,u 19,u 20,u 21,u 22,u 23,u 24,u 25,u 26,u 27,u 28,u 29,u 30,u 31,u 32,u 33,u 34,u 35,u 36,u 37,u 38,Æ a n b,Å É n,Å É i,u 42,u 43,u 44,u 45,u 46,u 47,u 48,u 49,u 50,u 51,u 52,u 53,u 54,u 55,u 56,u 57,u 58,u 59,u 60,u 61,u 62,u 63,u 64,u 65,u 66,u 67,u 68,u 69,u 70,u 71,u 72,u 73,u 74],[]⟩
def EF(b:Option ù)(n c:Nat)(d:ByteArray)(m i:Int)(a:Ĉ):Prop:=∃u,a=EE b n c d m i u
def qk(a:Option ù)(n c b:Nat)(d:ByteArray)(i:Int)(u:Nat->Ñ):Ĉ:=⟨#[u 0,Ä d,u 2,u 3,u 4,u 5,u 6,u 7,Ã<|Â ⟨b,0,Á⟩,u 9,u 10,u 11,u 12,u 13,u 14,u 15,u 16,u 17,u 18,u 19,u 20,u 21,u 22,u 23,u 24,u 25,u 26,u 27,u 28,u 29,u 30,u 31,u 32,u 33,u 34,u 35,u 36,u 37,u 38,u 39,u 40,u 41,u 42,u 43,u 44,u 45,u 46,u 47,u 48,u 49,u 50,u 51,u 52,u 53,u 54,u 55,u 56,u 57,u 58,u 59,u 60,u 61,u 62,Æ a n c,Å É n,Å É i,u 66,u 67,u 68,u 69,u 70,u 71,u 72,u 73,u 74],[]⟩
def EG(c:Option ù)(n d b:Nat)(e:ByteArray)(i:Int)(a:Ĉ):Prop:=∃u,a=qk c n d b e i u
section
variable{X:Ĉ->Í->Prop}{sep:ByteArray}{xs:List ByteArray}
def aoI(u:Nat->Ñ)(m:Int)(b:∀a,EF O n i sep m n a->X a w): à À L9 (Exit.then K<|QE 1 X) (EE O n i sep m n u) w:=by
 unfold EE;conv=>arg 2;whnf
 go_wp2_with fail
 exact⟨U,b _ (gk _)⟩
def aoJ(u:Nat->Ñ)(m j:Nat)(f:j<n)(g:n<=1000000)(b c:Nat)(e:O=Â ⟨b,c,Á⟩)(x:ByteArray)(h:w.cell? ⟨b,c+j,Á⟩=Â (Ä x))(k:m+x.size<=140737488355328) (d:∀a,EF O n i sep ((m+x.size:Nat):Int) ((j+1:Nat):Int) a->K a w): à À L9 (Exit.then K<|QE 1 X) (EE O n i sep m j u) w:=by
 unfold EE;conv=>arg 2;whnf
 subst e;have H:=fe d;clear d;go_wp2_with fail;exact H.out _ (gk _)
def J1(O:Option ù)(n i:Nat)(sep:ByteArray)(b:Nat)(xs:List ByteArray)(u:Í)(a:Ĉ)(w:Í):Prop:=
 ∃j:Nat,EF O n i sep ((b+iP (xs.take j):Nat):Int) j a/\j<=n/\w=u
def J1E(O:Option ù)(n i:Nat)(sep:ByteArray)(b:Nat)(xs:List ByteArray)(u:Í)(a:Ĉ)(w:Í):Prop:=
 EF O n i sep ((b+iP xs:Nat):Int) n a/\w=u
def Mc(n:Nat)(a:Ĉ)(_:Í):Nat:=match a.tmps.getD 41 ĸ with
 |Å _ i=>n-i.toNat
 |_=>0
def aav(b:EF O n i sep h j y):Mc n y w=n-j:=by obtain⟨u,rfl⟩:=b;show n-(j:Int).toNat=_;simp
theorem aoK(r:n=xs.length)(f:n<=1000000)(g:nu O (jl xs) u)(s:j+iP xs<=140737488355328)(a:Ĉ)(w:Í)(h:J1 O n i sep j xs u a w): à À L9 (Exit.then (λb c=>J1 O n i sep j xs u b c/\Mc n b c<Mc n a w)<|QE 1<|J1E O n i sep j xs u) a w:=by
 obtain⟨b,d,t,rfl⟩:=h;rw[aav d];obtain⟨c,rfl⟩:=d;by_cases k:b=n
 .subst k;refine aoI c _ λa q=>⟨?_,U⟩;grind
 .obtain⟨x,e⟩:∃x,xs[b]?=Â x:=⟨_,Ó Z⟩;let⟨l,m,o,p⟩:=g b (Ä x) (by simp[jl,e]);have v:iP (xs.take<|b+1)=iP (xs.take b)+x.size:=by
   rw[Ī,e,TG];simp[iP]
  have y:=aau xs<|b+1;refine aoJ c _ b Z f l m o x p Z λa q=>⟨⟨b+1,?_,Z,U⟩,by rw[aav q];omega⟩;grind
def aoL(u:Nat->Ñ)(c:∀a,EG O n i b sep n a->X a w): à À Ma (Exit.then K<|QE 3 X) (qk O n i b sep n u) w:=by
 unfold qk;conv=>arg 2;whnf
 go_wp2_with fail
 exact⟨U,c _ (gk _)⟩
def aoM(c:Nat->Ñ)(j:Nat)(y:j<n)(z:n<=1000000)(d f:Nat)(o:O=Â ⟨d,f,Á⟩)(x:ByteArray)(p:u.cell? ⟨d,f+j,Á⟩=Â (Ä x))(l:List UInt8)(g:oJ u b (Ø l) w)(q:sep.size=1)(B:l.length+1+x.size<=140737488355328) (r:∀a h,EG O n i b sep ((j+1:Nat):Int) a->oJ u b (Ø<|l++(sep.data.toList++x.data.toList)) h->K a h): à À Ma (Exit.then K<|QE 3 X) (qk O n i b sep j c) w:=by
 unfold qk;conv=>arg 2;whnf
 subst o;have C:=g.r.r p id;have k:=Lib.byteCells_length l;have s:(Ø l++į sep).length=l.length+1:=by rw[Ù,k,Lib.strCells_length,q]
 have E:Ø l++į sep++į x=Ø (l++(sep.data.toList++x.data.toList)):=by simp[Ø,į]
 have H:=fe<|Ê g<|Ê r<|Ê k<|Ê s E;go_wp2_with (first
  |(go_at_call 55;refine(TF t.out x<|by rw[H.out.2.2.2.1];omega).mono ?_;rintro e D ⟨rfl,m⟩;have v:=fe m;clear m)
  |(go_at_call 55;refine(TF H.out.1 sep (by rw[H.out.2.2.1];omega)).mono ?_;rintro e D ⟨rfl,m⟩;have t:=fe m;clear m))
 apply H.out.2.1 _ _ (gk _);rw[<-H.out.2.2.2.2];exact v.out
def J2(O:Option ù)(n i b:Nat)(sep:ByteArray)(c:List UInt8)(xs:List ByteArray)(u:Í)(a:Ĉ)(w:Í):Prop:=
 ∃j:Nat,EG O n i b sep j a/\j<=n/\oJ u b (Ø<|c++oh sep (xs.take j)) w
def J2E(O:Option ù)(n i b:Nat)(sep:ByteArray)(c:List UInt8)(xs:List ByteArray)(u:Í)(a:Ĉ)(w:Í):Prop:=
 EG O n i b sep n a/\oJ u b (Ø<|c++oh sep xs) w
def Md(n:Nat)(a:Ĉ)(_:Í):Nat:=match a.tmps.getD 65 ĸ with
 |Å _ i=>n-i.toNat
 |_=>0
def aaw(c:EG O n i b sep j y):Md n y w=n-j:=by obtain⟨u,rfl⟩:=c;show n-(j:Int).toNat=_;simp
theorem aoN{d:List UInt8}(z:n=xs.length)(h:n<=1000000)(k:sep.size=1)(l:nu O (jl xs) u)(B:d.length+iP xs+n<=140737488355328)(a:Ĉ)(w:Í)(m:J2 O n i b sep d xs u a w): à À Ma (Exit.then (λc e=>J2 O n i b sep d xs u c e/\Md n c e<Md n a w)<|QE 3<|J2E O n i b sep d xs u) a w:=by
 let⟨j,g,C,o⟩:=m;rw[aaw g];obtain⟨c,rfl⟩:=g;by_cases p:j=n
 .subst p;refine aoL c λa q=>⟨q,?_⟩;grind
 .obtain⟨x,f⟩:∃x,xs[j]?=Â x:=⟨_,Ó Z⟩;let⟨r,s,t,v⟩:=l j (Ä x) (by simp[jl,f]);have D:iP (xs.take<|j+1)=iP (xs.take j)+x.size:=by
   rw[Ī,f,TG];simp[iP]
  have E:=aau xs<|j+1;have y:(d++oh sep (xs.take j)).length=d.length+iP (xs.take j)+j:=by grind [Ù,Mb,Ś]
  have F:oh sep (xs.take<|j+1)=oh sep (xs.take j)++(sep.data.toList++x.data.toList):=by rw[Ī,f];simp[oh]
  refine aoM c j Z h r s t x v _ o k (by rw[y];omega) λa e q G=>⟨⟨j+1,q,Z,?_⟩,by rw[aaw q];omega⟩;grind
end
section
variable{sep:ByteArray}{xs:List ByteArray}
def kE(sep:ByteArray)(xs:List ByteArray):ByteArray:=⟨(aat sep xs).toArray⟩
def aoO:Ò À 38 #[Æ O 0 i,Ä sep] w λe a=>e=Ç (Ä ⟨#[]⟩)/\e9 ff w a:=by go_enter ĕ,Ŏ;go_wp2_with fail;go_ret;exact⟨U,e9.fU _ _⟩
def aoP(a b:Nat)(x:ByteArray)(d:w.cell? ⟨a,b,Á⟩=Â (Ä x)):Ò À 38 #[Æ (Â ⟨a,b,Á⟩) 1 i,Ä sep] w λe c=>e=Ç (Ä x)/\e9 ff w c:=by go_enter ĕ,Ŏ;go_wp2_with fail;go_ret;exact⟨U,e9.fU _ _⟩
theorem aoQ(k:Nat)(K:1<=k)(L:k<1000000)(c d:Nat)(M:k+1<=i)(B:sep.size=1)(x:ByteArray)(g:k=xs.length)(f:nu (Â ⟨c,d,Á⟩) (jl<|x::xs) w)(C:iP (x::xs)+(k+1)<=140737488355328): Ò À 38 #[Æ (Â ⟨c,d,Á⟩) (k+1) i,Ä sep] w λe b=>e=Ç (Ä<|kE sep<|x::xs)/\e9 ff w b:=by
 have D:iP (x::xs)=x.size+iP xs:=by simp[iP]
 have m:∀a,EF (Â ⟨c,d,Á⟩) (k+1) i sep ((k+iP ((x::xs).take 0):Nat):Int) (0:Nat) a->à À (ń L9) (QE 1<|J1E (Â ⟨c,d,Á⟩) (k+1) i sep k (x::xs) w) a w:=λa h=>
  Γ (J1 (Â ⟨c,d,Á⟩) (k+1) i sep k (x::xs) w) (Mc<|k+1) ⟨0,h,Ö _,U⟩<|aoK (by simp[g]) Z f Z
 have n:nu (Â ⟨c,d+1,Á⟩) (jl xs) w:=λj u E=>by let⟨b,o,z,l⟩:=f (j+1) u (by simpa[jl]using E);grind
 have p:∀a W,EG (Â ⟨c,d+1,Á⟩) k (i-1) w.heap.size sep (0:Nat) a->oJ w w.heap.size (Ø<|x.data.toList++oh sep (xs.take 0)) W->à À (ń Ma) (QE 3<|J2E (Â ⟨c,d+1,Á⟩) k (i-1) w.heap.size sep x.data.toList xs w) a W:=λa W h o=>
  Γ (J2 (Â ⟨c,d+1,Á⟩) k (i-1) w.heap.size sep x.data.toList xs w) (Md k) ⟨0,h,Ö _,o⟩<|aoN g Z B n (by simp only[ĝ];have:x.data.size=x.size:=rfl;omega)
 let⟨_,_,F,q⟩:=f 0 (Ä x) U;cases F;have r:w.cell? ⟨c,d,Á⟩=Â (Ä x):=q;have s:x.data.toList++oh sep xs≠[]:=by grind [Ù,Mb,ũ]
 have N:(1:Int)<9223372036854775807/(k:Int):=by rw[Int.lt_iff_add_one_le,Int.le_ediv_iff_mul_le Z];omega
 have t:0<k+iP (x::xs)/\k+iP (x::xs)<=281474976710656:=Z
 have y:(Ø []).length+x.size<=140737488355328:=by simp[Ø];omega
 have H:=fe<|Ê m<|Ê p<|Ê t<|Ê y<|Ê s r;clear m p t y s q r f n g C D;generalize G:iP (x::xs)=S at*;go_enter ĕ,Ŏ;go_wp2_with fail;refine İ ?_ (H.out.1 _ (gk _));rintro(_|_|_|_|_|_) a v hq;all_goals first|exact absurd hq id|skip
 obtain⟨rfl,b,rfl⟩:=hq;rw[G]at b;obtain⟨u,rfl⟩:=b;unfold EE;go_wp2_with (first
  |(go_at_call 54;refine(aoG ⟨æ _,e9.gJ _ _ _ _,fh.N v [Ã Á,Æ Á 0 0] 109⟩ (k+S) H.out.2.2.1.1 H.out.2.2.1.2).mono ?_;rintro e I ⟨rfl,l⟩;have J:=l.r.r H.out.2.2.2.2.2 id;have z:=fe l;clear l)
  |(go_at_call 55;refine(TF z.out x H.out.2.2.2.1).mono ?_;rintro e l ⟨rfl,z⟩;have I:=fe z;clear z))
 have J:oJ v v.heap.size (Ø<|x.data.toList++oh sep (xs.take 0)) l:=by have:=I.out;show oJ v v.heap.size (Ø<|x.data.toList++[]) l;rw[Ę];exact this
 refine İ ?_ (H.out.2.1 _ _ (gk _) J);rintro(_|_|_|_|_|_) a w3 hq;all_goals first|exact absurd hq id|skip
 obtain⟨rfl,b,o⟩:=hq;obtain⟨v,rfl⟩:=b;unfold qk;go_wp2_with (go_at_call 56;refine(aoH (fe o).out H.out.2.2.2.2.1).mono ?_;rintro e O ⟨rfl,z⟩;have I:=fe z;clear z);go_ret;exact⟨U,I.out⟩
def TH(a:n=xs.length)(f:n<=1000000)(g:n<=i)(h:sep.size=1)(b:nu O (jl xs) w)(j:iP xs+n<=140737488355328): Ò À 38 #[Æ O n i,Ä sep] w λe c=>e=Ç (Ä<|kE sep xs)/\e9 ff w c:=by
 cases xs with
 |nil=>subst a;exact aoO
 |cons x r=>
  let⟨c,d,k,l⟩:=b 0 (Ä x) U;subst k;cases r with
  |nil=>
   subst a;have e:kE sep [x]=x:=by show aB ((x.data.toList++[]).toArray)=x;rw[Ę]
   rw[e];exact aoP c d x l
  |cons y r=>
   subst a;exact aoQ (r.length+1) Z (by simp at f;omega) c d g h x U b j
def aoR(a:n=xs.length)(c:n<=1000000)(d:n<=i)(h:nu O (jl xs) w)(f:iP xs+n<=140737488355328): Ò À 123 #[Æ O n i] w λe b=>e=Ç (Ä<|if xs=[]then⟨#[45]⟩else kE ⟨#[44]⟩ xs)/\e9 ff w b:=by
 have H:=fe<|TH (sep:=⟨#[44]⟩) a c d U h f;by_cases b:xs=[]
 .subst b;have e:=a;subst e;rw[if_pos U];clear a f H c d;go_enter Δ,Ÿ;go_wp2_with fail;go_ret;exact⟨U,e9.fU _ _⟩
 .rw[if_neg b];have k:0<n:=by rw[a];exact Ņ.2 b
  have l:((n:Int)==0)=Ë:=by simp;omega
  clear a;generalize kE ⟨#[44]⟩ xs=z at*;go_enter Δ,Ÿ;go_wp2_with (go_at_call 38;apply H.out.mono;rintro e m ⟨rfl,g⟩;have j:=fe g;clear g);go_ret;exact⟨U,j.out⟩
end
def EH{M:Nat}:∀(a:List ByteArray),(∀z∈a,z.size<=M)->iP a<=M*a.length
 |[],_=>Ö _
 |x::r,h=>by
  have c:=EH r λz b=>h z<|Ė _ b;have d:=h x fj;have e:iP (x::r)=x.size+iP r:=by simp[iP]
  rw[e,Đ,Nat.mul_add];omega
def Me{e:Nat×Int}(h:fZ e.2):(rL e).size<=21:=by unfold rL;rw[ø];have:=xG e.1;have:=pj e.2.toNat (by have:=h.1;have:=h.2;omega);omega
def aax{e:Int×Bool}(a:0<=e.1)(h:e.1<=400):(EB e).size<=41:=by unfold EB;rw[ø,ø];have:=pj e.1.toNat Z;have:=pj e.2.toNat (by cases e.2<;>decide);have:ŭ ⟨#[58]⟩=1:=rfl;omega
section
variable{b:List ByteArray}
def aay{ty:Ď}{base:Nat}(b:P.underlying t=Â (.slice e))(d:P.info? e=Â zJ)(h:w.ownsRow base e j v n l)(a:Option ù)(c:Nat): (ę #[t,t] ty #[v,Æ a 0 c]).run P w=.ok v w:=by
 have f:(Ō zJ.size 0<|Æ a 0 c).run P w=.ok #[] w:=by cases a<;>simp[Ō,loadCells,loadCellsFrom]
 rcases h.2 with⟨rfl,rfl⟩|⟨g,m,o,rfl,_,_,k,_⟩
 .simp[ę,Ů b,sizeOf,typeInfo,d,Ź,f,ν]
 .simp[ę,Ů b,sizeOf,typeInfo,d,Ź,f,k,ν]
def aoS{r:Array ğ}{t:List ğ}(l:o.guard=Á)(s c:Operand) (m:o.op=.call {callee:=.builtin κ,args:=#[s,c],argTypes:=#[25,25]}) (d:ie u v vX w) (n:y.eval s=v) {base:Nat} (B:w.ownsRow base 9 1 x b.length (jl b)) (e:y.eval c=x) (I:vX.length+b.length<=1000000) (h:∀j k,ie u j (vX++b) k->wpList À r vJ t (y.put o.dst j) k):wpList À r vJ (o::t) y w:=by
 let⟨J,p,D,E,F⟩:=ů zz;rcases B.2 with⟨f,G⟩|⟨g,H,L,f,_⟩
 .have z:=Ý G;subst z;rw[f]at e;refine Ε l λK i=> ?_;have q:=aay (ty:=o.type) Č p d.fp Á 0;unfold Oper.wp ś;simp only[m,ρ,ar,ς,Sem.run_bind,Sem.run_pure,ŏ,Ŝ,ŉ,Ő,n,e,q];exact i _ _<|h v w<|by rwa[Ę]
 .by_cases C:b=[]
  .subst C;rw[f]at e;refine Ε l λK i=> ?_;have q:=aay (ty:=o.type) Č p d.fp (Â ⟨g,0,Á⟩) H;unfold Oper.wp ś;simp only[m,ρ,ar,ς,Sem.run_bind,Sem.run_pure,ŏ,Ŝ,ŉ,Ő,n,e,q,ũ];exact i _ _<|h v w<|by rwa[Ę]
  .have K:=Ņ.2 C;refine BP l s c 25 m Č p D E F U n d.fp ⟨g,0,Á⟩ (jl b) (e.trans f) K (by simp[jl]) (B.cells<|by rw[f];rfl) (λi q=>by unfold jl at q;obtain⟨z,_,rfl⟩:=Ú.1 q;rfl) (by unfold đ;omega) Z d.r.M ?_;intro j k z;refine h j k ⟨?_,d.r.C z.r λi M q=> ?_⟩
   .have:=z.fp;rwa[show jl vX++jl b=jl (vX++b) by simp[jl],show vX.length+b.length=(vX++b).length by simp]at this
   .have:=(d.fp.lt i q).1;omega
end
def ie.I(h:ie u (Æ O n i) vX w):nu O (jl vX) w/\n=vX.length/\n<=i:=by
 rcases h.fp.2 with⟨b,d⟩|⟨g,f,k,b,_,_,d,_⟩
 .cases b;refine⟨λj x e=> ?_,d.symm,æ _⟩;rw[Ý d]at e;cases e
 .have e:n=vX.length:=by injection b
  subst e;injection b with _ _ h4;exact⟨nu.r h.fp,U,by rwa[h4]⟩
def TJ(r:BU):ByteArray:=kE ⟨#[44]⟩<|[gh r.C.toNat,gh r.M.toNat,gh r.r.toNat]++r.I.map rL
theorem aoT(x y:Nat)(g k:Int)(b c:Nat)(a:Bool)(f:List (Nat×Int))(L:b<18446744073709551616)(M:c<18446744073709551616)(S:f.length<=400000)(V:xD f)(W:lH w) (T:Ò À 158 #[Ã<|Â ⟨i,0,Á⟩,Å É x,Å É y,Å ã g,Å ã k] w λe h=>∃B,e=Ç (ë #[.agg #[Å ã b,õ a,Å ã c],B])/\h.ownsRow 0 257 2 B f.length (kl f)/\e9 ff w h): Ò À 119 #[Ã<|Â ⟨i,0,Á⟩,Å É x,Å É y,Å ã g,Å ã k] w λe h=>e=Ç (Ä<|kE ⟨#[44]⟩<|[gh a.toNat,gh c,gh b]++f.map rL)/\e9 ff w h:=by
 have N:a.toNat<18446744073709551616:=by cases a<;>decide
 have H:=fe<|Ê T<|Ê W V;go_enter Tryz.func119,Tryz.ntmps119;go_wp2_with (go_at_call 158;apply H.out.1.mono;rintro e j ⟨B,rfl,q,d⟩;obtain⟨v,Q,rfl⟩:=jg q;have C:=fe<|Ê d q;clear d q);change à À _ _ _ (j.alloc<|Û #[Å ã b,õ a,Å ã c] 252);have D:=(e9.gJ ff j #[Å ã b,õ a,Å ã c] 252).fg<|e9.fS _ _;have E:=(H.out.2.1.r C.out.1).r D;have o:=(fh.N j [Å ã b,õ a,Å ã c] 252).I (e9.fS ff _) id;have O:=C.out.1.fg D;have X:=ic C.out.2 D λ_ _=>id;refine mf (λh=>h.cell? ⟨j.heap.size,0,Á⟩=Â (Å ã b)/\h.cell? ⟨j.heap.size,1,Á⟩=Â (õ a)/\h.cell? ⟨j.heap.size,2,Á⟩=Â (Å ã c)) [] fu ?_;have l:=fe<|Ê (o.r 0 _ rfl)<|Ê (o.r 1 _ rfl)<|o.r 2 _ rfl;generalize j.heap.size=ob at*;generalize ξ (j.alloc<|Û #[Å ã b,õ a,Å ã c] 252)=w5 at*;iterate 3 apply tk l.out
 apply tk l.out 5;apply tk l.out 6;apply tk l.out 8;apply tk l.out 9;apply tk l.out 10;apply gC 3;intro K d;go_simp;go_at_call 159;refine(Hs _ _).mono ?_;rintro e Y ⟨rfl,qz⟩;subst Y;rw[aal];apply d.out _ _ λ_=>l.out;apply gC 4;intro K d;go_simp;go_at_call 118;refine(xE a.toNat N _ E).mono ?_;rintro e wa ⟨rfl,p⟩;have r:=o.I p id;have P:=E.r p;apply d.out _ _ λ_=>⟨r.r 0 _ U,r.r 1 _ U,r.r 2 _ U⟩;apply gC 7;intro K d;go_simp;go_at_call 118;refine(xE c M _ P).mono ?_;rintro e wb ⟨rfl,s⟩;have t:=r.I s id;have Pb:=P.r s;apply d.out _ _ λ_=>⟨t.r 0 _ U,t.r 1 _ U,t.r 2 _ U⟩;apply gC 11;intro K d;go_simp;go_at_call 118;refine(xE b L _ Pb).mono ?_;rintro e m ⟨rfl,F⟩;have u:=t.I F id;have n:=u.I (e9.gJ ff m #[Ä<|gh a.toNat,Ä<|gh c,Ä<|gh b] 9) id;apply d.out _ _ λ_=>⟨u.r 0 _ U,u.r 1 _ U,u.r 2 _ U⟩;apply gC 12;intro K d;go_simp;apply d.out _ _ λ_=>⟨n.r 0 _ U,n.r 1 _ U,n.r 2 _ U⟩;apply gC 13;intro K d;go_simp;apply d.out _ _ λ_=>⟨n.r 0 _ U,n.r 1 _ U,n.r 2 _ U⟩;refine lR fu ?_ _;have G:e9 ff w5 (m.alloc<|Û #[Ä<|gh a.toNat,Ä<|gh c,Ä<|gh b] 9):=((p.fg s).fg F).fg<|e9.gJ _ _ _ _;have T6:ie w (Æ (Â ⟨m.heap.size,0,Á⟩) 3 3) [gh a.toNat,gh c,gh b] (m.alloc<|Û #[Ä<|gh a.toNat,Ä<|gh c,Ä<|gh b] 9):=⟨World.ownsRow_lit m #[Ä<|gh a.toNat,Ä<|gh c,Ä<|gh b] 3 (Ì O.M ((p.fg s).fg F).M) (by unfold đ;omega) U,O.fg G⟩;have L6:=ic X G λ_ _=>id;have P6:=E.r G;have I:=fe<|Ê T6<|Ê L6 P6;generalize m.alloc (Û #[Ä<|gh a.toNat,Ä<|gh c,Ä<|gh b] 9)=w6 at*;generalize m.heap.size=tb at*;have jR:∀z∈[gh a.toNat,gh c,gh b]++f.map rL,z.size<=21:=λz hz=>by
  rcases â.1 hz with q|q
  .have h1:=pj a.toNat N;have h2:=pj c M;have v:=pj b L;grind
  .obtain⟨e,v,rfl⟩:=Ú.1 q;exact Me (H.out.2.2 e v).2
 have su:=EH _ jR;have hlen:([gh a.toNat,gh c,gh b]++f.map rL).length=3+f.length:=by simp;omega
 have J:=fe<|Ê su hlen;go_wp2_with (first
  |(go_at_call 124;refine(aak U S H.out.2.2 I.out.2.2<|nu.r I.out.2.1).mono ?_;rintro e v ⟨lt,rfl,q⟩;obtain⟨ta,tc,rfl⟩:=jg q.fp;rw[ú]at q;have Q:=fe q;clear q)
  |(at_builtin;refine aoS U _ _ U (I.out.1.fL Q.out.r) U Q.out.fp U (by simp;omega) ?_;intro cv w8 v;obtain⟨ca,cc,rfl⟩:=jg v.fp;generalize([gh a.toNat,gh c,gh b]++f.map rL).length=cn at v|-;have q:=fe v;clear v)
  |(go_at_call 38;refine(TH q.out.I.2.1 (by have:=q.out.I.2.1;rw[this,J.out.2];omega) q.out.I.2.2 U q.out.I.1 (by have:=q.out.I.2.1;have h1:=J.out.1;have h2:=J.out.2;omega)).mono ?_;rintro e w9 ⟨rfl,v⟩;have Q:=fe v;clear v))
 go_ret;exact⟨U,q.out.r.fg Q.out⟩
def aoU{s:St}(v:mg i s h w)(b:gE s)(z:iK w)(B:lH w)(x y:Nat)(g k:Int)(c:x<8)(d:y<8)(f:0<=g)(j:g<=100000)(l:fZ k): Ò À 119 #[Ã<|Â ⟨i,0,Á⟩,Å É x,Å É y,Å ã g,Å ã k] w λe q=>e=Ç (Ä<|TJ<|gl s [] x y g k)/\e9 ff w q:=by have T:=aah v b z x y g k c d f j l _ U;have e:=HB s [] x y g k b c d l f j (by simp;omega);have m:=Tn s [] x y g k b c d l f j (by simp;omega) (λ_ q=>by cases q);obtain⟨q,o,a,t,p,C⟩:∃q o a t p,gl s [] x y g k=⟨q,o,a,t,p⟩:=⟨_,_,_,_,_,U⟩;rw[C]at T e m|-;have D:=e.C;have E:=e.r;have r:=e.M;have u:=e.I;simp only at D E r u m T;obtain⟨F,rfl⟩:∃n:Nat,q=n:=⟨q.toNat,Z⟩;obtain⟨G,rfl⟩:∃n:Nat,a=n:=⟨a.toNat,by have:=r.1;omega⟩;exact aoT x y g k F G o p Z (by have:=r.2;omega) (by simp at u;omega) m B T
def qc(w:Í):Prop:=w.cell? ⟨4,15,Á⟩=Â (Å ū 4)
def qc.r(h:qc w)(k:e9 ff w u):qc u:=k.r h id
def aoV(c:qc w):Ò À 207 #[Å ã 16] w λe a=>e=Ç (Å É 4)/\a=w:=by
 unfold qc at c;have b:ã.wrap (bits BinOp.and ã 16 (ã.wrap<|-16)*285870213051353865)/288230376151711744=15:=A
 go_enter Tryz.func207,Tryz.ntmps207;go_wp2;go_ret;exact⟨U,U⟩
def tz(c:qc w):Ò À 201 #[Å ã 16] w λe a=>e=Ç (Å É 4)/\a=w:=by go_enter Tryz.func201,Tryz.ntmps201;go_wp2_with (go_at_call 207;refine(aoV c).mono ?_;rintro e a ⟨rfl,b⟩;subst a);go_ret;exact⟨U,U⟩
def aoW:Ò À 200 #[Å É 16] w λe a=>e=Ç (õ Î)/\a=w:=by
 have b:bits BinOp.and É 16 15=0:=A
 go_enter Tryz.func200,Tryz.ntmps200;go_wp2;go_ret;simp_all
def pn(d:Nat):UInt8:=if h:d<36 then(⟨#[48,49,50,51,52,53,54,55,56,57,97,98,99,100,101,102,103,104,105,106,107,108,109,110,111,112,113,114,115,116,117,118,119,120,121,122]⟩:ByteArray)[d]'h else 0
def uH:Nat->Nat->List UInt8->List UInt8
 |0,_,acc=>acc
 |k+1,n,acc=>if n<16 then pn n::acc else uH k (n/16) (pn (n%16)::acc)
def aaz:∀k n a,(uH k n a).length<=k+a.length
 |0,_,a=>by simp[uH]
 |k+1,n,a=>by
  unfold uH;split
  .simp;omega
  .have:=aaz k (n/16)<|pn (n%16)::a;simp at this;omega
noncomputable def Mf:Τ:=(Tryz.f190.body.bind km).getD aj
def EI(a:Nat)(n i:Int)(u:Nat->Ñ):Ĉ:=⟨#[u 0,Å ã n,Å É 16,õ Ë,õ Ë,u 5,u 6,u 7,u 8,u 9,Æ Á 0 0,u 11,Ã<|Â ⟨a,0,Á⟩,Å É i,Å ã 4,Å ã 16,Å ã 15,u 17,u 18,u 19,u 20,u 21,u 22,u 23,u 24,u 25,u 26,u 27,u 28,u 29,u 30,u 31,u 32,u 33,u 34,u 35,u 36,u 37,u 38,u 39,u 40,u 41,u 42,u 43,u 44,u 45,u 46,u 47,u 48,u 49,u 50,u 51,u 52,u 53,u 54,u 55,u 56,u 57,u 58,u 59,u 60,u 61,u 62,u 63,u 64,u 65,u 66,u 67,u 68,u 69,u 70,u 71,u 72,u 73,u 74,u 75,u 76,u 77,u 78,u 79,u 80,u 81,u 82,u 83,u 84,u 85,u 86,u 87,u 88,u 89,u 90,u 91,u 92,u 93,u 94,u 95,u 96,u 97,u 98,u 99,u 100,u 101],[]⟩
def EJ(b:Nat)(n i:Int)(a:Ĉ):Prop:=∃u,a=EI b n i u
def zc(i:Nat)(a:List UInt8):List Ñ:=ą i (Å ū 0)++Ø a
def aaA(i:Nat)(a:List UInt8):(zc i a).length=i+a.length:=by simp[zc,Ø]
theorem aaB(i:Nat)(a:List UInt8)(c:UInt8):(zc (i+1) a).set i (Å ū c.toNat)=zc i (c::a):=by unfold zc;rw[List.replicate_succ',ő,Ĵ _ _ fj];simp[Ø]
section
variable{X:Ĉ->Í->Prop}
def aoX(u:Nat->Ñ)(n b:Nat)(d:n<16)(c:∀a,EJ i n b a->X a w): à À Mf (Exit.then K<|QE 0 X) (EI i n b u) w:=by
 unfold EI;conv=>arg 2;whnf
 go_wp2_with fail
 exact⟨U,c _ (gk _)⟩
def aoY(u:Nat->Ñ)(n b:Nat)(g:16<=n)(h:n<18446744073709551616)(j:b<65)(v:Ñ)(c:w.cell? ⟨i,b,Á⟩=Â v)(k:w.frozen? ⟨i,b,Á⟩=Ë) (e:∀a,EJ i ((n/16:Nat):Int) b a->K a (w.setCell ⟨i,b,Á⟩<|Å ū (pn<|n%16).toNat)): à À Mf (Exit.then K<|QE 0 X) (EI i n ((b+1:Nat):Int) u) w:=by
 unfold EI;conv=>arg 2;whnf
 have l:bits BinOp.and ã (n:Int) 15=((n%16:Nat):Int):=by have:=(bits_nat ã 64 A (λn f H=>by rw[Ć];omega) n 15 Z A).1;rwa[show(15:Nat)=2^4-1 from rfl,Nat.and_two_pow_sub_one_eq_mod]at this
 have f:n%16<36:=Z
 have m:(⟨#[48,49,50,51,52,53,54,55,56,57,97,98,99,100,101,102,103,104,105,106,107,108,109,110,111,112,113,114,115,116,117,118,119,120,121,122]⟩:ByteArray)[n%16]'f=pn (n%16):=by unfold pn;rw[dif_pos f]
 have H:=fe e;clear e;generalize o:n%16=d at*;go_wp2_with fail;exact H.out _ (gk _)
def XI(i:Nat)(u:Í)(d:List UInt8)(a:Ĉ)(w:Í):Prop:=
 ∃(n b:Nat) (c:List UInt8),EJ i n b a/\50<=b/\b+c.length=65/\n<16^(b-49)/\n<18446744073709551616/\e9 (λk=>k=i) u w/\fh i (zc b c) 292 w/\uH (b-49) n c=d
def XE(i:Nat)(u:Í)(d:List UInt8)(a:Ĉ)(w:Í):Prop:=
 ∃(n b:Nat) (c:List UInt8),EJ i n b a/\n<16/\50<=b/\b+c.length=65/\e9 (λk=>k=i) u w/\fh i (zc b c) 292 w/\pn n::c=d
def Mg(a:Ĉ)(_:Í):Nat:=match a.tmps.getD 1 ĸ with
 |Å _ i=>i.toNat
 |_=>0
def aaC(b:EJ i n j y):Mg y w=n:=by obtain⟨u,rfl⟩:=b;show(n:Int).toNat=_;simp
theorem aoZ{h:List UInt8}(a:Ĉ)(w:Í)(o:XI i u h a w): à À Mf (Exit.then (λb c=>XI i u h b c/\Mg b c<Mg a w)<|QE 0<|XE i u h) a w:=by
 let⟨n,b,f,l,p,r,s,t,m,e,d⟩:=o;rw[aaC l];obtain⟨c,rfl⟩:=l;obtain⟨j,rfl⟩:∃j,b=j+1:=⟨b-1,Z⟩;have x:j+1-49=(j-49)+1:=Z
 rw[x]at d s;unfold uH at d;by_cases g:n<16
 .rw[if_pos g]at d;exact aoX c n (j+1) g λa q=>⟨n,j+1,f,q,g,p,r,m,e,d⟩
 .rw[if_neg g]at d;have y:50<=j:=by
   grind
  have C:(zc (j+1) f).length=65:=by rw[aaA];omega
  obtain⟨v,z⟩:∃v,(zc (j+1) f)[j]?=Â v:=⟨_,Ó Z⟩;have B:n/16<16^(j-49):=by grind
  refine aoY c n j Z t Z v (e.r j v z) (e.C j) λa q=>⟨⟨n/16,j,pn (n%16)::f,q,y,by simp;omega,B,Z,m.fg (e9.I (X:=λk=>k=i) U _<|Ï e.G),?_,d⟩,by rw[aaC q];omega⟩;have:=e.fX j<|Å ū (pn<|n%16).toNat;grind [aaB]
end
def ao0:û=(zc 65 []).toArray:=fu
def ny(n:Nat):ByteArray:=⟨(uH 16 n []).toArray⟩
theorem ao1(n:Nat)(l:n<18446744073709551616)(o:qc w):Ò À 190 #[Æ Á 0 0,Å ã n,Å É 16,õ Ë,õ Ë] w λe p=>e=Ç (ë #[Æ Á 0 0,Ä<|ny n])/\e9 ff w p:=by
 have L:∀a,EJ w.heap.size n (65:Nat) a->à À (ń Mf) (QE 0<|XE w.heap.size (w.alloc<|Û û 292)<|uH 16 n []) a (w.alloc<|Û û 292):=λa r=>
  Γ (XI w.heap.size (w.alloc<|Û û 292)<|uH 16 n []) Mg ⟨n,65,[],r,Z,U,by show n<16^16;omega,l,e9.fU _ _,by rw[ao0];exact fh.N w (zc 65 []) 292,U⟩ aoZ
 have H:=fe<|Ê o L;unfold ny;generalize uH 16 n []=res at*;go_enter Tryz.func190,Tryz.ntmps190;go_wp2_with (first
  |(go_at_call 200;refine aoW.mono ?_;rintro e b ⟨rfl,c⟩;subst b)
  |(go_at_call 201;refine(tz (H.out.1.r kp)).mono ?_;rintro e b ⟨rfl,c⟩;subst b))
 refine İ (Q:=QE 0<|XE w.heap.size (w.alloc<|Û û 292) res) ?_ (H.out.2 _ (gk _));rintro(_|_|_|_|_|_) a v hq;all_goals first|exact absurd hq id|skip
 obtain⟨rfl,m,i,c,s,E,F,G,x,b,d⟩:=hq;obtain⟨u,rfl⟩:=s;unfold EI;obtain⟨j,rfl⟩:∃j,i=j+1:=⟨i-1,Z⟩;have I:(zc (j+1) c).length=65:=by rw[aaA];omega
 obtain⟨z,y⟩:∃z,(zc (j+1) c)[j]?=Â z:=⟨_,Ó Z⟩;have J:=b.r j z y;have K:=b.C j;have M:(0:Int)<=(j:Int):=Z
 have N:(j:Int)<65:=Z
 have O:(j:Int)<=65:=Z
 have S:(0:Int)<=(m:Int):=Z
 have T:(m:Int)<36:=Z
 have f:m<36:=Z
 have V:(⟨#[48,49,50,51,52,53,54,55,56,57,97,98,99,100,101,102,103,104,105,106,107,108,109,110,111,112,113,114,115,116,117,118,119,120,121,122]⟩:ByteArray)[m]'f=pn m:=by unfold pn;rw[dif_pos f]
 have B:=(e9.gJ ff w û 292).C x λi C q=>by omega
 have g:=b.fX j<|Å ū (pn m).toNat;rw[aaB,d]at g;have D:e9 ff w (v.setCell ⟨w.heap.size,j,Á⟩<|Å ū (pn m).toNat):=B.C (e9.I (X:=λk=>k=w.heap.size) U _<|Ï b.G) λi C q=>by omega
 have W:res.length=65-j:=by rw[<-d];simp;omega
 have Y:(convert 107 9<|Æ (Â ⟨w.heap.size,j,Á⟩) (65-j)<|65-j).run À (v.setCell ⟨w.heap.size,j,Á⟩<|Å ū (pn m).toNat)=.ok (Ä ⟨res.toArray⟩) (v.setCell ⟨w.heap.size,j,Á⟩<|Å ū (pn m).toNat):=by have h:=run_convert_bytes_back (P:=À) (v.setCell ⟨w.heap.size,j,Á⟩<|Å ū (pn m).toNat) 107 9 5 ⟨w.heap.size,j,Á⟩ (65-j) res fu fu fu (λt k=>by rw[Addr.add_mid];apply g.r (j+t) _;unfold zc;rw[ġ fj];simp[Ø,Ó k]);grind
 have k:=fe D;go_wp2;go_ret2;simp_all
def ao2(n:Nat)(b:n<18446744073709551616)(c:qc w):Ò À 172 #[Å ã n,Å É 16] w λe a=>e=Ç (Ä<|ny n)/\e9 ff w a:=by go_enter Tryz.func172,Tryz.ntmps172;go_wp2_with (go_at_call 190;refine(ao1 n b c).mono ?_;rintro e a ⟨rfl,d⟩);go_ret;exact⟨U,d⟩
def ao3(n:Nat)(b:n<18446744073709551616)(c:qc w):Ò À 157 #[Å ã n,Å É 16] w λe a=>e=Ç (Ä<|ny n)/\e9 ff w a:=by go_enter Tryz.func157,Tryz.ntmps157;go_wp2_with (go_at_call 172;refine(ao2 n b c).mono ?_;rintro e a ⟨rfl,d⟩);go_ret;exact⟨U,d⟩
def ao4(s:ByteArray)(w:Í)(h:s.data.toList.head?=Â 48):Ò À 175 #[Ä s,Ä ⟨#[48]⟩] w λe b=>e=Ç (õ Î)/\b=w:=by
 have H:=Tryz.strings_HasPrefix s ⟨#[48]⟩ w;have e:ź s.data.toList (Ű ⟨#[48]⟩).toList=Î:=by
  generalize s.data.toList=l at h;cases l with
  |nil=>cases h
  |cons a r=>cases h;rfl
 rwa[e]at H
def ao5(s:ByteArray)(w:Í)(h:¬s.data.toList.head?=Â 48):Ò À 175 #[Ä s,Ä ⟨#[48]⟩] w λe b=>e=Ç (õ Ë)/\b=w:=by
 have H:=Tryz.strings_HasPrefix s ⟨#[48]⟩ w;have e:ź s.data.toList (Ű ⟨#[48]⟩).toList=Ë:=by
  generalize s.data.toList=l at h;cases l with
  |nil=>rfl
  |cons a r=>
   have c:¬a=48:=λq=>h (by rw[q];rfl);show((48:UInt8)==a&&List.isPrefixOf [] r)=Ë;have:((48:UInt8)==a)=Ë:=beq_eq_false_iff_ne.2 λq=>c q.symm;rw[this];rfl
 rwa[e]at H
def zE(k:Nat):ByteArray:=σ ⟨#[48,48,48,48,48,48,48,48,48,48,48,48,48,48,48,48,48,48,48,48,48,48,48,48,48,48,48,48,48,48,48,48,48,48,48,48,48,48,48,48,48,48,48,48,48,48,48,48,48,48,48,48,48,48,48,48,48,48,48,48,48,48,48,48]⟩ 0 k
def ao6(k:Nat)(d:2<=k)(f:k<=64):Ò À 160 #[Ä ⟨#[48]⟩,Å É k] w λe a=>e=Ç (Ä<|zE k)/\a=w:=by
 have g:((k:Int)==0)=Ë:=by simp;omega
 have h:((k:Int)==1)=Ë:=by simp;omega
 have i:¬(k:Int)<0:=Z
 have j:(0:Int)<=(k:Int):=Z
 have l:(k:Int)<=64:=Z
 have m:ã.wrap (k:Int)=(k:Int):=by rw[Ć];omega
 have n:É.wrap (k:Int)=(k:Int):=by rw[ŝ];omega
 have M:=Tryz.bits_Mul 1 k A Z w;rw[show 1*k/18446744073709551616=0 by omega,show 1*k%18446744073709551616=k by omega]at M;have c:=fe M;go_enter Œ,Ŋ;go_wp2_with (first
  |(go_at_call 174;refine c.out.mono ?_;rintro e a ⟨rfl,b⟩;subst a)
  |(go_at_call 175;refine(ao5 _ _ A).mono ?_;rintro e a ⟨rfl,b⟩;subst a)
  |(go_at_call 175;refine(ao4 _ _ A).mono ?_;rintro e a ⟨rfl,b⟩;subst a))
 go_ret;exact⟨U,U⟩
def ao7:Ò À 160 #[Ä ⟨#[48]⟩,Å É 0] w λe a=>e=Ç (Ä ⟨#[]⟩)/\a=w:=by go_enter Œ,Ŋ;go_wp2;go_ret;exact⟨U,U⟩
def ao8:Ò À 160 #[Ä ⟨#[48]⟩,Å É 1] w λe a=>e=Ç (Ä ⟨#[48]⟩)/\a=w:=by go_enter Œ,Ŋ;go_wp2;go_ret;exact⟨U,U⟩
def ao9(k:Nat)(a:k<=64):Ò À 160 #[Ä ⟨#[48]⟩,Å É k] w λe b=>e=Ç (Ä<|zE k)/\b=w:=by
 match k with
 |0=>exact ao7
 |1=>exact ao8
 |k+2=>exact ao6 (k+2) Z a
def Mh(n:Nat):ByteArray:=zE (16-(ny n).size)++ny n
def aaD(n:Nat):(ny n).size<=16:=by show(uH 16 n []).toArray.size<=16;have:=aaz 16 n [];simpa using this
def aaE(k:Nat):(zE k).size<=k:=by unfold zE;rw[č];omega
def apa(n:Nat)(c:n<18446744073709551616)(d:qc w):Ò À 121 #[Å ã n] w λe a=>e=Ç (Ä<|Mh n)/\e9 ff w a:=by
 have g:=aaD n;have h:=aaE<|16-(ny n).size;have T:=ao3 n c d;have R:∀W:Í,Ò À 160 #[Ä ⟨#[48]⟩,Å É ((16-(ny n).size:Nat):Int)] W λe a=>e=Ç (Ä<|zE<|16-(ny n).size)/\a=W:=λW=>ao9 _ Z;have i:É.wrap ((16:Int)-((ny n).size:Int))=((16-(ny n).size:Nat):Int):=by rw[ŝ];omega
 have j:(16:Int)-((ny n).size:Int)=((16-(ny n).size:Nat):Int):=Z
 have l:¬9223372036854775807<(zE<|16-(ny n).size).size+(ny n).size:=Z
 unfold Mh;have H:=fe<|Ê T R;generalize m:zE (16-(ny n).size)=zs at*;generalize o:16-(ny n).size=k at*;generalize ny n=fs at*;go_enter Tryz.func121,Tryz.ntmps121;go_wp2_with (first
  |(go_at_call 157;refine H.out.1.mono ?_;rintro e p ⟨rfl,b⟩;have f:=fe b;clear b)
  |(go_at_call 160;refine(H.out.2 _).mono ?_;rintro e b ⟨rfl,p⟩;subst b))
 go_ret;exact⟨U,f.out⟩
structure po(r:Nat)(x y g k:Nat)(kind v v2:Int)(slot:Nat)(w:Í):Prop where
 I:w.cell? ⟨r,0,Á⟩=Â (Å É x)
 S:w.cell? ⟨r,1,Á⟩=Â (Å É y)
 a:w.cell? ⟨r,2,Á⟩=Â (Å É g)
 Y:w.cell? ⟨r,3,Á⟩=Â (Å É k)
 N:w.cell? ⟨r,4,Á⟩=Â (Å É kind)
 M:w.cell? ⟨r,5,Á⟩=Â (Å É v)
 c:w.cell? ⟨r,6,Á⟩=Â (Å É v2)
 b:w.cell? ⟨r,7,Á⟩=Â (Å É slot)
def ie.N(h:ie u v vX W)(k:e9 ff w u):ie w v vX W:=by
 refine⟨⟨h.fp.1,?_⟩,k.fg h.r⟩;rcases h.fp.2 with q|⟨g,a,b,c,d,q⟩
 .exact È q
 .exact Ï ⟨g,a,b,c,Ì k.M d,q⟩
section
variable{cp r x y g slot:Nat}{v v2:Int}
def po.C{w:Í}(h:po r x y g k c v v2 slot w)(q:e9 ff w u):po r x y g k c v v2 slot u:= ⟨q.r h.I id,q.r h.S id,q.r h.a id,q.r h.Y id,q.r h.N id,q.r h.M id,q.r h.c id,q.r h.b id⟩
def apb(F:Ò À 113 #[Æ O n cp,Å É v] w λe b=>e=Ç (jS<|Â i)/\e9 ff w b)(h:po r x y g k 2 v v2 slot w)(p:x<8)(q:slot<16)(z:Nat)(j:w.cell? ⟨i,x*18+2+slot,Á⟩=Â (Å ã z)) (C:∀W,e9 ff w W->Ò À 118 #[Å ã z] W λe b=>e=Ç (Ä B)/\e9 ff W b): Ò À 67 #[Æ O n cp,Ã<|Â ⟨r,0,Á⟩] w λe b=>e=Ç (Ä B)/\e9 ff w b:=by
 have s:=h.M;have m:=h.N;have t:(0:Int)<=(x:Int):=Z
 have u:(x:Int)<8:=Z
 have D:(0:Int)<=(slot:Int):=Z
 have E:(slot:Int)<16:=Z
 have H:=fe<|Ê F C;have d:=fe h;clear F C h;go_enter ó,í;go_wp2_with (go_at_call 113;apply H.out.1.mono;rintro e f ⟨rfl,c⟩;dsimp only[jS,ð];have l:=c.r m id;have a:=fe c;clear c);refine mf (λb=>b.cell? ⟨r,0,Á⟩=Â (Å É x)/\b.cell? ⟨r,7,Á⟩=Â (Å É slot)/\b.cell? ⟨i,x*18+2+slot,Á⟩=Â (Å ã z)) [] fu ?_;have o:=fe<|Ê ((d.out.C a.out).C<|e9.fS ff _).I<|Ê ((d.out.C a.out).C<|e9.fS ff _).b<|(a.out.fg<|e9.fS _ _).r j id;iterate 17 apply tk o.out
 apply gC 17;intro K f;go_simp;go_at_call 118;refine(H.out.2 _<|a.out.fg<|e9.fS _ _).mono ?_;rintro e G ⟨rfl,l⟩;have c:=fe l;clear l;dsimp only;apply f.out _ _ λ_=>⟨(d.out.C<|(a.out.fg<|e9.fS _ _).fg c.out).I,(d.out.C<|(a.out.fg<|e9.fS _ _).fg c.out).b,(((a.out.fg<|e9.fS _ _).fg c.out).r j id)⟩;clear f K;apply gC 18;intro K f;go_simp;apply f.out _ _ λ_=>⟨(d.out.C<|(a.out.fg<|e9.fS _ _).fg c.out).I,(d.out.C<|(a.out.fg<|e9.fS _ _).fg c.out).b,(((a.out.fg<|e9.fS _ _).fg c.out).r j id)⟩;clear f K;try simp only[Act.put,é,ý,þ]
 refine lR fu ?_ _;go_wp2_with fail;go_ret;exact⟨U,(a.out.fg<|e9.fS _ _).fg c.out⟩
def apc(F:Ò À 113 #[Æ O n cp,Å É v] w λe a=>e=Ç (jS<|Â i)/\e9 ff w a)(f:po r x y g k 3 v v2 slot w)(p:x<8)(z:Nat)(h:w.cell? ⟨i,x*18,Á⟩=Â (Å ã z)) (C:∀W,e9 ff w W->Ò À 118 #[Å ã z] W λe a=>e=Ç (Ä B)/\e9 ff W a): Ò À 67 #[Æ O n cp,Ã<|Â ⟨r,0,Á⟩] w λe a=>e=Ç (Ä B)/\e9 ff w a:=by
 have q:=f.M;have m:=f.N;have s:(0:Int)<=(x:Int):=Z
 have t:(x:Int)<8:=Z
 have H:=fe<|Ê F C;have j:=fe f;clear F C f;go_enter ó,í;go_wp2_with (go_at_call 113;apply H.out.1.mono;rintro e d ⟨rfl,c⟩;dsimp only[jS,ð];have l:=c.r m id;have b:=fe c;clear c);refine mf (λa=>a.cell? ⟨r,0,Á⟩=Â (Å É x)/\a.cell? ⟨i,x*18,Á⟩=Â (Å ã z)) [] fu ?_;have o:=fe<|Ê ((j.out.C b.out).C<|e9.fS ff _).I<|(b.out.fg<|e9.fS _ _).r h id;iterate 12 apply tk o.out
 apply gC 12;intro K c;go_simp;go_at_call 118;refine(H.out.2 _<|b.out.fg<|e9.fS _ _).mono ?_;rintro e u ⟨rfl,l⟩;have d:=fe l;clear l;dsimp only;apply c.out _ _ λ_=>⟨(j.out.C<|(b.out.fg<|e9.fS _ _).fg d.out).I,(((b.out.fg<|e9.fS _ _).fg d.out).r h id)⟩;clear c K;apply gC 13;intro K c;go_simp;apply c.out _ _ λ_=>⟨(j.out.C<|(b.out.fg<|e9.fS _ _).fg d.out).I,(((b.out.fg<|e9.fS _ _).fg d.out).r h id)⟩;clear c K;try simp only[Act.put,é,ý,þ]
 refine lR fu ?_ _;go_wp2_with fail;go_ret;exact⟨U,(b.out.fg<|e9.fS _ _).fg d.out⟩
def apd(F:Ò À 113 #[Æ O n cp,Å É v] w λe c=>e=Ç (jS<|Â i)/\e9 ff w c)(h:po r x y g k 4 v v2 slot w)(o:g<=400)(p:k<18446744073709551616) (C:∀W,e9 ff w W->Ò À 119 #[Ã<|Â ⟨i,0,Á⟩,Å É x,Å É y,Å ã g,Å ã k] W λe c=>e=Ç (Ä B)/\e9 ff W c): Ò À 67 #[Æ O n cp,Ã<|Â ⟨r,0,Á⟩] w λe c=>e=Ç (Ä B)/\e9 ff w c:=by
 have q:=h.M;have l:=h.N;have s:ã.wrap (k:Int)=(k:Int):=by rw[Ć];omega
 have t:ã.wrap (g:Int)=(g:Int):=by rw[Ć];omega
 have u:¬(400:Int)<(g:Int):=Z
 have z:(g:Int)<=400:=Z
 have H:=fe<|Ê F C;have b:=fe h;clear F C h;go_enter ó,í;go_wp2_with (go_at_call 113;apply H.out.1.mono;rintro e f ⟨rfl,d⟩;dsimp only[jS,ð];have j:=d.r l id;have m:=d.r b.out.a id;have a:=fe d;clear d);refine mf (λc=>c.cell? ⟨r,0,Á⟩=Â (Å É x)/\c.cell? ⟨r,1,Á⟩=Â (Å É y)/\c.cell? ⟨r,2,Á⟩=Â (Å É g)/\c.cell? ⟨r,3,Á⟩=Â (Å É k)) [] fu ?_;have m:=fe<|Ê ((b.out.C a.out).C<|e9.fS ff _).I<|Ê ((b.out.C a.out).C<|e9.fS ff _).S<|Ê ((b.out.C a.out).C<|e9.fS ff _).a ((b.out.C a.out).C<|e9.fS ff _).Y;iterate 23 apply tk m.out
 apply gC 23;intro K f;go_simp;go_at_call 119;refine(H.out.2 _<|a.out.fg<|e9.fS _ _).mono ?_;rintro e D ⟨rfl,j⟩;have d:=fe j;clear j;dsimp only;apply f.out _ _ λ_=>⟨(b.out.C<|(a.out.fg<|e9.fS _ _).fg d.out).I,(b.out.C<|(a.out.fg<|e9.fS _ _).fg d.out).S,(b.out.C<|(a.out.fg<|e9.fS _ _).fg d.out).a,(b.out.C<|(a.out.fg<|e9.fS _ _).fg d.out).Y⟩;clear f K;apply gC 24;intro K f;go_simp;apply f.out _ _ λ_=>⟨(b.out.C<|(a.out.fg<|e9.fS _ _).fg d.out).I,(b.out.C<|(a.out.fg<|e9.fS _ _).fg d.out).S,(b.out.C<|(a.out.fg<|e9.fS _ _).fg d.out).a,(b.out.C<|(a.out.fg<|e9.fS _ _).fg d.out).Y⟩;clear f K;try simp only[Act.put,é,ý,þ]
 refine lR fu ?_ _;go_wp2_with fail;go_ret;exact⟨U,(a.out.fg<|e9.fS _ _).fg d.out⟩
def ape(F:Ò À 113 #[Æ O n cp,Å É v] w λe b=>e=Ç (jS<|Â i)/\e9 ff w b)(h:po r x y g k 5 v v2 slot w)(o:k<18446744073709551616) (C:∀W,e9 ff w W->Ò À 120 #[Ã<|Â ⟨i,0,Á⟩,Å É x,Å É y,Å ã k] W λe b=>e=Ç (Ä B)/\e9 ff W b): Ò À 67 #[Æ O n cp,Ã<|Â ⟨r,0,Á⟩] w λe b=>e=Ç (Ä B)/\e9 ff w b:=by
 have p:=h.M;have l:=h.N;have q:ã.wrap (k:Int)=(k:Int):=by rw[Ć];omega
 have H:=fe<|Ê F C;have c:=fe h;clear F C h;go_enter ó,í;go_wp2_with (go_at_call 113;apply H.out.1.mono;rintro e f ⟨rfl,d⟩;dsimp only[jS,ð];have j:=d.r l id;have a:=fe d;clear d);refine mf (λb=>b.cell? ⟨r,0,Á⟩=Â (Å É x)/\b.cell? ⟨r,1,Á⟩=Â (Å É y)/\b.cell? ⟨r,3,Á⟩=Â (Å É k)) [] fu ?_;have m:=fe<|Ê ((c.out.C a.out).C<|e9.fS ff _).I<|Ê ((c.out.C a.out).C<|e9.fS ff _).S ((c.out.C a.out).C<|e9.fS ff _).Y;iterate 17 apply tk m.out
 apply gC 17;intro K f;go_simp;go_at_call 120;refine(H.out.2 _<|a.out.fg<|e9.fS _ _).mono ?_;rintro e s ⟨rfl,j⟩;have d:=fe j;clear j;dsimp only;apply f.out _ _ λ_=>⟨(c.out.C<|(a.out.fg<|e9.fS _ _).fg d.out).I,(c.out.C<|(a.out.fg<|e9.fS _ _).fg d.out).S,(c.out.C<|(a.out.fg<|e9.fS _ _).fg d.out).Y⟩;clear f K;apply gC 18;intro K f;go_simp;apply f.out _ _ λ_=>⟨(c.out.C<|(a.out.fg<|e9.fS _ _).fg d.out).I,(c.out.C<|(a.out.fg<|e9.fS _ _).fg d.out).S,(c.out.C<|(a.out.fg<|e9.fS _ _).fg d.out).Y⟩;clear f K;try simp only[Act.put,é,ý,þ]
 refine lR fu ?_ _;go_wp2_with fail;go_ret;exact⟨U,(a.out.fg<|e9.fS _ _).fg d.out⟩
def apf(F:Ò À 113 #[Æ O n cp,Å É v] w λe a=>e=Ç (jS<|Â i)/\e9 ff w a)(b:po r x y g k 6 v v2 slot w)(z:Nat)(C:∀W,e9 ff w W->Ò À 122 #[Ã<|Â ⟨i,0,Á⟩] W λe a=>e=Ç (Å ã z)/\e9 ff W a)(d:∀W,e9 ff w W->Ò À 121 #[Å ã z] W λe a=>e=Ç (Ä B)/\e9 ff W a): Ò À 67 #[Æ O n cp,Ã<|Â ⟨r,0,Á⟩] w λe a=>e=Ç (Ä B)/\e9 ff w a:=by
 have m:=b.M;have j:=b.N;have l:=fe d;clear d;have H:=fe<|Ê F C;have o:=fe b;clear F C b;go_enter ó,í;go_wp2_with (first
  |(go_at_call 113;refine H.out.1.mono ?_;rintro e h ⟨rfl,c⟩;dsimp only[jS,ð];have p:=c.r j id;have f:=fe c;clear c)
  |(go_at_call 122;refine(H.out.2 _ f.out).mono ?_;rintro e p ⟨rfl,c⟩;have h:=fe<|f.out.fg c;clear c)
  |(go_at_call 121;refine(l.out _ h.out).mono ?_;rintro e p ⟨rfl,c⟩;have f:=fe (h.out.fg c);clear c))
 go_ret;exact⟨U,f.out⟩
def apg(F:Ò À 113 #[Æ O n cp,Å É v] w λe b=>e=Ç (jS<|Â i)/\e9 ff w b)(d:po r x y g k 7 v v2 slot w)(l:Option ù)(o p:Nat)(u:w.cell? ⟨i,144,Á⟩=Â (Æ l o p))(f:List ByteArray)(C:∀W,e9 ff w W->Ò À 124 #[Æ l o p] W λe b=>∃j,e=Ç j/\ie W j f b)(q:∀W a m c,ie w (Æ a m c) f W->Ò À 123 #[Æ a m c] W λe b=>e=Ç (Ä B)/\e9 ff W b): Ò À 67 #[Æ O n cp,Ã<|Â ⟨r,0,Á⟩] w λe b=>e=Ç (Ä B)/\e9 ff w b:=by
 have J:=d.M;have z:=d.N;have D:=fe q;clear q;have H:=fe<|Ê F C;have K:=fe d;clear F C d;go_enter ó,í;go_wp2_with (first
  |(go_at_call 113;refine H.out.1.mono ?_;rintro e t ⟨rfl,h⟩;dsimp only[jS,ð];have E:=h.r z id;have G:=h.r u id;have s:=fe h;clear h)
  |(go_at_call 124;refine(H.out.2 _ s.out).mono ?_;rintro e E ⟨j,rfl,h⟩;obtain⟨G,I,rfl⟩:=jg h.fp;generalize f.length=tn at h|-;have t:=fe (show ie w (Æ G tn I) f E from h.N s.out);clear h)
  |(go_at_call 123;refine(D.out _ _ _ _ t.out).mono ?_;rintro e E ⟨rfl,h⟩;have s:=fe (t.out.r.fg h);clear h))
 go_ret;exact⟨U,s.out⟩
def aph(F:Ò À 113 #[Æ O n cp,Å É v] w λe b=>e=Ç (jS<|Â i)/\e9 ff w b)(d:po r x y g k 8 v v2 slot w)(l:Option ù)(o p:Nat)(u:w.cell? ⟨i,146,Á⟩=Â (Æ l o p))(f:List ByteArray)(C:∀W,e9 ff w W->Ò À 125 #[Æ l o p] W λe b=>∃j,e=Ç j/\ie W j f b)(q:∀W a m c,ie w (Æ a m c) f W->Ò À 123 #[Æ a m c] W λe b=>e=Ç (Ä B)/\e9 ff W b): Ò À 67 #[Æ O n cp,Ã<|Â ⟨r,0,Á⟩] w λe b=>e=Ç (Ä B)/\e9 ff w b:=by
 have J:=d.M;have z:=d.N;have D:=fe q;clear q;have H:=fe<|Ê F C;have K:=fe d;clear F C d;go_enter ó,í;go_wp2_with (first
  |(go_at_call 113;refine H.out.1.mono ?_;rintro e t ⟨rfl,h⟩;dsimp only[jS,ð];have E:=h.r z id;have G:=h.r u id;have s:=fe h;clear h)
  |(go_at_call 125;refine(H.out.2 _ s.out).mono ?_;rintro e E ⟨j,rfl,h⟩;obtain⟨G,I,rfl⟩:=jg h.fp;generalize f.length=tn at h|-;have t:=fe (show ie w (Æ G tn I) f E from h.N s.out);clear h)
  |(go_at_call 123;refine(D.out _ _ _ _ t.out).mono ?_;rintro e E ⟨rfl,h⟩;have s:=fe (t.out.r.fg h);clear h))
 go_ret;exact⟨U,s.out⟩
def apj(F:Ò À 113 #[Æ O n cp,Å É v] w λe c=>e=Ç (jS<|Â i)/\e9 ff w c)(a:po r x y g k 4 v v2 slot w)(j:400<g)(C:B=nI 6): Ò À 67 #[Æ O n cp,Ã<|Â ⟨r,0,Á⟩] w λe c=>e=Ç (Ä B)/\e9 ff w c:=by
 have l:=a.M;have d:=a.N;have m:(400:Int)<(g:Int):=Z
 have H:=fe<|Ê F C;have f:=fe a;clear F C a;go_enter ó,í;go_wp2_with (first
  |(go_at_call 113;refine H.out.1.mono ?_;rintro e o ⟨rfl,b⟩;dsimp only[jS,ð];have p:=b.r d id;have q:=b.r f.out.a id;have h:=fe b;clear b)
  |(go_at_call 114;refine(Ek 6 A _).mono ?_;rintro e b ⟨rfl,o⟩;subst b))
 go_ret;exact⟨by rw[H.out.2];rfl,h.out⟩
def apk(F:Ò À 113 #[Æ O n cp,Å É v] w λe a=>e=Ç (jS<|Â i)/\e9 ff w a)(b:po r x y g k 9 v v2 slot w)(C:B=nI 3)(d:∀W,e9 ff w W->Ò À 113 #[Æ O n cp,Å É v2] W λe a=>e=Ç (jS Á)/\e9 ff W a): Ò À 67 #[Æ O n cp,Ã<|Â ⟨r,0,Á⟩] w λe a=>e=Ç (Ä B)/\e9 ff w a:=by
 have p:=b.M;have j:=b.N;have l:=fe d;clear d;have H:=fe<|Ê F C;have m:=fe b;clear F C b;go_enter ó,í;go_wp2_with (first
  |(go_at_call 113;with_reducible refine H.out.1.mono ?_;rintro e h ⟨rfl,c⟩;dsimp only[jS,ð];have o:=c.r j id;have q:=c.r m.out.c id;have f:=fe c;clear c)
  |(go_at_call 113;refine(l.out _ f.out).mono ?_;rintro e c ⟨rfl,h⟩;dsimp only[jS,ð];have o:=fe<|f.out.fg h;clear h)
  |(go_at_call 114;refine(Ek 3 A _).mono ?_;rintro e c ⟨rfl,h⟩;subst c))
 go_ret;exact⟨by rw[H.out.2];rfl,o.out⟩
def apl(F:Ò À 113 #[Æ O n cp,Å É v] w λe b=>e=Ç (jS<|Â i)/\e9 ff w b)(f:po r x y g k 9 v v2 slot w)(C:True)(p:∀W,e9 ff w W->Ò À 113 #[Æ O n cp,Å É v2] W λe b=>e=Ç (jS<|Â j)/\e9 ff W b)(l:List ByteArray)(q:∀W,e9 ff w W->Ò À 126 #[Ã<|Â ⟨i,0,Á⟩,Ã<|Â ⟨j,0,Á⟩] W λe b=>∃o,e=Ç o/\ie W o l b)(s:∀W a m c,ie w (Æ a m c) l W->Ò À 123 #[Æ a m c] W λe b=>e=Ç (Ä B)/\e9 ff W b): Ò À 67 #[Æ O n cp,Ã<|Â ⟨r,0,Á⟩] w λe b=>e=Ç (Ä B)/\e9 ff w b:=by
 have L:=f.M;have D:=f.N;have E:=fe p;have t:=fe<|Ê q s;clear p q s;have H:=fe<|Ê F C;have G:=fe f;clear F C f;go_enter ó,í;go_wp2_with (first
  |(go_at_call 113;with_reducible refine H.out.1.mono ?_;rintro e u ⟨rfl,d⟩;dsimp only[jS,ð];have z:=d.r D id;have I:=d.r G.out.c id;have h:=fe d;clear d)
  |(go_at_call 113;refine(E.out _ h.out).mono ?_;rintro e z ⟨rfl,d⟩;dsimp only[jS,ð];have u:=fe (h.out.fg d);clear d))
 apply mf (λb=>True/\True) [] fu;have I:=fe<|Ê trivial trivial;iterate 8 apply tk I.out
 apply gC 8;intro K d;go_simp;go_at_call 126;refine(t.out.1 _<|u.out.fg<|e9.fS _ _).mono ?_;rintro e M ⟨o,rfl,h⟩;obtain⟨N,P,rfl⟩:=jg h.fp;generalize l.length=tn at h|-;have z:=fe<|h.N<|u.out.fg<|e9.fS _ _;clear h;dsimp only;apply d.out _ _ λ_=>⟨trivial,trivial⟩;clear d K;apply gC 9;intro K d;go_simp;go_at_call 123;refine(t.out.2 _ _ _ _ z.out).mono ?_;rintro e Q ⟨rfl,u⟩;have J:=fe<|z.out.r.fg u;clear u;dsimp only;apply d.out _ _ λ_=>⟨trivial,trivial⟩;clear d K;apply gC 10;intro K d;go_simp;apply d.out _ _ λ_=>⟨trivial,trivial⟩;clear d K;try simp only[Act.put,é,ý,þ]
 refine lR fu ?_ _;go_wp2_with fail;go_ret;exact⟨U,J.out⟩
def apm(F:Ò À 113 #[Æ O n cp,Å É v] w λe a=>e=Ç (jS Á)/\e9 ff w a)(b:po r x y g k h v v2 slot w): Ò À 67 #[Æ O n cp,Ã<|Â ⟨r,0,Á⟩] w λe a=>e=Ç (Ä<|nI 3)/\e9 ff w a:=by
 have f:=b.M;have H:=fe F;clear F b;go_enter ó,í;go_wp2_with (first
  |(go_at_call 113;refine H.out.mono ?_;rintro e i ⟨rfl,c⟩;dsimp only[jS,ð];have d:=fe c;clear c)
  |(go_at_call 114;refine(Ek 3 A _).mono ?_;rintro e c ⟨rfl,i⟩;subst c))
 go_ret;exact⟨U,d.out⟩
end
structure Qn where
 x:Nat
 y:Nat
 g:Nat
 k:Nat
 r:Int
 v:Int
 C:Int
 I:Nat
structure Qn.Ok(q:Qn):Prop where
 x:q.x<8
 y:q.y<8
 g:q.g<1000000
 k:q.k<18446744073709551616
 auy:2<=q.r
 auz:q.r<=9
 v:-1<=q.v
 v2:-1<=q.C
 auA:q.I<16
def EK(a:List ByteArray):ByteArray:=if a=[]then⟨#[45]⟩else kE ⟨#[44]⟩ a
def Cb(a:List (Nat×fF))(p:fF)(q:Qn):ByteArray:=
 if q.r=2 then gh ((p.s q.x).C q.I).toNat
 else if q.r=3 then gh (p.s q.x).fq.toNat
 else if q.r=4 then if 400<q.g then nI 6 else TJ (gl p.s [] q.x q.y q.g q.k)
 else if q.r=5 then sW p.s q.x q.y q.k 0 401
 else if q.r=6 then Mh (Ev p.s)
 else if q.r=7 then EK (p.r.map rL)
 else if q.r=8 then EK (p.C.map EB)
 else match mh a q.C with
  |none=>nI 3
  |some b=>EK<|qG p.s b.2.s 8
def qd(a:List (Nat×fF))(q:Qn):ByteArray:=
 match mh a q.v with
 |none=>nI 3
 |some p=>Cb a p.2 q
def TK{M:Nat}(b:∀z∈vX,z.size<=M)(d:M<=100)(f:vX.length<=400000)(h:ie w (Æ O m i) vX W): Ò À 123 #[Æ O m i] W λe g=>e=Ç (Ä<|EK vX)/\e9 ff W g:=by obtain⟨e,g,j⟩:=h.I;have k:=EH vX b;have:M*vX.length<=100*400000:=ű d f;exact aoR g Z j e Z
def apn(s:St):Ev s<18446744073709551616:=by unfold Ev LN;exact Td _ _<|X' λi=>Z' _ _ _
theorem TL{b:ByteArray}(c:B.size<=1)(d:b.size<=1):(B++b).size<=2:=by grind
def aaF(s t:St):∀z∈qG s t 8,z.size<=2:=λz a=>by
 unfold qG at a;obtain⟨i,_,h⟩:=Ş.1 a;unfold zC xF at h;rcases â.1 h with h|h
 .rcases â.1 h with h|h
  .split at h
   .cases h
   .simp at h;subst h;exact TL (xG i)<|æ _
  .split at h
   .cases h
   .simp at h;subst h;exact TL (xG i)<|æ _
 .unfold qF at h;obtain⟨j,_,h⟩:=Ş.1 h;unfold B9 at h;split at h
  .cases h
  .simp at h;subst h;exact TL (xG i)<|aap j
section
variable{cp:Nat}{vs:List (Nat×fF)}{q:Qn}
def apo(u:qa O n vs w)(S:n<=1000)(T:0<n)(hvo:∀p∈vs,To p.2)(d:po i q.x q.y q.g q.k q.r q.v q.C q.I w)(ok:q.Ok)(V:iK w)(o:lH w)(hd:qc w): Ò À 67 #[Æ O n cp,Ã<|Â ⟨i,0,Á⟩] w λe G=>e=Ç (Ä<|qd vs q)/\e9 ff w G:=by
 have F:=LU (cp:=cp) u S T q.v ok.v;unfold qd;cases B:mh vs q.v with
 |none=>
  rw[B]at F;exact apm F d
 |some p=>
  rw[B]at F;have h:=F;have X:=H4 B;have f:=u.M X;have j:=hvo p X;obtain⟨x,y,g,k,kind,v,C,Y⟩:=q;obtain⟨r,H,hg,I,uA,tL,hv,Mi,J⟩:=ok;simp only at r H hg I uA tL hv Mi J d h B|-;obtain⟨cb,_,cs⟩:=f.r.gS r;have F4:fZ (k:Int):=⟨Z,Z⟩;unfold Cb;simp only;split
  .rename_i e;subst e;have c:=cs Y J;have l:=f.C.C x Y;rw[<-ņ l.1]at c;exact apb h d r J _ c λW b=>xE _ (by have:=l.1;have:=l.2;omega) W<|o.r b
  .split
   .rename_i e;subst e;have l:=f.C.fq x;rw[<-ņ l.1]at cb;exact apc h d r _ cb λW b=>xE _ (by have:=l.1;have:=l.2;omega) W<|o.r b
   .split
    .rename_i e;subst e;split
     .rename_i hh;exact apj h d hh U
     .exact apd h d Z I λW b=>aoU (f.r.r b id) f.C (V.r b id) (o.r b) x y g k r H Z Z F4
    .split
     .rename_i e;subst e;exact ape h d I λW b=>aoe (f.r.r b id) f.C (V.r b id) (o.r b) r H F4
     .split
      .rename_i e;subst e;exact apf h d _ (λW b=>anw (f.r.r b id) f.C) λW b=>apa _ (apn _)<|hd.r b
      .split
       .rename_i e;subst e;obtain⟨K,L,M,N⟩:=f.N;exact apg h d K _ L M _ (λW b=>aak U j.I j.C (o.r b)<|nu.C N b) λW a m c t=>TK (λz P=>by obtain⟨e,D,rfl⟩:=Ú.1 P;exact Me (j.C e D).2) Z (by rw[ú];exact j.I) t
       .split
        .rename_i e;subst e;obtain⟨K,L,M,N⟩:=f.S;exact aph h d K _ L M _ (λW b=>aol U j.M j.r (o.r b)<|nu.C N b) λW a m c t=>TK (λz P=>by obtain⟨e,D,rfl⟩:=Ú.1 P;exact aax (j.r e D).1 (j.r e D).2) Z (by rw[ú];have:=j.M;omega) t
        .have e:kind=9:=Z
         subst e;have E:∀W,e9 ff w W->Ò À 113 #[Æ O n cp,Å É C] W λe G=>e=Ç (jS ((mh vs C).map (·.1)))/\e9 ff W G:=λW b=>LU (u.I b) S T C Mi;cases Q:mh vs C with
         |none=>
          rw[Q]at E;exact apk h d U E
         |some p2=>
          rw[Q]at E;exact apl h d trivial E _ (λW b=>aox (f.r.r b id)<|(u.M<|H4 Q).r.r b id) λW a m c t=>TK (aaF _ _) Z (by have:=Tz p.2.s p2.2.s 8;omega) t
end
end Go.Proofs.Y.gP
namespace Go.Proofs.Y.kS
open Go Go.Proofs Go.RowKit Go.Proofs.Y.Lift Go.Proofs.Y.gP
def kn(a:List (Nat×fF)):List fF:=a.map (·.2)
def aaG(d:fF)(l:List fF):fF:=l.foldl (λa b=>if a.h<b.h then b else a) d
theorem aaH:∀(a:List (Nat×fF)) (d:Nat×fF),(sU d a).2=aaG d.2 (kn a)
 |[],_=>rfl
 |x::r,d=>by show(sU (oe d x) r).2=aaG (if d.2.h<x.2.h then x.2 else d.2) (kn r);rw[aaH r];unfold oe;split<;>rfl
theorem TM{a b:List (Nat×fF)}(h:kn a=kn b)(v:Int):(mh a v).map (·.2)=(mh b v).map (·.2):=by
 have c:∀i:Nat,(a[i]?).map (·.2)=(b[i]?).map (·.2):=λi=>by have:=congrArg (λl:List fF=>l[i]?) h;simpa[kn]using this
 unfold mh;grind [aaH]
theorem apq{a b:List (Nat×fF)}(h:kn a=kn b):a.length=b.length:=by have:=congrArg List.length h;simpa[kn]using this
theorem aaI{a b:List (Nat×fF)}(h:kn a=kn b)(v:Int)(x:Nat)(c:List Tx):pg a v x c=pg b v x c:=by have d:=TM h v;unfold pg;grind [apq]
theorem apr{a b:List (Nat×fF)}(h:kn a=kn b)(q:Qn):qd a q=qd b q:=by
 have c:=TM h q.v;have d:=TM h q.C;have e:∀p:fF,Cb a p q=Cb b p q:=λp=>by unfold Cb;grind
 unfold qd;grind
structure kV(s:List fF):Prop where
 I:0<s.length
 C:s.length<=40
 r:∀v∈s,To v/\gE v.s/\0<=v.h/\v.h<s.length
def qH(a:List (Nat×fF))(v:Int)(x:Nat)(b:List Tx):List fF:=kn a++(pg a v x b).1.toList
def kV.M{f:List (Nat×fF)}(h:kV (kn f)){g:List Tx}(k:∀t∈g,t.Ok)(m:g.length<=1000):kV (qH f c i g):=by
 unfold kS.qH;have B:(kn f).length=f.length:=by simp[kn]
 unfold pg;cases n:mh f c with
 |none=>simpa using h
 |some p=>
  have o:p.2∈kn f:=Ú.2 ⟨p,H4 n,U⟩;let⟨C,l,D,E⟩:=h.r _ o;simp only;split
  .simpa using h
  .rename_i F;cases j:sT i p.2.s g with
   |none=>simpa using h
   |some r=>
    simp only[Option.toList];have G:=h.C;have w:gE r.1:=by unfold sT at j;obtain⟨H,y,rfl⟩:=ò.1 j;exact(Tp g k l (λ_ q=>by cases q) (λ_ q=>by cases q) (by simp;omega) (by simp;omega) y).1.r i<|xx _
    refine⟨fj,by simp;omega,λu z=> ?_⟩;rcases â.1 z with q|q
    .let⟨a,b,e,d⟩:=h.r u q;refine⟨a,b,e,?_⟩;rw[Ù];simp;omega
    .simp at q;subst q;refine⟨an2 k l m j,w,by show 0<=p.2.h+1;omega,?_⟩;rw[Ù];show p.2.h+1<_;simp;omega
def iW(Y:ft)(u w:Í):Prop:=∀(i j o:Nat) (v:Ñ),Y i j->u.cell? ⟨i,o,Á⟩=Â v->∃a,w.cell? ⟨j,o,Á⟩=Â a/\fl Y v a
section
variable{Y:ft}
theorem aps{k:IntKind}(h:fl Y (Å k c) v):v=Å k c:=by cases h;rfl
theorem apt(h:fl Y (Ä B) v):v=Ä B:=by cases h;rfl
theorem Mj(h:fl Y (Ã<|Â a) v):∃b,v=Ã (Â b)/\gZ Y a b:=by
 cases h with
 |jM q=>exact⟨_,U,q⟩
def Mk(h:fl Y (Æ O n i) v):∃b,v=Æ b n i/\∀a,O=Â a->∃d,b=Â d/\gZ Y a d:=by
 cases h with
 |nX=>exact⟨Á,U,λa q=>by cases q⟩
 |kH q=>exact⟨_,U,λa e=>by cases e;exact⟨_,U,q⟩⟩
theorem apu(a:kj v=Î)(h:fl Y v x):x=v:=by cases h<;>first|rfl|(simp[kj]at a;done)
theorem zF(h:gZ Y ⟨b,i,Á⟩ a):∃c,a=⟨c,i,Á⟩/\Y b c:=by let⟨d,e,f⟩:=h;let⟨c,g,j⟩:=a;grind
theorem iW.r(a:iW Y u w){k:IntKind}(h:Y i j)(d:u.cell? ⟨i,b,Á⟩=Â (Å k c)):w.cell? ⟨j,b,Á⟩=Â (Å k c):=by let⟨e,f,g⟩:=a i j b _ h d;grind [aps]
theorem iW.C(a:iW Y u w)(h:Y i j)(b:u.cell? ⟨i,n,Á⟩=Â (Ä B)):w.cell? ⟨j,n,Á⟩=Â (Ä B):=by let⟨c,d,e⟩:=a i j n _ h b;grind [apt]
theorem iW.apv(a:iW Y u w)(c:kj v=Î)(h:Y i j)(b:u.cell? ⟨i,n,Á⟩=Â v):w.cell? ⟨j,n,Á⟩=Â v:=by let⟨d,e,f⟩:=a i j n _ h b;grind [apu]
def TN(s:gP.St):∀v∈iq s,(∃n,v=Å ã n)\/∃p,v=Ä p:=λv n=>by
 unfold iq at n;obtain⟨i,_,rfl⟩:=Ú.1 n;unfold pY pX;split
 .exact È ⟨_,U⟩
 .split
  .exact Ï ⟨_,U⟩
  .exact È ⟨_,U⟩
def apw(a:iW Y u w){s:gP.St}(c:Y b i)(d:mg b s h u):mg i s h w:=by
 refine⟨λj v e=> ?_,a.r c d.h⟩;have f:=d.C j v e;rcases TN s v (ç e)with⟨n,rfl⟩|⟨p,rfl⟩
 .exact a.r c f
 .exact a.C c f
def aaJ(a:iW Y u w)(f:Y b i)(g:∀v∈l,kj v=Î)(h:zv ⟨b,j,Á⟩ n l u):zv ⟨i,j,Á⟩ n l w:=by let⟨p,c,k,m⟩:=h;let⟨G,q,r⟩:=a b i j _ f k;obtain⟨s,rfl,t⟩:=Mk r;refine⟨s,c,q,λd x e=> ?_⟩;let⟨H,y,z,B⟩:=m d x e;let⟨I,C,D⟩:=t _ z;obtain⟨E,rfl,F⟩:=zF D;exact⟨E,y,C,a.apv (g x<|ç e) F B⟩
def apx(a:iW Y u w){v:fF}(c:Y b i)(h:rJ b v u):rJ i v w:= ⟨apw a c h.r,h.C,h.I,h.M,aaJ a c (Z6 _) h.N,aaJ a c (I' _) h.S⟩
def vY{α β:Type}{R:Nat->α->β->Prop}:∀(l:List α) (k:Nat),(∀j x,l[j]?=Â x->∃y,R (k+j) x y)->∃a:List β,a.length=l.length/\∀j y,a[j]?=Â y->∃x,l[j]?=Â x/\R (k+j) x y
 |[],_,_=>⟨[],U,λj y h=>by simp at h⟩
 |x::r,k,h=>by
  let⟨y,c⟩:=h 0 x U;obtain⟨a,d,e⟩:=vY r (k+1) λj z b=>by let⟨q,f⟩:=h (j+1) z b;exact⟨q,by rwa[show k+1+j=k+(j+1) by omega]⟩
  refine⟨y::a,by simp[d],λj z b=> ?_⟩;cases j with
  |zero=>cases b;exact⟨x,U,c⟩
  |succ j=>
   let⟨q,f,g⟩:=e j z b;exact⟨q,f,by rwa[show k+(j+1)=k+1+j by omega]⟩
theorem H8(a:iW Y u w){e:List (Nat×fF)}(i:fl Y z jQ)(h:LV z e u):∃c,kn c=kn e/\LV jQ c w:=by
 obtain⟨J,n,k,rfl,l,f⟩:=h;obtain⟨g,rfl,m⟩:=Mk i;let⟨c,o,K⟩:=vY (R:=λj (x y:Nat×fF)=>x.2=y.2/\∃q d,g=Â ⟨q,d,Á⟩/\w.cell? ⟨q,d+j,Á⟩=Â (Ã<|Â ⟨y.1,0,Á⟩)/\rJ y.1 y.2 w) e 0 λj x p=>by let⟨b,v⟩:=x;let⟨q,d,r,s,t⟩:=f.C j b v p;let⟨L,B,C⟩:=m _ r;obtain⟨y,rfl,D⟩:=zF C;let⟨M,E,F⟩:=a q y _ _ D s;obtain⟨N,rfl,G⟩:=Mj F;obtain⟨H,rfl,I⟩:=zF G;exact⟨(H,v),U,y,d,B,by rwa[œ],apx a I t⟩
 refine⟨c,?_,g,n,k,U,l,⟨by rw[o];exact f.r,λj b v q=> ?_⟩⟩
 .refine Ŕ λj=> ?_;unfold kn;grind
 .grind
end
def lh(a:Nat->Prop)(B:Nat):ft:=⟨λi j=>i=j/\a i,B⟩
def apy(a:Nat->Prop)(B:Nat):Bi (lh a B):= ⟨λ_ _ _ h k=>h.1.symm.trans k.1,λ_ _ _ h k=>h.1.trans k.1.symm,λi j h=>by rw[h.1]⟩
def zG{V:Nat->Prop}{B:Nat}(h:∀i,X i->V i):(lh X B).r (lh V B):=⟨λ_ _ q=>⟨q.1,h _ q.2⟩,λ_=>apy V B,U⟩
def kF(B:Nat)(a:Nat->Prop)(w:Í):Prop:=∀b,a b->∃c e d,w.heap[b]?=Â (Û c e d)/\d.2<=c.size/\fR (lh a B) c c/\0<c.size/\Cy c/\e≠304/\e≠305
section
variable{B:Nat}{V:Nat->Prop}
def kF.I(h:kF B X w)(k:kF B V w):kF B (λb=>X b\/V b) w:=by
 rintro b (q|q)
 .let⟨c,e,a,d,f,g,i⟩:=h b q;exact⟨c,e,a,d,f,g.I (zG λ_=>È),i⟩
 .let⟨c,e,a,d,f,g,i⟩:=k b q;exact⟨c,e,a,d,f,g.I (zG λ_=>Ï),i⟩
def kF.C(h:kF B X w)(k:∀b,X b->u.heap[b]?=w.heap[b]?):kF B X u:=λb q=>by let⟨c,e,a,d,f⟩:=h b q;exact⟨c,e,a,by rwa[k b q],f⟩
theorem kF.r(h:kF B X w)(a:X b)(d:w.cell? ⟨b,i,Á⟩=Â v):fl (lh X B) v v:=by let⟨c,e,j,f,_,g,_⟩:=h b a;simp only[ß,f,ö,ì,if_false]at d;rcases g.S i with⟨q,_⟩|⟨x,k,l,m,n⟩;all_goals grind
def Cc(h:fl (lh X B) (Ã<|Â a) v):X a.block:=by
 cases h with
 |jM q=>exact q.1.2
def Cd(h:fl (lh X B) (Æ (Â a) n i) v):X a.block:=by
 cases h with
 |kH q=>exact q.1.2
def apz{Y:ft}(h:kj v=Î):fl Y v v:=by cases v<;>first|exact .mj _|exact .iE _ _|(simp[kj]at h;done)
def pv{Y:ft}(h:∀v∈d.toList,fl Y v v):fR Y d d:=⟨U,λi a _=>h _<|î.2<|ă a⟩
def apA(h:kj v=Î):ya v=Ë:=by
 cases v with
 |int k n=>cases k<;>first|rfl|(simp[kj]at h;done)
 |_=>rfl
def zH(h:∀v∈d.toList,ya v=Ë):Cy d:=λk v a=>h v<|î.2<|ĵ a
def H9(v:Ñ)(i:Nat):Prop:=v.ownBlock=Â i
def Ia(X:Nat->Prop)(g b:Nat)(a c:Ñ)(i:Nat):Prop:=X i\/i=g\/i=b\/H9 a i\/H9 c i
def aaK{G:Í}(a:ma T=Î)(h:sV v T u)(o:∀j,v.ownBlock=Â j->G.heap.size<=j)(p:rB G.heap.size u):∀i,H9 v i->∃c e f,u.heap[i]?=Â (Û c e f)/\f.2<=c.size/\fR (lh V B) c c/\0<c.size/\Cy c/\e≠304/\e≠305:=λi b=>by
 rcases h with rfl|⟨g,n,c,k,rfl,l⟩
 .cases b
 .have e:g=i:=by unfold H9 at b;simpa[Value.ownBlock]using b
  subst e;let⟨r,m⟩:=p g k T (0,0) (o g U) l a;exact⟨k,T,(0,0),l,Ö _,pv λv d=>apz<|m v d,r,zH λv d=>apA<|m v d,(λq=>by rw[q]at a;cases a),(λq=>by rw[q]at a;cases a)⟩
def aaL(h:sV v T u)(a:∀i,H9 v i->V i):fl (lh V B) v v:=by
 rcases h with rfl|⟨g,n,c,b,rfl,d⟩
 .exact .nX _ _
 .exact fl.kH (Y:=lh V B) ⟨⟨U,a g U⟩,U,U⟩ n c
theorem apB{G:Í}(J:kF B X G)(k:e9 ff G u)(K:∀i,X i->i<G.heap.size){l:List (Nat×fF)}{s:gP.St}(o:Tk b s h G u)(r:Ti l b G u m)(L:∀p∈l,X p.1): ∃e,(∀i,X i->e i)/\e m/\kF B e u/\∀i,e i->X i\/G.heap.size<=i:=by
 have t:=k.Y _ λi c T w M y=>by rw[ı M]at y;cases y
 let⟨a,d,N,z,C,D,E⟩:=o.r;refine⟨Ia X m b a d,λi q=>È q,Ï<|È U,?_,?_⟩
 .rintro i (q|rfl|rfl|q|q)
  .let⟨c,e,w,n,x,f,j⟩:=J i q;exact⟨c,e,w,by rwa[k.N i (K i q) id],x,f.I (zG λ_=>È),j⟩
  .let⟨F,n,x,f⟩:=r.r;have H:∀v∈F.toList,v=Ã Á\/∃j,v=Ã (Â ⟨j,0,Á⟩)/\Ia X i b a d j:=λv e=>by
    rcases f v e with q|q|q
    .unfold rK at q;obtain⟨p,I,rfl⟩:=Ú.1 q;exact Ï ⟨_,U,È<|L p I⟩
    .exact Ï ⟨_,q,Ï<|Ï<|È U⟩
    .exact È q
   refine⟨F,136,(0,0),n,Ö _,pv λv e=> ?_,x,zH λv e=> ?_,A,A⟩
   .rcases H v e with rfl|⟨j,rfl,I⟩
    .exact .lJ
    .exact .jM ⟨⟨U,I⟩,U,U⟩
   .rcases H v e with rfl|⟨j,rfl,I⟩<;>rfl
  .have f:∀v∈jh s a++[Å É h,d],fl (lh (Ia X m i a d) B) v v/\ya v=Ë:=λv e=>by
    rw[zr]at e;have I:=aaL (B:=B) (V:=Ia X m i a d) z λj q=>Ï<|Ï<|Ï<|È q;have F:=aaL (B:=B) (V:=Ia X m i a d) C λj q=>Ï<|Ï<|Ï<|Ï q;have H:∀{x:Ñ} {T:Ď},sV x T u->ya x=Ë:=λ{x T} q=>by rcases q with rfl|⟨_,_,_,_,rfl,_⟩<;>rfl
    rcases â.1 e with q|q
    .rcases â.1 q with q|q
     .rcases TN s v q with⟨n,rfl⟩|⟨p,rfl⟩
      .exact⟨.iE _ _,U⟩
      .exact⟨.kq _,U⟩
     .grind
    .simp at q;rcases q with rfl|rfl
     .exact⟨.iE _ _,U⟩
     .grind
   exact⟨_,147,(0,0),N,Ö _,pv λv e=>(f v<|by simpa using e).1,by simp[mC],zH λv e=>(f v<|by simpa using e).2,A,A⟩
  .exact aaK U z D t i q
  .exact aaK U C E t i q
 .rintro i (q|rfl|rfl|q|q)
  .exact È q
  .exact Ï r.C
  .exact Ï o.C
  .exact Ï<|D i q
  .exact Ï<|E i q
def Ml{Y:ft}(h:fl Y v x):fl (lh X B) v v->fl (lh (λj=>∃i,X i/\Y i j) B) x x:=by
 induction h with
 |mj b=>exact λ_=> .mj b
 |iE k n=>exact λ_=> .iE k n
 |kq s=>exact λ_=> .kq s
 |lJ=>exact λ_=> .lJ
 |@jM a a' q=>exact λz=>fl.jM (Y:=lh (λj=>∃i,X i/\Y i j) B) ⟨⟨U,_,Cc z,q.1⟩,U,U⟩
 |nX n c=>exact λ_=> .nX n c
 |@kH a a' q n c=>exact λz=>fl.kH (Y:=lh (λj=>∃i,X i/\Y i j) B) ⟨⟨U,_,Cd z,q.1⟩,U,U⟩ n c
 |uQ=>exact λ_=> .uQ
 |fn f=>exact λ_=> .fn f
 |uR=>exact λ_=> .uR
 |uS=>exact λ_=> .uS
 |uT=>exact λ_=> .uT
 |xW t _ b=>exact λz=> .xW t (b (by cases z with|xW _ y=>exact y))
 |ow f _ b=>exact λz=> .ow U λi c _=>b i (by rwa[f]) c (by cases z with|ow _ y=>exact y i _ _)
 |nD f _ b=>exact λz=> .nD U λi c _=>b i (by rwa[f]) c (by cases z with|nD _ y=>exact y i _ _)
def apC{Y:ft}(h:fl Y v x):ya x=ya v:=by cases h<;>rfl
theorem TO{Y:ft}{r:Nat->Prop}(h:jf Y r u w)(s:kF B X u):kF B (λj=>∃i,X i/\Y i j) w:=by
 rintro j ⟨i,t,x⟩;let⟨c,a,e,F,y,z,C,b,G,H,I⟩:=h.r i j x;let⟨d,J,qk,m,_,D,K,E,n,o⟩:=s i t;rw[z]at m;cases m;have L:=b.C.resolve_right λq=>q.2.1.elim n o;refine⟨a,e,y,C,?_,pv λv f=> ?_,Z,zH λv f=> ?_,n,o⟩
 .grind
 .obtain⟨k,g,rfl⟩:=Ğ f;have l:k<a.size:=by simpa using g
  have:=Ml (b.r k Z l)<|D.C k Z Z;simpa using this
 .obtain⟨k,g,rfl⟩:=Ğ f;have l:k<a.size:=by simpa using g
  have p:=apC<|b.r k Z l;rw[(E k c[k]<|å Z)]at p;simpa using p
def zI{Y:ft}(h:jf Y X u w):iW Y u w:=λi j o v b c=>h.gA (a:=⟨i,o,Á⟩) (a':=⟨j,o,Á⟩) ⟨b,U,U⟩ c
end
end Go.Proofs.Y.kS
namespace Go.Proofs.Y.Lift
open Go
def aaM{α β:Type}{c:α->β->Option (ForInStep β)}{I:β->Prop}(d:∀a b s,I b->c a b=Â s->I s.value): ∀(l:List α) (b r:β),I b->forIn l b c=Â r->I r
 |[],b,r,hi,h=>by simp at h;subst h;exact hi
 |a::l,b,r,hi,h=>by
  rw[List.forIn_cons]at h;cases e:c a b with
  |none=>rw[e]at h;simp at h
  |some s=>
   rw[e]at h;have:=d a b s hi e;cases s with
   |done x=>simp at h;subst h;exact this
   |yield x=>simp at h;exact aaM d l x r this h
def jN.gS(h:jN v):∀x∈v.cells,jN x:=by
 intro x a;cases h with
 |ow h=>
  obtain⟨i,b,rfl⟩:=Array.mem_iff_getElem.1 a;exact h i b
 |nD h=>simp[Ĺ]at a;subst a;exact .nD h
 |_=>simp[Ĺ]at a;subst a;constructor
def ZP(a:Ď->Option ĩ):Prop:=∀t i z,a t=Â i->i.zero=Â z->jN z
def TP(h:∀x∈d,jN x):jN (.agg d):=.ow λ_ a=>h _<|ă a
theorem apD{l:Ď->Option ĩ}(h:ZP l){m:Array Field}(g:ŕ l m=Â zJ)(q:zJ.zero=Â z):jN z:=by
 unfold ŕ at g;simp only[<-Array.forIn_toList]at g;generalize t:(forIn m.toList _ _:Option _)=L at g;cases L with
 |none=>simp at g
 |some r=>
  have u:=aaM (I:=λx=>∀a,x.2.2.2.2.2.2.2.1=Â a->∀v∈a,jN v) ?_ _ _ _ ?_ t
  .have:∃a,r.2.2.2.2.2.2.2.1=Â a/\z=.agg a:=by
    grind [ò]
   obtain⟨a,e,rfl⟩:=this;exact TP<|u a e
  .intro f b s w d;have y:∀(e:Option Ñ) (k:Nat) (x:Option (Array Ñ)),(∀z,e=Â z->jN z)->x=(if k>Ų then Á else do pure ((<-b.2.2.2.2.2.2.2.1)++(<-e).cells))->∀a,x=Â a->∀v∈a,jN v:=by
    intro e k x B C a c v n;subst C;split at c
    .simp at c
    .cases j:b.2.2.2.2.2.2.2.1 with
     |none=>rw[j]at c;simp at c
     |some E=>
      cases o:e with
      |none=>rw[j,o]at c;simp at c
      |some D=>
       rw[j,o]at c;simp at c;subst c;rcases Array.mem_append.1 n with p|p
       .exact w _ j v p
       .exact(B D o).gS v p
   cases e:l f.type with
   |none=>rw[e]at d;simp at d
   |some j=>
    rw[e,ê,ş]at d;have k:=y j.zero (b.2.1+j.size) _ (λz q=>h _ _ _ e q) U;generalize(if b.2.1+j.size>Ų then Á else(do pure ((<-b.2.2.2.2.2.2.2.1)++(<-j.zero).cells):Option (Array Ñ)))=X at d k;generalize(if b.1.size+1<m.size then ";" else "")=Y at d;simp only[bind,pure,Option.bind]at d;repeat' split at d
    all_goals first
     |(simp only[Ô]at d;subst d;exact k)
     |(simp at d;done)
  .intro a c v n;simp at c;subst c;simp at n
def apE{c:Ď->Option ĩ}(h:ZP c){d:TypeDesc}(a:Χ c d=Â zJ)(b:zJ.zero=Â z):jN z:=by
 unfold Χ at a;cases d with
 |struct k=>exact apD h a b
 |array n e=>
  simp only[ê,Ü,ā,Ô]at a;obtain⟨f,v,st,_,rfl⟩:=a;simp only at b;split at b
  .simp at b
  .split at b
   .simp at b;subst b;exact TP fj
   .simp only[ò]at b;obtain⟨j,g,rfl⟩:=b;refine TP λx k=> ?_;simp only[Array.mem_flatten,Array.mem_replicate]at k;obtain⟨l,⟨_,rfl⟩,k⟩:=k;exact(h _ _ _ v g).gS x k
 |pointer e=>
  simp only[ê,Ü,ā]at a;let⟨f,v,a⟩:=a;repeat' split at a
  all_goals first
   |(simp at a;done)
   |(simp only[Ü,Ô]at a;obtain⟨_,_,rfl⟩:=a;simp only[ł,Ô]at b;subst b;constructor)
 |slice e=>
  simp only[ê,Ü,ā,Ô]at a;obtain⟨_,_,_,_,rfl⟩:=a;simp only[ł,Ô]at b;subst b;constructor
 |map k e=>
  simp only[ê,Ü,ā,Ô]at a;obtain⟨_,_,_,_,_,_,_,_,rfl⟩:=a;simp only[ł,Ô]at b;subst b;constructor
 |chan k e=>
  simp only[ê,Ü,ā,Ô]at a;obtain⟨_,_,_,_,rfl⟩:=a;simp only[ł,Ô]at b;subst b;constructor
 |func k e v=>
  simp only[ê,Ü,ā,Ô]at a;obtain⟨_,_,rfl⟩:=a;simp only[ł,Ô]at b;subst b;constructor
 |_=>simp at a
def aaN{T:Tables}(a:∀(t:Nat) (i:ĩ) (z:Ñ),T.types[t]?=Â i->i.zero=Â z->jN z):∀f,ZP<|ţ T f
 |0=>λt i z h=>by simp[ţ]at h
 |f+1=>λt i z h b=>by
  unfold ţ at h;split at h
  .exact a t i z h b
  .simp only[Ü]at h;let⟨d,_,c⟩:=h;exact apE (aaN a f) c b
def apF(a:∀(t:Nat) (i:ĩ) (z:Ñ),P.types[t]?=Â i->i.zero=Â z->jN z):nG P:=λt i z h b=>by
 have h:P.toTables.info? t=Â i:=h;unfold Tables.info? at h;split at h
 .exact a t i z h b
 .exact aaN a _ t i z h b
end Go.Proofs.Y.Lift
namespace Go.Proofs.Y.fv
open Go Go.Conc Go.Proofs.Y.Lift Go.RowKit Go.Conc.Lib Go.ConcR.Gen
open Go.Proofs Go.Proofs.YtgpphkdoanciiaaGreatDoor
def TQ:Ñ->Bool
 |.agg a=>a.toList.all yh
 |v=>yh v
def aaO(h:TQ v=Î):jN v:=by
 cases v with
 |agg b=>exact .ow λi a=>FG<|(ĭ.1 h) _<|î.2<|ă a
 |_=>exact FG h
def aaP:Ñ->Bool
 |ë a=>a.toList.all TQ
 |v=>TQ v
def apG(h:aaP v=Î):jN v:=by
 cases v with
 |tuple b=>exact .nD λi a=>aaO<|(ĭ.1 h) _<|î.2<|ă a
 |_=>exact aaO h
def EL(i:ĩ):Bool:=match i.zero with
 |some z=>aaP z
 |none=>Î
def apH(h:P.types.toList.all EL=Î):nG P:=apF λt i z a b=>by have:=(ĭ.1 h) i<|î.2<|ĵ a;unfold EL at this;rw[b]at this;exact apG this
def yc:nG À:=apH fQ
end Go.Proofs.Y.fv
namespace Go.Proofs.Y.kS
open Go Go.Conc Go.Proofs Go.RowKit Go.Proofs.Y.Lift Go.Proofs.Y.gP Go.Proofs.Y.fv
noncomputable def nB:Nat:=À.globals.size
def pw(a:Nat->Prop)(b:Nat):Prop:=a b\/b=1\/b=2\/b=3\/b=4
def Mm(b:Nat)(e:Ď)(w:Í):Prop:=∃c a,w.heap[b]?=Â (Û c e a)/\a.2<=c.size/\a.2<=16/\0<c.size/\∀v∈c.toList,∃k n,v=Å k n
structure nz(w:Í):Prop where
 fx:nB<=w.heap.size
 M:kF nB (λb=>b=1\/b=2) w
 I:Mm 3 304 w
 C:Mm 4 305 w
 S:gP.lH w
 iY:iK w
 N:qc w
section
variable{V:Nat->Prop}
theorem nz.r{w':Í}(h:nz w)(f:nB<=w'.heap.size)(k:∀b,b=1\/b=2\/b=3\/b=4->w'.heap[b]?=w.heap[b]?):nz w':=by
 have d:∀b o,b=1\/b=2\/b=3\/b=4->w'.cell? ⟨b,o,Á⟩=w.cell? ⟨b,o,Á⟩:=λb o e=>by simp only[ß,k b e]
 refine⟨f,h.M.C λb e=>k b<|e.imp id È,?_,?_,?_,?_,?_⟩
 .let⟨c,i,a,r⟩:=h.I;exact⟨c,i,by rwa[k 3 fj],r⟩
 .let⟨c,i,a,r⟩:=h.C;exact⟨c,i,by rwa[k 4 fj],r⟩
 .have c:=h.S;have i:À.globalNamed "internal/strconv.uint64pow10"=Â 1:=fu
  unfold gP.lH χ ο at*;grind
 .let⟨c,g,a⟩:=h.iY.M;refine⟨⟨c,g,by rwa[k 2 fj]⟩,λi r j=> ?_⟩;rw[d 2 _ fj,d 2 _ fj,d 2 _ fj];exact h.iY.I i r j
 .have:=h.N;unfold qc at*;grind
def aaQ(u:kF nB X w)(x:∀b,X b->lq b=Ë)(g:nz w):Lc (pw X) (pw X) nB w:=by
 have p:∀{a:Nat->Prop} {c:Array Ñ},(∀b,a b->pw X b)->fR (lh a nB) c c->fR (pV (pw X) nB) c c:=λ{a c} hX r=>r.I<|zG hX;refine⟨?_,g.fx⟩;have s:∀b e,(e=304\/e=305)->lq b=Î->Mm b e w->∃c e d,w.heap[b]?=Â (Û c e d)/\d.2<=c.size/\fR (pV (pw X) nB) c c/\(pw X b->0<c.size/\(lq b=Î->(e=304\/e=305)/\d.2<=16)/\(lq b=Ë->Cy c)):=λb e y B h=>by let⟨c,d,f,j,l,m,o⟩:=h;exact⟨c,e,d,f,j,pv λv i=>by obtain⟨k,n,rfl⟩:=o v i;exact .iE _ _,λ_=>⟨m,λ_=>⟨y,l⟩,λq=>by rw[B]at q;cases q⟩⟩
 rintro b (q|q|q|rfl|rfl)
 .let⟨c,e,d,f,j,l,m,o,_⟩:=u b q;exact⟨c,e,d,f,j,p (λ_=>È) l,λ_=>⟨m,λt=>(by rw[x b q]at t;cases t),λ_=>o⟩⟩
 .let⟨c,e,d,f,j,l,m,o,_⟩:=g.M b<|È q;exact⟨c,e,d,f,j,p (λi k=>k.elim (λz=>Ï<|È z) λz=>Ï<|Ï<|È z) l,λ_=>⟨m,λt=>(by rw[q]at t;cases t),λ_=>o⟩⟩
 .let⟨c,e,d,f,j,l,m,o,_⟩:=g.M b<|Ï q;exact⟨c,e,d,f,j,p (λi k=>k.elim (λz=>Ï<|È z) λz=>Ï<|Ï<|È z) l,λ_=>⟨m,λt=>(by rw[q]at t;cases t),λ_=>o⟩⟩
 .exact s 3 304 (È U) U g.I
 .exact s 4 305 (Ï U) U g.C
def py(a:lq b=Ë\/i<16)(h:w.cell? ⟨b,i,Á⟩=Â v):(World.tp (k9 V w) xQ 0).cell? ⟨b,i,Á⟩=Â v:=by
 have j:(World.tp (k9 V w) xQ 0).heap[b]?=(w.heap[b]?).map (pb V b):=D6 b;simp only[ß,j];simp only[ß]at h;cases g:w.heap[b]? with
 |none=>rw[g]at h;cases h
 |some k=>
  rw[g]at h;cases k with
  |cells c e m=>
   simp only[Ă,pb,ö,ì,if_false]at h|-;split
   .rename_i d;split at d
    .split at d
     .rename_i l;cases d;rcases a with a|a
      .rw[l]at a;cases a
      .unfold uz;rw[Array.getElem?_extract];simp;exact⟨by have:=(á.1 h).1;omega,h⟩
     .cases d;exact h
    .cases d;exact h
   .rename_i f;split at f
    .split at f<;>exact absurd U<|f _ _ _
    .exact absurd U<|f _ _ _
  |_=>cases h
def aaR{T:ŷ}(d:kF nB X w)(e:∀b,X b->lq b=Ë):iW (lh X nB) w (World.tp (k9 V w) T 0):=by rintro i j o v ⟨rfl,a⟩ c;exact⟨v,py (È<|e i a) c,d.r a c⟩
end
def RD(s:List fF)(b:Ñ)(a:Nat->Prop)(w:Í):Prop:=∃c,kn c=s/\kV s/\LV b c w/\kF nB a w/\fl (lh a nB) b b
section
variable{V:Nat->Prop}{s:List fF}
def aaS(h:kF nB X w)(k:∀b,X b->u.heap[b]?=w.heap[b]?):iW (lh X nB) w u:=by rintro i j o v ⟨rfl,a⟩ c;exact⟨v,by simp only[ß,k i a];exact c,h.r a c⟩
def RD.r(h:RD s v X w)(k:∀b,X b->u.heap[b]?=w.heap[b]?):RD s v X u:=by let⟨l,d,e,f,a,c⟩:=h;let⟨g,i,j⟩:=H8 (aaS a k) c f;exact⟨g,i.trans d,e,j,a.C k,c⟩
def Ib(r:Nat)(q:Qn)(w:Í):Prop:=po r q.x q.y q.g q.k q.r q.v q.C q.I w
def aaT{Y:ft}(a:iW Y u w){r:Nat}{q:Qn}(b:Y r i)(h:Ib r q u):Ib i q w:= ⟨a.r b h.I,a.r b h.S,a.r b h.a,a.r b h.Y,a.r b h.N,a.r b h.M,a.r b h.c,a.r b h.b⟩
def apI{T:ŷ}(g:nz w):gP.lH (World.tp (k9 V w) T 0):=by
 have a:=g.S;have h:À.globalNamed "internal/strconv.uint64pow10"=Â 1:=fu
 unfold gP.lH χ ο at*;rw[h]at a|-;simp only[ş]at a|-;have i:(World.tp (k9 V w) T 0).heap[1]?=(w.heap[1]?).map (pb V 1):=D6 1;rw[i];cases f:w.heap[1]? with
 |none=>rw[f]at a;cases a
 |some j=>
  rw[f]at a;cases j with
  |cells c e k=>
   simp only[Ă,pb,lq]at a|-;split
   .rename_i b;split at b<;>(simp at b;obtain⟨rfl,_⟩:=b;exact a)
   .rename_i d;split at d
    .exact absurd U<|d _ _ _
    .exact absurd U<|d _ _ _
  |_=>cases a
theorem aaU{T:ŷ}(g:nz w):iK (World.tp (k9 V w) T 0):=by
 let⟨f,h,d⟩:=g.iY.M;refine⟨?_,λi r e=> ?_⟩
 .have a:(World.tp (k9 V w) T 0).heap[2]?=(w.heap[2]?).map (pb V 2):=D6 2;rw[a,d];simp only[Ă,pb,lq];grind
 .let⟨a,b,c⟩:=g.iY.I i r e;exact⟨py (È U) a,py (È U) b,py (È U) c⟩
def apJ{T:ŷ}(g:nz w):qc (World.tp (k9 V w) T 0):=py (Ï A) g.N
theorem EM{T:ŷ}:kh (World.tp (k9 V w) T 0):=λi o h=>ZL (Sh:=V) (w:=w) i o h
theorem apK{l:fc}{q:Qn}{r:Nat}(x:RD s v X l.w)(I:∀b,X b->l.M b)(y:kF nB V l.w)(J:∀b,V b->l.M b)(h:V r)(z:Ib r q l.w)(ok:q.Ok)(g:nz l.w)(K:∀b,b=1\/b=2\/b=3\/b=4->l.M b)(j:∀b,X b\/V b->lq b=Ë)(m:List (Nat×fF))(B:kn m=s): D9 (λg=>xm g=Î) 67 #[v,Ã<|Â ⟨r,0,Á⟩] l (pw λb=>X b\/V b) λe _=>e=Ä (qd m q):=by
 let⟨L,c,d,D,E,o⟩:=x;have t:=E.I y;refine⟨?_,aaQ t j g,?_,?_,λT=> ?_⟩
 .rintro b (q|q);all_goals grind
 .intro b a;unfold xm at a;simp at a;exact Ï a
 .refine pv λe a=> ?_;simp at a;rcases a with rfl|rfl
  .exact o.fN<|zG λi k=>È<|È k
  .exact fl.jM (Y:=pV (pw λb=>X b\/V b) nB) ⟨⟨U,È<|Ï h⟩,U,U⟩
 .have a:=aaR (V:=pw λb=>X b\/V b) (T:=T) t j;obtain⟨F,f,N,n,G,rfl,O,u⟩:=H8 a (o.fN<|zG λi k=>È k) D;have i:n=(kn F).length:=by rw[u.r];simp[kn]
  have P:=d.I;have Q:=d.C;rw[f,c]at i;have C:=apo (cp:=G) u Z Z (λp H=> ?_) (aaT a ⟨U,Ï h⟩ z) ok (aaU g) (apI g)<|apJ g
  .apply C.mono;rintro e S ⟨rfl,k⟩;exact⟨by rw[apr<|f.trans<|c.trans B.symm],k.gS EM⟩
  .have:p.2∈s:=by rw[<-c,<-f];exact Ú.2 ⟨p,H,U⟩
   exact(d.r _ this).1
end
def Ce(r:Nat)(v:Int)(x:Nat)(c:List Tx)(w:Í):Prop:=∃a n d b,B6 r v x a n d w/\BZ a n b w/\lG b=c/\n<=1000
section
variable{V:Nat->Prop}{s:List fF}
def aaV(h:kF nB X w):∀i,X i->i<w.heap.size:=λi a=>by let⟨c,e,d,b,_⟩:=h i a;exact(á.1 b).1
theorem aaW{T:ŷ}(f:lq b=Ë)(h:w.heap[b]?=Â (Û d e xJ))(i:xJ.2<=d.size):∃a,(World.tp (k9 V w) T 0).heap[b]?=Â (Û d e a)/\a.2<=d.size:=by have g:(World.tp (k9 V w) T 0).heap[b]?=(w.heap[b]?).map (pb V b):=D6 b;rw[g,h];simp only[Ă,pb,f,ì,if_false];grind
def apL{T:ŷ}(h:kF nB X w)(d:∀b,X b->lq b=Ë):kF nB X (World.tp (k9 V w) T 0):=λb a=>by let⟨c,e,m,f,g,i⟩:=h b a;let⟨j,k,l⟩:=aaW (V:=V) (T:=T) (d b a) f g;exact⟨c,e,j,k,l,i⟩
def apM{T:ŷ}(k:kF nB X w)(l:∀b,X b->lq b=Ë){r:Nat}{v:Int}{o:List Tx}(p:X r)(h:Ce r v i o w):Ce r v i o (World.tp (k9 V w) T 0):=by
 let⟨E,n,F,G,g,s,H,I⟩:=h;have m:=l r p;refine⟨E,n,F,G,⟨py (È m) g.M,py (È m) g.N,py (È m) g.I⟩,⟨s.r,λj a t q=> ?_⟩,H,I⟩;let⟨tb,J,u,y,d,K⟩:=s.C j a t q;have z:X tb:=by have:=k.r p g.I;rw[u]at this;exact Cd this
 have B:=Cc<|k.r z y;have f:=l a B;let⟨L,P,C⟩:=d.b;let⟨c,e,Q,D,M,_⟩:=k a B;rw[C]at D;cases D;obtain⟨N,O,_⟩:=aaW f C M;exact⟨tb,J,u,py (È<|l tb z) y,⟨⟨L,N,O⟩,py (È f) d.r,py (È f) d.C,py (È f) d.I,py (È f) d.M,py (È f) d.Y,py (È f) d.N⟩,K⟩
def Rg(s:List fF)(v:Ñ)(u:Í):Prop:=∃X,RD s v X u
def Rg.tp{T:ŷ}(h:Rg s v w):Rg s v (World.tp w T n):=by let⟨X,h⟩:=h;exact⟨X,h.r λ_ _=>rfl⟩
def apN{Y:ft}{d:Nat->Prop}(h:qV Y d u w)(a:fl Y v x)(e:Rg s v u):∃c,RD s x c w/\∀b,c b->∃i,Y i b:=by let⟨X,f⟩:=e;have g:RD s v X {u with tape:=w.tape,drawn:=w.drawn}:=f.r λ_ _=>rfl;let⟨t,j,k,l,m,n⟩:=g;let⟨o,p,q⟩:=H8 (zI h) a l;exact⟨_,⟨o,p.trans j,k,q,TO h m,Ml a n⟩,λb ⟨i,_,r⟩=>⟨i,r⟩⟩
theorem apO{l:fc}{r:Nat}{d:List Tx}(hRD:RD s v X l.w)(hU:∀b,X b->l.M b)(N:kF nB V l.w)(hV:∀b,V b->l.M b)(O:V r)(hq:Ce r h m d l.w)(hx:m<8)(y:-1<=h)(TR:∀t∈d,t.Ok)(hn:d.length<=1000)(g:nz l.w)(hG:∀b,b=1\/b=2\/b=3\/b=4->l.M b)(B:∀b,X b\/V b->lq b=Ë)(D:List (Nat×fF))(I:kn D=s): D9 (λg=>xm g=Î) 66 #[v,Ã<|Â ⟨r,0,Á⟩] l (pw λb=>X b\/V b) λz u=>∃p n c,z=ë #[Æ p n c,Ä (pg D h m d).2]/\Rg (qH D h m d) (Æ p n c) u:=by
 let⟨vs,h1,E,h3,P,f⟩:=hRD;have Q:=P.I N;refine⟨?_,aaQ Q B g,?_,?_,λT=> ?_⟩
 .rintro b (q|q);all_goals grind
 .intro b u;unfold xm at u;simp at u;exact Ï u
 .refine pv λh y=> ?_;simp at y;rcases y with rfl|rfl
  .exact f.fN<|zG λi j=>È<|È j
  .exact fl.jM (Y:=pV (pw λb=>X b\/V b) nB) ⟨⟨U,È<|Ï O⟩,U,U⟩
 .have o:=apL (V:=pw λb=>X b\/V b) (T:=T) P λb q=>B b<|È q;obtain⟨z,k1,S,n,W,rfl,hcp,F⟩:=H8 (aaR (V:=pw λb=>X b\/V b) (T:=T) Q B) (f.fN<|zG λi j=>È j) h3;obtain⟨tp,tn,tc,a,q1,q2,rfl,q4⟩:=(apM (V:=pw λb=>X b\/V b) (T:=T) N (λb q=>B b<|Ï q) O hq);have c:=k1.trans h1;have hlen:n=s.length:=by rw[F.r,<-c];simp[kn]
  have auB:=E.I;have hle:=E.C;have pU:kh (World.tp (k9 (pw λb=>X b\/V b) l.w) T 0):=EM;have C:=anW F Z Z hcp (λp J=>by
   have:p.2∈s:=by rw[<-c];exact Ú.2 ⟨p,J,U⟩
   have:=(E.r _ this).2.2.2;omega) q1 q2 q4 (aaU g) hx y
  have u:qH z h m (lG a)=qH D h m (lG a):=by unfold qH;rw[aaI<|c.trans I.symm,c,I]
  have H:kV (qH z h m<|lG a):=kV.M (by rwa[c]) TR hn;have ha:=aaI (c.trans I.symm) h m<|lG a;generalize World.tp (k9 (pw λb=>X b\/V b) l.w) T 0=G at*;refine C.mono ?_;rintro e u' ⟨k,hA⟩;rcases hA with⟨K,rfl⟩|⟨nv,b,sN,K,rfl,e3,e4,gb,gn,gc,rfl,e6⟩
  .refine⟨⟨S,n,W,by rw[ha],?_⟩,k.gS pU⟩;rw[<-u];have L:qH z h m (lG a)=s:=by unfold qH;rw[K,c];simp
   rw[L]at H|-;exact⟨X,z,c,H,⟨S,n,W,U,hcp,F.I k⟩,o.C λi j=>k.N i (aaV o i j) id,f⟩
  .let⟨i,m1,m2,m3,_⟩:=apB o k (aaV o) e4 e6 λp J=>by
    let⟨j,hj⟩:=ė J;let⟨sb,so,f1,f2,_⟩:=F.C j p.1 p.2 hj;have:X sb:=by rw[f1]at f;exact Cd f
    exact Cc<|o.r this f2
   refine⟨⟨Â ⟨gb,0,Á⟩,gn,gc,by rw[ha],?_⟩,k.gS pU⟩;rw[<-u];have L:qH z h m (lG a)=kn (z++[(b,nv)]):=by unfold qH;rw[K];simp[kn]
   rw[L]at H|-;exact⟨i,_,U,H,e3,m3,fl.kH (Y:=lh i nB) ⟨⟨U,m2⟩,U,U⟩ gn gc⟩
end
structure vF where
 r:Nat->Int×Nat×List Tx
 C:Nat->Qn
def kG(s:List fF):List (Nat×fF):=s.map λv=>(0,v)
theorem EN(s:List fF):kn (kG s)=s:=by simp[kn,kG,Function.comp_def]
def zK(s:List fF)(i:Int×Nat×List Tx):List fF:=qH (kG s) i.1 i.2.1 i.2.2
def pz(a:vF)(I:List Nat)(b:List fF):Nat->List fF
 |0=>b
 |k+1=>zK (pz a I b k)<|a.r<|I.getD k 0
def vG(a:vF)(kd:Nat->Int)(p:Nat)(s:List fF):ByteArray:=if kd p=1 then(pg (kG s) (a.r p).1 (a.r p).2.1 (a.r p).2.2).2 else qd (kG s) (a.C p)
def iz(e:fc)(a:Nat->Prop)(c:vF)(kd:Nat->Int)(R:Nat)(d:List fF)(f:Nat->Prop):xl where
 γ:=List fF
 C:=d
 M:=λk s g=>g=zK s (c.r<|(gX kd R).getD k 0)
 RD:=λs h V w=>RD s h V w/\∀b,V b->a b\/e.w.heap.size<=b
 I:=λp=>vG c kd p<|pz c (gX kd R) d<|fK kd p
 r:=f
def TS{kd:Nat->Int}:∀(R k:Nat),k<(gX kd R).length->fK kd ((gX kd R).getD k 0)=k
 |0,k,h=>by simp[gX]at h
 |R+1,k,h=>by
  by_cases q:kd R=1
  .rw[sM q]at h|-;rcases Nat.lt_or_ge k (gX kd R).length with z|z
   .have e:(gX kd R++[R]).getD k 0=(gX kd R).getD k 0:=by simp[Ġ,Ħ z]
    rw[e];exact TS R k z
   .have e:k=(gX kd R).length:=by simp at h;omega
    subst e;simp[Ġ,fK]
  .rw[vr q]at h|-;exact TS R k h
section
variable{y:Nat->Prop}
def Mn(h:kF nB y w)(g:nz w):∀b,y b->lq b=Ë:=λb i=>by
 let⟨c,e,m,f,_,_,_,_,j,k⟩:=h b i;cases d:lq b with
 |false=>rfl
 |true=>
  unfold lq at d;simp at d;rcases d with rfl|rfl
  .let⟨l,qk,a,_⟩:=g.I;rw[f]at a;cases a;exact absurd U j
  .let⟨l,qk,a,_⟩:=g.C;rw[f]at a;cases a;exact absurd U k
def apP(p:kF nB X w)(k:∀b,X b->u.heap[b]?=w.heap[b]?){r:Nat}{s:List Tx}(g:X r)(h:Ce r c i s w):Ce r c i s u:=by
 have d:∀{b o:Nat} {z:Ñ},X b->w.cell? ⟨b,o,Á⟩=Â z->u.cell? ⟨b,o,Á⟩=Â z:=λ{b o z} l q=>by simp only[ß,k b l];exact q
 let⟨D,n,E,F,m,y,G,H⟩:=h;refine⟨D,n,E,F,⟨d g m.M,d g m.N,d g m.I⟩,⟨y.r,λj a t q=> ?_⟩,G,H⟩;let⟨tb,I,B,C,e,J⟩:=y.C j a t q;have l:X tb:=by have:=p.r g m.I;rw[B]at this;exact Cd this
 have f:=Cc<|p.r l C;let⟨K,L,M⟩:=e.b;exact⟨tb,I,B,d l C,⟨⟨K,L,by rwa[k a f]⟩,d f e.r,d f e.C,d f e.I,d f e.M,d f e.Y,d f e.N⟩,J⟩
end
structure Ic(l0:fc)(bt:vF)(kd:Nat->Int)(rq:Nat->Nat)(R:Nat)(Q:Nat->Prop):Prop where
 M:nz l0.w
 I:∀b,b=1\/b=2\/b=3\/b=4->l0.O b
 C:kF nB Q l0.w
 fp:∀b,Q b->l0.O b
 r:∀p,p<R->Q (rq p)
 kK:∀p,p<R->kd p=1->Ce (rq p) (bt.r p).1 (bt.r p).2.1 (bt.r p).2.2 l0.w/\(bt.r p).2.1<8/\-1<=(bt.r p).1/\(∀t∈(bt.r p).2.2,t.Ok)/\(bt.r p).2.2.length<=1000
 Sc:∀p,p<R->kd p≠1->Ib (rq p) (bt.C p) l0.w/\(bt.C p).Ok
def aaX{V:Nat->Prop}{l:fc}{a:Ñ->Í->Prop}(h:D9 X F d l V vQ)(b:∀v u,vQ v u->a v u):D9 X F d l V a:= ⟨h.N,h.S,h.I,h.r,λT=>(h.C T).mono λe u q=>by
  cases e with
  |returned v=>exact⟨b v u q.1,q.2⟩
  |_=>exact q⟩
section
variable{l0:fc}{bt:vF}{kd:Nat->Int}{rq:Nat->Nat}{R:Nat}{Q C d:Nat->Prop}{B:List fF}{E F:Option ù}
def aaY{s:List fF}(h:fv.nh ((kD (iz l0 d bt kd R B C) i n R kd rq D E F j9 j7 k m J j qX l0).r À) b s):s=pz bt (gX kd R) B b:=by
 have c:∀(b:Nat) (s:((kD (iz l0 d bt kd R B C) i n R kd rq D E F j9 j7 k m J j qX l0).r À).γ),fv.nh ((kD (iz l0 d bt kd R B C) i n R kd rq D E F j9 j7 k m J j qX l0).r À) b s->s=pz bt (gX kd R) B b:=λb s h=>by
  induction h with
  |u6=>rfl
  |CW _ a e=>
   rwa[e]at a
 exact c b s h
def apQ(h:Ic l0 bt kd rq R Q)(N:l0.w.heap.size<=m):D3 (kD (iz l0 d bt kd R B C) i n R kd rq D E F j9 j7 k m J j qX l0):=by
 apply akB yc ZR ZQ U;intro a s O W l q t f x y P g G;let⟨f,S⟩:=f;have T:=y.fx m<|g m<|Ï U;have H:l0.w.heap.size<=l.w.heap.size:=Z
 have o:=G;have p:=h.M.r (Ì h.M.fx H) λb c=>o b<|h.I b c;have r:=h.C.C λb c=>o b<|h.fp b c;have e:=Hj<|vy q;let⟨I,K⟩:=h.Sc _ e.1 e.2;refine⟨_,aaX (apK f x r (λb c=>g b<|È<|h.fp b c) (h.r _ e.1) (aaT (aaS h.C λb c=>o b<|h.fp b c) ⟨U,h.r _ e.1⟩ I) K p (λb c=>g b<|È<|h.I b c) (λb c=>c.elim (Mn (by let⟨_,_,_,_,z,_⟩:=f;exact z) p b)<|Mn r p b) (kG s)<|EN s) λv u L=> ?_⟩;rw[L];have z:=aaY t;have M:(kD (iz l0 d bt kd R B C) i n R kd rq D E F j9 j7 k m J j qX l0).b a=fK kd ((jw kd R).getD a 0):=if_pos q;rw[M]at z;show _=Ä (vG bt kd ((jw kd R).getD a 0)<|pz bt (gX kd R) B<|fK kd<|(jw kd R).getD a 0);rw[<-z];unfold vG;rw[if_neg e.2]
theorem apR(h:Ic l0 bt kd rq R Q)(hZ:(∀b,Q b->d b)/\∀b,b=1\/b=2\/b=3\/b=4->d b)(Zd:l0.w.heap.size<=m):D2 (kD (iz l0 d bt kd R B C) i n R kd rq D E F j9 j7 k m J j qX l0):=by
 refine akC yc ZR ZQ U (λs o u=>Rg s o u) (λs o u T n q=>Rg.tp q) ?_;intro T s o W l H I g K L hq r M;let⟨g,OV⟩:=g;have hs:=L.fx m<|r m<|Ï U;have N:l0.w.heap.size<=l.w.heap.size:=Z
 have t:=M;have x:=h.M.r (Ì h.M.fx N) λb a=>t b<|h.I b a;have y:=h.C.C λb a=>t b<|h.fp b a;have G:=H;have f:=Hi<|vy G;let⟨O,P,S,V,X⟩:=h.kK _ f.1 f.2;refine⟨_,aaX (apO g K y (λb a=>r b<|È<|h.fp b a) (h.r _ f.1) (apP h.C (λb a=>t b<|h.fp b a) (h.r _ f.1) O) P S V X x (λb a=>r b<|È<|h.I b a) (λb a=>a.elim (Mn (by let⟨_,_,_,_,z,_⟩:=g;exact z) x b)<|Mn y x b) (kG s)<|EN s) λv u hv=> ?_,?_⟩
 .obtain⟨p,z,c,rfl,Y⟩:=hv;refine⟨p,z,c,zK s<|bt.r<|(gX kd R).getD T 0,?_,U,Y⟩;have e:(kD (iz l0 d bt kd R B C) i n R kd rq D E F j9 j7 k m J j qX l0).e (T+1)=vG bt kd ((gX kd R).getD T 0) (pz bt (gX kd R) B<|fK kd<|(gX kd R).getD T 0):=U;rw[e,TS R T G,<-(aaY I)];unfold vG;rw[if_pos f.2]
 .intro Y Sh u w s' ZF K6 e p h3 h4;let⟨V',k1,c⟩:=apN e p h3;refine⟨V',⟨k1,λb a=> ?_⟩,c⟩;let⟨z,hi⟩:=c b a;rcases h4 z b hi with((q|q)|q)|q;all_goals grind
end
section
variable{R:Nat}{kd:Nat->Int}{o:Nat->Nat}{r:List Ĕ}{l:fc}{u:Nat->fc}{bt:vF}{j f:Nat->Prop}{s0:List fF}
def apS{s:List fF}(h:zg (iz l f bt kd R s0 j) k s):s=pz bt (gX kd R) s0 k:=by
 have b:∀(k:Nat) (s:(iz l f bt kd R s0 j).γ),zg (iz l f bt kd R s0 j) k s->s=pz bt (gX kd R) s0 k:=λk s h=>by
  induction h with
  |u6=>rfl
  |CW _ a c=>
   rwa[c]at a
 exact b k s h
structure zL(f:Nat->Prop)(bt:vF)(R:Nat)(kd:Nat->Int)(s0:List fF)(l:fc)(an:Nat)(sl:Ñ)(l':fc):Prop where
 M:∀b,l.O b->l'.O b/\l'.w.heap[b]?=l.w.heap[b]?
 r:l'.O an/\∀p,p<R->l'.w.cell? ⟨an,p,Á⟩=Â (Ä<|vG bt kd p<|pz bt (gX kd R) s0<|fK kd p)
 Y:∃V,RD (pz bt (gX kd R) s0<|fK kd R) sl V l'.w/\∀b,V b->l'.O b/\(f b\/l.w.heap.size<=b)
 d:l'.d=0
 q:¬l'.q
 S:∀b,¬l'.I b
 C:(∀a,¬l'.r a)/\(∀a,¬l'.N a)/\∀a,¬l'.K a
 I:l'.w.cell? ⟨an,R,Á⟩=Á/\kQ l'.w an=Â (0,0)
def apT{a:fc}(h:FE (iz l f bt kd R s0 j) R kd l i v a):zL f bt R kd s0 l i v a:=by let⟨s,V,g,c,k⟩:=h.Hk;have e:=apS g;subst e;exact⟨h.vd,h.kz,⟨V,c.1,λb q=>⟨k b q,c.2 b q⟩⟩,h.d,h.q,h.rd,h.BM,h.CF⟩
def apU{J:(Loc->Prop)->Nat->Jd}{F:Ĕ}(P:qX=F.at y (Ð Q (j9::jJ)::L)::r)(c:fv.rA À zX i (K4 kd o R n v l qX) .fB D u E w qJ)(C:Option (Nat×Nat))(s:gy l)(S:∀b,¬l.I b)(W:¬l.q)(Y:l.d=0)(Mp:vz zX i l)(H:Ic l bt kd o R X)(hZ:(∀b,X b->f b)/\∀b,b=1\/b=2\/b=3\/b=4->f b)(I:∀b,f b->l.O b)(K:∀b,j b->f b)(BL:RD s0 v j l.w)(xj:w.os=l.w.os/\w.output=l.w.output)(hn:1<=n)(hs:n+R<1000) (hJ:∀t x z B p m c,vz t x z->gy z->zL f bt R kd s0 l B (Æ p m c) z->fv.fi À Î (J t x) z (G (F.at (y.put ((Q[j9]?).bind (·.dst))<|ë #[Æ (Â ⟨B,0,Á⟩) R R,Æ p m c])<|Ð Q jJ::L) r)): ∃N t x T V Hl g e sN h,ſ À N (Į E w C) qJ=(.next<|Į g e sN,h)/\(e.os=l.w.os/\e.output=l.w.output)/\fv.rA À t x (J t x) T V Hl g e h:= aku (M:=iz l f bt kd R s0 j) P c C s S W Y Mp (λb q=>I b<|K b q) (λs C V w e h L=>⟨h.1.r L,h.2⟩) (λs C V w h=>⟨by let⟨_,_,_,⟨g,n,N,e,_⟩,_⟩:=h.1;exact⟨g,n,N,e⟩,λb q=>(h.2 b q).imp (I b) id⟩) ⟨BL,λb h=>È<|K b h⟩ xj hn hs (λg N V T cq B ba bi all e=>⟨apR H hZ e,apQ H e⟩) λt x z B p m c e g N=>hJ t x z B p m c e g<|apT N
end
end Go.Proofs.Y.kS
namespace Go.Proofs.Y.om
open Go Go.Proofs Go.RowKit Go.Proofs.Y.Lift Go.Proofs.Y.gP
def j2(c:Int):Bool:=decide (48<=c)&&decide (c<=57)
def rM(c:Int):Bool:=decide (97<=c)&&decide (c<=104)
def xI(c:Int):Int:=
 if c=105 then 1 else if c=103 then 2 else if c=98 then 3 else if c=99 then 4 else if c=109 then 5
 else if c=114 then 6 else if c=108 then 7 else if c=117 then 8 else if c=100 then 9 else 0
def Mq(c:Int):Int:=if c=62 then 1 else if c=123 then 2 else if c=58 then 3 else 0
theorem EO(c:Int):j2 c=Î↔(48<=c/\c<=57):=by simp[j2]
def apV(c:Int):rM c=Î↔(97<=c/\c<=104):=by simp[rM]
def vH(k:Int):List Int:=
 if k=1 then[86,58,120,47,66]else if k=2 then[86,58,120,115]else if k=3 then[86,58,120]
 else if k=4 then[86,58,120,62,121,40,110,44,107,41]else if k=5 then[86,58,120,62,121,40,107,41]
 else if k=9 then[86,58,87]else[86]
def pA(k:Int):List Int:=
 if k=1 then[121,61,110]else if k=2 then[80]else[121,40,110,44,107,41]
def qe(a c:Int):Bool:=
 if a=86\/a=87 then c==104||j2 c
 else if a=110\/a=107 then j2 c
 else if a=120\/a=121 then rM c
 else if a=115 then j2 c||(decide (97<=c)&&decide (c<=102))
 else c==a
def rN(a c:Int):Int:=
 if c=48\/j2 c=Ë then 0
 else if a=86\/a=87 then 1
 else if a=110\/a=107 then 5
 else 0
def jT(s:ByteArray):List Int:=s.data.toList.map λc=>((c.toNat:Nat):Int)
def apW(B:ByteArray)(k:Nat)(h:k<B.size):(jT B).drop k=((B[k].toNat:Nat):Int)::(jT B).drop (k+1):=by
 have a:k<(jT B).length:=by simpa[jT]using h
 rw[List.drop_eq_getElem_cons a];congr 1;simp[jT,ċ]
theorem TT(B:ByteArray):(jT B).length=B.size:=by unfold jT;simp_all
theorem vI(s:ByteArray)(h:0<s.size):jT s=((s[0].toNat:Nat):Int)::(jT s).tail:=by have:=apW s 0 h;grind
theorem aaZ(s:ByteArray)(h:s.size=0):jT s=[]:=by grind [Ý,TT]
def apX(s:ByteArray):jT (s.extract 1 s.size)=(jT s).tail:=by unfold jT;rw[Ĳ,ĺ,<-List.map_tail];congr 1;rw[ħ,<-List.drop_one];apply List.take_of_length_le;simp_all
theorem apY(s:ByteArray)(h:s.size<=10):(s.extract 1 s.size).size<=10:=by grind [č]
theorem apZ(a c:Int):0<=rN a c/\rN a c<=5:=by unfold rN;grind
structure PT where
 c:List Int
 p:ByteArray
structure PR where
 c:List Int
 r:List PT
structure PD where
 S:List PR
 r:Bool
 I:PR
 M:Bool
 N:PT
structure PS where
 C:List Int
 r:Int
 I:Int
 M:Int
 d:PD
namespace PD
def Y(d:PD):List PT:=if d.M then d.I.r++[d.N]else d.I.r
def C(d:PD):List PR:=if d.r then d.S++[⟨d.I.c,d.Y⟩]else d.S
def uI(d:PD)(i:Nat)(z:Int):PD:={d with I:={d.I with c:=d.I.c.set i z}}
def vK(d:PD)(i:Nat)(z:Int):PD:={d with N:={d.N with c:=d.N.c.set i z}}
def jL(d:PD)(i:Nat)(z:Int):PD:=if d.M then d.vK i z else d.uI i z
def sY(d:PD)(p:ByteArray):PD:={d with N:={d.N with p:=p}}
def EL:PT:=⟨[0,0,0,0,0],⟨#[]⟩⟩
def aa0(k:Int):PR:=⟨[0,0,0,0,k,0,0,0],[]⟩
def rO(d:PD):PD:={d with I:=⟨d.I.c,d.Y⟩,M:=Î,N:=EL}
def EP(d:PD)(k:Int):PD:={S:=d.C,r:=Î,I:=aa0 k,M:=Ë,N:=d.N}
def fX(d:PD)(a z:Int):PD:=
 if a=86 then d.uI 5 z else if a=87 then d.uI 6 z else if a=120 then d.jL 0 z else if a=121 then d.jL 1 z
 else if a=110 then d.jL 2 z else if a=107 then d.jL 3 z else if a=115 then d.uI 7 z else d
def xK(d:PD)(i:Nat):Int:=if d.M then d.N.c.getD i 0 else d.I.c.getD i 0
def G(d:PD)(a:Int):Int:=if a=86 then d.I.c.getD 5 0 else if a=87 then d.I.c.getD 6 0 else if a=110 then d.xK 2 else d.xK 3
end PD
def mR(a c:Int):Int:=
 if a=120\/a=121 then Þ [97,98,99,100,101,102,103,104] c.toNat.toUInt8
 else if a=115 then Þ [48,49,50,51,52,53,54,55,56,57,97,98,99,100,101,102] c.toNat.toUInt8
 else if c=104 then-1 else(c-48)%256
def rP(z c:Int):Int:=É.wrap<|É.wrap (z*10)+(c-48)%256
def rQ(st:PS)(c:Int):Option PS:=
 if c=59/\st.d.S.length+1<24 then Â {st with C:=[82]}
 else if c=44/\0<st.d.Y.length/\st.d.Y.length<8 then Â {st with C:=[120,84],d:=st.d.rO}
 else Á
def zM(st:PS)(k:Int):Option PS:=if k=0 then Á else Â {st with C:=vH k,d:=st.d.EP k}
def xL(st:PS)(k:Int):Option PS:=if k=0 then Á else Â {st with C:=pA k,I:=0,d:=st.d.vK 4 k}
def pB(st:PS)(a c:Int):PS:={st with r:=rN a c,M:=a,d:=st.d.fX a (mR a c)}
def lr(B:ByteArray)(k:Nat)(st:PS)(c:Int):Option PS:=
 match st.C with
 |[]=>rQ st c
 |want::tl=>
  if want=82 then zM st (xI c)
  else if want=66 then
   if rM c=Î then Â (pB {st with C:=[84],d:=st.d.rO} 120 c)else rQ st c
  else if want=84 then xL st (Mq c)
  else if want=80 then
   if c=125 then Â {st with C:=tl,d:=st.d.sY (B.extract (k-st.I.toNat) k)}
   else if st.I=40\/lQ c=0 then Á else Â {st with I:=st.I+1}
  else if qe want c=Î then Â {pB st want c with C:=tl}
  else Á
def Ie(st:PS)(c:Int):PS:={st with r:=st.r-1,d:=st.d.fX st.M (rP (st.d.G st.M) c)}
def qI(B:ByteArray)(k:Nat)(st:PS)(c:Int):Option PS:=
 if 0<st.r/\j2 c=Î then Â (Ie st c)else lr B k {st with r:=0} c
def ot(B:ByteArray):Nat->Nat->PS->Nat×PS
 |0,k,st=>(k,st)
 |f+1,k,st=>if h:k<B.size then match qI B k st (B[k].toNat:Int)with
  |none=>(k,st)
  |some a=>ot B f (k+1) a
  else(k,st)
def pd0:PD:=⟨[],Ë,⟨[],[]⟩,Ë,⟨[],⟨#[]⟩⟩⟩
def sZ:PS:=⟨[82],0,0,0,pd0⟩
def rR(c:Int)(w:Í): Ò À 94 #[Å ū c] w λe a=>e=Ç (õ<|j2 c)/\a=w:=by
 go_enter Tryz.func94,Tryz.ntmps94;go_wp2;all_goals go_ret
 all_goals exact⟨ZW (by simp only[j2];first|(simp[*];done)|(rw[Ě];simp;omega)),U⟩
def ap0(s:ByteArray)(c:Int)(w:Í): Ò À 167 #[Ä s,Å ū c] w λe a=>e=Ç (Å É<|Þ s.data.toList c.toNat.toUInt8)/\a=w:=by go_enter Tryz.func167,Tryz.ntmps167;go_wp2;rw[run_callFunc_extern Tryz.func185 fu fu fu fu,Lib.run_indexByteString];simp only[ų];rw[Oper.upon_value];go_wp2;go_ret;exact⟨U,U⟩
def Ig(s:ByteArray)(c:Int)(w:Í): Ò À 146 #[Ä s,Å ū c] w λe a=>e=Ç (Å É<|Þ s.data.toList c.toNat.toUInt8)/\a=w:=by go_enter Tryz.func146,Tryz.ntmps146;go_wp2_with (go_at_call 167;refine(ap0 _ _ _).mono ?_;rintro e a ⟨rfl,rfl⟩);go_ret;exact⟨U,U⟩
def Mr(c:Int):Bool:=j2 c||(decide (97<=c)&&decide (c<=102))
def ap1:∀n:Fin 256,decide (0<=Þ [97,98,99,100,101,102,103,104] n.val.toUInt8)=rM (n.val:Int):=by decide+kernel
def ap2:∀n:Fin 256,decide (0<=Þ [48,49,50,51,52,53,54,55,56,57,97,98,99,100,101,102] n.val.toUInt8)=Mr (n.val:Int):=by decide+kernel
def ap3(a:0<=c)(b:c<256):decide (0<=Þ [97,98,99,100,101,102,103,104] c.toNat.toUInt8)=rM c:=by have:=ap1 ⟨c.toNat,Z⟩;rwa[show((c.toNat:Nat):Int)=c from by omega]at this
def ap4(a:0<=c)(b:c<256):decide (0<=Þ [48,49,50,51,52,53,54,55,56,57,97,98,99,100,101,102] c.toNat.toUInt8)=Mr c:=by have:=ap2 ⟨c.toNat,Z⟩;rwa[show((c.toNat:Nat):Int)=c from by omega]at this
def TU(c:Int)(b:0<=c)(d:c<256)(w:Í): Ò À 98 #[Å ū c] w λe a=>e=Ç (õ<|rM c)/\a=w:=by
 have f:=ap3 b d;go_enter Tryz.func98,Tryz.ntmps98;go_wp2_with (go_at_call 146;refine(Ig _ _ _).mono ?_;rintro e a ⟨rfl,rfl⟩);all_goals go_ret
 all_goals exact⟨U,U⟩
def ap5(c:Int)(b:0<=c)(d:c<256)(w:Í): Ò À 149 #[Å ū c] w λe a=>e=Ç (õ<|Mr c)/\a=w:=by
 have f:=ap4 b d;go_enter Tryz.func149,Tryz.ntmps149;go_wp2_with (go_at_call 146;refine(Ig _ _ _).mono ?_;rintro e a ⟨rfl,rfl⟩);all_goals go_ret
 all_goals exact⟨U,U⟩
def ap6(c:Int)(w:Í): Ò À 102 #[Å ū c] w λe a=>e=Ç (Å É<|Mq c)/\a=w:=by
 go_enter Tryz.func102,Tryz.ntmps102;go_wp2;all_goals go_ret
 all_goals refine⟨Ed ?_,U⟩
 all_goals simp only[beq_iff_eq,beq_eq_false_iff_ne,ne_eq]at*
 all_goals simp[Mq, *]
def ap7(c:Int)(w:Í): Ò À 97 #[Å ū c] w λe a=>e=Ç (Å É<|xI c)/\a=w:=by
 go_enter Tryz.func97,Tryz.ntmps97;go_wp2;all_goals go_ret
 all_goals refine⟨Ed ?_,U⟩
 all_goals simp only[beq_iff_eq,beq_eq_false_iff_ne,ne_eq]at*
 all_goals simp[xI, *]
def aa1(b c:Int)(d:0<=c)(f:c<256)(w:Í): Ò À 104 #[Å ū b,Å ū c] w λe a=>e=Ç (õ<|qe b c)/\a=w:=by
 go_enter Tryz.func104,Tryz.ntmps104;go_wp2_with (first|(go_at_call 94;refine(rR _ _).mono ?_;rintro e a ⟨rfl,rfl⟩)|(go_at_call 98;refine(TU _ d f _).mono ?_;rintro e a ⟨rfl,rfl⟩)|(go_at_call 149;refine(ap5 _ d f _).mono ?_;rintro e a ⟨rfl,rfl⟩));all_goals go_ret
 all_goals refine⟨ZW ?_,U⟩
 all_goals try go_light
 all_goals simp only[beq_iff_eq,beq_eq_false_iff_ne,ne_eq]at*
 all_goals unfold qe
 all_goals first|(simp[Mr, *];done)|(rw[Ě];simp[*];done)|(rw[Ě];simp[*];omega)
def ap8(k:Int)(w:Í): Ò À 145 #[Å É k] w λe a=>(∃b:ByteArray,e=Ç (Ä b)/\b.size<=10/\jT b=vH k)/\a=w:=by
 go_enter Tryz.func145,Tryz.ntmps145;go_wp2;all_goals go_ret
 all_goals refine⟨⟨_,U,?_,?_⟩,U⟩
 all_goals try go_light
 all_goals simp only[beq_iff_eq,beq_eq_false_iff_ne,ne_eq]at*
 all_goals first|(simp[jT,vH, *];done)|decide
def ap9(k:Int)(w:Í): Ò À 148 #[Å É k] w λe a=>(∃b:ByteArray,e=Ç (Ä b)/\b.size<=10/\jT b=pA k)/\a=w:=by
 go_enter Tryz.func148,Tryz.ntmps148;go_wp2;all_goals go_ret
 all_goals refine⟨⟨_,U,?_,?_⟩,U⟩
 all_goals try go_light
 all_goals simp only[beq_iff_eq,beq_eq_false_iff_ne,ne_eq]at*
 all_goals first|(simp[jT,pA, *];done)|decide
def mS(m s:Nat):Ñ->Prop
 |Å ū _=>False
 |Å _ _=>True
 |õ _=>True
 |Ä _=>True
 |Ã Á=>True
 |Ã (Â a)=>m<=a.block/\a.block<s
 |Æ Á _ _=>True
 |Æ (Â a) _ _=>m<=a.block/\a.block<s
 |_=>False
def mS.r(h:mS m i v)(d:i<=n):mS m n v:=by
 cases v with
 |int k b=>cases k<;>exact h
 |pointer a=>cases a with
  |none=>trivial
  |some a=>exact⟨h.1,Ģ h.2 d⟩
 |slice a b c=>cases a with
  |none=>trivial
  |some a=>exact⟨h.1,Ģ h.2 d⟩
 |_=>exact h
def Ms(m s:Nat)(o:Obj):Prop:=∃c e a,o=Û c e a/\a.2<=c.size/\0<c.size/\e≠304/\e≠305/\∀v∈c.toList,mS m s v
def jz(m:Nat)(w:Í):Prop:=∀i o,m<=i->w.heap[i]?=Â o->Ms m w.heap.size o
def Ms.r{o:Obj}(h:Ms m i o)(a:i<=n):Ms m n o:=by let⟨c,e,b,d,f,g,j,k,l⟩:=h;exact⟨c,e,b,d,f,g,j,k,λv p=>(l v p).r a⟩
def jz.I(w:Í):jz w.heap.size w:=λi o a h=>by rw[ı a]at h;cases h
def jz.fS(h:jz m w):jz m w.drew:=h
def jz.iO(h:jz m w)(n:Nat):jz m (w.drewN n):=h
theorem jz.gJ(h:jz m w)(cs:Array Ñ)(t:Ď)(c:0<cs.size)(b:t≠304/\t≠305)(d:∀v∈cs.toList,mS m w.heap.size v):jz m (w.alloc<|Û cs t):=by
 intro i o f a;have k:(w.alloc<|Û cs t).heap.size=w.heap.size+1:=fj
 by_cases e:i<w.heap.size
 .rw[Š _ _ _ e]at a;exact(h i o f a).r Z
 .by_cases g:i=w.heap.size
  .subst g;rw[Ŵ]at a;cases a;exact⟨cs,t,(0,0),U,Ö _,c,b.1,b.2,λv j=>(d v j).r Z⟩
  .grind
def jz.r(h:jz m w)(p:ù)(l:mS m w.heap.size v):jz m (w.setCell p v):=by
 intro i o f a;have n:(w.setCell p v).heap.size=w.heap.size:=fj
 rw[n];by_cases e:i=p.block
 .subst e;unfold Ż at a;simp only[Ķ,if_true]at a;cases d:w.heap[p.block]? with
  |none=>rw[d]at a;cases a
  |some x=>
   rw[d]at a;obtain⟨c,e,r,rfl,g,j,s,t,k⟩:=h _ _ f d;simp only[Ă,Ô]at a;subst a;refine⟨_,e,r,U,?_,?_,s,t,λu b=> ?_⟩
   .split
    .exact g
    .rwa[Ĭ]
   .split
    .exact j
    .rwa[Ĭ]
   .split at b
    .exact k u b
    .rw[Array.toList_setIfInBounds]at b;rcases Ĩ b with q|q
     .exact k u q
     .rwa[q]
 .rw[ģ _ _ _ _ (by simpa using e)]at a;exact h i o f a
theorem aqa{ty:Ď}{bytes base:Nat}(y:P.underlying t=Â (.slice e))(B:P.info? e=Â zJ)(G:zJ.zero=Â (Ã Á)) (s:zJ.size=1) (H:zJ.bytes=bytes) (f:w.ownsRow base e 1 v n l) (a:ù) (c:Nat) (C:∀j M,[z][j]?=Â M->w.cell? (a.add j)=Â M) (N:z.oneCell'=Î) (O:n+1<=đ) (I:(n+1)*bytes<=140737488355328) (W:base<=w.heap.size) (X:ma e=Ë) (hm:m<=base) (D:jz m w) (hg:mS m w.heap.size z) (Y:e≠304/\e≠305): ∃h u,(ę #[t,t] ty #[v,Æ (Â a) 1 c]).run P w=.ok h u/\pW w base e 1 v n l 1 [z] h u/\jz m u/\mS m u.heap.size h:=by
 obtain⟨h,u,J,E⟩:=Sm y B G s H U f a c [z] Z U C (λx b=>by simp at b;subst b;exact N) O I W<|È X;have hgv:mS m u.heap.size h:=by
  obtain⟨p,o,rfl⟩:=jg E.fp;cases p with
  |none=>trivial
  |some p=>
   have k:=E.fp.lt p.block (by rcases E.fp.2 with⟨q,_⟩|⟨g,r,d,q,_⟩<;>(cases q;try rfl));exact⟨Z,k.2⟩
 refine⟨h,u,J,E,?_,hgv⟩;have q:[z].length=1*zJ.size:=by rw[s];rfl
 have hlx:l.length=n*zJ.size:=by rw[s];exact f.1
 have akW:n+1<=9223372036854775807:=by simp only[đ]at O;omega
 have tM:∀x∈l,mS m w.heap.size x:=λx b=>by
  rcases f.2 with⟨_,rfl⟩|⟨g,r,d,rfl,hbg,p,hnc,hcm,Q,htake⟩
  .grind
  .let⟨c2,e2,qk,S,_,_,_,_,q6⟩:=D g _ Z p;grind
 have gr:∀T,jz m (w.drew.alloc<|Û (l.toArray++[z].toArray++φ (Ĺ<|Ã Á) (grownCap w (n+1) T e-(n+1))) e):=λT=>by
  refine jz.gJ D _ _ (by simp;omega) Y λx b=> ?_;simp only[Array.toList_append,â]at b;rcases b with(b|b)|b
  .exact tM x b
  .grind
  .have:=Sl b;simp[Ĺ]at this;subst this;trivial
 rcases f.2 with⟨rfl,rfl⟩|⟨g,r,d,rfl,hbg,p,hnc,hcm,Q,htake⟩
 .have b:=Ý (by simpa using f.1);subst b;have K:=run_append_nil w t ty e zJ (Ã Á) y B G a 1 c [z] q C Z Z (by rw[H];have k:=I;simp only[œ]at k;omega);grind
 .by_cases aqb:n+1<=r
  .have Sn:n*zJ.size+[z].length<=d.size:=by rw[q,Q,s];omega
   have K:=run_append_room w t ty e zJ y B g n r d p a 1 c [z] q C (λx b=>by simp at b;subst b;exact N) aqb Sn;rw[K]at J;cases J;have aqc:=setRow_heap w g d (d.toList.take (n*zJ.size)++[z]++d.toList.drop (n*zJ.size+[z].length)).toArray e _ p;have aqd:=λk (L:k≠g)=>setRow_other w g k (d.toList.take (n*zJ.size)++[z]++d.toList.drop (n*zJ.size+[z].length)).toArray L;let⟨c2,e2,qk,S,q2,q3,q4,q5,q6⟩:=D g _ Z p;cases S;intro k o L F;have jR:(w.setRow g (d.toList.take (n*zJ.size)++[z]++d.toList.drop (n*zJ.size+[z].length)).toArray).heap.size=w.heap.size:=fj
   rw[jR];by_cases V:k=g
   .subst V;rw[aqc]at F;cases F;refine⟨_,_,_,U,fj,(by simp;omega),q4,q5,λx b=> ?_⟩;grind
   .rw[aqd k V]at F;exact D k o L F
  .have k:w.ownsRow base e zJ.size (Æ (Â ⟨g,0,Á⟩) n r) n l:=by rwa[s]
   have K:=run_append_grow w t ty e zJ (Ã Á) y B G ⟨g,0,Á⟩ n r l hlx (k.cells U) a 1 c [z] q C Z Z (by rw[H];exact growslice_fits Z I);grind
def aa2{f:Array ğ}{E:Prop}{base:Nat} (k:o.guard=Á) (s x:Operand) (t:Ď) (p:o.op=Op.call {callee:=Callee.builtin κ,args:=#[s,x],argTypes:=#[t,t]}) {bytes:Nat} (q:P.underlying t=Â (.slice e)) (r:P.info? e=Â zJ) (B:zJ.zero=Â (Ã Á)) (C:zJ.size=1) (D:zJ.bytes=bytes) (F:y.eval s=v) (G:w.ownsRow base e 1 v n l) (ad:ù) (H:y.eval x=Æ (Â ad) 1 b) (I:∀j g,[z][j]?=Â g->w.cell? (ad.add j)=Â g) (J:z.oneCell'=Î) (L:n+1<=đ) (M:(n+1)*bytes<=140737488355328) (N:base<=w.heap.size) (O:ma e=Ë) (S:m<=base) (T:jz m w) (V:mS m w.heap.size z) (W:e≠304/\e≠305) (h:∀d u,pW w base e 1 v n l 1 [z] d u->jz m u->mS m u.heap.size d->K (y.put o.dst d) u): if ē o (Ι f y.tmps)=Î then Oper.wp P o y w K vJ else E:=by
 have X:ē o (Ι f y.tmps)=Î:=by simp[ē,k]
 rw[if_pos X];let⟨d,u,Y,h2,h3,h4⟩:=aqa (ty:=o.type) q r B C D G ad b I J L M N O S T V W;unfold Oper.wp;simp[ś,p,ρ,ar,ς,F,H,Y,ų];exact h d u h2 h3 h4
def nA(l:List Nat):List Ñ:=l.map λa=>Ã<|Â ⟨a,0,Á⟩
def ou(l:List Int):List Ñ:=l.map λz=>Å É z
def ER(p:PT):List Ñ:=ou p.c++[Ä p.p]
def Cf(c:List Int)(a:Ñ):List Ñ:=ou c++[a]
structure oK(lo hi:Nat)(tb:List Nat)(l:List PT)(w:Í):Prop where
 r:tb.length=l.length
 I:∀(j a:Nat) (p:PT),tb[j]?=Â a->l[j]?=Â p->lo<=a/\a<hi/\p.c.length=5/\fh a (ER p) 200 w
structure vL(B q:Nat)(r:PR)(w:Í):Prop where
 M:q<B
 C:r.c.length=8
 I:∃vb tb,fh q (Cf r.c vb) 161 w/\w.ownsRow 0 149 1 vb tb.length (nA tb)/\(∀j,vb.ownBlock=Â j->j<B)/\oK 0 B tb r.r w
structure pC(B:Nat)(qs:List Nat)(rs:List PR)(w:Í):Prop where
 I:qs.length=rs.length
 M:∀(j q:Nat) (r:PR),qs[j]?=Â q->rs[j]?=Â r->vL B q r w
section
variable{w':Í}{lo hi B q:Nat}{tb qs:List Nat}{l:List PT}{r:PR}{rs:List PR}
def oK.C(h:oK lo hi tb l w)(k:e9 X w w')(f:∀a c g,lo<=a->a<hi->w.heap[a]?=Â (Û c 200 g)->¬X a):oK lo hi tb l w':= ⟨h.r,λj a p i m=>by let⟨b,d,n,e⟩:=h.I j a p i m;exact⟨b,d,n,e.I k<|f a _ _ b d e⟩⟩
def oK.M(h:oK lo hi tb l w)(f:i<=lo)(g:hi<=n):oK i n tb l w:= ⟨h.r,λj a p b c=>by let⟨k,m,d,e⟩:=h.I j a p b c;exact⟨Z,Z,d,e⟩⟩
theorem oK.N(lo hi:Nat)(w:Í):oK lo hi [] [] w:=⟨U,λj a p h=>by cases h⟩
theorem ES{α:Type}{l:List α}{a x:α}(h:(l++[a])[j]?=Â x):l[j]?=Â x\/j=l.length/\x=a:=by grind
theorem oK.TV{p:PT}(h:oK lo hi tb l w)(g:lo<=i)(k:i<hi)(m:p.c.length=5)(n:fh i (ER p) 200 w):oK lo hi (tb++[i]) (l++[p]) w:=by
 refine⟨by simp[h.r],λj x y d b=> ?_⟩;rcases ES d with e|⟨e,rfl⟩
 .rcases ES b with f|⟨f,rfl⟩
  .exact h.I j x y e f
  .have:=(Õ.1 e).1;have:=h.r;omega
 .rcases ES b with f|⟨f,rfl⟩
  .have:=(Õ.1 f).1;have:=h.r;omega
  .grind
def TW(B:Nat)(w:Í)(i:Nat):Prop:=B<=i\/∃c T a,w.heap[i]?=Â (Û c T a)/\(T=153\/T=148)
theorem TX(a:TW B w i)(hi:i<B)(h:w.heap[i]?=Â (Û d T xJ))(b:T≠153/\T≠148):False:=by rcases a with q|⟨e,f,qk,g,j⟩;all_goals grind
theorem vL.vd(h:vL B q r w)(k:e9 X w w')(d:∀i,i<w.heap.size->X i->TW B w i):vL B q r w':=by let⟨f,tb,b,g,l,m⟩:=h.I;refine⟨h.M,h.C,f,tb,b.I k λx=>TX (d q b.M x) h.M b A,ic g k λj o x=> ?_,l,m.C k λa c p _ n e x=>TX (d a (á.1 e).1 x) n e A⟩;grind [lP,TX]
def vL.fN(h:vL B q r w)(a:B<=i):vL i q r w:=by let⟨b,tb,c,d,e,f⟩:=h.I;exact⟨by have:=h.M;omega,h.C,b,tb,c,d,λj g=>by have:=e j g;omega,f.M (æ _) a⟩
def pC.C(h:pC B qs rs w)(k:e9 X w w')(a:∀i,i<w.heap.size->X i->TW B w i):pC B qs rs w':= ⟨h.I,λj q r b c=>(h.M j q r b c).vd k a⟩
def pC.TV(h:pC B qs rs w)(b:B<=i)(c:vL i q r w):pC i (qs++[q]) (rs++[r]) w:=by
 refine⟨by simp[h.I],λj x y d a=> ?_⟩;rcases ES d with e|⟨e,rfl⟩
 .rcases ES a with f|⟨f,rfl⟩
  .exact(h.M j x y e f).fN b
  .have:=(Õ.1 e).1;have:=h.I;omega
 .rcases ES a with f|⟨f,rfl⟩
  .have:=(Õ.1 f).1;have:=h.I;omega
  .exact c
theorem pC.N(B:Nat)(w:Í):pC B [] [] w:=⟨U,λj q r h=>by cases h⟩
end
structure Gh where
 a:List Nat
 q:Nat
 t:Nat
 B:Nat
 tb:List Nat
 N:Ñ
 r:Ñ
 b:Option ù
namespace Gh
def C(g:Gh)(d:PD):List Nat:=if d.r then g.a++[g.q]else g.a
def I(g:Gh)(d:PD):List Nat:=if d.M then g.tb++[g.t]else g.tb
def S(g:Gh)(d:PD):Option ù:=if d.r then Â ⟨g.q,0,Á⟩else Á
def Y(g:Gh)(d:PD):Option ù:=if d.M then Â ⟨g.t,0,Á⟩else g.b
def M(g:Gh)(d:PD):Nat:=if d.M then g.t else g.q
def G(g:Gh)(d:PD):Option ù:=if d.r then Â ⟨g.M d,0,Á⟩else Á
def Cg(g:Gh)(d:PD)(a:Int):ù:=if a=86 then⟨g.q,5,Á⟩else if a=87 then⟨g.q,6,Á⟩else if a=110 then⟨g.M d,2,Á⟩else⟨g.M d,3,Á⟩
end Gh
structure vM(m:Nat)(g:Gh)(d:PD)(w:Í):Prop where
 S:m<=g.B
 N:g.B<=g.q
 M:d.I.c.length=8
 r:fh g.q (Cf d.I.c g.r) 161 w
 I:w.ownsRow g.B 149 1 g.r (g.I d).length (nA<|g.I d)
 Y:oK g.B g.t g.tb d.I.r w
 C:d.M=Î->g.B<=g.t/\d.N.c.length=5/\fh g.t (ER d.N) 200 w
 a:d.M=Ë->g.tb=[]/\d.I.r=[]
structure kT(m:Nat)(g:Gh)(d:PD)(w:Í):Prop where
 C:w.ownsRow m 148 1 g.N (g.C d).length (nA<|g.C d)
 I:pC g.B g.a d.S w
 r:d.r=Î->vM m g d w
 N:d.r=Ë->d.M=Ë
def TY(s:ByteArray)(g:Gh)(d:PD)(a:Option ù)(lj b:Int):List Ñ:=
 [Ä s,g.N,Ã<|g.S d,Ã<|g.Y d,Ã<|g.G d,Ã a,Å É lj,Å É b]
structure gQ(m b:Nat)(g:Gh)(c:Option ù)(s:ByteArray)(st:PS)(w:Í):Prop where
 S:m<=b
 a:jz m w
 r:fh b (TY s g st.d c st.r st.I) 153 w
 M:s.size<=10
 I:jT s=st.C
 C:kT m g st.d w
 c:0<st.r->st.d.r=Î/\c=Â (g.Cg st.d st.M)
 N:st.d.r=Î\/st.C=[82]
def rS(m b:Nat)(st:PS)(w a:Í):Prop:=e9 (λi=>m<=i) w a/\∃g i s,gQ m b g i s st a
section
variable{w':Í}{g:Gh}{d:PD}{s:ByteArray}{st:PS}
theorem vM.vd(h:vM m g d w)(k:e9 X w w')(p:∀i c T b,w.heap[i]?=Â (Û c T b)->X i->T=153\/T=148):vM m g d w':=by
 have l:∀{i:Nat} {c:Array Ñ} {T:Ď} {b:Nat×Nat},w.heap[i]?=Â (Û c T b)->(T≠153/\T≠148)->¬X i:=λ{i c T b} n f x=>(p i c T b n x).elim f.1 f.2;refine⟨h.S,h.N,h.M,h.r.I k<|l h.r A,ic h.I k λj r=> ?_,h.Y.C k λa c b _ _ q=>l q A,λe=> ?_,h.a⟩
 .let⟨o,s⟩:=lP h.I r;grind
 .let⟨n,f,o⟩:=h.C e;exact⟨n,f,o.I k<|l o A⟩
theorem kT.S(h:kT m g d w)(k:e9 X w w')(b:∀i c T a,w.heap[i]?=Â (Û c T a)->X i->T=153)(f:∀i,i<w.heap.size->X i->∃c a,w.heap[i]?=Â (Û c 153 a)):kT m g d w':=by
 refine⟨ic h.C k λj l x=> ?_,h.I.C k λi n x=> ?_,λe=>(h.r e).vd k λi c T a q x=>È<|b i c T a q x,h.N⟩
 .let⟨o,q⟩:=lP h.C l;grind
 .let⟨c,a,q⟩:=f i n x;exact Ï ⟨c,_,a,q,È U⟩
def kT.M(h:kT m g d w)(a:fh b l 153 w)(k:e9 (λi=>i=b) w w'):kT m g d w':= h.S k (λi c T e q x=>by subst x;unfold fh at a;rw[a]at q;cases q;rfl) λi _ x=>⟨l.toArray,(0,0),by rwa[x]⟩
def pD{i:Nat}{v:Value}{j:Nat}{vs:List Value}{T:TypeId}(h:fh j vs T w)(hT:ma T=false:=by decide):e9 (λk=>k=j) w (w.setCell ⟨j,i,none⟩ v):=e9.I (X:=λk=>k=j) U v<|Ï<|h.G hT
def kT.aa3(h:kT m g d w):(g.C d).length=d.C.length:=by unfold Gh.C PD.C;split<;>simp[h.I.I]
def vM.G(h:vM m g d w):(g.I d).length=d.Y.length:=by unfold Gh.I PD.Y;split<;>simp[h.Y.r]
def T0(h:i<zQ.length)(v:Ñ):(ou zQ++[v])[i]?=Â (Å É<|zQ.getD i 0):=by rw[Ħ (by simpa[ou]using h)];simp[ou,Ġ,h]
def aa4(l:List Int)(i:Nat)(z:Int)(v:Ñ)(h:i<l.length):(ou l++[v]).set i (Å É z)=ou (l.set i z)++[v]:=by rw[List.set_append_left _ _ (by simpa[ou]using h)];simp[ou,List.map_set]
def aa5(l:List Int)(v u:Ñ):(ou l++[v]).set l.length u=ou l++[u]:=by rw[Ĵ _ _ (by simp[ou])];simp[ou]
def Ch(l:List Int)(v:Ñ):(ou l++[v])[l.length]?=Â v:=by rw[ġ (by simp[ou])];simp[ou]
theorem kT.Y(h:kT m g d w)(on:d.r=Î)(n:i<8)(z:Int):kT m g (d.uI i z) (w.setCell ⟨g.q,i,Á⟩<|Å É z):=by
 have l:=h.r on;have k:e9 (λk=>k=g.q) w (w.setCell ⟨g.q,i,Á⟩<|Å É z):=pD l.r;have r:=l.N;refine⟨ic h.C k λj b x=>jy h.C l.r A (by rw[b,x]),h.I.C k λi _ x=>È Z,λ_=>⟨l.S,l.N,by simp[PD.uI,l.M],?_,ic l.I k λj b x=>jy l.I l.r A (by rw[b,x]),l.Y.C k λa c s _ _ q x=> ?_,λe=> ?_,l.a⟩,h.N⟩
 .have:=l.r.fX i<|Å É z;unfold Cf at this;rw[aa4 _ _ _ _ (by rwa[l.M])]at this;exact this
 .have:=l.r;unfold fh at this;grind
 .let⟨o,p,f⟩:=l.C e;exact⟨o,p,f.I k λx=>(fh.S f l.r A) x⟩
theorem kT.jL(h:kT m g d w)(on:d.r=Î)(f:d.M=Î){p:PT}(n:p.c.length=5)(r:(ER d.N).set i v=ER p):kT m g {d with N:=p} (w.setCell ⟨g.t,i,Á⟩ v):=by have l:=h.r on;let⟨o,s,b⟩:=l.C f;have k:e9 (λk=>k=g.t) w (w.setCell ⟨g.t,i,Á⟩ v):=pD b;refine⟨ic h.C k λj e x=>jy h.C b A (by rw[e,x]),h.I.C k λi _ x=>È Z,λ_=>⟨l.S,l.N,l.M,l.r.I k λx=>(fh.S l.r b A) x,ic l.I k λj e x=>jy l.I b A (by rw[e,x]),l.Y.C k λa c u _ q _ x=>by omega,λ_=>⟨o,n,?_⟩,l.a⟩,h.N⟩;have:=b.fX i v;grind
def kT.G(h:kT m g d w)(on:d.r=Î)(a:d.M=Î)(c:i<5)(z:Int):kT m g (d.vK i z) (w.setCell ⟨g.t,i,Á⟩<|Å É z):=by let⟨e,b,f⟩:=(h.r on).C a;exact h.jL on a (by simp[b])<|aa4 _ _ _ _<|by rwa[b]
def kT.sY(h:kT m g d w)(on:d.r=Î)(a:d.M=Î)(p:ByteArray):kT m g (d.sY p) (w.setCell ⟨g.t,5,Á⟩<|Ä p):=by let⟨e,b,f⟩:=(h.r on).C a;refine h.jL on a b ?_;have:=aa5 d.N.c (Ä d.N.p)<|Ä p;rwa[b]at this
structure qf(m b:Nat)(g:Gh)(d:PD)(ab ao:Nat)(f:Int->PD)(x:Int)(w:Í):Prop where
 r:ab≠b
 N:m<=ab
 a:ab<w.heap.size
 C:w.cell? ⟨ab,ao,Á⟩=Â (Å É x)
 I:w.frozen? ⟨ab,ao,Á⟩=Ë
 nf:NF ab w
 Y:∀W,kT m g d W->∀z,kT m g (f z)<|W.setCell ⟨ab,ao,Á⟩<|Å É z
 M:∀z,g.S (f z)=g.S d/\g.Y (f z)=g.Y d/\g.G (f z)=g.G d/\(f z).r=d.r/\∀n,g.Cg (f z) n=g.Cg d n
theorem EU(h:kT m g d w)(f:fh b l 153 w)(on:d.r=Î)(e:i<8):qf m b g d g.q i (λz=>d.uI i z) (d.I.c.getD i 0) w:=by have a:=h.r on;exact⟨fh.S a.r f A,Ì a.S a.N,a.r.M,a.r.r i _ (T0 (by rwa[a.M]) _),a.r.C i,a.r.G,λW j z=>j.Y on e z,λz=>⟨U,U,U,U,λn=>rfl⟩⟩
theorem aa6(h:kT m g d w)(k:fh b l 153 w)(on:d.r=Î)(f:d.M=Î)(j:i<5):qf m b g d g.t i (λz=>d.vK i z) (d.N.c.getD i 0) w:=by have a:=h.r on;let⟨o,p,e⟩:=a.C f;exact⟨fh.S e k A,Ì a.S o,e.M,e.r i _ (T0 (by rwa[p]) _),e.C i,e.G,λW q z=>q.G on f j z,λz=>⟨U,U,U,U,λn=>rfl⟩⟩
theorem EV(h:kT m g d w)(a:fh b l 153 w)(on:d.r=Î)(c:i<4):qf m b g d (g.M d) i (λz=>d.jL i z) (d.xK i) w:=by unfold PD.jL PD.xK Gh.M;split;all_goals grind [aa6,EU]
theorem gQ.G{f:Int->PD}(h:gQ m b g O s st w)(n:qf m b g st.d i j f c w)(z:Int):gQ m b g O s {st with d:=f z} (w.setCell ⟨i,j,Á⟩<|Å É z):=by
 let⟨e,l,o,a,p⟩:=n.M z;have k:e9 (λk=>k=i) w (w.setCell ⟨i,j,Á⟩<|Å É z):=e9.I (X:=λk=>k=i) U _<|È U;refine⟨h.S,h.a.r _ trivial,?_,h.M,h.I,n.Y w h.C z,λq=> ?_,?_⟩
 .have:=h.r.I k λc=>n.r c.symm;unfold TY at this|-;grind
 .let⟨r,t⟩:=h.c q;grind
 .simp only[a];exact h.N
def gQ.Mt(h:gQ m b g O s st w)(a:ByteArray)(r:List Int)(c:a.size<=10)(e:jT a=r)(f:st.d.r=Î\/r=[82]):gQ m b g O a {st with C:=r} (w.setCell ⟨b,0,Á⟩<|Ä a):= ⟨h.S,h.a.r _ trivial,h.r.fX 0 _,c,e,h.C.M h.r<|pD h.r,h.c,f⟩
def gQ.Y(h:gQ m b g O s st w)(z:Int)(a:0<z->st.d.r=Î/\O=Â (g.Cg st.d st.M)):gQ m b g O s {st with r:=z} (w.setCell ⟨b,6,Á⟩<|Å É z):= ⟨h.S,h.a.r _ trivial,h.r.fX 6 _,h.M,h.I,h.C.M h.r<|pD h.r,a,h.N⟩
def gQ.aa7(h:gQ m b g O s st w)(z:Int):gQ m b g O s {st with I:=z} (w.setCell ⟨b,7,Á⟩<|Å É z):= ⟨h.S,h.a.r _ trivial,h.r.fX 7 _,h.M,h.I,h.C.M h.r<|pD h.r,h.c,h.N⟩
def gQ.aa8(h:gQ m b g O s st w)(a:ù)(n:Int)(d:st.r=0)(c:m<=a.block/\a.block<w.heap.size):gQ m b g (Â a) s {st with M:=n} (w.setCell ⟨b,5,Á⟩<|Ã<|Â a):= ⟨h.S,h.a.r _ c,h.r.fX 5 _,h.M,h.I,h.C.M h.r<|pD h.r,λq=>by have:0<st.r:=q;omega,h.N⟩
def gQ.fS(h:gQ m b g O s st w):gQ m b g O s st w.drew:=by have k:=e9.fS ff w;exact⟨h.S,h.a,h.r.I k id,h.M,h.I,h.C.S k (λ_ _ _ _ _ x=>x.elim) λ_ _ x=>x.elim,h.c,h.N⟩
end
section
variable{g:Gh}{st:PS}{f:Int->PD}
def qf.S{d:PD}(a:qf m b g d n j f h w)(i:Nat)(v:Ñ):qf m b g d n j f h (w.setCell ⟨b,i,Á⟩ v):= ⟨a.r,a.N,by simpa using a.a,by rw[Ho<|Ne.symm a.r];exact a.C,by rw[World.frozen?_setCell];exact a.I,λc T e q=>a.nf c T e (by rwa[ģ _ _ _ _ (by simpa using a.r)]at q),a.Y,a.M⟩
def gQ.T1(h:gQ m b g O B st w)(n:Int)(a:st.r=0):gQ m b g O B {st with M:=n} w:= ⟨h.S,h.a,h.r,h.M,h.I,h.C,λq=>by have:0<st.r:=q;omega,h.N⟩
def mE(h:gQ m b g O B st w)(i:Nat)(v:Ñ):e9 (λi=>m<=i) w (w.setCell ⟨b,i,Á⟩ v):=e9.I (X:=λi=>m<=i) (p:=⟨b,i,Á⟩) h.S v<|Ï h.r.G
def EW(a:qf m b g st.d n j f h w)(z:Int):e9 (λi=>m<=i) w (w.setCell ⟨n,j,Á⟩<|Å É z):=e9.I (X:=λi=>m<=i) (p:=⟨n,j,Á⟩) a.N _<|È U
def vN(c a:Int):Int:=if c=104\/c=48 then 0 else a-1
def mD(c:Int):Int:=if c=104 then-1 else(c-48)%256
def T3{st:PS}(h:st.r=0)(n:Int)(d:PD):({st with r:=0,M:=n,d:=d}:PS)={st with M:=n,d:=d}:=by rw[<-h]
def Mv(a:gQ m b g O B st w)(k:qf m b g st.d n j f h w)(l:st.r=0)(p:st.d.r=Î)(c o i:Int)(C:0<=o)(D:o<=6)(q:∀z,g.Cg (f z) i=⟨n,j,Á⟩): Ò À 147 #[Ã<|Â ⟨b,0,Á⟩,Ã<|Â ⟨n,j,Á⟩,Å ū c,Å É o] w λe u=>
  e=Ç (ë #[])/\rS m b {st with r:=vN c o,M:=i,d:=f (mD c)} w u:=by
 have E:=a.r.r 5 _ U;have F:=a.r.r 6 _ U;have G:=a.r.C 5;have I:=a.r.C 6;have J:=k.C;have K:=k.I;have L:=k.r;have M:¬b=n:=λe=>k.r e.symm;have t:m<=n/\n<w.heap.size:=⟨k.N,k.a⟩;have H:=fe<|Ê a<|Ê k<|Ê q<|Ê l p;by_cases s:c=104
 .subst s;go_enter Ŗ,ŋ;go_wp2;first|go_end0|refine ÿ (results_none U _ _ _) U ?_
  let⟨a,k,q,l,p⟩:=H.out;refine⟨U,EW k _,g,O,B,?_⟩;have:=(a.G k<|-1).T1 i l;rw[show vN 104 o=0 from if_pos<|È U,T3 l];exact this
 .have N:(c==104)=Ë:=by rwa[beq_eq_false_iff_ne]
  have v:mD c=(c-48)%256:=if_neg s;by_cases y:c=48
  .subst y;go_enter Ŗ,ŋ;go_wp2;go_end0;let⟨a,k,q,l,p⟩:=H.out;have x:=a.aa8 ⟨n,j,Á⟩ i l t;have r:=k.S 5<|Ã<|Â ⟨n,j,Á⟩;refine⟨U,(mE a 5 _).fg<|EW r _,g,Â ⟨n,j,Á⟩,B,?_⟩;have:=x.G r 0;rw[show vN 48 o=0 from if_pos<|Ï U,T3 l,v];exact this
  .go_enter Ŗ,ŋ;go_wp2;go_end0;let⟨a,k,q,l,p⟩:=H.out;have r:=k.S 5<|Ã<|Â ⟨n,j,Á⟩;have x:=(a.aa8 ⟨n,j,Á⟩ i l t).G r<|(c-48)%256;refine⟨U,((mE a 5 _).fg<|EW r _).fg<|mE x 6 _,g,Â ⟨n,j,Á⟩,B,?_⟩;rw[show vN c o=o-1 from if_neg Z,v];exact(x.Y (o-1) λ_=>⟨by simp only;rwa[(k.M _).2.2.2.1],by simp only;rw[q]⟩)
theorem Mw{b a:Int}(h:qe a c=Î)(d:(a=86\/a=87)/\b=2\/(a=110\/a=107)/\b=6):vN c b=rN a c:=by unfold vN rN;unfold qe at h;grind [EO]
theorem Mx{a:Int}(h:¬(a=86\/a=87)/\¬(a=110\/a=107)):rN a c=0:=by unfold rN;grind
theorem My{a:Int}(h:a=86\/a=87\/a=110\/a=107):mR a c=mD c:=by unfold mR mD;grind
def T4(a:gQ m b g O B st w)(k:qf m b g st.d n j f h w)(l:st.r=0){i z:Int}(e:c=0)(o:u=(w.setCell ⟨n,j,Á⟩<|Å É z).drew):rS m b {st with r:=c,M:=i,d:=f z} w u:=by subst o;subst e;rw[T3 l];exact⟨(EW k z).fg<|e9.fS _ _,g,O,B,((a.G k z).T1 i l).fS⟩
end
section
variable{g:Gh}{st:PS}
def Ih{d:PD}(a:d.M=Î):g.Y d=Â ⟨g.t,0,Á⟩:=if_pos a
def aqe:xL st 0=Á:=rfl
def aqf(h:gQ m b g O B st w)(r:st.r=0)(on:st.d.r=Î)(f:st.d.M=Î)(k:Int): Ò À 101 #[Ã<|Â ⟨b,0,Á⟩,Å É k] w λe u=>match xL st k with
  |none=>e=Ç (õ Ë)/\u=w
  |some a=>e=Ç (õ Î)/\rS m b a w u:=by
 have s:=h.r.r 0 _ U;have o:=h.r.r 3 _ U;have v:=h.r.r 7 _ U;rw[Ih f]at o;have x:=h.r.C 0;have y:=h.r.C 7;have a:=aa6 h.C h.r on f (i:=4) A;have z:=a.C;have C:=a.I;have D:=a.r;have E:¬b=g.t:=λe=>a.r e.symm;have H:=fe<|Ê h a;by_cases c:k=0
 .subst c;rw[aqe];go_enter Κ,ż;go_wp2;go_ret;exact⟨U,U⟩
 .have F:(k==0)=Ë:=by rwa[beq_eq_false_iff_ne]
  have e:xL st k=Â {st with C:=pA k,I:=0,d:=st.d.vK 4 k}:=if_neg c;rw[e];go_enter Κ,ż;go_wp2_with (go_at_call 148;refine(ap9 _ _).mono ?_;rintro e u ⟨⟨j,rfl,p,q⟩,l⟩;subst u);go_ret;let⟨h,a⟩:=H.out;have l:=h.G a k;have n:=l.aa7 0;exact⟨U,((EW a k).fg<|mE l 7 _).fg<|mE n 0 _,g,O,j,n.Mt j _ p q<|È on⟩
end
def aqg:(À.info? 149).map (λi=>(i.zero,i.size,i.bytes))=Â (Â<|Ã Á,1,8):=fu
def aqh:(À.info? 148).map (λi=>(i.zero,i.size,i.bytes))=Â (Â<|Ã Á,1,8):=fu
section
variable{g:Gh}{nm:Option ù}{s:ByteArray}{st:PS}{d:PD}{T:Nat}
structure uJ(m:Nat)(g:Gh)(d:PD)(T:Nat)(w:Í):Prop where
 C:w.ownsRow m 148 1 g.N (g.C d).length (nA<|g.C d)
 I:pC g.B g.a d.S w
 N:oK g.B T (g.I d) d.Y w
 tb:fh T (ER PD.EL) 200 w
def Ii(x:i=j)(h:fh j l t w):w.heap[i]?=Â (Û l.toArray t (0,0)):=by rwa[x]
theorem uJ.r(h:uJ m g d T w)(k:e9 X w u)(f:∀i,i<w.heap.size->X i->∃c t b,w.heap[i]?=Â (Û c t b)/\(t=153\/(t=161\/t=149)/\g.B<=i)):uJ m g d T u:=by
 have e:∀{i:Nat} {c:Array Ñ} {t:Ď} {b:Nat×Nat},w.heap[i]?=Â (Û c t b)->(t≠153/\t≠161/\t≠149)->¬X i:=λ{i c t b} q1 q2 x=>by grind
 refine⟨ic h.C k λj l=> ?_,h.I.C k λi n x=> ?_,h.N.C k λa c b _ _ q=>e q A,h.tb.I k<|e h.tb A⟩
 .let⟨o,p⟩:=lP h.C l;grind
 .let⟨r,s,qk,o,p⟩:=f i n x;rcases p with rfl|⟨_,z⟩
  .exact Ï ⟨_,_,_,o,È U⟩
  .exact È z
def uJ.fL(h:uJ m g d T w)(k:e9 ff w u):uJ m g d T u:=h.r k λ_ _ x=>x.elim
def uJ.M(h:uJ m g d T w)(a:fh b l 153 w):uJ m g d T (w.setCell ⟨b,i,Á⟩ v):= h.r (pD a) λi _ x=>⟨_,_,_,Ii x a,È U⟩
theorem vM.aa9(l:vM m g d w):oK g.B w.heap.size (g.I d) d.Y w:=by
 unfold Gh.I PD.Y;split
 .rename_i e;let⟨b,c,a⟩:=l.C e;have:=a.M;exact(l.Y.M (æ _) Z).TV b a.M c a
 .rename_i e;let⟨b,c⟩:=l.a (by simpa using e);grind [oK.N]
theorem jz.C(n:jz m w)(g:fh b l e w)(C:m<=b)(p:e≠304/\e≠305)(d:Array Ñ)(t:Ď)(u:0<d.size)(r:t≠304/\t≠305)(h:∀v∈d.toList,mS m (w.heap.size+1) v):jz m ((w.setCell ⟨b,i,Á⟩<|Ã<|Â ⟨w.heap.size,0,Á⟩).alloc<|Û d t):=by
 have s:(w.setCell ⟨b,i,Á⟩<|Ã<|Â ⟨w.heap.size,0,Á⟩).heap.size=w.heap.size:=fj
 have D:=g.M;intro j o k c;have x:((w.setCell ⟨b,i,Á⟩<|Ã<|Â ⟨w.heap.size,0,Á⟩).alloc<|Û d t).heap.size=w.heap.size+1:=fj
 rw[x];by_cases a:j<w.heap.size
 .rw[Š _ _ _ (by rwa[s])]at c;by_cases f:j=b
  .subst f;have:=g.fX i<|Ã<|Â ⟨w.heap.size,0,Á⟩;unfold fh at this;rw[this]at c;cases c;let⟨E,F,G,y,H,z,I,J,B⟩:=n j _ k g;cases y;refine⟨_,_,_,U,fj,by simpa using z,p.1,p.2,λv h=> ?_⟩;rcases Ĩ (by simpa using h)with q|q
   .exact(B v<|by simpa using q).r Z
   .rw[q];exact⟨Ì k<|Nat.le_of_lt a,Nat.lt_succ_self _⟩
  .rw[ģ _ _ _ _ (by simpa using f)]at c;exact(n j o k c).r Z
 .by_cases f:j=w.heap.size
  .have:=Ŵ (w.setCell ⟨b,i,Á⟩<|Ã<|Â ⟨w.heap.size,0,Á⟩)<|Û d t;rw[s]at this;rw[f,this]at c;cases c;exact⟨_,_,_,U,Ö _,u,r.1,r.2,h⟩
  .grind
def Mz(b:Nat)(w:Í):Í:=(w.setCell ⟨b,3,Á⟩<|Ã<|Â ⟨w.heap.size,0,Á⟩).alloc<|Û #[Å É 0,Å É 0,Å É 0,Å É 0,Å É 0,Ä ⟨#[]⟩] 200
def rdM(s:ByteArray)(g:Gh)(d:PD)(a b nm:Option ù)(lj c:Int):List Ñ:=
 [Ä s,g.N,Ã<|g.S d,Ã a,Ã b,Ã nm,Å É lj,Å É c]
structure EX(m b:Nat)(g:Gh)(d:PD)(T:Nat)(s:ByteArray)(tm nm:Option ù)(lj T5:Int)(w0 w:Í):Prop where
 S:e9 (λi=>m<=i) w0 w
 N:jz m w
 r:fh b (rdM s g d (Â ⟨T,0,Á⟩) tm nm lj T5) 153 w
 M:uJ m g d T w
 I:fh g.q (Cf d.I.c g.r) 161 w
 C:w.ownsRow g.B 149 1 g.r (g.I d).length (nA<|g.I d)
def EX.fL{lj:Int}(h:EX m b g d T s O nm lj c W w)(k:e9 ff w u)(a:jz m u):EX m b g d T s O nm lj c W u:= ⟨h.S.C k λ_ _ x=>x.elim,a,h.r.I k id,h.M.fL k,h.I.I k id,ic h.C k λ_ _=>id⟩
theorem gQ.aqi(h:gQ m b g nm s st w)(on:st.d.r=Î):EX m b g st.d w.heap.size s (g.G st.d) nm st.r st.I w (Mz b w):=by
 have l:=h.C.r on;have p:(w.setCell ⟨b,3,Á⟩<|Ã<|Â ⟨w.heap.size,0,Á⟩).heap.size=w.heap.size:=fj
 have n:e9 ff (w.setCell ⟨b,3,Á⟩<|Ã<|Â ⟨w.heap.size,0,Á⟩) (Mz b w):=e9.gJ _ _ _ _;have r:e9 (λk=>k=b) w (w.setCell ⟨b,3,Á⟩<|Ã<|Â ⟨w.heap.size,0,Á⟩):=pD h.r;have e:=r.C n λ_ _ x=>x.elim;refine⟨e.S λk _ x=>by rw[x];exact h.S,?_,(h.r.fX 3 _).I n id,⟨ic h.C.C e λj f x=>jy h.C.C h.r A (by rw[f,x]),h.C.I.C e λi _ x=>Ï ⟨_,_,_,Ii x h.r,È U⟩,l.aa9.C e λa c t _ _ q x=> ?_,?_⟩,l.r.I e λx=>fh.S l.r h.r A x,ic l.I e λj f x=>jy l.I h.r A<|by rw[f,x]⟩
 .exact h.a.C h.r h.S A _ _ fj A λv o=>by simp at o;rcases o with rfl|rfl<;>trivial
 .have o:=h.r;unfold fh at o;grind
 .have:=fh.N (w.setCell ⟨b,3,Á⟩<|Ã<|Â ⟨w.heap.size,0,Á⟩) [Å É 0,Å É 0,Å É 0,Å É 0,Å É 0,Ä ⟨#[]⟩] 200;rwa[p]at this
def T7(g:Gh)(d:PD)(T:Nat)(v:Ñ):Gh:={g with t:=T,tb:=g.I d,r:=v}
theorem EX.jG(h:EX m b g st.d T s O nm st.r st.I w u)(C:m<=b)(on:st.d.r=Î)(a:m<=g.B/\g.B<=g.q/\st.d.I.c.length=8)(D:g.B<=T)(hd:st.r=0) (l:pW u g.B 149 1 g.r (g.I st.d).length (nA<|g.I st.d) 1 [Ã<|Â ⟨T,0,Á⟩] v W) (K:jz m W) (L:mS m W.heap.size v) (n:jX=((W.setCell ⟨g.q,8,Á⟩ v).setCell ⟨b,4,Á⟩<|Ã<|Â ⟨T,0,Á⟩).setCell ⟨b,0,Á⟩ (Ä ⟨#[84]⟩)): e9 (λi=>m<=i) w jX/\gQ m b (T7 g st.d T v) nm ⟨#[84]⟩ {st with C:=[84],d:=st.d.rO} jX:=by
 have E:∀{j:Nat} {M:List Ñ} {t:Ď},fh j M t u->149≠t->¬g.r.ownBlock=Â j:=λN f=>jy h.C N f;have F:=h.r.I l.r<|E h.r A;have f:=h.I.I l.r<|E h.I A;have P:=h.M.r l.r λi _ x=>by let⟨k,z⟩:=lP h.C x;exact⟨_,_,_,z,Ï ⟨Ï U,(h.C.lt i x).1⟩⟩
 have o:e9 (λk=>k=g.q) W (W.setCell ⟨g.q,8,Á⟩ v):=pD f;have G:fh g.q (Cf st.d.I.c v) 161 (W.setCell ⟨g.q,8,Á⟩ v):=by have:=f.fX 8 v;have e:=aa5 st.d.I.c g.r v;rw[a.2.2]at e;unfold Cf at this|-;grind
 have z:=F.I o λx=>fh.S F f A x;have H:=P.r o λi _ x=>⟨_,_,_,Ii x f,Ï ⟨È U,by rw[x];exact a.2.1⟩⟩;have I:=ic l.fp o λj p x=>jy l.fp f A (by rw[p,x]);have Q:jz m (W.setCell ⟨g.q,8,Á⟩ v):=K.r _ L;have S:e9 (λk=>k=b) (W.setCell ⟨g.q,8,Á⟩ v) ((W.setCell ⟨g.q,8,Á⟩ v).setCell ⟨b,4,Á⟩<|Ã<|Â ⟨T,0,Á⟩):=pD z;have r:=z.fX 4<|Ã<|Â ⟨T,0,Á⟩;have V:e9 (λk=>k=b) ((W.setCell ⟨g.q,8,Á⟩ v).setCell ⟨b,4,Á⟩<|Ã<|Â ⟨T,0,Á⟩) jX:=by rw[n];exact pD r
 have J:=r.fX 0<|Ä ⟨#[84]⟩;rw[<-n]at J;have k:uJ m g st.d T jX:=by rw[n];exact(H.M z).M r
 have y:=S.fg V;have X:=G.I y λx=>fh.S G z A x;have Y:=ic I y λj p x=>jy I z A (by rw[p,x]);have hTl:=H.tb.M;have c5:jz m jX:=by rw[n];refine(Q.r _ ?_).r _ trivial;exact⟨Ì a.1 D,hTl⟩
 have e1:(g.I st.d++[T]).length=(g.I st.d).length+1:=fj
 have e2:nA (g.I st.d++[T])=nA (g.I st.d)++[Ã<|Â ⟨T,0,Á⟩]:=by simp[nA]
 refine⟨((h.S.C l.r λi _ x=> ?_).C o λi _ x=> ?_).C y λi _ x=> ?_,C,c5,?_,A,U,⟨k.C,k.I,λ_=>⟨a.1,a.2.1,a.2.2,X,?_,k.N,λ_=>⟨D,U,k.tb⟩,λe=>by cases e⟩,λe=> ?_⟩,λe=> ?_,È on⟩
 .have:=(h.C.lt i x).1;have:=a.1;omega
 .grind
 .rwa[x]
 .have e:(T7 g st.d T v).S st.d.rO=g.S st.d:=U;unfold TY;rw[e];have e4:(T7 g st.d T v).G st.d.rO=Â ⟨T,0,Á⟩:=if_pos on;rwa[e4]
 .show jX.ownsRow g.B 149 1 v (g.I st.d++[T]).length (nA<|g.I st.d++[T]);rwa[e1,e2]
 .have:st.d.r=Ë:=e;grind
 .grind
def abb(h:gQ m b g nm s st w)(C:st.r=0)(o:st.d.r=Î)(D:st.d.Y.length<=100000): Ò À 99 #[Ã<|Â ⟨b,0,Á⟩] w λe u=>e=Ç (ë #[])/\rS m b {st with C:=[84],d:=st.d.rO} w u:=by
 have Y:=h.r.r 3 _ U;have f3:=h.r.C 3;have gN:=h.r.M;have l:=h.C.r o;have y:=h.aqi o;have E:=λv=>by have:=Ch st.d.I.c v;rwa[l.M]at this
 have F:m<=g.B/\g.B<=g.q/\st.d.I.c.length=8:=⟨l.S,l.N,l.M⟩;have G:g.B<=w.heap.size:=by have:=l.r.M;have:=l.N;omega
 have I:(g.I st.d).length<=100000:=by rwa[l.G]
 have J:=h.S;have H:=fe<|Ê F<|Ê G<|Ê I<|Ê J<|Ê C o;have j:=fe<|E g.r;have x:g.S st.d=Â ⟨g.q,0,Á⟩:=if_pos o;go_enter Tryz.func99,Tryz.ntmps99;go_wp2_with fail;change à À _ _ _ (Mz b w);have k:=y.fL (e9.fS _ _) y.N.fS;generalize hT:w.heap.size=T at*;generalize L:(Mz b w).drew=w1 at*;let⟨i0,M,N,O,P⟩:=ů aqg;have p:=fe<|Ê M<|Ê N<|Ê O P;refine mf (λu=>u.cell? ⟨b,2,Á⟩=Â (Ã<|g.S st.d)/\u.cell? ⟨b,3,Á⟩=Â (Ã<|Â ⟨T,0,Á⟩)/\u.cell? ⟨g.q,8,Á⟩=Â g.r) [19] fu ?_;rw[L];rw[x];have Q:Hid (w1.cell? ⟨b,2,Á⟩=Â (Ã<|Â ⟨g.q,0,Á⟩)/\w1.cell? ⟨b,3,Á⟩=Â (Ã<|Â ⟨T,0,Á⟩)/\w1.cell? ⟨g.q,8,Á⟩=Â g.r):=fe ⟨by rw[<-x];exact k.r.r 2 _ U,k.r.r 3 _ U,k.I.r 8 _ j.out⟩;have r:=fe x;iterate 15 apply tk Q.out
 have S:=k.M.tb.M;have a:=k.fL (e9.gJ ff w1 #[Ã<|Â ⟨T,0,Á⟩] 149) (k.N.gJ _ _ fj A λv f=>by simp at f;subst f;exact⟨Ì H.out.1.1 H.out.2.1,S⟩);apply gC 15;intro K i;go_simp;refine i.out _ _ (λ_=>⟨by rw[<-r.out];exact a.r.r 2 _ U,a.r.r 3 _ U,a.I.r 8 _ j.out⟩) ?_;apply gC 16;intro K i;refine aa2 fQ _ _ 159 fQ Tryz.underlying159 p.out.1 p.out.2.1 p.out.2.2.1 p.out.2.2.2 fQ a.C ⟨w1.heap.size,0,Á⟩ fQ (Λ w1 _ _) U (by have:=H.out.2.2.1;unfold đ;omega) (by have:=H.out.2.2.1;omega) (by have:=H.out.2.1;have:=a.M.tb.M;omega) A H.out.1.1 a.N ⟨Ì H.out.1.1 H.out.2.1,a.M.tb.M⟩ A ?_;intro v9 w9 t V W;obtain⟨a9,n9c,rfl⟩:=jg t.fp;have f:=a.r.I t.r<|jy a.C a.r A;have n:=a.I.I t.r<|jy a.C a.I A;refine i.out _ _ (λ_=>⟨by rw[<-r.out];exact f.r 2 _ U,f.r 3 _ U,n.r 8 _ j.out⟩) ?_;apply gC 17;intro K i;go_simp;refine i.out _ _ (λ_=>⟨by rw[<-r.out];exact f.r 2 _ U,f.r 3 _ U,n.r 8 _ j.out⟩) ?_;apply gC 18;intro K i;go_simp;refine i.out _ _ (λ_=>⟨by rw[<-r.out];exact f.r 2 _ U,f.r 3 _ U,n.r 8 _ j.out⟩) ?_;have cq8:=n.r 8 _ j.out;have fq8:=n.C 8;have cb4:=f.r 4 _ U;have fb4:=f.C 4;have cb0:=f.r 0 _ U;have fb0:=f.C 0;have cb3:=f.r 3 _ U;have X:=fh.S n f A;have hbq:¬b=g.q:=λe=>X e.symm;apply gC 19;intro K i;go_simp;apply i.out _ _ λz=>absurd A z;refine lR fu ?_ _;have z:=fe<|a.jG H.out.2.2.2.1 o H.out.1 H.out.2.1 H.out.2.2.2.2.1 t V W U;go_wp2_with fail;go_end0;exact⟨U,z.out.1,_,_,_,z.out.2⟩
end
section
variable{g:Gh}{nm:Option ù}{s:ByteArray}{f:PS}{d:PD}{Q:Nat}{k:Int}
def aqj(h:w.ownsRow i e 1 v n l)(c:j<=i):w.ownsRow j e 1 v n l:= ⟨h.1,h.2.imp id λ⟨g,d,f,a,b,r⟩=>⟨g,d,f,a,Ì c b,r⟩⟩
def vM.gf(l:vM m g d w):vL w.heap.size g.q ⟨d.I.c,d.Y⟩ w:= ⟨l.r.M,l.M,g.r,g.I d,l.r,aqj l.I<|Ö _,λj a=>(l.I.lt j a).2,l.aa9.M (Ö _)<|æ _⟩
theorem kT.abd(h:kT m g d w)(a:d.r=Ë->d.S=[]):pC w.heap.size (g.C d) d.C w:=by
 unfold Gh.C PD.C;split
 .rename_i e;have l:=h.r e;have b:=l.r.M;have c:=l.N;exact h.I.TV Z l.gf
 .rename_i e;have f:=a (by simpa using e);have:=h.I.I;grind [Ý,pC.N]
def MA(b:Nat)(k:Int)(w:Í):Í:=(w.setCell ⟨b,2,Á⟩<|Ã<|Â ⟨w.heap.size,0,Á⟩).alloc<|Û #[Å É 0,Å É 0,Å É 0,Å É 0,Å É k,Å É 0,Å É 0,Å É 0,Æ Á 0 0] 161
def rdQ(s:ByteArray)(g:Gh)(d:PD)(Q:Nat)(nm:Option ù)(lj a:Int):List Ñ:=
 [Ä s,g.N,Ã<|Â ⟨Q,0,Á⟩,Ã<|g.Y d,Ã<|g.G d,Ã nm,Å É lj,Å É a]
structure EY(m b:Nat)(g:Gh)(d:PD)(Q:Nat)(k:Int)(s:ByteArray)(nm:Option ù)(lj T5:Int)(w0 w:Í):Prop where
 S:e9 (λi=>m<=i) w0 w
 M:jz m w
 r:fh b (rdQ s g d Q nm lj T5) 153 w
 I:fh Q (Cf (PD.aa0 k).c<|Æ Á 0 0) 161 w
 N:pC Q (g.C d) d.C w
 C:w.ownsRow m 148 1 g.N (g.C d).length (nA<|g.C d)
def EY.fL{lj:Int}(h:EY m b g d Q k s nm lj c W w)(a:e9 ff w u)(e:jz m u):EY m b g d Q k s nm lj c W u:= ⟨h.S.C a λ_ _ x=>x.elim,e,h.r.I a id,h.I.I a id,h.N.C a λ_ _ x=>x.elim,ic h.C a λ_ _=>id⟩
def gQ.aqk(h:gQ m b g nm s f w)(k:Int)(l:f.d.r=Ë->f.d.S=[]):EY m b g f.d w.heap.size k s nm f.r f.I w (MA b k w):=by
 have n:(w.setCell ⟨b,2,Á⟩<|Ã<|Â ⟨w.heap.size,0,Á⟩).heap.size=w.heap.size:=fj
 have c:e9 ff (w.setCell ⟨b,2,Á⟩<|Ã<|Â ⟨w.heap.size,0,Á⟩) (MA b k w):=e9.gJ _ _ _ _;have o:e9 (λk=>k=b) w (w.setCell ⟨b,2,Á⟩<|Ã<|Â ⟨w.heap.size,0,Á⟩):=pD h.r;have a:=o.C c λ_ _ x=>x.elim;refine⟨a.S λk _ x=>by rw[x];exact h.S,?_,(h.r.fX 2 _).I c id,?_,(h.C.abd l).C a λi _ x=>Ï ⟨_,_,_,Ii x h.r,È U⟩,ic h.C.C a λj p x=>jy h.C.C h.r A<|by rw[p,x]⟩
 .exact h.a.C h.r h.S A _ _ fj A λv e=>by simp at e;rcases e with rfl|rfl|rfl|rfl<;>trivial
 .have:=fh.N (w.setCell ⟨b,2,Á⟩<|Ã<|Â ⟨w.heap.size,0,Á⟩) [Å É 0,Å É 0,Å É 0,Å É 0,Å É k,Å É 0,Å É 0,Å É 0,Æ Á 0 0] 161;rwa[n]at this
def aql(g:Gh)(d:PD)(Q:Nat)(v:Ñ):Gh:={a:=g.C d,q:=Q,t:=Q,B:=Q,tb:=[],N:=v,r:=Æ Á 0 0,b:=g.Y d}
theorem EY.jG{sb:ByteArray}(h:EY m b g f.d Q k s nm f.r f.I w u)(o:m<=b)(p:m<=Q)(S:f.r=0)(y:sb.size<=10)(B:jT sb=vH k) (a:pW u m 148 1 g.N (g.C f.d).length (nA<|g.C f.d) 1 [Ã<|Â ⟨Q,0,Á⟩] v W) (C:jz m W) (D:mS m W.heap.size v) (l:jX=((W.setCell ⟨b,1,Á⟩ v).setCell ⟨b,4,Á⟩<|Ã<|Â ⟨Q,0,Á⟩).setCell ⟨b,0,Á⟩ (Ä sb)): e9 (λi=>m<=i) w jX/\gQ m b (aql g f.d Q v) nm sb {f with C:=vH k,d:=f.d.EP k} jX:=by
 have c:=h.r.I a.r<|jy h.C h.r A;have n:=h.I.I a.r<|jy h.C h.I A;have E:=h.N.C a.r λi _ x=>by let⟨e,z⟩:=lP h.C x;exact Ï ⟨_,_,_,z,Ï U⟩
 have F:e9 (λk=>k=b) W (W.setCell ⟨b,1,Á⟩ v):=pD c;have q:=c.fX 1 v;have G:e9 (λk=>k=b) (W.setCell ⟨b,1,Á⟩ v) ((W.setCell ⟨b,1,Á⟩ v).setCell ⟨b,4,Á⟩<|Ã<|Â ⟨Q,0,Á⟩):=pD q;have r:=q.fX 4<|Ã<|Â ⟨Q,0,Á⟩;have H:e9 (λk=>k=b) ((W.setCell ⟨b,1,Á⟩ v).setCell ⟨b,4,Á⟩<|Ã<|Â ⟨Q,0,Á⟩) jX:=by rw[l];exact pD r
 have t:=r.fX 0<|Ä sb;rw[<-l]at t;have z:=(F.fg G).fg H;have I:=n.I z λx=>fh.S n c A x;have J:=E.C z λi _ x=>Ï ⟨_,_,_,Ii x c,È U⟩;have K:=ic a.fp z λj L x=>jy a.fp c A (by rw[L,x]);have M:Q<(W.setCell ⟨b,1,Á⟩ v).heap.size:=by simpa using n.M
 have N:jz m jX:=by rw[l];refine((C.r _ D).r _ ?_).r _ trivial;exact⟨p,M⟩
 have O:(g.C f.d++[Q]).length=(g.C f.d).length+1:=fj
 have P:nA (g.C f.d++[Q])=nA (g.C f.d)++[Ã<|Â ⟨Q,0,Á⟩]:=by simp[nA]
 refine⟨(h.S.C a.r λi _ x=> ?_).C z λi _ x=> ?_,o,N,t,y,B,⟨?_,J,λ_=>⟨p,æ _,U,I,?_,oK.N _ _ _,(λe=>by cases e),λ_=>⟨rfl,rfl⟩⟩,(λe=>by cases e)⟩,λe=> ?_,È rfl⟩
 .exact(h.C.lt i x).1
 .rwa[x]
 .show jX.ownsRow m 148 1 v (g.C f.d++[Q]).length (nA<|g.C f.d++[Q]);rwa[O,P]
 .exact⟨U,È ⟨U,U⟩⟩
 .grind
def aqm:zM f 0=Á:=rfl
def aqn(h:gQ m b g nm s f w)(r:f.r=0)(t:f.d.r=Ë->f.d.S=[])(x:f.d.C.length<=100000)(k:Int): Ò À 96 #[Ã<|Â ⟨b,0,Á⟩,Å É k] w λe u=>match zM f k with
  |none=>e=Ç (õ Ë)/\u=w
  |some c=>e=Ç (õ Î)/\rS m b c w u:=by
 by_cases l:k=0
 .subst l;rw[aqm];go_enter Ω,Μ;go_wp2;go_ret;exact⟨U,U⟩
 have Q:(k==0)=Ë:=by rwa[beq_eq_false_iff_ne]
 have e:zM f k=Â {f with C:=vH k,d:=f.d.EP k}:=if_neg l;rw[e];have S:=h.r.r 2 _ U;have V:=h.r.C 2;have W:=h.r.M;have p:=h.aqk k t;have y:(g.C f.d).length<=100000:=by rwa[h.C.aa3]
 have z:=h.S;have B:m<=w.heap.size:=Z
 have H:=fe<|Ê z<|Ê B<|Ê y r;go_enter Ω,Μ;go_wp2_with fail;change à À _ _ _ (MA b k w);have i:=p.fL (e9.fS _ _) p.M.fS;generalize X:w.heap.size=T at*;generalize C:(MA b k w).drew=w1 at*;let⟨Y,D,E,F,G⟩:=ů aqh;have j:=fe<|Ê D<|Ê E<|Ê F G;refine mf (λu=>u.cell? ⟨b,1,Á⟩=Â g.N/\u.cell? ⟨b,2,Á⟩=Â (Ã<|Â ⟨T,0,Á⟩)) [13] fu ?_;rw[C];have I:Hid (w1.cell? ⟨b,1,Á⟩=Â g.N/\w1.cell? ⟨b,2,Á⟩=Â (Ã<|Â ⟨T,0,Á⟩)):=fe ⟨i.r.r 1 _ U,i.r.r 2 _ U⟩;iterate 9 apply tk I.out
 have J:=i.I.M;have a:=i.fL (e9.gJ ff w1 #[Ã<|Â ⟨T,0,Á⟩] 148) (i.M.gJ _ _ fj A λv c=>by simp at c;subst c;exact⟨H.out.2.1,J⟩);apply gC 9;intro K c;go_simp;apply c.out _ _ λ_=>⟨a.r.r 1 _ U,a.r.r 2 _ U⟩;apply gC 10;intro K c;refine aa2 fQ _ _ 61 fQ Tryz.underlying61 j.out.1 j.out.2.1 j.out.2.2.1 j.out.2.2.2 fQ a.C ⟨w1.heap.size,0,Á⟩ fQ (Λ w1 _ _) U (by have:=H.out.2.2.1;unfold đ;omega) (by have:=H.out.2.2.1;omega) (by have:=H.out.2.1;have:=a.I.M;omega) A (æ _) a.M ⟨H.out.2.1,a.I.M⟩ A ?_;intro v9 w9 n L M;obtain⟨a9,n9c,rfl⟩:=jg n.fp;have v:=a.r.I n.r<|jy a.C a.r A;apply c.out _ _ λ_=>⟨v.r 1 _ U,v.r 2 _ U⟩;apply gC 11;intro K c;go_simp;apply c.out _ _ λ_=>⟨v.r 1 _ U,v.r 2 _ U⟩;apply gC 12;intro K c;go_simp;apply c.out _ _ λ_=>⟨v.r 1 _ U,v.r 2 _ U⟩;have cb1:=v.r 1 _ U;have fb1:=v.C 1;have cb4:=v.r 4 _ U;have fb4:=v.C 4;have cb0:=v.r 0 _ U;have fb0:=v.C 0;have cb2:=v.r 2 _ U;apply gC 13;intro K c;go_simp;apply c.out _ _ λo=>absurd A o;refine lR fu ?_ _;have N:=fe λo q O=>a.jG (sb:=o) H.out.1 H.out.2.1 H.out.2.2.2 q O n L M U;go_wp2_with (go_at_call 145;refine(ap8 _ _).mono ?_;rintro e u ⟨⟨o,rfl,O,P⟩,q⟩;subst u);go_ret;have q:=N.out o O P;exact⟨U,q.1,_,_,_,q.2⟩
end
def lu(i:Nat)(z:Int):Prop:=match i with
 |0=>0<=z/\z<8
 |1=>0<=z/\z<8
 |2=>0<=z/\z<1000000
 |3=>0<=z/\z<1000000
 |4=>1<=z/\z<10
 |5=>-1<=z/\z<1000000
 |6=>-1<=z/\z<1000000
 |7=>0<=z/\z<16
 |_=>True
structure EZ(n m:Nat)(c:List Int):Prop where
 C:c.length=n
 r:∀i,i<m->lu i (c.getD i 0)
theorem EZ.I(h:EZ n m zQ)(i:Nat)(z:Int)(b:i<m->lu i z):EZ n m (zQ.set i z):=by refine⟨by simp[h.C],λj a=> ?_⟩;have:=h.r j a;grind
def abe(h:i<zQ.length)(z:Int):(zQ.set i z).getD i 0=z:=by simp[Ġ,h]
structure nU(t:PT):Prop where
 c:EZ 5 4 t.c
 p:t.p.size<=40/\∀c∈t.p.data.toList,xu c=Î
structure uK(r:PR):Prop where
 c:EZ 8 8 r.c
 C:∀t∈r.r,nU t
 n:r.r.length<=8
structure ko(d:PD):Prop where
 N:d.r=Ë->d.S=[]/\d.M=Ë
 b:d.M=Ë->d.I.r=[]
 C:d.C.length<=24
 I:d.Y.length<=8
 S:∀r∈d.S,uK r
 M:d.r=Î->EZ 8 8 d.I.c
 a:d.r=Î->∀t∈d.I.r,nU t
 Y:d.M=Î->nU d.N
structure jr(B:ByteArray)(k:Nat)(st:PS):Prop where
 M:0<=st.r
 r:st.r<=5
 C:0<=st.I
 I:st.I<=40
 e:0<st.r->(st.M=86\/st.M=87\/st.M=110\/st.M=107)/\st.d.r=Î/\0<=st.d.G st.M/\st.d.G st.M<10^(6-st.r.toNat)
 d:ko st.d
 c:st.d.r=Î\/st.C=[82]
 b:82∈st.C->st.d.C.length<24
 N:84∈st.C\/80∈st.C->st.d.M=Î
 a:66∈st.C->st.d.M=Ë
 S:80∈st.C->st.C=[80]/\st.r=0
 Y:80∈st.C->st.I.toNat<=k/\∀j (h:j<B.size),k-st.I.toNat<=j->j<k->xu B[j]=Î
section
variable{d:PD}{st o:PS}
def ko.abf(h:ko d)(on:d.r=Î):∀t∈d.Y,nU t:=by
 unfold PD.Y;split
 .rename_i e;intro t a;rcases â.1 a with q|q
  .exact h.a on t q
  .rw[ō]at q;rw[q];exact h.Y e
 .exact h.a on
def ko.G(h:ko d):∀r∈d.C,uK r:=by
 unfold PD.C;split
 .rename_i e;intro r a;rcases â.1 a with q|q
  .exact h.S r q
  .rw[ō]at q;rw[q];exact⟨h.M e,h.abf e,h.I⟩
 .exact h.S
def xM(d:PD):d.C.length=d.S.length+(if d.r then 1 else 0):=by unfold PD.C;split<;>simp
def Ij(d:PD):d.Y.length=d.I.r.length+(if d.M then 1 else 0):=by unfold PD.Y;split<;>simp
def ko.r(h:ko d)(i:Nat)(z:Int)(a:lu i z):ko (d.uI i z):= ⟨h.N,h.b,by have:=h.C;rw[xM]at this|-;exact this,by have:=h.I;rw[Ij]at this|-;exact this,h.S,λe=>(h.M e).I i z λ_=>a,h.a,h.Y⟩
def ko.vK(h:ko d)(i:Nat)(z:Int)(a:i<4->lu i z):ko (d.vK i z):= ⟨h.N,h.b,by have:=h.C;rw[xM]at this|-;exact this,by have:=h.I;rw[Ij]at this|-;exact this,h.S,h.M,h.a,λe=>⟨(h.Y e).c.I i z a,(h.Y e).p⟩⟩
def ko.jL(h:ko d)(i:Nat)(z:Int)(a:lu i z):ko (d.jL i z):=by
 unfold PD.jL;split
 .exact h.vK i z λ_=>a
 .exact h.r i z a
def ko.sY(h:ko d)(p:ByteArray)(a:p.size<=40/\∀c∈p.data.toList,xu c=Î):ko (d.sY p):= ⟨h.N,h.b,by have:=h.C;rw[xM]at this|-;exact this,by have:=h.I;rw[Ij]at this|-;exact this,h.S,h.M,h.a,λe=>⟨(h.Y e).c,a⟩⟩
def aqo:nU PD.EL:=⟨⟨U,λi a=>by
 match i,a with
 |0,_=>exact⟨A,A⟩
 |1,_=>exact⟨A,A⟩
 |2,_=>exact⟨A,A⟩
 |3,_=>exact⟨A,A⟩⟩,⟨A,λc b=>by cases b⟩⟩
def ko.rO(h:ko d)(on:d.r=Î)(a:d.Y.length<8):ko d.rO:= ⟨(λe=>by have:d.r=Ë:=e;rw[on]at this;cases this),(λe=>by cases e),by have:=h.C;rw[xM]at this|-;exact this,by rwa[Ij],h.S,λe=>h.M e,λ_=>h.abf on,λ_=>aqo⟩
def ko.EP(h:ko d)(q:Int)(a:1<=q/\q<10)(b:d.C.length<24):ko (d.EP q):= ⟨(λe=>by cases e),λ_=>rfl,by rwa[xM],by show(0:Nat)<=8;decide,h.G,λ_=>⟨U,λi c=>by
   match i,c with
   |0,_=>exact⟨by show(0:Int)<=0;decide,by show(0:Int)<8;decide⟩
   |1,_=>exact⟨by show(0:Int)<=0;decide,by show(0:Int)<8;decide⟩
   |2,_=>exact⟨by show(0:Int)<=0;decide,by show(0:Int)<1000000;decide⟩
   |3,_=>exact⟨by show(0:Int)<=0;decide,by show(0:Int)<1000000;decide⟩
   |4,_=>exact a
   |5,_=>exact⟨by show(-1:Int)<=0;decide,by show(0:Int)<1000000;decide⟩
   |6,_=>exact⟨by show(-1:Int)<=0;decide,by show(0:Int)<1000000;decide⟩
   |7,_=>exact⟨by show(0:Int)<=0;decide,by show(0:Int)<16;decide⟩⟩,(λ_ t f=>by cases f),(λe=>by cases e)⟩
def ko.fX(h:ko d)(a z:Int)(b:(a=86->lu 5 z)/\(a=87->lu 6 z)/\(a=120->lu 0 z)/\(a=121->lu 1 z)/\(a=110->lu 2 z)/\(a=107->lu 3 z)/\(a=115->lu 7 z)):ko (d.fX a z):=by
 let⟨c,e,f,g,i,j,k⟩:=b;unfold PD.fX;repeat' split
 .exact h.r 5 z<|c ‹_›
 .exact h.r 6 z<|e ‹_›
 .exact h.jL 0 z<|f ‹_›
 .exact h.jL 1 z<|g ‹_›
 .exact h.jL 2 z<|i ‹_›
 .exact h.jL 3 z<|j ‹_›
 .exact h.r 7 z<|k ‹_›
 .exact h
def T8(d:PD)(a z:Int):(d.fX a z).r=d.r/\(d.fX a z).M=d.M/\(d.fX a z).C.length=d.C.length:=by
 unfold PD.fX PD.jL;repeat' split
 all_goals exact⟨U,U,(xM _).trans (xM d).symm⟩
theorem T9(h:ko d)(on:d.r=Î)(a z:Int)(f:a=86\/a=87\/a=110\/a=107):(d.fX a z).G a=z:=by
 have g:=(h.M on).C;have b:∀i,i<4->(d.jL i z).xK i=z:=λi j=>by
  unfold PD.jL;split
  .rename_i e;have k:=(h.Y e).c.C;show(if d.M=Î then(d.N.c.set i z).getD i 0 else d.I.c.getD i 0)=z;grind
  .rename_i e;show(if d.M=Î then d.N.c.getD i 0 else(d.I.c.set i z).getD i 0)=z;grind
 rcases f with rfl|rfl|rfl|rfl
 .exact abe Z z
 .exact abe Z z
 .exact b 2 A
 .exact b 3 A
def MB:∀(l:List UInt8) (c:UInt8),Þ l c<l.length
 |[],_=>by show(-1:Int)<0;decide
 |a::l,c=>by
  have:=MB l c;unfold Þ;split
  .simp
  .split<;>(simp;omega)
def Ua:∀(l:List UInt8) (c:UInt8),c∈l->0<=Þ l c
 |[],_,h=>by cases h
 |a::l,c,h=>by
  unfold Þ;split
  .decide
  .rename_i e;rcases List.mem_cons.1 h with q|q
   .subst q;simp at e
   .have:=Ua l c q;split
    .rename_i b;rw[beq_iff_eq]at b;omega
    .omega
def abg{l:List UInt8}(h:c.toNat∈l.map UInt8.toNat):c.toNat.toUInt8∈l:=by let⟨x,a,b⟩:=Ú.1 h;rw[<-b];simpa using a
def abh(h:rM c=Î):0<=Þ [97,98,99,100,101,102,103,104] c.toNat.toUInt8:=by rw[apV]at h;refine Ua _ _<|abg ?_;simp;omega
def aqp(h:(j2 c||(decide (97<=c)&&decide (c<=102)))=Î):0<=Þ [48,49,50,51,52,53,54,55,56,57,97,98,99,100,101,102] c.toNat.toUInt8:=by simp only[Bool.or_eq_true,EO,Bool.and_eq_true,decide_eq_true_eq]at h;refine Ua _ _<|abg ?_;simp;omega
theorem aqr(a:qe h c=Î):(h=86->lu 5 (mR h c))/\(h=87->lu 6 (mR h c))/\(h=120->lu 0 (mR h c))/\(h=121->lu 1 (mR h c))/\(h=110->lu 2 (mR h c))/\(h=107->lu 3 (mR h c))/\(h=115->lu 7 (mR h c)):=by
 unfold qe at a;have b:(c==104||j2 c)=Î->-1<=(if c=104 then-1 else(c-48)%256)/\(if c=104 then(-1:Int)else(c-48)%256)<1000000:=λq=>by split<;>omega
 have d:j2 c=Î->0<=(if c=104 then-1 else(c-48)%256)/\(if c=104 then(-1:Int)else(c-48)%256)<1000000:=λq=>by rw[EO]at q;grind
 refine⟨?_,?_,?_,?_,?_,?_,?_⟩<;>rintro rfl
 .exact b a
 .exact b a
 .exact⟨abh a,MB _ _⟩
 .exact⟨abh a,MB _ _⟩
 .exact d a
 .exact d a
 .exact⟨aqp a,MB _ _⟩
theorem aqs{lj:Int}(a:j2 c=Î)(b:0<=h)(d:0<lj)(e:lj<=5)(f:h<10^(6-lj.toNat)):0<=rP h c/\rP h c<10^(6-(lj-1).toNat)/\rP h c<1000000:=by
 rw[EO]at a;have g:h<100000->rP h c=h*10+(c-48):=λq=>by unfold rP;rw[Ļ (h*10) ⟨Z,Z⟩,Ļ _ ⟨Z,Z⟩];omega
 have i:lj=1\/lj=2\/lj=3\/lj=4\/lj=5:=Z
 grind
def ko.lj(h:ko d)(a z:Int)(c:a=86\/a=87\/a=110\/a=107)(b:0<=z/\z<1000000):ko (d.fX a z):= h.fX a z ⟨λ_=>⟨Z,b.2⟩,λ_=>⟨Z,b.2⟩,λe=>by omega,λe=>by omega,λ_=>b,λ_=>b,λe=>by omega⟩
def jr.aqt(h:jr B k st)(e:0<st.r)(j:j2 c=Î):jr B (k+1) (Ie st c):=by
 let⟨a,b,l,m⟩:=h.e e;let⟨f,n,o⟩:=aqs j l e h.r m;let⟨g,i,p⟩:=T8 st.d st.M<|rP (st.d.G st.M) c;refine⟨by show 0<=st.r-1;omega,by have:=h.r;show st.r-1<=5;omega,h.C,h.I,λ_=>⟨a,g.trans b,?_⟩,h.d.lj _ _ a ⟨f,o⟩,?_,λq=> ?_,λq=>i.trans<|h.N q,λq=>i.trans<|h.a q,λq=> ?_,λq=> ?_⟩
 .show 0<=(st.d.fX st.M<|rP (st.d.G st.M) c).G st.M/\(st.d.fX st.M<|rP (st.d.G st.M) c).G st.M<10^(6-(st.r-1).toNat);rw[T9 h.d b _ _ a];exact⟨f,n⟩
 .exact È<|g.trans b
 .show(st.d.fX st.M<|rP (st.d.G st.M) c).C.length<24;rw[p];exact h.b q
 .have:=(h.S q).2;omega
 .have:=(h.S q).2;omega
def jr.u6(h:jr B k st):jr B k {st with r:=0}:= ⟨Ť _,by show(0:Int)<=5;decide,h.C,h.I,(λq=>by cases q),h.d,h.c,h.b,h.N,h.a,λq=>⟨(h.S q).1,rfl⟩,h.Y⟩
theorem jr.on(h:jr B k st)(a:82∉st.C):st.d.r=Î:=by rcases h.c with q|q;all_goals grind
def ko.aqu(h:ko d)(a:d.M=Î):d.r=Î:=by
 cases e:d.r with
 |true=>rfl
 |false=>have:=(h.N e).2;rw[a]at this;cases this
theorem abj(h:jr B k st)(b:st.r=0)(on:st.d.r=Î)(a:rQ st c=Â o):jr B (k+1) o:=by
 unfold rQ at a;split at a
 .rename_i e;cases a;refine⟨h.M,h.r,h.C,h.I,λq=> ?_,h.d,Ï U,λ_=> ?_,λq=> ?_,λq=> ?_,λq=> ?_,λq=> ?_⟩
  .grind
  .rw[xM,on];exact e.2
  .simp at q
  .simp at q
  .simp at q
  .simp at q
 .split at a
  .rename_i e;cases a;refine⟨h.M,h.r,h.C,h.I,λq=> ?_,h.d.rO on e.2.2,È on,λq=> ?_,λ_=>rfl,λq=> ?_,λq=> ?_,λq=> ?_⟩;all_goals grind
  .cases a
def aqv(q:Int):82∉vH q/\84∉vH q/\80∉vH q:=by
 unfold vH;repeat' split
 all_goals decide
theorem aqw(q:Int):82∉pA q/\84∉pA q/\66∉pA q/\(80∈pA q->pA q=[80]):=by unfold pA;grind
def aqx(c:Int):0<=xI c/\xI c<10:=by
 unfold xI;repeat' split
 all_goals decide
theorem aqy(h:jr B k st)(i:st.r=0)(f:82∈st.C)(a:zM st (xI c)=Â o):jr B (k+1) o:=by
 unfold zM at a;split at a
 .cases a
 .rename_i e;cases a;let⟨g,j,b⟩:=aqv<|xI c;have l:=aqx c;refine⟨h.M,h.r,h.C,h.I,λq=> ?_,h.d.EP _ Z<|h.b f,È U,λq=>absurd q g,λq=> ?_,λ_=>rfl,λq=>absurd q b,λq=>absurd q b⟩;all_goals grind
theorem aqz(h:jr B k st)(c:st.r=0)(q:Int)(f:84∈st.C)(a:xL st q=Â o):jr B (k+1) o:=by
 unfold xL at a;split at a
 .cases a
 .cases a;let⟨g,m,i,l⟩:=aqw q;have b:=h.N<|È f;refine⟨h.M,h.r,Ť _,by show(0:Int)<=40;decide,λq=> ?_,h.d.vK 4 q λe=>by omega,È<|h.d.aqu b,λq=>absurd q g,λ_=>b,λq=>absurd q i,λq=>⟨l q,c⟩,λ_=>⟨Ö _,λj _ n p=> ?_⟩⟩;all_goals grind
theorem aqA{a:Int}(h:0<rN a c):(a=86\/a=87)/\rN a c=1/\j2 c=Î/\c≠48\/(a=110\/a=107)/\rN a c=5/\j2 c=Î/\c≠48:=by unfold rN at h|-;grind
theorem abk(h:jr B k st)(on:st.d.r=Î){want:Int}(l:qe want c=Î)(r:List Int)(a:∀x∈r,x∈st.C)(g:80∉r):jr B (k+1) {pB st want c with C:=r}:=by
 let⟨m,i,n⟩:=T8 st.d want<|mR want c;have j:=apZ want c;refine⟨j.1,j.2,h.C,h.I,λq=> ?_,h.d.fX _ _<|aqr l,È<|m.trans on,λq=> ?_,λq=>i.trans<|h.N<|q.imp (a _)<|a _,λq=>i.trans<|h.a<|a _ q,λq=>absurd q g,λq=>absurd q g⟩
 .have q:=q;show(want=86\/want=87\/want=110\/want=107)/\(st.d.fX want<|mR want c).r=Î/\0<=(st.d.fX want<|mR want c).G want/\(st.d.fX want<|mR want c).G want<10^(6-(rN want c).toNat);rcases aqA q with⟨o,b,e,p⟩|⟨o,b,e,p⟩
  .have f:want=86\/want=87\/want=110\/want=107:=Z
   rw[T9 h.d on _ _ f,b];rw[EO]at e;have:mR want c=(c-48)%256:=by unfold mR;grind
   grind
  .have f:want=86\/want=87\/want=110\/want=107:=Z
   rw[T9 h.d on _ _ f,b];rw[EO]at e;have:mR want c=(c-48)%256:=by unfold mR;grind
   grind
 .show(st.d.fX want<|mR want c).C.length<24;rw[n];exact h.b<|a _ q
def aqB{x:UInt8}(h:x∈(B.extract i b).data.toList):∃j,∃e:j<B.size,i<=j/\j<b/\B[j]=x:=by rw[Ĳ,ĺ,ħ]at h;obtain⟨c,d,rfl⟩:=Ğ h;simp only[Ś,List.length_drop,ĝ]at d;have f:B.data.size=B.size:=rfl;exact⟨i+c,Z,Z,Z,by simp[ċ]⟩
theorem aqC(h:jr B k st)(l:st.r=0)(F:k<B.size)(a:lr B k st (B[k].toNat:Int)=Â o):jr B (k+1) o:=by
 unfold lr at a;split at a
 .rename_i e;exact abj h l (h.on<|by rw[e];decide) a
 .rename_i t p e;have c:t∈st.C:=by rw[e];exact List.mem_cons_self ..
  split at a
  .rename_i f;subst f;exact aqy h l c a
  rename_i G;have i:st.d.r=Î:=by rcases h.c with q|q;all_goals grind
  split at a
  .rename_i f;subst f;split at a
   .rename_i u;cases a;have n:=h.a c;have b:st.d.Y.length<8:=by rw[Ij,h.d.b n,n];decide
    have v:jr B k {st with C:=[84],d:=st.d.rO}:=by refine⟨h.M,h.r,h.C,h.I,λq=> ?_,h.d.rO i b,È i,λq=> ?_,λ_=>rfl,λq=> ?_,λq=> ?_,λq=> ?_⟩;all_goals grind
    exact abk (want:=120) v i u [84] (λx b=>b) A
   .exact abj h l i a
  split at a
  .rename_i f;subst f;exact aqz h l _ c a
  split at a
  .rename_i f;subst f;let⟨H,w⟩:=h.Y c;have n:=h.N<|Ï c;have y:=(h.S c).1;have I:=h.C;have J:=h.I;split at a
   .cases a;have z:p=[]:=by rw[y]at e;cases e;rfl
    subst z;refine⟨h.M,h.r,h.C,h.I,λq=> ?_,h.d.sY _ ⟨by rw[č];omega,λx b=> ?_⟩,È i,λq=> ?_,λq=> ?_,λq=> ?_,λq=> ?_,λq=> ?_⟩
    .grind
    .obtain⟨j,r,m,s,rfl⟩:=aqB b;exact w j r m s
    .cases q
    .grind
    .cases q
    .cases q
    .cases q
   .split at a
    .cases a
    .rename_i g;cases a;have K:=λq=>g<|È q;have C:=λq=>g<|Ï q;refine⟨h.M,h.r,by show 0<=st.I+1;omega,by show st.I+1<=40;omega,h.e,h.d,h.c,h.b,h.N,h.a,h.S,λ_=>⟨by show(st.I+1).toNat<=k+1;omega,λj r m s=> ?_⟩⟩;have m:k+1-(st.I+1).toNat<=j:=m;by_cases D:j=k
     .subst D;unfold xu;simpa using C
     .grind
  split at a
  .rename_i L M N E;cases a;refine abk h i E p (λx b=>by rw[e];exact Ė _ b) λq=> ?_;have:=(h.S<|by rw[e];exact Ė _ q).1;grind
  .cases a
def abl(h:jr B k st)(b:k<B.size)(a:qI B k st (B[k].toNat:Int)=Â o):jr B (k+1) o:=by
 unfold qI at a;split at a
 .rename_i e;cases a;exact h.aqt e.1 e.2
 .exact aqC h.u6 U b a
def Ub(B:ByteArray):jr B 0 sZ:= ⟨A,A,A,A,(λq=>by cases q),⟨λ_=>⟨rfl,rfl⟩,λ_=>rfl,A,A,(λr e=>by cases e),(λe=>by cases e),(λe=>by cases e),(λe=>by cases e)⟩,Ï rfl,λ_=>by decide,(λq=>by rcases q with q|q<;>simp[sZ]at q),(λq=>by simp[sZ]at q),(λq=>by simp[sZ]at q),(λq=>by simp[sZ]at q)⟩
def Uc:∀(f k:Nat) (st:PS),jr B k st->k<=B.size->jr B (ot B f k st).1 (ot B f k st).2/\(ot B f k st).1<=B.size
 |0,k,st,h,hk=>⟨h,hk⟩
 |f+1,k,st,h,hk=>by
  unfold ot;split
  .rename_i a;split
   .exact⟨h,hk⟩
   .rename_i o e;exact Uc f (k+1) o (abl h a e) Z
  .exact⟨h,hk⟩
end
section
variable{g:Gh}{st:PS}
def abm{d:PD}(i:Nat)(z:Int):g.M (d.jL i z)=g.M d:=by unfold PD.jL Gh.M;split<;>simp[PD.vK,PD.uI, *]
def abn{d:PD}(h:i=2\/i=3)(z:Int):g.Cg (d.jL i z) (if i=2 then 110 else 107)=⟨g.M d,i,Á⟩:=by
 rcases h with rfl|rfl
 .show(⟨g.M<|d.jL 2 z,2,Á⟩:ù)=_;rw[abm]
 .show(⟨g.M<|d.jL 3 z,3,Á⟩:ù)=_;rw[abm]
def abo{d:PD}(on:d.r=Î):g.S d=Â ⟨g.q,0,Á⟩:=if_pos on
def aqD{d:PD}(on:d.r=Î):g.G d=Â ⟨g.M d,0,Á⟩:=if_pos on
def Lp(h:gQ m b g O B st w)(j:st.r=0)(on:st.d.r=Î)(a c:Int)(v:qe a c=Î): Ò À 100 #[Ã<|Â ⟨b,0,Á⟩,Å ū a,Å ū c] w λe u=>e=Ç (ë #[])/\rS m b (pB st a c) w u:=by
 have G:w.cell? ⟨b,2,Á⟩=Â (Ã<|g.S st.d):=h.r.r 2 _ U;have x:w.cell? ⟨b,4,Á⟩=Â (Ã<|g.G st.d):=h.r.r 4 _ U;rw[abo on]at G;rw[aqD on]at x;have H:=fe<|Ê h v;clear h v;generalize y:g.M st.d=tm at x;have n:=fe y;clear y;by_cases o:a=86
 .subst o;have k:=fe (show pB st 86 c={st with r:=vN c 2,M:=86,d:=st.d.uI 5 (mD c)}from by unfold pB;rw[<-Mw H.out.2 (È ⟨È U,U⟩),My A];rfl);go_enter Ā,ü;go_wp2_with (go_at_call 147;refine(Mv H.out.1 (EU H.out.1.C H.out.1.r on (i:=5) A) j on _ _ 86 A A λz=>rfl).mono ?_;rintro e u ⟨rfl,l⟩);go_end0;exact⟨U,by rwa[k.out]⟩
 have I:(a==86)=Ë:=by rwa[beq_eq_false_iff_ne]
 by_cases p:a=87
 .subst p;have k:=fe (show pB st 87 c={st with r:=vN c 2,M:=87,d:=st.d.uI 6 (mD c)}from by unfold pB;rw[<-Mw H.out.2 (È ⟨Ï U,U⟩),My A];rfl);go_enter Ā,ü;go_wp2_with (go_at_call 147;refine(Mv H.out.1 (EU H.out.1.C H.out.1.r on (i:=6) A) j on _ _ 87 A A λz=>rfl).mono ?_;rintro e u ⟨rfl,l⟩);go_end0;exact⟨U,by rwa[k.out]⟩
 have J:(a==87)=Ë:=by rwa[beq_eq_false_iff_ne]
 by_cases q:a=120
 .subst q;have f:=fe ((by have:=EV H.out.1.C H.out.1.r on (i:=0) A;rw[n.out]at this;exact this:qf m b g st.d tm 0 (λz=>st.d.jL 0 z) (st.d.xK 0) w));have C:=f.out.C;have D:=f.out.I;have E:=f.out.r;go_enter Ā,ü;go_wp2_with fail;go_region_with (go_at_call 146;refine(Ig _ _ _).mono ?_;rintro e u ⟨rfl,F⟩;subst u);all_goals go_end0
  all_goals exact⟨U,T4 H.out.1 f.out j (Mx A) U⟩
 have K:(a==120)=Ë:=by rwa[beq_eq_false_iff_ne]
 by_cases r:a=121
 .subst r;have f:=fe ((by have:=EV H.out.1.C H.out.1.r on (i:=1) A;rw[n.out]at this;exact this:qf m b g st.d tm 1 (λz=>st.d.jL 1 z) (st.d.xK 1) w));have C:=f.out.C;have D:=f.out.I;have E:=f.out.r;go_enter Ā,ü;go_wp2_with fail;go_region_with (go_at_call 146;refine(Ig _ _ _).mono ?_;rintro e u ⟨rfl,F⟩;subst u);all_goals go_end0
  all_goals exact⟨U,T4 H.out.1 f.out j (Mx A) U⟩
 have L:(a==121)=Ë:=by rwa[beq_eq_false_iff_ne]
 by_cases s:a=110
 .subst s;have k:=fe (show pB st 110 c={st with r:=vN c 6,M:=110,d:=st.d.jL 2 (mD c)}from by unfold pB;rw[<-Mw H.out.2 (Ï ⟨È U,U⟩),My A];rfl);go_enter Ā,ü;go_wp2_with (go_at_call 147;refine(Mv H.out.1 ((by have:=EV H.out.1.C H.out.1.r on (i:=2) A;rw[n.out]at this;exact this:qf m b g st.d tm 2 (λz=>st.d.jL 2 z) (st.d.xK 2) w)) j on _ _ 110 A A λz=>(by have:=abn (g:=g) (d:=st.d) (i:=2) (È U) z;rwa[n.out]at this)).mono ?_;rintro e u ⟨rfl,l⟩);go_end0;exact⟨U,by rwa[k.out]⟩
 have M:(a==110)=Ë:=by rwa[beq_eq_false_iff_ne]
 by_cases t:a=107
 .subst t;have k:=fe (show pB st 107 c={st with r:=vN c 6,M:=107,d:=st.d.jL 3 (mD c)}from by unfold pB;rw[<-Mw H.out.2 (Ï ⟨Ï U,U⟩),My A];rfl);go_enter Ā,ü;go_wp2_with (go_at_call 147;refine(Mv H.out.1 ((by have:=EV H.out.1.C H.out.1.r on (i:=3) A;rw[n.out]at this;exact this:qf m b g st.d tm 3 (λz=>st.d.jL 3 z) (st.d.xK 3) w)) j on _ _ 107 A A λz=>(by have:=abn (g:=g) (d:=st.d) (i:=3) (Ï U) z;rwa[n.out]at this)).mono ?_;rintro e u ⟨rfl,l⟩);go_end0;exact⟨U,by rwa[k.out]⟩
 have l:(a==107)=Ë:=by rwa[beq_eq_false_iff_ne]
 by_cases k:a=115
 .subst k;have f:=fe<|EU H.out.1.C H.out.1.r on (i:=7) A;have C:=f.out.C;have D:=f.out.I;have E:=f.out.r;go_enter Ā,ü;go_wp2_with fail;go_region_with (go_at_call 146;refine(Ig _ _ _).mono ?_;rintro e u ⟨rfl,F⟩;subst u);all_goals go_end0
  all_goals exact⟨U,T4 H.out.1 f.out j (Mx A) U⟩
 have f:(a==115)=Ë:=by rwa[beq_eq_false_iff_ne]
 go_enter Ā,ü;go_wp2;go_end0;refine⟨U,e9.fU _ _,g,O,B,?_⟩;have e:pB st a c={st with M:=a}:=by unfold pB PD.fX;rw[Mx ⟨Z,Z⟩,if_neg o,if_neg p,if_neg q,if_neg r,if_neg s,if_neg t,if_neg k,<-j]
 rw[e];exact H.out.1.T1 a j
end
section
variable{g:Gh}{s:ByteArray}{st:PS}{d:PD}
def MC(m b:Nat)(o:Option PS)(e:Ending)(w u:Í):Prop:=
 (o=Á/\e=Ç (õ Ë)/\u=w)\/∃a,o=Â a/\e=Ç (õ Î)/\rS m b a w u
def abp{o:Option PS}{e:Ending}(h:match o with
 |none=>e=Ç (õ Ë)/\u=w
 |some a=>e=Ç (õ Î)/\rS m b a w u):MC m b o e w u:=by
 cases o with
 |none=>exact È ⟨U,h⟩
 |some a=>exact Ï ⟨a,U,h⟩
def aqE{d:PD}(on:d.r=Î):d.C.length=d.S.length+1:=by rw[xM,on];rfl
def abq(h:gQ m b g O s st w)(j:st.r=0)(on:st.d.r=Î)(y:st.d.Y.length<=8)(z:st.d.C.length<=24)(c:Int): Ò À 95 #[Ã<|Â ⟨b,0,Á⟩,Å ū c] w λe u=>MC m b (rQ st c) e w u:=by
 have l:=h.C.r on;let⟨I,J,p⟩:=jg h.C.C;let⟨K,L,q⟩:=jg l.I;rw[h.C.aa3]at p;rw[l.G]at q;have M:=h.r.r 0 _ U;have r:=h.r.r 1 _ U;have B:=h.r.r 2 _ U;rw[abo on]at B;rw[p]at r;have t:=l.r.r 8 _ (by have:=Ch st.d.I.c g.r;rwa[l.M]at this);rw[q]at t;have N:=h.r.C 0;obtain⟨v,f⟩:∃n,st.d.C.length=n:=⟨_,U⟩;obtain⟨x,i⟩:∃n,st.d.Y.length=n:=⟨_,U⟩;rw[f]at r z;rw[i]at t y;have k:st.d.S.length+1=v:=by rw[<-f];exact(aqE on).symm
 have H:=fe<|Ê h<|Ê f<|Ê i<|Ê k j;by_cases C:c=59/\v<24
 .obtain⟨rfl,a⟩:=C;go_enter ť,ŗ;go_wp2;go_ret;let⟨h,f,i,k,j⟩:=H.out;exact Ï ⟨_,by rw[rQ,if_pos ⟨U,Z⟩],U,mE h 0 _,g,O,_,h.Mt _ [82] A A<|È on⟩
 by_cases D:c=44/\0<x/\x<8
 .obtain⟨rfl,P,Q⟩:=D;go_enter ť,ŗ;go_wp2_with (go_at_call 99;refine(abb H.out.1 H.out.2.2.2.2 on (by have:=H.out.2.2.1;omega)).mono ?_;rintro e u ⟨rfl,o,E,F,S,a⟩;have T:=a.r.r 0 _ U;have V:=a.r.C 0;have G:=fe<|Ê o a;clear o a);go_ret;let⟨h,f,i,k,j⟩:=H.out;let⟨o,a⟩:=G.out;exact Ï ⟨_,by rw[rQ,if_neg Z,if_pos ⟨U,Z,Z⟩],U,o.fg<|mE a 0 _,E,F,_,a.Mt _ [120,84] A A<|È on⟩
 .have a:=fe (show rQ st c=Á by
   let⟨h,f,i,k,j⟩:=H.out;rw[rQ,if_neg Z,if_neg Z])
  go_enter ť,ŗ;go_wp2_with fail;all_goals first|(go_ret;exact È ⟨a.out,U,U⟩)|(exfalso;simp only[beq_iff_eq,decide_eq_true_eq]at*;omega)
def km:Τ->Option Τ
 |ń c=>Â c
 |.seq a b=>match km a with
  |some c=>Â c
  |none=>km b
 |.block _ c=>km c
 |.scope c=>km c
 |.cond _ a b=>match km a with
  |some c=>Â c
  |none=>km b
 |_=>Á
noncomputable def qg:Τ:=(Tryz.f61.body.bind km).getD aj
def pE(b:Nat)(B:ByteArray)(i:Ñ)(u:Nat->Ñ):Ĉ:=⟨#[Ã<|Â ⟨b,0,Á⟩,Ä B,ĸ,ĸ,Å É 0,i,u 6,u 7,u 8,u 9,u 10,u 11,u 12,u 13,u 14,u 15,u 16,u 17,u 18,u 19,u 20,u 21,u 22,u 23,u 24,u 25,u 26,u 27,u 28,u 29,u 30,u 31,u 32,u 33,u 34,u 35,u 36,u 37,u 38,u 39,u 40,u 41,u 42,u 43,u 44,u 45,u 46,u 47,u 48,u 49,u 50,u 51,u 52,u 53,u 54,u 55,u 56,u 57,u 58,u 59,u 60,u 61,u 62,u 63,u 64,u 65,u 66,u 67,u 68,u 69,u 70,u 71,u 72,u 73,u 74,u 75,u 76,u 77,u 78,u 79,u 80,u 81,u 82,u 83,u 84,u 85,u 86,u 87,u 88,u 89,u 90,u 91,u 92,u 93,u 94,u 95,u 96,u 97,u 98,u 99,u 100,u 101,u 102,u 103,u 104,u 105,u 106,u 107,u 108,u 109,u 110,u 111,u 112,u 113,u 114,u 115,u 116,u 117,u 118,u 119,u 120,u 121,u 122,u 123,u 124,u 125,u 126,u 127,u 128,u 129,u 130,u 131,u 132,u 133,u 134,u 135,u 136,u 137,u 138,u 139,u 140,u 141,u 142,u 143,u 144,u 145,u 146],[]⟩
def Fr(b:Nat)(B:ByteArray)(i:Ñ)(a:Ĉ):Prop:=∃u,a=pE b B i u
def gk{b:Nat}{B:ByteArray}{i:Value}{a:Act}(h:a=pE b B i (λn=>a.tmps.getD n undef):=by rfl):Fr b B i a:=⟨_,h⟩
def QQ(X:Ĉ->Í->Prop):Exit->Ĉ->Í->Prop
 |.exit 0,a,w=>X a w
 |_,_,_=>False
def rT(m b:Nat)(B:ByteArray)(k:Nat)(st:PS)(a u:Í):Prop:=∃(h:k<B.size) (h:PS),qI B k st (B[k].toNat:Int)=Â h/\rS m b h a u
def rU(m b:Nat)(B:ByteArray)(k:Nat)(st:PS)(a u:Í):Prop:=∃h:k<B.size,qI B k st (B[k].toNat:Int)=Á/\∃c,rS m b c a u
theorem uL{d:Int}(h:(0<d/\yQ=Ë)\/d<=0):¬(0<d/\yQ=Î):=by grind
def uM(h:¬(0<st.r/\j2 c=Î)):qI B k st c=lr B k {st with r:=0} c:=if_neg h
def aqF(a:0<st.r)(b:j2 c=Î):qI B k st c=Â (Ie st c):=if_pos ⟨a,b⟩
section
variable{want:Int}
def aqG(h:st.C=[]):lr B k st c=rQ st c:=by rw[lr,h]
def aqH(h:st.C=want::zQ)(a:want=82):lr B k st c=zM st (xI c):=by rw[lr,h];simp only;rw[if_pos a]
def aqI(h:st.C=want::zQ)(a:want=66)(b:rM c=Î):lr B k st c=Â (pB {st with C:=[84],d:=st.d.rO} 120 c):=by rw[lr,h];simp only;rw[if_neg Z,if_pos a,if_pos b]
def aqJ(h:st.C=want::zQ)(a:want=66)(b:rM c=Ë):lr B k st c=rQ st c:=by rw[lr,h];simp only;rw[if_neg Z,if_pos a,if_neg (by rw[b];decide)]
def aqK(h:st.C=want::zQ)(a:want=84):lr B k st c=xL st (Mq c):=by rw[lr,h];simp only;rw[if_neg Z,if_neg Z,if_pos a]
def aqL(h:st.C=want::zQ)(a:want=80)(b:c=125):lr B k st c=Â {st with C:=zQ,d:=st.d.sY (B.extract (k-st.I.toNat) k)}:=by rw[lr,h];simp only;rw[if_neg Z,if_neg Z,if_neg Z,if_pos a,if_pos b]
def abr(h:st.C=want::zQ)(a:want=80)(b:¬c=125)(d:st.I=40\/lQ c=0):lr B k st c=Á:=by rw[lr,h];simp only;rw[if_neg Z,if_neg Z,if_neg Z,if_pos a,if_neg b,if_pos d]
def aqM(h:st.C=want::zQ)(a:want=80)(b:¬c=125)(d:¬st.I=40)(e:¬lQ c=0):lr B k st c=Â {st with I:=st.I+1}:=by rw[lr,h];simp only;rw[if_neg Z,if_neg Z,if_neg Z,if_pos a,if_neg b,if_neg Z]
def aqN(h:st.C=want::zQ)(a:¬want=82)(b:¬want=66)(d:¬want=84)(e:¬want=80)(f:qe want c=Î):lr B k st c=Â {pB st want c with C:=zQ}:=by rw[lr,h];simp only;rw[if_neg a,if_neg b,if_neg d,if_neg e,if_pos f]
def aqO(h:st.C=want::zQ)(a:¬want=82)(b:¬want=66)(d:¬want=84)(e:¬want=80)(f:qe want c=Ë):lr B k st c=Á:=by rw[lr,h];simp only;rw[if_neg a,if_neg b,if_neg d,if_neg e,if_neg (by rw[f];decide)]
end
def uN(c:UInt8):(0:Int)<=(c.toNat:Int)/\(c.toNat:Int)<256:=⟨Int.natCast_nonneg _,by have:=c.toNat_lt;omega⟩
def Ud(s:ByteArray)(h:s.size=0):(s.toList==[])=Î:=by simp_all
theorem s5(s:ByteArray)(h:¬s.size=0):(s.toList==[])=Ë:=by
 rw[beq_eq_false_iff_ne];intro e;have:s.toList.length=s.size:=by rw[ByteArray.toList_eq];rfl
 grind
def gQ.aqP(h:gQ m b g O s st w)(on:st.d.r=Î)(i:c=86\/c=87\/c=110\/c=107):∃a e f,g.Cg st.d c=⟨a,e,Á⟩/\qf m b g st.d a e f (st.d.G c) w/\∀z,f z=st.d.fX c z:=by
 rcases i with rfl|rfl|rfl|rfl
 .exact⟨_,_,_,U,EU h.C h.r on A,λz=>rfl⟩
 .exact⟨_,_,_,U,EU h.C h.r on A,λz=>rfl⟩
 .exact⟨_,_,_,U,EV h.C h.r on A,λz=>rfl⟩
 .exact⟨_,_,_,U,EV h.C h.r on A,λz=>rfl⟩
def gQ.sY(h:gQ m b g O s st w)(on:st.d.r=Î)(a:st.d.M=Î)(p:ByteArray):gQ m b g O s {st with d:=st.d.sY p} (w.setCell ⟨g.t,5,Á⟩<|Ä p)/\e9 (λi=>m<=i) w (w.setCell ⟨g.t,5,Á⟩<|Ä p):=by have l:=h.C.r on;let⟨f,j,c⟩:=l.C a;have e:e9 (λi=>i=g.t) w (w.setCell ⟨g.t,5,Á⟩<|Ä p):=pD c;exact⟨⟨h.S,h.a.r _ trivial,h.r.I e λx=>fh.S h.r c A x,h.M,h.I,h.C.sY on a p,h.c,h.N⟩,e.S λi _ x=>by have:=l.S;omega⟩
def gQ.abt(h:gQ m b g O s st w)(on:st.d.r=Î)(a:st.C=c::zQ):gQ m b g O (s.extract 1 s.size) {st with C:=zQ} (w.setCell ⟨b,0,Á⟩<|Ä<|s.extract 1 s.size):= h.Mt _ zQ (apY s h.M) (by rw[apX,h.I,a];rfl)<|È on
def gQ.aqQ(h:gQ m b g O s st w)(a:st.C=c::zQ):0<s.size:=by have:=TT s;rw[h.I,a]at this;simp at this;omega
end
section
variable{g:Gh}{s:ByteArray}{st:PS}{d:PD}
def aqR(h:gQ m b g O s st w)(a:st.r=0)(c:st.d.r=Ë->st.d.S=[])(f:st.d.C.length<=100000)(k:Int): Ò À 96 #[Ã<|Â ⟨b,0,Á⟩,Å É k] w λe u=>MC m b (zM st k) e w u:=(aqn h a c f k).mono λ_ _ q=>abp q
def aqS(h:gQ m b g O s st w)(a:st.r=0)(on:st.d.r=Î)(c:st.d.M=Î)(k:Int): Ò À 101 #[Ã<|Â ⟨b,0,Á⟩,Å É k] w λe u=>MC m b (xL st k) e w u:=(aqf h a on c k).mono λ_ _ q=>abp q
theorem aqT{X:Ĉ->Í->Prop}{a:Ĉ}(G:Fr b B (Å É k) a) (h:gQ m b g O s st w) (i:jr B k st) (Q:B.size<=1200) (H:k<B.size) (n:0<st.r) (I:j2 (B[k].toNat:Int)=Î) (S:∀a u,Fr b B (Å É<|(k:Int)+1) a/\rT m b B k st w u->K a u) (_hQ:∀a u,Fr b B (Å É k) a/\rU m b B k st w u->X a u): à À qg (Exit.then K<|QQ X) a w:=by
 obtain⟨c,rfl⟩:=G;unfold pE;conv=>arg 2;whnf
 have T:w.cell? ⟨b,0,Á⟩=Â (Ä s):=h.r.r 0 _ U;have V:w.cell? ⟨b,6,Á⟩=Â (Å É st.r):=h.r.r 6 _ U;have W:w.cell? ⟨b,7,Á⟩=Â (Å É st.I):=h.r.r 7 _ U;have Y:=h.r.C 0;have f6:=h.r.C 6;have f7:=h.r.C 7;have d0:=i.M;have d1:=i.r;have e0:=i.C;have e1:=i.I;let⟨q,on,_,_⟩:=i.e n;let⟨r,ao,f,t,j,v⟩:=h.aqP on q;have J:w.cell? ⟨b,5,Á⟩=Â (Ã O):=h.r.r 5 _ U;rw[(h.c n).2,t]at J;obtain⟨x,o⟩:∃x,st.d.G st.M=x:=⟨_,U⟩;have L:=j.C;rw[o]at L;have fm:=j.I;obtain⟨M,N⟩:∃y,wrap64 (x*10)=y:=⟨_,U⟩;obtain⟨l,P⟩:∃y,wrap64 (M+((B[k].toNat:Int)-48)%256)=y:=⟨_,U⟩;have MD:¬r=b:=j.r;have ME:¬b=r:=λe=>j.r e.symm;have z:=h.Y (st.r-1) λ_=>h.c n;have p:=j.S 6<|Å É<|st.r-1;have C:=z.G p l;have D:rP (st.d.G st.M) (B[k].toNat:Int)=l:=by rw[rP,š,š,o,N,P]
 have E:Ie st (B[k].toNat:Int)={st with r:=st.r-1,d:=f l}:=by rw[Ie,D,v]
 have F:Hid (qI B k st (B[k].toNat:Int)=Â {st with r:=st.r-1,d:=f l}/\rS m b {st with r:=st.r-1,d:=f l} w (ξ _)):= fe ⟨by rw[aqF n I,E],(((mE h 6 _).fg<|EW (st:=st) p _).C (e9.fS ff _) λ_ _ x=>x.elim),g,O,s,C.fS⟩;clear z p C D E j v t h i o q;go_wp2_with (go_at_call 94;refine(rR _ _).mono ?_;rintro e u ⟨rfl,hw⟩;subst u);go_region;all_goals
  go_wp2;exact⟨gk,⟨H,_,F.out.1,F.out.2⟩⟩
theorem aqU{X:Ĉ->Í->Prop}(z:Fr b B (Å É k) y) (i:gQ m b g O s st w) (j:jr B k st) (Q:B.size<=1200) (l:k<B.size) (n:(0<st.r/\j2 (B[k].toNat:Int)=Ë)\/st.r<=0) (o:s.size=0) (S:∀y u,Fr b B (Å É<|(k:Int)+1) y/\rT m b B k st w u->K y u) (C:∀y u,Fr b B (Å É k) y/\rU m b B k st w u->X y u): à À qg (Exit.then K<|QQ X) y w:=by
 obtain⟨f,rfl⟩:=z;unfold pE;conv=>arg 2;whnf
 have T:w.cell? ⟨b,0,Á⟩=Â (Ä s):=i.r.r 0 _ U;have V:w.cell? ⟨b,6,Á⟩=Â (Å É st.r):=i.r.r 6 _ U;have W:w.cell? ⟨b,7,Á⟩=Â (Å É st.I):=i.r.r 7 _ U;have Y:=i.r.C 0;have f6:=i.r.C 6;have f7:=i.r.C 7;have d0:=j.M;have d1:=j.r;have e0:=j.C;have e1:=j.I;have p:=fe<|uM (B:=B) (k:=k)<|uL n;have r:=i.Y 0 λh=>absurd h A;have t:=fe<|mE i 6<|Å É 0;have D:=j.d.C;have E:=j.d.I;have F:=fe r;let⟨tF,zN⟩:=uN B[k];have qC:=Ud s o;have h:st.C=[]:=by rw[<-i.I];exact aaZ s o
 have G:st.d.r=Î:=by
  rcases i.N with q|q
  .exact q
  .rw[h]at q;cases q
 have v:=fe<|aqG (B:=B) (k:=k) (c:=(B[k].toNat:Int)) (st:={st with r:=0}) h;clear h i j;rcases n with⟨H,oG⟩|H;all_goals
  go_wp2_with (first|(go_at_call 94;refine(rR _ _).mono ?_;rintro e u ⟨rfl,x⟩;subst u)|(go_at_call 95;refine(abq r U G E D _).mono ?_;rintro e u (⟨q,rfl,x⟩|⟨I,q,rfl,J,L,M,N,P⟩)))
  .subst x;exact C _ _ ⟨gk,⟨l,p.out.trans<|v.out.trans q,_,t.out,_,_,_,F.out⟩⟩
  .exact⟨gk,⟨l,I,p.out.trans<|v.out.trans q,t.out.fg J,L,M,N,P⟩⟩
theorem aqV{X:Ĉ->Í->Prop}(z:Fr b B (Å É k) y) (i:gQ m b g O s st w) (j:jr B k st) (P:B.size<=1200) (o:k<B.size) (p:(0<st.r/\j2 (B[k].toNat:Int)=Ë)\/st.r<=0) (q:0<s.size) (l:((s[0]'q).toNat:Int)=82) (Q:∀y u,Fr b B (Å É<|(k:Int)+1) y/\rT m b B k st w u->K y u) (C:∀y u,Fr b B (Å É k) y/\rU m b B k st w u->X y u): à À qg (Exit.then K<|QQ X) y w:=by
 obtain⟨f,rfl⟩:=z;unfold pE;conv=>arg 2;whnf
 have S:w.cell? ⟨b,0,Á⟩=Â (Ä s):=i.r.r 0 _ U;have T:w.cell? ⟨b,6,Á⟩=Â (Å É st.r):=i.r.r 6 _ U;have V:w.cell? ⟨b,7,Á⟩=Â (Å É st.I):=i.r.r 7 _ U;have W:=i.r.C 0;have Y:=i.r.C 6;have f7:=i.r.C 7;have d0:=j.M;have d1:=j.r;have e0:=j.C;have e1:=j.I;have r:=fe<|uM (B:=B) (k:=k)<|uL p;have t:=i.Y 0 λh=>absurd h A;have v:=fe<|mE i 6<|Å É 0;have zO:=j.d.C;have Ci:=j.d.I;have D:=fe t;let⟨tF,zN⟩:=uN B[k];have qC:=s5 s Z;have xN:s.size<=10:=i.M;have E:=fe (show st.C=(s[0].toNat:Int)::(jT s).tail by rw[<-i.I];exact vI s q);have x:=fe<|aqH (B:=B) (k:=k) (c:=(B[k].toNat:Int)) (st:={st with r:=0}) E.out l;have xO:((s[0].toNat:Int)==82)=Î:=by rw[l];rfl
 have F:=fe λe=>(j.d.N e).1;clear l i j;rcases p with⟨G,oG⟩|G;all_goals
  go_wp2_with (first|(go_at_call 94;refine(rR _ _).mono ?_;rintro e u ⟨rfl,h⟩;subst u)|(go_at_call 97;refine(ap7 _ _).mono ?_;rintro e u ⟨rfl,h⟩;subst u)|(go_at_call 96;refine(aqR t U F.out (by show st.d.C.length<=100000;omega) _).mono ?_;rintro e u (⟨n,rfl,h⟩|⟨H,n,rfl,I,J,L,M,N⟩)))
  .subst h;exact C _ _ ⟨gk,⟨o,r.out.trans<|x.out.trans n,_,v.out,_,_,_,D.out⟩⟩
  .exact⟨gk,⟨o,H,r.out.trans<|x.out.trans n,v.out.fg I,J,L,M,N⟩⟩
end
section
variable{g:Gh}{s:ByteArray}{st:PS}{d:PD}
def aqW{X:Ĉ->Í->Prop}(t:Fr b B (Å É k) y) (f:gQ m b g O s st w) (i:jr B k st) (M:B.size<=1200) (v:k<B.size) (l:(0<st.r/\j2 (B[k].toNat:Int)=Ë)\/st.r<=0) (n:0<s.size) (j:((s[0]'n).toNat:Int)=66) (o:rM (B[k].toNat:Int)=Î) (N:∀y u,Fr b B (Å É<|(k:Int)+1) y/\rT m b B k st w u->K y u) (_hQ:∀y u,Fr b B (Å É k) y/\rU m b B k st w u->X y u): à À qg (Exit.then K<|QQ X) y w:=by
 obtain⟨c,rfl⟩:=t;unfold pE;conv=>arg 2;whnf
 have P:w.cell? ⟨b,0,Á⟩=Â (Ä s):=f.r.r 0 _ U;have Q:w.cell? ⟨b,6,Á⟩=Â (Å É st.r):=f.r.r 6 _ U;have S:w.cell? ⟨b,7,Á⟩=Â (Å É st.I):=f.r.r 7 _ U;have T:=f.r.C 0;have V:=f.r.C 6;have W:=f.r.C 7;have Y:=i.M;have d1:=i.r;have e0:=i.C;have e1:=i.I;have x:=fe<|uM (B:=B) (k:=k)<|uL l;have p:=f.Y 0 λh=>absurd h A;have z:=fe<|mE f 6<|Å É 0;have zO:=i.d.C;have Ci:=i.d.I;have HH1:=fe p;let⟨C,D⟩:=uN B[k];have qC:=s5 s Z;have xN:s.size<=10:=f.M;have h:=fe (show st.C=(s[0].toNat:Int)::(jT s).tail by rw[<-f.I];exact vI s n);have r:st.d.r=Î:=by
  rcases f.N with q|q
  .exact q
  .rw[h.out]at q;injection q with q;omega
 have q:=fe<|aqI (B:=B) (k:=k) (st:={st with r:=0}) h.out j o;have xO:((s[0].toNat:Int)==82)=Ë:=by rw[j];rfl
 have E0:((s[0].toNat:Int)==66)=Î:=by rw[j];rfl
 clear j f i;rcases l with⟨E,oG⟩|E;all_goals
  go_wp2_with (first|(go_at_call 94;refine(rR _ _).mono ?_;rintro e u ⟨rfl,F⟩;subst u)|(go_at_call 98;refine(TU _ C D _).mono ?_;rintro e u ⟨rfl,F⟩;subst u)|(go_at_call 99;refine(abb p U r<|by show st.d.Y.length<=100000;omega).mono ?_;rintro e u ⟨rfl,F,H,I,J,G⟩)|(go_at_call 100;refine(Lp G U r _ _<|show qe 120 _=Î from o).mono ?_;rintro e w'' ⟨rfl,G,H,I,J,L⟩))
  exact⟨gk,⟨v,_,x.out.trans q.out,z.out.fg<|F.fg G,H,I,J,L⟩⟩
def aqX{X:Ĉ->Í->Prop}(z:Fr b B (Å É k) y) (f:gQ m b g O s st w) (i:jr B k st) (V:B.size<=1200) (l:k<B.size) (n:(0<st.r/\j2 (B[k].toNat:Int)=Ë)\/st.r<=0) (o:0<s.size) (j:((s[0]'o).toNat:Int)=66) (C:rM (B[k].toNat:Int)=Ë) (W:∀y u,Fr b B (Å É<|(k:Int)+1) y/\rT m b B k st w u->K y u) (D:∀y u,Fr b B (Å É k) y/\rU m b B k st w u->X y u): à À qg (Exit.then K<|QQ X) y w:=by
 obtain⟨c,rfl⟩:=z;unfold pE;conv=>arg 2;whnf
 have Y:w.cell? ⟨b,0,Á⟩=Â (Ä s):=f.r.r 0 _ U;have c6:w.cell? ⟨b,6,Á⟩=Â (Å É st.r):=f.r.r 6 _ U;have c7:w.cell? ⟨b,7,Á⟩=Â (Å É st.I):=f.r.r 7 _ U;have f0:=f.r.C 0;have f6:=f.r.C 6;have f7:=f.r.C 7;have d0:=i.M;have d1:=i.r;have e0:=i.C;have e1:=i.I;have p:=fe<|uM (B:=B) (k:=k)<|uL n;have r:=f.Y 0 λh=>absurd h A;have t:=fe<|mE f 6<|Å É 0;have E:=i.d.C;have F:=i.d.I;have G:=fe r;let⟨H,I⟩:=uN B[k];have qC:=s5 s Z;have xN:s.size<=10:=f.M;have v:=fe (show st.C=(s[0].toNat:Int)::(jT s).tail by rw[<-f.I];exact vI s o);have J:st.d.r=Î:=by
  rcases f.N with q|q
  .exact q
  .rw[v.out]at q;injection q with q;omega
 have x:=fe<|aqJ (B:=B) (k:=k) (st:={st with r:=0}) v.out j C;have xO:((s[0].toNat:Int)==82)=Ë:=by rw[j];rfl
 have E0:((s[0].toNat:Int)==66)=Î:=by rw[j];rfl
 clear j f i;rcases n with⟨L,oG⟩|L;all_goals
  go_wp2_with (first|(go_at_call 94;refine(rR _ _).mono ?_;rintro e u ⟨rfl,h⟩;subst u)|(go_at_call 98;refine(TU _ H I _).mono ?_;rintro e u ⟨rfl,h⟩;subst u)|(go_at_call 95;refine(abq r U J F E _).mono ?_;rintro e u (⟨q,rfl,h⟩|⟨M,q,rfl,N,P,Q,S,T⟩)))
  .subst h;exact D _ _ ⟨gk,⟨l,p.out.trans<|x.out.trans q,_,t.out,_,_,_,G.out⟩⟩
  .exact⟨gk,⟨l,M,p.out.trans<|x.out.trans q,t.out.fg N,P,Q,S,T⟩⟩
theorem aqY{X:Ĉ->Í->Prop}(C:Fr b B (Å É k) y) (i:gQ m b g O s st w) (j:jr B k st) (Q:B.size<=1200) (o:k<B.size) (p:(0<st.r/\j2 (B[k].toNat:Int)=Ë)\/st.r<=0) (r:0<s.size) (l:((s[0]'r).toNat:Int)=84) (S:∀y u,Fr b B (Å É<|(k:Int)+1) y/\rT m b B k st w u->K y u) (D:∀y u,Fr b B (Å É k) y/\rU m b B k st w u->X y u): à À qg (Exit.then K<|QQ X) y w:=by
 obtain⟨f,rfl⟩:=C;unfold pE;conv=>arg 2;whnf
 have T:w.cell? ⟨b,0,Á⟩=Â (Ä s):=i.r.r 0 _ U;have V:w.cell? ⟨b,6,Á⟩=Â (Å É st.r):=i.r.r 6 _ U;have W:w.cell? ⟨b,7,Á⟩=Â (Å É st.I):=i.r.r 7 _ U;have Y:=i.r.C 0;have f6:=i.r.C 6;have f7:=i.r.C 7;have d0:=j.M;have d1:=j.r;have e0:=j.C;have e1:=j.I;have t:=fe<|uM (B:=B) (k:=k)<|uL p;have v:=i.Y 0 λh=>absurd h A;have x:=fe<|mE i 6<|Å É 0;have zO:=j.d.C;have Ci:=j.d.I;have E:=fe v;let⟨tF,zN⟩:=uN B[k];have qC:=s5 s Z;have xN:s.size<=10:=i.M;have h:=fe (show st.C=(s[0].toNat:Int)::(jT s).tail by rw[<-i.I];exact vI s r);have F:st.d.r=Î:=by
  rcases i.N with q|q
  .exact q
  .rw[h.out]at q;injection q with q;omega
 have G:st.d.M=Î:=j.N (by rw[h.out,l];simp);have z:=fe<|aqK (B:=B) (k:=k) (c:=(B[k].toNat:Int)) (st:={st with r:=0}) h.out l;have xO:((s[0].toNat:Int)==82)=Ë:=by rw[l];rfl
 have E0:((s[0].toNat:Int)==66)=Ë:=by rw[l];rfl
 have E1:((s[0].toNat:Int)==84)=Î:=by rw[l];rfl
 clear l i j;rcases p with⟨H,oG⟩|H;all_goals
  go_wp2_with (first|(go_at_call 94;refine(rR _ _).mono ?_;rintro e u ⟨rfl,q⟩;subst u)|(go_at_call 102;refine(ap6 _ _).mono ?_;rintro e u ⟨rfl,q⟩;subst u)|(go_at_call 101;refine(aqS v U F G _).mono ?_;rintro e u (⟨n,rfl,q⟩|⟨I,n,rfl,J,L,M,N,P⟩)))
  .subst q;exact D _ _ ⟨gk,⟨o,t.out.trans<|z.out.trans n,_,x.out,_,_,_,E.out⟩⟩
  .exact⟨gk,⟨o,I,t.out.trans<|z.out.trans n,x.out.fg J,L,M,N,P⟩⟩
end
section
variable{g:Gh}{s:ByteArray}{st:PS}{d:PD}
theorem aqZ{X:Ĉ->Í->Prop}(N:Fr b B (Å É k) y) (i:gQ m b g O s st w) (j:jr B k st) (hB:B.size<=1200) (P:k<B.size) (E:(0<st.r/\j2 (B[k].toNat:Int)=Ë)\/st.r<=0) (F:0<s.size) (l:((s[0]'F).toNat:Int)=80) (r:(B[k].toNat:Int)=125) (hK:∀y u,Fr b B (Å É<|(k:Int)+1) y/\rT m b B k st w u->K y u) (_hQ:∀y u,Fr b B (Å É k) y/\rU m b B k st w u->X y u): à À qg (Exit.then K<|QQ X) y w:=by
 obtain⟨f,rfl⟩:=N;unfold pE;conv=>arg 2;whnf
 have c0:w.cell? ⟨b,0,Á⟩=Â (Ä s):=i.r.r 0 _ U;have c6:w.cell? ⟨b,6,Á⟩=Â (Å É st.r):=i.r.r 6 _ U;have Q:w.cell? ⟨b,7,Á⟩=Â (Å É st.I):=i.r.r 7 _ U;have f0:=i.r.C 0;have f6:=i.r.C 6;have f7:=i.r.C 7;have d0:=j.M;have d1:=j.r;have S:=j.C;have T:=j.I;have G:=fe<|uM (B:=B) (k:=k)<|uL E;have v:=i.Y 0 λh=>absurd h A;have H:=fe<|mE i 6<|Å É 0;have zO:=j.d.C;have Ci:=j.d.I;have V:=fe v;let⟨tF,zN⟩:=uN B[k];have qC:=s5 s Z;have xN:s.size<=10:=i.M;have h:=fe (show st.C=(s[0].toNat:Int)::(jT s).tail by rw[<-i.I];exact vI s F);have z:st.d.r=Î:=by
  rcases i.N with q|q
  .exact q
  .rw[h.out]at q;injection q with q;omega
 have C:st.d.M=Î:=j.N (by rw[h.out,l];simp);have W:w.cell? ⟨b,3,Á⟩=Â (Ã<|g.Y st.d):=i.r.r 3 _ U;rw[Ih C]at W;let⟨Y,I,q⟩:=(i.C.r z).C C;have Ue:w.cell? ⟨g.t,5,Á⟩=Â (Ä st.d.N.p):=q.r 5 _ (by have:=Ch st.d.N.c<|Ä st.d.N.p;rwa[I]at this);have Uf:=q.C 5;have ME:¬b=g.t:=λe=>fh.S q i.r A e.symm;have MD:¬g.t=b:=fh.S q i.r A;let⟨MG,_⟩:=j.Y (by rw[h.out,l];simp);have xO:((s[0].toNat:Int)==82)=Ë:=by rw[l];rfl
 have E0:((s[0].toNat:Int)==66)=Ë:=by rw[l];rfl
 have E1:((s[0].toNat:Int)==84)=Ë:=by rw[l];rfl
 have Ik:((s[0].toNat:Int)==80)=Î:=by rw[l];rfl
 clear Y I q;have J:=fe<|aqL (B:=B) (k:=k) (st:={st with r:=0}) h.out l r;have Ug:((B[k].toNat:Int) !=125)=Ë:=by rw[r];rfl
 obtain⟨n,L⟩:∃t:Nat,st.I=(t:Int):=⟨st.I.toNat,Z⟩;have o:=v.sY z C<|B.extract (k-n) k;have M:=o.1.abt z h.out;have D:=fe (Ê (show qI B k st (B[k].toNat:Int)=Â {({st with r:=0}:PS)with C:=(jT s).tail,d:=st.d.sY (B.extract (k-n) k)} by rw[G.out,J.out,show({st with r:=0}:PS).I.toNat=n by show st.I.toNat=n;omega])<|Ê ((H.out.fg o.2).fg<|mE o.1 0<|Ä<|s.extract 1 s.size) M);rw[L]at Q S T MG;clear r l i j o M L J G H V v;rcases E with⟨By,oG⟩|By;all_goals
  go_wp2_with (first|(go_at_call 94;refine(rR _ _).mono ?_;rintro e u ⟨rfl,x⟩;subst u))
  go_region
  all_goals
   go_wp2;exact⟨gk,⟨P,_,D.out.1,D.out.2.1.C (e9.fS ff _) λ_ _ x=>x.elim,_,_,_,D.out.2.2.fS⟩⟩
theorem aq0{X:Ĉ->Í->Prop}(C:Fr b B (Å É k) y) (i:gQ m b g O s st w) (j:jr B k st) (Q:B.size<=1200) (D:k<B.size) (v:(0<st.r/\j2 (B[k].toNat:Int)=Ë)\/st.r<=0) (x:0<s.size) (l:((s[0]'x).toNat:Int)=80) (o:¬(B[k].toNat:Int)=125) (r:st.I=40) (_hK:∀y u,Fr b B (Å É<|(k:Int)+1) y/\rT m b B k st w u->K y u) (E:∀y u,Fr b B (Å É k) y/\rU m b B k st w u->X y u): à À qg (Exit.then K<|QQ X) y w:=by
 obtain⟨f,rfl⟩:=C;unfold pE;conv=>arg 2;whnf
 have S:w.cell? ⟨b,0,Á⟩=Â (Ä s):=i.r.r 0 _ U;have T:w.cell? ⟨b,6,Á⟩=Â (Å É st.r):=i.r.r 6 _ U;have V:w.cell? ⟨b,7,Á⟩=Â (Å É st.I):=i.r.r 7 _ U;have W:=i.r.C 0;have Y:=i.r.C 6;have f7:=i.r.C 7;have d0:=j.M;have d1:=j.r;have e0:=j.C;have e1:=j.I;have F:=fe<|uM (B:=B) (k:=k)<|uL v;have G:=i.Y 0 λh=>absurd h A;have H:=fe<|mE i 6<|Å É 0;have zO:=j.d.C;have Ci:=j.d.I;have I:=fe G;let⟨tF,zN⟩:=uN B[k];have qC:=s5 s Z;have xN:s.size<=10:=i.M;have n:=fe (show st.C=(s[0].toNat:Int)::(jT s).tail by rw[<-i.I];exact vI s x);have J:st.d.r=Î:=by
  rcases i.N with q|q
  .exact q
  .rw[n.out]at q;injection q with q;omega
 have q:st.d.M=Î:=j.N (by rw[n.out,l];simp);have L:w.cell? ⟨b,3,Á⟩=Â (Ã<|g.Y st.d):=i.r.r 3 _ U;rw[Ih q]at L;let⟨M,z,h⟩:=(i.C.r J).C q;have Ue:w.cell? ⟨g.t,5,Á⟩=Â (Ä st.d.N.p):=h.r 5 _ (by have:=Ch st.d.N.c<|Ä st.d.N.p;rwa[z]at this);have Uf:=h.C 5;have ME:¬b=g.t:=λe=>fh.S h i.r A e.symm;have MD:¬g.t=b:=fh.S h i.r A;let⟨MG,_⟩:=j.Y (by rw[n.out,l];simp);have xO:((s[0].toNat:Int)==82)=Ë:=by rw[l];rfl
 have E0:((s[0].toNat:Int)==66)=Ë:=by rw[l];rfl
 have E1:((s[0].toNat:Int)==84)=Ë:=by rw[l];rfl
 have Ik:((s[0].toNat:Int)==80)=Î:=by rw[l];rfl
 clear M z h;have Ug:((B[k].toNat:Int) !=125)=Î:=by rwa[bne_iff_ne]
 have N:=fe<|abr (B:=B) (k:=k) (st:={st with r:=0}) n.out l o<|È r;have abu:(st.I==40)=Î:=by rw[r];rfl
 clear r o l i j;rcases v with⟨P,oG⟩|P;all_goals
  go_wp2_with (first|(go_at_call 94;refine(rR _ _).mono ?_;rintro e u ⟨rfl,hw⟩;subst u))
  exact E _ _ ⟨gk,⟨D,F.out.trans N.out,_,H.out,_,_,_,I.out⟩⟩
theorem aq1{X:Ĉ->Í->Prop}(E:Fr b B (Å É k) y) (i:gQ m b g O s st w) (j:jr B k st) (S:B.size<=1200) (F:k<B.size) (v:(0<st.r/\j2 (B[k].toNat:Int)=Ë)\/st.r<=0) (x:0<s.size) (l:((s[0]'x).toNat:Int)=80) (o:¬(B[k].toNat:Int)=125) (r:¬st.I=40) (z:¬lQ (B[k].toNat:Int)=0) (T:∀y u,Fr b B (Å É<|(k:Int)+1) y/\rT m b B k st w u->K y u) (_hQ:∀y u,Fr b B (Å É k) y/\rU m b B k st w u->X y u): à À qg (Exit.then K<|QQ X) y w:=by
 obtain⟨f,rfl⟩:=E;unfold pE;conv=>arg 2;whnf
 have V:w.cell? ⟨b,0,Á⟩=Â (Ä s):=i.r.r 0 _ U;have W:w.cell? ⟨b,6,Á⟩=Â (Å É st.r):=i.r.r 6 _ U;have Y:w.cell? ⟨b,7,Á⟩=Â (Å É st.I):=i.r.r 7 _ U;have f0:=i.r.C 0;have f6:=i.r.C 6;have f7:=i.r.C 7;have d0:=j.M;have d1:=j.r;have e0:=j.C;have e1:=j.I;have G:=fe<|uM (B:=B) (k:=k)<|uL v;have H:=i.Y 0 λh=>absurd h A;have I:=fe<|mE i 6<|Å É 0;have zO:=j.d.C;have Ci:=j.d.I;have C:=fe H;let⟨tF,zN⟩:=uN B[k];have qC:=s5 s Z;have xN:s.size<=10:=i.M;have n:=fe (show st.C=(s[0].toNat:Int)::(jT s).tail by rw[<-i.I];exact vI s x);have J:st.d.r=Î:=by
  rcases i.N with q|q
  .exact q
  .rw[n.out]at q;injection q with q;omega
 have q:st.d.M=Î:=j.N (by rw[n.out,l];simp);have L:w.cell? ⟨b,3,Á⟩=Â (Ã<|g.Y st.d):=i.r.r 3 _ U;rw[Ih q]at L;let⟨M,D,h⟩:=(i.C.r J).C q;have Ue:w.cell? ⟨g.t,5,Á⟩=Â (Ä st.d.N.p):=h.r 5 _ (by have:=Ch st.d.N.c<|Ä st.d.N.p;rwa[D]at this);have Uf:=h.C 5;have ME:¬b=g.t:=λe=>fh.S h i.r A e.symm;have MD:¬g.t=b:=fh.S h i.r A;let⟨MG,_⟩:=j.Y (by rw[n.out,l];simp);have xO:((s[0].toNat:Int)==82)=Ë:=by rw[l];rfl
 have E0:((s[0].toNat:Int)==66)=Ë:=by rw[l];rfl
 have E1:((s[0].toNat:Int)==84)=Ë:=by rw[l];rfl
 have Ik:((s[0].toNat:Int)==80)=Î:=by rw[l];rfl
 clear M D h;have Ug:((B[k].toNat:Int) !=125)=Î:=by rwa[bne_iff_ne]
 have N:=fe<|aqM (B:=B) (k:=k) (st:={st with r:=0}) n.out l o r z;have abu:(st.I==40)=Ë:=by rwa[beq_eq_false_iff_ne]
 have yS:((lQ (B[k].toNat:Int):Int)==0)=Ë:=by rw[beq_eq_false_iff_ne];omega
 clear r o l i j z;rcases v with⟨P,oG⟩|P;all_goals
  go_wp2_with (first|(go_at_call 94;refine(rR _ _).mono ?_;rintro e u ⟨rfl,Q⟩;subst u)|(go_at_call 103;refine(p7 _ _).mono ?_;rintro e u ⟨rfl,Q⟩;subst u))
  exact⟨gk,⟨F,_,G.out.trans N.out,I.out.fg<|mE C.out 7 _,_,_,_,C.out.aa7 _⟩⟩
theorem aq2{X:Ĉ->Í->Prop}(D:Fr b B (Å É k) y) (i:gQ m b g O s st w) (j:jr B k st) (T:B.size<=1200) (E:k<B.size) (v:(0<st.r/\j2 (B[k].toNat:Int)=Ë)\/st.r<=0) (x:0<s.size) (l:((s[0]'x).toNat:Int)=80) (o:¬(B[k].toNat:Int)=125) (z:¬st.I=40) (r:lQ (B[k].toNat:Int)=0) (_hK:∀y u,Fr b B (Å É<|(k:Int)+1) y/\rT m b B k st w u->K y u) (F:∀y u,Fr b B (Å É k) y/\rU m b B k st w u->X y u): à À qg (Exit.then K<|QQ X) y w:=by
 obtain⟨f,rfl⟩:=D;unfold pE;conv=>arg 2;whnf
 have V:w.cell? ⟨b,0,Á⟩=Â (Ä s):=i.r.r 0 _ U;have W:w.cell? ⟨b,6,Á⟩=Â (Å É st.r):=i.r.r 6 _ U;have Y:w.cell? ⟨b,7,Á⟩=Â (Å É st.I):=i.r.r 7 _ U;have f0:=i.r.C 0;have f6:=i.r.C 6;have f7:=i.r.C 7;have d0:=j.M;have d1:=j.r;have e0:=j.C;have e1:=j.I;have G:=fe<|uM (B:=B) (k:=k)<|uL v;have H:=i.Y 0 λh=>absurd h A;have I:=fe<|mE i 6<|Å É 0;have zO:=j.d.C;have Ci:=j.d.I;have J:=fe H;let⟨tF,zN⟩:=uN B[k];have qC:=s5 s Z;have xN:s.size<=10:=i.M;have n:=fe (show st.C=(s[0].toNat:Int)::(jT s).tail by rw[<-i.I];exact vI s x);have L:st.d.r=Î:=by
  rcases i.N with q|q
  .exact q
  .rw[n.out]at q;injection q with q;omega
 have q:st.d.M=Î:=j.N (by rw[n.out,l];simp);have M:w.cell? ⟨b,3,Á⟩=Â (Ã<|g.Y st.d):=i.r.r 3 _ U;rw[Ih q]at M;let⟨N,C,h⟩:=(i.C.r L).C q;have Ue:w.cell? ⟨g.t,5,Á⟩=Â (Ä st.d.N.p):=h.r 5 _ (by have:=Ch st.d.N.c<|Ä st.d.N.p;rwa[C]at this);have Uf:=h.C 5;have ME:¬b=g.t:=λe=>fh.S h i.r A e.symm;have MD:¬g.t=b:=fh.S h i.r A;let⟨MG,_⟩:=j.Y (by rw[n.out,l];simp);have xO:((s[0].toNat:Int)==82)=Ë:=by rw[l];rfl
 have E0:((s[0].toNat:Int)==66)=Ë:=by rw[l];rfl
 have E1:((s[0].toNat:Int)==84)=Ë:=by rw[l];rfl
 have Ik:((s[0].toNat:Int)==80)=Î:=by rw[l];rfl
 clear N C h;have Ug:((B[k].toNat:Int) !=125)=Î:=by rwa[bne_iff_ne]
 have P:=fe<|abr (B:=B) (k:=k) (st:={st with r:=0}) n.out l o<|Ï r;have abu:(st.I==40)=Ë:=by rwa[beq_eq_false_iff_ne]
 have yS:((lQ (B[k].toNat:Int):Int)==0)=Î:=by rw[r];rfl
 clear z o l i j r;rcases v with⟨Q,oG⟩|Q;all_goals
  go_wp2_with (first|(go_at_call 94;refine(rR _ _).mono ?_;rintro e u ⟨rfl,S⟩;subst u)|(go_at_call 103;refine(p7 _ _).mono ?_;rintro e u ⟨rfl,S⟩;subst u))
  exact F _ _ ⟨gk,⟨E,G.out.trans P.out,_,I.out,_,_,_,J.out⟩⟩
end
section
variable{g:Gh}{s:ByteArray}{st:PS}{d:PD}
def aq3{X:Ĉ->Í->Prop}(D:Fr b B (Å É k) y) (f:gQ m b g O s st w) (i:jr B k st) (Q:B.size<=1200) (E:k<B.size) (v:(0<st.r/\j2 (B[k].toNat:Int)=Ë)\/st.r<=0) (j:0<s.size) (n:¬((s[0]'j).toNat:Int)=82) (o:¬((s[0]'j).toNat:Int)=66) (p:¬((s[0]'j).toNat:Int)=84) (r:¬((s[0]'j).toNat:Int)=80) (x:qe ((s[0]'j).toNat:Int) (B[k].toNat:Int)=Î) (S:∀y u,Fr b B (Å É<|(k:Int)+1) y/\rT m b B k st w u->K y u) (_hQ:∀y u,Fr b B (Å É k) y/\rU m b B k st w u->X y u): à À qg (Exit.then K<|QQ X) y w:=by
 obtain⟨c,rfl⟩:=D;unfold pE;conv=>arg 2;whnf
 have T:w.cell? ⟨b,0,Á⟩=Â (Ä s):=f.r.r 0 _ U;have V:w.cell? ⟨b,6,Á⟩=Â (Å É st.r):=f.r.r 6 _ U;have W:w.cell? ⟨b,7,Á⟩=Â (Å É st.I):=f.r.r 7 _ U;have Y:=f.r.C 0;have f6:=f.r.C 6;have f7:=f.r.C 7;have d0:=i.M;have d1:=i.r;have e0:=i.C;have e1:=i.I;have F:=fe<|uM (B:=B) (k:=k)<|uL v;have G:=f.Y 0 λh=>absurd h A;have H:=fe<|mE f 6<|Å É 0;have zO:=i.d.C;let⟨I,J⟩:=uN B[k];have qC:=s5 s Z;have xN:s.size<=10:=f.M;have l:=fe (show st.C=(s[0].toNat:Int)::(jT s).tail by rw[<-f.I];exact vI s j);have z:st.d.r=Î:=by
  rcases f.N with q|q
  .exact q
  .rw[l.out]at q;injection q with q;omega
 have xO:((s[0].toNat:Int)==82)=Ë:=by rwa[beq_eq_false_iff_ne]
 have aq4:((s[0].toNat:Int)==66)=Ë:=by rwa[beq_eq_false_iff_ne]
 have E1:((s[0].toNat:Int)==84)=Ë:=by rwa[beq_eq_false_iff_ne]
 have Ik:((s[0].toNat:Int)==80)=Ë:=by rwa[beq_eq_false_iff_ne]
 have L:=fe<|aqN (B:=B) (k:=k) (st:={st with r:=0}) l.out n o p r x;have M:=fe x;clear n o p r f i;rcases v with⟨N,oG⟩|N;all_goals
  go_wp2_with (first|(go_at_call 94;refine(rR _ _).mono ?_;rintro e u ⟨rfl,h⟩;subst u)|(go_at_call 104;refine(aa1 _ _ I J _).mono ?_;rintro e u ⟨rfl,h⟩;subst u)|(go_at_call 100;refine(Lp G U z _ _ M.out).mono ?_;rintro e P ⟨rfl,C,g',nm',q,h⟩;have k0:P.cell? ⟨b,0,Á⟩=Â (Ä q):=h.r.r 0 _ U;have kf0:=h.r.C 0;have tH:0<q.size:=h.aqQ l.out;have auC:q.size<=10:=h.M;have t:=fe<|Ê C h;clear C h))
  exact⟨gk,⟨E,_,F.out.trans L.out,H.out.fg<|t.out.1.fg<|mE t.out.2 0 _,_,_,_,t.out.2.abt ((T8 _ _ _).1.trans z) l.out⟩⟩
def aq5{X:Ĉ->Í->Prop}(t:Fr b B (Å É k) y) (f:gQ m b g O s st w) (i:jr B k st) (L:B.size<=1200) (v:k<B.size) (r:(0<st.r/\j2 (B[k].toNat:Int)=Ë)\/st.r<=0) (j:0<s.size) (l:¬((s[0]'j).toNat:Int)=82) (n:¬((s[0]'j).toNat:Int)=66) (o:¬((s[0]'j).toNat:Int)=84) (p:¬((s[0]'j).toNat:Int)=80) (x:qe ((s[0]'j).toNat:Int) (B[k].toNat:Int)=Ë) (_hK:∀y u,Fr b B (Å É<|(k:Int)+1) y/\rT m b B k st w u->K y u) (z:∀y u,Fr b B (Å É k) y/\rU m b B k st w u->X y u): à À qg (Exit.then K<|QQ X) y w:=by
 obtain⟨c,rfl⟩:=t;unfold pE;conv=>arg 2;whnf
 have M:w.cell? ⟨b,0,Á⟩=Â (Ä s):=f.r.r 0 _ U;have N:w.cell? ⟨b,6,Á⟩=Â (Å É st.r):=f.r.r 6 _ U;have P:w.cell? ⟨b,7,Á⟩=Â (Å É st.I):=f.r.r 7 _ U;have Q:=f.r.C 0;have S:=f.r.C 6;have T:=f.r.C 7;have V:=i.M;have W:=i.r;have Y:=i.C;have e1:=i.I;have C:=fe<|uM (B:=B) (k:=k)<|uL r;have D:=f.Y 0 λh=>absurd h A;have E:=fe<|mE f 6<|Å É 0;have zO:=i.d.C;have Ci:=i.d.I;have F:=fe D;let⟨G,H⟩:=uN B[k];have qC:=s5 s Z;have xN:s.size<=10:=f.M;have h:=fe (show st.C=(s[0].toNat:Int)::(jT s).tail by rw[<-f.I];exact vI s j);have on:st.d.r=Î:=by
  rcases f.N with q|q
  .exact q
  .rw[h.out]at q;injection q with q;omega
 have xO:((s[0].toNat:Int)==82)=Ë:=by rwa[beq_eq_false_iff_ne]
 have aq4:((s[0].toNat:Int)==66)=Ë:=by rwa[beq_eq_false_iff_ne]
 have E1:((s[0].toNat:Int)==84)=Ë:=by rwa[beq_eq_false_iff_ne]
 have Ik:((s[0].toNat:Int)==80)=Ë:=by rwa[beq_eq_false_iff_ne]
 have q:=fe<|aqO (B:=B) (k:=k) (st:={st with r:=0}) h.out l n o p x;clear l n o p f i;rcases r with⟨I,oG⟩|I;all_goals
  go_wp2_with (first|(go_at_call 94;refine(rR _ _).mono ?_;rintro e u ⟨rfl,J⟩;subst u)|(go_at_call 104;refine(aa1 _ _ G H _).mono ?_;rintro e u ⟨rfl,J⟩;subst u))
  exact z _ _ ⟨gk,⟨v,C.out.trans q.out,_,E.out,_,_,_,F.out⟩⟩
end
section
variable{g:Gh}{c:PS}{d:PD}
theorem aq6{X:Ĉ->Í->Prop}{d:ByteArray}(e:Fr b d (Å É k) y) (f:gQ m b g O B c w) (h:jr d k c) (i:d.size<=1200) (j:k<d.size) (l:∀y v,Fr b d (Å É<|(k:Int)+1) y/\rT m b d k c w v->K y v) (n:∀y v,Fr b d (Å É k) y/\rU m b d k c w v->X y v): à À qg (Exit.then K<|QQ X) y w:=by
 by_cases x:0<c.r/\j2 (d[k].toNat:Int)=Î
 .grind [aqT]
 have o:(0<c.r/\j2 (d[k].toNat:Int)=Ë)\/c.r<=0:=by grind
 by_cases z:B.size=0
 .grind [aqU]
 have p:0<B.size:=Z
 by_cases r:(B[0].toNat:Int)=82
 .grind [aqV]
 by_cases q:(B[0].toNat:Int)=66
 .cases s:rM (d[k].toNat:Int)with
  |true=>exact aqW e f h i j o p q s l n
  |false=>exact aqX e f h i j o p q s l n
 by_cases s:(B[0].toNat:Int)=84
 .grind [aqY]
 by_cases t:(B[0].toNat:Int)=80
 .grind [aqZ,aq0,aq2,aq1]
 cases u:qe (B[0].toNat:Int) (d[k].toNat:Int)with
 |true=>exact aq3 e f h i j o p r q s t u l n
 |false=>exact aq5 e f h i j o p r q s t u l n
def aq7{X:Ĉ->Í->Prop}(c:Fr b B (Å É k) y)(_hB:B.size<=1200)(e:¬k<B.size)(_hk:k<=B.size) (d:∀y v,Fr b B (Å É k) y/\v=w->X y v): à À qg (Exit.then K<|QQ X) y w:=by
 obtain⟨u,rfl⟩:=c;unfold pE;conv=>arg 2;whnf
 go_wp2;exact d _ _ ⟨gk,U⟩
def mT(B:ByteArray):Nat×PS:=ot B B.size 0 sZ
def RI(m b:Nat)(d:ByteArray)(w:Í)(a:Ĉ)(e:Í):Prop:=
 ∃(k:Nat) (g:Gh) (O:Option ù) (B:ByteArray) (c:PS),k<=d.size/\Fr b d (Å É k) a/\gQ m b g O B c e/\e9 (λi=>m<=i) w e/\jr d k c/\mT d=ot d (d.size-k) k c
def Rmu(B:ByteArray)(a:Ĉ)(_:Í):Nat:=B.size-(intOf<|a.tmps.getD 5 ĸ).toNat
def RX(m b:Nat)(B:ByteArray)(w:Í)(a:Ĉ)(d:Í):Prop:=
 ∃(k:Nat) (c:PS),k<=B.size/\Fr b B (Å É k) a/\rS m b c w d/\(mT B).1=k/\(k=B.size->(mT B).2=c)
def abv{i:Int}{w:Í}(h:Fr b B (Å É i) y):Rmu B y w=B.size-i.toNat:=by obtain⟨u,rfl⟩:=h;rfl
def aq8{a:PS}(b:k<B.size)(d:qI B k c (B[k].toNat:Int)=Â a):ot B (B.size-k) k c=ot B (B.size-(k+1)) (k+1) a:=by rw[show B.size-k=(B.size-(k+1))+1 by omega,ot,dif_pos b,d]
def aq9(a:k<B.size)(b:qI B k c (B[k].toNat:Int)=Á):ot B (B.size-k) k c=(k,c):=by rw[show B.size-k=(B.size-(k+1))+1 by omega,ot,dif_pos a,b]
def ara{d:ByteArray}(i:Fr b d (Å É 0) y)(h:gQ m b g O B sZ w)(r:d.size<=1200): à À (ń qg) (QQ<|RX m b d w) y w:=by
 apply Γ (RI m b d w) (Rmu d) ⟨0,g,O,B,sZ,Ö _,i,h,e9.fU _ _,Ub d,U⟩;rintro y x ⟨k,g,O,B,c,n,i,s,o,t,p⟩;by_cases j:k<d.size
 .refine aq6 i s t r j ?_ ?_
  .rintro u v ⟨f,z,e,l,q,C,D,E,F⟩;refine⟨⟨k+1,C,D,E,e,Z,by simpa using f,F,o.fg q,abl t j l,p.trans<|aq8 j l⟩,?_⟩;rw[abv f,abv (w:=x) i];omega
  .rintro u v ⟨f,z,l,C,q,D⟩;have:=p.trans<|aq9 j l;exact⟨k,C,n,f,⟨o.fg q,D⟩,by rw[this],λe=>by omega⟩
 .apply aq7 i r j n;rintro u v ⟨f,rfl⟩;have:mT d=(k,c):=by rw[p,show d.size-k=0 by omega];rfl
  exact⟨k,c,n,f,⟨o,g,O,B,s⟩,by rw[this],λ_=>by rw[this]⟩
def arb{c:ByteArray}(h:gQ m b g O B sZ w)(f:c.size<=1200): Ò À 61 #[Ã<|Â ⟨b,0,Á⟩,Ä c] w λe u=>
  ∃(k:Nat) (d:PS),k<=c.size/\e=Ç (Å É k)/\rS m b d w u/\(mT c).1=k/\(k=c.size->(mT c).2=d):=by
 go_enter Tryz.func61,Tryz.ntmps61;go_wp2;go_step3;go_wp2;go_step3;go_wp2;refine İ ?_ (ara gk h f);rintro(_|(_|_)|_|_|_|_) a v hq;all_goals first|exact absurd hq id|skip
 let⟨k,d,i,j,l⟩:=hq;obtain⟨e,rfl⟩:=j;unfold pE;go_wp2;(try rw[Exit.noGoto_ret]);go_ret;exact⟨k,d,i,U,(fe l).out⟩
end
def mF(B:ByteArray):Int×Bool×List PR:=
 if B.size=0 then(0,Î,[])else(((mT B).1:Int),decide ((mT B).1=B.size)&&(decide ((mT B).2.C=[])||decide ((mT B).2.C=[66])),(mT B).2.d.C)
def iB(B:ByteArray):Int×Int×List PR:=
 if 1200<B.size then(1,0,[])else if(mF B).2.1=Î then(0,0,(mF B).2.2)else(2,(mF B).1,[])
def Cj(m:Nat)(v:Ñ)(b:List PR)(w:Í):Prop:=jz m w/\∃a,w.ownsRow m 148 1 v a.length (nA a)/\pC w.heap.size a b w
section
variable{g:Gh}{s:ByteArray}{a:PS}
def Cj.oP(w:Í):Cj w.heap.size (Æ Á 0 0) [] w:=⟨jz.I w,[],⟨U,È ⟨U,U⟩⟩,pC.N _ _⟩
def gQ.iL(h:gQ m b g O s a w)(c:a.d.r=Ë->a.d.S=[])(n:Nat):Cj m g.N a.d.C (w.drewN n):= ⟨h.a.iO n,g.C a.d,ic h.C.C (e9.iO ff w n) λ_ _=>id,(h.C.abd c).C (e9.iO ff w n) λ_ _ x=>x.elim⟩
def g0(m:Nat):Gh:={a:=[],q:=0,t:=0,B:=m,tb:=[],N:=Æ Á 0 0,r:=Æ Á 0 0,b:=Á}
def ard(w:Í):gQ w.heap.size w.heap.size (g0 w.heap.size) Á ⟨#[82]⟩ sZ (w.alloc<|Û #[Ä ⟨#[82]⟩,Æ Á 0 0,Ã Á,Ã Á,Ã Á,Ã Á,Å É 0,Å É 0] 153):= ⟨æ _,(jz.I w).gJ _ _ A A (λv e=>by simp at e;rcases e with rfl|rfl|rfl|rfl<;>trivial),fh.N w [Ä ⟨#[82]⟩,Æ Á 0 0,Ã Á,Ã Á,Ã Á,Ã Á,Å É 0,Å É 0] 153,A,A,⟨⟨U,È ⟨U,U⟩⟩,pC.N _ _,(λe=>by cases e),λ_=>rfl⟩,(λq=>by cases q),Ï rfl⟩
def arf(s:ByteArray):jT s=[66]↔s.toList=[66]:=by
 unfold jT;rw[ByteArray.toList_eq];constructor
 .intro h;match hl:s.data.toList with
  |[]=>rw[hl]at h;simp at h
  |[x]=>
   rw[hl]at h;simp only[ŉ,Ő,List.cons.injEq,and_true]at h;have:x=66:=UInt8.toNat_inj.1 (by have:x.toNat=66:=Z;rw[this];rfl);rw[this]
  |x::y::r=>rw[hl]at h;simp at h
 .intro h;rw[h];rfl
def Uh(a:¬B.size=0):(mF B).1=((mT B).1:Int):=by rw[mF,if_neg a]
def abw(a:¬B.size=0):(mF B).2.2=(mT B).2.d.C:=by rw[mF,if_neg a]
def arh(a:¬B.size=0)(h:¬(mT B).1=B.size):(mF B).2.1=Ë:=by rw[mF,if_neg a];simp[h]
def abx(a:¬B.size=0)(h:(mT B).1=B.size){x:Bool}(b:x=(decide ((mT B).2.C=[])||decide ((mT B).2.C=[66]))):(mF B).2.1=x:=by rw[mF,if_neg a,b];simp[h]
def ari(B:ByteArray):(mT B).2.d.r=Ë->(mT B).2.d.S=[]:=λe=>((Uc B.size 0 sZ (Ub B)<|Ö _).1.d.N e).1
theorem aby(q:B.size<=1200): Ò À 45 #[Ä B] w λe u=>
  e9 ff w u/\∃v,e=Ç (ë #[v,Å É (mF B).1,õ (mF B).2.1])/\((mF B).2.1=Î->Cj w.heap.size v (mF B).2.2 u):=by
 by_cases a:B.size=0
 .have f:=Ud B a;have n:=fe (show mF B=(0,Î,[])from if_pos a);go_enter ε,Ν;go_wp2;apply ÿ (v:=ë #[Æ Á 0 0,Å É 0,õ Î]) (by simp[Ń,Ĥ,go_sem]) U;exact⟨e9.fU _ _,_,by rw[n.out],λ_=>by rw[n.out];exact Cj.oP w⟩
 .have f:=s5 B a;have b:=fe a;go_enter ε,Ν;go_wp2_with (go_at_call 61;refine(arb (ard w) q).mono ?_;rintro e r ⟨k,d,i,rfl,⟨n,g,O,s,c⟩,h,t⟩);have l:e9 ff w r:=((e9.gJ (λi=>w.heap.size<=i) w _ _).fg n).S λi D x=>by omega
  have E:=c.r.r 0 _ U;have F:=c.r.r 1 _ U;by_cases m:k=B.size
  .subst m;have y:=t U;subst y;have o:=fe c.I;have p:=fe λn=>c.iL (ari B) n;have n:=fe h;have d:=fe l;have z:((B.size:Int)==(B.size:Int))=Î:=fj
   by_cases a:s.size=0
   .have f:=Ud s a;have j:=fe (abx b.out n.out (x:=Î)<|by rw[<-o.out,aaZ s a];rfl);go_quiet (fail);go_wp2;apply ÿ (v:=ë #[g.N,Å É B.size,õ Î]) (by simp[Ń,Ĥ,go_sem]) U;exact⟨d.out.fg<|e9.iO _ _ _,_,by rw[Uh b.out,n.out,j.out],λ_=>by rw[abw b.out];exact p.out _⟩
   .have f:=s5 s a;have j:=fe (abx b.out n.out (x:=(s.toList==[66])) (by
     rw[<-o.out];have C:¬jT s=[]:=λe=>by have:=TT s;grind
     rw[decide_eq_false C,Bool.false_or,Ě,beq_iff_eq,decide_eq_true_iff,arf]))
    go_quiet (fail)
    go_wp2;apply ÿ (v:=ë #[g.N,Å É B.size,õ<|s.toList==[66]]) (by simp[Ń,Ĥ,go_sem]) U;exact⟨d.out.fg<|e9.iO _ _ _,_,by rw[Uh b.out,n.out,j.out],λ_=>by rw[abw b.out];exact p.out _⟩
  .have z:((k:Int)==(B.size:Int))=Ë:=by rw[beq_eq_false_iff_ne];omega
   have n:=fe (Ê h<|arh b.out<|by rwa[h]);have d:=fe l;go_quiet (fail);go_wp2;apply ÿ (v:=ë #[g.N,Å É k,õ Ë]) (by simp[Ń,Ĥ,go_sem]) U;exact⟨d.out.fg<|e9.iO _ _ _,_,by rw[Uh b.out,n.out.1,n.out.2],λe=>by rw[n.out.2]at e;cases e⟩
def arj(h:B.size<=đ): Ò À 36 #[Ä B] w λe u=>
  e9 ff w u/\∃v,e=Ç (ë #[v,Å É (iB B).1,Å É (iB B).2.1])/\((iB B).1=0->Cj w.heap.size v (iB B).2.2 u)/\((iB B).1≠0->v=Æ Á 0 0):=by
 unfold đ at h;by_cases b:1200<B.size
 .have a:=fe (show iB B=(1,0,[]) by rw[iB,if_pos b]);go_enter ļ,Ř;go_wp2;apply ÿ (v:=ë #[Æ Á 0 0,Å É 1,Å É 0]) (by simp[Ń,Ľ,go_sem]) U;exact⟨e9.fU _ _,_,by rw[a.out],(λe=>by rw[a.out]at e;cases e),λ_=>rfl⟩
 .have f:B.size<=1200:=Z
  cases c:(mF B).2.1 with
  |true=>
   have a:=fe (show iB B=(0,0,(mF B).2.2) by rw[iB,if_neg b,if_pos c]);go_enter ļ,Ř;go_wp2_with (go_at_call 45;refine(aby f).mono ?_;rintro e i ⟨d,v,rfl,g⟩);apply ÿ (v:=ë #[v,Å É 0,Å É 0]) (by simp[Ń,Ľ,go_sem]) U;exact⟨d,_,by rw[a.out],(λ_=>by rw[a.out];exact g c),λe=>by rw[a.out]at e;exact absurd U e⟩
  |false=>
   have a:=fe (show iB B=(2,(mF B).1,[]) by rw[iB,if_neg b,if_neg (by rw[c];exact Bool.false_ne_true)]);go_enter ļ,Ř;go_wp2_with (go_at_call 45;refine(aby f).mono ?_;rintro e i ⟨d,v,rfl,g⟩);apply ÿ (v:=ë #[Æ Á 0 0,Å É 2,Å É (mF B).1]) (by simp[Ń,Ľ,go_sem]) U;exact⟨d,_,by rw[a.out],(λe=>by rw[a.out]at e;cases e),λ_=>rfl⟩
end
end Go.Proofs.Y.om
namespace Go.Proofs.Y.kS
open Go Go.Conc Go.Proofs Go.RowKit Go.Proofs.Y.Lift Go.Proofs.Y.gP Go.Proofs.Y.fv Go.Proofs.Y.om
structure Il(a:Nat)(t:PT)(w:Í):Prop where
 r:∃cs fz,w.heap[a]?=Â (Û cs 200 fz)
 c:∀i,i<5->w.cell? ⟨a,i,Á⟩=Â (Å É<|t.c.getD i 0)
 p:w.cell? ⟨a,5,Á⟩=Â (Ä t.p)
structure xP(r:Nat)(p:PR)(w:Í):Prop where
 c:∀i,i<8->w.cell? ⟨r,i,Á⟩=Â (Å É<|p.c.getD i 0)
 b:∃bp n cp,w.cell? ⟨r,8,Á⟩=Â (Æ bp n cp)/\n=p.r.length/\∀(j:Nat) (t:PT),p.r[j]?=Â t->∃tb a,bp=Â ⟨tb,0,Á⟩/\w.cell? ⟨tb,j,Á⟩=Â (Ã<|Â ⟨a,0,Á⟩)/\Il a t w
structure RQ(rs:List PR)(v:Ñ)(U:Nat->Prop)(w:Í):Prop where
 C:kF nB U w
 I:fl (lh U nB) v v
 M:∃bp cp,v=Æ bp rs.length cp/\∀(j:Nat) (p:PR),rs[j]?=Â p->∃sb r,bp=Â ⟨sb,0,Á⟩/\w.cell? ⟨sb,j,Á⟩=Â (Ã<|Â ⟨r,0,Á⟩)/\xP r p w
section
variable{f:Nat->Prop}{rs:List PR}{Y:ft}
theorem ark(h:jf Y X u w){t:PT}(d:Y i n)(k:Il i t u):Il n t w:=by refine⟨?_,λb f=>(zI h).r d<|k.c b f,(zI h).C d k.p⟩;let⟨c,g,e,j,l,m,o,_⟩:=h.r i n d;let⟨r,s,q⟩:=k.r;grind
theorem arl(h:jf Y X u w){r:Nat}{p:PR}(e:Y r i)(k:xP r p u):xP i p w:=by refine⟨λd f=>(zI h).r e<|k.c d f,?_⟩;let⟨G,n,g,l,m,o⟩:=k.b;let⟨x,q,s⟩:=zI h r i 8 _ e l;obtain⟨v,rfl,y⟩:=Mk s;refine⟨v,n,g,q,m,λj t z=> ?_⟩;let⟨tb,a,B,C,H⟩:=o j t z;let⟨I,J,D⟩:=y _ B;obtain⟨E,rfl,F⟩:=zF D;let⟨K,L,M⟩:=zI h tb E j _ F C;grind [Mj,zF,ark]
theorem arn(h:jf Y X u w)(b:fl Y v x)(a:RQ rs v f u):RQ rs x (λj=>∃i,f i/\Y i j) w:=by refine⟨TO h a.C,Ml b a.I,?_⟩;obtain⟨s,i,rfl,c⟩:=a.M;obtain⟨d,rfl,e⟩:=Mk b;refine⟨d,i,U,λj p g=> ?_⟩;let⟨k,r,l,m,t⟩:=c j p g;let⟨y,z,n⟩:=e _ l;obtain⟨o,rfl,q⟩:=zF n;let⟨B,C,D⟩:=zI h k o j _ q m;grind [Mj,zF,arl]
def zP(k:W.heap[b]?=w.heap[b]?)(h:w.cell? ⟨b,i,Á⟩=Â z):W.cell? ⟨b,i,Á⟩=Â z:=by simp only[ß,k];exact h
def aro(l:kF nB X w)(k:∀b,X b->W.heap[b]?=w.heap[b]?){r:Nat}{p:PR}(d:X r)(h:xP r p w):xP r p W:=by
 refine⟨λi e=>zP (k r d)<|h.c i e,?_⟩;let⟨u,n,v,m,x,y⟩:=h.b;refine⟨u,n,v,zP (k r d) m,x,λj t z=> ?_⟩;let⟨tb,a,o,q,f⟩:=y j t z;have s:X tb:=by have:=l.r d m;rw[o]at this;exact Cd this
 have g:=Cc<|l.r s q;exact⟨tb,a,o,zP (k tb s) q,⟨by rw[k a g];exact f.r,λi e=>zP (k a g)<|f.c i e,zP (k a g) f.p⟩⟩
def RQ.r(h:RQ rs v f w)(k:∀b,f b->W.heap[b]?=w.heap[b]?):RQ rs v f W:=by
 refine⟨h.C.C k,h.I,?_⟩;obtain⟨g,i,rfl,l⟩:=h.M;refine⟨g,i,U,λj p m=> ?_⟩;let⟨a,r,c,d,n⟩:=l j p m;have e:f a:=by have:=h.I;rw[c]at this;exact Cd this
 exact⟨a,r,c,zP (k a e) d,aro h.C k (Cc<|h.C.r e d) n⟩
def abz{v:Ñ}(h:mS m i v):fl (lh (λd=>m<=d/\d<i) nB) v v:=by
 cases v with
 |int k n=>exact .iE k n
 |bool b=>exact .mj b
 |string i=>exact .kq i
 |pointer a=>cases a with
  |none=>exact .lJ
  |some a=>exact fl.jM (Y:=lh (λd=>m<=d/\d<i) nB) ⟨⟨U,h⟩,U,U⟩
 |slice a n c=>cases a with
  |none=>exact .nX n c
  |some a=>exact fl.kH (Y:=lh (λd=>m<=d/\d<i) nB) ⟨⟨U,h⟩,U,U⟩ n c
 |_=>exact absurd h<|by simp[mS]
def arp{v:Ñ}(h:mS m i v):ya v=Ë:=by
 cases v with
 |int k n=>cases k<;>first|rfl|exact absurd h<|by simp[mS]
 |_=>rfl
def arq(h:jz m w):kF nB (λi=>m<=i/\i<w.heap.size) w:=λb i=>by let⟨c,e,f,g,j,k,l,n,d⟩:=h b _ i.1<|å i.2;exact⟨c,e,f,by rw[å i.2,g],j,pv λv a=>abz<|d v a,k,zH λv a=>arp<|d v a,l,n⟩
theorem Ln{base:Nat}(h:w.ownsRow base e 1 v jJ.length (nA jJ)):∃b f,v=Æ b jJ.length f/\∀(j r:Nat),jJ[j]?=Â r->∃a,b=Â ⟨a,0,Á⟩/\base<=a/\w.cell? ⟨a,j,Á⟩=Â (Ã<|Â ⟨r,0,Á⟩):=by
 obtain⟨m,⟨n,o⟩|⟨g,p,q,rfl,i,k,s,t,u,l⟩⟩:=h
 .grind
 .refine⟨_,_,U,λj r c=>⟨g,U,i,?_⟩⟩;have x:=(Õ.1 c).1;have d:(nA jJ)[j]?=Â (Ã<|Â ⟨r,0,Á⟩):=by simp[nA,c]
  rw[<-l,List.getElem?_take_of_lt Z]at d;simp only[ß,k,ö,ì,if_false];simpa using d
def abA(h:fh n (ou zQ++[z]) T w)(a:i<zQ.length):w.cell? ⟨n,i,Á⟩=Â (Å É<|zQ.getD i 0):=h.r i _<|T0 a z
def abB(h:fh i (ou zQ++[z]) T w)(a:zQ.length=n):w.cell? ⟨i,n,Á⟩=Â z:=h.r n _<|by rw[<-a];exact Ch zQ z
def ars{r:PR}(h:vL i n r w):xP n r w:=by
 let⟨x,tb,e,l,y,b⟩:=h.I;refine⟨λa c=>abA e (by rwa[h.C]),?_⟩;obtain⟨m,o,rfl,p⟩:=Ln l;refine⟨m,_,o,abB e h.C,b.r,λj t f=> ?_⟩;have g:j<tb.length:=by rw[b.r];exact(Õ.1 f).1
 let⟨s,u,z,v⟩:=p j tb[j]<|Ó g;let⟨_,_,k,d⟩:=b.I j tb[j] t (Ó g) f;exact⟨s,tb[j],u,v,⟨_,_,d⟩,λa c=>abA d (by rwa[k]),abB d k⟩
def aru(h:Cj m v rs w):RQ rs v (λi=>m<=i/\i<w.heap.size) w:=by
 let⟨f,i,b,c⟩:=h;obtain⟨d,k,rfl,l⟩:=Ln b;refine⟨arq f,?_,d,k,by rw[c.I],λj p e=> ?_⟩
 .cases d with
  |none=>exact .nX _ _
  |some a=>
   have:=b.lt a.block (by rcases b.2 with⟨q,_⟩|⟨g,n,o,q,_⟩<;>(cases q;try rfl));exact abz this
 .have a:j<i.length:=by rw[c.I];exact(Õ.1 e).1
  let⟨g,q,o,n⟩:=l j i[j]<|Ó a;exact⟨g,i[j],q,n,ars<|c.M j i[j] p (Ó a) e⟩
end
def abC(B:ByteArray)(z:Ñ)(u:Í):Prop:=∃v,z=ë #[v,Å É (iB B).1,Å É (iB B).2.1]/\((iB B).1=0->∃a,RQ (iB B).2.2 v a u)
def arv(B:ByteArray):wz (abC B):=λv u T D h=>by let⟨x,a,b⟩:=h;refine⟨x,a,λe=> ?_⟩;let⟨U,c⟩:=b e;exact⟨U,c.r λ_ _=>rfl⟩
def arw{l:fc}(f:gy l)(s:¬l.q)(t:nB<=l.w.heap.size)(u:B.size<=đ)(m:Bool)(h:Ĕ)(k:List Ĕ): fv.fi À m (λa n=>jI l a/\a.d=l.d/\∃v,n=G (h.finish<|ë #[v,Å É (iB B).1,Å É (iB B).2.1]) k/\((iB B).1=0->∃V,RQ (iB B).2.2 v V a.w/\∀b,V b->a.O b/\l.w.heap.size<=b)) l (G (è À 36 #[Ä B] Ą)<|h::k):=by
 let⟨X,c,C,V⟩:=zj 36 fQ;have D:∀T,Ò À 36 #[Ä B] (World.tp (k9 (λj=>False/\¬(lY l).O j) l.w) T 0) fun|Ç v,j=>abC B v j/\kh j|_,_=>False:=λT=>by refine(arj u).mono ?_;rintro e p ⟨g,v,rfl,i,o⟩;exact⟨⟨v,U,λe=>⟨_,aru<|i e⟩⟩,g.gS EM⟩
 refine((D7 yc Lh zj (arv B) fQ C V (D8 f) s (λb q=>q.elim) ⟨λb q=>q.elim,t⟩ (λg q=>by cases q) (pv λv g=>by simp at g;subst g;exact .kq B) D m h k).lY f).fN ?_;rintro a n ⟨x',⟨Y,j,v,v',_,E,F,⟨v0,rfl,o⟩,H,I,_,J⟩,rfl,K,L,_,_⟩;cases F with
 |@nD _ cs'' hs mr=>
  let⟨M⟩:=cs'';match M,hs with
  |[x,y,z],_=>
   have g:=mr 0 fj fj;have p:=mr 1 fj fj;have r:=mr 2 fj fj;simp at g p r;cases p;cases r;refine⟨K,J,x,H,λe=> ?_⟩;let⟨U,N⟩:=o e;refine⟨_,arn E g (N.r λ_ _=>rfl),λb V=> ?_⟩;let⟨i,_,P⟩:=V;let⟨Q,S⟩:=I i b P;have W:l.w.heap.size<=b:=S.elim (λq=>q.elim) λq=>q.elim (λq=>q.elim) id;refine⟨È (Q.resolve_right λq=> ?_),W⟩;rw[L]at q;have:=f.fx b q;omega
end Go.Proofs.Y.kS
namespace Go.Proofs.Y.gP
open Go Go.Proofs Go.RowKit Go.Proofs.Y.Lift
def Ck:List Ñ:=iq (j1 8)++[Æ Á 0 0,Å É 0,Æ Á 0 0]
def arx(w:Í):Ò À 44 #[] w λe a=>∃c B,e=Ç (Æ (Â ⟨c,0,Á⟩) 1 1)/\fh B Ck 147 a/\fh c [Ã<|Â ⟨B,0,Á⟩] 136 a/\e9 ff w a:=by
 have d:(iq<|j1 8).length=144:=rF _;have i:(iq (j1 8)++[Æ Á 0 0]).length=145:=by rw[Ù,d];rfl
 have f:=fe<|Ê d i;unfold Ck;have j:=fe λW=>anH W;generalize j1 8=s at*;go_enter Tryz.func44,Tryz.ntmps44;go_wp2_with (first
  |(go_at_call 60;refine(j.out _).mono ?_;rintro e W ⟨rfl,b⟩;have k:=fe b;clear b)
  |(with_reducible refine ď U (Â 2) U _ _ (S4 U U f.out.1) ?_)
  |(with_reducible refine ď U (Â 3) U _ _ (anY U U f.out.2) ?_)
  |(with_reducible refine ď U (Â 4) U _ _ (H_ U U) ?_))
 have g:=fh.N (W.alloc<|Û (iq s++[Æ Á 0 0,Å É 0,Æ Á 0 0]).toArray 147) [Ã<|Â ⟨W.heap.size,0,Á⟩] 136;have h:=e9.gJ ff (W.alloc<|Û (iq s++[Æ Á 0 0,Å É 0,Æ Á 0 0]).toArray 147) #[Ã<|Â ⟨W.heap.size,0,Á⟩] 136;have l:(W.alloc<|Û (iq s++[Æ Á 0 0,Å É 0,Æ Á 0 0]).toArray 147).heap.size=W.heap.size+1:=fj
 rw[l]at g;have b:=fe<|Ê ((fh.N W (iq s++[Æ Á 0 0,Å É 0,Æ Á 0 0]) 147).I h id)<|Ê g<|(k.out.fg<|e9.gJ ff W (iq s++[Æ Á 0 0,Å É 0,Æ Á 0 0]).toArray 147).fg h;go_ret;exact⟨W.heap.size+1,W.heap.size,U,b.out.1,b.out.2.1,b.out.2.2⟩
def arz(n:Int)(j:1<=n)(k:n<=8)(w:Í):Ò À 35 #[Å É n] w λe b=>∃g a B,e=Ç (ë #[Ã<|Â ⟨g,0,Á⟩,Å É 0])/\fh g [Å É n,Æ (Â ⟨a,0,Á⟩) 1 1] 68 b/\fh B Ck 147 b/\fh a [Ã<|Â ⟨B,0,Á⟩] 136 b/\e9 ff w b:=by go_enter ζ,Tryz.ntmps35;go_wp2_with (go_at_call 44;refine(arx _).mono ?_;rintro e c ⟨a,B,rfl,f,h,i⟩;have d:=fe<|Ê f<|Ê h i;clear f h i);go_ret2;have f:=e9.gJ ff c #[Å É n,Æ (Â ⟨a,0,Á⟩) 1 1] 68;exact⟨c.heap.size,a,B,U,fh.N c [Å É n,Æ (Â ⟨a,0,Á⟩) 1 1] 68,d.out.1.I f id,d.out.2.1.I f id,d.out.2.2.fg f⟩
end Go.Proofs.Y.gP
namespace Go.Proofs.Y.kS
open Go Go.Conc Go.Proofs Go.RowKit Go.Proofs.Y.Lift Go.Proofs.Y.gP Go.Proofs.Y.fv Go.Proofs.Y.om
section
variable{Y:ft}{a:Nat->Prop}
def abD:∀v∈Ck,(∃k n,v=Å k n/\k≠ū)\/(∃p,v=Ä p)\/v=Æ Á 0 0:=λv k=>by
 unfold Ck at k;rcases â.1 k with q|q
 .rcases TN _ v q with⟨n,rfl⟩|⟨p,rfl⟩
  .exact È ⟨_,_,U,A⟩
  .exact Ï<|È ⟨p,U⟩
 .simp at q;rcases q with rfl|rfl|rfl
  .exact Ï<|Ï U
  .exact È ⟨_,_,U,A⟩
  .exact Ï<|Ï U
def abE:kV [gP.mD]:=⟨A,A,λv b=>by simp at b;subst b;exact⟨⟨(λp a=>by cases a),(λp a=>by cases a),Ö _,Ö _⟩,aaf,Ť _,show(0:Int)<1 by decide⟩⟩
def arA(d:gP.fh n Ck 147 w)(f:gP.fh i [Ã<|Â ⟨n,0,Á⟩] 136 w):RD [gP.mD] (Æ (Â ⟨i,0,Á⟩) 1 1) (λk=>k=i\/k=n) w:=by
 refine⟨[(n,gP.mD)],U,abE,⟨_,1,1,U,æ _,⟨U,λj b v e=> ?_⟩⟩,?_,fl.kH (Y:=lh (λk=>k=i\/k=n) nB) ⟨⟨U,È U⟩,U,U⟩ 1 1⟩
 .cases j with
  |zero=>
   cases e;exact⟨_,0,U,f.r 0 _ U,(anZ aaf<|by rwa[ő])⟩
  |succ j=>simp at e
 .rintro b (rfl|rfl)
  .refine⟨_,_,_,f,fj,pv λv c=> ?_,fj,zH λv c=> ?_,A,A⟩
   .simp at c;subst c;exact fl.jM (Y:=lh (λk=>k=b\/k=n) nB) ⟨⟨U,Ï U⟩,U,U⟩
   .simp at c;subst c;rfl
  .refine⟨_,_,_,d,fj,pv λv c=> ?_,by simp[Ck],zH λv c=> ?_,A,A⟩
   .rcases abD v (by simpa using c)with⟨k,a,rfl,_⟩|⟨p,rfl⟩|rfl
    .exact .iE k a
    .exact .kq p
    .exact .nX 0 0
   .rcases abD v (by simpa using c)with⟨k,a,rfl,g⟩|⟨p,rfl⟩|rfl
    .cases k<;>first|rfl|exact absurd U g
    .rfl
    .rfl
def E2(b:Nat)(n:Int)(c:Ñ)(w:Í):Prop:=∃a,w.heap[b]?=Â (Û #[Å É n,c] 68 a)/\a=(0,0)
def E2.r(h:E2 i c v w)(k:W.heap[i]?=w.heap[i]?):E2 i c v W:=by let⟨a,b,d⟩:=h;exact⟨a,k.trans b,d⟩
def arB(h:jf Y a u w)(g:∀b,¬a b)(q:Y i j)(k:gP.fh i [Å É c,v] 68 u):∃l,fl Y v l/\E2 j c l w:=by
 let⟨d,r,e,D,s,m,t,z,_,B,_⟩:=h.r i j q;unfold gP.fh at k;rw[k]at m;cases m;have f:=z.N<|g j;let⟨C⟩:=r;match C,f.r with
 |[x,y],_=>
  have o:=f.C 0 fj fj;have p:=f.C 1 fj fj;simp at o p;cases o;exact⟨y,p,s,t,(B<|g j).symm⟩
end
def abF(n:Int)(z:Ñ)(u:Í):Prop:=∃a b B,z=ë #[Ã<|Â ⟨a,0,Á⟩,Å É 0]/\gP.fh a [Å É n,Æ (Â ⟨b,0,Á⟩) 1 1] 68 u/\RD [gP.mD] (Æ (Â ⟨b,0,Á⟩) 1 1) (λi=>i=b\/i=B) u/\a≠b/\a≠B
def arC(n:Int):wz (abF n):=λv u T D h=>by let⟨b,c,B,d,e,a⟩:=h;exact⟨b,c,B,d,e,a.1.r λ_ _=>rfl,a.2⟩
def arD{l:fc}(p:gy l)(K:¬l.q)(L:nB<=l.w.heap.size){n:Int}(M:1<=n)(N:n<=8)(C:Bool)(r:Ĕ)(s:List Ĕ): fv.fi À C (λf D=>jI l f/\f.d=l.d/\∃a e,D=G (r.finish<|ë #[Ã<|Â ⟨a,0,Á⟩,Å É 0]) s/\E2 a n e f.w/\f.O a/\l.w.heap.size<=a/\∃V,RD [gP.mD] e V f.w/\¬V a/\∀b,V b->f.O b/\l.w.heap.size<=b) l (G (è À 35 #[Å É n] Ą)<|r::s):=by
 let⟨fn,c,P,t⟩:=zj 35 fQ;have Q:∀T,Ò À 35 #[Å É n] (World.tp (k9 (λj=>False/\¬(lY l).O j) l.w) T 0) fun|Ç v,h=>abF n v h/\kh h|_,_=>False:=λT=>by refine(arz n M N _).mono ?_;rintro e z ⟨a,k,B,rfl,V,m,o,g⟩;exact⟨⟨a,k,B,U,V,arA m o,gP.fh.S V o A,gP.fh.S V m A⟩,g.gS EM⟩
 refine((D7 yc Lh zj (arC n) fQ P t (D8 p) K (λb q=>q.elim) ⟨λb q=>q.elim,L⟩ (λg q=>by cases q) (pv λv e=>by simp at e;subst e;exact .iE _ _) Q C r s).lY p).fN ?_;rintro f D ⟨u,⟨Y,h,v,v',_,g,S,⟨a,k,B,rfl,V,m,o,W⟩,X,q7,_,q6⟩,rfl,ha,hR,_,_⟩;have E:∀i j,Y i j->(qu l u).O j/\l.w.heap.size<=j:=λi j e=>by let⟨z,F⟩:=q7 i j e;have H:l.w.heap.size<=j:=F.elim (λq=>q.elim) λq=>q.elim (λq=>q.elim) id;refine⟨È (z.resolve_right λq=> ?_),H⟩;rw[hR]at q;have:=p.fx j q;omega
 cases S with
 |@nD _ cs'' hs mr=>
  let⟨ls⟩:=cs'';match ls,hs with
  |[x,y],_=>
   have F:=mr 0 fj fj;have H:=mr 1 fj fj;simp at F H;cases H;obtain⟨a2,rfl,m3⟩:=Mj F;obtain⟨I,rfl,z⟩:=zF m3;have h2':RD [gP.mD] (Æ (Â ⟨k,0,Á⟩) 1 1) (λi=>i=k\/i=B) {h with tape:=u.w.tape,drawn:=u.w.drawn}:=m.r λ_ _=>rfl;let⟨sN,J,e2⟩:=arB g (λj q=>q.1) z V;let⟨vs,k1,k2,k3,k4,k5⟩:=h2';let⟨vs',n1,n2⟩:=H8 (zI g) J k3;let⟨p1,p2⟩:=E a I z;refine⟨ha,q6,I,sN,X,e2,p1,p2,_,⟨vs',n1.trans k1,k2,n2,TO g k4,Ml J k5⟩,?_,λb t=> ?_⟩
   .rintro⟨i,hi,e⟩;have:=g.C.2.1 _ _ _ z e;subst this;exact hi.elim o W
   .let⟨i,_,e⟩:=t;exact E i b e
end Go.Proofs.Y.kS
namespace Go.Proofs.Y.kS
open Go Go.Conc Go.Proofs Go.RowKit Go.Proofs.Y.Lift Go.Proofs.Y.gP Go.Proofs.Y.fv Go.Proofs.Y.om
structure uO(an:Nat)(xs:List ByteArray)(w:Í):Prop where
 r:∀(p:Nat) (x:ByteArray),xs[p]?=Â x->w.cell? ⟨an,p,Á⟩=Â (Ä x)
 C:w.cell? ⟨an,xs.length,Á⟩=Á
section
variable{an:Nat}{xs:List ByteArray}
theorem uO.qT(h:uO an xs w)(j:0<xs.length):∃c e d,w.heap[an]?=Â (Û c e d)/\c.size=xs.length/\∀v∈c.toList,∃x,v=Ä x:=by
 have i:∀p,p<xs.length->w.cell? ⟨an,p,Á⟩=Â (Ä xs[p]!):=λp a=>h.r p _ (by simp[a]);have b:=i 0 j;have f:=h.C;simp only[ß]at b f;cases g:w.heap[an]? with
 |none=>rw[g]at b;cases b
 |some o=>
  cases o<;>rw[g]at b f<;>simp only[ö,ì,if_false]at b f<;>first|cases b|skip
  rename_i c e d;have k:c.size<=xs.length:=by grind
  have l:=λp a=>by have:=i p a;simp only[ß,g,ö,ì,if_false]at this;exact this
  have m:xs.length<=c.size:=by grind
  refine⟨c,e,d,U,Nat.le_antisymm k m,λv n=> ?_⟩;let⟨p,a⟩:=ė n;have q:p<c.size:=by have:=(Õ.1 a).1;simpa using this
  have:=l p Z;rw[ķ]at a;rw[this]at a;cases a;exact⟨_,U⟩
end
def arE{l:fc}(o:gy l)(F:¬l.q)(H:nB<=l.w.heap.size)(h:uO i vX l.w)(I:0<vX.length)(J:l.M i)(p:lq i=Ë)(f:kQ l.w i=Â (0,0))(hn:vX.length<=1000)(K:B.size=1)(L:iP vX+vX.length<=140737488355328)(r:Bool)(k:Ĕ)(m:List Ĕ): fv.fi À r (λn s=>jI l n/\n.d=l.d/\s=G (k.finish<|Ä<|kE B vX) m) l (G (è À 38 #[Æ (Â ⟨i,0,Á⟩) vX.length vX.length,Ä B] Ą)<|k::m):=by
 let⟨fn,c,N,P⟩:=zj 38 fQ;let⟨t,e,Q,y,b2,z⟩:=h.qT I;have C:(λj=>j=i/\¬(lY l).O j)=λj=>j=i:=by funext j;exact propext ⟨λq=>q.1,λq=>⟨q,id⟩⟩
 have S:∀T,Ò À 38 #[Æ (Â ⟨i,0,Á⟩) vX.length vX.length,Ä B] (World.tp (k9 (λj=>j=i) l.w) T 0) fun|Ç v,E=>v=Ä (kE B vX)/\kh E|_,_=>False:=λT=>by
  refine(TH U Z (æ _) K (λj v a=> ?_) L).mono ?_
  .unfold jl at a;rw[ī]at a;obtain⟨x,b,rfl⟩:=ò.1 a;exact⟨i,0,U,by rw[œ];exact py (È p)<|h.r j x b⟩
  .rintro e g ⟨rfl,b⟩;exact⟨U,b.gS EM⟩
 have V:∀v∈t.toList,fl (pV (λj=>j=i) À.globals.size) v v:=λv a=>by obtain⟨x,rfl⟩:=z v a;exact .kq x
 have X:fR (pV (λj=>j=i) À.globals.size) #[Æ (Â ⟨i,0,Á⟩) vX.length vX.length,Ä B] #[Æ (Â ⟨i,0,Á⟩) vX.length vX.length,Ä B]:=pv λv a=>by
  have b:v=Æ (Â ⟨i,0,Á⟩) vX.length vX.length\/v=Ä B:=by simpa using a
  rcases b with rfl|rfl
  .exact fl.kH (Y:=pV (λj=>j=i) À.globals.size) ⟨⟨U,U⟩,U,U⟩ _ _
  .exact .kq B
 have W:=D7 yc Lh zj (λv u T D h=>h) fQ N P (D8 o) F (λb q=>Ï<|by rwa[q]) (by rw[C];refine⟨λb q=> ?_,H⟩;subst q;exact⟨t,e,Q,y,(by unfold kQ at f;rw[y]at f;cases f;exact Ö _),pv V,λ_=>⟨Z,(λq=>by rw[p]at q;cases q),λ_=>zH λv a=>by obtain⟨x,rfl⟩:=z v a;rfl⟩⟩) (λg q=>by cases q) X (by rwa[C]) r k m;refine(W.lY o).fN ?_;rintro n s ⟨D,⟨Y,E,v,v',_,_,b,rfl,g,_,_,u⟩,rfl,x,_,_,_⟩;cases b;exact⟨x,u,g⟩
end Go.Proofs.Y.kS
namespace Go.Proofs.Y.fv
open Go Go.Conc Go.Proofs.Y.Lift
open Go.ConcN (sumTo sumTo_congr)
def Ui(P:ω)(a:Ñ->Í->Prop):Jd:=λl g=>g.status=.running/\∃v,(∀w,stepG P Î g w=.ended (.done v) w)/\a v l.w
section
variable{Y:Nat->Prop}{e:Nat->fc}
def kC.mS{J:Jd}{T:gw}(c:kC P Y zX i J T D e E w qJ){sl:Option (Nat×Nat)}(k:vQ v u):Ξ P vQ (Į E w sl) (.done v) u qJ:=by
 have C:=c.r.r;have f:∀a g,E[a]?=Â g->a≠0->QuitsD P (D a) (Deaf qJ a) g:=λa g b d=>by
  let⟨g0,j,h,_,_⟩:=c.r.C a g b;obtain rfl:g=g0:=by cases h;rfl
  simp only[d,if_false]at j;rw[C.f a<|(á.1 b).1];exact j _<|fH.fU _ _
 refine⟨v,U,k,C.l,c.N,⟨λg l=> ?_,U⟩,λa g b d=>⟨D a,(f a g b d).hears _⟩⟩;let⟨j,h⟩:=ė l;rw[List.getElem?_drop]at h;exact⟨_,(f (1+j) g (by rwa[<-ķ]) Z).leaves⟩
theorem arF{J:Jd}{T:gw}{l:fc}(u:l.w=W)(v:l.d=0)(m:¬l.q)(n:∀b,¬l.I b)(r:∀a,¬l.r a)(o:∀a,¬l.N a)(y:∀a,¬l.K a)(z:∀b,l.O b->b<W.heap.size)(B:g.status=.running)(C:kX P Î J T l g):rA P (λ_=>False) 0 J T (λ_=>0) (λ_=>l) #[g] W #[]:=by
 have f:∀(p:Nat) a,touchAt #[] p=Â a->False:=λp a h=>by unfold touchAt Trace.act? at h;simp at h
 refine⟨fj,⟨⟨λi j s D E=> ?_,λi j s D E=> ?_,λi _ b _=>n b,λi _ a _=>o a,λ_ _ _ _=>id,λi _ a e=>e.elim (λq=>absurd q<|r a) λq=>absurd q<|o a,λi _ b F=>F.elim (z b) λq=>absurd q<|n b,λ_ h=>h.elim,λi _=>by rw[u];exact fH.fU _ _,λi _=>⟨λa e p x k=>(f p x k).elim,λa e=>(n _ e).elim,λa e=>(r a e).elim,λa e=>(o a e).elim⟩,λi _=>by rw[v];rfl,λH q=> ?_,λI G=>by simp at G,λp a c h=>(f p a h).elim,λi _ a e=>absurd e<|y a⟩,λi x k=> ?_,λj _=>rfl⟩,λi L s=> ?_,m,λp a h=>(f p a h).elim,λp a x h=>(f p a h).elim,λa _ q m=> ?_,?_⟩
 .grind
 .grind
 .let⟨i,j,_,⟨a,b,e,_⟩,_⟩:=q;simp[Trace.act?]at e
 .have t:i<1:=(á.1 k).1;obtain rfl:i=0:=Z
  obtain rfl:g=x:=by simpa using k
  exact⟨g,C,.gl,È B,È U⟩
 .grind
 .simp[Trace.act?]at m
 .intro i g t;simp[Trace.g?]at t
end
end Go.Proofs.Y.fv
namespace Go.Proofs.Y.kS
open Go Go.Conc Go.Proofs Go.RowKit Go.Proofs.Y.Lift Go.Proofs.Y.gP Go.Proofs.Y.fv Go.Proofs.Y.om
open Go.ConcN (sumTo)
def zR(f:Ñ->Í->Prop)(c:Array Ċ)(w:Í)(d:Option (Nat×Nat))(t:Ž):Prop:=
 ∃N a v b e,ſ À (N+1) (Į c w d) t=(.ended (.done v) b,e)/\runN À N (Į c w d)=.next a/\step À a=.ended (.done v) b/\Ξ À f a (.done v) b e
section
variable{f:Array Ċ}{w':Í}{sl e:Option (Nat×Nat)}{t:Ž}{l:fc}
def zR.fN{a:Ñ->Í->Prop}(h:zR vQ E w sl t)(b:∀v u,vQ v u->a v u):zR a E w sl t:=by let⟨M,c,v,x,d,e,f,g,i⟩:=h;exact⟨M,c,v,x,d,e,f,g,i.mono λv q=>b v x q⟩
def zR.qu{N:Nat}(r:ſ À N (Į E w sl) t=(.next<|Į f w' e,qJ))(h:zR vQ f w' e qJ):zR vQ E w sl t:=by
 let⟨M,a,v,x,b,c,d,g,i⟩:=h;refine⟨N+M,a,v,x,b,?_,?_,g,i⟩
 .rwa[Nat.add_assoc,runNT_add,r]
 .rw[<-Ţ À (N+M) (Į E w sl) t,runNT_add,r];rwa[Ţ]
def rV(vQ:Ñ->Í->Prop)(E:Array Ċ)(w:Í)(sl:Option (Nat×Nat))(t:Ž):Prop:=zR (λv u=>vQ v u/\u.os=w.os/\u.output=w.output) E w sl t
def rV.r{N:Nat}(r:ſ À N (Į E w sl) t=(.next<|Į f w' e,qJ))(a:w'.os=w.os/\w'.output=w.output)(h:rV vQ f w' e qJ):rV vQ E w sl t:= zR.qu r<|h.fN λ_ _ q=>⟨q.1,q.2.1.trans a.1,q.2.2.trans a.2⟩
def kC.arG{Y:Nat->Prop}:∀(s:Nat) (h:Nat->Nat) (j:Nat->fc) (E:Array Ċ) (w:Í) (sl:Option (Nat×Nat)) (t:Ž),sumTo E.size h=s->kC À Y zX n (Ui À vQ) .fB h j E w t->rV vQ E w sl t:=by
 intro s
 induction s using Nat.strongRecOn with
 |_ s r=>
  intro h j E w sl t I c;have J:=c.C;obtain⟨g0,a⟩:∃g,E[0]?=Â g:=⟨_,å Z⟩;have o:∀d,Ui À vQ {j 0 with w:=w.at d} g0:=λd=>by
   let⟨u,b,k,_,_⟩:=(c.I d).r.C 0 g0 a;obtain rfl:g0=u:=by cases k;rfl
   exact b (w.at d)<|(c.I d).r.r.r 0 Z
  obtain⟨i,g,d,e,l,x,m⟩:=crowd_pick c.J9 ⟨0,g0,a,(o 0).1⟩;by_cases p:i=0
  .subst p;rw[a]at l;obtain rfl:=ag l;let⟨_,v,q,y⟩:=o d;have u:stepT À (Į E w sl)=(.ended (.done v)<|w.at d,#[]):=by
    rw[m,ConcN.runT_crowd_ended a<|q<|w.at d];rfl
   refine⟨0,Į E w sl,v,w.at d,t,?_,U,?_,c.mS ⟨y,U,U⟩⟩
   .simp[ſ,u]
   .have:=stepT_fst À (Į E w sl) Î;rw[<-this];rw[u]
  .let⟨q,y,f,u,b,k,K,L,z⟩:=(c.I d).Zu (sl:=e) l p x;let⟨N,B,v,w',qJ,C,D,F,G⟩:=r (sumTo f.size q) (by rw[k];omega) q y f (w.at d) e (t++u) U z;refine⟨N+1,B,v,w',qJ,by simp only[ſ,m,b];exact C,?_,F,G⟩;have:=Ţ À (N+1) (Į E w sl) t;rw[<-this];simp only[ſ,m,b];rwa[Ţ]
structure gB(l:fc):Prop where
 r:gy l
 d:l.d=0
 q:¬l.q
 N:∀b,¬l.I b
 I:∀a,¬l.r a
 M:∀a,¬l.N a
 k:∀a,¬l.K a
def gB.C(h:gB l)(r:fH l l.w u):gB {l with w:=u}:= ⟨⟨h.r.c,h.r.Y,h.r.N,λb q=>Ģ (h.r.fx b q) r.r,λa q=>q.elim (λz=>(h.I a z).elim) λz=>(h.M a z).elim,λa q=>(h.k a q).elim⟩,h.d,h.q,h.N,h.I,h.M,h.k⟩
def iC(vQ:Ñ->Í->Prop)(l:fc)(g:Ċ):Prop:=
 gB l->g.status=.running->∀(a:Loc->Prop) (H:Nat) (J:Jd) (c:Nat->Nat) (b:Nat->fc) (E:Array Ċ) (sl:Option (Nat×Nat)) (t:Ž),vz a H l->fv.rA À a H J .fB c b E l.w t->(b 0).d=0->E[0]?=Â g->rV vQ E l.w sl t
def arH{a:fc}(h:vz zX i l)(k:qB l a l.w a.w):vz zX i a:= ⟨h.r,λb c x d q=>by
  rcases k.N b c with z|z
  .exact h.fp b z x d q
  .have:=h.r x q;have:=h.C;omega,Ì h.C k.r⟩
def Uj{J f:Jd}{e:Nat->fc}(a:gB l)(h:g.status=.running)(j:vz zX i l)(c:fv.rA À zX i J .fB D e E l.w t)(m:(e 0).d=0)(n:E[0]?=Â g)(W:fv.fi À Î f l g):∃T,fv.rA À zX i f T D (fv.u7 e l) E l.w t:=by let⟨T,o⟩:=ji W;exact⟨T,kC.Y c m n h U a.d a.q a.N a.I a.M a.k (λb q=>⟨a.r.fx b<|È q,j.fp b q⟩) o⟩
def abG{Y:Nat->Prop}{J:Jd}{a:Nat->fc}(c:kC À Y zX i J .fB D a E w t):∃g,E[0]?=Â g/\J {a 0 with w:=w} g:=by
 obtain⟨g0,b⟩:∃g,E[0]?=Â g:=⟨_,å c.C⟩;let⟨d,e,f,_,_⟩:=c.r.C 0 g0 b;obtain rfl:g0=d:=by cases f;rfl
 exact⟨g0,b,e w<|c.r.r.r 0 c.C⟩
def xR(vQ:Ñ->Í->Prop):Jd:=λl g=>gB l/\g.status=.running/\iC vQ l g
def arI{b:Nat->fc}{T:gw}(m:(b 0).w=w)(n:vz zX i (b 0))(c:fv.rA À zX i (xR vQ) T D b E w t):rV vQ E w sl t:=by let⟨N,o,p,f,w',e,qJ,r,_,a,j⟩:=kC.G (λl g h=>È h.2.1) T _ D b E w sl t U c;let⟨v,q,h,s,u⟩:=abG j;refine rV.r r ⟨a.C,a.I⟩<|u h s zX i (xR vQ) o p f e qJ ?_ j h.d q;apply arH n;rw[m];exact⟨a.r,a.N,a.c,a.S,a.b,a.k,a.jO,a.M,a.Y,a.C,a.I,a.d⟩
def lI(W:fv.fi À Î (xR vQ) l g):iC vQ l g:=by intro b d i H J j k E sl t a c e f;let⟨T,h⟩:=Uj b d a c e f W;exact arI (by rw[fv.R8]) (by rwa[fv.R8]) h
def abH(W:fv.fi À Î (Ui À vQ) l g):iC vQ l g:=by intro b d s H J i u E sl t j c k m;let⟨T,n⟩:=Uj b d j c k m W;let⟨N,o,p,f,w',e,qJ,r,_,a,q⟩:=kC.G (λl g h=>È h.1) T _ i _ E l.w sl t U n;exact rV.r r ⟨a.C,a.I⟩<|kC.arG _ o p f w' e qJ U q
def zL.N{e:vF}{R:Nat}{kd:Nat->Int}{f:List fF}{c:fc}(h:zL X e R kd f l i v c)(r:fH c c.w u):zL X e R kd f l i v {c with w:=u}:=by have a:=λb q=>r.I b<|È q;let⟨V,j,g⟩:=h.Y;exact⟨λb q=>⟨(h.M b q).1,(a b (h.M b q).1).trans (h.M b q).2⟩,⟨h.r.1,λp k=>(gK<|a i h.r.1).trans<|h.r.2 p k⟩,⟨V,j.r λb q=>a b (g b q).1,g⟩,h.d,h.q,h.S,h.C,(gK<|a i h.r.1).trans h.I.1,(wB<|a i h.r.1).trans h.I.2⟩
def arJ{kd:Nat->Int}{bt:vF}{V0 h:Nat->Prop}{s0:List fF}{B:Option ù}{I:Option ù}{R:Nat}{C:Ĕ}{z:Array ğ} (G5:0<R->I=Â ⟨j7,0,Á⟩) (vu:0<R->l.M j7) (G6:∀i,i<R->l.w.cell? ⟨j7,i,Á⟩=Â (Ã<|Â ⟨D i,0,Á⟩)) (G7:∀i,i<R->l.w.cell? ⟨D i,4,Á⟩=Â (Å É<|kd i)) (K:Ic l bt kd D R X) (hZ:(∀b,X b->h b)/\∀b,b=1\/b=2\/b=3\/b=4->h b) (hZO:∀b,h b->l.O b) (hVZ:∀b,V0 b->h b) (BL:RD s0 (Æ B j j9) V0 l.w) (hn:1<=n) (hs:n+R<1000) (hJ:∀o v p m c,gB o->zL h bt R kd s0 l v (Æ p m c) o->iC vQ o (G (C.at (y.put ((z[i]?).bind (·.dst))<|ë #[Æ (Â ⟨v,0,Á⟩) R R,Æ p m c])<|Ð z jJ::L) qX)): iC vQ l (DY (Æ B j j9) (Æ I R j6) n<|C.at y (Ð z (i::jJ)::L)::qX):=by
 intro s hr jj H J lv lot E sl t Mp c hd P;have W:fv.fi À Î (K4 kd D R n (Æ B j j9) l<|C.at y (Ð z (i::jJ)::L)::qX) l (DY (Æ B j j9) (Æ I R j6) n<|C.at y (Ð z (i::jJ)::L)::qX):= ajk s.r s.q s.d Z G5 vu G6 (λi P=>È<|K.fp _<|K.r i P) G7 λg S o u x F v T V Y bw bf v1 h1 h2=>⟨g,S,u,x,F,v,T,V,Y,bw,bf,v1,h1,h2,U⟩;let⟨T,c'⟩:=Uj s hr Mp c hd P W;let⟨N,jx,Hl,f,w',e,qJ,r,_,x,c''⟩:=kC.G (λlx gx S=>by obtain⟨_,_,_,_,_,_,_,_,_,_,_,_,_,_,rfl⟩:=S;exact È U) T _ lv _ E l.w sl t U c';apply rV.r r ⟨x.C,x.I⟩;let⟨N2,arK,V,T2,K5,Sf,gs2,w2,K6,t2,r2,io2,c2⟩:=apU (J:=λu V o F=>vz u V o/\xR vQ o F) U c'' e s.r s.N s.q s.d Mp K hZ hZO hVZ BL ⟨x.C,x.I⟩ hn hs λD5 H' o v p m c Y z2 u=> .fB λw₁ F=>by have kZ:gB o:=⟨z2,u.d,u.q,u.S,u.C.1,u.C.2.1,u.C.2.2⟩;exact⟨⟨Y.r,Y.fp,Ì Y.C F.r⟩,kZ.C F,U,hJ _ v p m c (kZ.C F)<|u.N F⟩
 apply rV.r r2 ⟨io2.1.trans x.C.symm,io2.2.trans x.I.symm⟩;let⟨N3,SS,arL,gs3,w3,sl3,t3,r3,_,wn3,c3⟩:=kC.G (λlx gx S=>È S.2.2.1) T2 _ K5 Sf gs2 w2 K6 t2 U c2;apply rV.r r3 ⟨wn3.C,wn3.I⟩;let⟨g3,Uk,pH,S,hr3,hs3⟩:=abG c3;exact hs3 S hr3 arK V _ SS arL gs3 sl3 t3 pH c3 S.d Uk
end
end Go.Proofs.Y.kS
namespace Go.Proofs.Y.kS
open Go Go.Conc Go.Proofs Go.RowKit Go.Proofs.Y.Lift Go.Proofs.Y.gP Go.Proofs.Y.fv Go.Proofs.Y.om
open Go.Conc.Lib Go.ConcR.Gen Go.Proofs.YtgpphkdoanciiaaGreatDoor
def toTx(t:PT):Tx:=⟨(t.c.getD 0 0).toNat,(t.c.getD 1 0).toNat,t.c.getD 2 0,t.c.getD 3 0,t.c.getD 4 0,t.p⟩
def toQn(r:PR):Qn:=⟨(r.c.getD 0 0).toNat,(r.c.getD 1 0).toNat,(r.c.getD 2 0).toNat,(r.c.getD 3 0).toNat,r.c.getD 4 0,r.c.getD 5 0,r.c.getD 6 0,(r.c.getD 7 0).toNat⟩
def oL:PR:=⟨[],[]⟩
def vO(a:List PR):vF where
 r:=λp=>((a.getD p oL).c.getD 5 0,((a.getD p oL).c.getD 0 0).toNat,(a.getD p oL).r.map toTx)
 C:=λp=>toQn<|a.getD p oL
def kO(a:List PR)(p:Nat):Int:=(a.getD p oL).c.getD 4 0
section
variable{p:PR}{t:PT}{a:Nat}{rs:List PR}{l:fc}
theorem toTx_ok(h:nU t):(toTx t).Ok:=by have d:=h.c.r 0 A;have e:=h.c.r 1 A;have a:=h.c.r 2 A;have b:=h.c.r 3 A;simp only[lu]at d e a b;exact⟨by show(t.c.getD 0 0).toNat<8;omega,by show(t.c.getD 1 0).toNat<8;omega,a.1,a.2,b.1,b.2,h.p⟩
theorem zS(a:0<=c)(h:w.cell? ⟨b,i,Á⟩=Â (Å É c)):w.cell? ⟨b,i,Á⟩=Â (Å É (c.toNat:Nat)):=by grind
theorem arM(h:nU t)(k:Il a t w):lS a (toTx t) w:=by have b:=h.c.r 0 A;have d:=h.c.r 1 A;simp only[lu]at b d;exact⟨k.r,zS b.1<|k.c 0 A,zS d.1<|k.c 1 A,k.c 2 A,k.c 3 A,k.c 4 A,k.p⟩
theorem arN(h:uK p)(k:xP i p w):Ce i (p.c.getD 5 0) (p.c.getD 0 0).toNat (p.r.map toTx) w:=by
 have e:=h.c.r 0 A;simp only[lu]at e;let⟨f,n,g,l,m,o⟩:=k.b;let⟨r,s,u⟩:=vY (R:=λj t (y:Nat×Tx)=>y.2=toTx t/\∃d,f=Â ⟨d,0,Á⟩/\w.cell? ⟨d,j,Á⟩=Â (Ã<|Â ⟨y.1,0,Á⟩)/\Il y.1 t w) p.r 0 λj t v=>by let⟨d,a,y,q,x⟩:=o j t v;simp_all
 refine⟨f,n,g,r,⟨zS e.1<|k.c 0 A,k.c 5 A,l⟩,⟨by rw[m,s],λj a t q=> ?_⟩,?_,by have:=h.n;omega⟩
 .let⟨x,z,y,d,D,B,C⟩:=u j (a,t) q;simp only at y B C;subst y;have E:=h.C x<|ç z;grind [arM,toTx_ok]
 .refine Ŕ λj=> ?_;unfold lG;grind
def arO(h:uK p)(k:xP i p w):Ib i (toQn p) w:=by have a:=h.c.r 0 A;have b:=h.c.r 1 A;have d:=h.c.r 2 A;have e:=h.c.r 3 A;have f:=h.c.r 7 A;simp only[lu]at a b d e f;exact⟨zS a.1<|k.c 0 A,zS b.1<|k.c 1 A,zS d.1<|k.c 2 A,zS e.1<|k.c 3 A,k.c 4 A,k.c 5 A,k.c 6 A,zS f.1<|k.c 7 A⟩
def abI(h:uK p)(k:p.c.getD 4 0≠1):(toQn p).Ok:=by
 have d:=h.c.r 0 A;have e:=h.c.r 1 A;have f:=h.c.r 2 A;have g:=h.c.r 3 A;have i:=h.c.r 4 A;have a:=h.c.r 5 A;have b:=h.c.r 6 A;have j:=h.c.r 7 A;simp only[lu]at d e f g i a b j;refine⟨?_,?_,?_,?_,?_,?_,a.1,b.1,?_⟩
 .show(p.c.getD 0 0).toNat<8;omega
 .show(p.c.getD 1 0).toNat<8;omega
 .show(p.c.getD 2 0).toNat<1000000;omega
 .show(p.c.getD 3 0).toNat<18446744073709551616;omega
 .show 2<=p.c.getD 4 0;omega
 .show p.c.getD 4 0<=9;omega
 .show(p.c.getD 7 0).toNat<16;omega
theorem arP(h:RQ rs v X l.w)(k:∀i∈rs,uK i)(B:nz l.w)(C:∀b,b=1\/b=2\/b=3\/b=4->l.O b)(m:∀b,X b->l.O b): ∃d e f g,v=Æ d rs.length e/\(0<rs.length->d=Â ⟨f,0,Á⟩)/\(0<rs.length->l.O f)/\(∀a,a<rs.length->l.w.cell? ⟨f,a,Á⟩=Â (Ã<|Â ⟨g a,0,Á⟩))/\(∀a,a<rs.length->l.w.cell? ⟨g a,4,Á⟩=Â (Å É<|kO rs a))/\Ic l (vO rs) (kO rs) g rs.length X:=by
 obtain⟨o,D,rfl,E⟩:=h.M;have p:∀a,a<rs.length->rs[a]?=Â (rs.getD a oL):=λa d=>by simp[Ġ,d]
 have r:=λa d=>ç<|p a d;obtain⟨f,s⟩:∃f,∀a,a<rs.length->o=Â ⟨f,0,Á⟩:=by
  by_cases e:0<rs.length
  .let⟨j,i,q,_⟩:=E 0 _<|p 0 e;exact⟨j,λ_ _=>q⟩
  .simp_all
 have F:∀a,∃i,a<rs.length->l.w.cell? ⟨f,a,Á⟩=Â (Ã<|Â ⟨i,0,Á⟩)/\xP i (rs.getD a oL) l.w:=λa=>by grind
 let⟨g,j⟩:=Classical.axiomOfChoice F;have u:=λe=>by have:=h.I;rw[s 0 e]at this;exact Cd this
 refine⟨o,D,f,g,U,λe=>s 0 e,λe=>m _<|u e,λa d=>(j a d).1,λa d=>(j a d).2.c 4 A,B,C,h.C,m,λa d=>(Cc<|h.C.r (u Z) (j a d).1),λa d y=> ?_,λa d y=> ?_⟩
 .have q:=k _<|r a d;have e:=q.c.r 0 A;have z:=q.c.r 5 A;simp only[lu]at e z;refine⟨arN q (j a d).2,?_,z.1,λt G=> ?_,?_⟩
  .show((rs.getD a oL).c.getD 0 0).toNat<8;omega
  .obtain⟨x,H,rfl⟩:=Ú.1 G;exact toTx_ok<|q.C x H
  .show((rs.getD a oL).r.map toTx).length<=1000;rw[ú];have:=q.n;omega
 .have q:=k _<|r a d;exact⟨arO q (j a d).2,abI q y⟩
end
theorem E3:(∀r∈(iB B).2.2,uK r)/\(iB B).2.2.length<=24:=by
 unfold iB;split
 .grind
 .split
  .unfold mF;split
   .grind
   .have:=(Uc B.size 0 sZ (Ub B)<|Ö _).1.d;exact⟨this.G,this.C⟩
  .grind
def kP(rs:List PR)(s:List fF):List ByteArray:=(ĳ rs.length).map λp=>vG (vO rs) (kO rs) p<|pz (vO rs) (gX (kO rs) rs.length) s<|fK (kO rs) p
def vP(rs:List PR)(s:List fF):List fF:=pz (vO rs) (gX (kO rs) rs.length) s<|fK (kO rs) rs.length
def ly(s:List fF)(B:ByteArray):ByteArray×Int×List fF:=
 if(iB B).1=0 then(kE ⟨#[59]⟩<|kP (iB B).2.2 s,0,vP (iB B).2.2 s)else(⟨#[]⟩,(iB B).1,s)
section
variable{b:Ĕ}{l:fc}{a:Ĉ}
def abJ{md:Ŀ}(I:Array Bool->Ĉ->fc->Prop) (o:∀c a l i k,I c a l->i∈ä md Q c->(∀f g,I (c.setIfInBounds i Î) f g->iC vQ g (G (b.at f<|Ð Q k::L) qX))->iC vQ l (G (b.at a<|Ð Q (i::k)::L) qX)) (m:∀c a l,I c a l->c.size=Q.size->ä md Q c=[]->iC vQ l (G (b.at a<|Ð Q []::L) qX)): ∀(d t:Nat) (c:Array Bool) (a:Ĉ) (l:fc),c.size=Q.size->jo c<=d->I c a l->iC vQ l (G (b.at a<|Ð Q (ć md Q d t c [])::L) qX):=by
 intro d
 induction d with
 |zero=>
  intro t c a l e p h;simpa[ć]using m c a l h e<|QK e Z
 |succ d q=>
  intro t c a l e p h;simp only[ć];change iC vQ l (G (b.at a (Ð Q (match(ä md Q c)[t%(ä md Q c).length]? with
   |some i=>ć md Q d (t/(ä md Q c).length) (c.setIfInBounds i Î) [i]
   |none=>[].reverse)::L)) qX)
  cases j:(ä md Q c)[t%(ä md Q c).length]? with
  |none=>
   have r:ä md Q c=[]:=by
    cases s:ä md Q c with
    |nil=>rfl
    |cons x n=>
     rw[s]at j;have u:t%(x::n).length<(x::n).length:=Nat.mod_lt _ fj;simp at j;simp at u;omega
   simpa using m c a l h e r
  |some i=>
   simp only[];rw[linearise_go_acc,List.reverse_singleton,List.singleton_append];have n:=ç j;refine o c a l i _ h n λf g r=>(q _ _ f g (by simpa using e) (by have:=Kj (Β.1 n).1;omega) r)
def arQ{id:Nat}(I:Array Bool->Ĉ->fc->Prop)(e:gB l) (j:∀f,fH l l.w f->I (Ū Q.size Ë) a {l with w:=f}) (k:∀g c a l i m,I c a l->i∈ä g Q c->(∀n o,I (c.setIfInBounds i Î) n o->iC vQ o (G (b.at n<|Ð Q m::L) qX))->iC vQ l (G (b.at a<|Ð Q (i::m)::L) qX)) (p:∀g c a l,I c a l->c.size=Q.size->ä g Q c=[]->iC vQ l (G (b.at a<|Ð Q []::L) qX)): iC vQ l (G (b.at a<|ax (.region id Q Î)::L) qX):=by
 refine lI (.mk U λf r=>⟨_,_,_,_,stepG_region_draw,QJ (mA e.r.r r) e.q,.fB λs d=> ?_⟩);have h:=r.fg ⟨d.r,d.I,d.N,d.Y,d.S⟩;refine⟨e.C h,U,?_⟩;unfold Region.schedule;split
 .exact abJ I (k _) (p _) _ _ _ _ _ fj (by rw[Dl];exact æ _)<|j s h
 .exact abJ I (k _) (p _) _ _ _ _ _ fj (by rw[Dl];exact æ _)<|j s h
def arR{I:Ĉ->fc->Prop}(W:fv.fi À Î (λa d=>∃c,d=G (b.at c<|Ð Q jJ::L) qX/\I c a) l g)(f:∀c a,I c a->gB a)(i:∀c a,I c a->iC vQ a (G (b.at c<|Ð Q jJ::L) qX)):iC vQ l g:= lI (W.fN λa d h=>by obtain⟨c,rfl,e⟩:=h;exact⟨f c a e,U,i c a e⟩)
def vR{f:FuncId}{fn:Func}(xs:List Value)(n:Nat)(hf:Tryz.prog.funcs[f]?=some fn)(hb:fn.body=some (jZ fn []):=by kernel_rfl)(hn:fn.ntmps=xs.length+n:=by kernel_rfl):Frame.enter Tryz.prog f xs.toArray .normal=(base f).at ⟨(xs++List.replicate n undef).toArray,[]⟩ [.code<|jZ fn []]:=by rw[enter_at _ hf hb,hn,ř,Nat.add_sub_cancel_left,show xs.toArray++Ū n ĸ=(xs++ą n ĸ).toArray from Array.ext' fj]
def zU{J:Jd}{f:Ρ}{args:Array Ñ}(d:Q[i]?=Â o)(e:ē o (Ι Q a.tmps)=Î)(g:b.kind≠.early)(h:ki l) (j:∀w,(ś a.eval o).run À w=.ok (.enter f args) w) (k:∀w,(ś a.eval o).events À w #[]=#[]) (m:∀c,fH l l.w c->fv.fi À Î J {l with w:=c} (G (è À f args Ą)<|b.at a (Ð Q (i::jJ)::L)::qX)): fv.fi À Î J l (G (b.at a<|Ð Q (i::jJ)::L) qX):=by refine .mk U λc r=>⟨G (è À f args Ą)<|b.at a (Ð Q (i::jJ)::L)::qX,c,#[],{l with w:=c},?_,Pj c<|mA h r,m c r⟩;rw[stepG_enter d e g<|j c];unfold ay;rw[k c,seen_none]
def E4{f:Ρ}{args:Array Ñ}(e:gB l)(j:Q[i]?=Â o)(k:ē o (Ι Q a.tmps)=Î)(m:b.kind≠.early) (n:∀w,(ś a.eval o).run À w=.ok (.enter f args) w) (p:∀w,(ś a.eval o).events À w #[]=#[]) (q:∀d,fH l l.w d->iC vQ {l with w:=d} (G (è À f args Ą)<|b.at a (Ð Q (i::jJ)::L)::qX)): iC vQ l (G (b.at a<|Ð Q (i::jJ)::L) qX):= lI (zU j k m e.r.r n p λd r=> .fB λg c=>by have h:fH l l.w g:=r.fg ⟨c.r,c.I,c.N,c.Y,c.S⟩;exact⟨e.C h,U,q g h⟩)
def jI.BM{c:fc}(e:gB l)(h:jI l c)(k:c.d=l.d):gB c:=by
 have g:∀b,¬c.I b:=by rw[h.I];exact e.N
 have f:∀a,¬c.r a:=by rw[h.N];exact e.I
 have i:∀a,¬c.N a:=by rw[h.Y];exact e.M
 have j:∀a,¬c.K a:=by rw[h.K];exact e.k
 exact⟨⟨λb _=>g b,λa q=>(f a q).elim,λa q=>q.elim (λz=>(f a z).elim) λz=>(i a z).elim,λb q=>q.elim (λz=>h.fx b z) λz=>(g b z).elim,λa q=>q.elim (λz=>(f a z).elim) λz=>(i a z).elim,λa q=>(j a q).elim⟩,k.trans e.d,by rw[h.q];exact e.q,g,f,i,j⟩
end
def Im:ğ:=⟨Â 21,.move<|ň 0,26, "attic.go:46",#[],Á⟩
def Io:ğ:=⟨Â 22,.nilCheck<|ň 21,0, "attic.go:46",#[⟨0,ĉ⟩],Á⟩
def Ip:ğ:=⟨Â 23,.fieldAddr 68 (ň 22) 1,0, "attic.go:46",#[⟨1,ĉ⟩],Á⟩
def Iq:ğ:=⟨Â 24,.load 65<|ň 23,65, "attic.go:46",#[⟨2,ĉ⟩],Á⟩
def Ir:ğ:=⟨Â 25,.move<|ň 6,61, "attic.go:46",#[],Á⟩
def Is:ğ:=⟨Â 26,.move<|ň 0,26, "attic.go:46",#[],Á⟩
def It:ğ:=⟨Â 27,.nilCheck<|ň 26,0, "attic.go:46",#[⟨5,ĉ⟩],Á⟩
def Iu:ğ:=⟨Â 28,.fieldAddr 68 (ň 27) 0,0, "attic.go:46",#[⟨6,ĉ⟩],Á⟩
def Iv:ğ:=⟨Â 29,.load 3<|ň 28,3, "attic.go:46",#[⟨7,ĉ⟩],Á⟩
def xS:ğ:=⟨Â 30,.call {callee:=.value<|.func 37,args:=#[ň 24,ň 25,ň 29],argTypes:=#[65,61,3]},66, "attic.go:46",#[⟨3,ĉ⟩,⟨4,ĉ⟩,⟨8,ĉ⟩],Á⟩
def zV:ğ:=⟨Â 20,.move<|ň 30,66, "attic.go:46",#[⟨9,ĉ⟩],Á⟩
def Cl:ğ:=⟨Â 31,.extract (ň 20) 0,25, "attic.go:46",#[⟨10,ĉ⟩],Á⟩
def Cm:ğ:=⟨Â 32,.extract (ň 20) 1,65, "attic.go:46",#[⟨10,ĉ⟩,{on:=13,ground:=Ground.gcOnly Departure.lateStores}],Á⟩
def Cn:ğ:=⟨Â 9,.assign<|ň 31,25, "attic.go:46",#[⟨11,ĉ⟩,⟨9,.chain⟩,⟨0,ñ⟩,⟨1,ñ⟩,⟨2,ñ⟩,⟨3,ñ⟩,⟨4,ñ⟩,⟨5,ñ⟩,⟨6,ñ⟩,⟨7,ñ⟩,⟨8,ñ⟩,⟨9,ñ⟩,⟨10,ñ⟩,⟨11,ñ⟩,{on:=12,ground:=Ground.textOnly Departure.lateStores}],Á⟩
def Co:ğ:=⟨Â 10,.assign<|ň 32,65, "attic.go:46",#[⟨12,ĉ⟩,⟨13,.chain⟩,⟨0,ñ⟩,⟨1,ñ⟩,⟨2,ñ⟩,⟨3,ñ⟩,⟨4,ñ⟩,⟨5,ñ⟩,⟨6,ñ⟩,⟨7,ñ⟩,⟨8,ñ⟩,⟨9,ñ⟩,⟨10,ñ⟩,⟨11,ñ⟩,⟨12,ñ⟩,⟨13,ñ⟩],Á⟩
def ov:Array ğ:=#[Im,Io,Ip,Iq,Ir,Is,It,Iu,Iv,xS,zV,Cl,Cm,Cn,Co]
noncomputable def Ul:Τ:=jZ Tryz.f17 [1,1,1,1]
structure nV(l:fc)(ab n:Nat)(s:List fF)(sl:Ñ)(V:Nat->Prop):Prop where
 r:nz l.w
 C:∀b,b=1\/b=2\/b=3\/b=4->l.O b
 a:E2 ab n sl l.w
 fp:l.O ab
 I:RD s sl V l.w
 Y:∀b,V b->l.O b
 e:¬V ab
 c:1<=n
 d:n<=8
 M:¬(ab=1\/ab=2\/ab=3\/ab=4)
structure MH(l l':fc)(ab n:Nat)(s':List fF)(V:Nat->Prop):Prop where
 vd:∀b,l.O b->b≠ab->l'.O b/\l'.w.heap[b]?=l.w.heap[b]?
 att:∃sN V',nV l' ab n s' sN V'/\∀b,V' b->V b\/(b=1\/b=2\/b=3\/b=4)\/l.w.heap.size<=b
section
variable{l d:fc}{ab:Nat}{s:List fF}{sl:Ñ}{V:Nat->Prop}
def nV.S{a:fc}(h:nV l ab n s sl V)(c:∀b,l.O b->a.O b)(d:∀b,l.O b->a.w.heap[b]?=l.w.heap[b]?)(e:l.w.heap.size<=a.w.heap.size):nV a ab n s sl V:= ⟨h.r.r (Ì h.r.fx e) λb q=>d b<|h.C b q,λb q=>c b<|h.C b q,h.a.r<|d ab h.fp,c ab h.fp,h.I.r λb q=>d b<|h.Y b q,λb q=>c b<|h.Y b q,h.e,h.c,h.d,h.M⟩
def nV.N(h:nV l ab n s sl V)(r:fH l l.w u):nV {l with w:=u} ab n s sl V:=h.S (λ_ q=>q) (λb q=>r.I b<|È q) r.r
def j4(ab:Nat)(n:Nat)(sl rs:Ñ)(x:Value×Value):Nat->Ñ
 |0=>Ã<|Â ⟨ab,0,Á⟩
 |1=>Ã<|Â ⟨ab,0,Á⟩
 |2=>Ã<|Â ⟨ab,1,Á⟩
 |3=>sl
 |4=>rs
 |5=>Ã<|Â ⟨ab,0,Á⟩
 |6=>Ã<|Â ⟨ab,0,Á⟩
 |7=>Ã<|Â ⟨ab,0,Á⟩
 |8=>Å É n
 |9=>ë #[x.1,x.2]
 |10=>ë #[x.1,x.2]
 |11=>x.1
 |12=>x.2
 |13=>x.1
 |14=>x.2
 |_=>ĸ
def vS(d:fc)(V:Nat->Prop)(rs:List PR)(s:List fF)(listed:Array Bool)(x:Value×Value)(l:fc):Prop:=
 gB l/\(listed.getD 9 Ë=Ë->gi ff d l)/\(listed.getD 9 Ë=Î->∃a e p m c,gi ff d a/\x=(Æ (Â ⟨e,0,Á⟩) rs.length rs.length,Æ p m c)/\zL (λb=>V b\/b=1\/b=2\/b=3\/b=4) (vO rs) rs.length (kO rs) s a e (Æ p m c) l)
def vS.jW{V:Nat->Prop}{a:List PR}{s:List fF}{listed:Array Bool}{x:Value×Value}(h:vS d V a s listed x l)(b:i≠9){w₁:Í}(r:fH l l.w w₁):vS d V a s (listed.setIfInBounds i Î) x {l with w:=w₁}:=by
 have e:(listed.setIfInBounds i Î).getD 9 Ë=listed.getD 9 Ë:=by simp[Array.getD_eq_getD_getElem?,Array.getElem?_setIfInBounds_ne b]
 refine⟨h.1.C r,λq=> ?_,λq=> ?_⟩
 .rw[e]at q;exact(h.2.1 q).G r
 .rw[e]at q;let⟨f,g,p,m,c,j,k,n⟩:=h.2.2 q;exact⟨f,g,p,m,c,j,k,n.N r⟩
theorem arS{D:Array Ñ}{I:List PR}(J:nV d ab n s sl V)(T:D.size=39)(W:D[0]?=Â (Ã<|Â ⟨ab,0,Á⟩))(Y:D[6]?=Â z) (md:Ŀ) (listed:Array Bool) (a:Ĉ) (l:fc) (i:Nat) (O:List Nat) (hI:II ov D (j4 ab n sl z) (vS d X I s) listed a l) (p:i∈ä md ov listed) (F:i≠9): fv.fi À Î (λc e=>∃b,e=G ((base 17).at b<|Ð ov O::L) qX/\II ov D (j4 ab n sl z) (vS d X I s) (listed.setIfInBounds i Î) b c) l (G ((base 17).at a<|Ð ov (i::O)::L) qX):=by
 let⟨x,g,H⟩:=hI;have t:uf ov D.size=Î:=by rw[T];decide
 have K:=Dm p;have u:=H.1.r.r;have y:=H.1.q;have P:=(g.C A).trans W;have MI:=(g.C A).trans Y;have B:∀c,fH l l.w c->vS d X I s (listed.setIfInBounds i Î) x {l with w:=c}:=λc r=>H.jW F r;let⟨fr,mr,_⟩:=J.a;have early:∀m,m<15->listed.getD m Ë=Ë->(∃e,e∈xS.after/\e.on=m/\yM e=Î)->listed.getD 9 Ë=Ë:=λm _ hm ⟨e,h1,h2,h3⟩=>by
  cases q:listed.getD 9 Ë with
  |false=>rfl
  |true=>
   have:=g.Y 9 xS e U q h1 h3;rw[h2,hm]at this;cases this
 have jR:ov.size=15:=A
 rw[jR]at K;have NW:listed.getD i Ë=Ë:=by have:=(Β.1 p).1;grind
 have S:∀{j v},(∃e,e∈xS.after/\e.on=i/\yM e=Î)->#[Å É n,sl][j]?=Â v->gY l ⟨ab,j,Á⟩/\l.w.cell? ⟨ab,j,Á⟩=Â v:=λq h=>by have b:=H.2.1<|early i K NW q;exact⟨È<|b.M<|È J.fp,(gK<|b.r ab (È J.fp) id).trans<|by simp[ß,mr,h]⟩
 match i,K,F with
 |9,_,F=>exact absurd U F
 |0,_,_=>
  exact ik (o:=Im) t g U U p (by k_ne) u y (λc r=>by simp only[j4,Im];go_simp) (λc r e f=>by simp[go_sem,Im,P]at f) B
 |1,_,_=>
  have b:=g.r 0 Im 21 U (ig p U U) U;simp only[j4]at b;exact ik (o:=Io) t g U U p (by k_ne) u y (λc r=>by simp only[j4,Io];go_simp) (λc r e f=>by simp[go_sem,Io,b]at f) B
 |2,_,_=>
  have b:=g.r 1 Io 22 U (ig p U U) U;simp only[j4]at b;exact ik (o:=Ip) t g U U p (by k_ne) u y (λc r=>by simp only[j4,Ip];go_simp) (λc r e f=>by simp[go_sem,Ip,b]at f) B
 |3,_,_=>
  have b:=g.r 2 Ip 23 U (ig p U U) U;simp only[j4]at b;let⟨C,E⟩:=S (j:=1) ⟨⟨3,ĉ⟩,by simp[xS],U,U⟩ U;refine ik (o:=Iq) t g U U p (by k_ne) u y (λc r=> ?_) (λc r e f=> ?_) B
  .have N:=(C.r r).trans E;simp only[j4,Iq];go_simp
  .have N:=(C.r r).trans E;simp[go_sem,Iq,b,N]at f;subst f;exact C.C
 |4,_,_=>
  exact ik (o:=Ir) t g U U p (by k_ne) u y (λc r=>by simp only[j4,Ir];go_simp) (λc r e f=>by simp[go_sem,Ir,MI]at f) B
 |5,_,_=>
  exact ik (o:=Is) t g U U p (by k_ne) u y (λc r=>by simp only[j4,Is];go_simp) (λc r e f=>by simp[go_sem,Is,P]at f) B
 |6,_,_=>
  have b:=g.r 5 Is 26 U (ig p U U) U;simp only[j4]at b;exact ik (o:=It) t g U U p (by k_ne) u y (λc r=>by simp only[j4,It];go_simp) (λc r e f=>by simp[go_sem,It,b]at f) B
 |7,_,_=>
  have b:=g.r 6 It 27 U (ig p U U) U;simp only[j4]at b;exact ik (o:=Iu) t g U U p (by k_ne) u y (λc r=>by simp only[j4,Iu];go_simp) (λc r e f=>by simp[go_sem,Iu,b]at f) B
 |8,_,_=>
  have b:=g.r 7 Iu 28 U (ig p U U) U;simp only[j4]at b;let⟨C,E⟩:=S (j:=0) ⟨⟨8,ĉ⟩,by simp[xS],U,U⟩ U;refine ik (o:=Iv) t g U U p (by k_ne) u y (λc r=> ?_) (λc r e f=> ?_) B
  .have N:=(C.r r).trans E;simp only[j4,Iv];go_simp
  .simp[go_sem,Iv,b,(C.r r).trans E]at f;subst f;exact C.C
 |10,_,_=>
  have b:=g.r 9 xS 30 U (ig p U U) U;simp only[j4]at b;exact ik (o:=zV) t g U U p (by k_ne) u y (λc r=>by simp only[j4,zV];go_simp) (λc r e f=>by simp[go_sem,zV,b]at f) B
 |11,_,_=>
  have b:=g.r 10 zV 20 U (ig p U U) U;simp only[j4]at b;exact ik (o:=Cl) t g U U p (by k_ne) u y (λc r=>by simp only[j4,Cl];go_simp) (λc r e f=>by simp[go_sem,Cl,b]at f) B
 |12,_,_=>
  have b:=g.r 10 zV 20 U (ig p U U) U;simp only[j4]at b;exact ik (o:=Cm) t g U U p (by k_ne) u y (λc r=>by simp only[j4,Cm];go_simp) (λc r e f=>by simp[go_sem,Cm,b]at f) B
 |13,_,_=>
  have b:=g.r 11 Cl 31 U (ig p U U) U;simp only[j4]at b;exact ik (o:=Cn) t g U U p (by k_ne) u y (λc r=>by simp only[j4,Cn];go_simp) (λc r e f=>by simp[go_sem,Cn,b]at f) B
 |14,_,_=>
  have b:=g.r 12 Cm 32 U (ig p U U) U;simp only[j4]at b;exact ik (o:=Co) t g U U p (by k_ne) u y (λc r=>by simp only[j4,Co];go_simp) (λc r e f=>by simp[go_sem,Co,b]at f) B
end
def arT(x y:Ñ)(n:Nat)(a:List Ĕ):G (è À 37 #[x,y,Å É n] Ą) a=DY x y n a:=by unfold DY;rw[enter_at #[x,y,Å É n] η (c:=jZ Tryz.f37 []) fu];kernel_rfl
section
variable{l g:fc}{s:List fF}{V:Nat->Prop}{d:List PR}
theorem arU{F:Array Ñ}(D:nV g i n s x V)(W:RQ d v X g.w)(M:∀b,X b->g.O b)(Y:∀r∈d,uK r)(Km:d.length<=24)(ht:F.size=39) (md:Ŀ) (listed:Array Bool) (a:Ĉ) (l:fc) (N:List Nat) (hI:II ov F (j4 i n x v) (vS g (λb=>V b\/X b) d s) listed a l) (B:9∈ä md ov listed) (hn:∀P E,II ov F (j4 i n x v) (vS g (λb=>V b\/X b) d s) (listed.setIfInBounds 9 Î) P E->iC vQ E (G ((base 17).at P<|Ð ov N::L) qX)): iC vQ l (G ((base 17).at a<|Ð ov (9::N)::L) qX):=by
 let⟨t,y,Q⟩:=hI;have NW:=(Β.1 B).1;have h9s:9<listed.size:=by grind
 have H:listed.getD 9 Ë=Ë:=by grind
 have e24:a.tmps[24]?=Â x:=y.r 3 Iq 24 U (ig B U U) U;have e25:a.tmps[25]?=Â v:=y.r 4 Ir 25 U (ig B U U) U;have e29:a.tmps[29]?=Â (Å É n):=y.r 8 Iv 29 U (ig B U U) U;have late:∀(S:Value×Value) j,listed.getD j Ë=Î->j4 i n x v S j=j4 i n x v t j:=λS j u=>by
  have c:listed.getD 10 Ë=Ë:=by
   cases q:listed.getD 10 Ë with
   |false=>rfl
   |true=>exact absurd (y.Y 10 zV ⟨9,ĉ⟩ U q (by simp[zV]) U)<|by rw[H];decide
  have e:listed.getD 11 Ë=Ë:=by
   cases q:listed.getD 11 Ë with
   |false=>rfl
   |true=>exact absurd (y.Y 11 Cl ⟨10,ĉ⟩ U q (by simp[Cl]) U)<|by rw[c];decide
  have h:listed.getD 12 Ë=Ë:=by
   cases q:listed.getD 12 Ë with
   |false=>rfl
   |true=>exact absurd (y.Y 12 Cm ⟨10,ĉ⟩ U q (by simp[Cm]) U)<|by rw[c];decide
  have m:listed.getD 13 Ë=Ë:=by
   cases q:listed.getD 13 Ë with
   |false=>rfl
   |true=>exact absurd (y.Y 13 Cn ⟨11,ĉ⟩ U q (by simp[Cn]) U)<|by rw[e];decide
  have p:listed.getD 14 Ë=Ë:=by
   cases q:listed.getD 14 Ë with
   |false=>rfl
   |true=>exact absurd (y.Y 14 Co ⟨12,ĉ⟩ U q (by simp[Co]) U)<|by rw[h];decide
  match j with
  |9=>rw[H]at u;cases u
  |10=>rw[c]at u;cases u
  |11=>rw[e]at u;cases u
  |12=>rw[h]at u;cases u
  |13=>rw[m]at u;cases u
  |14=>rw[p]at u;cases u
  |0|1|2|3|4|5|6|7|8=>rfl
  |j+15=>rfl
 refine E4 (f:=37) (args:=#[x,v,Å É n]) Q.1 (o:=xS) U (Kl U _) (by k_ne) (λw=> ?_) (λw=> ?_) λw₁ r=> ?_
 .simp only[xS];go_simp
 .exact ô U η U U #[]
 have z:=(Q.2.1 H).G r;have C:=D.S (λb q=>z.O b q) (λb q=>z.r b (È q) id) z.I;have T:=λb q=>z.O b<|M b q;obtain⟨ra,cr,rb,rq,rfl,G5,vu,G6,G7,ready⟩:=arP (W.r λb q=>z.r b (È<|M b q) id) Y C.r C.C T;obtain⟨I,J,K,rfl⟩:∃I J K,x=Æ I J K:=by let⟨_,_,_,⟨I,J,K,e,_⟩,_⟩:=D.I;grind
 rw[arT];refine arJ G5 (λh=>È<|vu h) G6 G7 ready ⟨λb q=>È<|Ï q,λb q=>Ï q⟩ (λb q=>q.elim (λq=>q.elim (C.Y b)<|T b)<|C.C b) (λb q=>È<|È q) C.I D.c (by have:=D.d;omega) λE e p m c h hT=> ?_;refine hn _ E ⟨(Æ (Â ⟨e,0,Á⟩) d.length d.length,Æ p m c),(y.Yu<|late _).fX (by rw[ht];decide) U B λ_=>rfl,h,λq=> ?_,λ_=>⟨_,e,p,m,c,z,U,hT⟩⟩;simp_all
end
section
variable{l o l4:fc}{ab:Nat}{s:List fF}{sl:Ñ}{V:Nat->Prop}{rs:List PR}
structure abK(l l4:fc)(ab n:Nat)(s:List fF)(sl:Ñ)(V:Nat->Prop)(rs:List PR)(an:Nat)(sN:Ñ):Prop where
 r:∀b,l.O b->l4.O b/\l4.w.heap[b]?=l.w.heap[b]?
 fx:nB<=l4.w.heap.size
 C:l4.O an/\uO an (kP rs s) l4.w/\kQ l4.w an=Â (0,0)
 Hk:∃V',RD (vP rs s) sN V' l4.w/\(∀b,V' b->l4.O b)/\¬V' ab/\∀b,V' b->V b\/(b=1\/b=2\/b=3\/b=4)\/l.w.heap.size<=b
def arV{kd:Nat->Int}(h:∀p,p<rs.length->w.cell? ⟨i,p,Á⟩=Â (Ä<|vG (vO rs) (kO rs) p<|pz (vO rs) (gX (kO rs) rs.length) s<|fK (kO rs) p))(d:w.cell? ⟨i,rs.length,Á⟩=Á):uO i (kP rs s) w:=by refine⟨λp x a=> ?_,by unfold kP;simpa using d⟩;unfold kP at a;rw[ī]at a;obtain⟨q,e,rfl⟩:=ò.1 a;let⟨b,c⟩:=Õ.1 e;simp at b c;subst c;exact h p b
def MJ:(kP rs s).length=rs.length:=by simp[kP]
def arW:nB<=5:=by show À.globals.size<=5;decide+kernel
def arX{f:fc}{p:Option ù}(d:nV l ab n s sl V)(t:gy l)(u:∀b,X b->l.w.heap.size<=b)(v:∀b,l.O b->o.O b/\o.w.heap[b]?=l.w.heap[b]?)(x:l.w.heap.size<=o.w.heap.size)(y:gy l4)(e:gi ff o f)(a:zL (λb=>(V b\/X b)\/b=1\/b=2\/b=3\/b=4) (vO rs) rs.length (kO rs) s f i (Æ p m j) l4):abK l l4 ab n s sl V rs i (Æ p m j):=by
 have g:∀b,l.O b->l4.O b/\l4.w.heap[b]?=l.w.heap[b]?:=λb q=>by let⟨z,h⟩:=v b q;let⟨k,r⟩:=a.M b<|e.O b z;exact⟨k,r.trans<|(e.r b (È z) id).trans h⟩
 refine⟨g,?_,⟨a.r.1,arV (kd:=kO rs) a.r.2 a.I.1,a.I.2⟩,?_⟩
 .have:=y.fx 4<|È (g 4<|d.C 4 A).1;have:=arW;omega
 .let⟨h,B,k⟩:=a.Y;have r:∀b,h b->V b\/(b=1\/b=2\/b=3\/b=4)\/l.w.heap.size<=b:=λb q=>by
   rcases(k b q).2 with((z|z)|z)|z
   .exact È z
   .exact Ï<|Ï<|u b z
   .exact Ï<|È z
   .exact Ï<|Ï<|Ì (Ì x e.I) z
  refine⟨h,B,λb q=>(k b q).1,λq=> ?_,r⟩;rcases r ab q with z|z|z
  .exact d.e z
  .exact d.M z
  .have:=t.fx ab<|È d.fp;omega
def arY{f:fc}{p:Option ù}(d:nV l ab n s sl V)(h:abK l l4 ab n s sl V rs i (Æ p m j))(E:gy l4)(g:∀b,l4.O b->f.O b)(r:∀b,l4.O b->f.w.heap[b]?=(l4.w.setCell ⟨ab,1,Á⟩<|Æ p m j).heap[b]?)(v:l4.w.heap.size<=f.w.heap.size):MH l f ab n (vP rs s) V:=by
 let⟨x,y,t,u,z⟩:=h.Hk;have k:∀b,l4.O b->b≠ab->f.w.heap[b]?=l4.w.heap[b]?:=λb q e=>(r b q).trans<|lk (a:=⟨ab,1,Á⟩) e;have o:=h.r ab d.fp;refine⟨λb q e=>⟨g b (h.r b q).1,(k b (h.r b q).1 e).trans (h.r b q).2⟩,Æ p m j,x,⟨?_,λb q=>g b (h.r b<|d.C b q).1,?_,g ab o.1,y.r λb q=>k b (t b q) λe=>u<|e▸q,λb q=>g b<|t b q,u,d.c,d.d,d.M⟩,z⟩
 .exact d.r.r (Ì h.fx v) λb q=>(k b (h.r b<|d.C b q).1 λe=>d.M<|e▸q).trans (h.r b<|d.C b q).2
 .let⟨B,C,D⟩:=d.a;refine⟨B,?_,D⟩;rw[r ab o.1];unfold Ż;simp[Ķ,o.2,C]
def arZ{J:Jd}(b:ki l)(d:fv.fi À Î J l (G (f.at (y.put ((Q[i]?).bind (·.dst))<|Ä ⟨#[]⟩)<|Ð Q jJ::L) qX)): fv.fi À Î J l (G (è À 38 #[Æ O 0 j,Ä B] Ą)<|f.at y (Ð Q (i::jJ)::L)::qX):=by
 have hF:True:=trivial;rw[vR [_,_] 73 ĕ];simp only[ą,Ē,ě];conv in jZ _ _=>whnf
 apply fP (n:=60) b;repeat w_go fw
 u_in fw hF
 refine Ŧ (t:=4) U U ĕ U ⟨by u_nil,?_⟩;refine ï λ_ _=> ?_;exact d
def uO.I{w':Í}{xs:List ByteArray}(h:uO i xs w)(k:w'.heap[i]?=w.heap[i]?):uO i xs w':= ⟨λp x a=>zP k<|h.r p x a,by have:=h.C;simp only[ß,k]at this|-;exact this⟩
def ar0{xs:List ByteArray}(g:nz w)(h:uO i xs w):lq i=Ë:=by
 have b:∀e,Mm i e w->False:=λe ⟨c,o,j,_,_,d,l⟩=>by
  have f:w.cell? ⟨i,0,Á⟩=Â c[0]:=by simp only[ß,j,ö,ì,if_false];exact å d
  rcases ĥ xs.length with q|q
  .have a:=h.C;rw[q,f]at a;cases a
  .have a:=h.r 0 _<|Ó q;let⟨k,n,m⟩:=l c[0]<|î.2<|ă d;rw[f,m]at a;cases a
 cases q:lq i with
 |false=>rfl
 |true=>
  unfold lq at q;simp at q;rcases q with rfl|rfl
  .exact(b _ g.I).elim
  .exact(b _ g.C).elim
def jI.ar1(a:ki l)(r:fH l l.w u):jI l {l with w:=u}:=⟨λ_ q=>q,λ_ q=>È q,U,U,U,U,U,r,mA a r⟩
def ar2{a:Ĉ}{xs:List ByteArray}(b:gB l)(j:nB<=l.w.heap.size)(h:uO n xs l.w)(m:l.O n)(o:lq n=Ë)(p:kQ l.w n=Â (0,0))(s:xs.length<=1000){N:Nat}(t:xs.length=N)(u:B.size=1)(v:iP xs+xs.length<=140737488355328): fv.fi À Î (λc g=>jI l c/\c.d=l.d/\g=G (f.at (a.put ((Q[i]?).bind (·.dst))<|Ä<|kE B xs)<|Ð Q jJ::L) qX) l (G (è À 38 #[Æ (Â ⟨n,0,Á⟩) N N,Ä B] Ą)<|f.at a (Ð Q (i::jJ)::L)::qX):=by
 subst t;rcases ĥ xs.length with e|e
 .have x:=Ý e;subst x;exact arZ b.r.r<|.fB λy r=>⟨jI.ar1 b.r.r r,U,U⟩
 .refine(arE b.r b.q j h e (È m) o p s u v Î _ qX).fN ?_;rintro c g ⟨r,x,rfl⟩;exact⟨r,x,by rw[Ĝ]⟩
def ar3{N:Array Ñ}{cf:Ĕ}(C:nV l ab n s sl V)(DZ:gy l)(Um:∀b,X b->l.w.heap.size<=b)(hl:∀b,l.O b->o.O b/\o.w.heap[b]?=l.w.heap[b]?)(jR:l.w.heap.size<=o.w.heap.size)(Km:rs.length<=24)(su:iP (kP rs s)+rs.length<=140737488355328)(ht:N.size=39)(ht0:N[0]?=Â (Ã<|Â ⟨ab,0,Á⟩)) (hJ:∀P,gB P->MH l P ab n (vP rs s) V->iC vQ P (G (cf.at (y.put ((Q[i]?).bind (·.dst))<|ë #[Ä<|kE ⟨#[59]⟩<|kP rs s,Å É 0])<|Ð Q jJ::L) qX)) (md:Ŀ) (listed:Array Bool) (a:Ĉ) (l4:fc) (hI:II ov N (j4 ab n sl v) (vS o (λb=>V b\/X b) rs s) listed a l4) (H:listed.size=ov.size) (I:ä md ov listed=[]): iC vQ l4 (G ((base 17).at a<|Ð ov []::[ax Ul])<|cf.at y (Ð Q (i::jJ)::L)::qX):=by
 have hF:True:=trivial;let⟨x,D,g,_,hS⟩:=hI;have J:∀i∈ĳ 15,listed.getD i Ë=Î:=by
  cases md
  .exact pS I H (ĳ 15) [] fQ λi c=>by cases c
  .exact λi c=>pS I H [0,1,2,3,4,5,6,7,8,9,10,11,13,12,14] [] fQ (λi c=>by cases c) i (by have:=Ŷ.1 c;revert i;decide)
  .exact pS I H (ĳ 15) [] fQ λi c=>by cases c
 obtain⟨l1,r,p,m,c,k1,rfl,hT⟩:=hS<|J 9 A;have h:=arX (rs:=rs) C DZ Um hl jR g.r k1 hT;let⟨F,ds⟩:=a;obtain rfl:ds=[]:=D.M;have S:F[0]?=Â (Ã<|Â ⟨ab,0,Á⟩):=(D.C A).trans ht0;have T:F[9]?=Â (Æ (Â ⟨r,0,Á⟩) rs.length rs.length):=D.r 13 Cn 9 U (J 13 A) U;have W:F[10]?=Â (Æ p m c):=D.r 14 Co 10 U (J 14 A) U;have Hd:F.size=39:=D.S.trans ht;clear D J hS hT k1 I H;obtain⟨u,rfl⟩:=rn F Hd;simp only[List.getElem?_toArray,ī,List.getElem?_range,Nat.reduceLT,Ă,Ô]at S T W;simp only[ĳ,List.range.loop,List.map,S,T,W];clear S T W Hd;let⟨fr,mr,hfr⟩:=C.a;let⟨MK,hab⟩:=h.r ab C.fp;have Y:l4.w.heap[ab]?=Â (Û #[Å É n,sl] 68 (0,0)):=by rw[hab,mr,hfr]
 have c1:l4.w.cell? ⟨ab,1,Á⟩=Â sl:=by simp[ß,Y]
 have z1:l4.w.frozen? ⟨ab,1,Á⟩=Ë:=by simp[World.frozen?,Y]
 have Bq:=g.q;apply lI;apply fP (n:=20) g.r.r;conv in Ul=>whnf
 iterate 7 w_go fw
 refine ï λ_ _=> ?_;apply GG (p:=ab) (off:=1) (v:=Æ p m c) (u:=sl) U U (by k_ne) g.r.r Bq MK c1 z1 U (λw z B=>by go_simp) (λw z B=>by simp[go_sem,events_store _ _ _ _ _ _ (show Value.oneCell' (Æ p m c)=Î from rfl),z,B]);have k5:=Kt (X:=λb=>b=ab) (p:=ab) (w':=l4.w.setCell ⟨ab,1,Á⟩<|Æ p m c) g.r (fH.fU _ _) MK U fv.jU λj hj=>fv.lk hj;have rz:=k5.N g.r;have auD:(l4.w.setCell ⟨ab,1,Á⟩<|Æ p m c).heap.size=l4.w.heap.size:=fv.jU;have uh:gB ({l4 with w:=l4.w.setCell ⟨ab,1,Á⟩ (Æ p m c)}:fc):=⟨rz,g.d,g.q,g.N,g.I,g.M,g.k⟩;have c0:l4.w.cell? ⟨ab,0,Á⟩=Â (Å É n):=by simp[ß,Y]
 have ar4:r≠ab:=λe=>by
  rcases ĥ (kP rs s).length with q|q
  .have z:=h.C.2.1.C;rw[q,e,c0]at z;cases z
  .have B:=h.C.2.1.r 0 _<|Ó q;rw[e,c0]at B;cases B
 have abL:(l4.w.setCell ⟨ab,1,Á⟩<|Æ p m c).heap[r]?=l4.w.heap[r]?:=fv.lk (a:=⟨ab,1,Á⟩) ar4;have TR:=h.C.2.1.I abL;have Ba:kQ (l4.w.setCell ⟨ab,1,Á⟩<|Æ p m c) r=Â (0,0):=(wB abL).trans h.C.2.2;have ar5:lq r=Ë:=ar0 (C.r.r h.fx λb q=>(h.r b<|C.C b q).2) h.C.2.1;have hlen:(kP rs s).length=rs.length:=MJ;apply fP (n:=20) rz.r;iterate 4 w_go fw
 refine ï λ_ _=> ?_;refine zU (f:=38) (args:=#[Æ (Â ⟨r,0,Á⟩) rs.length rs.length,Ä ⟨#[59]⟩]) U fQ (by k_ne) rz.r (λw=>by go_simp) (λw=>ô U ĕ U U #[]) λw₁ E=> ?_;have MI:=uh.C E;have ar6:uO r (kP rs s) w₁:=TR.I<|E.I r<|È h.C.1;refine fv.fi.lU ?_ (ar2 (xs:=kP rs s) MI (Ì (by rw[fv.jU];exact h.fx) E.r) ar6 h.C.1 ar5 ((wB<|E.I r<|È h.C.1).trans Ba) Z hlen U Z);rintro K g6 ⟨M,hd,rfl⟩;have Un:gB K:=jI.BM MI M hd;have hk6:∀b,l4.O b->K.w.heap[b]?=(l4.w.setCell ⟨ab,1,Á⟩<|Æ p m c).heap[b]?:=λb q=>(M.r.I b<|È q).trans<|E.I b<|È q;have hs6:l4.w.heap.size<=K.w.heap.size:=by have z:=M.r.r;have B:=E.r;have h3:(l4.w.setCell ⟨ab,1,Á⟩<|Æ p m c).heap.size=l4.w.heap.size:=fv.jU;exact Ì (Nat.le_of_eq h3.symm)<|Ì B z
 have B:∀b,l4.O b->K.O b:=λb q=>M.O b q;generalize kE ⟨#[59]⟩ (kP rs s)=ans at*;walk_nrm;apply fP (n:=20) Un.r.r;repeat w_go fw
 u_in fw hF
 refine θ (t:=4) (u:=5) U U Ł U ⟨by u_nil,?_⟩;refine ï λ_ _=> ?_;refine .fB λAo z=>⟨Un.C z,U,hJ _ (Un.C z)<|arY C h g.r B (λb q=>(z.I b<|È<|B b q).trans<|hk6 b q)<|Ì hs6 z.r⟩
end
section
variable{l:fc}{s:List fF}
theorem ar7{e:fc}{c:Nat->Prop}{g:List PR}(B:nV l j n s v X)(C:gy l)(D:nV e j n s v X)(k:gB e)(W:RQ g z c e.w)(Y:∀b,c b->e.O b)(hok:∀r∈g,uK r)(E:g.length<=24)(F:∀b,c b->l.w.heap.size<=b)(H:∀b,l.O b->e.O b/\e.w.heap[b]?=l.w.heap[b]?)(I:l.w.heap.size<=e.w.heap.size)(J:iP (kP g s)+g.length<=140737488355328)(t:d.size=39)(u:d[0]?=Â (Ã<|Â ⟨j,0,Á⟩))(K:d[6]?=Â z) (M:∀h,gB h->MH l h j n (vP g s) X->iC vQ h (G (f.at (y.put ((Q[i]?).bind (·.dst))<|ë #[Ä<|kE ⟨#[59]⟩<|kP g s,Å É 0])<|Ð Q jJ::L) qX)): iC vQ e (G ((base 17).at ⟨d,[]⟩<|ax (.region 4 ov Î)::[ax Ul])<|f.at y (Ð Q (i::jJ)::L)::qX):=by
 refine arQ (II ov d (j4 j n v z)<|vS e (λb=>X b\/c b) g s) k (λa x=> ?_) (λm o a l i jJ p N P=> ?_) λm o a l p S T=> ?_
 .refine⟨(ĸ,ĸ),mM.G _ _ _,k.C x,λ_=>(gi.fU k.r.r).G x,λq=> ?_⟩;exact absurd q A
 .by_cases V:i=9
  .grind [arU]
  .exact arR (arS D t u K m o a l i jJ p N V) (λN h q=>by let⟨x,_,q⟩:=q;exact q.1) P
 .exact ar3 B C F H I E J t u M m o a l p S T
def abM(p:gB l)(r:nV l j n s v X)(I:B.size<=đ)(J:(iB B).1=0->iP (kP (iB B).2.2 s)+(iB B).2.2.length<=140737488355328) (t:∀z,gB z->MH l z j n (ly s B).2.2 X->iC vQ z (G (f.at (y.put ((Q[i]?).bind (·.dst))<|ë #[Ä (ly s B).1,Å É (ly s B).2.1])<|Ð Q jJ::L) qX)): iC vQ l (G (è À 17 #[Ã<|Â ⟨j,0,Á⟩,Ä B] Ą)<|f.at y (Ð Q (i::jJ)::L)::qX):=by
 have hF:=trivial;rw[vR [_,_] 37 Ł];simp only[ą,Ē,ě];conv in jZ _ _=>whnf
 apply lI;apply fP (n:=20) p.r.r;iterate 8 w_go fw
 refine ï λ_ _=> ?_;refine zU (f:=36) (args:=#[Ä B]) U fQ (by k_ne) p.r.r (λw=>by go_simp) (λw=>ô U ļ U U #[]) λw₁ m=> ?_;have C:=p.C m;refine fv.fi.lU ?_<|arw C.r C.q (Ì r.r.fx m.r) I Î _ _;rintro u g1 ⟨x,K,a,rfl,M⟩;have g:=jI.BM C x K;have h:∀b,l.O b->u.O b/\u.w.heap[b]?=l.w.heap[b]?:=λb q=>⟨x.O b q,(x.r.I b<|È q).trans<|m.I b<|È q⟩;have F:=Ì m.r x.r.r;rw[Ĝ];by_cases k:(iB B).1=0
 .have D:ly s B=(kE ⟨#[59]⟩<|kP (iB B).2.2 s,0,vP (iB B).2.2 s):=if_pos k;let⟨c,N,E⟩:=M k;have P:=J k;rw[D]at t;obtain⟨S,T⟩:=E3;rw[k];generalize(iB B).2.2=rs at*;generalize(iB B).2.1=at1 at*;walk_nrm;apply fP (n:=40) g.r.r;repeat w_go fw
  refine ï λ_ _=> ?_;refine .fB λo d=>⟨g.C d,U,?_⟩;have V:=g.C d;have e:∀b,l.O b->({u with w:=o}:fc).O b/\o.heap[b]?=l.w.heap[b]?:=λb q=>⟨(h b q).1,(d.I b<|È (h b q).1).trans (h b q).2⟩;have H:=Ì F d.r;have W:=r.S (λb q=>(e b q).1) (λb q=>(e b q).2) H;have Y:=N.r λb q=>d.I b<|È (E b q).1;have hQ3:=λb q=>(E b q).1;have Um:=λb q=>Ì m.r (E b q).2;exact ar7 r p.r W V Y hQ3 S T Um e H P U U U t
 .have D:ly s B=(⟨#[]⟩,(iB B).1,s):=if_neg k;rw[D]at t;have c:((iB B).1 !=0)=Î:=by rwa[bne_iff_ne]
  generalize(iB B).1=er at*;generalize(iB B).2.1=at1 at*;walk_nrm;apply fP (n:=40) g.r.r;repeat w_go fw
  u_in fw hF
  refine θ U U Ł U ⟨by u_nil,?_⟩;refine ï λ_ _=> ?_;refine .fB λo d=>⟨g.C d,U,t _ (g.C d) ?_⟩;have e:∀b,l.O b->({u with w:=o}:fc).O b/\o.heap[b]?=l.w.heap[b]?:=λb q=>⟨(h b q).1,(d.I b<|È (h b q).1).trans (h b q).2⟩;exact⟨λb q _=>e b q,v,X,r.S (λb q=>(e b q).1) (λb q=>(e b q).2)<|Ì F d.r,λb q=>È q⟩
end
def Uo(a:ByteArray)(c:a.size=1):∀b:List ByteArray,(kE a b).size<=iP b+b.length
 |[]=>Ö _
 |x::r=>by
  show(x.data.toList++oh a r).toArray.size<=_;have d:iP (x::r)=x.size+iP r:=by simp[iP]
  have e:x.data.toList.length=x.size:=by rw[ĝ];rfl
  simp only[ř,Ù,Mb a c r,d,e,Đ];omega
def Up{M:Nat}(a:∀z∈vX,z.size<=M)(b:M<=100)(c:vX.length<=400000):(EK vX).size<=100000000:=by
 unfold EK;split
 .decide
 .have d:=Uo ⟨#[44]⟩ U vX;have e:=EH vX a;have:M*vX.length<=100*400000:=ű b c;omega
theorem E5(i:Nat):(nI i).size<=3:=by
 unfold nI nt;rw[ø];split
 .show 1+1<=3;decide
 .show 1+2<=3;decide
theorem abN(s:gP.St)(x y:Nat)(k:Int):∀(m i:Nat),i+m<=1000->(sW s x y k i m).size<=20
 |0,i,_=>by unfold sW;decide
 |m+1,i,h=>by
  unfold sW;split
  .exact pj i Z
  .exact abN s x y k m (i+1) Z
theorem ar8(s t:gP.St):(qG s t 8).length<=400000:=by
 unfold qG;have a:∀l:List Nat,(l.flatMap<|zC s t).length<=18*l.length:=λl=>by
  induction l with
  |nil=>simp
  |cons i l b=>
   rw[List.flatMap_cons,Ù,Đ];have:(zC s t i).length<=18:=by unfold zC;grind [Ù,L5,aan]
   omega
 grind
theorem ar9{i:List (Nat×fF)}{q:Qn}(n:kV (kn i))(ok:q.Ok):(qd i q).size<=100000000:=by
 unfold qd;split
 .grind [E5]
 .rename_i p o;let⟨b,f,v,w⟩:=n.r _<|Ú.2 ⟨p,H4 o,U⟩;have j:∀u,u<18446744073709551616->(gh u).size<=100000000:=λu r=>by have:=pj u r;omega
  unfold Cb;split
  .have c:=f.C q.x q.I;exact j _ (by have:=c.1;have:=c.2;omega)
  .split
   .have c:=f.fq q.x;exact j _ (by have:=c.1;have:=c.2;omega)
   .split
    .split
     .grind [E5]
     .rename_i B;have l:fZ (q.k:Int):=⟨Z,by have:=ok.k;omega⟩;have e:=HB p.2.s [] q.x q.y q.g q.k f ok.x ok.y l Z Z (by simp;omega);unfold TJ;have C:=e.r;have m:=e.M;have t:=e.I;simp at t;have D:=Uo ⟨#[44]⟩ U<|[gh (gl p.2.s [] q.x q.y q.g q.k).C.toNat,gh (gl p.2.s [] q.x q.y q.g q.k).M.toNat,gh (gl p.2.s [] q.x q.y q.g q.k).r.toNat]++(gl p.2.s [] q.x q.y q.g q.k).I.map rL;have E:=EH (M:=21) ([gh (gl p.2.s [] q.x q.y q.g q.k).C.toNat,gh (gl p.2.s [] q.x q.y q.g q.k).M.toNat,gh (gl p.2.s [] q.x q.y q.g q.k).r.toNat]++(gl p.2.s [] q.x q.y q.g q.k).I.map rL) λz d=>by
       rcases â.1 d with h|h
       .simp at h;rcases h with rfl|rfl|rfl
        .have:=pj (gl p.2.s [] q.x q.y q.g q.k).C.toNat (by cases(gl p.2.s [] q.x q.y q.g q.k).C<;>decide);omega
        .have:=pj (gl p.2.s [] q.x q.y q.g q.k).M.toNat (by have:=m.1;have:=m.2;omega);omega
        .grind [pj]
       .obtain⟨e,a,rfl⟩:=Ú.1 h;exact Me ((Tn p.2.s [] q.x q.y q.g q.k f ok.x ok.y l Z Z (by simp;omega) λ_ q=>by cases q) e a).2
      grind
    .split
     .grind [abN]
     .split
      .have:=aaD<|Ev p.2.s;have:=aaE<|16-(ny<|Ev p.2.s).size;unfold Mh;rw[ø];omega
      .split
       .exact Up (λz d=>by obtain⟨e,a,rfl⟩:=Ú.1 d;exact Me (b.C e a).2) Z<|by rw[ú];exact b.I
       .split
        .exact Up (λz d=>by obtain⟨e,a,rfl⟩:=Ú.1 d;exact aax (b.r e a).1 (b.r e a).2) Z (by rw[ú];have:=b.M;omega)
        .split
         .grind [E5]
         .exact Up (aaF _ _) Z<|ar8 _ _
theorem asa(a:List (Nat×fF))(v:Int)(x:Nat)(b:List Tx):(pg a v x b).2.size<=3:=by
 unfold pg;split
 .exact E5 3
 .split
  .exact E5 4
  .split
   .exact E5 5
   .show(nt a.length).size<=3;unfold nt;split
    .show 1<=3;decide
    .show 2<=3;decide
def asb{s:List fF}{i:Int×Nat×List Tx}(h:kV s)(a:∀t∈i.2.2,t.Ok)(b:i.2.2.length<=1000):kV (zK s i):= kV.M (by rwa[EN]) a b
def abO{a:List PR}{s:List fF}(h:kV s)(b:∀r∈a,uK r):∀k,k<=(gX (kO a) a.length).length->kV (pz (vO a) (gX (kO a) a.length) s k)
 |0,_=>h
 |k+1,hk=>by
  have c:a.getD ((gX (kO a) a.length).getD k 0) oL∈a:=ç (i:=(gX (kO a) a.length).getD k 0) (by have q:=(Hi<|vy (l:=gX (kO a) a.length)<|show k<_ from hk).1;generalize(gX (kO a) a.length).getD k 0=j at q;simp[Ġ,q]);have q:=b _ c;refine asb (abO h b k Z) (λt d=> ?_) ?_
  .obtain⟨x,t,rfl⟩:=Ú.1 d;exact toTx_ok<|q.C x t
  .show((a.getD _ oL).r.map toTx).length<=1000;rw[ú];have:=q.n;omega
def RE(kd:Nat->Int):∀{p R:Nat},p<=R->fK kd p<=(gX kd R).length:=λ{p R} h=>by
 show(gX kd p).length<=(gX kd R).length
 induction h with
 |refl=>exact æ _
 |@step R _ ih=>
  by_cases q:kd R=1
  .rw[sM q];simp;omega
  .rwa[vr q]
theorem abP{a:List PR}{s:List fF}(h:kV s)(b:∀r∈a,uK r)(l:a.length<=24):iP (kP a s)+a.length<=2400000024:=by
 have d:=EH (M:=100000000) (kP a s) λz c=>by
  unfold kP at c;obtain⟨p,e,rfl⟩:=Ú.1 c;have f:=Ŷ.1 e;have g:=abO h b (fK (kO a) p)<|RE _ Z;unfold vG;split
  .grind [Ì,asa]
  .rename_i j;have k:a.getD p oL∈a:=ç (i:=p) (by simp[Ġ,f]);exact ar9 (by rwa[EN])<|abI (b _ k) j
 rw[MJ]at d;omega
def abQ{s:List fF}(h:kV s):iP (kP (iB B).2.2 s)+(iB B).2.2.length<=140737488355328:=Ì (abP h E3.1 E3.2) A
theorem asc{s:List fF}(h:kV s)(B:ByteArray):(ly s B).1.size<=10^12:=by
 unfold ly;split
 .have a:=Uo ⟨#[59]⟩ U<|kP (iB B).2.2 s;have b:=abP h (E3 (B:=B)).1 E3.2;rw[MJ]at a;grind
 .exact Ö _
def Iw(c:Int):Int:=if c<0 then(-(c+1))%8 else c%8
def ase(c:Int)(b:-9223372036854775808<=c)(d:c<=9223372036854775807)(w:Í):Ò À 30 #[Å É c,Å É 8] w λe a=>e=Ç (Å É<|Iw c)/\a=w:=by
 unfold Iw;by_cases h:c<0
 .rw[if_pos h];have e:-(c+1).tmod 8=(-(c+1))%8:=by rw[<-Int.neg_tmod,Int.tmod_eq_emod_of_nonneg Z]
  have H:=fe e.symm;clear e;go_enter ŧ,Ο;go_wp2;go_ret;exact⟨by rw[H.out];rfl,U⟩
 .rw[if_neg h];go_enter ŧ,Ο;go_wp2;go_ret;exact⟨U,U⟩
def abR(a:ù)(w:Í):Sem.events À (binOp BinOp.eql 26 (Ã<|Â a)<|Ã Á) w #[]=#[]:=fu
theorem Ix{l:fc}(a:gB l)(p:nB<=l.w.heap.size){f:Ρ}{args:Array Ñ}{r:Ñ}(m:Ec f=Î)(s:∀v∈args.toList,fl (pV (λ_=>False) À.globals.size) v v)(t:∀{Y v},fl Y r v->v=r)(x:∀w,Ò À f args w λe y=>e=Ç r/\y=w)(n:Bool)(c:Ĕ)(i:List Ĕ): fv.fi À n (λk o=>jI l k/\k.d=l.d/\o=G (c.finish r) i) l (G (è À f args Ą)<|c::i):=by
 let⟨E,F,z,B⟩:=zj f m;have C:∀T,Ò À f args (World.tp (k9 (λj=>False/\¬(lY l).O j) l.w) T 0) fun|Ç v,j=>v=r/\kh j|_,_=>False:=λT=>by refine(x _).mono ?_;grind [EM]
 refine((D7 yc Lh zj (λv u T D h=>h) m z B (D8 a.r) a.q (λb q=>q.elim) ⟨λb q=>q.elim,p⟩ (λg q=>by cases q) (pv s) C n c i).lY a.r).fN ?_;rintro k o ⟨D,⟨Y,j,v,H,_,_,g,rfl,b,_,_,h⟩,rfl,u,_,_,_⟩;rw[t g]at b;exact⟨u,h,b⟩
def Uq:ByteArray:=⟨#[98,48,58,97,59,98,48,58,104,59,117,48,59,98,49,58,97]⟩
def asf:(ly [gP.mD] Uq).1=⟨#[49,48,48,48,59,49,48,48,48,59,45,59,33,51]⟩:=fu
def asg:(ly [gP.mD] Uq).2=(0,[gP.mD]):=fu
structure ash(l l':fc)(ab n:Nat)(sl:Ñ)(V:Nat->Prop):Prop where
 r:nV l' ab n [gP.mD] sl V
 C:∀b,l.O b->l'.O b/\l'.w.heap[b]?=l.w.heap[b]?
 I:l.w.heap.size<=ab
 M:∀b,V b->(b=1\/b=2\/b=3\/b=4)\/l.w.heap.size<=b
section
variable{l:fc}
def asi{J:Jd}{s:List fF}(c:gB l)(d:nV l j n s z X)(g:fv.fi À Î J l (G (f.at (y.put ((Q[i]?).bind (·.dst))<|Å É s.length)<|Ð Q jJ::L) qX)): fv.fi À Î J l (G (è À 22 #[Ã<|Â ⟨j,0,Á⟩] Ą)<|f.at y (Ð Q (i::jJ)::L)::qX):=by
 have hF:True:=trivial;obtain⟨a,b,rfl⟩:∃a b,z=Æ a s.length b:=by
  let⟨o,h,_,⟨a,k,b,e,_,m⟩,_⟩:=d.I;have:k=s.length:=by rw[m.r,<-h];simp[kn]
  exact⟨a,b,by rw[e,this]⟩
 have o:s.length<=40:=by let⟨_,_,e,_⟩:=d.I;exact e.C
 let⟨p,k,_⟩:=d.a;have m:l.w.cell? ⟨j,1,Á⟩=Â (Æ a s.length b):=by simp[ß,k]
 rw[vR [_] 7 Ũ];simp only[ą,Ē,ě];conv in jZ _ _=>whnf
 refine fP (n:=20) c.r.r ?_;repeat w_go fw
 refine ï λ_ _=> ?_;refine nP (x:=⟨j,1,Á⟩) (v:=Æ a s.length b) U fQ (by k_ne) c.r.r c.q (È<|È d.fp) m (λw h=>by go_simp) (λw h=>by simp[go_sem,h]) ?_;walk_nrm;refine fP (n:=20) c.r.r ?_;repeat w_go fw
 u_in fw hF
 refine Ŧ (t:=2) U U Ũ U ⟨by u_nil,?_⟩;refine ï λ_ _=> ?_;exact g
def asj(j:gB l)(p:nz l.w)(I:∀b,b=1\/b=2\/b=3\/b=4->l.O b)(c:Int)(tF:-9223372036854775808<=c)(zN:c<=9223372036854775807) (hJ:∀J a n K V,gB J->ash l J a n K V->iC vQ J (G (f.at (y.put ((Q[i]?).bind (·.dst))<|Ã<|Â ⟨a,0,Á⟩)<|Ð Q jJ::L) qX)): iC vQ l (G (è À 15 #[Å É c] Ą)<|f.at y (Ð Q (i::jJ)::L)::qX):=by
 have hF:True:=trivial;rw[vR [_] 36 ι];simp only[ą,Ē,ě];conv in jZ _ _=>whnf
 apply lI;apply fP (n:=20) j.r.r;repeat w_go fw
 refine ï λ_ _=> ?_;refine zU (f:=30) (args:=#[Å É c,Å É 8]) U fQ (by k_ne) j.r.r (λw=>by go_simp) (λw=>ô U ŧ U U #[]) λw₁ r=> ?_;have T:=j.C r;refine fv.fi.lU ?_ (Ix T (Ì p.fx r.r) fQ (λv h=>by simp at h;rcases h with rfl|rfl<;>exact .iE _ _) (λh=>by cases h;rfl) (ase c tF zN) Î _ _);rintro s g1 ⟨u,hd,rfl⟩;obtain⟨z,hz,Hz,D4⟩:∃z,Iw c=z/\0<=z/\z<8:=⟨_,U,by unfold Iw;split<;>omega,by unfold Iw;split<;>omega⟩;rw[hz];have M:gB s:=jI.BM T u hd;have x:∀b,l.O b->s.O b/\s.w.heap[b]?=l.w.heap[b]?:=λb q=>⟨u.O b q,(u.r.I b<|È q).trans<|r.I b<|È q⟩;have B:l.w.heap.size<=s.w.heap.size:=Ì r.r u.r.r;rw[Ĝ];walk_nrm;refine fP (n:=20) M.r.r ?_;repeat w_go fw
 refine ï λ_ _=> ?_;have oD:É.wrap (1+z)=1+z:=Ļ _ ⟨Z,Z⟩;refine zU (f:=35) (args:=#[Å É<|1+z]) U fQ (by k_ne) M.r.r (λw=>by go_simp) (λw=>ô U ζ U U #[]) λAo h=> ?_;have N:=M.C h;obtain⟨n,hn⟩:∃n:Nat,1+z=n:=⟨(1+z).toNat,Z⟩;rw[hn];refine fv.fi.lU ?_<|arD N.r N.q (Ì (Ì p.fx B) h.r) (n:=(n:Int)) Z Z Î _ _;rintro d g3 ⟨C,w7,a,K,rfl,mr,MK,hab,V,qA,hnV,W⟩;have g:gB d:=jI.BM N C w7;have k:∀b,l.O b->d.O b/\d.w.heap[b]?=l.w.heap[b]?:=λb q=>⟨C.O b (x b q).1,(C.r.I b<|È (x b q).1).trans<|(h.I b<|È (x b q).1).trans (x b q).2⟩;have X:l.w.heap.size<=d.w.heap.size:=Ì B<|Ì h.r C.r.r;have asl:l.w.heap.size<=a:=Ì B<|Ì h.r hab;have asn:∀b,b=1\/b=2\/b=3\/b=4->b<l.w.heap.size:=λb q=>j.r.fx b<|È<|I b q;have hin:nV d a n [gP.mD] K V:=⟨p.r (Ì p.fx X) λb q=>(k b<|I b q).2,λb q=>(k b<|I b q).1,mr,MK,qA,λb q=>(W b q).1,hnV,Z,Z,λq=>by have:=asn a q;omega⟩;have hVn:∀b,V b->l.w.heap.size<=b:=λb q=>Ì B<|Ì h.r (W b q).2;rw[Ĝ];walk_nrm;apply fP (n:=60) g.r.r;repeat w_go fw
 refine ï λ_ _=> ?_;apply o5 (v:=õ Ë) U fQ (by k_ne) g.r.r g.q (λw _=>by go_simp) (λw _ e m=>by simp[go_sem,abR]at m);walk_nrm;apply fP (n:=60) g.r.r;repeat w_go fw
 refine ï λ_ _=> ?_;refine .fB λY m=>⟨g.C m,U,?_⟩;have uh:=g.C m;have aso:=hin.N m;have P:∀b,l.O b->({d with w:=Y}:fc).O b/\Y.heap[b]?=l.w.heap[b]?:=λb q=>⟨(k b q).1,(m.I b<|È (k b q).1).trans (k b q).2⟩;refine E4 (f:=17) (args:=#[Ã<|Â ⟨a,0,Á⟩,Ä ⟨#[98,48,58,97,59,98,48,58,104,59,117,48,59,98,49,58,97]⟩]) uh U fQ (by k_ne) (λw=>by go_simp) (λw=>ô U Ł U U #[]) λasq D=> ?_;change iC vQ _ (G (è À 17 #[Ã<|Â ⟨a,0,Á⟩,Ä Uq] Ą) _);refine abM (uh.C D) (aso.N D) A (λ_=>abQ abE) λl6 E abS=> ?_;rw[asg]at abS|-;rw[asf];let⟨J4,sl6,V6,abT,hV6⟩:=abS;have lA:∀b,l.O b->b≠a:=λb q e=>by have:=j.r.fx b<|È q;omega
 have F:∀b,l.O b->l6.O b/\l6.w.heap[b]?=l.w.heap[b]?:=λb q=>by let⟨o,H⟩:=J4 b (P b q).1<|lA b q;exact⟨o,H.trans<|(D.I b<|È (P b q).1).trans (P b q).2⟩
 have hV7:∀b,V6 b->(b=1\/b=2\/b=3\/b=4)\/l.w.heap.size<=b:=λb q=>by
  rcases hV6 b q with z|z|z
  .exact Ï<|hVn b z
  .exact È z
  .exact Ï<|Ì X<|Ì (Ì m.r D.r) z
 walk_nrm;apply lI;apply fP (n:=60) E.r.r;repeat w_go fw
 refine ï λ_ _=> ?_;refine zU (f:=22) (args:=#[Ã<|Â ⟨a,0,Á⟩]) U fQ (by k_ne) E.r.r (λw=>by go_simp) (λw=>ô U Ũ U U #[]) λsJ o=> ?_;apply asi (E.C o) (abT.N o);have S:=E.C o;have asr:=abT.N o;walk_nrm;apply fP (n:=60) S.r.r;repeat w_go fw
 u_in fw hF
 refine Ŧ (t:=2) U U ι U ⟨by u_nil,?_⟩;refine ï λ_ _=> ?_;exact .fB λauE H=>⟨S.C H,U,hJ _ a n sl6 V6 (S.C H) ⟨asr.N H,λb q=>⟨(F b q).1,(H.I b<|È (F b q).1).trans<|(o.I b<|È (F b q).1).trans (F b q).2⟩,asl,hV7⟩⟩
end
def xT(l:fc)(c:Option ù)(N:Nat)(f:Nat->ByteArray):Prop:=∀j,j<N->(f j).size<=đ/\∃a b,c=Â ⟨a,b,Á⟩/\l.O a/\l.w.cell? ⟨a,b+j,Á⟩=Â (Ä<|f j)
def xT.r{l a:fc}{d:Option ù}{N:Nat}{f:Nat->ByteArray}(h:xT l d N f)(k:∀b,l.O b->a.O b/\a.w.heap[b]?=l.w.heap[b]?):xT a d N f:=λj g=>by let⟨i,c,m,n,e,o⟩:=h j g;exact⟨i,c,m,n,(k c e).1,zP (k c e).2 o⟩
def abU{t:Tmp}(d:f.kind=Ą)(e:y.defers=[])(g:P.funcs[f.fn]?=Â s)(c:s.results=#[.tmp t])(h:P.inits.idxOf? f.fn=Á):stepG P Î (G {f.at y L with mode:=.returning} []) w=.ended (.done<|y.tmps.getD t ĸ) w:=by have i:=results_tmp c y.tmps P w;have j:=events_results_tmp (P:=P) (w:=w) c y.tmps;simp[G,stepG,unwind,doReturn,Frame.at,d,e,g,i,j,h,seen,GStep.after]
def asu{l:fc}(e:iC vQ l g)(a:gB l)(c:g.status=.running):rV vQ #[g] l.w Á #[]:=e a c (λ_=>False) 0 _ _ _ _ Á _ ⟨λx q=>q.elim,λ_ _ _ _ q=>q,Ö _⟩ (arF (P:=À) (J:=λ_ _=>True) (T:=.fB) U a.d a.q a.N a.I a.M a.k (λb q=>a.r.fx b<|È q) c λ_ _=>trivial) a.d U
def Iy(W:Í):fc:={O:=λb=>b<W.heap.size,I:=λ_=>False,r:=λ_=>False,N:=λ_=>False,K:=λ_=>False,d:=0,q:=False,w:=W}
def abV(W:Í):gB (Iy W):= ⟨⟨λ_ _=>id,λ_ q=>q.elim,λ_ q=>q.elim (λz=>z.elim) λz=>z.elim,λ_ q=>q.elim id λz=>z.elim,λ_ q=>q.elim (λz=>z.elim) λz=>z.elim,λ_ q=>q.elim⟩,U,id,λ_=>id,λ_=>id,λ_=>id,λ_=>id⟩
structure nF(W w':Í):Prop where
 qT:∀b,b<W.heap.size->w'.heap[b]?=W.heap[b]?
 CY:W.heap.size<=w'.heap.size
def asv(g:nz W):∀b,b=1\/b=2\/b=3\/b=4->b<W.heap.size:=λb q=>by let⟨c,a,h,_⟩:=g.C;have:=(á.1 h).1;omega
def abW:À.cellsOf 9=1:=fu
theorem Ur(b a n:Nat):(⟨b,a,Á⟩:ù).add n=⟨b,a+n,Á⟩:=by unfold Addr.add;grind
theorem asw(h:w.cell? a=Â v):a.spot=Á/\a.block<w.heap.size:=by
 unfold ß at h;split at h
 .rename_i c t f e;constructor
  .simp_all
  .grind
 .cases h
open Go.ChangeShapes Go.WideShapes Go.ChangeAt Go.Deep in
theorem asx{H:Type}{enc:TypeId×Value->H}{x:DataW H×List MemPlace} (h:DataW.trod enc À W 0 (λ_=>Î) Î k 25 [Æ O J j9]=Â x):J<=đ/\∃f,xT (Iy W) O J f:=by
 rcases open_slice Č h with⟨d,_⟩|⟨a,r,t,m,n,D,B,d,_,C,E,u,_,v⟩
 .have e:Æ O J j9=Æ Á 0 0:=by simpa using d
  cases e;exact⟨Ö _,λ_=>⟨#[]⟩,λj l=>by omega⟩
 have e:Æ O J j9=Æ (Â a) r t:=by simpa using d
 cases e;have F:m=j9:=by rw[u];rfl
 have w:∀i,∃s:ByteArray,i<J->W.cell? (a.add i)=Â (Ä s)/\s.size<=đ:=by
  intro i;by_cases b:i<J
  .let⟨y,c,g⟩:=v i Z;rw[abW]at c;let⟨_,z,q⟩:=World.cells?_some c;let⟨s,p,_,G⟩:=DataW.trod_string Tryz.underlying9 g;subst p;have o:=q 0 fj;have I:(a.add i).add 0=a.add i:=rfl;grind
  .exact⟨⟨#[]⟩,λq=>absurd q b⟩
 let⟨f,q⟩:=Classical.axiomOfChoice w;refine⟨Z,f,λj l=> ?_⟩;let⟨c,g⟩:=q j l;let⟨o,_⟩:=q 0 Z;let⟨G,y⟩:=asw o;let⟨b,p,sp⟩:=a;have z:sp=Á:=by have:((⟨b,p,sp⟩:ù).add 0).spot=sp:=rfl;grind
 subst z;rw[Ur]at c;exact⟨g,b,p,U,y,c⟩
end Go.Proofs.Y.kS
