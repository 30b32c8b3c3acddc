import Derived.Test.YtgpphkdoanciiaaGreatDoorWAD
import Derived.Lib.Bytealg
import Derived.WalkKit
import Derived.WalkSpells
import Derived.WalkLawsBesides
import Derived.Deep.Light
import Derived.WalkMore
import Derived.Deep.QuietTactic
import Derived.BigQuiet
import Derived.Conc.LeavingOf
import Derived.Conc.CrowdStepC
import Derived.Listen
import Derived.ProofKit
import Derived.Deep.Slices
set_option linter.all false
set_option maxRecDepth 1000000
set_option maxHeartbeats 8000000
open Go.Proofs.Tryz renaming prog->À,ntmps67->í,func67->ó,zeroCells292->ü,ntmps100->ý,func100->ā,underlying25->Č,func38->ĕ,results45->Ĥ,func36->ļ,results36->Ľ,func17->Ł,ntmps160->Ŋ,ntmps147->ŋ,ntmps38->Ŏ,func160->Œ,func147->Ŗ,ntmps95->ŗ,ntmps36->Ř,func95->ť,func30->ŧ,func22->Ũ,ntmps123->Ÿ,ntmps101->ż,func123->Δ,func101->Κ,ntmps96->Μ,ntmps45->Ν,ntmps30->Ο,func96->ζ,func45->η,func35->θ,func37->ι,func15->ν,f38->ak
open Option renaming none->Á,some->Â,bind_eq_some_iff->Ü,bind_eq_bind->ê,map->ð,map_eq_some_iff->ò,isSome_none->ö,map_some->û,pure_def->Ă,bind_some->ş,bind->Ω
open Go.Value renaming pointer->Ã,string->Ä,int->Å,slice->Æ,tuple->ë,bool->õ,cells->Ĺ
open Go.Ending renaming returned->Ç
open Or renaming inl->È,inr->Ï
open Go.IntKind renaming i64->É,u64->ã,wrap_u64->Ć,wrap_i64->ŝ,u8->ū
open And renaming intro->Ê
open Bool renaming false->Ë,true->Î,false_eq_true->ì,eq_iff_iff->Ě
open Nat renaming le_trans->Ì,zero_le->Ö,le_refl->æ,lt_of_lt_of_le->Ģ,eq_zero_or_pos->ĥ,zero_add->œ,mul_le_mul->ű
open Go renaming World->Í,Value->Ñ,Calls->Ò,Addr->ù,bodyPost_ret->Ā,Act->Ĉ,Goroutine->Ċ,TypeId->Ď,maxLen->đ,Frame->Ĕ,Oper->ğ,TypeInfo->ĩ,undef->ĸ,results->Ń,execOp->ś,runNT_fst->Ţ,run_underlying->Ů,info_parts->ů,heap_alloc_new->Ŵ,Tape->ŷ,Trace->Ž,runNT->ſ,mem_ready->Β,wp_loop->Γ,wpList_plain->Ε,yielded->Ι,cell_one_new->Λ,FuncId->Ρ,Code->Τ,storeCells->ο,resolve->σ,builtin->υ,Program->ag,invoke->av
open Go.Item renaming inRegion->Ð,code->az
open List renaming getElem?_eq_getElem->Ó,getElem?_eq_some_iff->Õ,length_append->Ù,mem_map->Ú,eq_nil_of_length_eq_zero->Þ,mem_append->â,mem_of_getElem?->ç,setIfInBounds_toArray->é,length_map->ú,set_cons_zero->þ,set_cons_succ->ÿ,replicate->ą,length_cons->Đ,cons_append->Ē,mem_cons_of_mem->Ė,getElem?_of_mem->ė,append_nil->Ę,nil_append->ě,getElem_of_mem->Ğ,getD->Ġ,getElem?_append_right->ġ,getElem?_append_left->Ħ,extract_eq_take_drop->ħ,mem_or_eq_of_mem_set->Ĩ,take_add_one->Ī,getElem?_map->ī,all_eq_true->ĭ,range->ĳ,set_append_right->Ĵ,length_pos_iff->Ņ,map_cons->ŉ,mem_singleton->ō,map_nil->Ő,append_assoc->ő,ext_getElem?->Ŕ,size_toArray->ř,length_take->Ś,map_toArray->Ŝ,mem_flatMap->Ş,length_nil->ũ,mem_range->Ŷ,length->Υ
open Option.some renaming injEq->Ô,inj->ai
open Go.Lib renaming byteCells->Ø,indexByte->ß,strCells->į,hasPrefix->ź,TabIs->ω
open Go.Obj renaming cells->Û
open Array renaming getElem?_eq_some_iff->Ý,getElem?_eq_getElem->å,mem_toList_iff->î,getElem_mem->ă,length_toList->ĝ,size_setIfInBounds->Ĭ,getElem?_eq_none->ı,mem_of_getElem?->ĵ,getElem?_modify->Ķ,getElem?_toList->ķ,toList_extract->ĺ,replicate->Ū
open Go.World renaming cell?->à,setCell->Ż,drew->π,var?->ρ
open Go.Code renaming wp->á,wp_mono->İ,loop->ń,skip->ar
open Go.Region renaming ready->ä,wanted->ē,Mode->Ŀ
open Go.Frame renaming enter->è,finish_at->Ĝ
open Go.Conc.Goes renaming stop->ï
open Go.Ground renaming phase->ñ,data->ĉ
open Go.Conc renaming events_call_body->ô,crowd->Į,goes_leave1->Ŧ,Good->Ξ,goes_leave2->κ,listed->aA
open ByteArray renaming size_append->ø,getElem_eq_getElem_data->ċ,size_extract->č,data_extract->Ĳ,size->ŭ,data->Ű,extract->φ,mk->aD
open Go.CallKind renaming normal->Ą
open Go.Region.linearise renaming go->ć
open Go.Great renaming wpList_runTo->ď
open Go.Builtin renaming append_->ę,firstCells->Ō,lenOf->Ź,append->ξ,zeroCells->ψ
open Go.RowKit.Below renaming heap_setCell->ģ,heap_alloc->Š
open Go.IntWalk renaming i64_in->Ļ,i64_left->š
open Go.Made renaming word->ł,reckonStruct->ŕ,infoAt->ţ,mostCells->Ų,reckon->ε
open Int renaming toNat_of_nonneg->ņ,le_refl->Ť
open Go.Operand renaming tmp->ň
open Go.Result renaming andThen_ok->ŏ,andThen->ų
variable{i n j b k m J j9 j7 j6:Nat}{w u W jX:Í}{v x z jQ:Ñ}{g:Ċ}{a p:ù}{h c:Int}{e t T:Ď}{d q:Array Ñ}{P:ag}{y:Ĉ}{B:ByteArray}{X:Nat->Prop}{O:Option ù}{l:List Ñ}{yQ:Bool}{K H:Ĉ->Í->Prop}{o:ğ}{D:Nat->Nat}{E:Array Ċ}{L:List Go.Item}{jJ:List Nat}{qX:List Ĕ}{qJ:Ž}{zX:Go.Loc->Prop}{zQ:List Int}{zJ:ĩ}{xQ:ŷ}{xJ:Nat×Nat}{vX:List ByteArray}{vQ:Ñ->Í->Prop}{vJ:Go.Exit->Ĉ->Í->Prop}{Q:Array ğ}{f:Ĕ}{F:Ρ}{s:Go.Func}
namespace Go.Proofs.Y.gO
open Go Go.Proofs Go.RowKit Go.Proofs.Y.Lift
def Dr:Τ->Option Τ
 |ń c=>Â c
 |.seq a b=>match Dr b with
  |some c=>Â c
  |none=>Dr a
 |.block _ c=>Dr c
 |.scope c=>Dr c
 |.cond _ a b=>match Dr b with
  |some c=>Â c
  |none=>Dr a
 |_=>Á
noncomputable def Np:Τ:=(ak.body.bind km).getD ar
noncomputable def Nq:Τ:=(ak.body.bind Dr).getD ar
def QE(k:Nat)(X:Ĉ->Í->Prop):Exit->Ĉ->Í->Prop
 |.exit i,a,w=>i=k/\X a w
 |_,_,_=>False
def om(a:ByteArray)(b:List ByteArray):List UInt8:=b.flatMap λy=>a.data.toList++y.data.toList
def aau(a:ByteArray):List ByteArray->List UInt8
 |[]=>[]
 |x::r=>x.data.toList++om a r
def iO(xs:List ByteArray):Nat:=(xs.map ŭ).sum
def TN(a b:List ByteArray):iO (a++b)=iO a+iO b:=by simp[iO]
def aav(a:List ByteArray)(j:Nat):iO (a.take j)<=iO a:=by have h:=TN (a.take j)<|a.drop j;simp_all
def Nr(a:ByteArray)(c:a.size=1):∀b:List ByteArray,(om a b).length=iO b+b.length
 |[]=>rfl
 |x::r=>by
  have e:om a (x::r)=(a.data.toList++x.data.toList)++om a r:=U;have d:a.data.toList.length=1:=by simpa using c
  have f:x.data.toList.length=x.size:=fj
  have g:iO (x::r)=x.size+iO r:=by simp[iO]
  rw[e,Ù,Ù,Nr a c r,d,f,g,Đ];omega
def FX(a:Option ù)(n b:Nat)(c:ByteArray)(m i:Int)(u:Nat->Ñ):Ĉ:=⟨#[Æ a n b,Ä c,u 2,u 3,u 4,Å É m,u 6,u 7,u 8,u 9,u 10,u 11,u 12,u 13,u 14,u 15,u 16,u 17,u 18,u 19,u 20,u 21,u 22,u 23,u 24,u 25,u 26,u 27,u 28,u 29,u 30,u 31,u 32,u 33,u 34,u 35,u 36,u 37,u 38,Æ a n b,Å É n,Å É i,u 42,u 43,u 44,u 45,u 46,u 47,u 48,u 49,u 50,u 51,u 52,u 53,u 54,u 55,u 56,u 57,u 58,u 59,u 60,u 61,u 62,u 63,u 64,u 65,u 66,u 67,u 68,u 69,u 70,u 71,u 72,u 73,u 74],[]⟩
def FY(b:Option ù)(n c:Nat)(d:ByteArray)(m i:Int)(a:Ĉ):Prop:=∃u,a=FX b n c d m i u
def qD(a:Option ù)(n c b:Nat)(d:ByteArray)(i:Int)(u:Nat->Ñ):Ĉ:=⟨#[u 0,Ä d,u 2,u 3,u 4,u 5,u 6,u 7,Ã<|Â ⟨b,0,Á⟩,u 9,u 10,u 11,u 12,u 13,u 14,u 15,u 16,u 17,u 18,u 19,u 20,u 21,u 22,u 23,u 24,u 25,u 26,u 27,u 28,u 29,u 30,u 31,u 32,u 33,u 34,u 35,u 36,u 37,u 38,u 39,u 40,u 41,u 42,u 43,u 44,u 45,u 46,u 47,u 48,u 49,u 50,u 51,u 52,u 53,u 54,u 55,u 56,u 57,u 58,u 59,u 60,u 61,u 62,Æ a n c,Å É n,Å É i,u 66,u 67,u 68,u 69,u 70,u 71,u 72,u 73,u 74],[]⟩
def FZ(c:Option ù)(n d b:Nat)(e:ByteArray)(i:Int)(a:Ĉ):Prop:=∃u,a=qD c n d b e i u
section
variable{X:Ĉ->Í->Prop}{sep:ByteArray}{xs:List ByteArray}
def aoF(u:Nat->Ñ)(m:Int)(b:∀a,FY O n i sep m n a->X a w): á À Np (Exit.then K<|QE 1 X) (FX O n i sep m n u) w:=by
 unfold FX;conv=>arg 2;whnf
 go_wp2_with fail
 exact⟨U,b _ (gi _)⟩
def aoG(u:Nat->Ñ)(m j:Nat)(f:j<n)(g:n<=1000000)(b c:Nat)(e:O=Â ⟨b,c,Á⟩)(x:ByteArray)(h:w.cell? ⟨b,c+j,Á⟩=Â (Ä x))(k:m+x.size<=140737488355328) (d:∀a,FY O n i sep ((m+x.size:Nat):Int) ((j+1:Nat):Int) a->K a w): á À Np (Exit.then K<|QE 1 X) (FX O n i sep m j u) w:=by
 unfold FX;conv=>arg 2;whnf
 subst e;have H:=fe d;clear d;go_wp2_with fail;exact H.out _ (gi _)
def J1(O:Option ù)(n i:Nat)(sep:ByteArray)(b:Nat)(xs:List ByteArray)(u:Í)(a:Ĉ)(w:Í):Prop:=
 ∃j:Nat,FY O n i sep ((b+iO (xs.take j):Nat):Int) j a/\j<=n/\w=u
def J1E(O:Option ù)(n i:Nat)(sep:ByteArray)(b:Nat)(xs:List ByteArray)(u:Í)(a:Ĉ)(w:Í):Prop:=
 FY O n i sep ((b+iO xs:Nat):Int) n a/\w=u
def Ns(n:Nat)(a:Ĉ)(_:Í):Nat:=match a.tmps.getD 41 ĸ with
 |Å _ i=>n-i.toNat
 |_=>0
def aaw(b:FY O n i sep h j y):Ns n y w=n-j:=by obtain⟨u,rfl⟩:=b;show n-(j:Int).toNat=_;simp
theorem aoH(r:n=xs.length)(f:n<=1000000)(g:ny O (jl xs) u)(s:j+iO xs<=140737488355328)(a:Ĉ)(w:Í)(h:J1 O n i sep j xs u a w): á À Np (Exit.then (λb c=>J1 O n i sep j xs u b c/\Ns n b c<Ns n a w)<|QE 1<|J1E O n i sep j xs u) a w:=by
 obtain⟨b,d,t,rfl⟩:=h;rw[aaw d];obtain⟨c,rfl⟩:=d;by_cases k:b=n
 .subst k;refine aoF c _ λa q=>⟨?_,U⟩;grind
 .obtain⟨x,e⟩:∃x,xs[b]?=Â x:=⟨_,Ó Z⟩;let⟨l,m,o,p⟩:=g b (Ä x) (by simp[jl,e]);have v:iO (xs.take<|b+1)=iO (xs.take b)+x.size:=by
   rw[Ī,e,TN];simp[iO]
  have y:=aav xs<|b+1;refine aoG c _ b Z f l m o x p Z λa q=>⟨⟨b+1,?_,Z,U⟩,by rw[aaw q];omega⟩;grind
def aoI(u:Nat->Ñ)(c:∀a,FZ O n i b sep n a->X a w): á À Nq (Exit.then K<|QE 3 X) (qD O n i b sep n u) w:=by
 unfold qD;conv=>arg 2;whnf
 go_wp2_with fail
 exact⟨U,c _ (gi _)⟩
def aoJ(c:Nat->Ñ)(j:Nat)(y:j<n)(z:n<=1000000)(d f:Nat)(o:O=Â ⟨d,f,Á⟩)(x:ByteArray)(p:u.cell? ⟨d,f+j,Á⟩=Â (Ä x))(l:List UInt8)(g:oO u b (Ø l) w)(q:sep.size=1)(B:l.length+1+x.size<=140737488355328) (r:∀a h,FZ O n i b sep ((j+1:Nat):Int) a->oO u b (Ø<|l++(sep.data.toList++x.data.toList)) h->K a h): á À Nq (Exit.then K<|QE 3 X) (qD O n i b sep j c) w:=by
 unfold qD;conv=>arg 2;whnf
 subst o;have C:=g.r.r p id;have k:=Lib.byteCells_length l;have s:(Ø l++į sep).length=l.length+1:=by rw[Ù,k,Lib.strCells_length,q]
 have E:Ø l++į sep++į x=Ø (l++(sep.data.toList++x.data.toList)):=by simp[Ø,į]
 have H:=fe<|Ê g<|Ê r<|Ê k<|Ê s E;go_wp2_with (first
  |(go_at_call 55;refine(TM t.out x<|by rw[H.out.2.2.2.1];omega).mono ?_;rintro e D ⟨rfl,m⟩;have v:=fe m;clear m)
  |(go_at_call 55;refine(TM H.out.1 sep (by rw[H.out.2.2.1];omega)).mono ?_;rintro e D ⟨rfl,m⟩;have t:=fe m;clear m))
 apply H.out.2.1 _ _ (gi _);rw[<-H.out.2.2.2.2];exact v.out
def J2(O:Option ù)(n i b:Nat)(sep:ByteArray)(c:List UInt8)(xs:List ByteArray)(u:Í)(a:Ĉ)(w:Í):Prop:=
 ∃j:Nat,FZ O n i b sep j a/\j<=n/\oO u b (Ø<|c++om sep (xs.take j)) w
def J2E(O:Option ù)(n i b:Nat)(sep:ByteArray)(c:List UInt8)(xs:List ByteArray)(u:Í)(a:Ĉ)(w:Í):Prop:=
 FZ O n i b sep n a/\oO u b (Ø<|c++om sep xs) w
def Nt(n:Nat)(a:Ĉ)(_:Í):Nat:=match a.tmps.getD 65 ĸ with
 |Å _ i=>n-i.toNat
 |_=>0
def aax(c:FZ O n i b sep j y):Nt n y w=n-j:=by obtain⟨u,rfl⟩:=c;show n-(j:Int).toNat=_;simp
theorem aoK{d:List UInt8}(z:n=xs.length)(k:n<=1000000)(g:sep.size=1)(l:ny O (jl xs) u)(B:d.length+iO xs+n<=140737488355328)(a:Ĉ)(w:Í)(m:J2 O n i b sep d xs u a w): á À Nq (Exit.then (λc e=>J2 O n i b sep d xs u c e/\Nt n c e<Nt n a w)<|QE 3<|J2E O n i b sep d xs u) a w:=by
 let⟨j,h,C,o⟩:=m;rw[aax h];obtain⟨c,rfl⟩:=h;by_cases p:j=n
 .subst p;refine aoI c λa q=>⟨q,?_⟩;grind
 .obtain⟨x,f⟩:∃x,xs[j]?=Â x:=⟨_,Ó Z⟩;let⟨r,s,t,v⟩:=l j (Ä x) (by simp[jl,f]);have D:iO (xs.take<|j+1)=iO (xs.take j)+x.size:=by
   rw[Ī,f,TN];simp[iO]
  have E:=aav xs<|j+1;have y:(d++om sep (xs.take j)).length=d.length+iO (xs.take j)+j:=by rw[Ù,Nr sep g,Ś];omega
  have F:om sep (xs.take<|j+1)=om sep (xs.take j)++(sep.data.toList++x.data.toList):=by rw[Ī,f];simp[om]
  refine aoJ c j Z k r s t x v _ o g (by rw[y];omega) λa e q G=>⟨⟨j+1,q,Z,?_⟩,by rw[aax q];omega⟩;grind
end
section
variable{sep:ByteArray}{xs:List ByteArray}
def kF(sep:ByteArray)(xs:List ByteArray):ByteArray:=⟨(aau sep xs).toArray⟩
def aoL:Ò À 38 #[Æ O 0 i,Ä sep] w λe a=>e=Ç (Ä ⟨#[]⟩)/\e9 (λ_=>False) w a:=by go_enter ĕ,Ŏ;go_wp2_with fail;go_ret;exact⟨U,e9.fT _ _⟩
def aoM(a b:Nat)(x:ByteArray)(d:w.cell? ⟨a,b,Á⟩=Â (Ä x)):Ò À 38 #[Æ (Â ⟨a,b,Á⟩) 1 i,Ä sep] w λe c=>e=Ç (Ä x)/\e9 (λ_=>False) w c:=by go_enter ĕ,Ŏ;go_wp2_with fail;go_ret;exact⟨U,e9.fT _ _⟩
theorem aoN(k:Nat)(K:1<=k)(L:k<1000000)(c d:Nat)(M:k+1<=i)(l:sep.size=1)(x:ByteArray)(g:k=xs.length)(f:ny (Â ⟨c,d,Á⟩) (jl<|x::xs) w)(C:iO (x::xs)+(k+1)<=140737488355328): Ò À 38 #[Æ (Â ⟨c,d,Á⟩) (k+1) i,Ä sep] w λe q=>e=Ç (Ä<|kF sep<|x::xs)/\e9 (λ_=>False) w q:=by
 have D:iO (x::xs)=x.size+iO xs:=by simp[iO]
 have m:∀a,FY (Â ⟨c,d,Á⟩) (k+1) i sep ((k+iO ((x::xs).take 0):Nat):Int) (0:Nat) a->á À (ń Np) (QE 1<|J1E (Â ⟨c,d,Á⟩) (k+1) i sep k (x::xs) w) a w:=λa h=>
  Γ (J1 (Â ⟨c,d,Á⟩) (k+1) i sep k (x::xs) w) (Ns<|k+1) ⟨0,h,Ö _,U⟩<|aoH (by simp[g]) Z f Z
 have n:ny (Â ⟨c,d+1,Á⟩) (jl xs) w:=λj u E=>by let⟨b,o,q,B⟩:=f (j+1) u (by simpa[jl]using E);grind
 have p:∀a W,FZ (Â ⟨c,d+1,Á⟩) k (i-1) w.heap.size sep (0:Nat) a->oO w w.heap.size (Ø<|x.data.toList++om sep (xs.take 0)) W->á À (ń Nq) (QE 3<|J2E (Â ⟨c,d+1,Á⟩) k (i-1) w.heap.size sep x.data.toList xs w) a W:=λa W h o=>
  Γ (J2 (Â ⟨c,d+1,Á⟩) k (i-1) w.heap.size sep x.data.toList xs w) (Nt k) ⟨0,h,Ö _,o⟩<|aoK g Z l n (by simp only[ĝ];have:x.data.size=x.size:=rfl;omega)
 let⟨_,_,F,r⟩:=f 0 (Ä x) U;cases F;have s:w.cell? ⟨c,d,Á⟩=Â (Ä x):=r;have t:x.data.toList++om sep xs≠[]:=by intro q;have:=congrArg Υ q;rw[Ù,Nr sep l,ũ]at this;omega
 have N:(1:Int)<9223372036854775807/(k:Int):=by rw[Int.lt_iff_add_one_le,Int.le_ediv_iff_mul_le Z];omega
 have y:0<k+iO (x::xs)/\k+iO (x::xs)<=281474976710656:=Z
 have z:(Ø []).length+x.size<=140737488355328:=by simp[Ø];omega
 have H:=fe<|Ê m<|Ê p<|Ê y<|Ê z<|Ê t s;clear m p y z t r s f n g C D;generalize G:iO (x::xs)=S at*;go_enter ĕ,Ŏ;go_wp2_with fail;refine İ ?_ (H.out.1 _ (gi _));rintro(_|_|_|_|_|_) a v hq;all_goals first|exact absurd hq id|skip
 obtain⟨rfl,b,rfl⟩:=hq;rw[G]at b;obtain⟨u,rfl⟩:=b;unfold FX;go_wp2_with (first
  |(go_at_call 54;refine(aoD ⟨æ _,e9.gG _ _ _ _,fg.N v [Ã Á,Æ Á 0 0] 109⟩ (k+S) H.out.2.2.1.1 H.out.2.2.1.2).mono ?_;rintro e I ⟨rfl,q⟩;have J:=q.r.r H.out.2.2.2.2.2 id;have B:=fe q;clear q)
  |(go_at_call 55;refine(TM B.out x H.out.2.2.2.1).mono ?_;rintro e q ⟨rfl,B⟩;have I:=fe B;clear B))
 have J:oO v v.heap.size (Ø<|x.data.toList++om sep (xs.take 0)) q:=by have:=I.out;show oO v v.heap.size (Ø<|x.data.toList++[]) q;rw[Ę];exact this
 refine İ ?_ (H.out.2.1 _ _ (gi _) J);rintro(_|_|_|_|_|_) a w3 hq;all_goals first|exact absurd hq id|skip
 obtain⟨rfl,b,o⟩:=hq;obtain⟨v,rfl⟩:=b;unfold qD;go_wp2_with (go_at_call 56;refine(aoE (fe o).out H.out.2.2.2.2.1).mono ?_;rintro e O ⟨rfl,B⟩;have I:=fe B;clear B);go_ret;exact⟨U,I.out⟩
def TO(a:n=xs.length)(f:n<=1000000)(g:n<=i)(h:sep.size=1)(b:ny O (jl xs) w)(j:iO xs+n<=140737488355328): Ò À 38 #[Æ O n i,Ä sep] w λe c=>e=Ç (Ä<|kF sep xs)/\e9 (λ_=>False) w c:=by
 cases xs with
 |nil=>subst a;exact aoL
 |cons x r=>
  let⟨c,d,k,l⟩:=b 0 (Ä x) U;subst k;cases r with
  |nil=>
   subst a;have e:kF sep [x]=x:=by show aD ((x.data.toList++[]).toArray)=x;rw[Ę]
   rw[e];exact aoM c d x l
  |cons y r=>
   subst a;exact aoN (r.length+1) Z (by simp at f;omega) c d g h x U b j
def aoO(a:n=xs.length)(c:n<=1000000)(d:n<=i)(h:ny O (jl xs) w)(f:iO xs+n<=140737488355328): Ò À 123 #[Æ O n i] w λe b=>e=Ç (Ä<|if xs=[]then⟨#[45]⟩else kF ⟨#[44]⟩ xs)/\e9 (λ_=>False) w b:=by
 have H:=fe<|TO (sep:=⟨#[44]⟩) a c d U h f;by_cases b:xs=[]
 .subst b;have e:=a;subst e;rw[if_pos U];clear a f H c d;go_enter Δ,Ÿ;go_wp2_with fail;go_ret;exact⟨U,e9.fT _ _⟩
 .rw[if_neg b];have k:0<n:=by rw[a];exact Ņ.2 b
  have l:((n:Int)==0)=Ë:=by simp;omega
  clear a;generalize kF ⟨#[44]⟩ xs=z at*;go_enter Δ,Ÿ;go_wp2_with (go_at_call 38;apply H.out.mono;rintro e m ⟨rfl,g⟩;have j:=fe g;clear g);go_ret;exact⟨U,j.out⟩
end
def F0{M:Nat}:∀(a:List ByteArray),(∀z∈a,z.size<=M)->iO a<=M*a.length
 |[],_=>Ö _
 |x::r,h=>by
  have c:=F0 r λz b=>h z<|Ė _ b;have d:=h x fj;have e:iO (x::r)=x.size+iO r:=by simp[iO]
  rw[e,Đ,Nat.mul_add];omega
def Nu{e:Nat×Int}(h:fY e.2):(rW e).size<=21:=by unfold rW;rw[ø];have:=xK e.1;have:=pw e.2.toNat (by have:=h.1;have:=h.2;omega);omega
def aay{e:Int×Bool}(a:0<=e.1)(h:e.1<=400):(FU e).size<=41:=by unfold FU;rw[ø,ø];have:=pw e.1.toNat Z;have:=pw e.2.toNat (by cases e.2<;>decide);have:ŭ ⟨#[58]⟩=1:=rfl;omega
section
variable{b:List ByteArray}
def aaz{ty:Ď}{base:Nat}(b:P.underlying t=Â (.slice e))(d:P.info? e=Â zJ)(h:w.ownsRow base e j v n l)(a:Option ù)(c:Nat): (ę #[t,t] ty #[v,Æ a 0 c]).run P w=.ok v w:=by
 have f:(Ō zJ.size 0<|Æ a 0 c).run P w=.ok #[] w:=by cases a<;>simp[Ō,loadCells,loadCellsFrom]
 rcases h.2 with⟨rfl,rfl⟩|⟨g,m,o,rfl,_,_,k,_⟩
 .simp[ę,Ů b,sizeOf,typeInfo,d,Ź,f,ο]
 .simp[ę,Ů b,sizeOf,typeInfo,d,Ź,f,k,ο]
def aoP{r:Array ğ}{t:List ğ}(l:o.guard=Á)(s c:Operand) (m:o.op=.call {callee:=.builtin ξ,args:=#[s,c],argTypes:=#[25,25]}) (d:ic u v vX w) (n:y.eval s=v) {base:Nat} (B:w.ownsRow base 9 1 x b.length (jl b)) (e:y.eval c=x) (I:vX.length+b.length<=1000000) (h:∀j k,ic u j (vX++b) k->wpList À r vJ t (y.put o.dst j) k):wpList À r vJ (o::t) y w:=by
 let⟨J,p,D,E,F⟩:=ů zC;rcases B.2 with⟨f,G⟩|⟨g,H,L,f,_⟩
 .have z:=Þ G;subst z;rw[f]at e;refine Ε l λK i=> ?_;have q:=aaz (ty:=o.type) Č p d.fp Á 0;unfold Oper.wp ś;simp only[m,σ,av,υ,Sem.run_bind,Sem.run_pure,ŏ,Ŝ,ŉ,Ő,n,e,q];exact i _ _<|h v w<|by rwa[Ę]
 .by_cases C:b=[]
  .subst C;rw[f]at e;refine Ε l λK i=> ?_;have q:=aaz (ty:=o.type) Č p d.fp (Â ⟨g,0,Á⟩) H;unfold Oper.wp ś;simp only[m,σ,av,υ,Sem.run_bind,Sem.run_pure,ŏ,Ŝ,ŉ,Ő,n,e,q,ũ];exact i _ _<|h v w<|by rwa[Ę]
  .have K:=Ņ.2 C;refine C3 l s c 25 m Č p D E F U n d.fp ⟨g,0,Á⟩ (jl b) (e.trans f) K (by simp[jl]) (B.cells<|by rw[f];rfl) (λi q=>by unfold jl at q;obtain⟨z,_,rfl⟩:=Ú.1 q;rfl) (by unfold đ;omega) Z d.r.M ?_;intro j k z;refine h j k ⟨?_,d.r.C z.r λi M q=> ?_⟩
   .have:=z.fp;rwa[show jl vX++jl b=jl (vX++b) by simp[jl],show vX.length+b.length=(vX++b).length by simp]at this
   .have:=(d.fp.lt i q).1;omega
end
def ic.I(h:ic u (Æ O n i) vX w):ny O (jl vX) w/\n=vX.length/\n<=i:=by
 rcases h.fp.2 with⟨b,d⟩|⟨g,f,k,b,_,_,d,_⟩
 .cases b;refine⟨λj x e=> ?_,d.symm,æ _⟩;rw[Þ d]at e;cases e
 .have e:n=vX.length:=by injection b
  subst e;injection b with _ _ h4;exact⟨ny.r h.fp,U,by rwa[h4]⟩
def TP(r:C8):ByteArray:=kF ⟨#[44]⟩<|[gf r.C.toNat,gf r.M.toNat,gf r.r.toNat]++r.I.map rW
theorem aoQ(x y:Nat)(g k:Int)(b c:Nat)(a:Bool)(f:List (Nat×Int))(L:b<18446744073709551616)(M:c<18446744073709551616)(S:f.length<=400000)(V:xG f)(W:lL w) (T:Ò À 158 #[Ã<|Â ⟨i,0,Á⟩,Å É x,Å É y,Å ã g,Å ã k] w λe j=>∃B,e=Ç (ë #[.agg #[Å ã b,õ a,Å ã c],B])/\j.ownsRow 0 257 2 B f.length (kl f)/\e9 (λ_=>False) w j): Ò À 119 #[Ã<|Â ⟨i,0,Á⟩,Å É x,Å É y,Å ã g,Å ã k] w λe j=>e=Ç (Ä<|kF ⟨#[44]⟩<|[gf a.toNat,gf c,gf b]++f.map rW)/\e9 (λ_=>False) w j:=by
 have N:a.toNat<18446744073709551616:=by cases a<;>decide
 have H:=fe<|Ê T<|Ê W V;go_enter Tryz.func119,Tryz.ntmps119;go_wp2_with (go_at_call 158;apply H.out.1.mono;rintro e l ⟨B,rfl,q,d⟩;obtain⟨v,Q,rfl⟩:=jh q;have C:=fe<|Ê d q;clear d q);change á À _ _ _ (l.alloc<|Û #[Å ã b,õ a,Å ã c] 252);have D:=(e9.gG (λ_=>False) l #[Å ã b,õ a,Å ã c] 252).ff<|e9.fR _ _;have E:=(H.out.2.1.r C.out.1).r D;have o:=(fg.N l [Å ã b,õ a,Å ã c] 252).I (e9.fR (λ_=>False) _) id;have O:=C.out.1.ff D;have X:=ia C.out.2 D λ_ _=>id;refine mg (λj=>j.cell? ⟨l.heap.size,0,Á⟩=Â (Å ã b)/\j.cell? ⟨l.heap.size,1,Á⟩=Â (õ a)/\j.cell? ⟨l.heap.size,2,Á⟩=Â (Å ã c)) [] ft ?_;have h:=fe<|Ê (o.r 0 _ rfl)<|Ê (o.r 1 _ rfl)<|o.r 2 _ rfl;generalize l.heap.size=ob at*;generalize π (l.alloc<|Û #[Å ã b,õ a,Å ã c] 252)=w5 at*;apply tk 0 h.out;apply tk 1 h.out;apply tk 2 h.out;apply tk 5 h.out;apply tk 6 h.out;apply tk 8 h.out;apply tk 9 h.out;apply tk 10 h.out;apply gD 3;intro K d;go_simp;go_at_call 159;refine(I1 _ _).mono ?_;rintro e Y ⟨rfl,qP⟩;subst Y;rw[aam];apply d.out _ _ λ_=>h.out;apply gD 4;intro K d;go_simp;go_at_call 118;refine(xH a.toNat N _ E).mono ?_;rintro e wa ⟨rfl,p⟩;have r:=o.I p id;have P:=E.r p;apply d.out _ _ λ_=>⟨r.r 0 _ U,r.r 1 _ U,r.r 2 _ U⟩;apply gD 7;intro K d;go_simp;go_at_call 118;refine(xH c M _ P).mono ?_;rintro e wb ⟨rfl,s⟩;have t:=r.I s id;have Pb:=P.r s;apply d.out _ _ λ_=>⟨t.r 0 _ U,t.r 1 _ U,t.r 2 _ U⟩;apply gD 11;intro K d;go_simp;go_at_call 118;refine(xH b L _ Pb).mono ?_;rintro e m ⟨rfl,F⟩;have u:=t.I F id;have n:=u.I (e9.gG (λ_=>False) m #[Ä<|gf a.toNat,Ä<|gf c,Ä<|gf b] 9) id;apply d.out _ _ λ_=>⟨u.r 0 _ U,u.r 1 _ U,u.r 2 _ U⟩;apply gD 12;intro K d;go_simp;apply d.out _ _ λ_=>⟨n.r 0 _ U,n.r 1 _ U,n.r 2 _ U⟩;apply gD 13;intro K d;go_simp;apply d.out _ _ λ_=>⟨n.r 0 _ U,n.r 1 _ U,n.r 2 _ U⟩;refine lS ft ?_ _;have G:e9 (λ_=>False) w5 (m.alloc<|Û #[Ä<|gf a.toNat,Ä<|gf c,Ä<|gf b] 9):=((p.ff s).ff F).ff<|e9.gG _ _ _ _;have T6:ic w (Æ (Â ⟨m.heap.size,0,Á⟩) 3 3) [gf a.toNat,gf c,gf b] (m.alloc<|Û #[Ä<|gf a.toNat,Ä<|gf c,Ä<|gf b] 9):=⟨World.ownsRow_lit m #[Ä<|gf a.toNat,Ä<|gf c,Ä<|gf b] 3 (Ì O.M ((p.ff s).ff F).M) (by unfold đ;omega) U,O.ff G⟩;have L6:=ia X G λ_ _=>id;have P6:=E.r G;have I:=fe<|Ê T6<|Ê L6 P6;generalize m.alloc (Û #[Ä<|gf a.toNat,Ä<|gf c,Ä<|gf b] 9)=w6 at*;generalize m.heap.size=tb at*;have jr:∀z∈[gf a.toNat,gf c,gf b]++f.map rW,z.size<=21:=λz hz=>by
  rcases â.1 hz with q|q
  .have h1:=pw a.toNat N;have h2:=pw c M;have v:=pw b L;grind
  .obtain⟨e,v,rfl⟩:=Ú.1 q;exact Nu (H.out.2.2 e v).2
 have sJ:=F0 _ jr;have hlen:([gf a.toNat,gf c,gf b]++f.map rW).length=3+f.length:=by simp;omega
 have J:=fe<|Ê sJ hlen;go_wp2_with (first
  |(go_at_call 124;refine(aal U S H.out.2.2 I.out.2.2<|ny.r I.out.2.1).mono ?_;rintro e v ⟨lt,rfl,q⟩;obtain⟨ta,tc,rfl⟩:=jh q.fp;rw[ú]at q;have Q:=fe q;clear q)
  |(at_builtin;refine aoP U _ _ U (I.out.1.fK Q.out.r) U Q.out.fp U (by simp;omega) ?_;intro cv w8 v;obtain⟨ca,cc,rfl⟩:=jh v.fp;generalize([gf a.toNat,gf c,gf b]++f.map rW).length=cn at v|-;have q:=fe v;clear v)
  |(go_at_call 38;refine(TO q.out.I.2.1 (by have:=q.out.I.2.1;rw[this,J.out.2];omega) q.out.I.2.2 U q.out.I.1 (by have:=q.out.I.2.1;have h1:=J.out.1;have h2:=J.out.2;omega)).mono ?_;rintro e w9 ⟨rfl,v⟩;have Q:=fe v;clear v))
 go_ret;exact⟨U,q.out.r.ff Q.out⟩
def aoR{s:St}(v:mh i s h w)(b:gF s)(z:iJ w)(B:lL w)(x y:Nat)(g k:Int)(c:x<8)(d:y<8)(f:0<=g)(j:g<=100000)(l:fY k): Ò À 119 #[Ã<|Â ⟨i,0,Á⟩,Å É x,Å É y,Å ã g,Å ã k] w λe q=>e=Ç (Ä<|TP<|gk s [] x y g k)/\e9 (λ_=>False) w q:=by have T:=aai v b z x y g k c d f j l _ U;have e:=Jb s [] x y g k b c d l f j (by simp;omega);have m:=Tv s [] x y g k b c d l f j (by simp;omega) (λ_ q=>by cases q);obtain⟨q,o,a,t,p,C⟩:∃q o a t p,gk s [] x y g k=⟨q,o,a,t,p⟩:=⟨_,_,_,_,_,U⟩;rw[C]at T e m|-;have D:=e.C;have E:=e.r;have r:=e.M;have u:=e.I;simp only at D E r u m T;obtain⟨F,rfl⟩:∃n:Nat,q=n:=⟨q.toNat,Z⟩;obtain⟨G,rfl⟩:∃n:Nat,a=n:=⟨a.toNat,by have:=r.1;omega⟩;exact aoQ x y g k F G o p Z (by have:=r.2;omega) (by simp at u;omega) m B T
def qt(w:Í):Prop:=w.cell? ⟨4,15,Á⟩=Â (Å ū 4)
def qt.r(h:qt w)(k:e9 (λ_=>False) w u):qt u:=k.r h id
def aoS(c:qt w):Ò À 207 #[Å ã 16] w λe a=>e=Ç (Å É 4)/\a=w:=by
 unfold qt at c;have b:ã.wrap (bits BinOp.and ã 16 (ã.wrap<|-16)*285870213051353865)/288230376151711744=15:=A
 go_enter Tryz.func207,Tryz.ntmps207;go_wp2;go_ret;exact⟨U,U⟩
def tz(c:qt w):Ò À 201 #[Å ã 16] w λe a=>e=Ç (Å É 4)/\a=w:=by go_enter Tryz.func201,Tryz.ntmps201;go_wp2_with (go_at_call 207;refine(aoS c).mono ?_;rintro e a ⟨rfl,b⟩;subst a);go_ret;exact⟨U,U⟩
def aoT:Ò À 200 #[Å É 16] w λe a=>e=Ç (õ Î)/\a=w:=by
 have b:bits BinOp.and É 16 15=0:=A
 go_enter Tryz.func200,Tryz.ntmps200;go_wp2;go_ret;simp_all
def py(d:Nat):UInt8:=if h:d<36 then(⟨#[48,49,50,51,52,53,54,55,56,57,97,98,99,100,101,102,103,104,105,106,107,108,109,110,111,112,113,114,115,116,117,118,119,120,121,122]⟩:ByteArray)[d]'h else 0
def uL:Nat->Nat->List UInt8->List UInt8
 |0,_,acc=>acc
 |k+1,n,acc=>if n<16 then py n::acc else uL k (n/16) (py (n%16)::acc)
def aaA:∀k n a,(uL k n a).length<=k+a.length
 |0,_,a=>by simp[uL]
 |k+1,n,a=>by
  unfold uL;split
  .simp;omega
  .have:=aaA k (n/16)<|py (n%16)::a;simp at this;omega
noncomputable def Nv:Τ:=(Tryz.f190.body.bind km).getD ar
def F1(a:Nat)(n i:Int)(u:Nat->Ñ):Ĉ:=⟨#[u 0,Å ã n,Å É 16,õ Ë,õ Ë,u 5,u 6,u 7,u 8,u 9,Æ Á 0 0,u 11,Ã<|Â ⟨a,0,Á⟩,Å É i,Å ã 4,Å ã 16,Å ã 15,u 17,u 18,u 19,u 20,u 21,u 22,u 23,u 24,u 25,u 26,u 27,u 28,u 29,u 30,u 31,u 32,u 33,u 34,u 35,u 36,u 37,u 38,u 39,u 40,u 41,u 42,u 43,u 44,u 45,u 46,u 47,u 48,u 49,u 50,u 51,u 52,u 53,u 54,u 55,u 56,u 57,u 58,u 59,u 60,u 61,u 62,u 63,u 64,u 65,u 66,u 67,u 68,u 69,u 70,u 71,u 72,u 73,u 74,u 75,u 76,u 77,u 78,u 79,u 80,u 81,u 82,u 83,u 84,u 85,u 86,u 87,u 88,u 89,u 90,u 91,u 92,u 93,u 94,u 95,u 96,u 97,u 98,u 99,u 100,u 101],[]⟩
def F2(b:Nat)(n i:Int)(a:Ĉ):Prop:=∃u,a=F1 b n i u
def zc(i:Nat)(a:List UInt8):List Ñ:=ą i (Å ū 0)++Ø a
def aaB(i:Nat)(a:List UInt8):(zc i a).length=i+a.length:=by simp[zc,Ø]
def aaC(i:Nat)(a:List UInt8)(c:UInt8):(zc (i+1) a).set i (Å ū c.toNat)=zc i (c::a):=by unfold zc;rw[List.replicate_succ',ő,Ĵ _ _ fj];simp[Ø]
section
variable{X:Ĉ->Í->Prop}
def aoU(u:Nat->Ñ)(n b:Nat)(d:n<16)(c:∀a,F2 i n b a->X a w): á À Nv (Exit.then K<|QE 0 X) (F1 i n b u) w:=by
 unfold F1;conv=>arg 2;whnf
 go_wp2_with fail
 exact⟨U,c _ (gi _)⟩
def aoV(u:Nat->Ñ)(n b:Nat)(g:16<=n)(h:n<18446744073709551616)(j:b<65)(v:Ñ)(c:w.cell? ⟨i,b,Á⟩=Â v)(k:w.frozen? ⟨i,b,Á⟩=Ë) (e:∀a,F2 i ((n/16:Nat):Int) b a->K a (w.setCell ⟨i,b,Á⟩<|Å ū (py<|n%16).toNat)): á À Nv (Exit.then K<|QE 0 X) (F1 i n ((b+1:Nat):Int) u) w:=by
 unfold F1;conv=>arg 2;whnf
 have l:bits BinOp.and ã (n:Int) 15=((n%16:Nat):Int):=by have:=(bits_nat ã 64 A (λn f H=>by rw[Ć];omega) n 15 Z A).1;rwa[show(15:Nat)=2^4-1 from rfl,Nat.and_two_pow_sub_one_eq_mod]at this
 have f:n%16<36:=Z
 have m:(⟨#[48,49,50,51,52,53,54,55,56,57,97,98,99,100,101,102,103,104,105,106,107,108,109,110,111,112,113,114,115,116,117,118,119,120,121,122]⟩:ByteArray)[n%16]'f=py (n%16):=by unfold py;rw[dif_pos f]
 have H:=fe e;clear e;generalize o:n%16=d at*;go_wp2_with fail;exact H.out _ (gi _)
def XI(i:Nat)(u:Í)(d:List UInt8)(a:Ĉ)(w:Í):Prop:=
 ∃(n b:Nat) (c:List UInt8),F2 i n b a/\50<=b/\b+c.length=65/\n<16^(b-49)/\n<18446744073709551616/\e9 (λk=>k=i) u w/\fg i (zc b c) 292 w/\uL (b-49) n c=d
def XE(i:Nat)(u:Í)(d:List UInt8)(a:Ĉ)(w:Í):Prop:=
 ∃(n b:Nat) (c:List UInt8),F2 i n b a/\n<16/\50<=b/\b+c.length=65/\e9 (λk=>k=i) u w/\fg i (zc b c) 292 w/\py n::c=d
def Nw(a:Ĉ)(_:Í):Nat:=match a.tmps.getD 1 ĸ with
 |Å _ i=>i.toNat
 |_=>0
def aaD(b:F2 i n j y):Nw y w=n:=by obtain⟨u,rfl⟩:=b;show(n:Int).toNat=_;simp
theorem aoW{h:List UInt8}(a:Ĉ)(w:Í)(o:XI i u h a w): á À Nv (Exit.then (λb c=>XI i u h b c/\Nw b c<Nw a w)<|QE 0<|XE i u h) a w:=by
 let⟨n,b,f,l,p,r,s,t,m,e,d⟩:=o;rw[aaD l];obtain⟨c,rfl⟩:=l;obtain⟨j,rfl⟩:∃j,b=j+1:=⟨b-1,Z⟩;have x:j+1-49=(j-49)+1:=Z
 rw[x]at d s;unfold uL at d;by_cases g:n<16
 .rw[if_pos g]at d;exact aoU c n (j+1) g λa q=>⟨n,j+1,f,q,g,p,r,m,e,d⟩
 .rw[if_neg g]at d;have y:50<=j:=by
   grind
  have C:(zc (j+1) f).length=65:=by rw[aaB];omega
  obtain⟨v,z⟩:∃v,(zc (j+1) f)[j]?=Â v:=⟨_,Ó Z⟩;have B:n/16<16^(j-49):=by grind
  refine aoV c n j Z t Z v (e.r j v z) (e.C j) λa q=>⟨⟨n/16,j,py (n%16)::f,q,y,by simp;omega,B,Z,m.ff (e9.I (X:=λk=>k=i) U _<|Ï e.G),?_,d⟩,by rw[aaD q];omega⟩;have:=e.fW j<|Å ū (py<|n%16).toNat;rwa[aaC]at this
end
def aoX:ü=(zc 65 []).toArray:=ft
def nz(n:Nat):ByteArray:=⟨(uL 16 n []).toArray⟩
theorem aoY(n:Nat)(l:n<18446744073709551616)(o:qt w):Ò À 190 #[Æ Á 0 0,Å ã n,Å É 16,õ Ë,õ Ë] w λe p=>e=Ç (ë #[Æ Á 0 0,Ä<|nz n])/\e9 (λ_=>False) w p:=by
 have L:∀a,F2 w.heap.size n (65:Nat) a->á À (ń Nv) (QE 0<|XE w.heap.size (w.alloc<|Û ü 292)<|uL 16 n []) a (w.alloc<|Û ü 292):=λa r=>
  Γ (XI w.heap.size (w.alloc<|Û ü 292)<|uL 16 n []) Nw ⟨n,65,[],r,Z,U,by show n<16^16;omega,l,e9.fT _ _,by rw[aoX];exact fg.N w (zc 65 []) 292,U⟩ aoW
 have H:=fe<|Ê o L;unfold nz;generalize uL 16 n []=res at*;go_enter Tryz.func190,Tryz.ntmps190;go_wp2_with (first
  |(go_at_call 200;refine aoT.mono ?_;rintro e b ⟨rfl,c⟩;subst b)
  |(go_at_call 201;refine(tz (H.out.1.r kp)).mono ?_;rintro e b ⟨rfl,c⟩;subst b))
 refine İ (Q:=QE 0<|XE w.heap.size (w.alloc<|Û ü 292) res) ?_ (H.out.2 _ (gi _));rintro(_|_|_|_|_|_) a v hq;all_goals first|exact absurd hq id|skip
 obtain⟨rfl,m,i,c,s,E,F,G,x,b,d⟩:=hq;obtain⟨u,rfl⟩:=s;unfold F1;obtain⟨j,rfl⟩:∃j,i=j+1:=⟨i-1,Z⟩;have I:(zc (j+1) c).length=65:=by rw[aaB];omega
 obtain⟨z,y⟩:∃z,(zc (j+1) c)[j]?=Â z:=⟨_,Ó Z⟩;have J:=b.r j z y;have K:=b.C j;have M:(0:Int)<=(j:Int):=Z
 have N:(j:Int)<65:=Z
 have O:(j:Int)<=65:=Z
 have S:(0:Int)<=(m:Int):=Z
 have T:(m:Int)<36:=Z
 have f:m<36:=Z
 have V:(⟨#[48,49,50,51,52,53,54,55,56,57,97,98,99,100,101,102,103,104,105,106,107,108,109,110,111,112,113,114,115,116,117,118,119,120,121,122]⟩:ByteArray)[m]'f=py m:=by unfold py;rw[dif_pos f]
 have B:=(e9.gG (λ_=>False) w ü 292).C x λi C q=>by omega
 have g:=b.fW j<|Å ū (py m).toNat;rw[aaC,d]at g;have D:e9 (λ_=>False) w (v.setCell ⟨w.heap.size,j,Á⟩<|Å ū (py m).toNat):=B.C (e9.I (X:=λk=>k=w.heap.size) U _<|Ï b.G) λi C q=>by omega
 have W:res.length=65-j:=by rw[<-d];simp;omega
 have Y:(convert 107 9<|Æ (Â ⟨w.heap.size,j,Á⟩) (65-j)<|65-j).run À (v.setCell ⟨w.heap.size,j,Á⟩<|Å ū (py m).toNat)=.ok (Ä ⟨res.toArray⟩) (v.setCell ⟨w.heap.size,j,Á⟩<|Å ū (py m).toNat):=by have h:=run_convert_bytes_back (P:=À) (v.setCell ⟨w.heap.size,j,Á⟩<|Å ū (py m).toNat) 107 9 5 ⟨w.heap.size,j,Á⟩ (65-j) res ft ft ft (λt k=>by rw[Addr.add_mid];apply g.r (j+t) _;unfold zc;rw[ġ fj];simp[Ø,Ó k]);grind
 have k:=fe D;go_wp2;go_ret2;simp_all
def aoZ(n:Nat)(b:n<18446744073709551616)(c:qt w):Ò À 172 #[Å ã n,Å É 16] w λe a=>e=Ç (Ä<|nz n)/\e9 (λ_=>False) w a:=by go_enter Tryz.func172,Tryz.ntmps172;go_wp2_with (go_at_call 190;refine(aoY n b c).mono ?_;rintro e a ⟨rfl,d⟩);go_ret;exact⟨U,d⟩
def ao0(n:Nat)(b:n<18446744073709551616)(c:qt w):Ò À 157 #[Å ã n,Å É 16] w λe a=>e=Ç (Ä<|nz n)/\e9 (λ_=>False) w a:=by go_enter Tryz.func157,Tryz.ntmps157;go_wp2_with (go_at_call 172;refine(aoZ n b c).mono ?_;rintro e a ⟨rfl,d⟩);go_ret;exact⟨U,d⟩
def ao1(s:ByteArray)(w:Í)(h:s.data.toList.head?=Â 48):Ò À 175 #[Ä s,Ä ⟨#[48]⟩] w λe b=>e=Ç (õ Î)/\b=w:=by
 have H:=Tryz.strings_HasPrefix s ⟨#[48]⟩ w;have e:ź s.data.toList (Ű ⟨#[48]⟩).toList=Î:=by
  generalize s.data.toList=l at h;cases l with
  |nil=>cases h
  |cons a r=>cases h;rfl
 rwa[e]at H
def ao2(s:ByteArray)(w:Í)(h:¬s.data.toList.head?=Â 48):Ò À 175 #[Ä s,Ä ⟨#[48]⟩] w λe b=>e=Ç (õ Ë)/\b=w:=by
 have H:=Tryz.strings_HasPrefix s ⟨#[48]⟩ w;have e:ź s.data.toList (Ű ⟨#[48]⟩).toList=Ë:=by
  generalize s.data.toList=l at h;cases l with
  |nil=>rfl
  |cons a r=>
   have c:¬a=48:=λq=>h (by rw[q];rfl);show((48:UInt8)==a&&List.isPrefixOf [] r)=Ë;have:((48:UInt8)==a)=Ë:=beq_eq_false_iff_ne.2 λq=>c q.symm;rw[this];rfl
 rwa[e]at H
def zF(k:Nat):ByteArray:=φ ⟨#[48,48,48,48,48,48,48,48,48,48,48,48,48,48,48,48,48,48,48,48,48,48,48,48,48,48,48,48,48,48,48,48,48,48,48,48,48,48,48,48,48,48,48,48,48,48,48,48,48,48,48,48,48,48,48,48,48,48,48,48,48,48,48,48]⟩ 0 k
def ao3(k:Nat)(d:2<=k)(f:k<=64):Ò À 160 #[Ä ⟨#[48]⟩,Å É k] w λe a=>e=Ç (Ä<|zF k)/\a=w:=by
 have g:((k:Int)==0)=Ë:=by simp;omega
 have h:((k:Int)==1)=Ë:=by simp;omega
 have i:¬(k:Int)<0:=Z
 have j:(0:Int)<=(k:Int):=Z
 have l:(k:Int)<=64:=Z
 have m:ã.wrap (k:Int)=(k:Int):=by rw[Ć];omega
 have n:É.wrap (k:Int)=(k:Int):=by rw[ŝ];omega
 have M:=Tryz.bits_Mul 1 k A Z w;rw[show 1*k/18446744073709551616=0 by omega,show 1*k%18446744073709551616=k by omega]at M;have c:=fe M;go_enter Œ,Ŋ;go_wp2_with (first
  |(go_at_call 174;refine c.out.mono ?_;rintro e a ⟨rfl,b⟩;subst a)
  |(go_at_call 175;refine(ao2 _ _ A).mono ?_;rintro e a ⟨rfl,b⟩;subst a)
  |(go_at_call 175;refine(ao1 _ _ A).mono ?_;rintro e a ⟨rfl,b⟩;subst a))
 go_ret;exact⟨U,U⟩
def ao4:Ò À 160 #[Ä ⟨#[48]⟩,Å É 0] w λe a=>e=Ç (Ä ⟨#[]⟩)/\a=w:=by go_enter Œ,Ŋ;go_wp2;go_ret;exact⟨U,U⟩
def ao5:Ò À 160 #[Ä ⟨#[48]⟩,Å É 1] w λe a=>e=Ç (Ä ⟨#[48]⟩)/\a=w:=by go_enter Œ,Ŋ;go_wp2;go_ret;exact⟨U,U⟩
def ao6(k:Nat)(a:k<=64):Ò À 160 #[Ä ⟨#[48]⟩,Å É k] w λe b=>e=Ç (Ä<|zF k)/\b=w:=by
 match k with
 |0=>exact ao4
 |1=>exact ao5
 |k+2=>exact ao3 (k+2) Z a
def Nx(n:Nat):ByteArray:=zF (16-(nz n).size)++nz n
def aaE(n:Nat):(nz n).size<=16:=by show(uL 16 n []).toArray.size<=16;have:=aaA 16 n [];simpa using this
def aaF(k:Nat):(zF k).size<=k:=by unfold zF;rw[č];omega
def ao7(n:Nat)(c:n<18446744073709551616)(d:qt w):Ò À 121 #[Å ã n] w λe a=>e=Ç (Ä<|Nx n)/\e9 (λ_=>False) w a:=by
 have g:=aaE n;have h:=aaF<|16-(nz n).size;have T:=ao0 n c d;have R:∀W:Í,Ò À 160 #[Ä ⟨#[48]⟩,Å É ((16-(nz n).size:Nat):Int)] W λe a=>e=Ç (Ä<|zF<|16-(nz n).size)/\a=W:=λW=>ao6 _ Z;have i:É.wrap ((16:Int)-((nz n).size:Int))=((16-(nz n).size:Nat):Int):=by rw[ŝ];omega
 have j:(16:Int)-((nz n).size:Int)=((16-(nz n).size:Nat):Int):=Z
 have l:¬9223372036854775807<(zF<|16-(nz n).size).size+(nz n).size:=Z
 unfold Nx;have H:=fe<|Ê T R;generalize m:zF (16-(nz n).size)=zs at*;generalize o:16-(nz n).size=k at*;generalize nz n=fs at*;go_enter Tryz.func121,Tryz.ntmps121;go_wp2_with (first
  |(go_at_call 157;refine H.out.1.mono ?_;rintro e p ⟨rfl,b⟩;have f:=fe b;clear b)
  |(go_at_call 160;refine(H.out.2 _).mono ?_;rintro e b ⟨rfl,p⟩;subst b))
 go_ret;exact⟨U,f.out⟩
structure pz(r:Nat)(x y g k:Nat)(kind v v2:Int)(slot:Nat)(w:Í):Prop where
 I:w.cell? ⟨r,0,Á⟩=Â (Å É x)
 S:w.cell? ⟨r,1,Á⟩=Â (Å É y)
 a:w.cell? ⟨r,2,Á⟩=Â (Å É g)
 Y:w.cell? ⟨r,3,Á⟩=Â (Å É k)
 N:w.cell? ⟨r,4,Á⟩=Â (Å É kind)
 M:w.cell? ⟨r,5,Á⟩=Â (Å É v)
 c:w.cell? ⟨r,6,Á⟩=Â (Å É v2)
 b:w.cell? ⟨r,7,Á⟩=Â (Å É slot)
def ic.N(h:ic u v vX W)(k:e9 (λ_=>False) w u):ic w v vX W:=by
 refine⟨⟨h.fp.1,?_⟩,k.ff h.r⟩;rcases h.fp.2 with q|⟨g,a,b,c,d,q⟩
 .exact È q
 .exact Ï ⟨g,a,b,c,Ì k.M d,q⟩
section
variable{cp r x y g slot:Nat}{v v2:Int}
def pz.C{w:Í}(h:pz r x y g k c v v2 slot w)(q:e9 (λ_=>False) w u):pz r x y g k c v v2 slot u:= ⟨q.r h.I id,q.r h.S id,q.r h.a id,q.r h.Y id,q.r h.N id,q.r h.M id,q.r h.c id,q.r h.b id⟩
def ao8(F:Ò À 113 #[Æ O n cp,Å É v] w λe c=>e=Ç (jP<|Â i)/\e9 (λ_=>False) w c)(j:pz r x y g k 2 v v2 slot w)(p:x<8)(q:slot<16)(z:Nat)(l:w.cell? ⟨i,x*18+2+slot,Á⟩=Â (Å ã z)) (C:∀W,e9 (λ_=>False) w W->Ò À 118 #[Å ã z] W λe c=>e=Ç (Ä B)/\e9 (λ_=>False) W c): Ò À 67 #[Æ O n cp,Ã<|Â ⟨r,0,Á⟩] w λe c=>e=Ç (Ä B)/\e9 (λ_=>False) w c:=by
 have s:=j.M;have o:=j.N;have t:(0:Int)<=(x:Int):=Z
 have u:(x:Int)<8:=Z
 have D:(0:Int)<=(slot:Int):=Z
 have E:(slot:Int)<16:=Z
 have H:=fe<|Ê F C;have f:=fe j;clear F C j;go_enter ó,í;go_wp2_with (go_at_call 113;apply H.out.1.mono;rintro e d ⟨rfl,a⟩;dsimp only[jP,ð];have h:=a.r o id;have b:=fe a;clear a);refine mg (λc=>c.cell? ⟨r,0,Á⟩=Â (Å É x)/\c.cell? ⟨r,7,Á⟩=Â (Å É slot)/\c.cell? ⟨i,x*18+2+slot,Á⟩=Â (Å ã z)) [] ft ?_;have a:=fe (Ê ((f.out.C b.out).C<|e9.fR (λ_=>False) _).I<|Ê ((f.out.C b.out).C<|e9.fR (λ_=>False) _).b<|(b.out.ff<|e9.fR _ _).r l id);apply tk 0 a.out;apply tk 1 a.out;apply tk 2 a.out;apply tk 3 a.out;apply tk 4 a.out;apply tk 5 a.out;apply tk 6 a.out;apply tk 7 a.out;apply tk 8 a.out;apply tk 9 a.out;apply tk 10 a.out;apply tk 11 a.out;apply tk 12 a.out;apply tk 13 a.out;apply tk 14 a.out;apply tk 15 a.out;apply tk 16 a.out;apply gD 17;intro K h;go_simp;go_at_call 118;refine(H.out.2 _<|b.out.ff<|e9.fR _ _).mono ?_;rintro e G ⟨rfl,m⟩;have d:=fe m;clear m;dsimp only;apply h.out _ _ λ_=>⟨(f.out.C<|(b.out.ff<|e9.fR _ _).ff d.out).I,(f.out.C<|(b.out.ff<|e9.fR _ _).ff d.out).b,(((b.out.ff<|e9.fR _ _).ff d.out).r l id)⟩;clear h K;apply gD 18;intro K h;go_simp;apply h.out _ _ λ_=>⟨(f.out.C<|(b.out.ff<|e9.fR _ _).ff d.out).I,(f.out.C<|(b.out.ff<|e9.fR _ _).ff d.out).b,(((b.out.ff<|e9.fR _ _).ff d.out).r l id)⟩;clear h K;try simp only[Act.put,é,þ,ÿ]
 refine lS ft ?_ _;go_wp2_with fail;go_ret;exact⟨U,(b.out.ff<|e9.fR _ _).ff d.out⟩
def ao9(F:Ò À 113 #[Æ O n cp,Å É v] w λe b=>e=Ç (jP<|Â i)/\e9 (λ_=>False) w b)(h:pz r x y g k 3 v v2 slot w)(p:x<8)(z:Nat)(j:w.cell? ⟨i,x*18,Á⟩=Â (Å ã z)) (C:∀W,e9 (λ_=>False) w W->Ò À 118 #[Å ã z] W λe b=>e=Ç (Ä B)/\e9 (λ_=>False) W b): Ò À 67 #[Æ O n cp,Ã<|Â ⟨r,0,Á⟩] w λe b=>e=Ç (Ä B)/\e9 (λ_=>False) w b:=by
 have q:=h.M;have o:=h.N;have s:(0:Int)<=(x:Int):=Z
 have t:(x:Int)<8:=Z
 have H:=fe<|Ê F C;have l:=fe h;clear F C h;go_enter ó,í;go_wp2_with (go_at_call 113;apply H.out.1.mono;rintro e d ⟨rfl,a⟩;dsimp only[jP,ð];have f:=a.r o id;have c:=fe a;clear a);refine mg (λb=>b.cell? ⟨r,0,Á⟩=Â (Å É x)/\b.cell? ⟨i,x*18,Á⟩=Â (Å ã z)) [] ft ?_;have a:=fe (Ê ((l.out.C c.out).C<|e9.fR (λ_=>False) _).I<|(c.out.ff<|e9.fR _ _).r j id);apply tk 0 a.out;apply tk 1 a.out;apply tk 2 a.out;apply tk 3 a.out;apply tk 4 a.out;apply tk 5 a.out;apply tk 6 a.out;apply tk 7 a.out;apply tk 8 a.out;apply tk 9 a.out;apply tk 10 a.out;apply tk 11 a.out;apply gD 12;intro K d;go_simp;go_at_call 118;refine(H.out.2 _<|c.out.ff<|e9.fR _ _).mono ?_;rintro e u ⟨rfl,m⟩;have f:=fe m;clear m;dsimp only;apply d.out _ _ λ_=>⟨(l.out.C<|(c.out.ff<|e9.fR _ _).ff f.out).I,(((c.out.ff<|e9.fR _ _).ff f.out).r j id)⟩;clear d K;apply gD 13;intro K d;go_simp;apply d.out _ _ λ_=>⟨(l.out.C<|(c.out.ff<|e9.fR _ _).ff f.out).I,(((c.out.ff<|e9.fR _ _).ff f.out).r j id)⟩;clear d K;try simp only[Act.put,é,þ,ÿ]
 refine lS ft ?_ _;go_wp2_with fail;go_ret;exact⟨U,(c.out.ff<|e9.fR _ _).ff f.out⟩
def apa(F:Ò À 113 #[Æ O n cp,Å É v] w λe d=>e=Ç (jP<|Â i)/\e9 (λ_=>False) w d)(j:pz r x y g k 4 v v2 slot w)(o:g<=400)(p:k<18446744073709551616) (C:∀W,e9 (λ_=>False) w W->Ò À 119 #[Ã<|Â ⟨i,0,Á⟩,Å É x,Å É y,Å ã g,Å ã k] W λe d=>e=Ç (Ä B)/\e9 (λ_=>False) W d): Ò À 67 #[Æ O n cp,Ã<|Â ⟨r,0,Á⟩] w λe d=>e=Ç (Ä B)/\e9 (λ_=>False) w d:=by
 have q:=j.M;have m:=j.N;have s:ã.wrap (k:Int)=(k:Int):=by rw[Ć];omega
 have t:ã.wrap (g:Int)=(g:Int):=by rw[Ć];omega
 have u:¬(400:Int)<(g:Int):=Z
 have z:(g:Int)<=400:=Z
 have H:=fe<|Ê F C;have c:=fe j;clear F C j;go_enter ó,í;go_wp2_with (go_at_call 113;apply H.out.1.mono;rintro e f ⟨rfl,a⟩;dsimp only[jP,ð];have h:=a.r m id;have l:=a.r c.out.a id;have b:=fe a;clear a);refine mg (λd=>d.cell? ⟨r,0,Á⟩=Â (Å É x)/\d.cell? ⟨r,1,Á⟩=Â (Å É y)/\d.cell? ⟨r,2,Á⟩=Â (Å É g)/\d.cell? ⟨r,3,Á⟩=Â (Å É k)) [] ft ?_;have a:=fe (Ê ((c.out.C b.out).C<|e9.fR (λ_=>False) _).I<|Ê ((c.out.C b.out).C<|e9.fR (λ_=>False) _).S<|Ê ((c.out.C b.out).C<|e9.fR (λ_=>False) _).a ((c.out.C b.out).C<|e9.fR (λ_=>False) _).Y);apply tk 0 a.out;apply tk 1 a.out;apply tk 2 a.out;apply tk 3 a.out;apply tk 4 a.out;apply tk 5 a.out;apply tk 6 a.out;apply tk 7 a.out;apply tk 8 a.out;apply tk 9 a.out;apply tk 10 a.out;apply tk 11 a.out;apply tk 12 a.out;apply tk 13 a.out;apply tk 14 a.out;apply tk 15 a.out;apply tk 16 a.out;apply tk 17 a.out;apply tk 18 a.out;apply tk 19 a.out;apply tk 20 a.out;apply tk 21 a.out;apply tk 22 a.out;apply gD 23;intro K h;go_simp;go_at_call 119;refine(H.out.2 _<|b.out.ff<|e9.fR _ _).mono ?_;rintro e D ⟨rfl,l⟩;have f:=fe l;clear l;dsimp only;apply h.out _ _ λ_=>⟨(c.out.C<|(b.out.ff<|e9.fR _ _).ff f.out).I,(c.out.C<|(b.out.ff<|e9.fR _ _).ff f.out).S,(c.out.C<|(b.out.ff<|e9.fR _ _).ff f.out).a,(c.out.C<|(b.out.ff<|e9.fR _ _).ff f.out).Y⟩;clear h K;apply gD 24;intro K h;go_simp;apply h.out _ _ λ_=>⟨(c.out.C<|(b.out.ff<|e9.fR _ _).ff f.out).I,(c.out.C<|(b.out.ff<|e9.fR _ _).ff f.out).S,(c.out.C<|(b.out.ff<|e9.fR _ _).ff f.out).a,(c.out.C<|(b.out.ff<|e9.fR _ _).ff f.out).Y⟩;clear h K;try simp only[Act.put,é,þ,ÿ]
 refine lS ft ?_ _;go_wp2_with fail;go_ret;exact⟨U,(b.out.ff<|e9.fR _ _).ff f.out⟩
def apb(F:Ò À 113 #[Æ O n cp,Å É v] w λe c=>e=Ç (jP<|Â i)/\e9 (λ_=>False) w c)(j:pz r x y g k 5 v v2 slot w)(o:k<18446744073709551616) (C:∀W,e9 (λ_=>False) w W->Ò À 120 #[Ã<|Â ⟨i,0,Á⟩,Å É x,Å É y,Å ã k] W λe c=>e=Ç (Ä B)/\e9 (λ_=>False) W c): Ò À 67 #[Æ O n cp,Ã<|Â ⟨r,0,Á⟩] w λe c=>e=Ç (Ä B)/\e9 (λ_=>False) w c:=by
 have p:=j.M;have m:=j.N;have q:ã.wrap (k:Int)=(k:Int):=by rw[Ć];omega
 have H:=fe<|Ê F C;have d:=fe j;clear F C j;go_enter ó,í;go_wp2_with (go_at_call 113;apply H.out.1.mono;rintro e f ⟨rfl,a⟩;dsimp only[jP,ð];have h:=a.r m id;have b:=fe a;clear a);refine mg (λc=>c.cell? ⟨r,0,Á⟩=Â (Å É x)/\c.cell? ⟨r,1,Á⟩=Â (Å É y)/\c.cell? ⟨r,3,Á⟩=Â (Å É k)) [] ft ?_;have a:=fe (Ê ((d.out.C b.out).C<|e9.fR (λ_=>False) _).I<|Ê ((d.out.C b.out).C<|e9.fR (λ_=>False) _).S ((d.out.C b.out).C<|e9.fR (λ_=>False) _).Y);apply tk 0 a.out;apply tk 1 a.out;apply tk 2 a.out;apply tk 3 a.out;apply tk 4 a.out;apply tk 5 a.out;apply tk 6 a.out;apply tk 7 a.out;apply tk 8 a.out;apply tk 9 a.out;apply tk 10 a.out;apply tk 11 a.out;apply tk 12 a.out;apply tk 13 a.out;apply tk 14 a.out;apply tk 15 a.out;apply tk 16 a.out;apply gD 17;intro K h;go_simp;go_at_call 120;refine(H.out.2 _<|b.out.ff<|e9.fR _ _).mono ?_;rintro e s ⟨rfl,l⟩;have f:=fe l;clear l;dsimp only;apply h.out _ _ λ_=>⟨(d.out.C<|(b.out.ff<|e9.fR _ _).ff f.out).I,(d.out.C<|(b.out.ff<|e9.fR _ _).ff f.out).S,(d.out.C<|(b.out.ff<|e9.fR _ _).ff f.out).Y⟩;clear h K;apply gD 18;intro K h;go_simp;apply h.out _ _ λ_=>⟨(d.out.C<|(b.out.ff<|e9.fR _ _).ff f.out).I,(d.out.C<|(b.out.ff<|e9.fR _ _).ff f.out).S,(d.out.C<|(b.out.ff<|e9.fR _ _).ff f.out).Y⟩;clear h K;try simp only[Act.put,é,þ,ÿ]
 refine lS ft ?_ _;go_wp2_with fail;go_ret;exact⟨U,(b.out.ff<|e9.fR _ _).ff f.out⟩
def apc(F:Ò À 113 #[Æ O n cp,Å É v] w λe a=>e=Ç (jP<|Â i)/\e9 (λ_=>False) w a)(b:pz r x y g k 6 v v2 slot w)(z:Nat)(C:∀W,e9 (λ_=>False) w W->Ò À 122 #[Ã<|Â ⟨i,0,Á⟩] W λe a=>e=Ç (Å ã z)/\e9 (λ_=>False) W a)(d:∀W,e9 (λ_=>False) w W->Ò À 121 #[Å ã z] W λe a=>e=Ç (Ä B)/\e9 (λ_=>False) W a): Ò À 67 #[Æ O n cp,Ã<|Â ⟨r,0,Á⟩] w λe a=>e=Ç (Ä B)/\e9 (λ_=>False) w a:=by
 have m:=b.M;have j:=b.N;have l:=fe d;clear d;have H:=fe<|Ê F C;have o:=fe b;clear F C b;go_enter ó,í;go_wp2_with (first
  |(go_at_call 113;refine H.out.1.mono ?_;rintro e h ⟨rfl,c⟩;dsimp only[jP,ð];have p:=c.r j id;have f:=fe c;clear c)
  |(go_at_call 122;refine(H.out.2 _ f.out).mono ?_;rintro e p ⟨rfl,c⟩;have h:=fe<|f.out.ff c;clear c)
  |(go_at_call 121;refine(l.out _ h.out).mono ?_;rintro e p ⟨rfl,c⟩;have f:=fe (h.out.ff c);clear c))
 go_ret;exact⟨U,f.out⟩
def apd(F:Ò À 113 #[Æ O n cp,Å É v] w λe b=>e=Ç (jP<|Â i)/\e9 (λ_=>False) w b)(d:pz r x y g k 7 v v2 slot w)(l:Option ù)(o p:Nat)(u:w.cell? ⟨i,144,Á⟩=Â (Æ l o p))(f:List ByteArray)(C:∀W,e9 (λ_=>False) w W->Ò À 124 #[Æ l o p] W λe b=>∃j,e=Ç j/\ic W j f b)(q:∀W a m c,ic w (Æ a m c) f W->Ò À 123 #[Æ a m c] W λe b=>e=Ç (Ä B)/\e9 (λ_=>False) W b): Ò À 67 #[Æ O n cp,Ã<|Â ⟨r,0,Á⟩] w λe b=>e=Ç (Ä B)/\e9 (λ_=>False) w b:=by
 have J:=d.M;have z:=d.N;have D:=fe q;clear q;have H:=fe<|Ê F C;have K:=fe d;clear F C d;go_enter ó,í;go_wp2_with (first
  |(go_at_call 113;refine H.out.1.mono ?_;rintro e t ⟨rfl,h⟩;dsimp only[jP,ð];have E:=h.r z id;have G:=h.r u id;have s:=fe h;clear h)
  |(go_at_call 124;refine(H.out.2 _ s.out).mono ?_;rintro e E ⟨j,rfl,h⟩;obtain⟨G,I,rfl⟩:=jh h.fp;generalize f.length=tn at h|-;have t:=fe (show ic w (Æ G tn I) f E from h.N s.out);clear h)
  |(go_at_call 123;refine(D.out _ _ _ _ t.out).mono ?_;rintro e E ⟨rfl,h⟩;have s:=fe (t.out.r.ff h);clear h))
 go_ret;exact⟨U,s.out⟩
def ape(F:Ò À 113 #[Æ O n cp,Å É v] w λe b=>e=Ç (jP<|Â i)/\e9 (λ_=>False) w b)(d:pz r x y g k 8 v v2 slot w)(l:Option ù)(o p:Nat)(u:w.cell? ⟨i,146,Á⟩=Â (Æ l o p))(f:List ByteArray)(C:∀W,e9 (λ_=>False) w W->Ò À 125 #[Æ l o p] W λe b=>∃j,e=Ç j/\ic W j f b)(q:∀W a m c,ic w (Æ a m c) f W->Ò À 123 #[Æ a m c] W λe b=>e=Ç (Ä B)/\e9 (λ_=>False) W b): Ò À 67 #[Æ O n cp,Ã<|Â ⟨r,0,Á⟩] w λe b=>e=Ç (Ä B)/\e9 (λ_=>False) w b:=by
 have J:=d.M;have z:=d.N;have D:=fe q;clear q;have H:=fe<|Ê F C;have K:=fe d;clear F C d;go_enter ó,í;go_wp2_with (first
  |(go_at_call 113;refine H.out.1.mono ?_;rintro e t ⟨rfl,h⟩;dsimp only[jP,ð];have E:=h.r z id;have G:=h.r u id;have s:=fe h;clear h)
  |(go_at_call 125;refine(H.out.2 _ s.out).mono ?_;rintro e E ⟨j,rfl,h⟩;obtain⟨G,I,rfl⟩:=jh h.fp;generalize f.length=tn at h|-;have t:=fe (show ic w (Æ G tn I) f E from h.N s.out);clear h)
  |(go_at_call 123;refine(D.out _ _ _ _ t.out).mono ?_;rintro e E ⟨rfl,h⟩;have s:=fe (t.out.r.ff h);clear h))
 go_ret;exact⟨U,s.out⟩
def apf(F:Ò À 113 #[Æ O n cp,Å É v] w λe c=>e=Ç (jP<|Â i)/\e9 (λ_=>False) w c)(a:pz r x y g k 4 v v2 slot w)(j:400<g)(C:B=nL 6): Ò À 67 #[Æ O n cp,Ã<|Â ⟨r,0,Á⟩] w λe c=>e=Ç (Ä B)/\e9 (λ_=>False) w c:=by
 have l:=a.M;have d:=a.N;have m:(400:Int)<(g:Int):=Z
 have H:=fe<|Ê F C;have f:=fe a;clear F C a;go_enter ó,í;go_wp2_with (first
  |(go_at_call 113;refine H.out.1.mono ?_;rintro e o ⟨rfl,b⟩;dsimp only[jP,ð];have p:=b.r d id;have q:=b.r f.out.a id;have h:=fe b;clear b)
  |(go_at_call 114;refine(FD 6 A _).mono ?_;rintro e b ⟨rfl,o⟩;subst b))
 go_ret;exact⟨by rw[H.out.2];rfl,h.out⟩
def apg(F:Ò À 113 #[Æ O n cp,Å É v] w λe a=>e=Ç (jP<|Â i)/\e9 (λ_=>False) w a)(b:pz r x y g k 9 v v2 slot w)(C:B=nL 3)(d:∀W,e9 (λ_=>False) w W->Ò À 113 #[Æ O n cp,Å É v2] W λe a=>e=Ç (jP Á)/\e9 (λ_=>False) W a): Ò À 67 #[Æ O n cp,Ã<|Â ⟨r,0,Á⟩] w λe a=>e=Ç (Ä B)/\e9 (λ_=>False) w a:=by
 have p:=b.M;have j:=b.N;have l:=fe d;clear d;have H:=fe<|Ê F C;have m:=fe b;clear F C b;go_enter ó,í;go_wp2_with (first
  |(go_at_call 113;with_reducible refine H.out.1.mono ?_;rintro e h ⟨rfl,c⟩;dsimp only[jP,ð];have o:=c.r j id;have q:=c.r m.out.c id;have f:=fe c;clear c)
  |(go_at_call 113;refine(l.out _ f.out).mono ?_;rintro e c ⟨rfl,h⟩;dsimp only[jP,ð];have o:=fe<|f.out.ff h;clear h)
  |(go_at_call 114;refine(FD 3 A _).mono ?_;rintro e c ⟨rfl,h⟩;subst c))
 go_ret;exact⟨by rw[H.out.2];rfl,o.out⟩
def aph(F:Ò À 113 #[Æ O n cp,Å É v] w λe b=>e=Ç (jP<|Â i)/\e9 (λ_=>False) w b)(h:pz r x y g k 9 v v2 slot w)(C:True)(q:∀W,e9 (λ_=>False) w W->Ò À 113 #[Æ O n cp,Å É v2] W λe b=>e=Ç (jP<|Â j)/\e9 (λ_=>False) W b)(o:List ByteArray)(s:∀W,e9 (λ_=>False) w W->Ò À 126 #[Ã<|Â ⟨i,0,Á⟩,Ã<|Â ⟨j,0,Á⟩] W λe b=>∃p,e=Ç p/\ic W p o b)(t:∀W a m c,ic w (Æ a m c) o W->Ò À 123 #[Æ a m c] W λe b=>e=Ç (Ä B)/\e9 (λ_=>False) W b): Ò À 67 #[Æ O n cp,Ã<|Â ⟨r,0,Á⟩] w λe b=>e=Ç (Ä B)/\e9 (λ_=>False) w b:=by
 have L:=h.M;have E:=h.N;have G:=fe q;have u:=fe<|Ê s t;clear q s t;have H:=fe<|Ê F C;have I:=fe h;clear F C h;go_enter ó,í;go_wp2_with (first
  |(go_at_call 113;with_reducible refine H.out.1.mono ?_;rintro e z ⟨rfl,d⟩;dsimp only[jP,ð];have l:=d.r E id;have D:=d.r I.out.c id;have f:=fe d;clear d)
  |(go_at_call 113;refine(G.out _ f.out).mono ?_;rintro e l ⟨rfl,d⟩;dsimp only[jP,ð];have z:=fe (f.out.ff d);clear d))
 apply mg (λb=>True/\True) [] ft;have d:=fe<|Ê trivial trivial;apply tk 0 d.out;apply tk 1 d.out;apply tk 2 d.out;apply tk 3 d.out;apply tk 4 d.out;apply tk 5 d.out;apply tk 6 d.out;apply tk 7 d.out;apply gD 8;intro K f;go_simp;go_at_call 126;refine(u.out.1 _<|z.out.ff<|e9.fR _ _).mono ?_;rintro e M ⟨p,rfl,l⟩;obtain⟨N,P,rfl⟩:=jh l.fp;generalize o.length=tn at l|-;have D:=fe<|l.N<|z.out.ff<|e9.fR _ _;clear l;dsimp only;apply f.out _ _ λ_=>⟨trivial,trivial⟩;clear f K;apply gD 9;intro K f;go_simp;go_at_call 123;refine(u.out.2 _ _ _ _ D.out).mono ?_;rintro e Q ⟨rfl,z⟩;have J:=fe<|D.out.r.ff z;clear z;dsimp only;apply f.out _ _ λ_=>⟨trivial,trivial⟩;clear f K;apply gD 10;intro K f;go_simp;apply f.out _ _ λ_=>⟨trivial,trivial⟩;clear f K;try simp only[Act.put,é,þ,ÿ]
 refine lS ft ?_ _;go_wp2_with fail;go_ret;exact⟨U,J.out⟩
def apj(F:Ò À 113 #[Æ O n cp,Å É v] w λe a=>e=Ç (jP Á)/\e9 (λ_=>False) w a)(b:pz r x y g k h v v2 slot w): Ò À 67 #[Æ O n cp,Ã<|Â ⟨r,0,Á⟩] w λe a=>e=Ç (Ä<|nL 3)/\e9 (λ_=>False) w a:=by
 have f:=b.M;have H:=fe F;clear F b;go_enter ó,í;go_wp2_with (first
  |(go_at_call 113;refine H.out.mono ?_;rintro e i ⟨rfl,c⟩;dsimp only[jP,ð];have d:=fe c;clear c)
  |(go_at_call 114;refine(FD 3 A _).mono ?_;rintro e c ⟨rfl,i⟩;subst c))
 go_ret;exact⟨U,d.out⟩
end
structure Qn where
 x:Nat
 y:Nat
 g:Nat
 k:Nat
 r:Int
 v:Int
 C:Int
 I:Nat
structure Qn.Ok(q:Qn):Prop where
 x:q.x<8
 y:q.y<8
 g:q.g<1000000
 k:q.k<18446744073709551616
 auu:2<=q.r
 auv:q.r<=9
 v:-1<=q.v
 v2:-1<=q.C
 auw:q.I<16
def F3(a:List ByteArray):ByteArray:=if a=[]then⟨#[45]⟩else kF ⟨#[44]⟩ a
def Ds(a:List (Nat×fG))(p:fG)(q:Qn):ByteArray:=
 if q.r=2 then gf ((p.s q.x).C q.I).toNat
 else if q.r=3 then gf (p.s q.x).fl.toNat
 else if q.r=4 then if 400<q.g then nL 6 else TP (gk p.s [] q.x q.y q.g q.k)
 else if q.r=5 then tf p.s q.x q.y q.k 0 401
 else if q.r=6 then Nx (FN p.s)
 else if q.r=7 then F3 (p.r.map rW)
 else if q.r=8 then F3 (p.C.map FU)
 else match lr a q.C with
  |none=>nL 3
  |some b=>F3<|qY p.s b.2.s 8
def qu(a:List (Nat×fG))(q:Qn):ByteArray:=
 match lr a q.v with
 |none=>nL 3
 |some p=>Ds a p.2 q
def TQ{M:Nat}(b:∀z∈vX,z.size<=M)(d:M<=100)(f:vX.length<=400000)(h:ic w (Æ O m i) vX W): Ò À 123 #[Æ O m i] W λe g=>e=Ç (Ä<|F3 vX)/\e9 (λ_=>False) W g:=by obtain⟨e,g,j⟩:=h.I;have k:=F0 vX b;have:M*vX.length<=100*400000:=ű d f;exact aoO g Z j e Z
def apk(s:St):FN s<18446744073709551616:=by unfold FN M7;exact Tk _ _<|Y_ λi=>aac _ _ _
theorem TR{b:ByteArray}(c:B.size<=1)(d:b.size<=1):(B++b).size<=2:=by grind
def aaG(s t:St):∀z∈qY s t 8,z.size<=2:=λz a=>by
 unfold qY at a;obtain⟨i,_,h⟩:=Ş.1 a;unfold zD xI at h;rcases â.1 h with h|h
 .rcases â.1 h with h|h
  .split at h
   .cases h
   .simp at h;subst h;exact TR (xK i)<|æ _
  .split at h
   .cases h
   .simp at h;subst h;exact TR (xK i)<|æ _
 .unfold qW at h;obtain⟨j,_,h⟩:=Ş.1 h;unfold Dq at h;split at h
  .cases h
  .simp at h;subst h;exact TR (xK i)<|aaq j
section
variable{cp:Nat}{vs:List (Nat×fG)}{q:Qn}
def apl(u:qp O n vs w)(S:n<=1000)(T:0<n)(hvo:∀p∈vs,Tw p.2)(d:pz i q.x q.y q.g q.k q.r q.v q.C q.I w)(ok:q.Ok)(V:iJ w)(o:lL w)(hd:qt w): Ò À 67 #[Æ O n cp,Ã<|Â ⟨i,0,Á⟩] w λe G=>e=Ç (Ä<|qu vs q)/\e9 (λ_=>False) w G:=by
 have F:=Nb (cp:=cp) u S T q.v ok.v;unfold qu;cases B:lr vs q.v with
 |none=>
  rw[B]at F;exact apj F d
 |some p=>
  rw[B]at F;have h:=F;have X:=Jt B;have f:=u.M X;have j:=hvo p X;obtain⟨x,y,g,k,kind,v,C,Y⟩:=q;obtain⟨r,H,hg,I,uE,tW,hv,Ny,J⟩:=ok;simp only at r H hg I uE tW hv Ny J d h B|-;obtain⟨cb,_,cs⟩:=f.r.gS r;have Hq:fY (k:Int):=⟨Z,Z⟩;unfold Ds;simp only;split
  .rename_i e;subst e;have c:=cs Y J;have l:=f.C.C x Y;rw[<-ņ l.1]at c;exact ao8 h d r J _ c λW b=>xH _ (by have:=l.1;have:=l.2;omega) W<|o.r b
  .split
   .rename_i e;subst e;have l:=f.C.fl x;rw[<-ņ l.1]at cb;exact ao9 h d r _ cb λW b=>xH _ (by have:=l.1;have:=l.2;omega) W<|o.r b
   .split
    .rename_i e;subst e;split
     .rename_i hh;exact apf h d hh U
     .exact apa h d Z I λW b=>aoR (f.r.r b id) f.C (V.r b id) (o.r b) x y g k r H Z Z Hq
    .split
     .rename_i e;subst e;exact apb h d I λW b=>aoa (f.r.r b id) f.C (V.r b id) (o.r b) r H Hq
     .split
      .rename_i e;subst e;exact apc h d _ (λW b=>anr (f.r.r b id) f.C) λW b=>ao7 _ (apk _)<|hd.r b
      .split
       .rename_i e;subst e;obtain⟨K,L,M,N⟩:=f.N;exact apd h d K _ L M _ (λW b=>aal U j.I j.C (o.r b)<|ny.C N b) λW a m c t=>TQ (λz P=>by obtain⟨e,D,rfl⟩:=Ú.1 P;exact Nu (j.C e D).2) Z (by rw[ú];exact j.I) t
       .split
        .rename_i e;subst e;obtain⟨K,L,M,N⟩:=f.S;exact ape h d K _ L M _ (λW b=>aoh U j.M j.r (o.r b)<|ny.C N b) λW a m c t=>TQ (λz P=>by obtain⟨e,D,rfl⟩:=Ú.1 P;exact aay (j.r e D).1 (j.r e D).2) Z (by rw[ú];have:=j.M;omega) t
        .have e:kind=9:=Z
         subst e;have E:∀W,e9 (λ_=>False) w W->Ò À 113 #[Æ O n cp,Å É C] W λe G=>e=Ç (jP ((lr vs C).map (·.1)))/\e9 (λ_=>False) W G:=λW b=>Nb (u.I b) S T C Ny;cases Q:lr vs C with
         |none=>
          rw[Q]at E;exact apg h d U E
         |some p2=>
          rw[Q]at E;exact aph h d trivial E _ (λW b=>aou (f.r.r b id)<|(u.M<|Jt Q).r.r b id) λW a m c t=>TQ (aaG _ _) Z (by have:=TG p.2.s p2.2.s 8;omega) t
end
end Go.Proofs.Y.gO
namespace Go.Proofs.Y.kT
open Go Go.Proofs Go.RowKit Go.Proofs.Y.Lift Go.Proofs.Y.gO
def kn(a:List (Nat×fG)):List fG:=a.map (·.2)
def aaH(d:fG)(l:List fG):fG:=l.foldl (λa b=>if a.h<b.h then b else a) d
def aaI:∀(a:List (Nat×fG)) (d:Nat×fG),(s9 d a).2=aaH d.2 (kn a)
 |[],_=>rfl
 |x::r,d=>by show(s9 (oh d x) r).2=aaH (if d.2.h<x.2.h then x.2 else d.2) (kn r);rw[aaI r];unfold oh;split<;>rfl
def TS{b a:List (Nat×fG)}(h:kn b=kn a)(v:Int):(lr b v).map (·.2)=(lr a v).map (·.2):=by
 have d:∀i:Nat,(b[i]?).map (·.2)=(a[i]?).map (·.2):=λi=>by have:=congrArg (λl:List fG=>l[i]?) h;simpa[kn]using this
 unfold lr;split
 .have l:=d 0;cases f:b[0]? with
  |none=>
   rw[f]at l;cases c:a[0]? with
   |none=>rfl
   |some y=>rw[c]at l;cases l
  |some x=>
   rw[f]at l;cases c:a[0]? with
   |none=>rw[c]at l;cases l
   |some y=>
    rw[c]at l;have e:x.2=y.2:=by simpa using l
    simp only[û,aaI,h,e]
 .exact d _
def apm{a b:List (Nat×fG)}(h:kn a=kn b):a.length=b.length:=by have:=congrArg Υ h;simpa[kn]using this
def aaJ{d b:List (Nat×fG)}(h:kn d=kn b)(v:Int)(x:Nat)(f:List Tx):pv d v x f=pv b v x f:=by
 have a:=TS h v;unfold pv;cases g:lr d v with
 |none=>
  rw[g]at a;cases c:lr b v with
  |none=>rfl
  |some y=>rw[c]at a;cases a
 |some p=>
  rw[g]at a;cases c:lr b v with
  |none=>rw[c]at a;cases a
  |some y=>
   rw[c]at a;have e:p.2=y.2:=by simpa using a
   simp only[apm h,e]
theorem apn{a b:List (Nat×fG)}(h:kn a=kn b)(q:Qn):qu a q=qu b q:=by
 have c:=TS h q.v;have d:=TS h q.C;have e:∀p:fG,Ds a p q=Ds b p q:=λp=>by unfold Ds;grind
 unfold qu;grind
structure kV(s:List fG):Prop where
 I:0<s.length
 C:s.length<=40
 r:∀v∈s,Tw v/\gF v.s/\0<=v.h/\v.h<s.length
def qZ(a:List (Nat×fG))(v:Int)(x:Nat)(b:List Tx):List fG:=kn a++(pv a v x b).1.toList
def kV.M{f:List (Nat×fG)}(h:kV (kn f)){g:List Tx}(k:∀t∈g,t.Ok)(m:g.length<=1000):kV (qZ f c i g):=by
 unfold kT.qZ;have B:(kn f).length=f.length:=by simp[kn]
 unfold pv;cases n:lr f c with
 |none=>simpa using h
 |some p=>
  have o:p.2∈kn f:=Ú.2 ⟨p,Jt n,U⟩;let⟨C,l,D,E⟩:=h.r _ o;simp only;split
  .simpa using h
  .rename_i F;cases j:s8 i p.2.s g with
   |none=>simpa using h
   |some r=>
    simp only[Option.toList];have G:=h.C;have w:gF r.1:=by unfold s8 at j;obtain⟨H,y,rfl⟩:=ò.1 j;exact(Ty g k l (λ_ q=>by cases q) (λ_ q=>by cases q) (by simp;omega) (by simp;omega) y).1.r i<|xA _
    refine⟨fj,by simp;omega,λu z=> ?_⟩;rcases â.1 z with q|q
    .let⟨a,b,e,d⟩:=h.r u q;refine⟨a,b,e,?_⟩;rw[Ù];simp;omega
    .simp at q;subst q;refine⟨anY k l m j,w,by show 0<=p.2.h+1;omega,?_⟩;rw[Ù];show p.2.h+1<_;simp;omega
def iV(Y:fq)(u w:Í):Prop:=∀(i j o:Nat) (v:Ñ),Y i j->u.cell? ⟨i,o,Á⟩=Â v->∃a,w.cell? ⟨j,o,Á⟩=Â a/\fi Y v a
section
variable{Y:fq}
def apo{k:IntKind}(h:fi Y (Å k c) v):v=Å k c:=by cases h;rfl
def apq(h:fi Y (Ä B) v):v=Ä B:=by cases h;rfl
def Nz(h:fi Y (Ã<|Â a) v):∃b,v=Ã (Â b)/\gY Y a b:=by
 cases h with
 |jT q=>exact⟨_,U,q⟩
def NA(h:fi Y (Æ O n i) v):∃b,v=Æ b n i/\∀a,O=Â a->∃d,b=Â d/\gY Y a d:=by
 cases h with
 |nG=>exact⟨Á,U,λa q=>by cases q⟩
 |kQ q=>exact⟨_,U,λa e=>by cases e;exact⟨_,U,q⟩⟩
def apr(a:kj v=Î)(h:fi Y v x):x=v:=by cases h<;>first|rfl|(simp[kj]at a;done)
theorem zG(h:gY Y ⟨b,i,Á⟩ a):∃c,a=⟨c,i,Á⟩/\Y b c:=by let⟨d,e,f⟩:=h;let⟨c,g,j⟩:=a;grind
def iV.r(a:iV Y u w){k:IntKind}(h:Y i j)(e:u.cell? ⟨i,b,Á⟩=Â (Å k c)):w.cell? ⟨j,b,Á⟩=Â (Å k c):=by let⟨g,d,f⟩:=a i j b _ h e;rwa[apo f]at d
def iV.C(a:iV Y u w)(h:Y i j)(c:u.cell? ⟨i,n,Á⟩=Â (Ä B)):w.cell? ⟨j,n,Á⟩=Â (Ä B):=by let⟨e,b,d⟩:=a i j n _ h c;rwa[apq d]at b
def iV.aps(a:iV Y u w)(c:kj v=Î)(h:Y i j)(d:u.cell? ⟨i,n,Á⟩=Â v):w.cell? ⟨j,n,Á⟩=Â v:=by let⟨f,b,e⟩:=a i j n _ h d;rwa[apr c e]at b
def TT(s:gO.St):∀v∈im s,(∃n,v=Å ã n)\/∃p,v=Ä p:=λv n=>by
 unfold im at n;obtain⟨i,_,rfl⟩:=Ú.1 n;unfold qh qg;split
 .exact È ⟨_,U⟩
 .split
  .exact Ï ⟨_,U⟩
  .exact È ⟨_,U⟩
def apt(a:iV Y u w){s:gO.St}(c:Y b i)(d:mh b s h u):mh i s h w:=by
 refine⟨λj v e=> ?_,a.r c d.h⟩;have f:=d.C j v e;rcases TT s v (ç e)with⟨n,rfl⟩|⟨p,rfl⟩
 .exact a.r c f
 .exact a.C c f
def aaK(a:iV Y u w)(f:Y b i)(g:∀v∈l,kj v=Î)(h:zw ⟨b,j,Á⟩ n l u):zw ⟨i,j,Á⟩ n l w:=by let⟨p,c,k,m⟩:=h;let⟨G,q,r⟩:=a b i j _ f k;obtain⟨s,rfl,t⟩:=NA r;refine⟨s,c,q,λd x e=> ?_⟩;let⟨H,y,z,B⟩:=m d x e;let⟨I,C,D⟩:=t _ z;obtain⟨E,rfl,F⟩:=zG D;exact⟨E,y,C,a.aps (g x<|ç e) F B⟩
def apu(a:iV Y u w){v:fG}(c:Y b i)(h:rU b v u):rU i v w:= ⟨apt a c h.r,h.C,h.I,h.M,aaK a c (a_ _) h.N,aaK a c (K_ _) h.S⟩
def wj{α β:Type}{R:Nat->α->β->Prop}:∀(l:List α) (k:Nat),(∀j x,l[j]?=Â x->∃y,R (k+j) x y)->∃a:List β,a.length=l.length/\∀j y,a[j]?=Â y->∃x,l[j]?=Â x/\R (k+j) x y
 |[],_,_=>⟨[],U,λj y h=>by simp at h⟩
 |x::r,k,h=>by
  let⟨y,c⟩:=h 0 x U;obtain⟨a,d,e⟩:=wj r (k+1) λj z b=>by let⟨q,f⟩:=h (j+1) z b;exact⟨q,by rwa[show k+1+j=k+(j+1) by omega]⟩
  refine⟨y::a,by simp[d],λj z b=> ?_⟩;cases j with
  |zero=>cases b;exact⟨x,U,c⟩
  |succ j=>
   let⟨q,f,g⟩:=e j z b;exact⟨q,f,by rwa[show k+(j+1)=k+1+j by omega]⟩
theorem Jw(a:iV Y u w){e:List (Nat×fG)}(i:fi Y z jQ)(h:Nc z e u):∃c,kn c=kn e/\Nc jQ c w:=by
 obtain⟨J,n,k,rfl,l,f⟩:=h;obtain⟨g,rfl,m⟩:=NA i;let⟨c,o,K⟩:=wj (R:=λj (x y:Nat×fG)=>x.2=y.2/\∃q d,g=Â ⟨q,d,Á⟩/\w.cell? ⟨q,d+j,Á⟩=Â (Ã<|Â ⟨y.1,0,Á⟩)/\rU y.1 y.2 w) e 0 λj x p=>by let⟨b,v⟩:=x;let⟨q,d,r,s,t⟩:=f.C j b v p;let⟨L,B,C⟩:=m _ r;obtain⟨y,rfl,D⟩:=zG C;let⟨M,E,F⟩:=a q y _ _ D s;obtain⟨N,rfl,G⟩:=Nz F;obtain⟨H,rfl,I⟩:=zG G;exact⟨(H,v),U,y,d,B,by rwa[œ],apu a I t⟩
 refine⟨c,?_,g,n,k,U,l,⟨by rw[o];exact f.r,λj b v q=> ?_⟩⟩
 .refine Ŕ λj=> ?_;unfold kn;grind
 .grind
end
def lh(a:Nat->Prop)(B:Nat):fq:=⟨λi j=>i=j/\a i,B⟩
def apv(a:Nat->Prop)(B:Nat):Bi (lh a B):= ⟨λ_ _ _ h k=>h.1.symm.trans k.1,λ_ _ _ h k=>h.1.trans k.1.symm,λi j h=>by rw[h.1]⟩
def zH{V:Nat->Prop}{B:Nat}(h:∀i,X i->V i):(lh X B).r (lh V B):=⟨λ_ _ q=>⟨q.1,h _ q.2⟩,λ_=>apv V B,U⟩
def kG(B:Nat)(a:Nat->Prop)(w:Í):Prop:=∀b,a b->∃c e d,w.heap[b]?=Â (Û c e d)/\d.2<=c.size/\fQ (lh a B) c c/\0<c.size/\D3 c/\e≠304/\e≠305
section
variable{B:Nat}{V:Nat->Prop}
def kG.I(h:kG B X w)(k:kG B V w):kG B (λb=>X b\/V b) w:=by
 rintro b (q|q)
 .let⟨c,e,a,d,f,g,i⟩:=h b q;exact⟨c,e,a,d,f,g.I (zH λ_=>È),i⟩
 .let⟨c,e,a,d,f,g,i⟩:=k b q;exact⟨c,e,a,d,f,g.I (zH λ_=>Ï),i⟩
def kG.C(h:kG B X w)(k:∀b,X b->u.heap[b]?=w.heap[b]?):kG B X u:=λb q=>by let⟨c,e,a,d,f⟩:=h b q;exact⟨c,e,a,by rwa[k b q],f⟩
theorem kG.r(h:kG B X w)(a:X b)(d:w.cell? ⟨b,i,Á⟩=Â v):fi (lh X B) v v:=by let⟨c,e,j,f,_,g,_⟩:=h b a;simp only[à,f,ö,ì,if_false]at d;rcases g.S i with⟨q,_⟩|⟨x,k,l,m,n⟩;all_goals grind
def Dt(h:fi (lh X B) (Ã<|Â a) v):X a.block:=by
 cases h with
 |jT q=>exact q.1.2
def Du(h:fi (lh X B) (Æ (Â a) n i) v):X a.block:=by
 cases h with
 |kQ q=>exact q.1.2
def apw{Y:fq}(h:kj v=Î):fi Y v v:=by cases v<;>first|exact .mj _|exact .iD _ _|(simp[kj]at h;done)
def pA{Y:fq}(h:∀v∈d.toList,fi Y v v):fQ Y d d:=⟨U,λi a _=>h _<|î.2<|ă a⟩
def apx(h:kj v=Î):yd v=Ë:=by
 cases v with
 |int k n=>cases k<;>first|rfl|(simp[kj]at h;done)
 |_=>rfl
def zI(h:∀v∈d.toList,yd v=Ë):D3 d:=λk v a=>h v<|î.2<|ĵ a
def Jx(v:Ñ)(i:Nat):Prop:=v.ownBlock=Â i
def Jy(X:Nat->Prop)(g b:Nat)(a c:Ñ)(i:Nat):Prop:=X i\/i=g\/i=b\/Jx a i\/Jx c i
def aaL{G:Í}(a:mb T=Î)(h:td v T u)(o:∀j,v.ownBlock=Â j->G.heap.size<=j)(p:rN G.heap.size u):∀i,Jx v i->∃c e f,u.heap[i]?=Â (Û c e f)/\f.2<=c.size/\fQ (lh V B) c c/\0<c.size/\D3 c/\e≠304/\e≠305:=λi b=>by
 rcases h with rfl|⟨g,n,c,k,rfl,l⟩
 .cases b
 .have e:g=i:=by unfold Jx at b;simpa[Value.ownBlock]using b
  subst e;let⟨r,m⟩:=p g k T (0,0) (o g U) l a;exact⟨k,T,(0,0),l,Ö _,pA λv d=>apw<|m v d,r,zI λv d=>apx<|m v d,(λq=>by rw[q]at a;cases a),(λq=>by rw[q]at a;cases a)⟩
def aaM(h:td v T u)(a:∀i,Jx v i->V i):fi (lh V B) v v:=by
 rcases h with rfl|⟨g,n,c,b,rfl,d⟩
 .exact .nG _ _
 .exact fi.kQ (Y:=lh V B) ⟨⟨U,a g U⟩,U,U⟩ n c
theorem apy{G:Í}(J:kG B X G)(k:e9 (λ_=>False) G u)(K:∀i,X i->i<G.heap.size){l:List (Nat×fG)}{s:gO.St}(o:Tq b s h G u)(r:Tp l b G u m)(L:∀p∈l,X p.1): ∃e,(∀i,X i->e i)/\e m/\kG B e u/\∀i,e i->X i\/G.heap.size<=i:=by
 have t:=k.Y _ λi c T w M y=>by rw[ı M]at y;cases y
 let⟨a,d,N,z,C,D,E⟩:=o.r;refine⟨Jy X m b a d,λi q=>È q,Ï<|È U,?_,?_⟩
 .rintro i (q|rfl|rfl|q|q)
  .let⟨c,e,w,n,x,f,j⟩:=J i q;exact⟨c,e,w,by rwa[k.N i (K i q) id],x,f.I (zH λ_=>È),j⟩
  .let⟨F,n,x,f⟩:=r.r;have H:∀v∈F.toList,v=Ã Á\/∃j,v=Ã (Â ⟨j,0,Á⟩)/\Jy X i b a d j:=λv e=>by
    rcases f v e with q|q|q
    .unfold rV at q;obtain⟨p,I,rfl⟩:=Ú.1 q;exact Ï ⟨_,U,È<|L p I⟩
    .exact Ï ⟨_,q,Ï<|Ï<|È U⟩
    .exact È q
   refine⟨F,136,(0,0),n,Ö _,pA λv e=> ?_,x,zI λv e=> ?_,A,A⟩
   .rcases H v e with rfl|⟨j,rfl,I⟩
    .exact .lN
    .exact .jT ⟨⟨U,I⟩,U,U⟩
   .rcases H v e with rfl|⟨j,rfl,I⟩<;>rfl
  .have f:∀v∈iZ s a++[Å É h,d],fi (lh (Jy X m i a d) B) v v/\yd v=Ë:=λv e=>by
    rw[zt]at e;have I:=aaM (B:=B) (V:=Jy X m i a d) z λj q=>Ï<|Ï<|Ï<|È q;have F:=aaM (B:=B) (V:=Jy X m i a d) C λj q=>Ï<|Ï<|Ï<|Ï q;have H:∀{x:Ñ} {T:Ď},td x T u->yd x=Ë:=λ{x T} q=>by rcases q with rfl|⟨_,_,_,_,rfl,_⟩<;>rfl
    rcases â.1 e with q|q
    .rcases â.1 q with q|q
     .rcases TT s v q with⟨n,rfl⟩|⟨p,rfl⟩
      .exact⟨.iD _ _,U⟩
      .exact⟨.kq _,U⟩
     .grind
    .simp at q;rcases q with rfl|rfl
     .exact⟨.iD _ _,U⟩
     .grind
   exact⟨_,147,(0,0),N,Ö _,pA λv e=>(f v<|by simpa using e).1,by simp[mD],zI λv e=>(f v<|by simpa using e).2,A,A⟩
  .exact aaL U z D t i q
  .exact aaL U C E t i q
 .rintro i (q|rfl|rfl|q|q)
  .exact È q
  .exact Ï r.C
  .exact Ï o.C
  .exact Ï<|D i q
  .exact Ï<|E i q
def NB{Y:fq}(h:fi Y v x):fi (lh X B) v v->fi (lh (λj=>∃i,X i/\Y i j) B) x x:=by
 induction h with
 |mj b=>exact λ_=> .mj b
 |iD k n=>exact λ_=> .iD k n
 |kq s=>exact λ_=> .kq s
 |lN=>exact λ_=> .lN
 |@jT a a' q=>exact λz=>fi.jT (Y:=lh (λj=>∃i,X i/\Y i j) B) ⟨⟨U,_,Dt z,q.1⟩,U,U⟩
 |nG n c=>exact λ_=> .nG n c
 |@kQ a a' q n c=>exact λz=>fi.kQ (Y:=lh (λj=>∃i,X i/\Y i j) B) ⟨⟨U,_,Du z,q.1⟩,U,U⟩ n c
 |uU=>exact λ_=> .uU
 |fn f=>exact λ_=> .fn f
 |uV=>exact λ_=> .uV
 |uW=>exact λ_=> .uW
 |uX=>exact λ_=> .uX
 |ya t _ b=>exact λz=> .ya t (b (by cases z with|ya _ y=>exact y))
 |ox f _ b=>exact λz=> .ox U λi c _=>b i (by rwa[f]) c (by cases z with|ox _ y=>exact y i _ _)
 |nH f _ b=>exact λz=> .nH U λi c _=>b i (by rwa[f]) c (by cases z with|nH _ y=>exact y i _ _)
def apz{Y:fq}(h:fi Y v x):yd x=yd v:=by cases h<;>rfl
theorem TU{Y:fq}{r:Nat->Prop}(h:jg Y r u w)(s:kG B X u):kG B (λj=>∃i,X i/\Y i j) w:=by
 rintro j ⟨i,t,x⟩;let⟨c,a,e,F,y,z,C,b,G,H,I⟩:=h.r i j x;let⟨d,J,qD,m,_,D,K,E,n,o⟩:=s i t;rw[z]at m;cases m;have L:=b.C.resolve_right λq=>q.2.1.elim n o;refine⟨a,e,y,C,?_,pA λv f=> ?_,Z,zI λv f=> ?_,n,o⟩
 .grind
 .obtain⟨k,g,rfl⟩:=Ğ f;have l:k<a.size:=by simpa using g
  have:=NB (b.r k Z l)<|D.C k Z Z;simpa using this
 .obtain⟨k,g,rfl⟩:=Ğ f;have l:k<a.size:=by simpa using g
  have p:=apz<|b.r k Z l;rw[(E k c[k]<|å Z)]at p;simpa using p
def zK{Y:fq}(h:jg Y X u w):iV Y u w:=λi j o v b c=>h.gy (a:=⟨i,o,Á⟩) (a':=⟨j,o,Á⟩) ⟨b,U,U⟩ c
end
end Go.Proofs.Y.kT
namespace Go.Proofs.Y.Lift
open Go
def aaN{α β:Type}{c:α->β->Option (ForInStep β)}{I:β->Prop}(d:∀a b s,I b->c a b=Â s->I s.value): ∀(l:List α) (b r:β),I b->forIn l b c=Â r->I r
 |[],b,r,hi,h=>by simp at h;subst h;exact hi
 |a::l,b,r,hi,h=>by
  rw[List.forIn_cons]at h;cases e:c a b with
  |none=>rw[e]at h;simp at h
  |some s=>
   rw[e]at h;have:=d a b s hi e;cases s with
   |done x=>simp at h;subst h;exact this
   |yield x=>simp at h;exact aaN d l x r this h
def jN.gS(h:jN v):∀x∈v.cells,jN x:=by
 intro x a;cases h with
 |ox h=>
  obtain⟨i,b,rfl⟩:=Array.mem_iff_getElem.1 a;exact h i b
 |nH h=>simp[Ĺ]at a;subst a;exact .nH h
 |_=>simp[Ĺ]at a;subst a;constructor
def ZP(a:Ď->Option ĩ):Prop:=∀t i z,a t=Â i->i.zero=Â z->jN z
def TV(h:∀x∈d,jN x):jN (.agg d):=.ox λ_ a=>h _<|ă a
def apA{m:Ď->Option ĩ}(h:ZP m){n:Array Field}(g:ŕ m n=Â zJ)(j:zJ.zero=Â z):jN z:=by
 unfold ŕ at g;simp only[<-Array.forIn_toList]at g;generalize t:(forIn n.toList _ _:Option _)=L at g;cases L with
 |none=>simp at g
 |some r=>
  have u:=aaN (I:=λx=>∀a,x.2.2.2.2.2.2.2.1=Â a->∀v∈a,jN v) ?_ _ _ _ ?_ t
  .have:∃a,r.2.2.2.2.2.2.2.1=Â a/\z=.agg a:=by
    simp only[bind,pure,Ω]at g;split at g;all_goals
     simp only[Ô]at g;subst g;simp only[ò]at j;let⟨a,e,k⟩:=j;exact⟨a,e,k.symm⟩
   obtain⟨a,e,rfl⟩:=this;exact TV<|u a e
  .intro f b s w d;have y:∀(e:Option Ñ) (k:Nat) (x:Option (Array Ñ)),(∀z,e=Â z->jN z)->x=(if k>Ų then Á else do pure ((<-b.2.2.2.2.2.2.2.1)++(<-e).cells))->∀a,x=Â a->∀v∈a,jN v:=by
    intro e k x B C a c v o;subst C;split at c
    .simp at c
    .cases l:b.2.2.2.2.2.2.2.1 with
     |none=>rw[l]at c;simp at c
     |some E=>
      cases p:e with
      |none=>rw[l,p]at c;simp at c
      |some D=>
       rw[l,p]at c;simp at c;subst c;rcases Array.mem_append.1 o with q|q
       .exact w _ l v q
       .exact(B D p).gS v q
   cases e:m f.type with
   |none=>rw[e]at d;simp at d
   |some k=>
    rw[e,ê,ş]at d;have l:=y k.zero (b.2.1+k.size) _ (λz j=>h _ _ _ e j) U;generalize(if b.2.1+k.size>Ų then Á else(do pure ((<-b.2.2.2.2.2.2.2.1)++(<-k.zero).cells):Option (Array Ñ)))=X at d l;generalize(if b.1.size+1<n.size then ";" else "")=Y at d;simp only[bind,pure,Ω]at d;repeat' split at d
    all_goals first
     |(simp only[Ô]at d;subst d;exact l)
     |(simp at d;done)
  .intro a c v o;simp at c;subst c;simp at o
def apB{c:Ď->Option ĩ}(h:ZP c){d:TypeDesc}(a:ε c d=Â zJ)(b:zJ.zero=Â z):jN z:=by
 unfold ε at a;cases d with
 |struct k=>exact apA h a b
 |array n e=>
  simp only[ê,Ü,Ă,Ô]at a;obtain⟨f,v,st,_,rfl⟩:=a;simp only at b;split at b
  .simp at b
  .split at b
   .simp at b;subst b;exact TV fj
   .simp only[ò]at b;obtain⟨j,g,rfl⟩:=b;refine TV λx k=> ?_;simp only[Array.mem_flatten,Array.mem_replicate]at k;obtain⟨l,⟨_,rfl⟩,k⟩:=k;exact(h _ _ _ v g).gS x k
 |pointer e=>
  simp only[ê,Ü,Ă]at a;let⟨f,v,a⟩:=a;repeat' split at a
  all_goals first
   |(simp at a;done)
   |(simp only[Ü,Ô]at a;obtain⟨_,_,rfl⟩:=a;simp only[ł,Ô]at b;subst b;constructor)
 |slice e=>
  simp only[ê,Ü,Ă,Ô]at a;obtain⟨_,_,_,_,rfl⟩:=a;simp only[ł,Ô]at b;subst b;constructor
 |map k e=>
  simp only[ê,Ü,Ă,Ô]at a;obtain⟨_,_,_,_,_,_,_,_,rfl⟩:=a;simp only[ł,Ô]at b;subst b;constructor
 |chan k e=>
  simp only[ê,Ü,Ă,Ô]at a;obtain⟨_,_,_,_,rfl⟩:=a;simp only[ł,Ô]at b;subst b;constructor
 |func k e v=>
  simp only[ê,Ü,Ă,Ô]at a;obtain⟨_,_,rfl⟩:=a;simp only[ł,Ô]at b;subst b;constructor
 |_=>simp at a
def aaO{T:Tables}(a:∀(t:Nat) (i:ĩ) (z:Ñ),T.types[t]?=Â i->i.zero=Â z->jN z):∀f,ZP<|ţ T f
 |0=>λt i z h=>by simp[ţ]at h
 |f+1=>λt i z h b=>by
  unfold ţ at h;split at h
  .exact a t i z h b
  .simp only[Ü]at h;let⟨d,_,c⟩:=h;exact apB (aaO a f) c b
def apC(a:∀(t:Nat) (i:ĩ) (z:Ñ),P.types[t]?=Â i->i.zero=Â z->jN z):nJ P:=λt i z h b=>by
 have h:P.toTables.info? t=Â i:=h;unfold Tables.info? at h;split at h
 .exact a t i z h b
 .exact aaO a _ t i z h b
end Go.Proofs.Y.Lift
namespace Go.Proofs.Y.fu
open Go Go.Conc Go.Proofs.Y.Lift Go.RowKit Go.Conc.Lib Go.ConcR.Gen
open Go.Proofs Go.Proofs.YtgpphkdoanciiaaGreatDoor
def TW:Ñ->Bool
 |.agg a=>a.toList.all yk
 |v=>yk v
def aaP(h:TW v=Î):jN v:=by
 cases v with
 |agg b=>exact .ox λi a=>G4<|(ĭ.1 h) _<|î.2<|ă a
 |_=>exact G4 h
def aaQ:Ñ->Bool
 |ë a=>a.toList.all TW
 |v=>TW v
def apD(h:aaQ v=Î):jN v:=by
 cases v with
 |tuple b=>exact .nH λi a=>aaP<|(ĭ.1 h) _<|î.2<|ă a
 |_=>exact aaP h
def F4(i:ĩ):Bool:=match i.zero with
 |some z=>aaQ z
 |none=>Î
def apE(h:P.types.toList.all F4=Î):nJ P:=apC λt i z a b=>by have:=(ĭ.1 h) i<|î.2<|ĵ a;unfold F4 at this;rw[b]at this;exact apD this
def yf:nJ À:=apE fO
end Go.Proofs.Y.fu
namespace Go.Proofs.Y.kT
open Go Go.Conc Go.Proofs Go.RowKit Go.Proofs.Y.Lift Go.Proofs.Y.gO Go.Proofs.Y.fu
noncomputable def nB:Nat:=À.globals.size
def pB(a:Nat->Prop)(b:Nat):Prop:=a b\/b=1\/b=2\/b=3\/b=4
def NC(b:Nat)(e:Ď)(w:Í):Prop:=∃c a,w.heap[b]?=Â (Û c e a)/\a.2<=c.size/\a.2<=16/\0<c.size/\∀v∈c.toList,∃k n,v=Å k n
structure nA(w:Í):Prop where
 fx:nB<=w.heap.size
 M:kG nB (λb=>b=1\/b=2) w
 I:NC 3 304 w
 C:NC 4 305 w
 S:gO.lL w
 iY:iJ w
 N:qt w
section
variable{V:Nat->Prop}
theorem nA.r{w':Í}(h:nA w)(f:nB<=w'.heap.size)(k:∀b,b=1\/b=2\/b=3\/b=4->w'.heap[b]?=w.heap[b]?):nA w':=by
 have d:∀b o,b=1\/b=2\/b=3\/b=4->w'.cell? ⟨b,o,Á⟩=w.cell? ⟨b,o,Á⟩:=λb o e=>by simp only[à,k b e]
 refine⟨f,h.M.C λb e=>k b<|e.imp id È,?_,?_,?_,?_,?_⟩
 .let⟨c,i,a,r⟩:=h.I;exact⟨c,i,by rwa[k 3 fj],r⟩
 .let⟨c,i,a,r⟩:=h.C;exact⟨c,i,by rwa[k 4 fj],r⟩
 .have c:=h.S;have i:À.globalNamed "internal/strconv.uint64pow10"=Â 1:=ft
  unfold gO.lL ω ρ at*;grind
 .let⟨c,g,a⟩:=h.iY.M;refine⟨⟨c,g,by rwa[k 2 fj]⟩,λi r j=> ?_⟩;rw[d 2 _ fj,d 2 _ fj,d 2 _ fj];exact h.iY.I i r j
 .have:=h.N;unfold qt at*;grind
def aaR(u:kG nB X w)(x:∀b,X b->lq b=Ë)(g:nA w):Mz (pB X) (pB X) nB w:=by
 have p:∀{a:Nat->Prop} {c:Array Ñ},(∀b,a b->pB X b)->fQ (lh a nB) c c->fQ (qe (pB X) nB) c c:=λ{a c} hX r=>r.I<|zH hX;refine⟨?_,g.fx⟩;have s:∀b e,(e=304\/e=305)->lq b=Î->NC b e w->∃c e d,w.heap[b]?=Â (Û c e d)/\d.2<=c.size/\fQ (qe (pB X) nB) c c/\(pB X b->0<c.size/\(lq b=Î->(e=304\/e=305)/\d.2<=16)/\(lq b=Ë->D3 c)):=λb e y B h=>by let⟨c,d,f,j,l,m,o⟩:=h;exact⟨c,e,d,f,j,pA λv i=>by obtain⟨k,n,rfl⟩:=o v i;exact .iD _ _,λ_=>⟨m,λ_=>⟨y,l⟩,λq=>by rw[B]at q;cases q⟩⟩
 rintro b (q|q|q|rfl|rfl)
 .let⟨c,e,d,f,j,l,m,o,_⟩:=u b q;exact⟨c,e,d,f,j,p (λ_=>È) l,λ_=>⟨m,λt=>(by rw[x b q]at t;cases t),λ_=>o⟩⟩
 .let⟨c,e,d,f,j,l,m,o,_⟩:=g.M b<|È q;exact⟨c,e,d,f,j,p (λi k=>k.elim (λz=>Ï<|È z) λz=>Ï<|Ï<|È z) l,λ_=>⟨m,λt=>(by rw[q]at t;cases t),λ_=>o⟩⟩
 .let⟨c,e,d,f,j,l,m,o,_⟩:=g.M b<|Ï q;exact⟨c,e,d,f,j,p (λi k=>k.elim (λz=>Ï<|È z) λz=>Ï<|Ï<|È z) l,λ_=>⟨m,λt=>(by rw[q]at t;cases t),λ_=>o⟩⟩
 .exact s 3 304 (È U) U g.I
 .exact s 4 305 (Ï U) U g.C
def pC(a:lq b=Ë\/i<16)(h:w.cell? ⟨b,i,Á⟩=Â v):(World.tp (k9 V w) xQ 0).cell? ⟨b,i,Á⟩=Â v:=by
 have j:(World.tp (k9 V w) xQ 0).heap[b]?=(w.heap[b]?).map (pg V b):=Fl b;simp only[à,j];simp only[à]at h;cases g:w.heap[b]? with
 |none=>rw[g]at h;cases h
 |some k=>
  rw[g]at h;cases k with
  |cells c e m=>
   simp only[û,pg,ö,ì,if_false]at h|-;split
   .rename_i d;split at d
    .split at d
     .rename_i l;cases d;rcases a with a|a
      .rw[l]at a;cases a
      .unfold uC;rw[Array.getElem?_extract];simp;exact⟨by have:=(Ý.1 h).1;omega,h⟩
     .cases d;exact h
    .cases d;exact h
   .rename_i f;split at f
    .split at f<;>exact absurd U<|f _ _ _
    .exact absurd U<|f _ _ _
  |_=>cases h
def aaS{T:ŷ}(d:kG nB X w)(e:∀b,X b->lq b=Ë):iV (lh X nB) w (World.tp (k9 V w) T 0):=by rintro i j o v ⟨rfl,a⟩ c;exact⟨v,pC (È<|e i a) c,d.r a c⟩
end
def RD(s:List fG)(b:Ñ)(a:Nat->Prop)(w:Í):Prop:=∃c,kn c=s/\kV s/\Nc b c w/\kG nB a w/\fi (lh a nB) b b
section
variable{V:Nat->Prop}{s:List fG}
def aaT(h:kG nB X w)(k:∀b,X b->u.heap[b]?=w.heap[b]?):iV (lh X nB) w u:=by rintro i j o v ⟨rfl,a⟩ c;exact⟨v,by simp only[à,k i a];exact c,h.r a c⟩
def RD.r(h:RD s v X w)(k:∀b,X b->u.heap[b]?=w.heap[b]?):RD s v X u:=by let⟨l,d,e,f,a,c⟩:=h;let⟨g,i,j⟩:=Jw (aaT a k) c f;exact⟨g,i.trans d,e,j,a.C k,c⟩
def Jz(r:Nat)(q:Qn)(w:Í):Prop:=pz r q.x q.y q.g q.k q.r q.v q.C q.I w
def aaU{Y:fq}(a:iV Y u w){r:Nat}{q:Qn}(b:Y r i)(h:Jz r q u):Jz i q w:= ⟨a.r b h.I,a.r b h.S,a.r b h.a,a.r b h.Y,a.r b h.N,a.r b h.M,a.r b h.c,a.r b h.b⟩
def apF{T:ŷ}(g:nA w):gO.lL (World.tp (k9 V w) T 0):=by
 have a:=g.S;have h:À.globalNamed "internal/strconv.uint64pow10"=Â 1:=ft
 unfold gO.lL ω ρ at*;rw[h]at a|-;simp only[ş]at a|-;have i:(World.tp (k9 V w) T 0).heap[1]?=(w.heap[1]?).map (pg V 1):=Fl 1;rw[i];cases f:w.heap[1]? with
 |none=>rw[f]at a;cases a
 |some j=>
  rw[f]at a;cases j with
  |cells c e k=>
   simp only[û,pg,lq]at a|-;split
   .rename_i b;split at b<;>(simp at b;obtain⟨rfl,_⟩:=b;exact a)
   .rename_i d;split at d
    .exact absurd U<|d _ _ _
    .exact absurd U<|d _ _ _
  |_=>cases a
theorem aaV{T:ŷ}(g:nA w):iJ (World.tp (k9 V w) T 0):=by
 let⟨f,h,d⟩:=g.iY.M;refine⟨?_,λi r e=> ?_⟩
 .have a:(World.tp (k9 V w) T 0).heap[2]?=(w.heap[2]?).map (pg V 2):=Fl 2;rw[a,d];simp only[û,pg,lq];grind
 .let⟨a,b,c⟩:=g.iY.I i r e;exact⟨pC (È U) a,pC (È U) b,pC (È U) c⟩
def apG{T:ŷ}(g:nA w):qt (World.tp (k9 V w) T 0):=pC (Ï A) g.N
def F5{T:ŷ}:kh (World.tp (k9 V w) T 0):=λi o h=>ZQ (Sh:=V) (w:=w) i o h
theorem apH{l:fc}{q:Qn}{r:Nat}(x:RD s v X l.w)(I:∀b,X b->l.M b)(y:kG nB V l.w)(J:∀b,V b->l.M b)(h:V r)(z:Jz r q l.w)(ok:q.Ok)(g:nA l.w)(K:∀b,b=1\/b=2\/b=3\/b=4->l.M b)(j:∀b,X b\/V b->lq b=Ë)(m:List (Nat×fG))(B:kn m=s): Fq (λg=>xo g=Î) 67 #[v,Ã<|Â ⟨r,0,Á⟩] l (pB λb=>X b\/V b) λe _=>e=Ä (qu m q):=by
 let⟨L,c,d,D,E,o⟩:=x;have t:=E.I y;refine⟨?_,aaR t j g,?_,?_,λT=> ?_⟩
 .rintro b (q|q);all_goals grind
 .intro b a;unfold xo at a;simp at a;exact Ï a
 .refine pA λe a=> ?_;simp at a;rcases a with rfl|rfl
  .exact o.fM<|zH λi k=>È<|È k
  .exact fi.jT (Y:=qe (pB λb=>X b\/V b) nB) ⟨⟨U,È<|Ï h⟩,U,U⟩
 .have a:=aaS (V:=pB λb=>X b\/V b) (T:=T) t j;obtain⟨F,f,N,n,G,rfl,O,u⟩:=Jw a (o.fM<|zH λi k=>È k) D;have i:n=(kn F).length:=by rw[u.r];simp[kn]
  have P:=d.I;have Q:=d.C;rw[f,c]at i;have C:=apl (cp:=G) u Z Z (λp H=> ?_) (aaU a ⟨U,Ï h⟩ z) ok (aaV g) (apF g)<|apG g
  .apply C.mono;rintro e S ⟨rfl,k⟩;exact⟨by rw[apn<|f.trans<|c.trans B.symm],k.gS F5⟩
  .have:p.2∈s:=by rw[<-c,<-f];exact Ú.2 ⟨p,H,U⟩
   exact(d.r _ this).1
end
def Dv(r:Nat)(v:Int)(x:Nat)(c:List Tx)(w:Í):Prop:=∃a n d b,Dm r v x a n d w/\Dd a n b w/\lJ b=c/\n<=1000
section
variable{V:Nat->Prop}{s:List fG}
def aaW(h:kG nB X w):∀i,X i->i<w.heap.size:=λi a=>by let⟨c,e,d,b,_⟩:=h i a;exact(Ý.1 b).1
theorem aaX{T:ŷ}(f:lq b=Ë)(h:w.heap[b]?=Â (Û d e xJ))(i:xJ.2<=d.size):∃a,(World.tp (k9 V w) T 0).heap[b]?=Â (Û d e a)/\a.2<=d.size:=by have g:(World.tp (k9 V w) T 0).heap[b]?=(w.heap[b]?).map (pg V b):=Fl b;rw[g,h];simp only[û,pg,f,ì,if_false];grind
def apI{T:ŷ}(h:kG nB X w)(d:∀b,X b->lq b=Ë):kG nB X (World.tp (k9 V w) T 0):=λb a=>by let⟨c,e,m,f,g,i⟩:=h b a;let⟨j,k,l⟩:=aaX (V:=V) (T:=T) (d b a) f g;exact⟨c,e,j,k,l,i⟩
def apJ{T:ŷ}(k:kG nB X w)(l:∀b,X b->lq b=Ë){r:Nat}{v:Int}{o:List Tx}(p:X r)(h:Dv r v i o w):Dv r v i o (World.tp (k9 V w) T 0):=by
 let⟨E,n,F,G,g,s,H,I⟩:=h;have m:=l r p;refine⟨E,n,F,G,⟨pC (È m) g.M,pC (È m) g.N,pC (È m) g.I⟩,⟨s.r,λj a t q=> ?_⟩,H,I⟩;let⟨tb,J,u,y,d,K⟩:=s.C j a t q;have z:X tb:=by have:=k.r p g.I;rw[u]at this;exact Du this
 have B:=Dt<|k.r z y;have f:=l a B;let⟨L,P,C⟩:=d.b;let⟨c,e,Q,D,M,_⟩:=k a B;rw[C]at D;cases D;obtain⟨N,O,_⟩:=aaX f C M;exact⟨tb,J,u,pC (È<|l tb z) y,⟨⟨L,N,O⟩,pC (È f) d.r,pC (È f) d.C,pC (È f) d.I,pC (È f) d.M,pC (È f) d.Y,pC (È f) d.N⟩,K⟩
def Rg(s:List fG)(v:Ñ)(u:Í):Prop:=∃X,RD s v X u
def Rg.tp{T:ŷ}(h:Rg s v w):Rg s v (World.tp w T n):=by let⟨X,h⟩:=h;exact⟨X,h.r λ_ _=>rfl⟩
def apK{Y:fq}{d:Nat->Prop}(h:ry Y d u w)(a:fi Y v x)(e:Rg s v u):∃c,RD s x c w/\∀b,c b->∃i,Y i b:=by let⟨X,f⟩:=e;have g:RD s v X {u with tape:=w.tape,drawn:=w.drawn}:=f.r λ_ _=>rfl;let⟨t,j,k,l,m,n⟩:=g;let⟨o,p,q⟩:=Jw (zK h) a l;exact⟨_,⟨o,p.trans j,k,q,TU h m,NB a n⟩,λb ⟨i,_,r⟩=>⟨i,r⟩⟩
theorem apL{l:fc}{r:Nat}{d:List Tx}(hRD:RD s v X l.w)(hU:∀b,X b->l.M b)(N:kG nB V l.w)(hV:∀b,V b->l.M b)(O:V r)(hq:Dv r h m d l.w)(hx:m<8)(y:-1<=h)(TX:∀t∈d,t.Ok)(hn:d.length<=1000)(g:nA l.w)(hG:∀b,b=1\/b=2\/b=3\/b=4->l.M b)(B:∀b,X b\/V b->lq b=Ë)(D:List (Nat×fG))(I:kn D=s): Fq (λg=>xo g=Î) 66 #[v,Ã<|Â ⟨r,0,Á⟩] l (pB λb=>X b\/V b) λz u=>∃p n c,z=ë #[Æ p n c,Ä (pv D h m d).2]/\Rg (qZ D h m d) (Æ p n c) u:=by
 let⟨vs,h1,E,h3,P,f⟩:=hRD;have Q:=P.I N;refine⟨?_,aaR Q B g,?_,?_,λT=> ?_⟩
 .rintro b (q|q);all_goals grind
 .intro b u;unfold xo at u;simp at u;exact Ï u
 .refine pA λh y=> ?_;simp at y;rcases y with rfl|rfl
  .exact f.fM<|zH λi j=>È<|È j
  .exact fi.jT (Y:=qe (pB λb=>X b\/V b) nB) ⟨⟨U,È<|Ï O⟩,U,U⟩
 .have o:=apI (V:=pB λb=>X b\/V b) (T:=T) P λb q=>B b<|È q;obtain⟨z,k1,S,n,W,rfl,hcp,F⟩:=Jw (aaS (V:=pB λb=>X b\/V b) (T:=T) Q B) (f.fM<|zH λi j=>È j) h3;obtain⟨tp,tn,tc,a,q1,q2,rfl,q4⟩:=(apJ (V:=pB λb=>X b\/V b) (T:=T) N (λb q=>B b<|Ï q) O hq);have c:=k1.trans h1;have hlen:n=s.length:=by rw[F.r,<-c];simp[kn]
  have auy:=E.I;have hle:=E.C;have qd:kh (World.tp (k9 (pB λb=>X b\/V b) l.w) T 0):=F5;have C:=anS F Z Z hcp (λp J=>by
   have:p.2∈s:=by rw[<-c];exact Ú.2 ⟨p,J,U⟩
   have:=(E.r _ this).2.2.2;omega) q1 q2 q4 (aaV g) hx y
  have u:qZ z h m (lJ a)=qZ D h m (lJ a):=by unfold qZ;rw[aaJ<|c.trans I.symm,c,I]
  have H:kV (qZ z h m<|lJ a):=kV.M (by rwa[c]) TX hn;have ha:=aaJ (c.trans I.symm) h m<|lJ a;generalize World.tp (k9 (pB λb=>X b\/V b) l.w) T 0=G at*;refine C.mono ?_;rintro e u' ⟨k,hA⟩;rcases hA with⟨K,rfl⟩|⟨nv,b,sY,K,rfl,e3,e4,gb,gn,gc,rfl,e6⟩
  .refine⟨⟨S,n,W,by rw[ha],?_⟩,k.gS qd⟩;rw[<-u];have L:qZ z h m (lJ a)=s:=by unfold qZ;rw[K,c];simp
   rw[L]at H|-;exact⟨X,z,c,H,⟨S,n,W,U,hcp,F.I k⟩,o.C λi j=>k.N i (aaW o i j) id,f⟩
  .let⟨i,m1,m2,m3,_⟩:=apy o k (aaW o) e4 e6 λp J=>by
    let⟨j,hj⟩:=ė J;let⟨sb,so,f1,f2,_⟩:=F.C j p.1 p.2 hj;have:X sb:=by rw[f1]at f;exact Du f
    exact Dt<|o.r this f2
   refine⟨⟨Â ⟨gb,0,Á⟩,gn,gc,by rw[ha],?_⟩,k.gS qd⟩;rw[<-u];have L:qZ z h m (lJ a)=kn (z++[(b,nv)]):=by unfold qZ;rw[K];simp[kn]
   rw[L]at H|-;exact⟨i,_,U,H,e3,m3,fi.kQ (Y:=lh i nB) ⟨⟨U,m2⟩,U,U⟩ gn gc⟩
end
structure vL where
 r:Nat->Int×Nat×List Tx
 C:Nat->Qn
def kH(s:List fG):List (Nat×fG):=s.map λv=>(0,v)
def F6(s:List fG):kn (kH s)=s:=by simp[kn,kH,Function.comp_def]
def zL(s:List fG)(i:Int×Nat×List Tx):List fG:=qZ (kH s) i.1 i.2.1 i.2.2
def pD(a:vL)(I:List Nat)(b:List fG):Nat->List fG
 |0=>b
 |k+1=>zL (pD a I b k)<|a.r<|I.getD k 0
def vM(a:vL)(kd:Nat->Int)(p:Nat)(s:List fG):ByteArray:=if kd p=1 then(pv (kH s) (a.r p).1 (a.r p).2.1 (a.r p).2.2).2 else qu (kH s) (a.C p)
def iy(e:fc)(a:Nat->Prop)(c:vL)(kd:Nat->Int)(R:Nat)(d:List fG)(f:Nat->Prop):xn where
 γ:=List fG
 C:=d
 M:=λk s g=>g=zL s (c.r<|(gW kd R).getD k 0)
 RD:=λs h V w=>RD s h V w/\∀b,V b->a b\/e.w.heap.size<=b
 I:=λp=>vM c kd p<|pD c (gW kd R) d<|fJ kd p
 r:=f
def TY{kd:Nat->Int}:∀(R k:Nat),k<(gW kd R).length->fJ kd ((gW kd R).getD k 0)=k
 |0,k,h=>by simp[gW]at h
 |R+1,k,h=>by
  by_cases q:kd R=1
  .rw[sX q]at h|-;rcases Nat.lt_or_ge k (gW kd R).length with z|z
   .have e:(gW kd R++[R]).getD k 0=(gW kd R).getD k 0:=by simp[Ġ,Ħ z]
    rw[e];exact TY R k z
   .have e:k=(gW kd R).length:=by simp at h;omega
    subst e;simp[Ġ,fJ]
  .rw[vz q]at h|-;exact TY R k h
section
variable{y:Nat->Prop}
def ND(h:kG nB y w)(g:nA w):∀b,y b->lq b=Ë:=λb i=>by
 let⟨c,e,m,f,_,_,_,_,j,k⟩:=h b i;cases d:lq b with
 |false=>rfl
 |true=>
  unfold lq at d;simp at d;rcases d with rfl|rfl
  .let⟨l,qD,a,_⟩:=g.I;rw[f]at a;cases a;exact absurd U j
  .let⟨l,qD,a,_⟩:=g.C;rw[f]at a;cases a;exact absurd U k
def apM(p:kG nB X w)(k:∀b,X b->u.heap[b]?=w.heap[b]?){r:Nat}{s:List Tx}(g:X r)(h:Dv r c i s w):Dv r c i s u:=by
 have d:∀{b o:Nat} {z:Ñ},X b->w.cell? ⟨b,o,Á⟩=Â z->u.cell? ⟨b,o,Á⟩=Â z:=λ{b o z} l q=>by simp only[à,k b l];exact q
 let⟨D,n,E,F,m,y,G,H⟩:=h;refine⟨D,n,E,F,⟨d g m.M,d g m.N,d g m.I⟩,⟨y.r,λj a t q=> ?_⟩,G,H⟩;let⟨tb,I,B,C,e,J⟩:=y.C j a t q;have l:X tb:=by have:=p.r g m.I;rw[B]at this;exact Du this
 have f:=Dt<|p.r l C;let⟨K,L,M⟩:=e.b;exact⟨tb,I,B,d l C,⟨⟨K,L,by rwa[k a f]⟩,d f e.r,d f e.C,d f e.I,d f e.M,d f e.Y,d f e.N⟩,J⟩
end
structure JA(l0:fc)(bt:vL)(kd:Nat->Int)(rq:Nat->Nat)(R:Nat)(Q:Nat->Prop):Prop where
 M:nA l0.w
 I:∀b,b=1\/b=2\/b=3\/b=4->l0.O b
 C:kG nB Q l0.w
 fp:∀b,Q b->l0.O b
 r:∀p,p<R->Q (rq p)
 kK:∀p,p<R->kd p=1->Dv (rq p) (bt.r p).1 (bt.r p).2.1 (bt.r p).2.2 l0.w/\(bt.r p).2.1<8/\-1<=(bt.r p).1/\(∀t∈(bt.r p).2.2,t.Ok)/\(bt.r p).2.2.length<=1000
 Sf:∀p,p<R->kd p≠1->Jz (rq p) (bt.C p) l0.w/\(bt.C p).Ok
def aaY{V:Nat->Prop}{l:fc}{a:Ñ->Í->Prop}(h:Fq X F d l V vQ)(b:∀v u,vQ v u->a v u):Fq X F d l V a:= ⟨h.N,h.S,h.I,h.r,λT=>(h.C T).mono λe u q=>by
  cases e with
  |returned v=>exact⟨b v u q.1,q.2⟩
  |_=>exact q⟩
section
variable{l0:fc}{bt:vL}{kd:Nat->Int}{rq:Nat->Nat}{R:Nat}{Q C d:Nat->Prop}{B:List fG}{E F:Option ù}
def aaZ{s:List fG}(h:fu.nk ((kE (iy l0 d bt kd R B C) i n R kd rq D E F j9 j7 k m J j qX l0).r À) b s):s=pD bt (gW kd R) B b:=by
 have c:∀(b:Nat) (s:((kE (iy l0 d bt kd R B C) i n R kd rq D E F j9 j7 k m J j qX l0).r À).γ),fu.nk ((kE (iy l0 d bt kd R B C) i n R kd rq D E F j9 j7 k m J j qX l0).r À) b s->s=pD bt (gW kd R) B b:=λb s h=>by
  induction h with
  |vd=>rfl
  |En _ a e=>
   rwa[e]at a
 exact c b s h
def apN(h:JA l0 bt kd rq R Q)(N:l0.w.heap.size<=m):Fi (kE (iy l0 d bt kd R B C) i n R kd rq D E F j9 j7 k m J j qX l0):=by
 apply akz yf ZV ZU U;intro a s O W l q t f x y P g G;let⟨f,S⟩:=f;have T:=y.fx m<|g m<|Ï U;have H:l0.w.heap.size<=l.w.heap.size:=Z
 have o:=G;have p:=h.M.r (Ì h.M.fx H) λb c=>o b<|h.I b c;have r:=h.C.C λb c=>o b<|h.fp b c;have e:=IN<|vE q;let⟨I,K⟩:=h.Sf _ e.1 e.2;refine⟨_,aaY (apH f x r (λb c=>g b<|È<|h.fp b c) (h.r _ e.1) (aaU (aaT h.C λb c=>o b<|h.fp b c) ⟨U,h.r _ e.1⟩ I) K p (λb c=>g b<|È<|h.I b c) (λb c=>c.elim (ND (by let⟨_,_,_,_,z,_⟩:=f;exact z) p b)<|ND r p b) (kH s)<|F6 s) λv u L=> ?_⟩;rw[L];have z:=aaZ t;have M:(kE (iy l0 d bt kd R B C) i n R kd rq D E F j9 j7 k m J j qX l0).a a=fJ kd ((jy kd R).getD a 0):=if_pos q;rw[M]at z;show _=Ä (vM bt kd ((jy kd R).getD a 0)<|pD bt (gW kd R) B<|fJ kd<|(jy kd R).getD a 0);rw[<-z];unfold vM;rw[if_neg e.2]
theorem apO(h:JA l0 bt kd rq R Q)(hZ:(∀b,Q b->d b)/\∀b,b=1\/b=2\/b=3\/b=4->d b)(Zh:l0.w.heap.size<=m):Fh (kE (iy l0 d bt kd R B C) i n R kd rq D E F j9 j7 k m J j qX l0):=by
 refine akA yf ZV ZU U (λs o u=>Rg s o u) (λs o u T n q=>Rg.tp q) ?_;intro T s o W l H I g K L hq r M;let⟨g,Qo⟩:=g;have hs:=L.fx m<|r m<|Ï U;have N:l0.w.heap.size<=l.w.heap.size:=Z
 have t:=M;have x:=h.M.r (Ì h.M.fx N) λb a=>t b<|h.I b a;have y:=h.C.C λb a=>t b<|h.fp b a;have G:=H;have f:=IL<|vE G;let⟨O,P,S,V,X⟩:=h.kK _ f.1 f.2;refine⟨_,aaY (apL g K y (λb a=>r b<|È<|h.fp b a) (h.r _ f.1) (apM h.C (λb a=>t b<|h.fp b a) (h.r _ f.1) O) P S V X x (λb a=>r b<|È<|h.I b a) (λb a=>a.elim (ND (by let⟨_,_,_,_,z,_⟩:=g;exact z) x b)<|ND y x b) (kH s)<|F6 s) λv u hv=> ?_,?_⟩
 .obtain⟨p,z,c,rfl,Y⟩:=hv;refine⟨p,z,c,zL s<|bt.r<|(gW kd R).getD T 0,?_,U,Y⟩;have e:(kE (iy l0 d bt kd R B C) i n R kd rq D E F j9 j7 k m J j qX l0).d (T+1)=vM bt kd ((gW kd R).getD T 0) (pD bt (gW kd R) B<|fJ kd<|(gW kd R).getD T 0):=U;rw[e,TY R T G,<-(aaZ I)];unfold vM;rw[if_pos f.2]
 .intro Y Sh u w s' ZJ Ms e p h3 h4;let⟨V',k1,c⟩:=apK e p h3;refine⟨V',⟨k1,λb a=> ?_⟩,c⟩;let⟨z,hi⟩:=c b a;rcases h4 z b hi with((q|q)|q)|q;all_goals grind
end
section
variable{R:Nat}{kd:Nat->Int}{o:Nat->Nat}{r:List Ĕ}{l:fc}{u:Nat->fc}{bt:vL}{j f:Nat->Prop}{s0:List fG}
def apP{s:List fG}(h:zh (iy l f bt kd R s0 j) k s):s=pD bt (gW kd R) s0 k:=by
 have b:∀(k:Nat) (s:(iy l f bt kd R s0 j).γ),zh (iy l f bt kd R s0 j) k s->s=pD bt (gW kd R) s0 k:=λk s h=>by
  induction h with
  |vd=>rfl
  |En _ a c=>
   rwa[c]at a
 exact b k s h
structure zM(f:Nat->Prop)(bt:vL)(R:Nat)(kd:Nat->Int)(s0:List fG)(l:fc)(an:Nat)(sl:Ñ)(l':fc):Prop where
 M:∀b,l.O b->l'.O b/\l'.w.heap[b]?=l.w.heap[b]?
 r:l'.O an/\∀p,p<R->l'.w.cell? ⟨an,p,Á⟩=Â (Ä<|vM bt kd p<|pD bt (gW kd R) s0<|fJ kd p)
 Y:∃V,RD (pD bt (gW kd R) s0<|fJ kd R) sl V l'.w/\∀b,V b->l'.O b/\(f b\/l.w.heap.size<=b)
 d:l'.d=0
 q:¬l'.q
 S:∀b,¬l'.I b
 C:(∀a,¬l'.r a)/\(∀a,¬l'.N a)/\∀a,¬l'.K a
 I:l'.w.cell? ⟨an,R,Á⟩=Á/\kR l'.w an=Â (0,0)
def apQ{a:fc}(h:G2 (iy l f bt kd R s0 j) R kd l i v a):zM f bt R kd s0 l i v a:=by let⟨s,V,g,c,k⟩:=h.IP;have e:=apP g;subst e;exact⟨h.vi,h.kA,⟨V,c.1,λb q=>⟨k b q,c.2 b q⟩⟩,h.d,h.q,h.rd,h.CY,h.D6⟩
def apR{J:(Loc->Prop)->Nat->Jd}{F:Ĕ}(P:qX=F.at y (Ð Q (j9::jJ)::L)::r)(c:fu.rM À zX i (Mq kd o R n v l qX) .fA D u E w qJ)(C:Option (Nat×Nat))(s:gw l)(S:∀b,¬l.I b)(W:¬l.q)(Y:l.d=0)(NG:vF zX i l)(H:JA l bt kd o R X)(hZ:(∀b,X b->f b)/\∀b,b=1\/b=2\/b=3\/b=4->f b)(I:∀b,f b->l.O b)(K:∀b,j b->f b)(CX:RD s0 v j l.w)(xl:w.os=l.w.os/\w.output=l.w.output)(hn:1<=n)(hs:n+R<1000) (hJ:∀t x z B p m c,vF t x z->gw z->zM f bt R kd s0 l B (Æ p m c) z->fu.fh À Î (J t x) z (G (F.at (y.put ((Q[j9]?).bind (·.dst))<|ë #[Æ (Â ⟨B,0,Á⟩) R R,Æ p m c])<|Ð Q jJ::L) r)): ∃N t x T V IQ g e sY h,ſ À N (Į E w C) qJ=(.next<|Į g e sY,h)/\(e.os=l.w.os/\e.output=l.w.output)/\fu.rM À t x (J t x) T V IQ g e h:= aks (M:=iy l f bt kd R s0 j) P c C s S W Y NG (λb q=>I b<|K b q) (λs C V w e h L=>⟨h.1.r L,h.2⟩) (λs C V w h=>⟨by let⟨_,_,_,⟨g,n,N,e,_⟩,_⟩:=h.1;exact⟨g,n,N,e⟩,λb q=>(h.2 b q).imp (I b) id⟩) ⟨CX,λb h=>È<|K b h⟩ xl hn hs (λg N V T cq B ba bi all e=>⟨apO H hZ e,apN H e⟩) λt x z B p m c e g N=>hJ t x z B p m c e g<|apQ N
end
end Go.Proofs.Y.kT
namespace Go.Proofs.Y.ot
open Go Go.Proofs Go.RowKit Go.Proofs.Y.Lift Go.Proofs.Y.gO
def jR(c:Int):Bool:=decide (48<=c)&&decide (c<=57)
def rX(c:Int):Bool:=decide (97<=c)&&decide (c<=104)
def xM(c:Int):Int:=
 if c=105 then 1 else if c=103 then 2 else if c=98 then 3 else if c=99 then 4 else if c=109 then 5
 else if c=114 then 6 else if c=108 then 7 else if c=117 then 8 else if c=100 then 9 else 0
def NH(c:Int):Int:=if c=62 then 1 else if c=123 then 2 else if c=58 then 3 else 0
def F7(c:Int):jR c=Î↔(48<=c/\c<=57):=by simp[jR]
def apS(c:Int):rX c=Î↔(97<=c/\c<=104):=by simp[rX]
def vN(k:Int):List Int:=
 if k=1 then[86,58,120,47,66]else if k=2 then[86,58,120,115]else if k=3 then[86,58,120]
 else if k=4 then[86,58,120,62,121,40,110,44,107,41]else if k=5 then[86,58,120,62,121,40,107,41]
 else if k=9 then[86,58,87]else[86]
def pE(k:Int):List Int:=
 if k=1 then[121,61,110]else if k=2 then[80]else[121,40,110,44,107,41]
def qw(a c:Int):Bool:=
 if a=86\/a=87 then c==104||jR c
 else if a=110\/a=107 then jR c
 else if a=120\/a=121 then rX c
 else if a=115 then jR c||(decide (97<=c)&&decide (c<=102))
 else c==a
def rY(a c:Int):Int:=
 if c=48\/jR c=Ë then 0
 else if a=86\/a=87 then 1
 else if a=110\/a=107 then 5
 else 0
def jS(s:ByteArray):List Int:=s.data.toList.map λc=>((c.toNat:Nat):Int)
def apT(B:ByteArray)(k:Nat)(h:k<B.size):(jS B).drop k=((B[k].toNat:Nat):Int)::(jS B).drop (k+1):=by
 have a:k<(jS B).length:=by simpa[jS]using h
 rw[List.drop_eq_getElem_cons a];congr 1;simp[jS,ċ]
def T0(B:ByteArray):(jS B).length=B.size:=by unfold jS;simp_all
theorem vO(s:ByteArray)(h:0<s.size):jS s=((s[0].toNat:Nat):Int)::(jS s).tail:=by have:=apT s 0 h;grind
def aa0(s:ByteArray)(h:s.size=0):jS s=[]:=by apply Þ;rw[T0,h]
def apU(s:ByteArray):jS (s.extract 1 s.size)=(jS s).tail:=by unfold jS;rw[Ĳ,ĺ,<-List.map_tail];congr 1;rw[ħ,<-List.drop_one];apply List.take_of_length_le;simp_all
def apV(s:ByteArray)(h:s.size<=10):(s.extract 1 s.size).size<=10:=by rw[č];omega
theorem apW(a c:Int):0<=rY a c/\rY a c<=5:=by unfold rY;grind
structure PT where
 c:List Int
 p:ByteArray
structure PR where
 c:List Int
 r:List PT
structure PD where
 S:List PR
 r:Bool
 I:PR
 M:Bool
 N:PT
structure PS where
 C:List Int
 r:Int
 I:Int
 M:Int
 d:PD
namespace PD
def Y(d:PD):List PT:=if d.M then d.I.r++[d.N]else d.I.r
def C(d:PD):List PR:=if d.r then d.S++[⟨d.I.c,d.Y⟩]else d.S
def uM(d:PD)(i:Nat)(z:Int):PD:={d with I:={d.I with c:=d.I.c.set i z}}
def vP(d:PD)(i:Nat)(z:Int):PD:={d with N:={d.N with c:=d.N.c.set i z}}
def jB(d:PD)(i:Nat)(z:Int):PD:=if d.M then d.vP i z else d.uM i z
def tj(d:PD)(p:ByteArray):PD:={d with N:={d.N with p:=p}}
def F4:PT:=⟨[0,0,0,0,0],⟨#[]⟩⟩
def aa1(k:Int):PR:=⟨[0,0,0,0,k,0,0,0],[]⟩
def rZ(d:PD):PD:={d with I:=⟨d.I.c,d.Y⟩,M:=Î,N:=F4}
def F8(d:PD)(k:Int):PD:={S:=d.C,r:=Î,I:=aa1 k,M:=Ë,N:=d.N}
def fW(d:PD)(a z:Int):PD:=
 if a=86 then d.uM 5 z else if a=87 then d.uM 6 z else if a=120 then d.jB 0 z else if a=121 then d.jB 1 z
 else if a=110 then d.jB 2 z else if a=107 then d.jB 3 z else if a=115 then d.uM 7 z else d
def xN(d:PD)(i:Nat):Int:=if d.M then d.N.c.getD i 0 else d.I.c.getD i 0
def G(d:PD)(a:Int):Int:=if a=86 then d.I.c.getD 5 0 else if a=87 then d.I.c.getD 6 0 else if a=110 then d.xN 2 else d.xN 3
end PD
def mU(a c:Int):Int:=
 if a=120\/a=121 then ß [97,98,99,100,101,102,103,104] c.toNat.toUInt8
 else if a=115 then ß [48,49,50,51,52,53,54,55,56,57,97,98,99,100,101,102] c.toNat.toUInt8
 else if c=104 then-1 else(c-48)%256
def sd(z c:Int):Int:=É.wrap<|É.wrap (z*10)+(c-48)%256
def se(st:PS)(c:Int):Option PS:=
 if c=59/\st.d.S.length+1<24 then Â {st with C:=[82]}
 else if c=44/\0<st.d.Y.length/\st.d.Y.length<8 then Â {st with C:=[120,84],d:=st.d.rZ}
 else Á
def zN(st:PS)(k:Int):Option PS:=if k=0 then Á else Â {st with C:=vN k,d:=st.d.F8 k}
def xO(st:PS)(k:Int):Option PS:=if k=0 then Á else Â {st with C:=pE k,I:=0,d:=st.d.vP 4 k}
def pF(st:PS)(a c:Int):PS:={st with r:=rY a c,M:=a,d:=st.d.fW a (mU a c)}
def lu(B:ByteArray)(k:Nat)(st:PS)(c:Int):Option PS:=
 match st.C with
 |[]=>se st c
 |want::tl=>
  if want=82 then zN st (xM c)
  else if want=66 then
   if rX c=Î then Â (pF {st with C:=[84],d:=st.d.rZ} 120 c)else se st c
  else if want=84 then xO st (NH c)
  else if want=80 then
   if c=125 then Â {st with C:=tl,d:=st.d.tj (B.extract (k-st.I.toNat) k)}
   else if st.I=40\/lH c=0 then Á else Â {st with I:=st.I+1}
  else if qw want c=Î then Â {pF st want c with C:=tl}
  else Á
def JB(st:PS)(c:Int):PS:={st with r:=st.r-1,d:=st.d.fW st.M (sd (st.d.G st.M) c)}
def re(B:ByteArray)(k:Nat)(st:PS)(c:Int):Option PS:=
 if 0<st.r/\jR c=Î then Â (JB st c)else lu B k {st with r:=0} c
def ou(B:ByteArray):Nat->Nat->PS->Nat×PS
 |0,k,st=>(k,st)
 |f+1,k,st=>if h:k<B.size then match re B k st (B[k].toNat:Int)with
  |none=>(k,st)
  |some a=>ou B f (k+1) a
  else(k,st)
def pd0:PD:=⟨[],Ë,⟨[],[]⟩,Ë,⟨[],⟨#[]⟩⟩⟩
def tq:PS:=⟨[82],0,0,0,pd0⟩
def sf(c:Int)(w:Í): Ò À 94 #[Å ū c] w λe a=>e=Ç (õ<|jR c)/\a=w:=by
 go_enter Tryz.func94,Tryz.ntmps94;go_wp2;all_goals go_ret
 all_goals exact⟨Z0 (by simp only[jR];first|(simp[*];done)|(rw[Ě];simp;omega)),U⟩
def apX(s:ByteArray)(c:Int)(w:Í): Ò À 167 #[Ä s,Å ū c] w λe a=>e=Ç (Å É<|ß s.data.toList c.toNat.toUInt8)/\a=w:=by go_enter Tryz.func167,Tryz.ntmps167;go_wp2;rw[run_callFunc_extern Tryz.func185 ft ft ft ft,Lib.run_indexByteString];simp only[ų];rw[Oper.upon_value];go_wp2;go_ret;exact⟨U,U⟩
def JC(s:ByteArray)(c:Int)(w:Í): Ò À 146 #[Ä s,Å ū c] w λe a=>e=Ç (Å É<|ß s.data.toList c.toNat.toUInt8)/\a=w:=by go_enter Tryz.func146,Tryz.ntmps146;go_wp2_with (go_at_call 167;refine(apX _ _ _).mono ?_;rintro e a ⟨rfl,rfl⟩);go_ret;exact⟨U,U⟩
def NJ(c:Int):Bool:=jR c||(decide (97<=c)&&decide (c<=102))
def apY:∀n:Fin 256,decide (0<=ß [97,98,99,100,101,102,103,104] n.val.toUInt8)=rX (n.val:Int):=by decide+kernel
def apZ:∀n:Fin 256,decide (0<=ß [48,49,50,51,52,53,54,55,56,57,97,98,99,100,101,102] n.val.toUInt8)=NJ (n.val:Int):=by decide+kernel
def ap0(a:0<=c)(b:c<256):decide (0<=ß [97,98,99,100,101,102,103,104] c.toNat.toUInt8)=rX c:=by have:=apY ⟨c.toNat,Z⟩;rwa[show((c.toNat:Nat):Int)=c from by omega]at this
def ap1(a:0<=c)(b:c<256):decide (0<=ß [48,49,50,51,52,53,54,55,56,57,97,98,99,100,101,102] c.toNat.toUInt8)=NJ c:=by have:=apZ ⟨c.toNat,Z⟩;rwa[show((c.toNat:Nat):Int)=c from by omega]at this
def T1(c:Int)(b:0<=c)(d:c<256)(w:Í): Ò À 98 #[Å ū c] w λe a=>e=Ç (õ<|rX c)/\a=w:=by
 have f:=ap0 b d;go_enter Tryz.func98,Tryz.ntmps98;go_wp2_with (go_at_call 146;refine(JC _ _ _).mono ?_;rintro e a ⟨rfl,rfl⟩);all_goals go_ret
 all_goals exact⟨U,U⟩
def ap2(c:Int)(b:0<=c)(d:c<256)(w:Í): Ò À 149 #[Å ū c] w λe a=>e=Ç (õ<|NJ c)/\a=w:=by
 have f:=ap1 b d;go_enter Tryz.func149,Tryz.ntmps149;go_wp2_with (go_at_call 146;refine(JC _ _ _).mono ?_;rintro e a ⟨rfl,rfl⟩);all_goals go_ret
 all_goals exact⟨U,U⟩
def ap3(c:Int)(w:Í): Ò À 102 #[Å ū c] w λe a=>e=Ç (Å É<|NH c)/\a=w:=by
 go_enter Tryz.func102,Tryz.ntmps102;go_wp2;all_goals go_ret
 all_goals refine⟨Fv ?_,U⟩
 all_goals simp only[beq_iff_eq,beq_eq_false_iff_ne,ne_eq]at*
 all_goals simp[NH, *]
def ap4(c:Int)(w:Í): Ò À 97 #[Å ū c] w λe a=>e=Ç (Å É<|xM c)/\a=w:=by
 go_enter Tryz.func97,Tryz.ntmps97;go_wp2;all_goals go_ret
 all_goals refine⟨Fv ?_,U⟩
 all_goals simp only[beq_iff_eq,beq_eq_false_iff_ne,ne_eq]at*
 all_goals simp[xM, *]
def aa2(b c:Int)(d:0<=c)(f:c<256)(w:Í): Ò À 104 #[Å ū b,Å ū c] w λe a=>e=Ç (õ<|qw b c)/\a=w:=by
 go_enter Tryz.func104,Tryz.ntmps104;go_wp2_with (first|(go_at_call 94;refine(sf _ _).mono ?_;rintro e a ⟨rfl,rfl⟩)|(go_at_call 98;refine(T1 _ d f _).mono ?_;rintro e a ⟨rfl,rfl⟩)|(go_at_call 149;refine(ap2 _ d f _).mono ?_;rintro e a ⟨rfl,rfl⟩));all_goals go_ret
 all_goals refine⟨Z0 ?_,U⟩
 all_goals try go_light
 all_goals simp only[beq_iff_eq,beq_eq_false_iff_ne,ne_eq]at*
 all_goals unfold qw
 all_goals first|(simp[NJ, *];done)|(rw[Ě];simp[*];done)|(rw[Ě];simp[*];omega)
def ap5(k:Int)(w:Í): Ò À 145 #[Å É k] w λe a=>(∃b:ByteArray,e=Ç (Ä b)/\b.size<=10/\jS b=vN k)/\a=w:=by
 go_enter Tryz.func145,Tryz.ntmps145;go_wp2;all_goals go_ret
 all_goals refine⟨⟨_,U,?_,?_⟩,U⟩
 all_goals try go_light
 all_goals simp only[beq_iff_eq,beq_eq_false_iff_ne,ne_eq]at*
 all_goals first|(simp[jS,vN, *];done)|decide
def ap6(k:Int)(w:Í): Ò À 148 #[Å É k] w λe a=>(∃b:ByteArray,e=Ç (Ä b)/\b.size<=10/\jS b=pE k)/\a=w:=by
 go_enter Tryz.func148,Tryz.ntmps148;go_wp2;all_goals go_ret
 all_goals refine⟨⟨_,U,?_,?_⟩,U⟩
 all_goals try go_light
 all_goals simp only[beq_iff_eq,beq_eq_false_iff_ne,ne_eq]at*
 all_goals first|(simp[jS,pE, *];done)|decide
def mV(m s:Nat):Ñ->Prop
 |Å ū _=>False
 |Å _ _=>True
 |õ _=>True
 |Ä _=>True
 |Ã Á=>True
 |Ã (Â a)=>m<=a.block/\a.block<s
 |Æ Á _ _=>True
 |Æ (Â a) _ _=>m<=a.block/\a.block<s
 |_=>False
def mV.r(h:mV m i v)(d:i<=n):mV m n v:=by
 cases v with
 |int k b=>cases k<;>exact h
 |pointer a=>cases a with
  |none=>trivial
  |some a=>exact⟨h.1,Ģ h.2 d⟩
 |slice a b c=>cases a with
  |none=>trivial
  |some a=>exact⟨h.1,Ģ h.2 d⟩
 |_=>exact h
def NK(m s:Nat)(o:Obj):Prop:=∃c e a,o=Û c e a/\a.2<=c.size/\0<c.size/\e≠304/\e≠305/\∀v∈c.toList,mV m s v
def jC(m:Nat)(w:Í):Prop:=∀i o,m<=i->w.heap[i]?=Â o->NK m w.heap.size o
def NK.r{o:Obj}(h:NK m i o)(a:i<=n):NK m n o:=by let⟨c,e,b,d,f,g,j,k,l⟩:=h;exact⟨c,e,b,d,f,g,j,k,λv p=>(l v p).r a⟩
def jC.I(w:Í):jC w.heap.size w:=λi o a h=>by rw[ı a]at h;cases h
def jC.fR(h:jC m w):jC m w.drew:=h
def jC.iN(h:jC m w)(n:Nat):jC m (w.drewN n):=h
theorem jC.gG(h:jC m w)(cs:Array Ñ)(t:Ď)(c:0<cs.size)(b:t≠304/\t≠305)(d:∀v∈cs.toList,mV m w.heap.size v):jC m (w.alloc<|Û cs t):=by
 intro i o f a;have k:(w.alloc<|Û cs t).heap.size=w.heap.size+1:=fj
 by_cases e:i<w.heap.size
 .rw[Š _ _ _ e]at a;exact(h i o f a).r Z
 .by_cases g:i=w.heap.size
  .subst g;rw[Ŵ]at a;cases a;exact⟨cs,t,(0,0),U,Ö _,c,b.1,b.2,λv j=>(d v j).r Z⟩
  .grind
def jC.r(h:jC m w)(p:ù)(l:mV m w.heap.size v):jC m (w.setCell p v):=by
 intro i o f a;have n:(w.setCell p v).heap.size=w.heap.size:=fj
 rw[n];by_cases e:i=p.block
 .subst e;unfold Ż at a;simp only[Ķ,if_true]at a;cases d:w.heap[p.block]? with
  |none=>rw[d]at a;cases a
  |some x=>
   rw[d]at a;obtain⟨c,e,r,rfl,g,j,s,t,k⟩:=h _ _ f d;simp only[û,Ô]at a;subst a;refine⟨_,e,r,U,?_,?_,s,t,λu b=> ?_⟩
   .split
    .exact g
    .rwa[Ĭ]
   .split
    .exact j
    .rwa[Ĭ]
   .split at b
    .exact k u b
    .rw[Array.toList_setIfInBounds]at b;rcases Ĩ b with q|q
     .exact k u q
     .rwa[q]
 .rw[ģ _ _ _ _ (by simpa using e)]at a;exact h i o f a
theorem ap7{ty:Ď}{bytes base:Nat}(y:P.underlying t=Â (.slice e))(B:P.info? e=Â zJ)(G:zJ.zero=Â (Ã Á)) (s:zJ.size=1) (H:zJ.bytes=bytes) (f:w.ownsRow base e 1 v n l) (a:ù) (c:Nat) (C:∀j M,[z][j]?=Â M->w.cell? (a.add j)=Â M) (N:z.oneCell'=Î) (O:n+1<=đ) (I:(n+1)*bytes<=140737488355328) (W:base<=w.heap.size) (X:mb e=Ë) (hm:m<=base) (D:jC m w) (hg:mV m w.heap.size z) (Y:e≠304/\e≠305): ∃h u,(ę #[t,t] ty #[v,Æ (Â a) 1 c]).run P w=.ok h u/\qf w base e 1 v n l 1 [z] h u/\jC m u/\mV m u.heap.size h:=by
 obtain⟨h,u,J,E⟩:=Sq y B G s H U f a c [z] Z U C (λx b=>by simp at b;subst b;exact N) O I W<|È X;have hgv:mV m u.heap.size h:=by
  obtain⟨p,o,rfl⟩:=jh E.fp;cases p with
  |none=>trivial
  |some p=>
   have k:=E.fp.lt p.block (by rcases E.fp.2 with⟨q,_⟩|⟨g,r,d,q,_⟩<;>(cases q;try rfl));exact⟨Z,k.2⟩
 refine⟨h,u,J,E,?_,hgv⟩;have q:[z].length=1*zJ.size:=by rw[s];rfl
 have hlx:l.length=n*zJ.size:=by rw[s];exact f.1
 have akU:n+1<=9223372036854775807:=by simp only[đ]at O;omega
 have tX:∀x∈l,mV m w.heap.size x:=λx b=>by
  rcases f.2 with⟨_,rfl⟩|⟨g,r,d,rfl,hbg,p,hnc,hcm,Q,htake⟩
  .grind
  .let⟨c2,e2,qD,S,_,_,_,_,q6⟩:=D g _ Z p;grind
 have gr:∀T,jC m (w.drew.alloc<|Û (l.toArray++[z].toArray++ψ (Ĺ<|Ã Á) (grownCap w (n+1) T e-(n+1))) e):=λT=>by
  refine jC.gG D _ _ (by simp;omega) Y λx b=> ?_;simp only[Array.toList_append,â]at b;rcases b with(b|b)|b
  .exact tX x b
  .grind
  .have:=Sp b;simp[Ĺ]at this;subst this;trivial
 rcases f.2 with⟨rfl,rfl⟩|⟨g,r,d,rfl,hbg,p,hnc,hcm,Q,htake⟩
 .have b:=Þ (by simpa using f.1);subst b;have K:=run_append_nil w t ty e zJ (Ã Á) y B G a 1 c [z] q C Z Z (by rw[H];have k:=I;simp only[œ]at k;omega);grind
 .by_cases ap8:n+1<=r
  .have Sr:n*zJ.size+[z].length<=d.size:=by rw[q,Q,s];omega
   have K:=run_append_room w t ty e zJ y B g n r d p a 1 c [z] q C (λx b=>by simp at b;subst b;exact N) ap8 Sr;rw[K]at J;cases J;have ap9:=setRow_heap w g d (d.toList.take (n*zJ.size)++[z]++d.toList.drop (n*zJ.size+[z].length)).toArray e _ p;have aqa:=λk (L:k≠g)=>setRow_other w g k (d.toList.take (n*zJ.size)++[z]++d.toList.drop (n*zJ.size+[z].length)).toArray L;let⟨c2,e2,qD,S,q2,q3,q4,q5,q6⟩:=D g _ Z p;cases S;intro k o L F;have jr:(w.setRow g (d.toList.take (n*zJ.size)++[z]++d.toList.drop (n*zJ.size+[z].length)).toArray).heap.size=w.heap.size:=fj
   rw[jr];by_cases V:k=g
   .subst V;rw[ap9]at F;cases F;refine⟨_,_,_,U,fj,(by simp;omega),q4,q5,λx b=> ?_⟩;grind
   .rw[aqa k V]at F;exact D k o L F
  .have k:w.ownsRow base e zJ.size (Æ (Â ⟨g,0,Á⟩) n r) n l:=by rwa[s]
   have K:=run_append_grow w t ty e zJ (Ã Á) y B G ⟨g,0,Á⟩ n r l hlx (k.cells U) a 1 c [z] q C Z Z (by rw[H];exact growslice_fits Z I);grind
def aa3{f:Array ğ}{E:Prop}{base:Nat} (k:o.guard=Á) (s x:Operand) (t:Ď) (p:o.op=Op.call {callee:=Callee.builtin ξ,args:=#[s,x],argTypes:=#[t,t]}) {bytes:Nat} (q:P.underlying t=Â (.slice e)) (r:P.info? e=Â zJ) (B:zJ.zero=Â (Ã Á)) (C:zJ.size=1) (D:zJ.bytes=bytes) (F:y.eval s=v) (G:w.ownsRow base e 1 v n l) (ad:ù) (H:y.eval x=Æ (Â ad) 1 b) (I:∀j g,[z][j]?=Â g->w.cell? (ad.add j)=Â g) (J:z.oneCell'=Î) (L:n+1<=đ) (M:(n+1)*bytes<=140737488355328) (N:base<=w.heap.size) (O:mb e=Ë) (S:m<=base) (T:jC m w) (V:mV m w.heap.size z) (W:e≠304/\e≠305) (h:∀d u,qf w base e 1 v n l 1 [z] d u->jC m u->mV m u.heap.size d->K (y.put o.dst d) u): if ē o (Ι f y.tmps)=Î then Oper.wp P o y w K vJ else E:=by
 have X:ē o (Ι f y.tmps)=Î:=by simp[ē,k]
 rw[if_pos X];let⟨d,u,Y,h2,h3,h4⟩:=ap7 (ty:=o.type) q r B C D G ad b I J L M N O S T V W;unfold Oper.wp;simp[ś,p,σ,av,υ,F,H,Y,ų];exact h d u h2 h3 h4
def nD(l:List Nat):List Ñ:=l.map λa=>Ã<|Â ⟨a,0,Á⟩
def ov(l:List Int):List Ñ:=l.map λz=>Å É z
def F9(p:PT):List Ñ:=ov p.c++[Ä p.p]
def Dw(c:List Int)(a:Ñ):List Ñ:=ov c++[a]
structure oP(lo hi:Nat)(tb:List Nat)(l:List PT)(w:Í):Prop where
 r:tb.length=l.length
 I:∀(j a:Nat) (p:PT),tb[j]?=Â a->l[j]?=Â p->lo<=a/\a<hi/\p.c.length=5/\fg a (F9 p) 200 w
structure vR(B q:Nat)(r:PR)(w:Í):Prop where
 M:q<B
 C:r.c.length=8
 I:∃vb tb,fg q (Dw r.c vb) 161 w/\w.ownsRow 0 149 1 vb tb.length (nD tb)/\(∀j,vb.ownBlock=Â j->j<B)/\oP 0 B tb r.r w
structure pG(B:Nat)(qs:List Nat)(rs:List PR)(w:Í):Prop where
 I:qs.length=rs.length
 M:∀(j q:Nat) (r:PR),qs[j]?=Â q->rs[j]?=Â r->vR B q r w
section
variable{w':Í}{lo hi B q:Nat}{tb qs:List Nat}{l:List PT}{r:PR}{rs:List PR}
def oP.C(h:oP lo hi tb l w)(k:e9 X w w')(f:∀a c g,lo<=a->a<hi->w.heap[a]?=Â (Û c 200 g)->¬X a):oP lo hi tb l w':= ⟨h.r,λj a p i m=>by let⟨b,d,n,e⟩:=h.I j a p i m;exact⟨b,d,n,e.I k<|f a _ _ b d e⟩⟩
def oP.M(h:oP lo hi tb l w)(f:i<=lo)(g:hi<=n):oP i n tb l w:= ⟨h.r,λj a p b c=>by let⟨k,m,d,e⟩:=h.I j a p b c;exact⟨Z,Z,d,e⟩⟩
def oP.N(lo hi:Nat)(w:Í):oP lo hi [] [] w:=⟨U,λj a p h=>by cases h⟩
theorem Gb{α:Type}{l:List α}{a x:α}(h:(l++[a])[j]?=Â x):l[j]?=Â x\/j=l.length/\x=a:=by grind
theorem oP.T3{p:PT}(h:oP lo hi tb l w)(g:lo<=i)(k:i<hi)(m:p.c.length=5)(n:fg i (F9 p) 200 w):oP lo hi (tb++[i]) (l++[p]) w:=by
 refine⟨by simp[h.r],λj x y d b=> ?_⟩;rcases Gb d with e|⟨e,rfl⟩
 .rcases Gb b with f|⟨f,rfl⟩
  .exact h.I j x y e f
  .have:=(Õ.1 e).1;have:=h.r;omega
 .rcases Gb b with f|⟨f,rfl⟩
  .have:=(Õ.1 f).1;have:=h.r;omega
  .grind
def T4(B:Nat)(w:Í)(i:Nat):Prop:=B<=i\/∃c T a,w.heap[i]?=Â (Û c T a)/\(T=153\/T=148)
theorem T5(a:T4 B w i)(hi:i<B)(h:w.heap[i]?=Â (Û d T xJ))(b:T≠153/\T≠148):False:=by rcases a with q|⟨e,f,qD,g,j⟩;all_goals grind
def vR.vi(h:vR B q r w)(k:e9 X w w')(b:∀i,i<w.heap.size->X i->T4 B w i):vR B q r w':=by let⟨n,tb,d,e,f,o⟩:=h.I;refine⟨h.M,h.C,n,tb,d.I k λx=>T5 (b q d.M x) h.M d A,ia e k λj g x=> ?_,f,o.C k λa c s _ p l x=>T5 (b a (Ý.1 l).1 x) p l A⟩;let⟨t,m⟩:=lG e g;exact T5 (b j (Ý.1 m).1 x) (f j g) m A
def vR.fM(h:vR B q r w)(a:B<=i):vR i q r w:=by let⟨b,tb,c,d,e,f⟩:=h.I;exact⟨by have:=h.M;omega,h.C,b,tb,c,d,λj g=>by have:=e j g;omega,f.M (æ _) a⟩
def pG.C(h:pG B qs rs w)(k:e9 X w w')(a:∀i,i<w.heap.size->X i->T4 B w i):pG B qs rs w':= ⟨h.I,λj q r b c=>(h.M j q r b c).vi k a⟩
def pG.T3(h:pG B qs rs w)(b:B<=i)(c:vR i q r w):pG i (qs++[q]) (rs++[r]) w:=by
 refine⟨by simp[h.I],λj x y d a=> ?_⟩;rcases Gb d with e|⟨e,rfl⟩
 .rcases Gb a with f|⟨f,rfl⟩
  .exact(h.M j x y e f).fM b
  .have:=(Õ.1 e).1;have:=h.I;omega
 .rcases Gb a with f|⟨f,rfl⟩
  .have:=(Õ.1 f).1;have:=h.I;omega
  .exact c
def pG.N(B:Nat)(w:Í):pG B [] [] w:=⟨U,λj q r h=>by cases h⟩
end
structure Gh where
 a:List Nat
 q:Nat
 t:Nat
 B:Nat
 tb:List Nat
 N:Ñ
 r:Ñ
 b:Option ù
namespace Gh
def C(g:Gh)(d:PD):List Nat:=if d.r then g.a++[g.q]else g.a
def I(g:Gh)(d:PD):List Nat:=if d.M then g.tb++[g.t]else g.tb
def S(g:Gh)(d:PD):Option ù:=if d.r then Â ⟨g.q,0,Á⟩else Á
def Y(g:Gh)(d:PD):Option ù:=if d.M then Â ⟨g.t,0,Á⟩else g.b
def M(g:Gh)(d:PD):Nat:=if d.M then g.t else g.q
def G(g:Gh)(d:PD):Option ù:=if d.r then Â ⟨g.M d,0,Á⟩else Á
def Dx(g:Gh)(d:PD)(a:Int):ù:=if a=86 then⟨g.q,5,Á⟩else if a=87 then⟨g.q,6,Á⟩else if a=110 then⟨g.M d,2,Á⟩else⟨g.M d,3,Á⟩
end Gh
structure vS(m:Nat)(g:Gh)(d:PD)(w:Í):Prop where
 S:m<=g.B
 N:g.B<=g.q
 M:d.I.c.length=8
 r:fg g.q (Dw d.I.c g.r) 161 w
 I:w.ownsRow g.B 149 1 g.r (g.I d).length (nD<|g.I d)
 Y:oP g.B g.t g.tb d.I.r w
 C:d.M=Î->g.B<=g.t/\d.N.c.length=5/\fg g.t (F9 d.N) 200 w
 a:d.M=Ë->g.tb=[]/\d.I.r=[]
structure kv(m:Nat)(g:Gh)(d:PD)(w:Í):Prop where
 C:w.ownsRow m 148 1 g.N (g.C d).length (nD<|g.C d)
 I:pG g.B g.a d.S w
 r:d.r=Î->vS m g d w
 N:d.r=Ë->d.M=Ë
def T7(s:ByteArray)(g:Gh)(d:PD)(a:Option ù)(lj b:Int):List Ñ:=
 [Ä s,g.N,Ã<|g.S d,Ã<|g.Y d,Ã<|g.G d,Ã a,Å É lj,Å É b]
structure gP(m b:Nat)(g:Gh)(c:Option ù)(s:ByteArray)(st:PS)(w:Í):Prop where
 S:m<=b
 a:jC m w
 r:fg b (T7 s g st.d c st.r st.I) 153 w
 M:s.size<=10
 I:jS s=st.C
 C:kv m g st.d w
 c:0<st.r->st.d.r=Î/\c=Â (g.Dx st.d st.M)
 N:st.d.r=Î\/st.C=[82]
def si(m b:Nat)(st:PS)(w a:Í):Prop:=e9 (λi=>m<=i) w a/\∃g i s,gP m b g i s st a
section
variable{w':Í}{g:Gh}{d:PD}{s:ByteArray}{st:PS}
theorem vS.vi(h:vS m g d w)(k:e9 X w w')(p:∀i c T b,w.heap[i]?=Â (Û c T b)->X i->T=153\/T=148):vS m g d w':=by
 have l:∀{i:Nat} {c:Array Ñ} {T:Ď} {b:Nat×Nat},w.heap[i]?=Â (Û c T b)->(T≠153/\T≠148)->¬X i:=λ{i c T b} n f x=>(p i c T b n x).elim f.1 f.2;refine⟨h.S,h.N,h.M,h.r.I k<|l h.r A,ia h.I k λj r=> ?_,h.Y.C k λa c b _ _ q=>l q A,λe=> ?_,h.a⟩
 .let⟨o,s⟩:=lG h.I r;grind
 .let⟨n,f,o⟩:=h.C e;exact⟨n,f,o.I k<|l o A⟩
theorem kv.S(h:kv m g d w)(k:e9 X w w')(b:∀i c T a,w.heap[i]?=Â (Û c T a)->X i->T=153)(f:∀i,i<w.heap.size->X i->∃c a,w.heap[i]?=Â (Û c 153 a)):kv m g d w':=by
 refine⟨ia h.C k λj l x=> ?_,h.I.C k λi n x=> ?_,λe=>(h.r e).vi k λi c T a q x=>È<|b i c T a q x,h.N⟩
 .let⟨o,q⟩:=lG h.C l;grind
 .let⟨c,a,q⟩:=f i n x;exact Ï ⟨c,_,a,q,È U⟩
def kv.M(h:kv m g d w)(a:fg b l 153 w)(k:e9 (λi=>i=b) w w'):kv m g d w':= h.S k (λi c T e q x=>by subst x;unfold fg at a;rw[a]at q;cases q;rfl) λi _ x=>⟨l.toArray,(0,0),by rwa[x]⟩
def pH{i:Nat}{v:Value}{j:Nat}{vs:List Value}{T:TypeId}(h:fg j vs T w)(hT:mb T=false:=by decide):e9 (λk=>k=j) w (w.setCell ⟨j,i,none⟩ v):=e9.I (X:=λk=>k=j) U v<|Ï<|h.G hT
def kv.aa4(h:kv m g d w):(g.C d).length=d.C.length:=by unfold Gh.C PD.C;split<;>simp[h.I.I]
def vS.G(h:vS m g d w):(g.I d).length=d.Y.length:=by unfold Gh.I PD.Y;split<;>simp[h.Y.r]
def T8(h:i<zQ.length)(v:Ñ):(ov zQ++[v])[i]?=Â (Å É<|zQ.getD i 0):=by rw[Ħ (by simpa[ov]using h)];simp[ov,Ġ,h]
def aa5(l:List Int)(i:Nat)(z:Int)(v:Ñ)(h:i<l.length):(ov l++[v]).set i (Å É z)=ov (l.set i z)++[v]:=by rw[List.set_append_left _ _ (by simpa[ov]using h)];simp[ov,List.map_set]
def aa6(l:List Int)(v u:Ñ):(ov l++[v]).set l.length u=ov l++[u]:=by rw[Ĵ _ _ (by simp[ov])];simp[ov]
def Dy(l:List Int)(v:Ñ):(ov l++[v])[l.length]?=Â v:=by rw[ġ (by simp[ov])];simp[ov]
theorem kv.Y(h:kv m g d w)(on:d.r=Î)(n:i<8)(z:Int):kv m g (d.uM i z) (w.setCell ⟨g.q,i,Á⟩<|Å É z):=by
 have l:=h.r on;have k:e9 (λk=>k=g.q) w (w.setCell ⟨g.q,i,Á⟩<|Å É z):=pH l.r;have r:=l.N;refine⟨ia h.C k λj b x=>jA h.C l.r A (by rw[b,x]),h.I.C k λi _ x=>È Z,λ_=>⟨l.S,l.N,by simp[PD.uM,l.M],?_,ia l.I k λj b x=>jA l.I l.r A (by rw[b,x]),l.Y.C k λa c s _ _ q x=> ?_,λe=> ?_,l.a⟩,h.N⟩
 .have:=l.r.fW i<|Å É z;unfold Dw at this;rw[aa5 _ _ _ _ (by rwa[l.M])]at this;exact this
 .have:=l.r;unfold fg at this;grind
 .let⟨o,p,f⟩:=l.C e;exact⟨o,p,f.I k λx=>(fg.S f l.r A) x⟩
theorem kv.jB(h:kv m g d w)(on:d.r=Î)(f:d.M=Î){p:PT}(n:p.c.length=5)(r:(F9 d.N).set i v=F9 p):kv m g {d with N:=p} (w.setCell ⟨g.t,i,Á⟩ v):=by have l:=h.r on;let⟨o,s,b⟩:=l.C f;have k:e9 (λk=>k=g.t) w (w.setCell ⟨g.t,i,Á⟩ v):=pH b;refine⟨ia h.C k λj e x=>jA h.C b A (by rw[e,x]),h.I.C k λi _ x=>È Z,λ_=>⟨l.S,l.N,l.M,l.r.I k λx=>(fg.S l.r b A) x,ia l.I k λj e x=>jA l.I b A (by rw[e,x]),l.Y.C k λa c u _ q _ x=>by omega,λ_=>⟨o,n,?_⟩,l.a⟩,h.N⟩;have:=b.fW i v;grind
def kv.G(h:kv m g d w)(on:d.r=Î)(a:d.M=Î)(c:i<5)(z:Int):kv m g (d.vP i z) (w.setCell ⟨g.t,i,Á⟩<|Å É z):=by let⟨e,b,f⟩:=(h.r on).C a;exact h.jB on a (by simp[b])<|aa5 _ _ _ _<|by rwa[b]
def kv.tj(h:kv m g d w)(on:d.r=Î)(a:d.M=Î)(p:ByteArray):kv m g (d.tj p) (w.setCell ⟨g.t,5,Á⟩<|Ä p):=by let⟨e,b,f⟩:=(h.r on).C a;refine h.jB on a b ?_;have:=aa6 d.N.c (Ä d.N.p)<|Ä p;rwa[b]at this
def kv.auz(h:kv m g d w)(on:d.r=Î)(a:i<4)(z:Int):kv m g (d.jB i z) (w.setCell ⟨g.M d,i,Á⟩<|Å É z):=by
 unfold PD.jB Gh.M;split
 .rename_i e;exact h.G on e Z z
 .exact h.Y on Z z
structure qx(m b:Nat)(g:Gh)(d:PD)(ab ao:Nat)(f:Int->PD)(x:Int)(w:Í):Prop where
 r:ab≠b
 N:m<=ab
 a:ab<w.heap.size
 C:w.cell? ⟨ab,ao,Á⟩=Â (Å É x)
 I:w.frozen? ⟨ab,ao,Á⟩=Ë
 nf:NF ab w
 Y:∀W,kv m g d W->∀z,kv m g (f z)<|W.setCell ⟨ab,ao,Á⟩<|Å É z
 M:∀z,g.S (f z)=g.S d/\g.Y (f z)=g.Y d/\g.G (f z)=g.G d/\(f z).r=d.r/\∀n,g.Dx (f z) n=g.Dx d n
def Gc(h:kv m g d w)(f:fg b l 153 w)(on:d.r=Î)(e:i<8):qx m b g d g.q i (λz=>d.uM i z) (d.I.c.getD i 0) w:=by have a:=h.r on;exact⟨fg.S a.r f A,Ì a.S a.N,a.r.M,a.r.r i _ (T8 (by rwa[a.M]) _),a.r.C i,a.r.G,λW j z=>j.Y on e z,λz=>⟨U,U,U,U,λn=>rfl⟩⟩
def aa7(h:kv m g d w)(k:fg b l 153 w)(on:d.r=Î)(f:d.M=Î)(j:i<5):qx m b g d g.t i (λz=>d.vP i z) (d.N.c.getD i 0) w:=by have a:=h.r on;let⟨o,p,e⟩:=a.C f;exact⟨fg.S e k A,Ì a.S o,e.M,e.r i _ (T8 (by rwa[p]) _),e.C i,e.G,λW q z=>q.G on f j z,λz=>⟨U,U,U,U,λn=>rfl⟩⟩
def Gd(h:kv m g d w)(a:fg b l 153 w)(on:d.r=Î)(c:i<4):qx m b g d (g.M d) i (λz=>d.jB i z) (d.xN i) w:=by
 unfold PD.jB PD.xN Gh.M;split
 .rename_i e;exact aa7 h a on e Z
 .exact Gc h a on Z
theorem gP.G{f:Int->PD}(h:gP m b g O s st w)(n:qx m b g st.d i j f c w)(z:Int):gP m b g O s {st with d:=f z} (w.setCell ⟨i,j,Á⟩<|Å É z):=by
 let⟨e,l,o,a,p⟩:=n.M z;have k:e9 (λk=>k=i) w (w.setCell ⟨i,j,Á⟩<|Å É z):=e9.I (X:=λk=>k=i) U _<|È U;refine⟨h.S,h.a.r _ trivial,?_,h.M,h.I,n.Y w h.C z,λq=> ?_,?_⟩
 .have:=h.r.I k λc=>n.r c.symm;unfold T7 at this|-;grind
 .let⟨r,t⟩:=h.c q;grind
 .simp only[a];exact h.N
def gP.NL(h:gP m b g O s st w)(a:ByteArray)(r:List Int)(c:a.size<=10)(e:jS a=r)(f:st.d.r=Î\/r=[82]):gP m b g O a {st with C:=r} (w.setCell ⟨b,0,Á⟩<|Ä a):= ⟨h.S,h.a.r _ trivial,h.r.fW 0 _,c,e,h.C.M h.r<|pH h.r,h.c,f⟩
def gP.Y(h:gP m b g O s st w)(z:Int)(a:0<z->st.d.r=Î/\O=Â (g.Dx st.d st.M)):gP m b g O s {st with r:=z} (w.setCell ⟨b,6,Á⟩<|Å É z):= ⟨h.S,h.a.r _ trivial,h.r.fW 6 _,h.M,h.I,h.C.M h.r<|pH h.r,a,h.N⟩
def gP.aa8(h:gP m b g O s st w)(z:Int):gP m b g O s {st with I:=z} (w.setCell ⟨b,7,Á⟩<|Å É z):= ⟨h.S,h.a.r _ trivial,h.r.fW 7 _,h.M,h.I,h.C.M h.r<|pH h.r,h.c,h.N⟩
def gP.aa9(h:gP m b g O s st w)(a:ù)(n:Int)(d:st.r=0)(c:m<=a.block/\a.block<w.heap.size):gP m b g (Â a) s {st with M:=n} (w.setCell ⟨b,5,Á⟩<|Ã<|Â a):= ⟨h.S,h.a.r _ c,h.r.fW 5 _,h.M,h.I,h.C.M h.r<|pH h.r,λq=>by have:0<st.r:=q;omega,h.N⟩
def gP.fR(h:gP m b g O s st w):gP m b g O s st w.drew:=by have k:=e9.fR (λ_=>False) w;exact⟨h.S,h.a,h.r.I k id,h.M,h.I,h.C.S k (λ_ _ _ _ _ x=>x.elim) λ_ _ x=>x.elim,h.c,h.N⟩
end
section
variable{g:Gh}{st:PS}{f:Int->PD}
def qx.S{d:PD}(a:qx m b g d n j f h w)(i:Nat)(v:Ñ):qx m b g d n j f h (w.setCell ⟨b,i,Á⟩ v):= ⟨a.r,a.N,by simpa using a.a,by rw[IV<|Ne.symm a.r];exact a.C,by rw[World.frozen?_setCell];exact a.I,λc T e q=>a.nf c T e (by rwa[ģ _ _ _ _ (by simpa using a.r)]at q),a.Y,a.M⟩
def gP.T9(h:gP m b g O B st w)(n:Int)(a:st.r=0):gP m b g O B {st with M:=n} w:= ⟨h.S,h.a,h.r,h.M,h.I,h.C,λq=>by have:0<st.r:=q;omega,h.N⟩
def mF(h:gP m b g O B st w)(i:Nat)(v:Ñ):e9 (λi=>m<=i) w (w.setCell ⟨b,i,Á⟩ v):=e9.I (X:=λi=>m<=i) (p:=⟨b,i,Á⟩) h.S v<|Ï h.r.G
def Ge(a:qx m b g st.d n j f h w)(z:Int):e9 (λi=>m<=i) w (w.setCell ⟨n,j,Á⟩<|Å É z):=e9.I (X:=λi=>m<=i) (p:=⟨n,j,Á⟩) a.N _<|È U
def vT(c a:Int):Int:=if c=104\/c=48 then 0 else a-1
def mE(c:Int):Int:=if c=104 then-1 else(c-48)%256
def Ua{st:PS}(h:st.r=0)(n:Int)(d:PD):({st with r:=0,M:=n,d:=d}:PS)={st with M:=n,d:=d}:=by rw[<-h]
def NM(a:gP m b g O B st w)(k:qx m b g st.d n j f h w)(l:st.r=0)(p:st.d.r=Î)(c o i:Int)(C:0<=o)(D:o<=6)(q:∀z,g.Dx (f z) i=⟨n,j,Á⟩): Ò À 147 #[Ã<|Â ⟨b,0,Á⟩,Ã<|Â ⟨n,j,Á⟩,Å ū c,Å É o] w λe u=>
  e=Ç (ë #[])/\si m b {st with r:=vT c o,M:=i,d:=f (mE c)} w u:=by
 have E:=a.r.r 5 _ U;have F:=a.r.r 6 _ U;have G:=a.r.C 5;have I:=a.r.C 6;have J:=k.C;have K:=k.I;have L:=k.r;have M:¬b=n:=λe=>k.r e.symm;have t:m<=n/\n<w.heap.size:=⟨k.N,k.a⟩;have H:=fe<|Ê a<|Ê k<|Ê q<|Ê l p;by_cases s:c=104
 .subst s;go_enter Ŗ,ŋ;go_wp2;first|go_end0|refine Ā (results_none U _ _ _) U ?_
  let⟨a,k,q,l,p⟩:=H.out;refine⟨U,Ge k _,g,O,B,?_⟩;have:=(a.G k<|-1).T9 i l;rw[show vT 104 o=0 from if_pos<|È U,Ua l];exact this
 .have N:(c==104)=Ë:=by rwa[beq_eq_false_iff_ne]
  have v:mE c=(c-48)%256:=if_neg s;by_cases y:c=48
  .subst y;go_enter Ŗ,ŋ;go_wp2;go_end0;let⟨a,k,q,l,p⟩:=H.out;have x:=a.aa9 ⟨n,j,Á⟩ i l t;have r:=k.S 5<|Ã<|Â ⟨n,j,Á⟩;refine⟨U,(mF a 5 _).ff<|Ge r _,g,Â ⟨n,j,Á⟩,B,?_⟩;have:=x.G r 0;rw[show vT 48 o=0 from if_pos<|Ï U,Ua l,v];exact this
  .go_enter Ŗ,ŋ;go_wp2;go_end0;let⟨a,k,q,l,p⟩:=H.out;have r:=k.S 5<|Ã<|Â ⟨n,j,Á⟩;have x:=(a.aa9 ⟨n,j,Á⟩ i l t).G r<|(c-48)%256;refine⟨U,((mF a 5 _).ff<|Ge r _).ff<|mF x 6 _,g,Â ⟨n,j,Á⟩,B,?_⟩;rw[show vT c o=o-1 from if_neg Z,v];exact(x.Y (o-1) λ_=>⟨by simp only;rwa[(k.M _).2.2.2.1],by simp only;rw[q]⟩)
theorem NN{b a:Int}(h:qw a c=Î)(e:(a=86\/a=87)/\b=2\/(a=110\/a=107)/\b=6):vT c b=rY a c:=by
 unfold vT rY;unfold qw at h;by_cases d:jR c=Î
 .rw[F7]at d;grind
 .grind
theorem NO{a:Int}(h:¬(a=86\/a=87)/\¬(a=110\/a=107)):rY a c=0:=by unfold rY;grind
theorem NP{a:Int}(h:a=86\/a=87\/a=110\/a=107):mU a c=mE c:=by unfold mU mE;grind
def Ub(a:gP m b g O B st w)(k:qx m b g st.d n j f h w)(l:st.r=0){i z:Int}(e:c=0)(o:u=(w.setCell ⟨n,j,Á⟩<|Å É z).drew):si m b {st with r:=c,M:=i,d:=f z} w u:=by subst o;subst e;rw[Ua l];exact⟨(Ge k z).ff<|e9.fR _ _,g,O,B,((a.G k z).T9 i l).fR⟩
end
section
variable{g:Gh}{st:PS}
def JD{d:PD}(a:d.M=Î):g.Y d=Â ⟨g.t,0,Á⟩:=if_pos a
def aqb:xO st 0=Á:=rfl
def aqc(h:gP m b g O B st w)(r:st.r=0)(on:st.d.r=Î)(f:st.d.M=Î)(k:Int): Ò À 101 #[Ã<|Â ⟨b,0,Á⟩,Å É k] w λe u=>match xO st k with
  |none=>e=Ç (õ Ë)/\u=w
  |some a=>e=Ç (õ Î)/\si m b a w u:=by
 have s:=h.r.r 0 _ U;have o:=h.r.r 3 _ U;have v:=h.r.r 7 _ U;rw[JD f]at o;have x:=h.r.C 0;have y:=h.r.C 7;have a:=aa7 h.C h.r on f (i:=4) A;have z:=a.C;have C:=a.I;have D:=a.r;have E:¬b=g.t:=λe=>a.r e.symm;have H:=fe<|Ê h a;by_cases c:k=0
 .subst c;rw[aqb];go_enter Κ,ż;go_wp2;go_ret;exact⟨U,U⟩
 .have F:(k==0)=Ë:=by rwa[beq_eq_false_iff_ne]
  have e:xO st k=Â {st with C:=pE k,I:=0,d:=st.d.vP 4 k}:=if_neg c;rw[e];go_enter Κ,ż;go_wp2_with (go_at_call 148;refine(ap6 _ _).mono ?_;rintro e u ⟨⟨j,rfl,p,q⟩,l⟩;subst u);go_ret;let⟨h,a⟩:=H.out;have l:=h.G a k;have n:=l.aa8 0;exact⟨U,((Ge a k).ff<|mF l 7 _).ff<|mF n 0 _,g,O,j,n.NL j _ p q<|È on⟩
end
def aqd:(À.info? 149).map (λi=>(i.zero,i.size,i.bytes))=Â (Â<|Ã Á,1,8):=ft
def aqe:(À.info? 148).map (λi=>(i.zero,i.size,i.bytes))=Â (Â<|Ã Á,1,8):=ft
section
variable{g:Gh}{nm:Option ù}{s:ByteArray}{st:PS}{d:PD}{T:Nat}
structure uN(m:Nat)(g:Gh)(d:PD)(T:Nat)(w:Í):Prop where
 C:w.ownsRow m 148 1 g.N (g.C d).length (nD<|g.C d)
 I:pG g.B g.a d.S w
 N:oP g.B T (g.I d) d.Y w
 tb:fg T (F9 PD.F4) 200 w
def JF(x:i=j)(h:fg j l t w):w.heap[i]?=Â (Û l.toArray t (0,0)):=by rwa[x]
theorem uN.r(h:uN m g d T w)(k:e9 X w u)(f:∀i,i<w.heap.size->X i->∃c t b,w.heap[i]?=Â (Û c t b)/\(t=153\/(t=161\/t=149)/\g.B<=i)):uN m g d T u:=by
 have e:∀{i:Nat} {c:Array Ñ} {t:Ď} {b:Nat×Nat},w.heap[i]?=Â (Û c t b)->(t≠153/\t≠161/\t≠149)->¬X i:=λ{i c t b} q1 q2 x=>by grind
 refine⟨ia h.C k λj l=> ?_,h.I.C k λi n x=> ?_,h.N.C k λa c b _ _ q=>e q A,h.tb.I k<|e h.tb A⟩
 .let⟨o,p⟩:=lG h.C l;grind
 .let⟨r,s,qD,o,p⟩:=f i n x;rcases p with rfl|⟨_,z⟩
  .exact Ï ⟨_,_,_,o,È U⟩
  .exact È z
def uN.fK(h:uN m g d T w)(k:e9 (λ_=>False) w u):uN m g d T u:=h.r k λ_ _ x=>x.elim
def uN.M(h:uN m g d T w)(a:fg b l 153 w):uN m g d T (w.setCell ⟨b,i,Á⟩ v):= h.r (pH a) λi _ x=>⟨_,_,_,JF x a,È U⟩
def vS.abb(l:vS m g d w):oP g.B w.heap.size (g.I d) d.Y w:=by
 unfold Gh.I PD.Y;split
 .rename_i e;let⟨a,b,c⟩:=l.C e;have:=c.M;exact(l.Y.M (æ _) Z).T3 a c.M b c
 .rename_i e;let⟨a,b⟩:=l.a (by simpa using e);rw[a,b];exact oP.N _ _ _
theorem jC.C(n:jC m w)(g:fg b l e w)(C:m<=b)(p:e≠304/\e≠305)(d:Array Ñ)(t:Ď)(u:0<d.size)(r:t≠304/\t≠305)(h:∀v∈d.toList,mV m (w.heap.size+1) v):jC m ((w.setCell ⟨b,i,Á⟩<|Ã<|Â ⟨w.heap.size,0,Á⟩).alloc<|Û d t):=by
 have s:(w.setCell ⟨b,i,Á⟩<|Ã<|Â ⟨w.heap.size,0,Á⟩).heap.size=w.heap.size:=fj
 have D:=g.M;intro j o k c;have x:((w.setCell ⟨b,i,Á⟩<|Ã<|Â ⟨w.heap.size,0,Á⟩).alloc<|Û d t).heap.size=w.heap.size+1:=fj
 rw[x];by_cases a:j<w.heap.size
 .rw[Š _ _ _ (by rwa[s])]at c;by_cases f:j=b
  .subst f;have:=g.fW i<|Ã<|Â ⟨w.heap.size,0,Á⟩;unfold fg at this;rw[this]at c;cases c;let⟨E,F,G,y,H,z,I,J,B⟩:=n j _ k g;cases y;refine⟨_,_,_,U,fj,by simpa using z,p.1,p.2,λv h=> ?_⟩;rcases Ĩ (by simpa using h)with q|q
   .exact(B v<|by simpa using q).r Z
   .rw[q];exact⟨Ì k<|Nat.le_of_lt a,Nat.lt_succ_self _⟩
  .rw[ģ _ _ _ _ (by simpa using f)]at c;exact(n j o k c).r Z
 .by_cases f:j=w.heap.size
  .have:=Ŵ (w.setCell ⟨b,i,Á⟩<|Ã<|Â ⟨w.heap.size,0,Á⟩)<|Û d t;rw[s]at this;rw[f,this]at c;cases c;exact⟨_,_,_,U,Ö _,u,r.1,r.2,h⟩
  .grind
def NQ(b:Nat)(w:Í):Í:=(w.setCell ⟨b,3,Á⟩<|Ã<|Â ⟨w.heap.size,0,Á⟩).alloc<|Û #[Å É 0,Å É 0,Å É 0,Å É 0,Å É 0,Ä ⟨#[]⟩] 200
def rdM(s:ByteArray)(g:Gh)(d:PD)(a b nm:Option ù)(lj c:Int):List Ñ:=
 [Ä s,g.N,Ã<|g.S d,Ã a,Ã b,Ã nm,Å É lj,Å É c]
structure Gf(m b:Nat)(g:Gh)(d:PD)(T:Nat)(s:ByteArray)(tm nm:Option ù)(lj Uc:Int)(w0 w:Í):Prop where
 S:e9 (λi=>m<=i) w0 w
 N:jC m w
 r:fg b (rdM s g d (Â ⟨T,0,Á⟩) tm nm lj Uc) 153 w
 M:uN m g d T w
 I:fg g.q (Dw d.I.c g.r) 161 w
 C:w.ownsRow g.B 149 1 g.r (g.I d).length (nD<|g.I d)
def Gf.fK{lj:Int}(h:Gf m b g d T s O nm lj c W w)(k:e9 (λ_=>False) w u)(a:jC m u):Gf m b g d T s O nm lj c W u:= ⟨h.S.C k λ_ _ x=>x.elim,a,h.r.I k id,h.M.fK k,h.I.I k id,ia h.C k λ_ _=>id⟩
theorem gP.aqf(h:gP m b g nm s st w)(on:st.d.r=Î):Gf m b g st.d w.heap.size s (g.G st.d) nm st.r st.I w (NQ b w):=by
 have l:=h.C.r on;have p:(w.setCell ⟨b,3,Á⟩<|Ã<|Â ⟨w.heap.size,0,Á⟩).heap.size=w.heap.size:=fj
 have n:e9 (λ_=>False) (w.setCell ⟨b,3,Á⟩<|Ã<|Â ⟨w.heap.size,0,Á⟩) (NQ b w):=e9.gG _ _ _ _;have r:e9 (λk=>k=b) w (w.setCell ⟨b,3,Á⟩<|Ã<|Â ⟨w.heap.size,0,Á⟩):=pH h.r;have e:=r.C n λ_ _ x=>x.elim;refine⟨e.S λk _ x=>by rw[x];exact h.S,?_,(h.r.fW 3 _).I n id,⟨ia h.C.C e λj f x=>jA h.C.C h.r A (by rw[f,x]),h.C.I.C e λi _ x=>Ï ⟨_,_,_,JF x h.r,È U⟩,l.abb.C e λa c t _ _ q x=> ?_,?_⟩,l.r.I e λx=>fg.S l.r h.r A x,ia l.I e λj f x=>jA l.I h.r A<|by rw[f,x]⟩
 .exact h.a.C h.r h.S A _ _ fj A λv o=>by simp at o;rcases o with rfl|rfl<;>trivial
 .have o:=h.r;unfold fg at o;grind
 .have:=fg.N (w.setCell ⟨b,3,Á⟩<|Ã<|Â ⟨w.heap.size,0,Á⟩) [Å É 0,Å É 0,Å É 0,Å É 0,Å É 0,Ä ⟨#[]⟩] 200;rwa[p]at this
def Ud(g:Gh)(d:PD)(T:Nat)(v:Ñ):Gh:={g with t:=T,tb:=g.I d,r:=v}
theorem Gf.jI(h:Gf m b g st.d T s O nm st.r st.I w u)(C:m<=b)(on:st.d.r=Î)(a:m<=g.B/\g.B<=g.q/\st.d.I.c.length=8)(D:g.B<=T)(hd:st.r=0) (l:qf u g.B 149 1 g.r (g.I st.d).length (nD<|g.I st.d) 1 [Ã<|Â ⟨T,0,Á⟩] v W) (K:jC m W) (L:mV m W.heap.size v) (n:jX=((W.setCell ⟨g.q,8,Á⟩ v).setCell ⟨b,4,Á⟩<|Ã<|Â ⟨T,0,Á⟩).setCell ⟨b,0,Á⟩ (Ä ⟨#[84]⟩)): e9 (λi=>m<=i) w jX/\gP m b (Ud g st.d T v) nm ⟨#[84]⟩ {st with C:=[84],d:=st.d.rZ} jX:=by
 have E:∀{j:Nat} {M:List Ñ} {t:Ď},fg j M t u->149≠t->¬g.r.ownBlock=Â j:=λN f=>jA h.C N f;have F:=h.r.I l.r<|E h.r A;have f:=h.I.I l.r<|E h.I A;have P:=h.M.r l.r λi _ x=>by let⟨k,z⟩:=lG h.C x;exact⟨_,_,_,z,Ï ⟨Ï U,(h.C.lt i x).1⟩⟩
 have o:e9 (λk=>k=g.q) W (W.setCell ⟨g.q,8,Á⟩ v):=pH f;have G:fg g.q (Dw st.d.I.c v) 161 (W.setCell ⟨g.q,8,Á⟩ v):=by have:=f.fW 8 v;have e:=aa6 st.d.I.c g.r v;rw[a.2.2]at e;unfold Dw at this|-;grind
 have z:=F.I o λx=>fg.S F f A x;have H:=P.r o λi _ x=>⟨_,_,_,JF x f,Ï ⟨È U,by rw[x];exact a.2.1⟩⟩;have I:=ia l.fp o λj p x=>jA l.fp f A (by rw[p,x]);have Q:jC m (W.setCell ⟨g.q,8,Á⟩ v):=K.r _ L;have S:e9 (λk=>k=b) (W.setCell ⟨g.q,8,Á⟩ v) ((W.setCell ⟨g.q,8,Á⟩ v).setCell ⟨b,4,Á⟩<|Ã<|Â ⟨T,0,Á⟩):=pH z;have r:=z.fW 4<|Ã<|Â ⟨T,0,Á⟩;have V:e9 (λk=>k=b) ((W.setCell ⟨g.q,8,Á⟩ v).setCell ⟨b,4,Á⟩<|Ã<|Â ⟨T,0,Á⟩) jX:=by rw[n];exact pH r
 have J:=r.fW 0<|Ä ⟨#[84]⟩;rw[<-n]at J;have k:uN m g st.d T jX:=by rw[n];exact(H.M z).M r
 have y:=S.ff V;have X:=G.I y λx=>fg.S G z A x;have Y:=ia I y λj p x=>jA I z A (by rw[p,x]);have hTl:=H.tb.M;have c5:jC m jX:=by rw[n];refine(Q.r _ ?_).r _ trivial;exact⟨Ì a.1 D,hTl⟩
 have e1:(g.I st.d++[T]).length=(g.I st.d).length+1:=fj
 have e2:nD (g.I st.d++[T])=nD (g.I st.d)++[Ã<|Â ⟨T,0,Á⟩]:=by simp[nD]
 refine⟨((h.S.C l.r λi _ x=> ?_).C o λi _ x=> ?_).C y λi _ x=> ?_,C,c5,?_,A,U,⟨k.C,k.I,λ_=>⟨a.1,a.2.1,a.2.2,X,?_,k.N,λ_=>⟨D,U,k.tb⟩,λe=>by cases e⟩,λe=> ?_⟩,λe=> ?_,È on⟩
 .have:=(h.C.lt i x).1;have:=a.1;omega
 .grind
 .rwa[x]
 .have e:(Ud g st.d T v).S st.d.rZ=g.S st.d:=U;unfold T7;rw[e];have e4:(Ud g st.d T v).G st.d.rZ=Â ⟨T,0,Á⟩:=if_pos on;rwa[e4]
 .show jX.ownsRow g.B 149 1 v (g.I st.d++[T]).length (nD<|g.I st.d++[T]);rwa[e1,e2]
 .have:st.d.r=Ë:=e;grind
 .grind
def abd(h:gP m b g nm s st w)(D:st.r=0)(p:st.d.r=Î)(E:st.d.Y.length<=100000): Ò À 99 #[Ã<|Â ⟨b,0,Á⟩] w λe u=>e=Ç (ë #[])/\si m b {st with C:=[84],d:=st.d.rZ} w u:=by
 have Y:=h.r.r 3 _ U;have f3:=h.r.C 3;have gJ:=h.r.M;have l:=h.C.r p;have z:=h.aqf p;have F:=λv=>by have:=Dy st.d.I.c v;rwa[l.M]at this
 have G:m<=g.B/\g.B<=g.q/\st.d.I.c.length=8:=⟨l.S,l.N,l.M⟩;have I:g.B<=w.heap.size:=by have:=l.r.M;have:=l.N;omega
 have J:(g.I st.d).length<=100000:=by rwa[l.G]
 have L:=h.S;have H:=fe<|Ê G<|Ê I<|Ê J<|Ê L<|Ê D p;have k:=fe<|F g.r;have y:g.S st.d=Â ⟨g.q,0,Á⟩:=if_pos p;go_enter Tryz.func99,Tryz.ntmps99;go_wp2_with fail;change á À _ _ _ (NQ b w);have n:=z.fK (e9.fR _ _) z.N.fR;generalize hT:w.heap.size=T at*;generalize M:(NQ b w).drew=w1 at*;let⟨i0,N,O,P,Q⟩:=ů aqd;have r:=fe<|Ê N<|Ê O<|Ê P Q;refine mg (λu=>u.cell? ⟨b,2,Á⟩=Â (Ã<|g.S st.d)/\u.cell? ⟨b,3,Á⟩=Â (Ã<|Â ⟨T,0,Á⟩)/\u.cell? ⟨g.q,8,Á⟩=Â g.r) [19] ft ?_;rw[M];rw[y];have a:Hid (w1.cell? ⟨b,2,Á⟩=Â (Ã<|Â ⟨g.q,0,Á⟩)/\w1.cell? ⟨b,3,Á⟩=Â (Ã<|Â ⟨T,0,Á⟩)/\w1.cell? ⟨g.q,8,Á⟩=Â g.r):=fe ⟨by rw[<-y];exact n.r.r 2 _ U,n.r.r 3 _ U,n.I.r 8 _ k.out⟩;have t:=fe y;apply tk 0 a.out;apply tk 1 a.out;apply tk 2 a.out;apply tk 3 a.out;apply tk 4 a.out;apply tk 5 a.out;apply tk 6 a.out;apply tk 7 a.out;apply tk 8 a.out;apply tk 9 a.out;apply tk 10 a.out;apply tk 11 a.out;apply tk 12 a.out;apply tk 13 a.out;apply tk 14 a.out;have S:=n.M.tb.M;have f:=n.fK (e9.gG (λ_=>False) w1 #[Ã<|Â ⟨T,0,Á⟩] 149) (n.N.gG _ _ fj A λv i=>by simp at i;subst i;exact⟨Ì H.out.1.1 H.out.2.1,S⟩);apply gD 15;intro K j;go_simp;refine j.out _ _ (λ_=>⟨by rw[<-t.out];exact f.r.r 2 _ U,f.r.r 3 _ U,f.I.r 8 _ k.out⟩) ?_;apply gD 16;intro K j;refine aa3 fO _ _ 159 fO Tryz.underlying159 r.out.1 r.out.2.1 r.out.2.2.1 r.out.2.2.2 fO f.C ⟨w1.heap.size,0,Á⟩ fO (Λ w1 _ _) U (by have:=H.out.2.2.1;unfold đ;omega) (by have:=H.out.2.2.1;omega) (by have:=H.out.2.1;have:=f.M.tb.M;omega) A H.out.1.1 f.N ⟨Ì H.out.1.1 H.out.2.1,f.M.tb.M⟩ A ?_;intro v9 w9 x V W;obtain⟨a9,n9c,rfl⟩:=jh x.fp;have i:=f.r.I x.r<|jA f.C f.r A;have o:=f.I.I x.r<|jA f.C f.I A;refine j.out _ _ (λ_=>⟨by rw[<-t.out];exact i.r 2 _ U,i.r 3 _ U,o.r 8 _ k.out⟩) ?_;apply gD 17;intro K j;go_simp;refine j.out _ _ (λ_=>⟨by rw[<-t.out];exact i.r 2 _ U,i.r 3 _ U,o.r 8 _ k.out⟩) ?_;apply gD 18;intro K j;go_simp;refine j.out _ _ (λ_=>⟨by rw[<-t.out];exact i.r 2 _ U,i.r 3 _ U,o.r 8 _ k.out⟩) ?_;have cq8:=o.r 8 _ k.out;have fq8:=o.C 8;have cb4:=i.r 4 _ U;have fb4:=i.C 4;have cb0:=i.r 0 _ U;have fb0:=i.C 0;have cb3:=i.r 3 _ U;have X:=fg.S o i A;have hbq:¬b=g.q:=λe=>X e.symm;apply gD 19;intro K j;go_simp;apply j.out _ _ λC=>absurd A C;refine lS ft ?_ _;have C:=fe<|f.jI H.out.2.2.2.1 p H.out.1 H.out.2.1 H.out.2.2.2.2.1 x V W U;go_wp2_with fail;go_end0;exact⟨U,C.out.1,_,_,_,C.out.2⟩
end
section
variable{g:Gh}{nm:Option ù}{s:ByteArray}{f:PS}{d:PD}{Q:Nat}{k:Int}
def aqg(h:w.ownsRow i e 1 v n l)(c:j<=i):w.ownsRow j e 1 v n l:= ⟨h.1,h.2.imp id λ⟨g,d,f,a,b,r⟩=>⟨g,d,f,a,Ì c b,r⟩⟩
def vS.gd(l:vS m g d w):vR w.heap.size g.q ⟨d.I.c,d.Y⟩ w:= ⟨l.r.M,l.M,g.r,g.I d,l.r,aqg l.I<|Ö _,λj a=>(l.I.lt j a).2,l.abb.M (Ö _)<|æ _⟩
def kv.abe(h:kv m g d w)(a:d.r=Ë->d.S=[]):pG w.heap.size (g.C d) d.C w:=by
 unfold Gh.C PD.C;split
 .rename_i e;have l:=h.r e;have c:=l.r.M;have f:=l.N;exact h.I.T3 Z l.gd
 .rename_i e;have b:=a (by simpa using e);have:=h.I.I;rw[b]at this|-;rw[Þ this];exact pG.N _ _
def NS(b:Nat)(k:Int)(w:Í):Í:=(w.setCell ⟨b,2,Á⟩<|Ã<|Â ⟨w.heap.size,0,Á⟩).alloc<|Û #[Å É 0,Å É 0,Å É 0,Å É 0,Å É k,Å É 0,Å É 0,Å É 0,Æ Á 0 0] 161
def rdQ(s:ByteArray)(g:Gh)(d:PD)(Q:Nat)(nm:Option ù)(lj a:Int):List Ñ:=
 [Ä s,g.N,Ã<|Â ⟨Q,0,Á⟩,Ã<|g.Y d,Ã<|g.G d,Ã nm,Å É lj,Å É a]
structure Gi(m b:Nat)(g:Gh)(d:PD)(Q:Nat)(k:Int)(s:ByteArray)(nm:Option ù)(lj Uc:Int)(w0 w:Í):Prop where
 S:e9 (λi=>m<=i) w0 w
 M:jC m w
 r:fg b (rdQ s g d Q nm lj Uc) 153 w
 I:fg Q (Dw (PD.aa1 k).c<|Æ Á 0 0) 161 w
 N:pG Q (g.C d) d.C w
 C:w.ownsRow m 148 1 g.N (g.C d).length (nD<|g.C d)
def Gi.fK{lj:Int}(h:Gi m b g d Q k s nm lj c W w)(a:e9 (λ_=>False) w u)(e:jC m u):Gi m b g d Q k s nm lj c W u:= ⟨h.S.C a λ_ _ x=>x.elim,e,h.r.I a id,h.I.I a id,h.N.C a λ_ _ x=>x.elim,ia h.C a λ_ _=>id⟩
def gP.aqh(h:gP m b g nm s f w)(k:Int)(l:f.d.r=Ë->f.d.S=[]):Gi m b g f.d w.heap.size k s nm f.r f.I w (NS b k w):=by
 have n:(w.setCell ⟨b,2,Á⟩<|Ã<|Â ⟨w.heap.size,0,Á⟩).heap.size=w.heap.size:=fj
 have c:e9 (λ_=>False) (w.setCell ⟨b,2,Á⟩<|Ã<|Â ⟨w.heap.size,0,Á⟩) (NS b k w):=e9.gG _ _ _ _;have o:e9 (λk=>k=b) w (w.setCell ⟨b,2,Á⟩<|Ã<|Â ⟨w.heap.size,0,Á⟩):=pH h.r;have a:=o.C c λ_ _ x=>x.elim;refine⟨a.S λk _ x=>by rw[x];exact h.S,?_,(h.r.fW 2 _).I c id,?_,(h.C.abe l).C a λi _ x=>Ï ⟨_,_,_,JF x h.r,È U⟩,ia h.C.C a λj p x=>jA h.C.C h.r A<|by rw[p,x]⟩
 .exact h.a.C h.r h.S A _ _ fj A λv e=>by simp at e;rcases e with rfl|rfl|rfl|rfl<;>trivial
 .have:=fg.N (w.setCell ⟨b,2,Á⟩<|Ã<|Â ⟨w.heap.size,0,Á⟩) [Å É 0,Å É 0,Å É 0,Å É 0,Å É k,Å É 0,Å É 0,Å É 0,Æ Á 0 0] 161;rwa[n]at this
def aqi(g:Gh)(d:PD)(Q:Nat)(v:Ñ):Gh:={a:=g.C d,q:=Q,t:=Q,B:=Q,tb:=[],N:=v,r:=Æ Á 0 0,b:=g.Y d}
theorem Gi.jI{sb:ByteArray}(h:Gi m b g f.d Q k s nm f.r f.I w u)(o:m<=b)(p:m<=Q)(S:f.r=0)(y:sb.size<=10)(B:jS sb=vN k) (a:qf u m 148 1 g.N (g.C f.d).length (nD<|g.C f.d) 1 [Ã<|Â ⟨Q,0,Á⟩] v W) (C:jC m W) (D:mV m W.heap.size v) (l:jX=((W.setCell ⟨b,1,Á⟩ v).setCell ⟨b,4,Á⟩<|Ã<|Â ⟨Q,0,Á⟩).setCell ⟨b,0,Á⟩ (Ä sb)): e9 (λi=>m<=i) w jX/\gP m b (aqi g f.d Q v) nm sb {f with C:=vN k,d:=f.d.F8 k} jX:=by
 have c:=h.r.I a.r<|jA h.C h.r A;have n:=h.I.I a.r<|jA h.C h.I A;have E:=h.N.C a.r λi _ x=>by let⟨e,z⟩:=lG h.C x;exact Ï ⟨_,_,_,z,Ï U⟩
 have F:e9 (λk=>k=b) W (W.setCell ⟨b,1,Á⟩ v):=pH c;have q:=c.fW 1 v;have G:e9 (λk=>k=b) (W.setCell ⟨b,1,Á⟩ v) ((W.setCell ⟨b,1,Á⟩ v).setCell ⟨b,4,Á⟩<|Ã<|Â ⟨Q,0,Á⟩):=pH q;have r:=q.fW 4<|Ã<|Â ⟨Q,0,Á⟩;have H:e9 (λk=>k=b) ((W.setCell ⟨b,1,Á⟩ v).setCell ⟨b,4,Á⟩<|Ã<|Â ⟨Q,0,Á⟩) jX:=by rw[l];exact pH r
 have t:=r.fW 0<|Ä sb;rw[<-l]at t;have z:=(F.ff G).ff H;have I:=n.I z λx=>fg.S n c A x;have J:=E.C z λi _ x=>Ï ⟨_,_,_,JF x c,È U⟩;have K:=ia a.fp z λj L x=>jA a.fp c A (by rw[L,x]);have M:Q<(W.setCell ⟨b,1,Á⟩ v).heap.size:=by simpa using n.M
 have N:jC m jX:=by rw[l];refine((C.r _ D).r _ ?_).r _ trivial;exact⟨p,M⟩
 have O:(g.C f.d++[Q]).length=(g.C f.d).length+1:=fj
 have P:nD (g.C f.d++[Q])=nD (g.C f.d)++[Ã<|Â ⟨Q,0,Á⟩]:=by simp[nD]
 refine⟨(h.S.C a.r λi _ x=> ?_).C z λi _ x=> ?_,o,N,t,y,B,⟨?_,J,λ_=>⟨p,æ _,U,I,?_,oP.N _ _ _,(λe=>by cases e),λ_=>⟨rfl,rfl⟩⟩,(λe=>by cases e)⟩,λe=> ?_,È rfl⟩
 .exact(h.C.lt i x).1
 .rwa[x]
 .show jX.ownsRow m 148 1 v (g.C f.d++[Q]).length (nD<|g.C f.d++[Q]);rwa[O,P]
 .exact⟨U,È ⟨U,U⟩⟩
 .grind
def aqj:zN f 0=Á:=rfl
def aqk(h:gP m b g nm s f w)(t:f.r=0)(x:f.d.r=Ë->f.d.S=[])(y:f.d.C.length<=100000)(k:Int): Ò À 96 #[Ã<|Â ⟨b,0,Á⟩,Å É k] w λe u=>match zN f k with
  |none=>e=Ç (õ Ë)/\u=w
  |some i=>e=Ç (õ Î)/\si m b i w u:=by
 by_cases n:k=0
 .subst n;rw[aqj];go_enter ζ,Μ;go_wp2;go_ret;exact⟨U,U⟩
 have Q:(k==0)=Ë:=by rwa[beq_eq_false_iff_ne]
 have e:zN f k=Â {f with C:=vN k,d:=f.d.F8 k}:=if_neg n;rw[e];have S:=h.r.r 2 _ U;have V:=h.r.C 2;have W:=h.r.M;have q:=h.aqh k x;have z:(g.C f.d).length<=100000:=by rwa[h.C.aa4]
 have B:=h.S;have C:m<=w.heap.size:=Z
 have H:=fe<|Ê B<|Ê C<|Ê z t;go_enter ζ,Μ;go_wp2_with fail;change á À _ _ _ (NS b k w);have j:=q.fK (e9.fR _ _) q.M.fR;generalize X:w.heap.size=T at*;generalize D:(NS b k w).drew=w1 at*;let⟨Y,E,F,G,I⟩:=ů aqe;have l:=fe<|Ê E<|Ê F<|Ê G I;refine mg (λu=>u.cell? ⟨b,1,Á⟩=Â g.N/\u.cell? ⟨b,2,Á⟩=Â (Ã<|Â ⟨T,0,Á⟩)) [13] ft ?_;rw[D];have c:Hid (w1.cell? ⟨b,1,Á⟩=Â g.N/\w1.cell? ⟨b,2,Á⟩=Â (Ã<|Â ⟨T,0,Á⟩)):=fe ⟨j.r.r 1 _ U,j.r.r 2 _ U⟩;apply tk 0 c.out;apply tk 1 c.out;apply tk 2 c.out;apply tk 3 c.out;apply tk 4 c.out;apply tk 5 c.out;apply tk 6 c.out;apply tk 7 c.out;apply tk 8 c.out;have J:=j.I.M;have a:=j.fK (e9.gG (λ_=>False) w1 #[Ã<|Â ⟨T,0,Á⟩] 148) (j.M.gG _ _ fj A λv i=>by simp at i;subst i;exact⟨H.out.2.1,J⟩);apply gD 9;intro K i;go_simp;apply i.out _ _ λ_=>⟨a.r.r 1 _ U,a.r.r 2 _ U⟩;apply gD 10;intro K i;refine aa3 fO _ _ 61 fO Tryz.underlying61 l.out.1 l.out.2.1 l.out.2.2.1 l.out.2.2.2 fO a.C ⟨w1.heap.size,0,Á⟩ fO (Λ w1 _ _) U (by have:=H.out.2.2.1;unfold đ;omega) (by have:=H.out.2.2.1;omega) (by have:=H.out.2.1;have:=a.I.M;omega) A (æ _) a.M ⟨H.out.2.1,a.I.M⟩ A ?_;intro v9 w9 o L M;obtain⟨a9,n9c,rfl⟩:=jh o.fp;have v:=a.r.I o.r<|jA a.C a.r A;apply i.out _ _ λ_=>⟨v.r 1 _ U,v.r 2 _ U⟩;apply gD 11;intro K i;go_simp;apply i.out _ _ λ_=>⟨v.r 1 _ U,v.r 2 _ U⟩;apply gD 12;intro K i;go_simp;apply i.out _ _ λ_=>⟨v.r 1 _ U,v.r 2 _ U⟩;have cb1:=v.r 1 _ U;have fb1:=v.C 1;have cb4:=v.r 4 _ U;have fb4:=v.C 4;have cb0:=v.r 0 _ U;have fb0:=v.C 0;have cb2:=v.r 2 _ U;apply gD 13;intro K i;go_simp;apply i.out _ _ λp=>absurd A p;refine lS ft ?_ _;have N:=fe λp r O=>a.jI (sb:=p) H.out.1 H.out.2.1 H.out.2.2.2 r O o L M U;go_wp2_with (go_at_call 145;refine(ap5 _ _).mono ?_;rintro e u ⟨⟨p,rfl,O,P⟩,r⟩;subst u);go_ret;have r:=N.out p O P;exact⟨U,r.1,_,_,_,r.2⟩
end
def ly(i:Nat)(z:Int):Prop:=match i with
 |0=>0<=z/\z<8
 |1=>0<=z/\z<8
 |2=>0<=z/\z<1000000
 |3=>0<=z/\z<1000000
 |4=>1<=z/\z<10
 |5=>-1<=z/\z<1000000
 |6=>-1<=z/\z<1000000
 |7=>0<=z/\z<16
 |_=>True
structure Gj(n m:Nat)(c:List Int):Prop where
 C:c.length=n
 r:∀i,i<m->ly i (c.getD i 0)
theorem Gj.I(h:Gj n m zQ)(i:Nat)(z:Int)(b:i<m->ly i z):Gj n m (zQ.set i z):=by refine⟨by simp[h.C],λj a=> ?_⟩;have:=h.r j a;grind
def abf(h:i<zQ.length)(z:Int):(zQ.set i z).getD i 0=z:=by simp[Ġ,h]
structure nY(t:PT):Prop where
 c:Gj 5 4 t.c
 p:t.p.size<=40/\∀c∈t.p.data.toList,xw c=Î
structure uO(r:PR):Prop where
 c:Gj 8 8 r.c
 C:∀t∈r.r,nY t
 n:r.r.length<=8
structure ko(d:PD):Prop where
 N:d.r=Ë->d.S=[]/\d.M=Ë
 b:d.M=Ë->d.I.r=[]
 C:d.C.length<=24
 I:d.Y.length<=8
 S:∀r∈d.S,uO r
 M:d.r=Î->Gj 8 8 d.I.c
 a:d.r=Î->∀t∈d.I.r,nY t
 Y:d.M=Î->nY d.N
structure ju(B:ByteArray)(k:Nat)(st:PS):Prop where
 M:0<=st.r
 r:st.r<=5
 C:0<=st.I
 I:st.I<=40
 e:0<st.r->(st.M=86\/st.M=87\/st.M=110\/st.M=107)/\st.d.r=Î/\0<=st.d.G st.M/\st.d.G st.M<10^(6-st.r.toNat)
 d:ko st.d
 c:st.d.r=Î\/st.C=[82]
 b:82∈st.C->st.d.C.length<24
 N:84∈st.C\/80∈st.C->st.d.M=Î
 a:66∈st.C->st.d.M=Ë
 S:80∈st.C->st.C=[80]/\st.r=0
 Y:80∈st.C->st.I.toNat<=k/\∀j (h:j<B.size),k-st.I.toNat<=j->j<k->xw B[j]=Î
section
variable{d:PD}{st o:PS}
def ko.abg(h:ko d)(on:d.r=Î):∀t∈d.Y,nY t:=by
 unfold PD.Y;split
 .rename_i e;intro t a;rcases â.1 a with q|q
  .exact h.a on t q
  .rw[ō]at q;rw[q];exact h.Y e
 .exact h.a on
def ko.G(h:ko d):∀r∈d.C,uO r:=by
 unfold PD.C;split
 .rename_i e;intro r a;rcases â.1 a with q|q
  .exact h.S r q
  .rw[ō]at q;rw[q];exact⟨h.M e,h.abg e,h.I⟩
 .exact h.S
def xP(d:PD):d.C.length=d.S.length+(if d.r then 1 else 0):=by unfold PD.C;split<;>simp
def JG(d:PD):d.Y.length=d.I.r.length+(if d.M then 1 else 0):=by unfold PD.Y;split<;>simp
def ko.r(h:ko d)(i:Nat)(z:Int)(a:ly i z):ko (d.uM i z):= ⟨h.N,h.b,by have:=h.C;rw[xP]at this|-;exact this,by have:=h.I;rw[JG]at this|-;exact this,h.S,λe=>(h.M e).I i z λ_=>a,h.a,h.Y⟩
def ko.vP(h:ko d)(i:Nat)(z:Int)(a:i<4->ly i z):ko (d.vP i z):= ⟨h.N,h.b,by have:=h.C;rw[xP]at this|-;exact this,by have:=h.I;rw[JG]at this|-;exact this,h.S,h.M,h.a,λe=>⟨(h.Y e).c.I i z a,(h.Y e).p⟩⟩
def ko.jB(h:ko d)(i:Nat)(z:Int)(a:ly i z):ko (d.jB i z):=by
 unfold PD.jB;split
 .exact h.vP i z λ_=>a
 .exact h.r i z a
def ko.tj(h:ko d)(p:ByteArray)(a:p.size<=40/\∀c∈p.data.toList,xw c=Î):ko (d.tj p):= ⟨h.N,h.b,by have:=h.C;rw[xP]at this|-;exact this,by have:=h.I;rw[JG]at this|-;exact this,h.S,h.M,h.a,λe=>⟨(h.Y e).c,a⟩⟩
def aql:nY PD.F4:=⟨⟨U,λi a=>by
 match i,a with
 |0,_=>exact⟨A,A⟩
 |1,_=>exact⟨A,A⟩
 |2,_=>exact⟨A,A⟩
 |3,_=>exact⟨A,A⟩⟩,⟨A,λc b=>by cases b⟩⟩
def ko.rZ(h:ko d)(on:d.r=Î)(a:d.Y.length<8):ko d.rZ:= ⟨(λe=>by have:d.r=Ë:=e;rw[on]at this;cases this),(λe=>by cases e),by have:=h.C;rw[xP]at this|-;exact this,by rwa[JG],h.S,λe=>h.M e,λ_=>h.abg on,λ_=>aql⟩
def ko.F8(h:ko d)(q:Int)(a:1<=q/\q<10)(b:d.C.length<24):ko (d.F8 q):= ⟨(λe=>by cases e),λ_=>rfl,by rwa[xP],by show(0:Nat)<=8;decide,h.G,λ_=>⟨U,λi c=>by
   match i,c with
   |0,_=>exact⟨by show(0:Int)<=0;decide,by show(0:Int)<8;decide⟩
   |1,_=>exact⟨by show(0:Int)<=0;decide,by show(0:Int)<8;decide⟩
   |2,_=>exact⟨by show(0:Int)<=0;decide,by show(0:Int)<1000000;decide⟩
   |3,_=>exact⟨by show(0:Int)<=0;decide,by show(0:Int)<1000000;decide⟩
   |4,_=>exact a
   |5,_=>exact⟨by show(-1:Int)<=0;decide,by show(0:Int)<1000000;decide⟩
   |6,_=>exact⟨by show(-1:Int)<=0;decide,by show(0:Int)<1000000;decide⟩
   |7,_=>exact⟨by show(0:Int)<=0;decide,by show(0:Int)<16;decide⟩⟩,(λ_ t f=>by cases f),(λe=>by cases e)⟩
def ko.fW(h:ko d)(a z:Int)(b:(a=86->ly 5 z)/\(a=87->ly 6 z)/\(a=120->ly 0 z)/\(a=121->ly 1 z)/\(a=110->ly 2 z)/\(a=107->ly 3 z)/\(a=115->ly 7 z)):ko (d.fW a z):=by
 let⟨c,e,f,g,i,j,k⟩:=b;unfold PD.fW;repeat' split
 .exact h.r 5 z<|c ‹_›
 .exact h.r 6 z<|e ‹_›
 .exact h.jB 0 z<|f ‹_›
 .exact h.jB 1 z<|g ‹_›
 .exact h.jB 2 z<|i ‹_›
 .exact h.jB 3 z<|j ‹_›
 .exact h.r 7 z<|k ‹_›
 .exact h
def Ue(d:PD)(a z:Int):(d.fW a z).r=d.r/\(d.fW a z).M=d.M/\(d.fW a z).C.length=d.C.length:=by
 unfold PD.fW PD.jB;repeat' split
 all_goals exact⟨U,U,(xP _).trans (xP d).symm⟩
theorem Uf(h:ko d)(on:d.r=Î)(a z:Int)(f:a=86\/a=87\/a=110\/a=107):(d.fW a z).G a=z:=by
 have g:=(h.M on).C;have b:∀i,i<4->(d.jB i z).xN i=z:=λi j=>by
  unfold PD.jB;split
  .rename_i e;have k:=(h.Y e).c.C;show(if d.M=Î then(d.N.c.set i z).getD i 0 else d.I.c.getD i 0)=z;grind
  .rename_i e;show(if d.M=Î then d.N.c.getD i 0 else(d.I.c.set i z).getD i 0)=z;grind
 rcases f with rfl|rfl|rfl|rfl
 .exact abf Z z
 .exact abf Z z
 .exact b 2 A
 .exact b 3 A
def NT:∀(l:List UInt8) (c:UInt8),ß l c<l.length
 |[],_=>by show(-1:Int)<0;decide
 |a::l,c=>by
  have:=NT l c;unfold ß;split
  .simp
  .split<;>(simp;omega)
def Ug:∀(l:List UInt8) (c:UInt8),c∈l->0<=ß l c
 |[],_,h=>by cases h
 |a::l,c,h=>by
  unfold ß;split
  .decide
  .rename_i e;rcases List.mem_cons.1 h with q|q
   .subst q;simp at e
   .have:=Ug l c q;split
    .rename_i b;rw[beq_iff_eq]at b;omega
    .omega
def abh{l:List UInt8}(h:c.toNat∈l.map UInt8.toNat):c.toNat.toUInt8∈l:=by let⟨x,a,b⟩:=Ú.1 h;rw[<-b];simpa using a
def abj(h:rX c=Î):0<=ß [97,98,99,100,101,102,103,104] c.toNat.toUInt8:=by rw[apS]at h;refine Ug _ _<|abh ?_;simp;omega
def aqm(h:(jR c||(decide (97<=c)&&decide (c<=102)))=Î):0<=ß [48,49,50,51,52,53,54,55,56,57,97,98,99,100,101,102] c.toNat.toUInt8:=by simp only[Bool.or_eq_true,F7,Bool.and_eq_true,decide_eq_true_eq]at h;refine Ug _ _<|abh ?_;simp;omega
theorem aqn(a:qw h c=Î):(h=86->ly 5 (mU h c))/\(h=87->ly 6 (mU h c))/\(h=120->ly 0 (mU h c))/\(h=121->ly 1 (mU h c))/\(h=110->ly 2 (mU h c))/\(h=107->ly 3 (mU h c))/\(h=115->ly 7 (mU h c)):=by
 unfold qw at a;have b:(c==104||jR c)=Î->-1<=(if c=104 then-1 else(c-48)%256)/\(if c=104 then(-1:Int)else(c-48)%256)<1000000:=λq=>by split<;>omega
 have d:jR c=Î->0<=(if c=104 then-1 else(c-48)%256)/\(if c=104 then(-1:Int)else(c-48)%256)<1000000:=λq=>by rw[F7]at q;grind
 refine⟨?_,?_,?_,?_,?_,?_,?_⟩<;>rintro rfl
 .exact b a
 .exact b a
 .exact⟨abj a,NT _ _⟩
 .exact⟨abj a,NT _ _⟩
 .exact d a
 .exact d a
 .exact⟨aqm a,NT _ _⟩
theorem aqo{lj:Int}(a:jR c=Î)(b:0<=h)(d:0<lj)(e:lj<=5)(f:h<10^(6-lj.toNat)):0<=sd h c/\sd h c<10^(6-(lj-1).toNat)/\sd h c<1000000:=by
 rw[F7]at a;have g:h<100000->sd h c=h*10+(c-48):=λq=>by unfold sd;rw[Ļ (h*10) ⟨Z,Z⟩,Ļ _ ⟨Z,Z⟩];omega
 have i:lj=1\/lj=2\/lj=3\/lj=4\/lj=5:=Z
 grind
def ko.lj(h:ko d)(a z:Int)(c:a=86\/a=87\/a=110\/a=107)(b:0<=z/\z<1000000):ko (d.fW a z):= h.fW a z ⟨λ_=>⟨Z,b.2⟩,λ_=>⟨Z,b.2⟩,λe=>by omega,λe=>by omega,λ_=>b,λ_=>b,λe=>by omega⟩
def ju.aqp(h:ju B k st)(e:0<st.r)(j:jR c=Î):ju B (k+1) (JB st c):=by
 let⟨a,b,l,m⟩:=h.e e;let⟨f,n,o⟩:=aqo j l e h.r m;let⟨g,i,p⟩:=Ue st.d st.M<|sd (st.d.G st.M) c;refine⟨by show 0<=st.r-1;omega,by have:=h.r;show st.r-1<=5;omega,h.C,h.I,λ_=>⟨a,g.trans b,?_⟩,h.d.lj _ _ a ⟨f,o⟩,?_,λq=> ?_,λq=>i.trans<|h.N q,λq=>i.trans<|h.a q,λq=> ?_,λq=> ?_⟩
 .show 0<=(st.d.fW st.M<|sd (st.d.G st.M) c).G st.M/\(st.d.fW st.M<|sd (st.d.G st.M) c).G st.M<10^(6-(st.r-1).toNat);rw[Uf h.d b _ _ a];exact⟨f,n⟩
 .exact È<|g.trans b
 .show(st.d.fW st.M<|sd (st.d.G st.M) c).C.length<24;rw[p];exact h.b q
 .have:=(h.S q).2;omega
 .have:=(h.S q).2;omega
def ju.vd(h:ju B k st):ju B k {st with r:=0}:= ⟨Ť _,by show(0:Int)<=5;decide,h.C,h.I,(λq=>by cases q),h.d,h.c,h.b,h.N,h.a,λq=>⟨(h.S q).1,rfl⟩,h.Y⟩
theorem ju.on(h:ju B k st)(a:82∉st.C):st.d.r=Î:=by rcases h.c with q|q;all_goals grind
def ko.aqr(h:ko d)(a:d.M=Î):d.r=Î:=by
 cases e:d.r with
 |true=>rfl
 |false=>have:=(h.N e).2;rw[a]at this;cases this
theorem abk(h:ju B k st)(b:st.r=0)(on:st.d.r=Î)(a:se st c=Â o):ju B (k+1) o:=by
 unfold se at a;split at a
 .rename_i e;cases a;refine⟨h.M,h.r,h.C,h.I,λq=> ?_,h.d,Ï U,λ_=> ?_,λq=> ?_,λq=> ?_,λq=> ?_,λq=> ?_⟩
  .grind
  .rw[xP,on];exact e.2
  .simp at q
  .simp at q
  .simp at q
  .simp at q
 .split at a
  .rename_i e;cases a;refine⟨h.M,h.r,h.C,h.I,λq=> ?_,h.d.rZ on e.2.2,È on,λq=> ?_,λ_=>rfl,λq=> ?_,λq=> ?_,λq=> ?_⟩;all_goals grind
  .cases a
def aqs(q:Int):82∉vN q/\84∉vN q/\80∉vN q:=by
 unfold vN;repeat' split
 all_goals decide
theorem aqt(q:Int):82∉pE q/\84∉pE q/\66∉pE q/\(80∈pE q->pE q=[80]):=by unfold pE;grind
def aqu(c:Int):0<=xM c/\xM c<10:=by
 unfold xM;repeat' split
 all_goals decide
theorem aqv(h:ju B k st)(i:st.r=0)(f:82∈st.C)(a:zN st (xM c)=Â o):ju B (k+1) o:=by
 unfold zN at a;split at a
 .cases a
 .rename_i e;cases a;let⟨g,j,b⟩:=aqs<|xM c;have l:=aqu c;refine⟨h.M,h.r,h.C,h.I,λq=> ?_,h.d.F8 _ Z<|h.b f,È U,λq=>absurd q g,λq=> ?_,λ_=>rfl,λq=>absurd q b,λq=>absurd q b⟩;all_goals grind
theorem aqw(h:ju B k st)(c:st.r=0)(q:Int)(f:84∈st.C)(a:xO st q=Â o):ju B (k+1) o:=by
 unfold xO at a;split at a
 .cases a
 .cases a;let⟨g,m,i,l⟩:=aqt q;have b:=h.N<|È f;refine⟨h.M,h.r,Ť _,by show(0:Int)<=40;decide,λq=> ?_,h.d.vP 4 q λe=>by omega,È<|h.d.aqr b,λq=>absurd q g,λ_=>b,λq=>absurd q i,λq=>⟨l q,c⟩,λ_=>⟨Ö _,λj _ n p=> ?_⟩⟩;all_goals grind
theorem aqx{a:Int}(h:0<rY a c):(a=86\/a=87)/\rY a c=1/\jR c=Î/\c≠48\/(a=110\/a=107)/\rY a c=5/\jR c=Î/\c≠48:=by unfold rY at h|-;grind
theorem abl(h:ju B k st)(on:st.d.r=Î){want:Int}(l:qw want c=Î)(r:List Int)(a:∀x∈r,x∈st.C)(g:80∉r):ju B (k+1) {pF st want c with C:=r}:=by
 let⟨m,i,n⟩:=Ue st.d want<|mU want c;have j:=apW want c;refine⟨j.1,j.2,h.C,h.I,λq=> ?_,h.d.fW _ _<|aqn l,È<|m.trans on,λq=> ?_,λq=>i.trans<|h.N<|q.imp (a _)<|a _,λq=>i.trans<|h.a<|a _ q,λq=>absurd q g,λq=>absurd q g⟩
 .have q:=q;show(want=86\/want=87\/want=110\/want=107)/\(st.d.fW want<|mU want c).r=Î/\0<=(st.d.fW want<|mU want c).G want/\(st.d.fW want<|mU want c).G want<10^(6-(rY want c).toNat);rcases aqx q with⟨o,b,e,p⟩|⟨o,b,e,p⟩
  .have f:want=86\/want=87\/want=110\/want=107:=Z
   rw[Uf h.d on _ _ f,b];rw[F7]at e;have:mU want c=(c-48)%256:=by unfold mU;grind
   grind
  .have f:want=86\/want=87\/want=110\/want=107:=Z
   rw[Uf h.d on _ _ f,b];rw[F7]at e;have:mU want c=(c-48)%256:=by unfold mU;grind
   grind
 .show(st.d.fW want<|mU want c).C.length<24;rw[n];exact h.b<|a _ q
def aqy{x:UInt8}(h:x∈(B.extract i b).data.toList):∃j,∃e:j<B.size,i<=j/\j<b/\B[j]=x:=by rw[Ĳ,ĺ,ħ]at h;obtain⟨c,d,rfl⟩:=Ğ h;simp only[Ś,List.length_drop,ĝ]at d;have f:B.data.size=B.size:=rfl;exact⟨i+c,Z,Z,Z,by simp[ċ]⟩
theorem aqz(h:ju B k st)(l:st.r=0)(F:k<B.size)(a:lu B k st (B[k].toNat:Int)=Â o):ju B (k+1) o:=by
 unfold lu at a;split at a
 .rename_i e;exact abk h l (h.on<|by rw[e];decide) a
 .rename_i t p e;have c:t∈st.C:=by rw[e];exact List.mem_cons_self ..
  split at a
  .rename_i f;subst f;exact aqv h l c a
  rename_i G;have i:st.d.r=Î:=by rcases h.c with q|q;all_goals grind
  split at a
  .rename_i f;subst f;split at a
   .rename_i u;cases a;have n:=h.a c;have b:st.d.Y.length<8:=by rw[JG,h.d.b n,n];decide
    have v:ju B k {st with C:=[84],d:=st.d.rZ}:=by refine⟨h.M,h.r,h.C,h.I,λq=> ?_,h.d.rZ i b,È i,λq=> ?_,λ_=>rfl,λq=> ?_,λq=> ?_,λq=> ?_⟩;all_goals grind
    exact abl (want:=120) v i u [84] (λx b=>b) A
   .exact abk h l i a
  split at a
  .rename_i f;subst f;exact aqw h l _ c a
  split at a
  .rename_i f;subst f;let⟨H,w⟩:=h.Y c;have n:=h.N<|Ï c;have y:=(h.S c).1;have I:=h.C;have J:=h.I;split at a
   .cases a;have z:p=[]:=by rw[y]at e;cases e;rfl
    subst z;refine⟨h.M,h.r,h.C,h.I,λq=> ?_,h.d.tj _ ⟨by rw[č];omega,λx b=> ?_⟩,È i,λq=> ?_,λq=> ?_,λq=> ?_,λq=> ?_,λq=> ?_⟩
    .grind
    .obtain⟨j,r,m,s,rfl⟩:=aqy b;exact w j r m s
    .cases q
    .grind
    .cases q
    .cases q
    .cases q
   .split at a
    .cases a
    .rename_i g;cases a;have K:=λq=>g<|È q;have C:=λq=>g<|Ï q;refine⟨h.M,h.r,by show 0<=st.I+1;omega,by show st.I+1<=40;omega,h.e,h.d,h.c,h.b,h.N,h.a,h.S,λ_=>⟨by show(st.I+1).toNat<=k+1;omega,λj r m s=> ?_⟩⟩;have m:k+1-(st.I+1).toNat<=j:=m;by_cases D:j=k
     .subst D;unfold xw;simpa using C
     .grind
  split at a
  .rename_i L M N E;cases a;refine abl h i E p (λx b=>by rw[e];exact Ė _ b) λq=> ?_;have:=(h.S<|by rw[e];exact Ė _ q).1;grind
  .cases a
def abm(h:ju B k st)(b:k<B.size)(a:re B k st (B[k].toNat:Int)=Â o):ju B (k+1) o:=by
 unfold re at a;split at a
 .rename_i e;cases a;exact h.aqp e.1 e.2
 .exact aqz h.vd U b a
def Uh(B:ByteArray):ju B 0 tq:= ⟨A,A,A,A,(λq=>by cases q),⟨λ_=>⟨rfl,rfl⟩,λ_=>rfl,A,A,(λr e=>by cases e),(λe=>by cases e),(λe=>by cases e),(λe=>by cases e)⟩,Ï rfl,λ_=>by decide,(λq=>by rcases q with q|q<;>simp[tq]at q),(λq=>by simp[tq]at q),(λq=>by simp[tq]at q),(λq=>by simp[tq]at q)⟩
def Ui:∀(f k:Nat) (st:PS),ju B k st->k<=B.size->ju B (ou B f k st).1 (ou B f k st).2/\(ou B f k st).1<=B.size
 |0,k,st,h,hk=>⟨h,hk⟩
 |f+1,k,st,h,hk=>by
  unfold ou;split
  .rename_i a;split
   .exact⟨h,hk⟩
   .rename_i o e;exact Ui f (k+1) o (abm h a e) Z
  .exact⟨h,hk⟩
end
section
variable{g:Gh}{st:PS}
def abn{d:PD}(i:Nat)(z:Int):g.M (d.jB i z)=g.M d:=by unfold PD.jB Gh.M;split<;>simp[PD.vP,PD.uM, *]
def abo{d:PD}(h:i=2\/i=3)(z:Int):g.Dx (d.jB i z) (if i=2 then 110 else 107)=⟨g.M d,i,Á⟩:=by
 rcases h with rfl|rfl
 .show(⟨g.M<|d.jB 2 z,2,Á⟩:ù)=_;rw[abn]
 .show(⟨g.M<|d.jB 3 z,3,Á⟩:ù)=_;rw[abn]
def abp{d:PD}(on:d.r=Î):g.S d=Â ⟨g.q,0,Á⟩:=if_pos on
def aqA{d:PD}(on:d.r=Î):g.G d=Â ⟨g.M d,0,Á⟩:=if_pos on
def MK(h:gP m b g O B st w)(j:st.r=0)(on:st.d.r=Î)(a c:Int)(v:qw a c=Î): Ò À 100 #[Ã<|Â ⟨b,0,Á⟩,Å ū a,Å ū c] w λe u=>e=Ç (ë #[])/\si m b (pF st a c) w u:=by
 have G:w.cell? ⟨b,2,Á⟩=Â (Ã<|g.S st.d):=h.r.r 2 _ U;have x:w.cell? ⟨b,4,Á⟩=Â (Ã<|g.G st.d):=h.r.r 4 _ U;rw[abp on]at G;rw[aqA on]at x;have H:=fe<|Ê h v;clear h v;generalize y:g.M st.d=tm at x;have n:=fe y;clear y;by_cases o:a=86
 .subst o;have k:=fe (show pF st 86 c={st with r:=vT c 2,M:=86,d:=st.d.uM 5 (mE c)}from by unfold pF;rw[<-NN H.out.2 (È ⟨È U,U⟩),NP A];rfl);go_enter ā,ý;go_wp2_with (go_at_call 147;refine(NM H.out.1 (Gc H.out.1.C H.out.1.r on (i:=5) A) j on _ _ 86 A A λz=>rfl).mono ?_;rintro e u ⟨rfl,l⟩);go_end0;exact⟨U,by rwa[k.out]⟩
 have I:(a==86)=Ë:=by rwa[beq_eq_false_iff_ne]
 by_cases p:a=87
 .subst p;have k:=fe (show pF st 87 c={st with r:=vT c 2,M:=87,d:=st.d.uM 6 (mE c)}from by unfold pF;rw[<-NN H.out.2 (È ⟨Ï U,U⟩),NP A];rfl);go_enter ā,ý;go_wp2_with (go_at_call 147;refine(NM H.out.1 (Gc H.out.1.C H.out.1.r on (i:=6) A) j on _ _ 87 A A λz=>rfl).mono ?_;rintro e u ⟨rfl,l⟩);go_end0;exact⟨U,by rwa[k.out]⟩
 have J:(a==87)=Ë:=by rwa[beq_eq_false_iff_ne]
 by_cases q:a=120
 .subst q;have f:=fe ((by have:=Gd H.out.1.C H.out.1.r on (i:=0) A;rw[n.out]at this;exact this:qx m b g st.d tm 0 (λz=>st.d.jB 0 z) (st.d.xN 0) w));have C:=f.out.C;have D:=f.out.I;have E:=f.out.r;go_enter ā,ý;go_wp2_with fail;go_region_with (go_at_call 146;refine(JC _ _ _).mono ?_;rintro e u ⟨rfl,F⟩;subst u);all_goals go_end0
  all_goals exact⟨U,Ub H.out.1 f.out j (NO A) U⟩
 have K:(a==120)=Ë:=by rwa[beq_eq_false_iff_ne]
 by_cases r:a=121
 .subst r;have f:=fe ((by have:=Gd H.out.1.C H.out.1.r on (i:=1) A;rw[n.out]at this;exact this:qx m b g st.d tm 1 (λz=>st.d.jB 1 z) (st.d.xN 1) w));have C:=f.out.C;have D:=f.out.I;have E:=f.out.r;go_enter ā,ý;go_wp2_with fail;go_region_with (go_at_call 146;refine(JC _ _ _).mono ?_;rintro e u ⟨rfl,F⟩;subst u);all_goals go_end0
  all_goals exact⟨U,Ub H.out.1 f.out j (NO A) U⟩
 have L:(a==121)=Ë:=by rwa[beq_eq_false_iff_ne]
 by_cases s:a=110
 .subst s;have k:=fe (show pF st 110 c={st with r:=vT c 6,M:=110,d:=st.d.jB 2 (mE c)}from by unfold pF;rw[<-NN H.out.2 (Ï ⟨È U,U⟩),NP A];rfl);go_enter ā,ý;go_wp2_with (go_at_call 147;refine(NM H.out.1 ((by have:=Gd H.out.1.C H.out.1.r on (i:=2) A;rw[n.out]at this;exact this:qx m b g st.d tm 2 (λz=>st.d.jB 2 z) (st.d.xN 2) w)) j on _ _ 110 A A λz=>(by have:=abo (g:=g) (d:=st.d) (i:=2) (È U) z;rwa[n.out]at this)).mono ?_;rintro e u ⟨rfl,l⟩);go_end0;exact⟨U,by rwa[k.out]⟩
 have M:(a==110)=Ë:=by rwa[beq_eq_false_iff_ne]
 by_cases t:a=107
 .subst t;have k:=fe (show pF st 107 c={st with r:=vT c 6,M:=107,d:=st.d.jB 3 (mE c)}from by unfold pF;rw[<-NN H.out.2 (Ï ⟨Ï U,U⟩),NP A];rfl);go_enter ā,ý;go_wp2_with (go_at_call 147;refine(NM H.out.1 ((by have:=Gd H.out.1.C H.out.1.r on (i:=3) A;rw[n.out]at this;exact this:qx m b g st.d tm 3 (λz=>st.d.jB 3 z) (st.d.xN 3) w)) j on _ _ 107 A A λz=>(by have:=abo (g:=g) (d:=st.d) (i:=3) (Ï U) z;rwa[n.out]at this)).mono ?_;rintro e u ⟨rfl,l⟩);go_end0;exact⟨U,by rwa[k.out]⟩
 have l:(a==107)=Ë:=by rwa[beq_eq_false_iff_ne]
 by_cases k:a=115
 .subst k;have f:=fe<|Gc H.out.1.C H.out.1.r on (i:=7) A;have C:=f.out.C;have D:=f.out.I;have E:=f.out.r;go_enter ā,ý;go_wp2_with fail;go_region_with (go_at_call 146;refine(JC _ _ _).mono ?_;rintro e u ⟨rfl,F⟩;subst u);all_goals go_end0
  all_goals exact⟨U,Ub H.out.1 f.out j (NO A) U⟩
 have f:(a==115)=Ë:=by rwa[beq_eq_false_iff_ne]
 go_enter ā,ý;go_wp2;go_end0;refine⟨U,e9.fT _ _,g,O,B,?_⟩;have e:pF st a c={st with M:=a}:=by unfold pF PD.fW;rw[NO ⟨Z,Z⟩,if_neg o,if_neg p,if_neg q,if_neg r,if_neg s,if_neg t,if_neg k,<-j]
 rw[e];exact H.out.1.T9 a j
end
section
variable{g:Gh}{s:ByteArray}{st:PS}{d:PD}
def NU(m b:Nat)(o:Option PS)(e:Ending)(w u:Í):Prop:=
 (o=Á/\e=Ç (õ Ë)/\u=w)\/∃a,o=Â a/\e=Ç (õ Î)/\si m b a w u
def abq{o:Option PS}{e:Ending}(h:match o with
 |none=>e=Ç (õ Ë)/\u=w
 |some a=>e=Ç (õ Î)/\si m b a w u):NU m b o e w u:=by
 cases o with
 |none=>exact È ⟨U,h⟩
 |some a=>exact Ï ⟨a,U,h⟩
def aqB{d:PD}(on:d.r=Î):d.C.length=d.S.length+1:=by rw[xP,on];rfl
def abr(h:gP m b g O s st w)(j:st.r=0)(on:st.d.r=Î)(y:st.d.Y.length<=8)(z:st.d.C.length<=24)(c:Int): Ò À 95 #[Ã<|Â ⟨b,0,Á⟩,Å ū c] w λe u=>NU m b (se st c) e w u:=by
 have l:=h.C.r on;let⟨I,J,p⟩:=jh h.C.C;let⟨K,L,q⟩:=jh l.I;rw[h.C.aa4]at p;rw[l.G]at q;have M:=h.r.r 0 _ U;have r:=h.r.r 1 _ U;have B:=h.r.r 2 _ U;rw[abp on]at B;rw[p]at r;have t:=l.r.r 8 _ (by have:=Dy st.d.I.c g.r;rwa[l.M]at this);rw[q]at t;have N:=h.r.C 0;obtain⟨v,f⟩:∃n,st.d.C.length=n:=⟨_,U⟩;obtain⟨x,i⟩:∃n,st.d.Y.length=n:=⟨_,U⟩;rw[f]at r z;rw[i]at t y;have k:st.d.S.length+1=v:=by rw[<-f];exact(aqB on).symm
 have H:=fe<|Ê h<|Ê f<|Ê i<|Ê k j;by_cases C:c=59/\v<24
 .obtain⟨rfl,a⟩:=C;go_enter ť,ŗ;go_wp2;go_ret;let⟨h,f,i,k,j⟩:=H.out;exact Ï ⟨_,by rw[se,if_pos ⟨U,Z⟩],U,mF h 0 _,g,O,_,h.NL _ [82] A A<|È on⟩
 by_cases D:c=44/\0<x/\x<8
 .obtain⟨rfl,P,Q⟩:=D;go_enter ť,ŗ;go_wp2_with (go_at_call 99;refine(abd H.out.1 H.out.2.2.2.2 on (by have:=H.out.2.2.1;omega)).mono ?_;rintro e u ⟨rfl,o,E,F,S,a⟩;have T:=a.r.r 0 _ U;have V:=a.r.C 0;have G:=fe<|Ê o a;clear o a);go_ret;let⟨h,f,i,k,j⟩:=H.out;let⟨o,a⟩:=G.out;exact Ï ⟨_,by rw[se,if_neg Z,if_pos ⟨U,Z,Z⟩],U,o.ff<|mF a 0 _,E,F,_,a.NL _ [120,84] A A<|È on⟩
 .have a:=fe (show se st c=Á by
   let⟨h,f,i,k,j⟩:=H.out;rw[se,if_neg Z,if_neg Z])
  go_enter ť,ŗ;go_wp2_with fail;all_goals first|(go_ret;exact È ⟨a.out,U,U⟩)|(exfalso;simp only[beq_iff_eq,decide_eq_true_eq]at*;omega)
def km:Τ->Option Τ
 |ń c=>Â c
 |.seq a b=>match km a with
  |some c=>Â c
  |none=>km b
 |.block _ c=>km c
 |.scope c=>km c
 |.cond _ a b=>match km a with
  |some c=>Â c
  |none=>km b
 |_=>Á
noncomputable def qy:Τ:=(Tryz.f61.body.bind km).getD ar
def pI(b:Nat)(B:ByteArray)(i:Ñ)(u:Nat->Ñ):Ĉ:=⟨#[Ã<|Â ⟨b,0,Á⟩,Ä B,ĸ,ĸ,Å É 0,i,u 6,u 7,u 8,u 9,u 10,u 11,u 12,u 13,u 14,u 15,u 16,u 17,u 18,u 19,u 20,u 21,u 22,u 23,u 24,u 25,u 26,u 27,u 28,u 29,u 30,u 31,u 32,u 33,u 34,u 35,u 36,u 37,u 38,u 39,u 40,u 41,u 42,u 43,u 44,u 45,u 46,u 47,u 48,u 49,u 50,u 51,u 52,u 53,u 54,u 55,u 56,u 57,u 58,u 59,u 60,u 61,u 62,u 63,u 64,u 65,u 66,u 67,u 68,u 69,u 70,u 71,u 72,u 73,u 74,u 75,u 76,u 77,u 78,u 79,u 80,u 81,u 82,u 83,u 84,u 85,u 86,u 87,u 88,u 89,u 90,u 91,u 92,u 93,u 94,u 95,u 96,u 97,u 98,u 99,u 100,u 101,u 102,u 103,u 104,u 105,u 106,u 107,u 108,u 109,u 110,u 111,u 112,u 113,u 114,u 115,u 116,u 117,u 118,u 119,u 120,u 121,u 122,u 123,u 124,u 125,u 126,u 127,u 128,u 129,u 130,u 131,u 132,u 133,u 134,u 135,u 136,u 137,u 138,u 139,u 140,u 141,u 142,u 143,u 144,u 145,u 146],[]⟩
def Fr(b:Nat)(B:ByteArray)(i:Ñ)(a:Ĉ):Prop:=∃u,a=pI b B i u
def gi{b:Nat}{B:ByteArray}{i:Value}{a:Act}(h:a=pI b B i (λn=>a.tmps.getD n undef):=by rfl):Fr b B i a:=⟨_,h⟩
def QQ(X:Ĉ->Í->Prop):Exit->Ĉ->Í->Prop
 |.exit 0,a,w=>X a w
 |_,_,_=>False
def sj(m b:Nat)(B:ByteArray)(k:Nat)(st:PS)(a u:Í):Prop:=∃(h:k<B.size) (h:PS),re B k st (B[k].toNat:Int)=Â h/\si m b h a u
def sk(m b:Nat)(B:ByteArray)(k:Nat)(st:PS)(a u:Í):Prop:=∃h:k<B.size,re B k st (B[k].toNat:Int)=Á/\∃c,si m b c a u
theorem uP{d:Int}(h:(0<d/\yQ=Ë)\/d<=0):¬(0<d/\yQ=Î):=by grind
def uQ(h:¬(0<st.r/\jR c=Î)):re B k st c=lu B k {st with r:=0} c:=if_neg h
def aqC(a:0<st.r)(b:jR c=Î):re B k st c=Â (JB st c):=if_pos ⟨a,b⟩
section
variable{want:Int}
def aqD(h:st.C=[]):lu B k st c=se st c:=by rw[lu,h]
def aqE(h:st.C=want::zQ)(a:want=82):lu B k st c=zN st (xM c):=by rw[lu,h];simp only;rw[if_pos a]
def aqF(h:st.C=want::zQ)(a:want=66)(b:rX c=Î):lu B k st c=Â (pF {st with C:=[84],d:=st.d.rZ} 120 c):=by rw[lu,h];simp only;rw[if_neg Z,if_pos a,if_pos b]
def aqG(h:st.C=want::zQ)(a:want=66)(b:rX c=Ë):lu B k st c=se st c:=by rw[lu,h];simp only;rw[if_neg Z,if_pos a,if_neg (by rw[b];decide)]
def aqH(h:st.C=want::zQ)(a:want=84):lu B k st c=xO st (NH c):=by rw[lu,h];simp only;rw[if_neg Z,if_neg Z,if_pos a]
def aqI(h:st.C=want::zQ)(a:want=80)(b:c=125):lu B k st c=Â {st with C:=zQ,d:=st.d.tj (B.extract (k-st.I.toNat) k)}:=by rw[lu,h];simp only;rw[if_neg Z,if_neg Z,if_neg Z,if_pos a,if_pos b]
def abt(h:st.C=want::zQ)(a:want=80)(b:¬c=125)(d:st.I=40\/lH c=0):lu B k st c=Á:=by rw[lu,h];simp only;rw[if_neg Z,if_neg Z,if_neg Z,if_pos a,if_neg b,if_pos d]
def aqJ(h:st.C=want::zQ)(a:want=80)(b:¬c=125)(d:¬st.I=40)(e:¬lH c=0):lu B k st c=Â {st with I:=st.I+1}:=by rw[lu,h];simp only;rw[if_neg Z,if_neg Z,if_neg Z,if_pos a,if_neg b,if_neg Z]
def aqK(h:st.C=want::zQ)(a:¬want=82)(b:¬want=66)(d:¬want=84)(e:¬want=80)(f:qw want c=Î):lu B k st c=Â {pF st want c with C:=zQ}:=by rw[lu,h];simp only;rw[if_neg a,if_neg b,if_neg d,if_neg e,if_pos f]
def aqL(h:st.C=want::zQ)(a:¬want=82)(b:¬want=66)(d:¬want=84)(e:¬want=80)(f:qw want c=Ë):lu B k st c=Á:=by rw[lu,h];simp only;rw[if_neg a,if_neg b,if_neg d,if_neg e,if_neg (by rw[f];decide)]
end
def uR(c:UInt8):(0:Int)<=(c.toNat:Int)/\(c.toNat:Int)<256:=⟨Int.natCast_nonneg _,by have:=c.toNat_lt;omega⟩
def Uj(s:ByteArray)(h:s.size=0):(s.toList==[])=Î:=by simp_all
theorem tu(s:ByteArray)(h:¬s.size=0):(s.toList==[])=Ë:=by
 rw[beq_eq_false_iff_ne];intro e;have:s.toList.length=s.size:=by rw[ByteArray.toList_eq];rfl
 grind
def gP.aqM(h:gP m b g O s st w)(on:st.d.r=Î)(i:c=86\/c=87\/c=110\/c=107):∃a e f,g.Dx st.d c=⟨a,e,Á⟩/\qx m b g st.d a e f (st.d.G c) w/\∀z,f z=st.d.fW c z:=by
 rcases i with rfl|rfl|rfl|rfl
 .exact⟨_,_,_,U,Gc h.C h.r on A,λz=>rfl⟩
 .exact⟨_,_,_,U,Gc h.C h.r on A,λz=>rfl⟩
 .exact⟨_,_,_,U,Gd h.C h.r on A,λz=>rfl⟩
 .exact⟨_,_,_,U,Gd h.C h.r on A,λz=>rfl⟩
def gP.tj(h:gP m b g O s st w)(on:st.d.r=Î)(a:st.d.M=Î)(p:ByteArray):gP m b g O s {st with d:=st.d.tj p} (w.setCell ⟨g.t,5,Á⟩<|Ä p)/\e9 (λi=>m<=i) w (w.setCell ⟨g.t,5,Á⟩<|Ä p):=by have l:=h.C.r on;let⟨f,j,c⟩:=l.C a;have e:e9 (λi=>i=g.t) w (w.setCell ⟨g.t,5,Á⟩<|Ä p):=pH c;exact⟨⟨h.S,h.a.r _ trivial,h.r.I e λx=>fg.S h.r c A x,h.M,h.I,h.C.tj on a p,h.c,h.N⟩,e.S λi _ x=>by have:=l.S;omega⟩
def gP.abu(h:gP m b g O s st w)(on:st.d.r=Î)(a:st.C=c::zQ):gP m b g O (s.extract 1 s.size) {st with C:=zQ} (w.setCell ⟨b,0,Á⟩<|Ä<|s.extract 1 s.size):= h.NL _ zQ (apV s h.M) (by rw[apU,h.I,a];rfl)<|È on
def gP.aqN(h:gP m b g O s st w)(a:st.C=c::zQ):0<s.size:=by have:=T0 s;rw[h.I,a]at this;simp at this;omega
end
section
variable{g:Gh}{s:ByteArray}{st:PS}{d:PD}
def aqO(h:gP m b g O s st w)(a:st.r=0)(c:st.d.r=Ë->st.d.S=[])(f:st.d.C.length<=100000)(k:Int): Ò À 96 #[Ã<|Â ⟨b,0,Á⟩,Å É k] w λe u=>NU m b (zN st k) e w u:=(aqk h a c f k).mono λ_ _ q=>abq q
def aqP(h:gP m b g O s st w)(a:st.r=0)(on:st.d.r=Î)(c:st.d.M=Î)(k:Int): Ò À 101 #[Ã<|Â ⟨b,0,Á⟩,Å É k] w λe u=>NU m b (xO st k) e w u:=(aqc h a on c k).mono λ_ _ q=>abq q
def aqQ{X:Ĉ->Í->Prop}{a:Ĉ}(G:Fr b B (Å É k) a) (h:gP m b g O s st w) (i:ju B k st) (Q:B.size<=1200) (H:k<B.size) (n:0<st.r) (I:jR (B[k].toNat:Int)=Î) (S:∀a u,Fr b B (Å É<|(k:Int)+1) a/\sj m b B k st w u->K a u) (_hQ:∀a u,Fr b B (Å É k) a/\sk m b B k st w u->X a u): á À qy (Exit.then K<|QQ X) a w:=by
 obtain⟨c,rfl⟩:=G;unfold pI;conv=>arg 2;whnf
 have T:w.cell? ⟨b,0,Á⟩=Â (Ä s):=h.r.r 0 _ U;have V:w.cell? ⟨b,6,Á⟩=Â (Å É st.r):=h.r.r 6 _ U;have W:w.cell? ⟨b,7,Á⟩=Â (Å É st.I):=h.r.r 7 _ U;have Y:=h.r.C 0;have f6:=h.r.C 6;have f7:=h.r.C 7;have d0:=i.M;have d1:=i.r;have e0:=i.C;have e1:=i.I;let⟨q,on,_,_⟩:=i.e n;let⟨r,ao,f,t,j,v⟩:=h.aqM on q;have J:w.cell? ⟨b,5,Á⟩=Â (Ã O):=h.r.r 5 _ U;rw[(h.c n).2,t]at J;obtain⟨x,o⟩:∃x,st.d.G st.M=x:=⟨_,U⟩;have L:=j.C;rw[o]at L;have fm:=j.I;obtain⟨M,N⟩:∃y,wrap64 (x*10)=y:=⟨_,U⟩;obtain⟨l,P⟩:∃y,wrap64 (M+((B[k].toNat:Int)-48)%256)=y:=⟨_,U⟩;have NV:¬r=b:=j.r;have NW:¬b=r:=λe=>j.r e.symm;have z:=h.Y (st.r-1) λ_=>h.c n;have p:=j.S 6<|Å É<|st.r-1;have C:=z.G p l;have D:sd (st.d.G st.M) (B[k].toNat:Int)=l:=by rw[sd,š,š,o,N,P]
 have E:JB st (B[k].toNat:Int)={st with r:=st.r-1,d:=f l}:=by rw[JB,D,v]
 have F:Hid (re B k st (B[k].toNat:Int)=Â {st with r:=st.r-1,d:=f l}/\si m b {st with r:=st.r-1,d:=f l} w (π _)):= fe ⟨by rw[aqC n I,E],(((mF h 6 _).ff<|Ge (st:=st) p _).C (e9.fR (λ_=>False) _) λ_ _ x=>x.elim),g,O,s,C.fR⟩;clear z p C D E j v t h i o q;go_wp2_with (go_at_call 94;refine(sf _ _).mono ?_;rintro e u ⟨rfl,hw⟩;subst u);go_region;all_goals
  go_wp2;exact⟨gi,⟨H,_,F.out.1,F.out.2⟩⟩
def aqR{X:Ĉ->Í->Prop}(z:Fr b B (Å É k) y) (i:gP m b g O s st w) (j:ju B k st) (Q:B.size<=1200) (l:k<B.size) (n:(0<st.r/\jR (B[k].toNat:Int)=Ë)\/st.r<=0) (o:s.size=0) (S:∀y u,Fr b B (Å É<|(k:Int)+1) y/\sj m b B k st w u->K y u) (C:∀y u,Fr b B (Å É k) y/\sk m b B k st w u->X y u): á À qy (Exit.then K<|QQ X) y w:=by
 obtain⟨f,rfl⟩:=z;unfold pI;conv=>arg 2;whnf
 have T:w.cell? ⟨b,0,Á⟩=Â (Ä s):=i.r.r 0 _ U;have V:w.cell? ⟨b,6,Á⟩=Â (Å É st.r):=i.r.r 6 _ U;have W:w.cell? ⟨b,7,Á⟩=Â (Å É st.I):=i.r.r 7 _ U;have Y:=i.r.C 0;have f6:=i.r.C 6;have f7:=i.r.C 7;have d0:=j.M;have d1:=j.r;have e0:=j.C;have e1:=j.I;have p:=fe<|uQ (B:=B) (k:=k)<|uP n;have r:=i.Y 0 λh=>absurd h A;have t:=fe<|mF i 6<|Å É 0;have D:=j.d.C;have E:=j.d.I;have F:=fe r;let⟨tS,zO⟩:=uR B[k];have qT:=Uj s o;have h:st.C=[]:=by rw[<-i.I];exact aa0 s o
 have G:st.d.r=Î:=by
  rcases i.N with q|q
  .exact q
  .rw[h]at q;cases q
 have v:=fe<|aqD (B:=B) (k:=k) (c:=(B[k].toNat:Int)) (st:={st with r:=0}) h;clear h i j;rcases n with⟨H,mT⟩|H;all_goals
  go_wp2_with (first|(go_at_call 94;refine(sf _ _).mono ?_;rintro e u ⟨rfl,x⟩;subst u)|(go_at_call 95;refine(abr r U G E D _).mono ?_;rintro e u (⟨q,rfl,x⟩|⟨I,q,rfl,J,L,M,N,P⟩)))
  .subst x;exact C _ _ ⟨gi,⟨l,p.out.trans<|v.out.trans q,_,t.out,_,_,_,F.out⟩⟩
  .exact⟨gi,⟨l,I,p.out.trans<|v.out.trans q,t.out.ff J,L,M,N,P⟩⟩
def aqS{X:Ĉ->Í->Prop}(z:Fr b B (Å É k) y) (i:gP m b g O s st w) (j:ju B k st) (P:B.size<=1200) (o:k<B.size) (p:(0<st.r/\jR (B[k].toNat:Int)=Ë)\/st.r<=0) (q:0<s.size) (l:((s[0]'q).toNat:Int)=82) (Q:∀y u,Fr b B (Å É<|(k:Int)+1) y/\sj m b B k st w u->K y u) (C:∀y u,Fr b B (Å É k) y/\sk m b B k st w u->X y u): á À qy (Exit.then K<|QQ X) y w:=by
 obtain⟨f,rfl⟩:=z;unfold pI;conv=>arg 2;whnf
 have S:w.cell? ⟨b,0,Á⟩=Â (Ä s):=i.r.r 0 _ U;have T:w.cell? ⟨b,6,Á⟩=Â (Å É st.r):=i.r.r 6 _ U;have V:w.cell? ⟨b,7,Á⟩=Â (Å É st.I):=i.r.r 7 _ U;have W:=i.r.C 0;have Y:=i.r.C 6;have f7:=i.r.C 7;have d0:=j.M;have d1:=j.r;have e0:=j.C;have e1:=j.I;have r:=fe<|uQ (B:=B) (k:=k)<|uP p;have t:=i.Y 0 λh=>absurd h A;have v:=fe<|mF i 6<|Å É 0;have zP:=j.d.C;have Dz:=j.d.I;have D:=fe t;let⟨tS,zO⟩:=uR B[k];have qT:=tu s Z;have xR:s.size<=10:=i.M;have E:=fe (show st.C=(s[0].toNat:Int)::(jS s).tail by rw[<-i.I];exact vO s q);have x:=fe<|aqE (B:=B) (k:=k) (c:=(B[k].toNat:Int)) (st:={st with r:=0}) E.out l;have xS:((s[0].toNat:Int)==82)=Î:=by rw[l];rfl
 have F:=fe λe=>(j.d.N e).1;clear l i j;rcases p with⟨G,mT⟩|G;all_goals
  go_wp2_with (first|(go_at_call 94;refine(sf _ _).mono ?_;rintro e u ⟨rfl,h⟩;subst u)|(go_at_call 97;refine(ap4 _ _).mono ?_;rintro e u ⟨rfl,h⟩;subst u)|(go_at_call 96;refine(aqO t U F.out (by show st.d.C.length<=100000;omega) _).mono ?_;rintro e u (⟨n,rfl,h⟩|⟨H,n,rfl,I,J,L,M,N⟩)))
  .subst h;exact C _ _ ⟨gi,⟨o,r.out.trans<|x.out.trans n,_,v.out,_,_,_,D.out⟩⟩
  .exact⟨gi,⟨o,H,r.out.trans<|x.out.trans n,v.out.ff I,J,L,M,N⟩⟩
end
section
variable{g:Gh}{s:ByteArray}{st:PS}{d:PD}
def aqT{X:Ĉ->Í->Prop}(t:Fr b B (Å É k) y) (f:gP m b g O s st w) (i:ju B k st) (M:B.size<=1200) (v:k<B.size) (l:(0<st.r/\jR (B[k].toNat:Int)=Ë)\/st.r<=0) (n:0<s.size) (j:((s[0]'n).toNat:Int)=66) (o:rX (B[k].toNat:Int)=Î) (N:∀y u,Fr b B (Å É<|(k:Int)+1) y/\sj m b B k st w u->K y u) (_hQ:∀y u,Fr b B (Å É k) y/\sk m b B k st w u->X y u): á À qy (Exit.then K<|QQ X) y w:=by
 obtain⟨c,rfl⟩:=t;unfold pI;conv=>arg 2;whnf
 have P:w.cell? ⟨b,0,Á⟩=Â (Ä s):=f.r.r 0 _ U;have Q:w.cell? ⟨b,6,Á⟩=Â (Å É st.r):=f.r.r 6 _ U;have S:w.cell? ⟨b,7,Á⟩=Â (Å É st.I):=f.r.r 7 _ U;have T:=f.r.C 0;have V:=f.r.C 6;have W:=f.r.C 7;have Y:=i.M;have d1:=i.r;have e0:=i.C;have e1:=i.I;have x:=fe<|uQ (B:=B) (k:=k)<|uP l;have p:=f.Y 0 λh=>absurd h A;have z:=fe<|mF f 6<|Å É 0;have zP:=i.d.C;have Dz:=i.d.I;have HH1:=fe p;let⟨C,D⟩:=uR B[k];have qT:=tu s Z;have xR:s.size<=10:=f.M;have h:=fe (show st.C=(s[0].toNat:Int)::(jS s).tail by rw[<-f.I];exact vO s n);have r:st.d.r=Î:=by
  rcases f.N with q|q
  .exact q
  .rw[h.out]at q;injection q with q;omega
 have q:=fe<|aqF (B:=B) (k:=k) (st:={st with r:=0}) h.out j o;have xS:((s[0].toNat:Int)==82)=Ë:=by rw[j];rfl
 have Gk:((s[0].toNat:Int)==66)=Î:=by rw[j];rfl
 clear j f i;rcases l with⟨E,mT⟩|E;all_goals
  go_wp2_with (first|(go_at_call 94;refine(sf _ _).mono ?_;rintro e u ⟨rfl,F⟩;subst u)|(go_at_call 98;refine(T1 _ C D _).mono ?_;rintro e u ⟨rfl,F⟩;subst u)|(go_at_call 99;refine(abd p U r<|by show st.d.Y.length<=100000;omega).mono ?_;rintro e u ⟨rfl,F,H,I,J,G⟩)|(go_at_call 100;refine(MK G U r _ _<|show qw 120 _=Î from o).mono ?_;rintro e w'' ⟨rfl,G,H,I,J,L⟩))
  exact⟨gi,⟨v,_,x.out.trans q.out,z.out.ff<|F.ff G,H,I,J,L⟩⟩
def aqU{X:Ĉ->Í->Prop}(z:Fr b B (Å É k) y) (f:gP m b g O s st w) (i:ju B k st) (V:B.size<=1200) (l:k<B.size) (n:(0<st.r/\jR (B[k].toNat:Int)=Ë)\/st.r<=0) (o:0<s.size) (j:((s[0]'o).toNat:Int)=66) (C:rX (B[k].toNat:Int)=Ë) (W:∀y u,Fr b B (Å É<|(k:Int)+1) y/\sj m b B k st w u->K y u) (D:∀y u,Fr b B (Å É k) y/\sk m b B k st w u->X y u): á À qy (Exit.then K<|QQ X) y w:=by
 obtain⟨c,rfl⟩:=z;unfold pI;conv=>arg 2;whnf
 have Y:w.cell? ⟨b,0,Á⟩=Â (Ä s):=f.r.r 0 _ U;have c6:w.cell? ⟨b,6,Á⟩=Â (Å É st.r):=f.r.r 6 _ U;have c7:w.cell? ⟨b,7,Á⟩=Â (Å É st.I):=f.r.r 7 _ U;have f0:=f.r.C 0;have f6:=f.r.C 6;have f7:=f.r.C 7;have d0:=i.M;have d1:=i.r;have e0:=i.C;have e1:=i.I;have p:=fe<|uQ (B:=B) (k:=k)<|uP n;have r:=f.Y 0 λh=>absurd h A;have t:=fe<|mF f 6<|Å É 0;have E:=i.d.C;have F:=i.d.I;have G:=fe r;let⟨H,I⟩:=uR B[k];have qT:=tu s Z;have xR:s.size<=10:=f.M;have v:=fe (show st.C=(s[0].toNat:Int)::(jS s).tail by rw[<-f.I];exact vO s o);have J:st.d.r=Î:=by
  rcases f.N with q|q
  .exact q
  .rw[v.out]at q;injection q with q;omega
 have x:=fe<|aqG (B:=B) (k:=k) (st:={st with r:=0}) v.out j C;have xS:((s[0].toNat:Int)==82)=Ë:=by rw[j];rfl
 have Gk:((s[0].toNat:Int)==66)=Î:=by rw[j];rfl
 clear j f i;rcases n with⟨L,mT⟩|L;all_goals
  go_wp2_with (first|(go_at_call 94;refine(sf _ _).mono ?_;rintro e u ⟨rfl,h⟩;subst u)|(go_at_call 98;refine(T1 _ H I _).mono ?_;rintro e u ⟨rfl,h⟩;subst u)|(go_at_call 95;refine(abr r U J F E _).mono ?_;rintro e u (⟨q,rfl,h⟩|⟨M,q,rfl,N,P,Q,S,T⟩)))
  .subst h;exact D _ _ ⟨gi,⟨l,p.out.trans<|x.out.trans q,_,t.out,_,_,_,G.out⟩⟩
  .exact⟨gi,⟨l,M,p.out.trans<|x.out.trans q,t.out.ff N,P,Q,S,T⟩⟩
def aqV{X:Ĉ->Í->Prop}(C:Fr b B (Å É k) y) (i:gP m b g O s st w) (j:ju B k st) (Q:B.size<=1200) (o:k<B.size) (p:(0<st.r/\jR (B[k].toNat:Int)=Ë)\/st.r<=0) (r:0<s.size) (l:((s[0]'r).toNat:Int)=84) (S:∀y u,Fr b B (Å É<|(k:Int)+1) y/\sj m b B k st w u->K y u) (D:∀y u,Fr b B (Å É k) y/\sk m b B k st w u->X y u): á À qy (Exit.then K<|QQ X) y w:=by
 obtain⟨f,rfl⟩:=C;unfold pI;conv=>arg 2;whnf
 have T:w.cell? ⟨b,0,Á⟩=Â (Ä s):=i.r.r 0 _ U;have V:w.cell? ⟨b,6,Á⟩=Â (Å É st.r):=i.r.r 6 _ U;have W:w.cell? ⟨b,7,Á⟩=Â (Å É st.I):=i.r.r 7 _ U;have Y:=i.r.C 0;have f6:=i.r.C 6;have f7:=i.r.C 7;have d0:=j.M;have d1:=j.r;have e0:=j.C;have e1:=j.I;have t:=fe<|uQ (B:=B) (k:=k)<|uP p;have v:=i.Y 0 λh=>absurd h A;have x:=fe<|mF i 6<|Å É 0;have zP:=j.d.C;have Dz:=j.d.I;have E:=fe v;let⟨tS,zO⟩:=uR B[k];have qT:=tu s Z;have xR:s.size<=10:=i.M;have h:=fe (show st.C=(s[0].toNat:Int)::(jS s).tail by rw[<-i.I];exact vO s r);have F:st.d.r=Î:=by
  rcases i.N with q|q
  .exact q
  .rw[h.out]at q;injection q with q;omega
 have G:st.d.M=Î:=j.N (by rw[h.out,l];simp);have z:=fe<|aqH (B:=B) (k:=k) (c:=(B[k].toNat:Int)) (st:={st with r:=0}) h.out l;have xS:((s[0].toNat:Int)==82)=Ë:=by rw[l];rfl
 have Gk:((s[0].toNat:Int)==66)=Ë:=by rw[l];rfl
 have Gl:((s[0].toNat:Int)==84)=Î:=by rw[l];rfl
 clear l i j;rcases p with⟨H,mT⟩|H;all_goals
  go_wp2_with (first|(go_at_call 94;refine(sf _ _).mono ?_;rintro e u ⟨rfl,q⟩;subst u)|(go_at_call 102;refine(ap3 _ _).mono ?_;rintro e u ⟨rfl,q⟩;subst u)|(go_at_call 101;refine(aqP v U F G _).mono ?_;rintro e u (⟨n,rfl,q⟩|⟨I,n,rfl,J,L,M,N,P⟩)))
  .subst q;exact D _ _ ⟨gi,⟨o,t.out.trans<|z.out.trans n,_,x.out,_,_,_,E.out⟩⟩
  .exact⟨gi,⟨o,I,t.out.trans<|z.out.trans n,x.out.ff J,L,M,N,P⟩⟩
end
section
variable{g:Gh}{s:ByteArray}{st:PS}{d:PD}
def aqW{X:Ĉ->Í->Prop}(N:Fr b B (Å É k) y) (i:gP m b g O s st w) (j:ju B k st) (hB:B.size<=1200) (P:k<B.size) (E:(0<st.r/\jR (B[k].toNat:Int)=Ë)\/st.r<=0) (F:0<s.size) (l:((s[0]'F).toNat:Int)=80) (r:(B[k].toNat:Int)=125) (hK:∀y u,Fr b B (Å É<|(k:Int)+1) y/\sj m b B k st w u->K y u) (_hQ:∀y u,Fr b B (Å É k) y/\sk m b B k st w u->X y u): á À qy (Exit.then K<|QQ X) y w:=by
 obtain⟨f,rfl⟩:=N;unfold pI;conv=>arg 2;whnf
 have c0:w.cell? ⟨b,0,Á⟩=Â (Ä s):=i.r.r 0 _ U;have c6:w.cell? ⟨b,6,Á⟩=Â (Å É st.r):=i.r.r 6 _ U;have Q:w.cell? ⟨b,7,Á⟩=Â (Å É st.I):=i.r.r 7 _ U;have f0:=i.r.C 0;have f6:=i.r.C 6;have f7:=i.r.C 7;have d0:=j.M;have d1:=j.r;have S:=j.C;have T:=j.I;have G:=fe<|uQ (B:=B) (k:=k)<|uP E;have v:=i.Y 0 λh=>absurd h A;have H:=fe<|mF i 6<|Å É 0;have zP:=j.d.C;have Dz:=j.d.I;have V:=fe v;let⟨tS,zO⟩:=uR B[k];have qT:=tu s Z;have xR:s.size<=10:=i.M;have h:=fe (show st.C=(s[0].toNat:Int)::(jS s).tail by rw[<-i.I];exact vO s F);have z:st.d.r=Î:=by
  rcases i.N with q|q
  .exact q
  .rw[h.out]at q;injection q with q;omega
 have C:st.d.M=Î:=j.N (by rw[h.out,l];simp);have W:w.cell? ⟨b,3,Á⟩=Â (Ã<|g.Y st.d):=i.r.r 3 _ U;rw[JD C]at W;let⟨Y,I,q⟩:=(i.C.r z).C C;have Uk:w.cell? ⟨g.t,5,Á⟩=Â (Ä st.d.N.p):=q.r 5 _ (by have:=Dy st.d.N.c<|Ä st.d.N.p;rwa[I]at this);have Ul:=q.C 5;have NW:¬b=g.t:=λe=>fg.S q i.r A e.symm;have NV:¬g.t=b:=fg.S q i.r A;let⟨NY,_⟩:=j.Y (by rw[h.out,l];simp);have xS:((s[0].toNat:Int)==82)=Ë:=by rw[l];rfl
 have Gk:((s[0].toNat:Int)==66)=Ë:=by rw[l];rfl
 have Gl:((s[0].toNat:Int)==84)=Ë:=by rw[l];rfl
 have JH:((s[0].toNat:Int)==80)=Î:=by rw[l];rfl
 clear Y I q;have J:=fe<|aqI (B:=B) (k:=k) (st:={st with r:=0}) h.out l r;have Um:((B[k].toNat:Int) !=125)=Ë:=by rw[r];rfl
 obtain⟨n,L⟩:∃t:Nat,st.I=(t:Int):=⟨st.I.toNat,Z⟩;have o:=v.tj z C<|B.extract (k-n) k;have M:=o.1.abu z h.out;have D:=fe (Ê (show re B k st (B[k].toNat:Int)=Â {({st with r:=0}:PS)with C:=(jS s).tail,d:=st.d.tj (B.extract (k-n) k)} by rw[G.out,J.out,show({st with r:=0}:PS).I.toNat=n by show st.I.toNat=n;omega])<|Ê ((H.out.ff o.2).ff<|mF o.1 0<|Ä<|s.extract 1 s.size) M);rw[L]at Q S T NY;clear r l i j o M L J G H V v;rcases E with⟨CL,mT⟩|CL;all_goals
  go_wp2_with (first|(go_at_call 94;refine(sf _ _).mono ?_;rintro e u ⟨rfl,x⟩;subst u))
  go_region
  all_goals
   go_wp2;exact⟨gi,⟨P,_,D.out.1,D.out.2.1.C (e9.fR (λ_=>False) _) λ_ _ x=>x.elim,_,_,_,D.out.2.2.fR⟩⟩
def aqX{X:Ĉ->Í->Prop}(C:Fr b B (Å É k) y) (i:gP m b g O s st w) (j:ju B k st) (Q:B.size<=1200) (D:k<B.size) (v:(0<st.r/\jR (B[k].toNat:Int)=Ë)\/st.r<=0) (x:0<s.size) (l:((s[0]'x).toNat:Int)=80) (o:¬(B[k].toNat:Int)=125) (r:st.I=40) (_hK:∀y u,Fr b B (Å É<|(k:Int)+1) y/\sj m b B k st w u->K y u) (E:∀y u,Fr b B (Å É k) y/\sk m b B k st w u->X y u): á À qy (Exit.then K<|QQ X) y w:=by
 obtain⟨f,rfl⟩:=C;unfold pI;conv=>arg 2;whnf
 have S:w.cell? ⟨b,0,Á⟩=Â (Ä s):=i.r.r 0 _ U;have T:w.cell? ⟨b,6,Á⟩=Â (Å É st.r):=i.r.r 6 _ U;have V:w.cell? ⟨b,7,Á⟩=Â (Å É st.I):=i.r.r 7 _ U;have W:=i.r.C 0;have Y:=i.r.C 6;have f7:=i.r.C 7;have d0:=j.M;have d1:=j.r;have e0:=j.C;have e1:=j.I;have F:=fe<|uQ (B:=B) (k:=k)<|uP v;have G:=i.Y 0 λh=>absurd h A;have H:=fe<|mF i 6<|Å É 0;have zP:=j.d.C;have Dz:=j.d.I;have I:=fe G;let⟨tS,zO⟩:=uR B[k];have qT:=tu s Z;have xR:s.size<=10:=i.M;have n:=fe (show st.C=(s[0].toNat:Int)::(jS s).tail by rw[<-i.I];exact vO s x);have J:st.d.r=Î:=by
  rcases i.N with q|q
  .exact q
  .rw[n.out]at q;injection q with q;omega
 have q:st.d.M=Î:=j.N (by rw[n.out,l];simp);have L:w.cell? ⟨b,3,Á⟩=Â (Ã<|g.Y st.d):=i.r.r 3 _ U;rw[JD q]at L;let⟨M,z,h⟩:=(i.C.r J).C q;have Uk:w.cell? ⟨g.t,5,Á⟩=Â (Ä st.d.N.p):=h.r 5 _ (by have:=Dy st.d.N.c<|Ä st.d.N.p;rwa[z]at this);have Ul:=h.C 5;have NW:¬b=g.t:=λe=>fg.S h i.r A e.symm;have NV:¬g.t=b:=fg.S h i.r A;let⟨NY,_⟩:=j.Y (by rw[n.out,l];simp);have xS:((s[0].toNat:Int)==82)=Ë:=by rw[l];rfl
 have Gk:((s[0].toNat:Int)==66)=Ë:=by rw[l];rfl
 have Gl:((s[0].toNat:Int)==84)=Ë:=by rw[l];rfl
 have JH:((s[0].toNat:Int)==80)=Î:=by rw[l];rfl
 clear M z h;have Um:((B[k].toNat:Int) !=125)=Î:=by rwa[bne_iff_ne]
 have N:=fe<|abt (B:=B) (k:=k) (st:={st with r:=0}) n.out l o<|È r;have abv:(st.I==40)=Î:=by rw[r];rfl
 clear r o l i j;rcases v with⟨P,mT⟩|P;all_goals
  go_wp2_with (first|(go_at_call 94;refine(sf _ _).mono ?_;rintro e u ⟨rfl,hw⟩;subst u))
  exact E _ _ ⟨gi,⟨D,F.out.trans N.out,_,H.out,_,_,_,I.out⟩⟩
def aqY{X:Ĉ->Í->Prop}(E:Fr b B (Å É k) y) (i:gP m b g O s st w) (j:ju B k st) (S:B.size<=1200) (F:k<B.size) (v:(0<st.r/\jR (B[k].toNat:Int)=Ë)\/st.r<=0) (x:0<s.size) (l:((s[0]'x).toNat:Int)=80) (o:¬(B[k].toNat:Int)=125) (r:¬st.I=40) (z:¬lH (B[k].toNat:Int)=0) (T:∀y u,Fr b B (Å É<|(k:Int)+1) y/\sj m b B k st w u->K y u) (_hQ:∀y u,Fr b B (Å É k) y/\sk m b B k st w u->X y u): á À qy (Exit.then K<|QQ X) y w:=by
 obtain⟨f,rfl⟩:=E;unfold pI;conv=>arg 2;whnf
 have V:w.cell? ⟨b,0,Á⟩=Â (Ä s):=i.r.r 0 _ U;have W:w.cell? ⟨b,6,Á⟩=Â (Å É st.r):=i.r.r 6 _ U;have Y:w.cell? ⟨b,7,Á⟩=Â (Å É st.I):=i.r.r 7 _ U;have f0:=i.r.C 0;have f6:=i.r.C 6;have f7:=i.r.C 7;have d0:=j.M;have d1:=j.r;have e0:=j.C;have e1:=j.I;have G:=fe<|uQ (B:=B) (k:=k)<|uP v;have H:=i.Y 0 λh=>absurd h A;have I:=fe<|mF i 6<|Å É 0;have zP:=j.d.C;have Dz:=j.d.I;have C:=fe H;let⟨tS,zO⟩:=uR B[k];have qT:=tu s Z;have xR:s.size<=10:=i.M;have n:=fe (show st.C=(s[0].toNat:Int)::(jS s).tail by rw[<-i.I];exact vO s x);have J:st.d.r=Î:=by
  rcases i.N with q|q
  .exact q
  .rw[n.out]at q;injection q with q;omega
 have q:st.d.M=Î:=j.N (by rw[n.out,l];simp);have L:w.cell? ⟨b,3,Á⟩=Â (Ã<|g.Y st.d):=i.r.r 3 _ U;rw[JD q]at L;let⟨M,D,h⟩:=(i.C.r J).C q;have Uk:w.cell? ⟨g.t,5,Á⟩=Â (Ä st.d.N.p):=h.r 5 _ (by have:=Dy st.d.N.c<|Ä st.d.N.p;rwa[D]at this);have Ul:=h.C 5;have NW:¬b=g.t:=λe=>fg.S h i.r A e.symm;have NV:¬g.t=b:=fg.S h i.r A;let⟨NY,_⟩:=j.Y (by rw[n.out,l];simp);have xS:((s[0].toNat:Int)==82)=Ë:=by rw[l];rfl
 have Gk:((s[0].toNat:Int)==66)=Ë:=by rw[l];rfl
 have Gl:((s[0].toNat:Int)==84)=Ë:=by rw[l];rfl
 have JH:((s[0].toNat:Int)==80)=Î:=by rw[l];rfl
 clear M D h;have Um:((B[k].toNat:Int) !=125)=Î:=by rwa[bne_iff_ne]
 have N:=fe<|aqJ (B:=B) (k:=k) (st:={st with r:=0}) n.out l o r z;have abv:(st.I==40)=Ë:=by rwa[beq_eq_false_iff_ne]
 have yU:((lH (B[k].toNat:Int):Int)==0)=Ë:=by rw[beq_eq_false_iff_ne];omega
 clear r o l i j z;rcases v with⟨P,mT⟩|P;all_goals
  go_wp2_with (first|(go_at_call 94;refine(sf _ _).mono ?_;rintro e u ⟨rfl,Q⟩;subst u)|(go_at_call 103;refine(qm _ _).mono ?_;rintro e u ⟨rfl,Q⟩;subst u))
  exact⟨gi,⟨F,_,G.out.trans N.out,I.out.ff<|mF C.out 7 _,_,_,_,C.out.aa8 _⟩⟩
def aqZ{X:Ĉ->Í->Prop}(D:Fr b B (Å É k) y) (i:gP m b g O s st w) (j:ju B k st) (T:B.size<=1200) (E:k<B.size) (v:(0<st.r/\jR (B[k].toNat:Int)=Ë)\/st.r<=0) (x:0<s.size) (l:((s[0]'x).toNat:Int)=80) (o:¬(B[k].toNat:Int)=125) (z:¬st.I=40) (r:lH (B[k].toNat:Int)=0) (_hK:∀y u,Fr b B (Å É<|(k:Int)+1) y/\sj m b B k st w u->K y u) (F:∀y u,Fr b B (Å É k) y/\sk m b B k st w u->X y u): á À qy (Exit.then K<|QQ X) y w:=by
 obtain⟨f,rfl⟩:=D;unfold pI;conv=>arg 2;whnf
 have V:w.cell? ⟨b,0,Á⟩=Â (Ä s):=i.r.r 0 _ U;have W:w.cell? ⟨b,6,Á⟩=Â (Å É st.r):=i.r.r 6 _ U;have Y:w.cell? ⟨b,7,Á⟩=Â (Å É st.I):=i.r.r 7 _ U;have f0:=i.r.C 0;have f6:=i.r.C 6;have f7:=i.r.C 7;have d0:=j.M;have d1:=j.r;have e0:=j.C;have e1:=j.I;have G:=fe<|uQ (B:=B) (k:=k)<|uP v;have H:=i.Y 0 λh=>absurd h A;have I:=fe<|mF i 6<|Å É 0;have zP:=j.d.C;have Dz:=j.d.I;have J:=fe H;let⟨tS,zO⟩:=uR B[k];have qT:=tu s Z;have xR:s.size<=10:=i.M;have n:=fe (show st.C=(s[0].toNat:Int)::(jS s).tail by rw[<-i.I];exact vO s x);have L:st.d.r=Î:=by
  rcases i.N with q|q
  .exact q
  .rw[n.out]at q;injection q with q;omega
 have q:st.d.M=Î:=j.N (by rw[n.out,l];simp);have M:w.cell? ⟨b,3,Á⟩=Â (Ã<|g.Y st.d):=i.r.r 3 _ U;rw[JD q]at M;let⟨N,C,h⟩:=(i.C.r L).C q;have Uk:w.cell? ⟨g.t,5,Á⟩=Â (Ä st.d.N.p):=h.r 5 _ (by have:=Dy st.d.N.c<|Ä st.d.N.p;rwa[C]at this);have Ul:=h.C 5;have NW:¬b=g.t:=λe=>fg.S h i.r A e.symm;have NV:¬g.t=b:=fg.S h i.r A;let⟨NY,_⟩:=j.Y (by rw[n.out,l];simp);have xS:((s[0].toNat:Int)==82)=Ë:=by rw[l];rfl
 have Gk:((s[0].toNat:Int)==66)=Ë:=by rw[l];rfl
 have Gl:((s[0].toNat:Int)==84)=Ë:=by rw[l];rfl
 have JH:((s[0].toNat:Int)==80)=Î:=by rw[l];rfl
 clear N C h;have Um:((B[k].toNat:Int) !=125)=Î:=by rwa[bne_iff_ne]
 have P:=fe<|abt (B:=B) (k:=k) (st:={st with r:=0}) n.out l o<|Ï r;have abv:(st.I==40)=Ë:=by rwa[beq_eq_false_iff_ne]
 have yU:((lH (B[k].toNat:Int):Int)==0)=Î:=by rw[r];rfl
 clear z o l i j r;rcases v with⟨Q,mT⟩|Q;all_goals
  go_wp2_with (first|(go_at_call 94;refine(sf _ _).mono ?_;rintro e u ⟨rfl,S⟩;subst u)|(go_at_call 103;refine(qm _ _).mono ?_;rintro e u ⟨rfl,S⟩;subst u))
  exact F _ _ ⟨gi,⟨E,G.out.trans P.out,_,I.out,_,_,_,J.out⟩⟩
end
section
variable{g:Gh}{s:ByteArray}{st:PS}{d:PD}
def aq0{X:Ĉ->Í->Prop}(D:Fr b B (Å É k) y) (f:gP m b g O s st w) (i:ju B k st) (Q:B.size<=1200) (E:k<B.size) (v:(0<st.r/\jR (B[k].toNat:Int)=Ë)\/st.r<=0) (j:0<s.size) (n:¬((s[0]'j).toNat:Int)=82) (o:¬((s[0]'j).toNat:Int)=66) (p:¬((s[0]'j).toNat:Int)=84) (r:¬((s[0]'j).toNat:Int)=80) (x:qw ((s[0]'j).toNat:Int) (B[k].toNat:Int)=Î) (S:∀y u,Fr b B (Å É<|(k:Int)+1) y/\sj m b B k st w u->K y u) (_hQ:∀y u,Fr b B (Å É k) y/\sk m b B k st w u->X y u): á À qy (Exit.then K<|QQ X) y w:=by
 obtain⟨c,rfl⟩:=D;unfold pI;conv=>arg 2;whnf
 have T:w.cell? ⟨b,0,Á⟩=Â (Ä s):=f.r.r 0 _ U;have V:w.cell? ⟨b,6,Á⟩=Â (Å É st.r):=f.r.r 6 _ U;have W:w.cell? ⟨b,7,Á⟩=Â (Å É st.I):=f.r.r 7 _ U;have Y:=f.r.C 0;have f6:=f.r.C 6;have f7:=f.r.C 7;have d0:=i.M;have d1:=i.r;have e0:=i.C;have e1:=i.I;have F:=fe<|uQ (B:=B) (k:=k)<|uP v;have G:=f.Y 0 λh=>absurd h A;have H:=fe<|mF f 6<|Å É 0;have zP:=i.d.C;let⟨I,J⟩:=uR B[k];have qT:=tu s Z;have xR:s.size<=10:=f.M;have l:=fe (show st.C=(s[0].toNat:Int)::(jS s).tail by rw[<-f.I];exact vO s j);have z:st.d.r=Î:=by
  rcases f.N with q|q
  .exact q
  .rw[l.out]at q;injection q with q;omega
 have xS:((s[0].toNat:Int)==82)=Ë:=by rwa[beq_eq_false_iff_ne]
 have aq1:((s[0].toNat:Int)==66)=Ë:=by rwa[beq_eq_false_iff_ne]
 have Gl:((s[0].toNat:Int)==84)=Ë:=by rwa[beq_eq_false_iff_ne]
 have JH:((s[0].toNat:Int)==80)=Ë:=by rwa[beq_eq_false_iff_ne]
 have L:=fe<|aqK (B:=B) (k:=k) (st:={st with r:=0}) l.out n o p r x;have M:=fe x;clear n o p r f i;rcases v with⟨N,mT⟩|N;all_goals
  go_wp2_with (first|(go_at_call 94;refine(sf _ _).mono ?_;rintro e u ⟨rfl,h⟩;subst u)|(go_at_call 104;refine(aa2 _ _ I J _).mono ?_;rintro e u ⟨rfl,h⟩;subst u)|(go_at_call 100;refine(MK G U z _ _ M.out).mono ?_;rintro e P ⟨rfl,C,g',nm',q,h⟩;have k0:P.cell? ⟨b,0,Á⟩=Â (Ä q):=h.r.r 0 _ U;have kf0:=h.r.C 0;have tT:0<q.size:=h.aqN l.out;have auA:q.size<=10:=h.M;have t:=fe<|Ê C h;clear C h))
  exact⟨gi,⟨E,_,F.out.trans L.out,H.out.ff<|t.out.1.ff<|mF t.out.2 0 _,_,_,_,t.out.2.abu ((Ue _ _ _).1.trans z) l.out⟩⟩
def aq2{X:Ĉ->Í->Prop}(t:Fr b B (Å É k) y) (f:gP m b g O s st w) (i:ju B k st) (L:B.size<=1200) (v:k<B.size) (r:(0<st.r/\jR (B[k].toNat:Int)=Ë)\/st.r<=0) (j:0<s.size) (l:¬((s[0]'j).toNat:Int)=82) (n:¬((s[0]'j).toNat:Int)=66) (o:¬((s[0]'j).toNat:Int)=84) (p:¬((s[0]'j).toNat:Int)=80) (x:qw ((s[0]'j).toNat:Int) (B[k].toNat:Int)=Ë) (_hK:∀y u,Fr b B (Å É<|(k:Int)+1) y/\sj m b B k st w u->K y u) (z:∀y u,Fr b B (Å É k) y/\sk m b B k st w u->X y u): á À qy (Exit.then K<|QQ X) y w:=by
 obtain⟨c,rfl⟩:=t;unfold pI;conv=>arg 2;whnf
 have M:w.cell? ⟨b,0,Á⟩=Â (Ä s):=f.r.r 0 _ U;have N:w.cell? ⟨b,6,Á⟩=Â (Å É st.r):=f.r.r 6 _ U;have P:w.cell? ⟨b,7,Á⟩=Â (Å É st.I):=f.r.r 7 _ U;have Q:=f.r.C 0;have S:=f.r.C 6;have T:=f.r.C 7;have V:=i.M;have W:=i.r;have Y:=i.C;have e1:=i.I;have C:=fe<|uQ (B:=B) (k:=k)<|uP r;have D:=f.Y 0 λh=>absurd h A;have E:=fe<|mF f 6<|Å É 0;have zP:=i.d.C;have Dz:=i.d.I;have F:=fe D;let⟨G,H⟩:=uR B[k];have qT:=tu s Z;have xR:s.size<=10:=f.M;have h:=fe (show st.C=(s[0].toNat:Int)::(jS s).tail by rw[<-f.I];exact vO s j);have on:st.d.r=Î:=by
  rcases f.N with q|q
  .exact q
  .rw[h.out]at q;injection q with q;omega
 have xS:((s[0].toNat:Int)==82)=Ë:=by rwa[beq_eq_false_iff_ne]
 have aq1:((s[0].toNat:Int)==66)=Ë:=by rwa[beq_eq_false_iff_ne]
 have Gl:((s[0].toNat:Int)==84)=Ë:=by rwa[beq_eq_false_iff_ne]
 have JH:((s[0].toNat:Int)==80)=Ë:=by rwa[beq_eq_false_iff_ne]
 have q:=fe<|aqL (B:=B) (k:=k) (st:={st with r:=0}) h.out l n o p x;clear l n o p f i;rcases r with⟨I,mT⟩|I;all_goals
  go_wp2_with (first|(go_at_call 94;refine(sf _ _).mono ?_;rintro e u ⟨rfl,J⟩;subst u)|(go_at_call 104;refine(aa2 _ _ G H _).mono ?_;rintro e u ⟨rfl,J⟩;subst u))
  exact z _ _ ⟨gi,⟨v,C.out.trans q.out,_,E.out,_,_,_,F.out⟩⟩
end
section
variable{g:Gh}{c:PS}{d:PD}
theorem aq3{X:Ĉ->Í->Prop}{d:ByteArray}(e:Fr b d (Å É k) y) (f:gP m b g O B c w) (h:ju d k c) (i:d.size<=1200) (j:k<d.size) (l:∀y v,Fr b d (Å É<|(k:Int)+1) y/\sj m b d k c w v->K y v) (n:∀y v,Fr b d (Å É k) y/\sk m b d k c w v->X y v): á À qy (Exit.then K<|QQ X) y w:=by
 by_cases z:0<c.r/\jR (d[k].toNat:Int)=Î
 .exact aqQ e f h i j z.1 z.2 l n
 have o:(0<c.r/\jR (d[k].toNat:Int)=Ë)\/c.r<=0:=by grind
 by_cases D:B.size=0
 .exact aqR e f h i j o D l n
 have p:0<B.size:=Z
 by_cases t:(B[0].toNat:Int)=82
 .exact aqS e f h i j o p t l n
 by_cases r:(B[0].toNat:Int)=66
 .cases q:rX (d[k].toNat:Int)with
  |true=>exact aqT e f h i j o p r q l n
  |false=>exact aqU e f h i j o p r q l n
 by_cases u:(B[0].toNat:Int)=84
 .exact aqV e f h i j o p u l n
 by_cases q:(B[0].toNat:Int)=80
 .by_cases s:(d[k].toNat:Int)=125
  .exact aqW e f h i j o p q s l n
  by_cases x:c.I=40
  .exact aqX e f h i j o p q s x l n
  by_cases C:lH (d[k].toNat:Int)=0
  .exact aqZ e f h i j o p q s x C l n
  .exact aqY e f h i j o p q s x C l n
 cases s:qw (B[0].toNat:Int) (d[k].toNat:Int)with
 |true=>exact aq0 e f h i j o p t r u q s l n
 |false=>exact aq2 e f h i j o p t r u q s l n
def aq4{X:Ĉ->Í->Prop}(c:Fr b B (Å É k) y)(_hB:B.size<=1200)(e:¬k<B.size)(_hk:k<=B.size) (d:∀y v,Fr b B (Å É k) y/\v=w->X y v): á À qy (Exit.then K<|QQ X) y w:=by
 obtain⟨u,rfl⟩:=c;unfold pI;conv=>arg 2;whnf
 go_wp2;exact d _ _ ⟨gi,U⟩
def mW(B:ByteArray):Nat×PS:=ou B B.size 0 tq
def RI(m b:Nat)(d:ByteArray)(w:Í)(a:Ĉ)(e:Í):Prop:=
 ∃(k:Nat) (g:Gh) (O:Option ù) (B:ByteArray) (c:PS),k<=d.size/\Fr b d (Å É k) a/\gP m b g O B c e/\e9 (λi=>m<=i) w e/\ju d k c/\mW d=ou d (d.size-k) k c
def Rmu(B:ByteArray)(a:Ĉ)(_:Í):Nat:=B.size-(intOf<|a.tmps.getD 5 ĸ).toNat
def RX(m b:Nat)(B:ByteArray)(w:Í)(a:Ĉ)(d:Í):Prop:=
 ∃(k:Nat) (c:PS),k<=B.size/\Fr b B (Å É k) a/\si m b c w d/\(mW B).1=k/\(k=B.size->(mW B).2=c)
def abw{i:Int}{w:Í}(h:Fr b B (Å É i) y):Rmu B y w=B.size-i.toNat:=by obtain⟨u,rfl⟩:=h;rfl
def aq5{a:PS}(b:k<B.size)(d:re B k c (B[k].toNat:Int)=Â a):ou B (B.size-k) k c=ou B (B.size-(k+1)) (k+1) a:=by rw[show B.size-k=(B.size-(k+1))+1 by omega,ou,dif_pos b,d]
def aq6(a:k<B.size)(b:re B k c (B[k].toNat:Int)=Á):ou B (B.size-k) k c=(k,c):=by rw[show B.size-k=(B.size-(k+1))+1 by omega,ou,dif_pos a,b]
def aq7{d:ByteArray}(i:Fr b d (Å É 0) y)(h:gP m b g O B tq w)(r:d.size<=1200): á À (ń qy) (QQ<|RX m b d w) y w:=by
 apply Γ (RI m b d w) (Rmu d) ⟨0,g,O,B,tq,Ö _,i,h,e9.fT _ _,Uh d,U⟩;rintro y x ⟨k,g,O,B,c,n,i,s,o,t,p⟩;by_cases j:k<d.size
 .refine aq3 i s t r j ?_ ?_
  .rintro u v ⟨f,z,e,l,q,C,D,E,F⟩;refine⟨⟨k+1,C,D,E,e,Z,by simpa using f,F,o.ff q,abm t j l,p.trans<|aq5 j l⟩,?_⟩;rw[abw f,abw (w:=x) i];omega
  .rintro u v ⟨f,z,l,C,q,D⟩;have:=p.trans<|aq6 j l;exact⟨k,C,n,f,⟨o.ff q,D⟩,by rw[this],λe=>by omega⟩
 .apply aq4 i r j n;rintro u v ⟨f,rfl⟩;have:mW d=(k,c):=by rw[p,show d.size-k=0 by omega];rfl
  exact⟨k,c,n,f,⟨o,g,O,B,s⟩,by rw[this],λ_=>by rw[this]⟩
def aq8{c:ByteArray}(h:gP m b g O B tq w)(f:c.size<=1200): Ò À 61 #[Ã<|Â ⟨b,0,Á⟩,Ä c] w λe u=>
  ∃(k:Nat) (d:PS),k<=c.size/\e=Ç (Å É k)/\si m b d w u/\(mW c).1=k/\(k=c.size->(mW c).2=d):=by
 go_enter Tryz.func61,Tryz.ntmps61;go_wp2;go_step3;go_wp2;go_step3;go_wp2;refine İ ?_ (aq7 gi h f);rintro(_|(_|_)|_|_|_|_) a v hq;all_goals first|exact absurd hq id|skip
 let⟨k,d,i,j,l⟩:=hq;obtain⟨e,rfl⟩:=j;unfold pI;go_wp2;(try rw[Exit.noGoto_ret]);go_ret;exact⟨k,d,i,U,(fe l).out⟩
end
def mG(B:ByteArray):Int×Bool×List PR:=
 if B.size=0 then(0,Î,[])else(((mW B).1:Int),decide ((mW B).1=B.size)&&(decide ((mW B).2.C=[])||decide ((mW B).2.C=[66])),(mW B).2.d.C)
def iA(B:ByteArray):Int×Int×List PR:=
 if 1200<B.size then(1,0,[])else if(mG B).2.1=Î then(0,0,(mG B).2.2)else(2,(mG B).1,[])
def DC(m:Nat)(v:Ñ)(b:List PR)(w:Í):Prop:=jC m w/\∃a,w.ownsRow m 148 1 v a.length (nD a)/\pG w.heap.size a b w
section
variable{g:Gh}{s:ByteArray}{a:PS}
def DC.oU(w:Í):DC w.heap.size (Æ Á 0 0) [] w:=⟨jC.I w,[],⟨U,È ⟨U,U⟩⟩,pG.N _ _⟩
def gP.iK(h:gP m b g O s a w)(c:a.d.r=Ë->a.d.S=[])(n:Nat):DC m g.N a.d.C (w.drewN n):= ⟨h.a.iN n,g.C a.d,ia h.C.C (e9.iN (λ_=>False) w n) λ_ _=>id,(h.C.abe c).C (e9.iN (λ_=>False) w n) λ_ _ x=>x.elim⟩
def g0(m:Nat):Gh:={a:=[],q:=0,t:=0,B:=m,tb:=[],N:=Æ Á 0 0,r:=Æ Á 0 0,b:=Á}
def aq9(w:Í):gP w.heap.size w.heap.size (g0 w.heap.size) Á ⟨#[82]⟩ tq (w.alloc<|Û #[Ä ⟨#[82]⟩,Æ Á 0 0,Ã Á,Ã Á,Ã Á,Ã Á,Å É 0,Å É 0] 153):= ⟨æ _,(jC.I w).gG _ _ A A (λv e=>by simp at e;rcases e with rfl|rfl|rfl|rfl<;>trivial),fg.N w [Ä ⟨#[82]⟩,Æ Á 0 0,Ã Á,Ã Á,Ã Á,Ã Á,Å É 0,Å É 0] 153,A,A,⟨⟨U,È ⟨U,U⟩⟩,pG.N _ _,(λe=>by cases e),λ_=>rfl⟩,(λq=>by cases q),Ï rfl⟩
def ara(s:ByteArray):jS s=[66]↔s.toList=[66]:=by
 unfold jS;rw[ByteArray.toList_eq];constructor
 .intro h;match hl:s.data.toList with
  |[]=>rw[hl]at h;simp at h
  |[x]=>
   rw[hl]at h;simp only[ŉ,Ő,List.cons.injEq,and_true]at h;have:x=66:=UInt8.toNat_inj.1 (by have:x.toNat=66:=Z;rw[this];rfl);rw[this]
  |x::y::r=>rw[hl]at h;simp at h
 .intro h;rw[h];rfl
def Un(a:¬B.size=0):(mG B).1=((mW B).1:Int):=by rw[mG,if_neg a]
def abx(a:¬B.size=0):(mG B).2.2=(mW B).2.d.C:=by rw[mG,if_neg a]
def arb(a:¬B.size=0)(h:¬(mW B).1=B.size):(mG B).2.1=Ë:=by rw[mG,if_neg a];simp[h]
def aby(a:¬B.size=0)(h:(mW B).1=B.size){x:Bool}(b:x=(decide ((mW B).2.C=[])||decide ((mW B).2.C=[66]))):(mG B).2.1=x:=by rw[mG,if_neg a,b];simp[h]
def ard(B:ByteArray):(mW B).2.d.r=Ë->(mW B).2.d.S=[]:=λe=>((Ui B.size 0 tq (Uh B)<|Ö _).1.d.N e).1
theorem abz(q:B.size<=1200): Ò À 45 #[Ä B] w λe u=>
  e9 (λ_=>False) w u/\∃v,e=Ç (ë #[v,Å É (mG B).1,õ (mG B).2.1])/\((mG B).2.1=Î->DC w.heap.size v (mG B).2.2 u):=by
 by_cases a:B.size=0
 .have f:=Uj B a;have n:=fe (show mG B=(0,Î,[])from if_pos a);go_enter η,Ν;go_wp2;apply Ā (v:=ë #[Æ Á 0 0,Å É 0,õ Î]) (by simp[Ń,Ĥ,go_sem]) U;exact⟨e9.fT _ _,_,by rw[n.out],λ_=>by rw[n.out];exact DC.oU w⟩
 .have f:=tu B a;have b:=fe a;go_enter η,Ν;go_wp2_with (go_at_call 61;refine(aq8 (aq9 w) q).mono ?_;rintro e r ⟨k,d,i,rfl,⟨n,g,O,s,c⟩,h,t⟩);have l:e9 (λ_=>False) w r:=((e9.gG (λi=>w.heap.size<=i) w _ _).ff n).S λi D x=>by omega
  have E:=c.r.r 0 _ U;have F:=c.r.r 1 _ U;by_cases m:k=B.size
  .subst m;have y:=t U;subst y;have o:=fe c.I;have p:=fe λn=>c.iK (ard B) n;have n:=fe h;have d:=fe l;have z:((B.size:Int)==(B.size:Int))=Î:=fj
   by_cases a:s.size=0
   .have f:=Uj s a;have j:=fe (aby b.out n.out (x:=Î)<|by rw[<-o.out,aa0 s a];rfl);go_quiet (fail);go_wp2;apply Ā (v:=ë #[g.N,Å É B.size,õ Î]) (by simp[Ń,Ĥ,go_sem]) U;exact⟨d.out.ff<|e9.iN _ _ _,_,by rw[Un b.out,n.out,j.out],λ_=>by rw[abx b.out];exact p.out _⟩
   .have f:=tu s a;have j:=fe (aby b.out n.out (x:=(s.toList==[66])) (by
     rw[<-o.out];have C:¬jS s=[]:=λe=>by have:=T0 s;grind
     rw[decide_eq_false C,Bool.false_or,Ě,beq_iff_eq,decide_eq_true_iff,ara]))
    go_quiet (fail)
    go_wp2;apply Ā (v:=ë #[g.N,Å É B.size,õ<|s.toList==[66]]) (by simp[Ń,Ĥ,go_sem]) U;exact⟨d.out.ff<|e9.iN _ _ _,_,by rw[Un b.out,n.out,j.out],λ_=>by rw[abx b.out];exact p.out _⟩
  .have z:((k:Int)==(B.size:Int))=Ë:=by rw[beq_eq_false_iff_ne];omega
   have n:=fe (Ê h<|arb b.out<|by rwa[h]);have d:=fe l;go_quiet (fail);go_wp2;apply Ā (v:=ë #[g.N,Å É k,õ Ë]) (by simp[Ń,Ĥ,go_sem]) U;exact⟨d.out.ff<|e9.iN _ _ _,_,by rw[Un b.out,n.out.1,n.out.2],λe=>by rw[n.out.2]at e;cases e⟩
def arf(h:B.size<=đ): Ò À 36 #[Ä B] w λe u=>
  e9 (λ_=>False) w u/\∃v,e=Ç (ë #[v,Å É (iA B).1,Å É (iA B).2.1])/\((iA B).1=0->DC w.heap.size v (iA B).2.2 u)/\((iA B).1≠0->v=Æ Á 0 0):=by
 unfold đ at h;by_cases b:1200<B.size
 .have a:=fe (show iA B=(1,0,[]) by rw[iA,if_pos b]);go_enter ļ,Ř;go_wp2;apply Ā (v:=ë #[Æ Á 0 0,Å É 1,Å É 0]) (by simp[Ń,Ľ,go_sem]) U;exact⟨e9.fT _ _,_,by rw[a.out],(λe=>by rw[a.out]at e;cases e),λ_=>rfl⟩
 .have f:B.size<=1200:=Z
  cases c:(mG B).2.1 with
  |true=>
   have a:=fe (show iA B=(0,0,(mG B).2.2) by rw[iA,if_neg b,if_pos c]);go_enter ļ,Ř;go_wp2_with (go_at_call 45;refine(abz f).mono ?_;rintro e i ⟨d,v,rfl,g⟩);apply Ā (v:=ë #[v,Å É 0,Å É 0]) (by simp[Ń,Ľ,go_sem]) U;exact⟨d,_,by rw[a.out],(λ_=>by rw[a.out];exact g c),λe=>by rw[a.out]at e;exact absurd U e⟩
  |false=>
   have a:=fe (show iA B=(2,(mG B).1,[]) by rw[iA,if_neg b,if_neg (by rw[c];exact Bool.false_ne_true)]);go_enter ļ,Ř;go_wp2_with (go_at_call 45;refine(abz f).mono ?_;rintro e i ⟨d,v,rfl,g⟩);apply Ā (v:=ë #[Æ Á 0 0,Å É 2,Å É (mG B).1]) (by simp[Ń,Ľ,go_sem]) U;exact⟨d,_,by rw[a.out],(λe=>by rw[a.out]at e;cases e),λ_=>rfl⟩
end
end Go.Proofs.Y.ot
namespace Go.Proofs.Y.kT
open Go Go.Conc Go.Proofs Go.RowKit Go.Proofs.Y.Lift Go.Proofs.Y.gO Go.Proofs.Y.fu Go.Proofs.Y.ot
structure JJ(a:Nat)(t:PT)(w:Í):Prop where
 r:∃cs fz,w.heap[a]?=Â (Û cs 200 fz)
 c:∀i,i<5->w.cell? ⟨a,i,Á⟩=Â (Å É<|t.c.getD i 0)
 p:w.cell? ⟨a,5,Á⟩=Â (Ä t.p)
structure xT(r:Nat)(p:PR)(w:Í):Prop where
 c:∀i,i<8->w.cell? ⟨r,i,Á⟩=Â (Å É<|p.c.getD i 0)
 b:∃bp n cp,w.cell? ⟨r,8,Á⟩=Â (Æ bp n cp)/\n=p.r.length/\∀(j:Nat) (t:PT),p.r[j]?=Â t->∃tb a,bp=Â ⟨tb,0,Á⟩/\w.cell? ⟨tb,j,Á⟩=Â (Ã<|Â ⟨a,0,Á⟩)/\JJ a t w
structure RQ(rs:List PR)(v:Ñ)(U:Nat->Prop)(w:Í):Prop where
 C:kG nB U w
 I:fi (lh U nB) v v
 M:∃bp cp,v=Æ bp rs.length cp/\∀(j:Nat) (p:PR),rs[j]?=Â p->∃sb r,bp=Â ⟨sb,0,Á⟩/\w.cell? ⟨sb,j,Á⟩=Â (Ã<|Â ⟨r,0,Á⟩)/\xT r p w
section
variable{f:Nat->Prop}{rs:List PR}{Y:fq}
theorem arh(h:jg Y X u w){t:PT}(d:Y i n)(k:JJ i t u):JJ n t w:=by refine⟨?_,λb f=>(zK h).r d<|k.c b f,(zK h).C d k.p⟩;let⟨c,g,e,j,l,m,o,_⟩:=h.r i n d;let⟨r,s,q⟩:=k.r;grind
def ari(h:jg Y X u w){r:Nat}{p:PR}(d:Y r m)(k:xT r p u):xT m p w:=by refine⟨λi f=>(zK h).r d<|k.c i f,?_⟩;let⟨N,n,g,l,o,q⟩:=k.b;let⟨x,s,v⟩:=zK h r m 8 _ d l;obtain⟨y,rfl,z⟩:=NA v;refine⟨y,n,g,s,o,λj t B=> ?_⟩;let⟨tb,a,C,D,E⟩:=q j t B;let⟨O,F,G⟩:=z _ C;obtain⟨e,rfl,H⟩:=zG G;let⟨P,I,J⟩:=zK h tb e j _ H D;obtain⟨Q,rfl,K⟩:=Nz J;obtain⟨L,rfl,M⟩:=zG K;exact⟨e,L,F,I,arh h M E⟩
def arj(h:jg Y X u w)(b:fi Y v x)(a:RQ rs v f u):RQ rs x (λj=>∃i,f i/\Y i j) w:=by refine⟨TU h a.C,NB b a.I,?_⟩;obtain⟨E,c,rfl,d⟩:=a.M;obtain⟨e,rfl,g⟩:=NA b;refine⟨e,c,U,λj p k=> ?_⟩;let⟨l,r,m,n,o⟩:=d j p k;let⟨F,q,s⟩:=g _ m;obtain⟨i,rfl,t⟩:=zG s;let⟨G,y,z⟩:=zK h l i j _ t n;obtain⟨H,rfl,B⟩:=Nz z;obtain⟨C,rfl,D⟩:=zG B;exact⟨i,C,q,y,ari h D o⟩
def zR(k:W.heap[b]?=w.heap[b]?)(h:w.cell? ⟨b,i,Á⟩=Â z):W.cell? ⟨b,i,Á⟩=Â z:=by simp only[à,k];exact h
def ark(l:kG nB X w)(k:∀b,X b->W.heap[b]?=w.heap[b]?){r:Nat}{p:PR}(d:X r)(h:xT r p w):xT r p W:=by
 refine⟨λi e=>zR (k r d)<|h.c i e,?_⟩;let⟨u,n,v,m,x,y⟩:=h.b;refine⟨u,n,v,zR (k r d) m,x,λj t z=> ?_⟩;let⟨tb,a,o,q,f⟩:=y j t z;have s:X tb:=by have:=l.r d m;rw[o]at this;exact Du this
 have g:=Dt<|l.r s q;exact⟨tb,a,o,zR (k tb s) q,⟨by rw[k a g];exact f.r,λi e=>zR (k a g)<|f.c i e,zR (k a g) f.p⟩⟩
def RQ.r(h:RQ rs v f w)(k:∀b,f b->W.heap[b]?=w.heap[b]?):RQ rs v f W:=by
 refine⟨h.C.C k,h.I,?_⟩;obtain⟨g,i,rfl,l⟩:=h.M;refine⟨g,i,U,λj p m=> ?_⟩;let⟨a,r,c,d,n⟩:=l j p m;have e:f a:=by have:=h.I;rw[c]at this;exact Du this
 exact⟨a,r,c,zR (k a e) d,ark h.C k (Dt<|h.C.r e d) n⟩
def abA{v:Ñ}(h:mV m i v):fi (lh (λd=>m<=d/\d<i) nB) v v:=by
 cases v with
 |int k n=>exact .iD k n
 |bool b=>exact .mj b
 |string i=>exact .kq i
 |pointer a=>cases a with
  |none=>exact .lN
  |some a=>exact fi.jT (Y:=lh (λd=>m<=d/\d<i) nB) ⟨⟨U,h⟩,U,U⟩
 |slice a n c=>cases a with
  |none=>exact .nG n c
  |some a=>exact fi.kQ (Y:=lh (λd=>m<=d/\d<i) nB) ⟨⟨U,h⟩,U,U⟩ n c
 |_=>exact absurd h<|by simp[mV]
def arl{v:Ñ}(h:mV m i v):yd v=Ë:=by
 cases v with
 |int k n=>cases k<;>first|rfl|exact absurd h<|by simp[mV]
 |_=>rfl
def arn(h:jC m w):kG nB (λi=>m<=i/\i<w.heap.size) w:=λb i=>by let⟨c,e,f,g,j,k,l,n,d⟩:=h b _ i.1<|å i.2;exact⟨c,e,f,by rw[å i.2,g],j,pA λv a=>abA<|d v a,k,zI λv a=>arl<|d v a,l,n⟩
theorem MJ{base:Nat}(h:w.ownsRow base e 1 v jJ.length (nD jJ)):∃b f,v=Æ b jJ.length f/\∀(j r:Nat),jJ[j]?=Â r->∃a,b=Â ⟨a,0,Á⟩/\base<=a/\w.cell? ⟨a,j,Á⟩=Â (Ã<|Â ⟨r,0,Á⟩):=by
 obtain⟨m,⟨n,o⟩|⟨g,p,q,rfl,i,k,s,t,u,l⟩⟩:=h
 .grind
 .refine⟨_,_,U,λj r c=>⟨g,U,i,?_⟩⟩;have x:=(Õ.1 c).1;have d:(nD jJ)[j]?=Â (Ã<|Â ⟨r,0,Á⟩):=by simp[nD,c]
  rw[<-l,List.getElem?_take_of_lt Z]at d;simp only[à,k,ö,ì,if_false];simpa using d
def abB(h:fg n (ov zQ++[z]) T w)(a:i<zQ.length):w.cell? ⟨n,i,Á⟩=Â (Å É<|zQ.getD i 0):=h.r i _<|T8 a z
def abC(h:fg i (ov zQ++[z]) T w)(a:zQ.length=n):w.cell? ⟨i,n,Á⟩=Â z:=h.r n _<|by rw[<-a];exact Dy zQ z
def aro{r:PR}(h:vR i n r w):xT n r w:=by
 let⟨x,tb,e,l,y,b⟩:=h.I;refine⟨λa c=>abB e (by rwa[h.C]),?_⟩;obtain⟨m,o,rfl,p⟩:=MJ l;refine⟨m,_,o,abC e h.C,b.r,λj t f=> ?_⟩;have g:j<tb.length:=by rw[b.r];exact(Õ.1 f).1
 let⟨s,u,z,v⟩:=p j tb[j]<|Ó g;let⟨_,_,k,d⟩:=b.I j tb[j] t (Ó g) f;exact⟨s,tb[j],u,v,⟨_,_,d⟩,λa c=>abB d (by rwa[k]),abC d k⟩
def arp(h:DC m v rs w):RQ rs v (λi=>m<=i/\i<w.heap.size) w:=by
 let⟨f,i,b,c⟩:=h;obtain⟨d,k,rfl,l⟩:=MJ b;refine⟨arn f,?_,d,k,by rw[c.I],λj p e=> ?_⟩
 .cases d with
  |none=>exact .nG _ _
  |some a=>
   have:=b.lt a.block (by rcases b.2 with⟨q,_⟩|⟨g,n,o,q,_⟩<;>(cases q;try rfl));exact abA this
 .have a:j<i.length:=by rw[c.I];exact(Õ.1 e).1
  let⟨g,q,o,n⟩:=l j i[j]<|Ó a;exact⟨g,i[j],q,n,aro<|c.M j i[j] p (Ó a) e⟩
end
def abD(B:ByteArray)(z:Ñ)(u:Í):Prop:=∃v,z=ë #[v,Å É (iA B).1,Å É (iA B).2.1]/\((iA B).1=0->∃a,RQ (iA B).2.2 v a u)
def arq(B:ByteArray):wD (abD B):=λv u T D h=>by let⟨x,a,b⟩:=h;refine⟨x,a,λe=> ?_⟩;let⟨U,c⟩:=b e;exact⟨U,c.r λ_ _=>rfl⟩
def ars{l:fc}(f:gw l)(s:¬l.q)(t:nB<=l.w.heap.size)(u:B.size<=đ)(m:Bool)(h:Ĕ)(k:List Ĕ): fu.fh À m (λa n=>jL l a/\a.d=l.d/\∃v,n=G (h.finish<|ë #[v,Å É (iA B).1,Å É (iA B).2.1]) k/\((iA B).1=0->∃V,RQ (iA B).2.2 v V a.w/\∀b,V b->a.O b/\l.w.heap.size<=b)) l (G (è À 36 #[Ä B] Ą)<|h::k):=by
 let⟨X,c,C,V⟩:=zk 36 fO;have D:∀T,Ò À 36 #[Ä B] (World.tp (k9 (λj=>False/\¬(lZ l).O j) l.w) T 0) fun|Ç v,j=>abD B v j/\kh j|_,_=>False:=λT=>by refine(arf u).mono ?_;rintro e p ⟨g,v,rfl,i,o⟩;exact⟨⟨v,U,λe=>⟨_,arp<|i e⟩⟩,g.gS F5⟩
 refine((Fo yf ME zk (arq B) fO C V (Fp f) s (λb q=>q.elim) ⟨λb q=>q.elim,t⟩ (λg q=>by cases q) (pA λv g=>by simp at g;subst g;exact .kq B) D m h k).lZ f).fM ?_;rintro a n ⟨x',⟨Y,j,v,v',_,E,F,⟨v0,rfl,o⟩,H,I,_,J⟩,rfl,K,L,_,_⟩;cases F with
 |@nH _ cs'' hs mr=>
  let⟨M⟩:=cs'';match M,hs with
  |[x,y,z],_=>
   have g:=mr 0 fj fj;have p:=mr 1 fj fj;have r:=mr 2 fj fj;simp at g p r;cases p;cases r;refine⟨K,J,x,H,λe=> ?_⟩;let⟨U,N⟩:=o e;refine⟨_,arj E g (N.r λ_ _=>rfl),λb V=> ?_⟩;let⟨i,_,P⟩:=V;let⟨Q,S⟩:=I i b P;have W:l.w.heap.size<=b:=S.elim (λq=>q.elim) λq=>q.elim (λq=>q.elim) id;refine⟨È (Q.resolve_right λq=> ?_),W⟩;rw[L]at q;have:=f.fx b q;omega
end Go.Proofs.Y.kT
namespace Go.Proofs.Y.gO
open Go Go.Proofs Go.RowKit Go.Proofs.Y.Lift
def DF:List Ñ:=im (j2 8)++[Æ Á 0 0,Å É 0,Æ Á 0 0]
def aru(w:Í):Ò À 44 #[] w λe a=>∃c B,e=Ç (Æ (Â ⟨c,0,Á⟩) 1 1)/\fg B DF 147 a/\fg c [Ã<|Â ⟨B,0,Á⟩] 136 a/\e9 (λ_=>False) w a:=by
 have d:(im<|j2 8).length=144:=rQ _;have i:(im (j2 8)++[Æ Á 0 0]).length=145:=by rw[Ù,d];rfl
 have f:=fe<|Ê d i;unfold DF;have j:=fe λW=>anD W;generalize j2 8=s at*;go_enter Tryz.func44,Tryz.ntmps44;go_wp2_with (first
  |(go_at_call 60;refine(j.out _).mono ?_;rintro e W ⟨rfl,b⟩;have k:=fe b;clear b)
  |(with_reducible refine ď U (Â 2) U _ _ (S8 U U f.out.1) ?_)
  |(with_reducible refine ď U (Â 3) U _ _ (anU U U f.out.2) ?_)
  |(with_reducible refine ď U (Â 4) U _ _ (J_ U U) ?_))
 have g:=fg.N (W.alloc<|Û (im s++[Æ Á 0 0,Å É 0,Æ Á 0 0]).toArray 147) [Ã<|Â ⟨W.heap.size,0,Á⟩] 136;have h:=e9.gG (λ_=>False) (W.alloc<|Û (im s++[Æ Á 0 0,Å É 0,Æ Á 0 0]).toArray 147) #[Ã<|Â ⟨W.heap.size,0,Á⟩] 136;have l:(W.alloc<|Û (im s++[Æ Á 0 0,Å É 0,Æ Á 0 0]).toArray 147).heap.size=W.heap.size+1:=fj
 rw[l]at g;have b:=fe (Ê ((fg.N W (im s++[Æ Á 0 0,Å É 0,Æ Á 0 0]) 147).I h id)<|Ê g<|(k.out.ff<|e9.gG (λ_=>False) W (im s++[Æ Á 0 0,Å É 0,Æ Á 0 0]).toArray 147).ff h);go_ret;exact⟨W.heap.size+1,W.heap.size,U,b.out.1,b.out.2.1,b.out.2.2⟩
def arv(n:Int)(j:1<=n)(k:n<=8)(w:Í):Ò À 35 #[Å É n] w λe b=>∃g a B,e=Ç (ë #[Ã<|Â ⟨g,0,Á⟩,Å É 0])/\fg g [Å É n,Æ (Â ⟨a,0,Á⟩) 1 1] 68 b/\fg B DF 147 b/\fg a [Ã<|Â ⟨B,0,Á⟩] 136 b/\e9 (λ_=>False) w b:=by go_enter θ,Tryz.ntmps35;go_wp2_with (go_at_call 44;refine(aru _).mono ?_;rintro e c ⟨a,B,rfl,f,h,i⟩;have d:=fe<|Ê f<|Ê h i;clear f h i);go_ret2;have f:=e9.gG (λ_=>False) c #[Å É n,Æ (Â ⟨a,0,Á⟩) 1 1] 68;exact⟨c.heap.size,a,B,U,fg.N c [Å É n,Æ (Â ⟨a,0,Á⟩) 1 1] 68,d.out.1.I f id,d.out.2.1.I f id,d.out.2.2.ff f⟩
end Go.Proofs.Y.gO
namespace Go.Proofs.Y.kT
open Go Go.Conc Go.Proofs Go.RowKit Go.Proofs.Y.Lift Go.Proofs.Y.gO Go.Proofs.Y.fu Go.Proofs.Y.ot
section
variable{Y:fq}{a:Nat->Prop}
def abE:∀v∈DF,(∃k n,v=Å k n/\k≠ū)\/(∃p,v=Ä p)\/v=Æ Á 0 0:=λv k=>by
 unfold DF at k;rcases â.1 k with q|q
 .rcases TT _ v q with⟨n,rfl⟩|⟨p,rfl⟩
  .exact È ⟨_,_,U,A⟩
  .exact Ï<|È ⟨p,U⟩
 .simp at q;rcases q with rfl|rfl|rfl
  .exact Ï<|Ï U
  .exact È ⟨_,_,U,A⟩
  .exact Ï<|Ï U
def abF:kV [gO.mE]:=⟨A,A,λv b=>by simp at b;subst b;exact⟨⟨(λp a=>by cases a),(λp a=>by cases a),Ö _,Ö _⟩,aag,Ť _,show(0:Int)<1 by decide⟩⟩
def arw(d:gO.fg n DF 147 w)(f:gO.fg i [Ã<|Â ⟨n,0,Á⟩] 136 w):RD [gO.mE] (Æ (Â ⟨i,0,Á⟩) 1 1) (λk=>k=i\/k=n) w:=by
 refine⟨[(n,gO.mE)],U,abF,⟨_,1,1,U,æ _,⟨U,λj b v e=> ?_⟩⟩,?_,fi.kQ (Y:=lh (λk=>k=i\/k=n) nB) ⟨⟨U,È U⟩,U,U⟩ 1 1⟩
 .cases j with
  |zero=>
   cases e;exact⟨_,0,U,f.r 0 _ U,(anV aag<|by rwa[ő])⟩
  |succ j=>simp at e
 .rintro b (rfl|rfl)
  .refine⟨_,_,_,f,fj,pA λv c=> ?_,fj,zI λv c=> ?_,A,A⟩
   .simp at c;subst c;exact fi.jT (Y:=lh (λk=>k=b\/k=n) nB) ⟨⟨U,Ï U⟩,U,U⟩
   .simp at c;subst c;rfl
  .refine⟨_,_,_,d,fj,pA λv c=> ?_,by simp[DF],zI λv c=> ?_,A,A⟩
   .rcases abE v (by simpa using c)with⟨k,a,rfl,_⟩|⟨p,rfl⟩|rfl
    .exact .iD k a
    .exact .kq p
    .exact .nG 0 0
   .rcases abE v (by simpa using c)with⟨k,a,rfl,g⟩|⟨p,rfl⟩|rfl
    .cases k<;>first|rfl|exact absurd U g
    .rfl
    .rfl
def Gm(b:Nat)(n:Int)(c:Ñ)(w:Í):Prop:=∃a,w.heap[b]?=Â (Û #[Å É n,c] 68 a)/\a=(0,0)
def Gm.r(h:Gm i c v w)(k:W.heap[i]?=w.heap[i]?):Gm i c v W:=by let⟨a,b,d⟩:=h;exact⟨a,k.trans b,d⟩
def arx(h:jg Y a u w)(g:∀b,¬a b)(q:Y i j)(k:gO.fg i [Å É c,v] 68 u):∃l,fi Y v l/\Gm j c l w:=by
 let⟨d,r,e,D,s,m,t,z,_,B,_⟩:=h.r i j q;unfold gO.fg at k;rw[k]at m;cases m;have f:=z.N<|g j;let⟨C⟩:=r;match C,f.r with
 |[x,y],_=>
  have o:=f.C 0 fj fj;have p:=f.C 1 fj fj;simp at o p;cases o;exact⟨y,p,s,t,(B<|g j).symm⟩
end
def abG(n:Int)(z:Ñ)(u:Í):Prop:=∃a b B,z=ë #[Ã<|Â ⟨a,0,Á⟩,Å É 0]/\gO.fg a [Å É n,Æ (Â ⟨b,0,Á⟩) 1 1] 68 u/\RD [gO.mE] (Æ (Â ⟨b,0,Á⟩) 1 1) (λi=>i=b\/i=B) u/\a≠b/\a≠B
def arz(n:Int):wD (abG n):=λv u T D h=>by let⟨b,c,B,d,e,a⟩:=h;exact⟨b,c,B,d,e,a.1.r λ_ _=>rfl,a.2⟩
def arA{l:fc}(p:gw l)(K:¬l.q)(L:nB<=l.w.heap.size){n:Int}(M:1<=n)(N:n<=8)(C:Bool)(r:Ĕ)(s:List Ĕ): fu.fh À C (λf D=>jL l f/\f.d=l.d/\∃a e,D=G (r.finish<|ë #[Ã<|Â ⟨a,0,Á⟩,Å É 0]) s/\Gm a n e f.w/\f.O a/\l.w.heap.size<=a/\∃V,RD [gO.mE] e V f.w/\¬V a/\∀b,V b->f.O b/\l.w.heap.size<=b) l (G (è À 35 #[Å É n] Ą)<|r::s):=by
 let⟨fn,c,P,t⟩:=zk 35 fO;have Q:∀T,Ò À 35 #[Å É n] (World.tp (k9 (λj=>False/\¬(lZ l).O j) l.w) T 0) fun|Ç v,h=>abG n v h/\kh h|_,_=>False:=λT=>by refine(arv n M N _).mono ?_;rintro e z ⟨a,k,B,rfl,V,m,o,g⟩;exact⟨⟨a,k,B,U,V,arw m o,gO.fg.S V o A,gO.fg.S V m A⟩,g.gS F5⟩
 refine((Fo yf ME zk (arz n) fO P t (Fp p) K (λb q=>q.elim) ⟨λb q=>q.elim,L⟩ (λg q=>by cases q) (pA λv e=>by simp at e;subst e;exact .iD _ _) Q C r s).lZ p).fM ?_;rintro f D ⟨u,⟨Y,h,v,v',_,g,S,⟨a,k,B,rfl,V,m,o,W⟩,X,q7,_,q6⟩,rfl,ha,hR,_,_⟩;have E:∀i j,Y i j->(qK l u).O j/\l.w.heap.size<=j:=λi j e=>by let⟨z,F⟩:=q7 i j e;have H:l.w.heap.size<=j:=F.elim (λq=>q.elim) λq=>q.elim (λq=>q.elim) id;refine⟨È (z.resolve_right λq=> ?_),H⟩;rw[hR]at q;have:=p.fx j q;omega
 cases S with
 |@nH _ cs'' hs mr=>
  let⟨ls⟩:=cs'';match ls,hs with
  |[x,y],_=>
   have F:=mr 0 fj fj;have H:=mr 1 fj fj;simp at F H;cases H;obtain⟨a2,rfl,m3⟩:=Nz F;obtain⟨I,rfl,z⟩:=zG m3;have h2':RD [gO.mE] (Æ (Â ⟨k,0,Á⟩) 1 1) (λi=>i=k\/i=B) {h with tape:=u.w.tape,drawn:=u.w.drawn}:=m.r λ_ _=>rfl;let⟨sY,J,e2⟩:=arx g (λj q=>q.1) z V;let⟨vs,k1,k2,k3,k4,k5⟩:=h2';let⟨vs',n1,n2⟩:=Jw (zK g) J k3;let⟨p1,p2⟩:=E a I z;refine⟨ha,q6,I,sY,X,e2,p1,p2,_,⟨vs',n1.trans k1,k2,n2,TU g k4,NB J k5⟩,?_,λb t=> ?_⟩
   .rintro⟨i,hi,e⟩;have:=g.C.2.1 _ _ _ z e;subst this;exact hi.elim o W
   .let⟨i,_,e⟩:=t;exact E i b e
end Go.Proofs.Y.kT
namespace Go.Proofs.Y.kT
open Go Go.Conc Go.Proofs Go.RowKit Go.Proofs.Y.Lift Go.Proofs.Y.gO Go.Proofs.Y.fu Go.Proofs.Y.ot
structure uS(an:Nat)(xs:List ByteArray)(w:Í):Prop where
 r:∀(p:Nat) (x:ByteArray),xs[p]?=Â x->w.cell? ⟨an,p,Á⟩=Â (Ä x)
 C:w.cell? ⟨an,xs.length,Á⟩=Á
section
variable{an:Nat}{xs:List ByteArray}
theorem uS.ru(h:uS an xs w)(j:0<xs.length):∃c e d,w.heap[an]?=Â (Û c e d)/\c.size=xs.length/\∀v∈c.toList,∃x,v=Ä x:=by
 have i:∀p,p<xs.length->w.cell? ⟨an,p,Á⟩=Â (Ä xs[p]!):=λp a=>h.r p _ (by simp[a]);have b:=i 0 j;have f:=h.C;simp only[à]at b f;cases g:w.heap[an]? with
 |none=>rw[g]at b;cases b
 |some o=>
  cases o<;>rw[g]at b f<;>simp only[ö,ì,if_false]at b f<;>first|cases b|skip
  rename_i c e d;have k:c.size<=xs.length:=by grind
  have l:=λp a=>by have:=i p a;simp only[à,g,ö,ì,if_false]at this;exact this
  have m:xs.length<=c.size:=by grind
  refine⟨c,e,d,U,Nat.le_antisymm k m,λv n=> ?_⟩;let⟨p,a⟩:=ė n;have q:p<c.size:=by have:=(Õ.1 a).1;simpa using this
  have:=l p Z;rw[ķ]at a;rw[this]at a;cases a;exact⟨_,U⟩
end
def arB{l:fc}(o:gw l)(F:¬l.q)(H:nB<=l.w.heap.size)(h:uS i vX l.w)(I:0<vX.length)(J:l.M i)(p:lq i=Ë)(f:kR l.w i=Â (0,0))(hn:vX.length<=1000)(K:B.size=1)(L:iO vX+vX.length<=140737488355328)(r:Bool)(k:Ĕ)(m:List Ĕ): fu.fh À r (λn s=>jL l n/\n.d=l.d/\s=G (k.finish<|Ä<|kF B vX) m) l (G (è À 38 #[Æ (Â ⟨i,0,Á⟩) vX.length vX.length,Ä B] Ą)<|k::m):=by
 let⟨fn,c,N,P⟩:=zk 38 fO;let⟨t,e,Q,y,b2,z⟩:=h.ru I;have C:(λj=>j=i/\¬(lZ l).O j)=λj=>j=i:=by funext j;exact propext ⟨λq=>q.1,λq=>⟨q,id⟩⟩
 have S:∀T,Ò À 38 #[Æ (Â ⟨i,0,Á⟩) vX.length vX.length,Ä B] (World.tp (k9 (λj=>j=i) l.w) T 0) fun|Ç v,E=>v=Ä (kF B vX)/\kh E|_,_=>False:=λT=>by
  refine(TO U Z (æ _) K (λj v a=> ?_) L).mono ?_
  .unfold jl at a;rw[ī]at a;obtain⟨x,b,rfl⟩:=ò.1 a;exact⟨i,0,U,by rw[œ];exact pC (È p)<|h.r j x b⟩
  .rintro e g ⟨rfl,b⟩;exact⟨U,b.gS F5⟩
 have V:∀v∈t.toList,fi (qe (λj=>j=i) À.globals.size) v v:=λv a=>by obtain⟨x,rfl⟩:=z v a;exact .kq x
 have X:fQ (qe (λj=>j=i) À.globals.size) #[Æ (Â ⟨i,0,Á⟩) vX.length vX.length,Ä B] #[Æ (Â ⟨i,0,Á⟩) vX.length vX.length,Ä B]:=pA λv a=>by
  have b:v=Æ (Â ⟨i,0,Á⟩) vX.length vX.length\/v=Ä B:=by simpa using a
  rcases b with rfl|rfl
  .exact fi.kQ (Y:=qe (λj=>j=i) À.globals.size) ⟨⟨U,U⟩,U,U⟩ _ _
  .exact .kq B
 have W:=Fo yf ME zk (λv u T D h=>h) fO N P (Fp o) F (λb q=>Ï<|by rwa[q]) (by rw[C];refine⟨λb q=> ?_,H⟩;subst q;exact⟨t,e,Q,y,(by unfold kR at f;rw[y]at f;cases f;exact Ö _),pA V,λ_=>⟨Z,(λq=>by rw[p]at q;cases q),λ_=>zI λv a=>by obtain⟨x,rfl⟩:=z v a;rfl⟩⟩) (λg q=>by cases q) X (by rwa[C]) r k m;refine(W.lZ o).fM ?_;rintro n s ⟨D,⟨Y,E,v,v',_,_,b,rfl,g,_,_,u⟩,rfl,x,_,_,_⟩;cases b;exact⟨x,u,g⟩
end Go.Proofs.Y.kT
namespace Go.Proofs.Y.fu
open Go Go.Conc Go.Proofs.Y.Lift
open Go.ConcN (sumTo sumTo_congr)
def Uo(P:ag)(a:Ñ->Í->Prop):Jd:=λl g=>g.status=.running/\∃v,(∀w,stepG P Î g w=.ended (.done v) w)/\a v l.w
section
variable{Y:Nat->Prop}{e:Nat->fc}
def kD.mV{J:Jd}{T:gu}(c:kD P Y zX i J T D e E w qJ){sl:Option (Nat×Nat)}(k:vQ v u):Ξ P vQ (Į E w sl) (.done v) u qJ:=by
 have C:=c.r.r;have f:∀a g,E[a]?=Â g->a≠0->QuitsD P (D a) (Deaf qJ a) g:=λa g b d=>by
  let⟨g0,j,h,_,_⟩:=c.r.C a g b;obtain rfl:g=g0:=by cases h;rfl
  simp only[d,if_false]at j;rw[C.f a<|(Ý.1 b).1];exact j _<|fI.fT _ _
 refine⟨v,U,k,C.l,c.N,⟨λg l=> ?_,U⟩,λa g b d=>⟨D a,(f a g b d).hears _⟩⟩;let⟨j,h⟩:=ė l;rw[List.getElem?_drop]at h;exact⟨_,(f (1+j) g (by rwa[<-ķ]) Z).leaves⟩
theorem arC{J:Jd}{T:gu}{l:fc}(u:l.w=W)(v:l.d=0)(m:¬l.q)(n:∀b,¬l.I b)(r:∀a,¬l.r a)(o:∀a,¬l.N a)(y:∀a,¬l.K a)(z:∀b,l.O b->b<W.heap.size)(B:g.status=.running)(C:kX P Î J T l g):rM P (λ_=>False) 0 J T (λ_=>0) (λ_=>l) #[g] W #[]:=by
 have f:∀(p:Nat) a,touchAt #[] p=Â a->False:=λp a h=>by unfold touchAt Trace.act? at h;simp at h
 refine⟨fj,⟨⟨λi j s D E=> ?_,λi j s D E=> ?_,λi _ b _=>n b,λi _ a _=>o a,λ_ _ _ _=>id,λi _ a e=>e.elim (λq=>absurd q<|r a) λq=>absurd q<|o a,λi _ b F=>F.elim (z b) λq=>absurd q<|n b,λ_ h=>h.elim,λi _=>by rw[u];exact fI.fT _ _,λi _=>⟨λa e p x k=>(f p x k).elim,λa e=>(n _ e).elim,λa e=>(r a e).elim,λa e=>(o a e).elim⟩,λi _=>by rw[v];rfl,λH q=> ?_,λI G=>by simp at G,λp a c h=>(f p a h).elim,λi _ a e=>absurd e<|y a⟩,λi x k=> ?_,λj _=>rfl⟩,λi L s=> ?_,m,λp a h=>(f p a h).elim,λp a x h=>(f p a h).elim,λa _ q m=> ?_,?_⟩
 .grind
 .grind
 .let⟨i,j,_,⟨a,b,e,_⟩,_⟩:=q;simp[Trace.act?]at e
 .have t:i<1:=(Ý.1 k).1;obtain rfl:i=0:=Z
  obtain rfl:g=x:=by simpa using k
  exact⟨g,C,.gk,È B,È U⟩
 .grind
 .simp[Trace.act?]at m
 .intro i g t;simp[Trace.g?]at t
end
end Go.Proofs.Y.fu
namespace Go.Proofs.Y.kT
open Go Go.Conc Go.Proofs Go.RowKit Go.Proofs.Y.Lift Go.Proofs.Y.gO Go.Proofs.Y.fu Go.Proofs.Y.ot
open Go.ConcN (sumTo)
def zS(f:Ñ->Í->Prop)(c:Array Ċ)(w:Í)(d:Option (Nat×Nat))(t:Ž):Prop:=
 ∃N a v b e,ſ À (N+1) (Į c w d) t=(.ended (.done v) b,e)/\runN À N (Į c w d)=.next a/\step À a=.ended (.done v) b/\Ξ À f a (.done v) b e
section
variable{f:Array Ċ}{w':Í}{sl e:Option (Nat×Nat)}{t:Ž}{l:fc}
def zS.fM{a:Ñ->Í->Prop}(h:zS vQ E w sl t)(b:∀v u,vQ v u->a v u):zS a E w sl t:=by let⟨M,c,v,x,d,e,f,g,i⟩:=h;exact⟨M,c,v,x,d,e,f,g,i.mono λv q=>b v x q⟩
def zS.qK{N:Nat}(r:ſ À N (Į E w sl) t=(.next<|Į f w' e,qJ))(h:zS vQ f w' e qJ):zS vQ E w sl t:=by
 let⟨M,a,v,x,b,c,d,g,i⟩:=h;refine⟨N+M,a,v,x,b,?_,?_,g,i⟩
 .rwa[Nat.add_assoc,runNT_add,r]
 .rw[<-Ţ À (N+M) (Į E w sl) t,runNT_add,r];rwa[Ţ]
def sr(vQ:Ñ->Í->Prop)(E:Array Ċ)(w:Í)(sl:Option (Nat×Nat))(t:Ž):Prop:=zS (λv u=>vQ v u/\u.os=w.os/\u.output=w.output) E w sl t
def sr.r{N:Nat}(r:ſ À N (Į E w sl) t=(.next<|Į f w' e,qJ))(a:w'.os=w.os/\w'.output=w.output)(h:sr vQ f w' e qJ):sr vQ E w sl t:= zS.qK r<|h.fM λ_ _ q=>⟨q.1,q.2.1.trans a.1,q.2.2.trans a.2⟩
def kD.arD{Y:Nat->Prop}:∀(s:Nat) (h:Nat->Nat) (j:Nat->fc) (E:Array Ċ) (w:Í) (sl:Option (Nat×Nat)) (t:Ž),sumTo E.size h=s->kD À Y zX n (Uo À vQ) .fA h j E w t->sr vQ E w sl t:=by
 intro s
 induction s using Nat.strongRecOn with
 |_ s r=>
  intro h j E w sl t I c;have J:=c.C;obtain⟨g0,a⟩:∃g,E[0]?=Â g:=⟨_,å Z⟩;have o:∀d,Uo À vQ {j 0 with w:=w.at d} g0:=λd=>by
   let⟨u,b,k,_,_⟩:=(c.I d).r.C 0 g0 a;obtain rfl:g0=u:=by cases k;rfl
   exact b (w.at d)<|(c.I d).r.r.r 0 Z
  obtain⟨i,g,d,e,l,x,m⟩:=crowd_pick c.Lr ⟨0,g0,a,(o 0).1⟩;by_cases p:i=0
  .subst p;rw[a]at l;obtain rfl:=ai l;let⟨_,v,q,y⟩:=o d;have u:stepT À (Į E w sl)=(.ended (.done v)<|w.at d,#[]):=by
    rw[m,ConcN.runT_crowd_ended a<|q<|w.at d];rfl
   refine⟨0,Į E w sl,v,w.at d,t,?_,U,?_,c.mV ⟨y,U,U⟩⟩
   .simp[ſ,u]
   .have:=stepT_fst À (Į E w sl) Î;rw[<-this];rw[u]
  .let⟨q,y,f,u,b,k,K,L,z⟩:=(c.I d).Zy (sl:=e) l p x;let⟨N,B,v,w',qJ,C,D,F,G⟩:=r (sumTo f.size q) (by rw[k];omega) q y f (w.at d) e (t++u) U z;refine⟨N+1,B,v,w',qJ,by simp only[ſ,m,b];exact C,?_,F,G⟩;have:=Ţ À (N+1) (Į E w sl) t;rw[<-this];simp only[ſ,m,b];rwa[Ţ]
structure gA(l:fc):Prop where
 r:gw l
 d:l.d=0
 q:¬l.q
 N:∀b,¬l.I b
 I:∀a,¬l.r a
 M:∀a,¬l.N a
 k:∀a,¬l.K a
def gA.C(h:gA l)(r:fI l l.w u):gA {l with w:=u}:= ⟨⟨h.r.c,h.r.Y,h.r.N,λb q=>Ģ (h.r.fx b q) r.r,λa q=>q.elim (λz=>(h.I a z).elim) λz=>(h.M a z).elim,λa q=>(h.k a q).elim⟩,h.d,h.q,h.N,h.I,h.M,h.k⟩
def iB(vQ:Ñ->Í->Prop)(l:fc)(g:Ċ):Prop:=
 gA l->g.status=.running->∀(a:Loc->Prop) (H:Nat) (J:Jd) (c:Nat->Nat) (b:Nat->fc) (E:Array Ċ) (sl:Option (Nat×Nat)) (t:Ž),vF a H l->fu.rM À a H J .fA c b E l.w t->(b 0).d=0->E[0]?=Â g->sr vQ E l.w sl t
def arE{a:fc}(h:vF zX i l)(k:qS l a l.w a.w):vF zX i a:= ⟨h.r,λb c x d q=>by
  rcases k.N b c with z|z
  .exact h.fp b z x d q
  .have:=h.r x q;have:=h.C;omega,Ì h.C k.r⟩
def Up{J f:Jd}{e:Nat->fc}(a:gA l)(h:g.status=.running)(j:vF zX i l)(c:fu.rM À zX i J .fA D e E l.w t)(m:(e 0).d=0)(n:E[0]?=Â g)(W:fu.fh À Î f l g):∃T,fu.rM À zX i f T D (fu.ve e l) E l.w t:=by let⟨T,o⟩:=ji W;exact⟨T,kD.Y c m n h U a.d a.q a.N a.I a.M a.k (λb q=>⟨a.r.fx b<|È q,j.fp b q⟩) o⟩
def abH{Y:Nat->Prop}{J:Jd}{a:Nat->fc}(c:kD À Y zX i J .fA D a E w t):∃g,E[0]?=Â g/\J {a 0 with w:=w} g:=by
 obtain⟨g0,b⟩:∃g,E[0]?=Â g:=⟨_,å c.C⟩;let⟨d,e,f,_,_⟩:=c.r.C 0 g0 b;obtain rfl:g0=d:=by cases f;rfl
 exact⟨g0,b,e w<|c.r.r.r 0 c.C⟩
def xU(vQ:Ñ->Í->Prop):Jd:=λl g=>gA l/\g.status=.running/\iB vQ l g
def arF{b:Nat->fc}{T:gu}(m:(b 0).w=w)(n:vF zX i (b 0))(c:fu.rM À zX i (xU vQ) T D b E w t):sr vQ E w sl t:=by let⟨N,o,p,f,w',e,qJ,r,_,a,j⟩:=kD.G (λl g h=>È h.2.1) T _ D b E w sl t U c;let⟨v,q,h,s,u⟩:=abH j;refine sr.r r ⟨a.C,a.I⟩<|u h s zX i (xU vQ) o p f e qJ ?_ j h.d q;apply arE n;rw[m];exact⟨a.r,a.N,a.c,a.S,a.b,a.k,a.jO,a.M,a.Y,a.C,a.I,a.d⟩
def lM(W:fu.fh À Î (xU vQ) l g):iB vQ l g:=by intro b d i H J j k E sl t a c e f;let⟨T,h⟩:=Up b d a c e f W;exact arF (by rw[fu.Sc]) (by rwa[fu.Sc]) h
def abI(W:fu.fh À Î (Uo À vQ) l g):iB vQ l g:=by intro b d s H J i u E sl t j c k m;let⟨T,n⟩:=Up b d j c k m W;let⟨N,o,p,f,w',e,qJ,r,_,a,q⟩:=kD.G (λl g h=>È h.1) T _ i _ E l.w sl t U n;exact sr.r r ⟨a.C,a.I⟩<|kD.arD _ o p f w' e qJ U q
def zM.N{e:vL}{R:Nat}{kd:Nat->Int}{f:List fG}{c:fc}(h:zM X e R kd f l i v c)(r:fI c c.w u):zM X e R kd f l i v {c with w:=u}:=by have a:=λb q=>r.I b<|È q;let⟨V,j,g⟩:=h.Y;exact⟨λb q=>⟨(h.M b q).1,(a b (h.M b q).1).trans (h.M b q).2⟩,⟨h.r.1,λp k=>(gK<|a i h.r.1).trans<|h.r.2 p k⟩,⟨V,j.r λb q=>a b (g b q).1,g⟩,h.d,h.q,h.S,h.C,(gK<|a i h.r.1).trans h.I.1,(wF<|a i h.r.1).trans h.I.2⟩
def arG{kd:Nat->Int}{bt:vL}{V0 h:Nat->Prop}{s0:List fG}{B:Option ù}{I:Option ù}{R:Nat}{C:Ĕ}{z:Array ğ} (Iv:0<R->I=Â ⟨j7,0,Á⟩) (CN:0<R->l.M j7) (Iw:∀i,i<R->l.w.cell? ⟨j7,i,Á⟩=Â (Ã<|Â ⟨D i,0,Á⟩)) (Ix:∀i,i<R->l.w.cell? ⟨D i,4,Á⟩=Â (Å É<|kd i)) (K:JA l bt kd D R X) (hZ:(∀b,X b->h b)/\∀b,b=1\/b=2\/b=3\/b=4->h b) (hZO:∀b,h b->l.O b) (hVZ:∀b,V0 b->h b) (CX:RD s0 (Æ B j j9) V0 l.w) (hn:1<=n) (hs:n+R<1000) (hJ:∀o v p m c,gA o->zM h bt R kd s0 l v (Æ p m c) o->iB vQ o (G (C.at (y.put ((z[i]?).bind (·.dst))<|ë #[Æ (Â ⟨v,0,Á⟩) R R,Æ p m c])<|Ð z jJ::L) qX)): iB vQ l (Fe (Æ B j j9) (Æ I R j6) n<|C.at y (Ð z (i::jJ)::L)::qX):=by
 intro s hr jj H J lv lot E sl t NG c hd P;have W:fu.fh À Î (Mq kd D R n (Æ B j j9) l<|C.at y (Ð z (i::jJ)::L)::qX) l (Fe (Æ B j j9) (Æ I R j6) n<|C.at y (Ð z (i::jJ)::L)::qX):= aji s.r s.q s.d Z Iv CN Iw (λi P=>È<|K.fp _<|K.r i P) Ix λg S o u x F v T V Y bw bf v1 h1 h2=>⟨g,S,u,x,F,v,T,V,Y,bw,bf,v1,h1,h2,U⟩;let⟨T,c'⟩:=Up s hr NG c hd P W;let⟨N,jz,IQ,f,w',e,qJ,r,_,x,c''⟩:=kD.G (λlx gx S=>by obtain⟨_,_,_,_,_,_,_,_,_,_,_,_,_,_,rfl⟩:=S;exact È U) T _ lv _ E l.w sl t U c';apply sr.r r ⟨x.C,x.I⟩;let⟨N2,arH,V,T2,Mr,Sj,gs2,w2,Ms,t2,r2,io2,c2⟩:=apR (J:=λu V o F=>vF u V o/\xU vQ o F) U c'' e s.r s.N s.q s.d NG K hZ hZO hVZ CX ⟨x.C,x.I⟩ hn hs λFj H' o v p m c Y z2 u=> .fA λw₁ F=>by have kZ:gA o:=⟨z2,u.d,u.q,u.S,u.C.1,u.C.2.1,u.C.2.2⟩;exact⟨⟨Y.r,Y.fp,Ì Y.C F.r⟩,kZ.C F,U,hJ _ v p m c (kZ.C F)<|u.N F⟩
 apply sr.r r2 ⟨io2.1.trans x.C.symm,io2.2.trans x.I.symm⟩;let⟨N3,MU,arI,gs3,w3,sl3,t3,r3,_,wn3,c3⟩:=kD.G (λlx gx S=>È S.2.2.1) T2 _ Mr Sj gs2 w2 Ms t2 U c2;apply sr.r r3 ⟨wn3.C,wn3.I⟩;let⟨g3,Uq,pL,S,hr3,hs3⟩:=abH c3;exact hs3 S hr3 arH V _ MU arI gs3 sl3 t3 pL c3 S.d Uq
end
end Go.Proofs.Y.kT
namespace Go.Proofs.Y.kT
open Go Go.Conc Go.Proofs Go.RowKit Go.Proofs.Y.Lift Go.Proofs.Y.gO Go.Proofs.Y.fu Go.Proofs.Y.ot
open Go.Conc.Lib Go.ConcR.Gen Go.Proofs.YtgpphkdoanciiaaGreatDoor
def toTx(t:PT):Tx:=⟨(t.c.getD 0 0).toNat,(t.c.getD 1 0).toNat,t.c.getD 2 0,t.c.getD 3 0,t.c.getD 4 0,t.p⟩
def toQn(r:PR):Qn:=⟨(r.c.getD 0 0).toNat,(r.c.getD 1 0).toNat,(r.c.getD 2 0).toNat,(r.c.getD 3 0).toNat,r.c.getD 4 0,r.c.getD 5 0,r.c.getD 6 0,(r.c.getD 7 0).toNat⟩
def oQ:PR:=⟨[],[]⟩
def vU(a:List PR):vL where
 r:=λp=>((a.getD p oQ).c.getD 5 0,((a.getD p oQ).c.getD 0 0).toNat,(a.getD p oQ).r.map toTx)
 C:=λp=>toQn<|a.getD p oQ
def kO(a:List PR)(p:Nat):Int:=(a.getD p oQ).c.getD 4 0
section
variable{p:PR}{t:PT}{a:Nat}{rs:List PR}{l:fc}
def toTx_ok(h:nY t):(toTx t).Ok:=by have d:=h.c.r 0 A;have e:=h.c.r 1 A;have a:=h.c.r 2 A;have b:=h.c.r 3 A;simp only[ly]at d e a b;exact⟨by show(t.c.getD 0 0).toNat<8;omega,by show(t.c.getD 1 0).toNat<8;omega,a.1,a.2,b.1,b.2,h.p⟩
theorem zU(a:0<=c)(h:w.cell? ⟨b,i,Á⟩=Â (Å É c)):w.cell? ⟨b,i,Á⟩=Â (Å É (c.toNat:Nat)):=by grind
def arJ(h:nY t)(k:JJ a t w):lT a (toTx t) w:=by have b:=h.c.r 0 A;have d:=h.c.r 1 A;simp only[ly]at b d;exact⟨k.r,zU b.1<|k.c 0 A,zU d.1<|k.c 1 A,k.c 2 A,k.c 3 A,k.c 4 A,k.p⟩
theorem arK(h:uO p)(k:xT i p w):Dv i (p.c.getD 5 0) (p.c.getD 0 0).toNat (p.r.map toTx) w:=by
 have e:=h.c.r 0 A;simp only[ly]at e;let⟨f,n,o,r,s,u⟩:=k.b;let⟨v,z,B⟩:=wj (R:=λj t (y:Nat×Tx)=>y.2=toTx t/\∃d,f=Â ⟨d,0,Á⟩/\w.cell? ⟨d,j,Á⟩=Â (Ã<|Â ⟨y.1,0,Á⟩)/\JJ y.1 t w) p.r 0 λj t C=>by let⟨d,a,y,g,l⟩:=u j t C;simp_all
 refine⟨f,n,o,v,⟨zU e.1<|k.c 0 A,k.c 5 A,r⟩,⟨by rw[s,z],λj a t q=> ?_⟩,?_,by have:=h.n;omega⟩
 .let⟨x,D,y,d,E,g,l⟩:=B j (a,t) q;simp only at y g l;subst y;have m:=h.C x<|ç D;exact⟨d,0,E,g,arJ m l,toTx_ok m⟩
 .refine Ŕ λj=> ?_;unfold lJ;grind
def arL(h:uO p)(k:xT i p w):Jz i (toQn p) w:=by have a:=h.c.r 0 A;have b:=h.c.r 1 A;have d:=h.c.r 2 A;have e:=h.c.r 3 A;have f:=h.c.r 7 A;simp only[ly]at a b d e f;exact⟨zU a.1<|k.c 0 A,zU b.1<|k.c 1 A,zU d.1<|k.c 2 A,zU e.1<|k.c 3 A,k.c 4 A,k.c 5 A,k.c 6 A,zU f.1<|k.c 7 A⟩
def abJ(h:uO p)(k:p.c.getD 4 0≠1):(toQn p).Ok:=by
 have d:=h.c.r 0 A;have e:=h.c.r 1 A;have f:=h.c.r 2 A;have g:=h.c.r 3 A;have i:=h.c.r 4 A;have a:=h.c.r 5 A;have b:=h.c.r 6 A;have j:=h.c.r 7 A;simp only[ly]at d e f g i a b j;refine⟨?_,?_,?_,?_,?_,?_,a.1,b.1,?_⟩
 .show(p.c.getD 0 0).toNat<8;omega
 .show(p.c.getD 1 0).toNat<8;omega
 .show(p.c.getD 2 0).toNat<1000000;omega
 .show(p.c.getD 3 0).toNat<18446744073709551616;omega
 .show 2<=p.c.getD 4 0;omega
 .show p.c.getD 4 0<=9;omega
 .show(p.c.getD 7 0).toNat<16;omega
theorem arM(h:RQ rs v X l.w)(k:∀i∈rs,uO i)(B:nA l.w)(C:∀b,b=1\/b=2\/b=3\/b=4->l.O b)(m:∀b,X b->l.O b): ∃d e f g,v=Æ d rs.length e/\(0<rs.length->d=Â ⟨f,0,Á⟩)/\(0<rs.length->l.O f)/\(∀a,a<rs.length->l.w.cell? ⟨f,a,Á⟩=Â (Ã<|Â ⟨g a,0,Á⟩))/\(∀a,a<rs.length->l.w.cell? ⟨g a,4,Á⟩=Â (Å É<|kO rs a))/\JA l (vU rs) (kO rs) g rs.length X:=by
 obtain⟨o,D,rfl,E⟩:=h.M;have p:∀a,a<rs.length->rs[a]?=Â (rs.getD a oQ):=λa d=>by simp[Ġ,d]
 have r:=λa d=>ç<|p a d;obtain⟨f,s⟩:∃f,∀a,a<rs.length->o=Â ⟨f,0,Á⟩:=by
  by_cases e:0<rs.length
  .let⟨j,i,q,_⟩:=E 0 _<|p 0 e;exact⟨j,λ_ _=>q⟩
  .simp_all
 have F:∀a,∃i,a<rs.length->l.w.cell? ⟨f,a,Á⟩=Â (Ã<|Â ⟨i,0,Á⟩)/\xT i (rs.getD a oQ) l.w:=λa=>by grind
 let⟨g,j⟩:=Classical.axiomOfChoice F;have u:=λe=>by have:=h.I;rw[s 0 e]at this;exact Du this
 refine⟨o,D,f,g,U,λe=>s 0 e,λe=>m _<|u e,λa d=>(j a d).1,λa d=>(j a d).2.c 4 A,B,C,h.C,m,λa d=>(Dt<|h.C.r (u Z) (j a d).1),λa d y=> ?_,λa d y=> ?_⟩
 .have q:=k _<|r a d;have e:=q.c.r 0 A;have z:=q.c.r 5 A;simp only[ly]at e z;refine⟨arK q (j a d).2,?_,z.1,λt G=> ?_,?_⟩
  .show((rs.getD a oQ).c.getD 0 0).toNat<8;omega
  .obtain⟨x,H,rfl⟩:=Ú.1 G;exact toTx_ok<|q.C x H
  .show((rs.getD a oQ).r.map toTx).length<=1000;rw[ú];have:=q.n;omega
 .have q:=k _<|r a d;exact⟨arL q (j a d).2,abJ q y⟩
end
theorem Gn:(∀r∈(iA B).2.2,uO r)/\(iA B).2.2.length<=24:=by
 unfold iA;split
 .grind
 .split
  .unfold mG;split
   .grind
   .have:=(Ui B.size 0 tq (Uh B)<|Ö _).1.d;exact⟨this.G,this.C⟩
  .grind
def kP(rs:List PR)(s:List fG):List ByteArray:=(ĳ rs.length).map λp=>vM (vU rs) (kO rs) p<|pD (vU rs) (gW (kO rs) rs.length) s<|fJ (kO rs) p
def vV(rs:List PR)(s:List fG):List fG:=pD (vU rs) (gW (kO rs) rs.length) s<|fJ (kO rs) rs.length
def lz(s:List fG)(B:ByteArray):ByteArray×Int×List fG:=
 if(iA B).1=0 then(kF ⟨#[59]⟩<|kP (iA B).2.2 s,0,vV (iA B).2.2 s)else(⟨#[]⟩,(iA B).1,s)
section
variable{b:Ĕ}{l:fc}{a:Ĉ}
def abK{md:Ŀ}(I:Array Bool->Ĉ->fc->Prop) (o:∀c a l i k,I c a l->i∈ä md Q c->(∀f g,I (c.setIfInBounds i Î) f g->iB vQ g (G (b.at f<|Ð Q k::L) qX))->iB vQ l (G (b.at a<|Ð Q (i::k)::L) qX)) (m:∀c a l,I c a l->c.size=Q.size->ä md Q c=[]->iB vQ l (G (b.at a<|Ð Q []::L) qX)): ∀(d t:Nat) (c:Array Bool) (a:Ĉ) (l:fc),c.size=Q.size->jo c<=d->I c a l->iB vQ l (G (b.at a<|Ð Q (ć md Q d t c [])::L) qX):=by
 intro d
 induction d with
 |zero=>
  intro t c a l e p h;simpa[ć]using m c a l h e<|QO e Z
 |succ d q=>
  intro t c a l e p h;simp only[ć];change iB vQ l (G (b.at a (Ð Q (match(ä md Q c)[t%(ä md Q c).length]? with
   |some i=>ć md Q d (t/(ä md Q c).length) (c.setIfInBounds i Î) [i]
   |none=>[].reverse)::L)) qX)
  cases j:(ä md Q c)[t%(ä md Q c).length]? with
  |none=>
   have r:ä md Q c=[]:=by
    cases s:ä md Q c with
    |nil=>rfl
    |cons x n=>
     rw[s]at j;have u:t%(x::n).length<(x::n).length:=Nat.mod_lt _ fj;simp at j;simp at u;omega
   simpa using m c a l h e r
  |some i=>
   simp only[];rw[linearise_go_acc,List.reverse_singleton,List.singleton_append];have n:=ç j;refine o c a l i _ h n λf g r=>(q _ _ f g (by simpa using e) (by have:=Lv (Β.1 n).1;omega) r)
def arN{id:Nat}(I:Array Bool->Ĉ->fc->Prop)(e:gA l) (j:∀f,fI l l.w f->I (Ū Q.size Ë) a {l with w:=f}) (k:∀g c a l i m,I c a l->i∈ä g Q c->(∀n o,I (c.setIfInBounds i Î) n o->iB vQ o (G (b.at n<|Ð Q m::L) qX))->iB vQ l (G (b.at a<|Ð Q (i::m)::L) qX)) (p:∀g c a l,I c a l->c.size=Q.size->ä g Q c=[]->iB vQ l (G (b.at a<|Ð Q []::L) qX)): iB vQ l (G (b.at a<|az (.region id Q Î)::L) qX):=by
 refine lM (.mk U λf r=>⟨_,_,_,_,stepG_region_draw,QM (mA e.r.r r) e.q,.fA λs d=> ?_⟩);have h:=r.ff ⟨d.r,d.I,d.N,d.Y,d.S⟩;refine⟨e.C h,U,?_⟩;unfold Region.schedule;split
 .exact abK I (k _) (p _) _ _ _ _ _ fj (by rw[EM];exact æ _)<|j s h
 .exact abK I (k _) (p _) _ _ _ _ _ fj (by rw[EM];exact æ _)<|j s h
def arO{I:Ĉ->fc->Prop}(W:fu.fh À Î (λa d=>∃c,d=G (b.at c<|Ð Q jJ::L) qX/\I c a) l g)(f:∀c a,I c a->gA a)(i:∀c a,I c a->iB vQ a (G (b.at c<|Ð Q jJ::L) qX)):iB vQ l g:= lM (W.fM λa d h=>by obtain⟨c,rfl,e⟩:=h;exact⟨f c a e,U,i c a e⟩)
def vW{f:FuncId}{fn:Func}(xs:List Value)(n:Nat)(hf:Tryz.prog.funcs[f]?=some fn)(hb:fn.body=some (jZ fn []):=by kernel_rfl)(hn:fn.ntmps=xs.length+n:=by kernel_rfl):Frame.enter Tryz.prog f xs.toArray .normal=(base f).at ⟨(xs++List.replicate n undef).toArray,[]⟩ [.code<|jZ fn []]:=by rw[enter_at _ hf hb,hn,ř,Nat.add_sub_cancel_left,show xs.toArray++Ū n ĸ=(xs++ą n ĸ).toArray from Array.ext' fj]
def zV{J:Jd}{f:Ρ}{args:Array Ñ}(d:Q[i]?=Â o)(e:ē o (Ι Q a.tmps)=Î)(g:b.kind≠.early)(h:ki l) (j:∀w,(ś a.eval o).run À w=.ok (.enter f args) w) (k:∀w,(ś a.eval o).events À w #[]=#[]) (m:∀c,fI l l.w c->fu.fh À Î J {l with w:=c} (G (è À f args Ą)<|b.at a (Ð Q (i::jJ)::L)::qX)): fu.fh À Î J l (G (b.at a<|Ð Q (i::jJ)::L) qX):=by refine .mk U λc r=>⟨G (è À f args Ą)<|b.at a (Ð Q (i::jJ)::L)::qX,c,#[],{l with w:=c},?_,QJ c<|mA h r,m c r⟩;rw[stepG_enter d e g<|j c];unfold aA;rw[k c,seen_none]
def Gp{f:Ρ}{args:Array Ñ}(e:gA l)(j:Q[i]?=Â o)(k:ē o (Ι Q a.tmps)=Î)(m:b.kind≠.early) (n:∀w,(ś a.eval o).run À w=.ok (.enter f args) w) (p:∀w,(ś a.eval o).events À w #[]=#[]) (q:∀d,fI l l.w d->iB vQ {l with w:=d} (G (è À f args Ą)<|b.at a (Ð Q (i::jJ)::L)::qX)): iB vQ l (G (b.at a<|Ð Q (i::jJ)::L) qX):= lM (zV j k m e.r.r n p λd r=> .fA λg c=>by have h:fI l l.w g:=r.ff ⟨c.r,c.I,c.N,c.Y,c.S⟩;exact⟨e.C h,U,q g h⟩)
def jL.CY{c:fc}(e:gA l)(h:jL l c)(k:c.d=l.d):gA c:=by
 have g:∀b,¬c.I b:=by rw[h.I];exact e.N
 have f:∀a,¬c.r a:=by rw[h.N];exact e.I
 have i:∀a,¬c.N a:=by rw[h.Y];exact e.M
 have j:∀a,¬c.K a:=by rw[h.K];exact e.k
 exact⟨⟨λb _=>g b,λa q=>(f a q).elim,λa q=>q.elim (λz=>(f a z).elim) λz=>(i a z).elim,λb q=>q.elim (λz=>h.fx b z) λz=>(g b z).elim,λa q=>q.elim (λz=>(f a z).elim) λz=>(i a z).elim,λa q=>(j a q).elim⟩,k.trans e.d,by rw[h.q];exact e.q,g,f,i,j⟩
end
def JK:ğ:=⟨Â 21,.move<|ň 0,26, "attic.go:46",#[],Á⟩
def JL:ğ:=⟨Â 22,.nilCheck<|ň 21,0, "attic.go:46",#[⟨0,ĉ⟩],Á⟩
def JN:ğ:=⟨Â 23,.fieldAddr 68 (ň 22) 1,0, "attic.go:46",#[⟨1,ĉ⟩],Á⟩
def JO:ğ:=⟨Â 24,.load 65<|ň 23,65, "attic.go:46",#[⟨2,ĉ⟩],Á⟩
def JP:ğ:=⟨Â 25,.move<|ň 6,61, "attic.go:46",#[],Á⟩
def JQ:ğ:=⟨Â 26,.move<|ň 0,26, "attic.go:46",#[],Á⟩
def JR:ğ:=⟨Â 27,.nilCheck<|ň 26,0, "attic.go:46",#[⟨5,ĉ⟩],Á⟩
def JS:ğ:=⟨Â 28,.fieldAddr 68 (ň 27) 0,0, "attic.go:46",#[⟨6,ĉ⟩],Á⟩
def JU:ğ:=⟨Â 29,.load 3<|ň 28,3, "attic.go:46",#[⟨7,ĉ⟩],Á⟩
def xV:ğ:=⟨Â 30,.call {callee:=.value<|.func 37,args:=#[ň 24,ň 25,ň 29],argTypes:=#[65,61,3]},66, "attic.go:46",#[⟨3,ĉ⟩,⟨4,ĉ⟩,⟨8,ĉ⟩],Á⟩
def zW:ğ:=⟨Â 20,.move<|ň 30,66, "attic.go:46",#[⟨9,ĉ⟩],Á⟩
def DG:ğ:=⟨Â 31,.extract (ň 20) 0,25, "attic.go:46",#[⟨10,ĉ⟩],Á⟩
def DK:ğ:=⟨Â 32,.extract (ň 20) 1,65, "attic.go:46",#[⟨10,ĉ⟩,{on:=13,ground:=Ground.gcOnly Departure.lateStores}],Á⟩
def DL:ğ:=⟨Â 9,.assign<|ň 31,25, "attic.go:46",#[⟨11,ĉ⟩,⟨9,.chain⟩,⟨0,ñ⟩,⟨1,ñ⟩,⟨2,ñ⟩,⟨3,ñ⟩,⟨4,ñ⟩,⟨5,ñ⟩,⟨6,ñ⟩,⟨7,ñ⟩,⟨8,ñ⟩,⟨9,ñ⟩,⟨10,ñ⟩,⟨11,ñ⟩,{on:=12,ground:=Ground.textOnly Departure.lateStores}],Á⟩
def DN:ğ:=⟨Â 10,.assign<|ň 32,65, "attic.go:46",#[⟨12,ĉ⟩,⟨13,.chain⟩,⟨0,ñ⟩,⟨1,ñ⟩,⟨2,ñ⟩,⟨3,ñ⟩,⟨4,ñ⟩,⟨5,ñ⟩,⟨6,ñ⟩,⟨7,ñ⟩,⟨8,ñ⟩,⟨9,ñ⟩,⟨10,ñ⟩,⟨11,ñ⟩,⟨12,ñ⟩,⟨13,ñ⟩],Á⟩
def ow:Array ğ:=#[JK,JL,JN,JO,JP,JQ,JR,JS,JU,xV,zW,DG,DK,DL,DN]
noncomputable def Ur:Τ:=jZ Tryz.f17 [1,1,1,1]
structure nZ(l:fc)(ab n:Nat)(s:List fG)(sl:Ñ)(V:Nat->Prop):Prop where
 r:nA l.w
 C:∀b,b=1\/b=2\/b=3\/b=4->l.O b
 a:Gm ab n sl l.w
 fp:l.O ab
 I:RD s sl V l.w
 Y:∀b,V b->l.O b
 e:¬V ab
 c:1<=n
 d:n<=8
 M:¬(ab=1\/ab=2\/ab=3\/ab=4)
structure NZ(l l':fc)(ab n:Nat)(s':List fG)(V:Nat->Prop):Prop where
 vi:∀b,l.O b->b≠ab->l'.O b/\l'.w.heap[b]?=l.w.heap[b]?
 att:∃sY V',nZ l' ab n s' sY V'/\∀b,V' b->V b\/(b=1\/b=2\/b=3\/b=4)\/l.w.heap.size<=b
section
variable{l d:fc}{ab:Nat}{s:List fG}{sl:Ñ}{V:Nat->Prop}
def nZ.S{a:fc}(h:nZ l ab n s sl V)(c:∀b,l.O b->a.O b)(d:∀b,l.O b->a.w.heap[b]?=l.w.heap[b]?)(e:l.w.heap.size<=a.w.heap.size):nZ a ab n s sl V:= ⟨h.r.r (Ì h.r.fx e) λb q=>d b<|h.C b q,λb q=>c b<|h.C b q,h.a.r<|d ab h.fp,c ab h.fp,h.I.r λb q=>d b<|h.Y b q,λb q=>c b<|h.Y b q,h.e,h.c,h.d,h.M⟩
def nZ.N(h:nZ l ab n s sl V)(r:fI l l.w u):nZ {l with w:=u} ab n s sl V:=h.S (λ_ q=>q) (λb q=>r.I b<|È q) r.r
def j4(ab:Nat)(n:Nat)(sl rs:Ñ)(x:Value×Value):Nat->Ñ
 |0=>Ã<|Â ⟨ab,0,Á⟩
 |1=>Ã<|Â ⟨ab,0,Á⟩
 |2=>Ã<|Â ⟨ab,1,Á⟩
 |3=>sl
 |4=>rs
 |5=>Ã<|Â ⟨ab,0,Á⟩
 |6=>Ã<|Â ⟨ab,0,Á⟩
 |7=>Ã<|Â ⟨ab,0,Á⟩
 |8=>Å É n
 |9=>ë #[x.1,x.2]
 |10=>ë #[x.1,x.2]
 |11=>x.1
 |12=>x.2
 |13=>x.1
 |14=>x.2
 |_=>ĸ
def vY(d:fc)(V:Nat->Prop)(rs:List PR)(s:List fG)(listed:Array Bool)(x:Value×Value)(l:fc):Prop:=
 gA l/\(listed.getD 9 Ë=Ë->gh (λ_=>False) d l)/\(listed.getD 9 Ë=Î->∃a e p m c,gh (λ_=>False) d a/\x=(Æ (Â ⟨e,0,Á⟩) rs.length rs.length,Æ p m c)/\zM (λb=>V b\/b=1\/b=2\/b=3\/b=4) (vU rs) rs.length (kO rs) s a e (Æ p m c) l)
def vY.jW{V:Nat->Prop}{a:List PR}{s:List fG}{listed:Array Bool}{x:Value×Value}(h:vY d V a s listed x l)(b:i≠9){w₁:Í}(r:fI l l.w w₁):vY d V a s (listed.setIfInBounds i Î) x {l with w:=w₁}:=by
 have e:(listed.setIfInBounds i Î).getD 9 Ë=listed.getD 9 Ë:=by simp[Array.getD_eq_getD_getElem?,Array.getElem?_setIfInBounds_ne b]
 refine⟨h.1.C r,λq=> ?_,λq=> ?_⟩
 .rw[e]at q;exact(h.2.1 q).G r
 .rw[e]at q;let⟨f,g,p,m,c,j,k,n⟩:=h.2.2 q;exact⟨f,g,p,m,c,j,k,n.N r⟩
theorem arP{D:Array Ñ}{I:List PR}(J:nZ d ab n s sl V)(T:D.size=39)(W:D[0]?=Â (Ã<|Â ⟨ab,0,Á⟩))(Y:D[6]?=Â z) (md:Ŀ) (listed:Array Bool) (a:Ĉ) (l:fc) (i:Nat) (O:List Nat) (hI:II ow D (j4 ab n sl z) (vY d X I s) listed a l) (p:i∈ä md ow listed) (F:i≠9): fu.fh À Î (λc e=>∃b,e=G ((base 17).at b<|Ð ow O::L) qX/\II ow D (j4 ab n sl z) (vY d X I s) (listed.setIfInBounds i Î) b c) l (G ((base 17).at a<|Ð ow (i::O)::L) qX):=by
 let⟨x,g,H⟩:=hI;have t:ug ow D.size=Î:=by rw[T];decide
 have K:=EN p;have u:=H.1.r.r;have y:=H.1.q;have P:=(g.C A).trans W;have N0:=(g.C A).trans Y;have B:∀c,fI l l.w c->vY d X I s (listed.setIfInBounds i Î) x {l with w:=c}:=λc r=>H.jW F r;let⟨fr,mr,_⟩:=J.a;have early:∀m,m<15->listed.getD m Ë=Ë->(∃e,e∈xV.after/\e.on=m/\yO e=Î)->listed.getD 9 Ë=Ë:=λm _ hm ⟨e,h1,h2,h3⟩=>by
  cases q:listed.getD 9 Ë with
  |false=>rfl
  |true=>
   have:=g.Y 9 xV e U q h1 h3;rw[h2,hm]at this;cases this
 have jr:ow.size=15:=A
 rw[jr]at K;have Pm:listed.getD i Ë=Ë:=by have:=(Β.1 p).1;grind
 have S:∀{j v},(∃e,e∈xV.after/\e.on=i/\yO e=Î)->#[Å É n,sl][j]?=Â v->gX l ⟨ab,j,Á⟩/\l.w.cell? ⟨ab,j,Á⟩=Â v:=λq h=>by have b:=H.2.1<|early i K Pm q;exact⟨È<|b.M<|È J.fp,(gK<|b.r ab (È J.fp) id).trans<|by simp[à,mr,h]⟩
 match i,K,F with
 |9,_,F=>exact absurd U F
 |0,_,_=>
  exact ij (o:=JK) t g U U p (by k_ne) u y (λc r=>by simp only[j4,JK];go_simp) (λc r e f=>by simp[go_sem,JK,P]at f) B
 |1,_,_=>
  have b:=g.r 0 JK 21 U (ie p U U) U;simp only[j4]at b;exact ij (o:=JL) t g U U p (by k_ne) u y (λc r=>by simp only[j4,JL];go_simp) (λc r e f=>by simp[go_sem,JL,b]at f) B
 |2,_,_=>
  have b:=g.r 1 JL 22 U (ie p U U) U;simp only[j4]at b;exact ij (o:=JN) t g U U p (by k_ne) u y (λc r=>by simp only[j4,JN];go_simp) (λc r e f=>by simp[go_sem,JN,b]at f) B
 |3,_,_=>
  have b:=g.r 2 JN 23 U (ie p U U) U;simp only[j4]at b;let⟨C,E⟩:=S (j:=1) ⟨⟨3,ĉ⟩,by simp[xV],U,U⟩ U;refine ij (o:=JO) t g U U p (by k_ne) u y (λc r=> ?_) (λc r e f=> ?_) B
  .have N:=(C.r r).trans E;simp only[j4,JO];go_simp
  .have N:=(C.r r).trans E;simp[go_sem,JO,b,N]at f;subst f;exact C.C
 |4,_,_=>
  exact ij (o:=JP) t g U U p (by k_ne) u y (λc r=>by simp only[j4,JP];go_simp) (λc r e f=>by simp[go_sem,JP,N0]at f) B
 |5,_,_=>
  exact ij (o:=JQ) t g U U p (by k_ne) u y (λc r=>by simp only[j4,JQ];go_simp) (λc r e f=>by simp[go_sem,JQ,P]at f) B
 |6,_,_=>
  have b:=g.r 5 JQ 26 U (ie p U U) U;simp only[j4]at b;exact ij (o:=JR) t g U U p (by k_ne) u y (λc r=>by simp only[j4,JR];go_simp) (λc r e f=>by simp[go_sem,JR,b]at f) B
 |7,_,_=>
  have b:=g.r 6 JR 27 U (ie p U U) U;simp only[j4]at b;exact ij (o:=JS) t g U U p (by k_ne) u y (λc r=>by simp only[j4,JS];go_simp) (λc r e f=>by simp[go_sem,JS,b]at f) B
 |8,_,_=>
  have b:=g.r 7 JS 28 U (ie p U U) U;simp only[j4]at b;let⟨C,E⟩:=S (j:=0) ⟨⟨8,ĉ⟩,by simp[xV],U,U⟩ U;refine ij (o:=JU) t g U U p (by k_ne) u y (λc r=> ?_) (λc r e f=> ?_) B
  .have N:=(C.r r).trans E;simp only[j4,JU];go_simp
  .simp[go_sem,JU,b,(C.r r).trans E]at f;subst f;exact C.C
 |10,_,_=>
  have b:=g.r 9 xV 30 U (ie p U U) U;simp only[j4]at b;exact ij (o:=zW) t g U U p (by k_ne) u y (λc r=>by simp only[j4,zW];go_simp) (λc r e f=>by simp[go_sem,zW,b]at f) B
 |11,_,_=>
  have b:=g.r 10 zW 20 U (ie p U U) U;simp only[j4]at b;exact ij (o:=DG) t g U U p (by k_ne) u y (λc r=>by simp only[j4,DG];go_simp) (λc r e f=>by simp[go_sem,DG,b]at f) B
 |12,_,_=>
  have b:=g.r 10 zW 20 U (ie p U U) U;simp only[j4]at b;exact ij (o:=DK) t g U U p (by k_ne) u y (λc r=>by simp only[j4,DK];go_simp) (λc r e f=>by simp[go_sem,DK,b]at f) B
 |13,_,_=>
  have b:=g.r 11 DG 31 U (ie p U U) U;simp only[j4]at b;exact ij (o:=DL) t g U U p (by k_ne) u y (λc r=>by simp only[j4,DL];go_simp) (λc r e f=>by simp[go_sem,DL,b]at f) B
 |14,_,_=>
  have b:=g.r 12 DK 32 U (ie p U U) U;simp only[j4]at b;exact ij (o:=DN) t g U U p (by k_ne) u y (λc r=>by simp only[j4,DN];go_simp) (λc r e f=>by simp[go_sem,DN,b]at f) B
end
def arQ(x y:Ñ)(n:Nat)(a:List Ĕ):G (è À 37 #[x,y,Å É n] Ą) a=Fe x y n a:=by unfold Fe;rw[enter_at #[x,y,Å É n] ι (c:=jZ Tryz.f37 []) ft];kernel_rfl
section
variable{l g:fc}{s:List fG}{V:Nat->Prop}{d:List PR}
theorem arR{F:Array Ñ}(D:nZ g i n s x V)(W:RQ d v X g.w)(M:∀b,X b->g.O b)(Y:∀r∈d,uO r)(Ly:d.length<=24)(ht:F.size=39) (md:Ŀ) (listed:Array Bool) (a:Ĉ) (l:fc) (N:List Nat) (hI:II ow F (j4 i n x v) (vY g (λb=>V b\/X b) d s) listed a l) (B:9∈ä md ow listed) (hn:∀P E,II ow F (j4 i n x v) (vY g (λb=>V b\/X b) d s) (listed.setIfInBounds 9 Î) P E->iB vQ E (G ((base 17).at P<|Ð ow N::L) qX)): iB vQ l (G ((base 17).at a<|Ð ow (9::N)::L) qX):=by
 let⟨t,y,Q⟩:=hI;have Pm:=(Β.1 B).1;have h9s:9<listed.size:=by grind
 have H:listed.getD 9 Ë=Ë:=by grind
 have e24:a.tmps[24]?=Â x:=y.r 3 JO 24 U (ie B U U) U;have e25:a.tmps[25]?=Â v:=y.r 4 JP 25 U (ie B U U) U;have e29:a.tmps[29]?=Â (Å É n):=y.r 8 JU 29 U (ie B U U) U;have late:∀(S:Value×Value) j,listed.getD j Ë=Î->j4 i n x v S j=j4 i n x v t j:=λS j u=>by
  have c:listed.getD 10 Ë=Ë:=by
   cases q:listed.getD 10 Ë with
   |false=>rfl
   |true=>exact absurd (y.Y 10 zW ⟨9,ĉ⟩ U q (by simp[zW]) U)<|by rw[H];decide
  have e:listed.getD 11 Ë=Ë:=by
   cases q:listed.getD 11 Ë with
   |false=>rfl
   |true=>exact absurd (y.Y 11 DG ⟨10,ĉ⟩ U q (by simp[DG]) U)<|by rw[c];decide
  have h:listed.getD 12 Ë=Ë:=by
   cases q:listed.getD 12 Ë with
   |false=>rfl
   |true=>exact absurd (y.Y 12 DK ⟨10,ĉ⟩ U q (by simp[DK]) U)<|by rw[c];decide
  have m:listed.getD 13 Ë=Ë:=by
   cases q:listed.getD 13 Ë with
   |false=>rfl
   |true=>exact absurd (y.Y 13 DL ⟨11,ĉ⟩ U q (by simp[DL]) U)<|by rw[e];decide
  have p:listed.getD 14 Ë=Ë:=by
   cases q:listed.getD 14 Ë with
   |false=>rfl
   |true=>exact absurd (y.Y 14 DN ⟨12,ĉ⟩ U q (by simp[DN]) U)<|by rw[h];decide
  match j with
  |9=>rw[H]at u;cases u
  |10=>rw[c]at u;cases u
  |11=>rw[e]at u;cases u
  |12=>rw[h]at u;cases u
  |13=>rw[m]at u;cases u
  |14=>rw[p]at u;cases u
  |0|1|2|3|4|5|6|7|8=>rfl
  |j+15=>rfl
 refine Gp (f:=37) (args:=#[x,v,Å É n]) Q.1 (o:=xV) U (Lx U _) (by k_ne) (λw=> ?_) (λw=> ?_) λw₁ r=> ?_
 .simp only[xV];go_simp
 .exact ô U ι U U #[]
 have z:=(Q.2.1 H).G r;have C:=D.S (λb q=>z.O b q) (λb q=>z.r b (È q) id) z.I;have T:=λb q=>z.O b<|M b q;obtain⟨ra,cr,rb,rq,rfl,Iv,CN,Iw,Ix,ready⟩:=arM (W.r λb q=>z.r b (È<|M b q) id) Y C.r C.C T;obtain⟨I,J,K,rfl⟩:∃I J K,x=Æ I J K:=by let⟨_,_,_,⟨I,J,K,e,_⟩,_⟩:=D.I;grind
 rw[arQ];refine arG Iv (λh=>È<|CN h) Iw Ix ready ⟨λb q=>È<|Ï q,λb q=>Ï q⟩ (λb q=>q.elim (λq=>q.elim (C.Y b)<|T b)<|C.C b) (λb q=>È<|È q) C.I D.c (by have:=D.d;omega) λE e p m c h hT=> ?_;refine hn _ E ⟨(Æ (Â ⟨e,0,Á⟩) d.length d.length,Æ p m c),(y.Yx<|late _).fW (by rw[ht];decide) U B λ_=>rfl,h,λq=> ?_,λ_=>⟨_,e,p,m,c,z,U,hT⟩⟩;simp_all
end
section
variable{l o l4:fc}{ab:Nat}{s:List fG}{sl:Ñ}{V:Nat->Prop}{rs:List PR}
structure abL(l l4:fc)(ab n:Nat)(s:List fG)(sl:Ñ)(V:Nat->Prop)(rs:List PR)(an:Nat)(sY:Ñ):Prop where
 r:∀b,l.O b->l4.O b/\l4.w.heap[b]?=l.w.heap[b]?
 fx:nB<=l4.w.heap.size
 C:l4.O an/\uS an (kP rs s) l4.w/\kR l4.w an=Â (0,0)
 IP:∃V',RD (vV rs s) sY V' l4.w/\(∀b,V' b->l4.O b)/\¬V' ab/\∀b,V' b->V b\/(b=1\/b=2\/b=3\/b=4)\/l.w.heap.size<=b
def arS{kd:Nat->Int}(h:∀p,p<rs.length->w.cell? ⟨i,p,Á⟩=Â (Ä<|vM (vU rs) (kO rs) p<|pD (vU rs) (gW (kO rs) rs.length) s<|fJ (kO rs) p))(d:w.cell? ⟨i,rs.length,Á⟩=Á):uS i (kP rs s) w:=by refine⟨λp x a=> ?_,by unfold kP;simpa using d⟩;unfold kP at a;rw[ī]at a;obtain⟨q,e,rfl⟩:=ò.1 a;let⟨b,c⟩:=Õ.1 e;simp at b c;subst c;exact h p b
def N4:(kP rs s).length=rs.length:=by simp[kP]
def arT:nB<=5:=by show À.globals.size<=5;decide+kernel
def arU{f:fc}{p:Option ù}(d:nZ l ab n s sl V)(t:gw l)(u:∀b,X b->l.w.heap.size<=b)(v:∀b,l.O b->o.O b/\o.w.heap[b]?=l.w.heap[b]?)(x:l.w.heap.size<=o.w.heap.size)(y:gw l4)(e:gh (λ_=>False) o f)(a:zM (λb=>(V b\/X b)\/b=1\/b=2\/b=3\/b=4) (vU rs) rs.length (kO rs) s f i (Æ p m j) l4):abL l l4 ab n s sl V rs i (Æ p m j):=by
 have g:∀b,l.O b->l4.O b/\l4.w.heap[b]?=l.w.heap[b]?:=λb q=>by let⟨z,h⟩:=v b q;let⟨k,r⟩:=a.M b<|e.O b z;exact⟨k,r.trans<|(e.r b (È z) id).trans h⟩
 refine⟨g,?_,⟨a.r.1,arS (kd:=kO rs) a.r.2 a.I.1,a.I.2⟩,?_⟩
 .have:=y.fx 4<|È (g 4<|d.C 4 A).1;have:=arT;omega
 .let⟨h,B,k⟩:=a.Y;have r:∀b,h b->V b\/(b=1\/b=2\/b=3\/b=4)\/l.w.heap.size<=b:=λb q=>by
   rcases(k b q).2 with((z|z)|z)|z
   .exact È z
   .exact Ï<|Ï<|u b z
   .exact Ï<|È z
   .exact Ï<|Ï<|Ì (Ì x e.I) z
  refine⟨h,B,λb q=>(k b q).1,λq=> ?_,r⟩;rcases r ab q with z|z|z
  .exact d.e z
  .exact d.M z
  .have:=t.fx ab<|È d.fp;omega
def arV{f:fc}{p:Option ù}(d:nZ l ab n s sl V)(h:abL l l4 ab n s sl V rs i (Æ p m j))(E:gw l4)(g:∀b,l4.O b->f.O b)(r:∀b,l4.O b->f.w.heap[b]?=(l4.w.setCell ⟨ab,1,Á⟩<|Æ p m j).heap[b]?)(v:l4.w.heap.size<=f.w.heap.size):NZ l f ab n (vV rs s) V:=by
 let⟨x,y,t,u,z⟩:=h.IP;have k:∀b,l4.O b->b≠ab->f.w.heap[b]?=l4.w.heap[b]?:=λb q e=>(r b q).trans<|lk (a:=⟨ab,1,Á⟩) e;have o:=h.r ab d.fp;refine⟨λb q e=>⟨g b (h.r b q).1,(k b (h.r b q).1 e).trans (h.r b q).2⟩,Æ p m j,x,⟨?_,λb q=>g b (h.r b<|d.C b q).1,?_,g ab o.1,y.r λb q=>k b (t b q) λe=>u<|e▸q,λb q=>g b<|t b q,u,d.c,d.d,d.M⟩,z⟩
 .exact d.r.r (Ì h.fx v) λb q=>(k b (h.r b<|d.C b q).1 λe=>d.M<|e▸q).trans (h.r b<|d.C b q).2
 .let⟨B,C,D⟩:=d.a;refine⟨B,?_,D⟩;rw[r ab o.1];unfold Ż;simp[Ķ,o.2,C]
def arW{J:Jd}(b:ki l)(d:fu.fh À Î J l (G (f.at (y.put ((Q[i]?).bind (·.dst))<|Ä ⟨#[]⟩)<|Ð Q jJ::L) qX)): fu.fh À Î J l (G (è À 38 #[Æ O 0 j,Ä B] Ą)<|f.at y (Ð Q (i::jJ)::L)::qX):=by
 have hF:True:=trivial;rw[vW [_,_] 73 ĕ];simp only[ą,Ē,ě];conv in jZ _ _=>whnf
 apply fN (n:=60) b;repeat w_go fv
 u_in fv hF
 refine Ŧ (t:=4) U U ĕ U ⟨by u_nil,?_⟩;refine ï λ_ _=> ?_;exact d
def uS.I{w':Í}{xs:List ByteArray}(h:uS i xs w)(k:w'.heap[i]?=w.heap[i]?):uS i xs w':= ⟨λp x a=>zR k<|h.r p x a,by have:=h.C;simp only[à,k]at this|-;exact this⟩
def arX{xs:List ByteArray}(g:nA w)(h:uS i xs w):lq i=Ë:=by
 have b:∀e,NC i e w->False:=λe ⟨c,o,j,_,_,d,l⟩=>by
  have f:w.cell? ⟨i,0,Á⟩=Â c[0]:=by simp only[à,j,ö,ì,if_false];exact å d
  rcases ĥ xs.length with q|q
  .have a:=h.C;rw[q,f]at a;cases a
  .have a:=h.r 0 _<|Ó q;let⟨k,n,m⟩:=l c[0]<|î.2<|ă d;rw[f,m]at a;cases a
 cases q:lq i with
 |false=>rfl
 |true=>
  unfold lq at q;simp at q;rcases q with rfl|rfl
  .exact(b _ g.I).elim
  .exact(b _ g.C).elim
def jL.arY(a:ki l)(r:fI l l.w u):jL l {l with w:=u}:=⟨λ_ q=>q,λ_ q=>È q,U,U,U,U,U,r,mA a r⟩
def arZ{a:Ĉ}{xs:List ByteArray}(b:gA l)(j:nB<=l.w.heap.size)(h:uS n xs l.w)(m:l.O n)(o:lq n=Ë)(p:kR l.w n=Â (0,0))(s:xs.length<=1000){N:Nat}(t:xs.length=N)(u:B.size=1)(v:iO xs+xs.length<=140737488355328): fu.fh À Î (λc g=>jL l c/\c.d=l.d/\g=G (f.at (a.put ((Q[i]?).bind (·.dst))<|Ä<|kF B xs)<|Ð Q jJ::L) qX) l (G (è À 38 #[Æ (Â ⟨n,0,Á⟩) N N,Ä B] Ą)<|f.at a (Ð Q (i::jJ)::L)::qX):=by
 subst t;rcases ĥ xs.length with e|e
 .have x:=Þ e;subst x;exact arW b.r.r<|.fA λy r=>⟨jL.arY b.r.r r,U,U⟩
 .refine(arB b.r b.q j h e (È m) o p s u v Î _ qX).fM ?_;rintro c g ⟨r,x,rfl⟩;exact⟨r,x,by rw[Ĝ]⟩
def ar0{N:Array Ñ}{cf:Ĕ}(C:nZ l ab n s sl V)(Ff:gw l)(Us:∀b,X b->l.w.heap.size<=b)(hl:∀b,l.O b->o.O b/\o.w.heap[b]?=l.w.heap[b]?)(jr:l.w.heap.size<=o.w.heap.size)(Ly:rs.length<=24)(sJ:iO (kP rs s)+rs.length<=140737488355328)(ht:N.size=39)(ht0:N[0]?=Â (Ã<|Â ⟨ab,0,Á⟩)) (hJ:∀P,gA P->NZ l P ab n (vV rs s) V->iB vQ P (G (cf.at (y.put ((Q[i]?).bind (·.dst))<|ë #[Ä<|kF ⟨#[59]⟩<|kP rs s,Å É 0])<|Ð Q jJ::L) qX)) (md:Ŀ) (listed:Array Bool) (a:Ĉ) (l4:fc) (hI:II ow N (j4 ab n sl v) (vY o (λb=>V b\/X b) rs s) listed a l4) (H:listed.size=ow.size) (I:ä md ow listed=[]): iB vQ l4 (G ((base 17).at a<|Ð ow []::[az Ur])<|cf.at y (Ð Q (i::jJ)::L)::qX):=by
 have hF:True:=trivial;let⟨x,D,g,_,hS⟩:=hI;have J:∀i∈ĳ 15,listed.getD i Ë=Î:=by
  cases md
  .exact p8 I H (ĳ 15) [] fO λi c=>by cases c
  .exact λi c=>p8 I H [0,1,2,3,4,5,6,7,8,9,10,11,13,12,14] [] fO (λi c=>by cases c) i (by have:=Ŷ.1 c;revert i;decide)
  .exact p8 I H (ĳ 15) [] fO λi c=>by cases c
 obtain⟨l1,r,p,m,c,k1,rfl,hT⟩:=hS<|J 9 A;have h:=arU (rs:=rs) C Ff Us hl jr g.r k1 hT;let⟨F,ds⟩:=a;obtain rfl:ds=[]:=D.M;have S:F[0]?=Â (Ã<|Â ⟨ab,0,Á⟩):=(D.C A).trans ht0;have T:F[9]?=Â (Æ (Â ⟨r,0,Á⟩) rs.length rs.length):=D.r 13 DL 9 U (J 13 A) U;have W:F[10]?=Â (Æ p m c):=D.r 14 DN 10 U (J 14 A) U;have IF:F.size=39:=D.S.trans ht;clear D J hS hT k1 I H;obtain⟨u,rfl⟩:=rF F IF;simp only[List.getElem?_toArray,ī,List.getElem?_range,Nat.reduceLT,û,Ô]at S T W;simp only[ĳ,List.range.loop,List.map,S,T,W];clear S T W IF;let⟨fr,mr,hfr⟩:=C.a;let⟨N5,hab⟩:=h.r ab C.fp;have Y:l4.w.heap[ab]?=Â (Û #[Å É n,sl] 68 (0,0)):=by rw[hab,mr,hfr]
 have c1:l4.w.cell? ⟨ab,1,Á⟩=Â sl:=by simp[à,Y]
 have z1:l4.w.frozen? ⟨ab,1,Á⟩=Ë:=by simp[World.frozen?,Y]
 have CB:=g.q;apply lM;apply fN (n:=20) g.r.r;conv in Ur=>whnf
 iterate 7 w_go fv
 refine ï λ_ _=> ?_;apply H8 (p:=ab) (off:=1) (v:=Æ p m c) (u:=sl) U U (by k_ne) g.r.r CB N5 c1 z1 U (λw z B=>by go_simp) (λw z B=>by simp[go_sem,events_store _ _ _ _ _ _ (show Value.oneCell' (Æ p m c)=Î from rfl),z,B]);have k5:=LG (X:=λb=>b=ab) (p:=ab) (w':=l4.w.setCell ⟨ab,1,Á⟩<|Æ p m c) g.r (fI.fT _ _) N5 U fu.jU λj hj=>fu.lk hj;have rL:=k5.N g.r;have auB:(l4.w.setCell ⟨ab,1,Á⟩<|Æ p m c).heap.size=l4.w.heap.size:=fu.jU;have ui:gA ({l4 with w:=l4.w.setCell ⟨ab,1,Á⟩ (Æ p m c)}:fc):=⟨rL,g.d,g.q,g.N,g.I,g.M,g.k⟩;have c0:l4.w.cell? ⟨ab,0,Á⟩=Â (Å É n):=by simp[à,Y]
 have ar1:r≠ab:=λe=>by
  rcases ĥ (kP rs s).length with q|q
  .have z:=h.C.2.1.C;rw[q,e,c0]at z;cases z
  .have B:=h.C.2.1.r 0 _<|Ó q;rw[e,c0]at B;cases B
 have abM:(l4.w.setCell ⟨ab,1,Á⟩<|Æ p m c).heap[r]?=l4.w.heap[r]?:=fu.lk (a:=⟨ab,1,Á⟩) ar1;have TX:=h.C.2.1.I abM;have Ck:kR (l4.w.setCell ⟨ab,1,Á⟩<|Æ p m c) r=Â (0,0):=(wF abM).trans h.C.2.2;have ar2:lq r=Ë:=arX (C.r.r h.fx λb q=>(h.r b<|C.C b q).2) h.C.2.1;have hlen:(kP rs s).length=rs.length:=N4;apply fN (n:=20) rL.r;iterate 4 w_go fv
 refine ï λ_ _=> ?_;refine zV (f:=38) (args:=#[Æ (Â ⟨r,0,Á⟩) rs.length rs.length,Ä ⟨#[59]⟩]) U fO (by k_ne) rL.r (λw=>by go_simp) (λw=>ô U ĕ U U #[]) λw₁ E=> ?_;have N0:=ui.C E;have ar3:uS r (kP rs s) w₁:=TX.I<|E.I r<|È h.C.1;refine fu.fh.lV ?_ (arZ (xs:=kP rs s) N0 (Ì (by rw[fu.jU];exact h.fx) E.r) ar3 h.C.1 ar2 ((wF<|E.I r<|È h.C.1).trans Ck) Z hlen U Z);rintro K g6 ⟨M,hd,rfl⟩;have Ut:gA K:=jL.CY N0 M hd;have hk6:∀b,l4.O b->K.w.heap[b]?=(l4.w.setCell ⟨ab,1,Á⟩<|Æ p m c).heap[b]?:=λb q=>(M.r.I b<|È q).trans<|E.I b<|È q;have hs6:l4.w.heap.size<=K.w.heap.size:=by have z:=M.r.r;have B:=E.r;have h3:(l4.w.setCell ⟨ab,1,Á⟩<|Æ p m c).heap.size=l4.w.heap.size:=fu.jU;exact Ì (Nat.le_of_eq h3.symm)<|Ì B z
 have B:∀b,l4.O b->K.O b:=λb q=>M.O b q;generalize kF ⟨#[59]⟩ (kP rs s)=ans at*;walk_nrm;apply fN (n:=20) Ut.r.r;repeat w_go fv
 u_in fv hF
 refine κ (t:=4) (u:=5) U U Ł U ⟨by u_nil,?_⟩;refine ï λ_ _=> ?_;refine .fA λqC z=>⟨Ut.C z,U,hJ _ (Ut.C z)<|arV C h g.r B (λb q=>(z.I b<|È<|B b q).trans<|hk6 b q)<|Ì hs6 z.r⟩
end
section
variable{l:fc}{s:List fG}
def ar4{e:fc}{c:Nat->Prop}{g:List PR}(H:nZ l j n s v X)(I:gw l)(u:nZ e j n s v X)(p:gA e)(J:RQ g z c e.w)(K:∀b,c b->e.O b)(M:∀r∈g,uO r)(B:g.length<=24)(N:∀b,c b->l.w.heap.size<=b)(P:∀b,l.O b->e.O b/\e.w.heap[b]?=l.w.heap[b]?)(S:l.w.heap.size<=e.w.heap.size)(T:iO (kP g s)+g.length<=140737488355328)(t:d.size=39)(C:d[0]?=Â (Ã<|Â ⟨j,0,Á⟩))(V:d[6]?=Â z) (W:∀h,gA h->NZ l h j n (vV g s) X->iB vQ h (G (f.at (y.put ((Q[i]?).bind (·.dst))<|ë #[Ä<|kF ⟨#[59]⟩<|kP g s,Å É 0])<|Ð Q jJ::L) qX)): iB vQ e (G ((base 17).at ⟨d,[]⟩<|az (.region 4 ow Î)::[az Ur])<|f.at y (Ð Q (i::jJ)::L)::qX):=by
 refine arN (II ow d (j4 j n v z)<|vY e (λb=>X b\/c b) g s) p (λa x=> ?_) (λk m a l i jJ o D E=> ?_) λk m a l o Y vv=> ?_
 .refine⟨(ĸ,ĸ),mO.G _ _ _,p.C x,λ_=>(gh.fT p.r.r).G x,λq=> ?_⟩;exact absurd q A
 .by_cases F:i=9
  .subst F;exact arR u J K M B t k m a l jJ o D E
  .exact arO (arP u t C V k m a l i jJ o D F) (λD h q=>by let⟨x,_,q⟩:=q;exact q.1) E
 .exact ar0 H I N P S B T t C W k m a l o Y vv
def abN(p:gA l)(r:nZ l j n s v X)(I:B.size<=đ)(J:(iA B).1=0->iO (kP (iA B).2.2 s)+(iA B).2.2.length<=140737488355328) (t:∀z,gA z->NZ l z j n (lz s B).2.2 X->iB vQ z (G (f.at (y.put ((Q[i]?).bind (·.dst))<|ë #[Ä (lz s B).1,Å É (lz s B).2.1])<|Ð Q jJ::L) qX)): iB vQ l (G (è À 17 #[Ã<|Â ⟨j,0,Á⟩,Ä B] Ą)<|f.at y (Ð Q (i::jJ)::L)::qX):=by
 have hF:=trivial;rw[vW [_,_] 37 Ł];simp only[ą,Ē,ě];conv in jZ _ _=>whnf
 apply lM;apply fN (n:=20) p.r.r;iterate 8 w_go fv
 refine ï λ_ _=> ?_;refine zV (f:=36) (args:=#[Ä B]) U fO (by k_ne) p.r.r (λw=>by go_simp) (λw=>ô U ļ U U #[]) λw₁ m=> ?_;have C:=p.C m;refine fu.fh.lV ?_<|ars C.r C.q (Ì r.r.fx m.r) I Î _ _;rintro u g1 ⟨x,K,a,rfl,M⟩;have g:=jL.CY C x K;have h:∀b,l.O b->u.O b/\u.w.heap[b]?=l.w.heap[b]?:=λb q=>⟨x.O b q,(x.r.I b<|È q).trans<|m.I b<|È q⟩;have F:=Ì m.r x.r.r;rw[Ĝ];by_cases k:(iA B).1=0
 .have D:lz s B=(kF ⟨#[59]⟩<|kP (iA B).2.2 s,0,vV (iA B).2.2 s):=if_pos k;let⟨c,N,E⟩:=M k;have P:=J k;rw[D]at t;obtain⟨S,T⟩:=Gn;rw[k];generalize(iA B).2.2=rs at*;generalize(iA B).2.1=at1 at*;walk_nrm;apply fN (n:=40) g.r.r;repeat w_go fv
  refine ï λ_ _=> ?_;refine .fA λo d=>⟨g.C d,U,?_⟩;have V:=g.C d;have e:∀b,l.O b->({u with w:=o}:fc).O b/\o.heap[b]?=l.w.heap[b]?:=λb q=>⟨(h b q).1,(d.I b<|È (h b q).1).trans (h b q).2⟩;have H:=Ì F d.r;have W:=r.S (λb q=>(e b q).1) (λb q=>(e b q).2) H;have Y:=N.r λb q=>d.I b<|È (E b q).1;have hQ3:=λb q=>(E b q).1;have Us:=λb q=>Ì m.r (E b q).2;exact ar4 r p.r W V Y hQ3 S T Us e H P U U U t
 .have D:lz s B=(⟨#[]⟩,(iA B).1,s):=if_neg k;rw[D]at t;have c:((iA B).1 !=0)=Î:=by rwa[bne_iff_ne]
  generalize(iA B).1=er at*;generalize(iA B).2.1=at1 at*;walk_nrm;apply fN (n:=40) g.r.r;repeat w_go fv
  u_in fv hF
  refine κ U U Ł U ⟨by u_nil,?_⟩;refine ï λ_ _=> ?_;refine .fA λo d=>⟨g.C d,U,t _ (g.C d) ?_⟩;have e:∀b,l.O b->({u with w:=o}:fc).O b/\o.heap[b]?=l.w.heap[b]?:=λb q=>⟨(h b q).1,(d.I b<|È (h b q).1).trans (h b q).2⟩;exact⟨λb q _=>e b q,v,X,r.S (λb q=>(e b q).1) (λb q=>(e b q).2)<|Ì F d.r,λb q=>È q⟩
end
def Uu(a:ByteArray)(c:a.size=1):∀b:List ByteArray,(kF a b).size<=iO b+b.length
 |[]=>Ö _
 |x::r=>by
  show(x.data.toList++om a r).toArray.size<=_;have d:iO (x::r)=x.size+iO r:=by simp[iO]
  have e:x.data.toList.length=x.size:=by rw[ĝ];rfl
  simp only[ř,Ù,Nr a c r,d,e,Đ];omega
def Uv{M:Nat}(a:∀z∈vX,z.size<=M)(b:M<=100)(c:vX.length<=400000):(F3 vX).size<=100000000:=by
 unfold F3;split
 .decide
 .have d:=Uu ⟨#[44]⟩ U vX;have e:=F0 vX a;have:M*vX.length<=100*400000:=ű b c;omega
def Gq(i:Nat):(nL i).size<=3:=by
 unfold nL nu;rw[ø];split
 .show 1+1<=3;decide
 .show 1+2<=3;decide
def abO(s:gO.St)(x y:Nat)(k:Int):∀(m i:Nat),i+m<=1000->(tf s x y k i m).size<=20
 |0,i,_=>by unfold tf;decide
 |m+1,i,h=>by
  unfold tf;split
  .exact pw i Z
  .exact abO s x y k m (i+1) Z
theorem ar5(s t:gO.St):(qY s t 8).length<=400000:=by
 unfold qY;have a:∀l:List Nat,(l.flatMap<|zD s t).length<=18*l.length:=λl=>by
  induction l with
  |nil=>simp
  |cons i l b=>
   rw[List.flatMap_cons,Ù,Đ];have:(zD s t i).length<=18:=by unfold zD;rw[Ù];have c:=Nl s t i 16;have d:=aao (s i).fl (t i).fl (s i).r (t i).r i;omega
   omega
 grind
theorem ar6{i:List (Nat×fG)}{q:Qn}(n:kV (kn i))(ok:q.Ok):(qu i q).size<=100000000:=by
 unfold qu;split
 .have:=Gq 3;omega
 .rename_i p o;let⟨b,f,v,w⟩:=n.r _<|Ú.2 ⟨p,Jt o,U⟩;have j:∀u,u<18446744073709551616->(gf u).size<=100000000:=λu r=>by have:=pw u r;omega
  unfold Ds;split
  .have c:=f.C q.x q.I;exact j _ (by have:=c.1;have:=c.2;omega)
  .split
   .have c:=f.fl q.x;exact j _ (by have:=c.1;have:=c.2;omega)
   .split
    .split
     .have:=Gq 6;omega
     .rename_i B;have l:fY (q.k:Int):=⟨Z,by have:=ok.k;omega⟩;have e:=Jb p.2.s [] q.x q.y q.g q.k f ok.x ok.y l Z Z (by simp;omega);unfold TP;have C:=e.r;have m:=e.M;have t:=e.I;simp at t;have D:=Uu ⟨#[44]⟩ U<|[gf (gk p.2.s [] q.x q.y q.g q.k).C.toNat,gf (gk p.2.s [] q.x q.y q.g q.k).M.toNat,gf (gk p.2.s [] q.x q.y q.g q.k).r.toNat]++(gk p.2.s [] q.x q.y q.g q.k).I.map rW;have E:=F0 (M:=21) ([gf (gk p.2.s [] q.x q.y q.g q.k).C.toNat,gf (gk p.2.s [] q.x q.y q.g q.k).M.toNat,gf (gk p.2.s [] q.x q.y q.g q.k).r.toNat]++(gk p.2.s [] q.x q.y q.g q.k).I.map rW) λz d=>by
       rcases â.1 d with h|h
       .simp at h;rcases h with rfl|rfl|rfl
        .have:=pw (gk p.2.s [] q.x q.y q.g q.k).C.toNat (by cases(gk p.2.s [] q.x q.y q.g q.k).C<;>decide);omega
        .have:=pw (gk p.2.s [] q.x q.y q.g q.k).M.toNat (by have:=m.1;have:=m.2;omega);omega
        .have:=pw (gk p.2.s [] q.x q.y q.g q.k).r.toNat Z;omega
       .obtain⟨e,a,rfl⟩:=Ú.1 h;exact Nu ((Tv p.2.s [] q.x q.y q.g q.k f ok.x ok.y l Z Z (by simp;omega) λ_ q=>by cases q) e a).2
      grind
    .split
     .have:=abO p.2.s q.x q.y q.k 401 0 Z;omega
     .split
      .have:=aaE<|FN p.2.s;have:=aaF<|16-(nz<|FN p.2.s).size;unfold Nx;rw[ø];omega
      .split
       .exact Uv (λz d=>by obtain⟨e,a,rfl⟩:=Ú.1 d;exact Nu (b.C e a).2) Z<|by rw[ú];exact b.I
       .split
        .exact Uv (λz d=>by obtain⟨e,a,rfl⟩:=Ú.1 d;exact aay (b.r e a).1 (b.r e a).2) Z (by rw[ú];have:=b.M;omega)
        .split
         .have:=Gq 3;omega
         .exact Uv (aaG _ _) Z<|ar5 _ _
def ar7(a:List (Nat×fG))(v:Int)(x:Nat)(b:List Tx):(pv a v x b).2.size<=3:=by
 unfold pv;split
 .exact Gq 3
 .split
  .exact Gq 4
  .split
   .exact Gq 5
   .show(nu a.length).size<=3;unfold nu;split
    .show 1<=3;decide
    .show 2<=3;decide
def ar8{s:List fG}{i:Int×Nat×List Tx}(h:kV s)(a:∀t∈i.2.2,t.Ok)(b:i.2.2.length<=1000):kV (zL s i):= kV.M (by rwa[F6]) a b
def abP{a:List PR}{s:List fG}(h:kV s)(b:∀r∈a,uO r):∀k,k<=(gW (kO a) a.length).length->kV (pD (vU a) (gW (kO a) a.length) s k)
 |0,_=>h
 |k+1,hk=>by
  have c:a.getD ((gW (kO a) a.length).getD k 0) oQ∈a:=ç (i:=(gW (kO a) a.length).getD k 0) (by have q:=(IL<|vE (l:=gW (kO a) a.length)<|show k<_ from hk).1;generalize(gW (kO a) a.length).getD k 0=j at q;simp[Ġ,q]);have q:=b _ c;refine ar8 (abP h b k Z) (λt d=> ?_) ?_
  .obtain⟨x,t,rfl⟩:=Ú.1 d;exact toTx_ok<|q.C x t
  .show((a.getD _ oQ).r.map toTx).length<=1000;rw[ú];have:=q.n;omega
def RH(kd:Nat->Int):∀{p R:Nat},p<=R->fJ kd p<=(gW kd R).length:=λ{p R} h=>by
 show(gW kd p).length<=(gW kd R).length
 induction h with
 |refl=>exact æ _
 |@step R _ ih=>
  by_cases q:kd R=1
  .rw[sX q];simp;omega
  .rwa[vz q]
def abQ{a:List PR}{s:List fG}(h:kV s)(b:∀r∈a,uO r)(l:a.length<=24):iO (kP a s)+a.length<=2400000024:=by
 have d:=F0 (M:=100000000) (kP a s) λz c=>by
  unfold kP at c;obtain⟨p,e,rfl⟩:=Ú.1 c;have f:=Ŷ.1 e;have g:=abP h b (fJ (kO a) p)<|RH _ Z;unfold vM;split
  .exact Ì (ar7 _ _ _ _) A
  .rename_i j;have k:a.getD p oQ∈a:=ç (i:=p) (by simp[Ġ,f]);exact ar6 (by rwa[F6])<|abJ (b _ k) j
 rw[N4]at d;omega
def abR{s:List fG}(h:kV s):iO (kP (iA B).2.2 s)+(iA B).2.2.length<=140737488355328:=Ì (abQ h Gn.1 Gn.2) A
theorem ar9{s:List fG}(h:kV s)(B:ByteArray):(lz s B).1.size<=10^12:=by
 unfold lz;split
 .have a:=Uu ⟨#[59]⟩ U<|kP (iA B).2.2 s;have b:=abQ h (Gn (B:=B)).1 Gn.2;rw[N4]at a;grind
 .exact Ö _
def JV(c:Int):Int:=if c<0 then(-(c+1))%8 else c%8
def asa(c:Int)(b:-9223372036854775808<=c)(d:c<=9223372036854775807)(w:Í):Ò À 30 #[Å É c,Å É 8] w λe a=>e=Ç (Å É<|JV c)/\a=w:=by
 unfold JV;by_cases h:c<0
 .rw[if_pos h];have e:-(c+1).tmod 8=(-(c+1))%8:=by rw[<-Int.neg_tmod,Int.tmod_eq_emod_of_nonneg Z]
  have H:=fe e.symm;clear e;go_enter ŧ,Ο;go_wp2;go_ret;exact⟨by rw[H.out];rfl,U⟩
 .rw[if_neg h];go_enter ŧ,Ο;go_wp2;go_ret;exact⟨U,U⟩
def abS(a:ù)(w:Í):Sem.events À (binOp BinOp.eql 26 (Ã<|Â a)<|Ã Á) w #[]=#[]:=ft
def JX{l:fc}(a:gA l)(s:nB<=l.w.heap.size){f:Ρ}{args:Array Ñ}{r:Ñ}(m:Fu f=Î)(t:∀v∈args.toList,fi (qe (λ_=>False) À.globals.size) v v)(x:∀{Y v},fi Y r v->v=r)(y:∀w,Ò À f args w λe n=>e=Ç r/\n=w)(o:Bool)(c:Ĕ)(i:List Ĕ): fu.fh À o (λk p=>jL l k/\k.d=l.d/\p=G (c.finish r) i) l (G (è À f args Ą)<|c::i):=by
 let⟨E,F,z,B⟩:=zk f m;have C:∀T,Ò À f args (World.tp (k9 (λj=>False/\¬(lZ l).O j) l.w) T 0) fun|Ç v,j=>v=r/\kh j|_,_=>False:=λT=>by refine(y _).mono ?_;rintro e n ⟨rfl,rfl⟩;exact⟨U,F5⟩
 refine((Fo yf ME zk (λv u T D h=>h) m z B (Fp a.r) a.q (λb q=>q.elim) ⟨λb q=>q.elim,s⟩ (λg q=>by cases q) (pA t) C o c i).lZ a.r).fM ?_;rintro k p ⟨D,⟨Y,j,v,H,_,_,g,rfl,b,_,_,h⟩,rfl,u,_,_,_⟩;rw[x g]at b;exact⟨u,h,b⟩
def Uw:ByteArray:=⟨#[98,48,58,97,59,98,48,58,104,59,117,48,59,98,49,58,97]⟩
def asb:(lz [gO.mE] Uw).1=⟨#[49,48,48,48,59,49,48,48,48,59,45,59,33,51]⟩:=ft
def asc:(lz [gO.mE] Uw).2=(0,[gO.mE]):=ft
structure ase(l l':fc)(ab n:Nat)(sl:Ñ)(V:Nat->Prop):Prop where
 r:nZ l' ab n [gO.mE] sl V
 C:∀b,l.O b->l'.O b/\l'.w.heap[b]?=l.w.heap[b]?
 I:l.w.heap.size<=ab
 M:∀b,V b->(b=1\/b=2\/b=3\/b=4)\/l.w.heap.size<=b
section
variable{l:fc}
def asf{J:Jd}{s:List fG}(c:gA l)(d:nZ l j n s z X)(g:fu.fh À Î J l (G (f.at (y.put ((Q[i]?).bind (·.dst))<|Å É s.length)<|Ð Q jJ::L) qX)): fu.fh À Î J l (G (è À 22 #[Ã<|Â ⟨j,0,Á⟩] Ą)<|f.at y (Ð Q (i::jJ)::L)::qX):=by
 have hF:True:=trivial;obtain⟨a,b,rfl⟩:∃a b,z=Æ a s.length b:=by
  let⟨o,h,_,⟨a,k,b,e,_,m⟩,_⟩:=d.I;have:k=s.length:=by rw[m.r,<-h];simp[kn]
  exact⟨a,b,by rw[e,this]⟩
 have o:s.length<=40:=by let⟨_,_,e,_⟩:=d.I;exact e.C
 let⟨p,k,_⟩:=d.a;have m:l.w.cell? ⟨j,1,Á⟩=Â (Æ a s.length b):=by simp[à,k]
 rw[vW [_] 7 Ũ];simp only[ą,Ē,ě];conv in jZ _ _=>whnf
 refine fN (n:=20) c.r.r ?_;repeat w_go fv
 refine ï λ_ _=> ?_;refine nT (x:=⟨j,1,Á⟩) (v:=Æ a s.length b) U fO (by k_ne) c.r.r c.q (È<|È d.fp) m (λw h=>by go_simp) (λw h=>by simp[go_sem,h]) ?_;walk_nrm;refine fN (n:=20) c.r.r ?_;repeat w_go fv
 u_in fv hF
 refine Ŧ (t:=2) U U Ũ U ⟨by u_nil,?_⟩;refine ï λ_ _=> ?_;exact g
def asg(j:gA l)(p:nA l.w)(I:∀b,b=1\/b=2\/b=3\/b=4->l.O b)(c:Int)(tS:-9223372036854775808<=c)(zO:c<=9223372036854775807) (hJ:∀J a n K V,gA J->ase l J a n K V->iB vQ J (G (f.at (y.put ((Q[i]?).bind (·.dst))<|Ã<|Â ⟨a,0,Á⟩)<|Ð Q jJ::L) qX)): iB vQ l (G (è À 15 #[Å É c] Ą)<|f.at y (Ð Q (i::jJ)::L)::qX):=by
 have hF:True:=trivial;rw[vW [_] 36 ν];simp only[ą,Ē,ě];conv in jZ _ _=>whnf
 apply lM;apply fN (n:=20) j.r.r;repeat w_go fv
 refine ï λ_ _=> ?_;refine zV (f:=30) (args:=#[Å É c,Å É 8]) U fO (by k_ne) j.r.r (λw=>by go_simp) (λw=>ô U ŧ U U #[]) λw₁ r=> ?_;have T:=j.C r;refine fu.fh.lV ?_ (JX T (Ì p.fx r.r) fO (λv h=>by simp at h;rcases h with rfl|rfl<;>exact .iD _ _) (λh=>by cases h;rfl) (asa c tS zO) Î _ _);rintro s g1 ⟨u,hd,rfl⟩;obtain⟨z,hz,I9,Sk⟩:∃z,JV c=z/\0<=z/\z<8:=⟨_,U,by unfold JV;split<;>omega,by unfold JV;split<;>omega⟩;rw[hz];have M:gA s:=jL.CY T u hd;have x:∀b,l.O b->s.O b/\s.w.heap[b]?=l.w.heap[b]?:=λb q=>⟨u.O b q,(u.r.I b<|È q).trans<|r.I b<|È q⟩;have B:l.w.heap.size<=s.w.heap.size:=Ì r.r u.r.r;rw[Ĝ];walk_nrm;refine fN (n:=20) M.r.r ?_;repeat w_go fv
 refine ï λ_ _=> ?_;have oF:É.wrap (1+z)=1+z:=Ļ _ ⟨Z,Z⟩;refine zV (f:=35) (args:=#[Å É<|1+z]) U fO (by k_ne) M.r.r (λw=>by go_simp) (λw=>ô U θ U U #[]) λqC h=> ?_;have N:=M.C h;obtain⟨n,hn⟩:∃n:Nat,1+z=n:=⟨(1+z).toNat,Z⟩;rw[hn];refine fu.fh.lV ?_<|arA N.r N.q (Ì (Ì p.fx B) h.r) (n:=(n:Int)) Z Z Î _ _;rintro d g3 ⟨C,rJ,a,K,rfl,mr,N5,hab,V,qR,hnV,W⟩;have g:gA d:=jL.CY N C rJ;have k:∀b,l.O b->d.O b/\d.w.heap[b]?=l.w.heap[b]?:=λb q=>⟨C.O b (x b q).1,(C.r.I b<|È (x b q).1).trans<|(h.I b<|È (x b q).1).trans (x b q).2⟩;have X:l.w.heap.size<=d.w.heap.size:=Ì B<|Ì h.r C.r.r;have ash:l.w.heap.size<=a:=Ì B<|Ì h.r hab;have asi:∀b,b=1\/b=2\/b=3\/b=4->b<l.w.heap.size:=λb q=>j.r.fx b<|È<|I b q;have hin:nZ d a n [gO.mE] K V:=⟨p.r (Ì p.fx X) λb q=>(k b<|I b q).2,λb q=>(k b<|I b q).1,mr,N5,qR,λb q=>(W b q).1,hnV,Z,Z,λq=>by have:=asi a q;omega⟩;have hVn:∀b,V b->l.w.heap.size<=b:=λb q=>Ì B<|Ì h.r (W b q).2;rw[Ĝ];walk_nrm;apply fN (n:=60) g.r.r;repeat w_go fv
 refine ï λ_ _=> ?_;apply pd (v:=õ Ë) U fO (by k_ne) g.r.r g.q (λw _=>by go_simp) (λw _ e m=>by simp[go_sem,abS]at m);walk_nrm;apply fN (n:=60) g.r.r;repeat w_go fv
 refine ï λ_ _=> ?_;refine .fA λY m=>⟨g.C m,U,?_⟩;have ui:=g.C m;have asj:=hin.N m;have P:∀b,l.O b->({d with w:=Y}:fc).O b/\Y.heap[b]?=l.w.heap[b]?:=λb q=>⟨(k b q).1,(m.I b<|È (k b q).1).trans (k b q).2⟩;refine Gp (f:=17) (args:=#[Ã<|Â ⟨a,0,Á⟩,Ä ⟨#[98,48,58,97,59,98,48,58,104,59,117,48,59,98,49,58,97]⟩]) ui U fO (by k_ne) (λw=>by go_simp) (λw=>ô U Ł U U #[]) λasl D=> ?_;change iB vQ _ (G (è À 17 #[Ã<|Â ⟨a,0,Á⟩,Ä Uw] Ą) _);refine abN (ui.C D) (asj.N D) A (λ_=>abR abF) λl6 E abT=> ?_;rw[asc]at abT|-;rw[asb];let⟨Ll,sl6,V6,abU,hV6⟩:=abT;have lB:∀b,l.O b->b≠a:=λb q e=>by have:=j.r.fx b<|È q;omega
 have F:∀b,l.O b->l6.O b/\l6.w.heap[b]?=l.w.heap[b]?:=λb q=>by let⟨o,H⟩:=Ll b (P b q).1<|lB b q;exact⟨o,H.trans<|(D.I b<|È (P b q).1).trans (P b q).2⟩
 have hV7:∀b,V6 b->(b=1\/b=2\/b=3\/b=4)\/l.w.heap.size<=b:=λb q=>by
  rcases hV6 b q with z|z|z
  .exact Ï<|hVn b z
  .exact È z
  .exact Ï<|Ì X<|Ì (Ì m.r D.r) z
 walk_nrm;apply lM;apply fN (n:=60) E.r.r;repeat w_go fv
 refine ï λ_ _=> ?_;refine zV (f:=22) (args:=#[Ã<|Â ⟨a,0,Á⟩]) U fO (by k_ne) E.r.r (λw=>by go_simp) (λw=>ô U Ũ U U #[]) λsU o=> ?_;apply asf (E.C o) (abU.N o);have S:=E.C o;have asn:=abU.N o;walk_nrm;apply fN (n:=60) S.r.r;repeat w_go fv
 u_in fv hF
 refine Ŧ (t:=2) U U ν U ⟨by u_nil,?_⟩;refine ï λ_ _=> ?_;exact .fA λauC H=>⟨S.C H,U,hJ _ a n sl6 V6 (S.C H) ⟨asn.N H,λb q=>⟨(F b q).1,(H.I b<|È (F b q).1).trans<|(o.I b<|È (F b q).1).trans (F b q).2⟩,ash,hV7⟩⟩
end
def xW(l:fc)(c:Option ù)(N:Nat)(f:Nat->ByteArray):Prop:=∀j,j<N->(f j).size<=đ/\∃a b,c=Â ⟨a,b,Á⟩/\l.O a/\l.w.cell? ⟨a,b+j,Á⟩=Â (Ä<|f j)
def xW.r{l a:fc}{d:Option ù}{N:Nat}{f:Nat->ByteArray}(h:xW l d N f)(k:∀b,l.O b->a.O b/\a.w.heap[b]?=l.w.heap[b]?):xW a d N f:=λj g=>by let⟨i,c,m,n,e,o⟩:=h j g;exact⟨i,c,m,n,(k c e).1,zR (k c e).2 o⟩
def abV{t:Tmp}(d:f.kind=Ą)(e:y.defers=[])(g:P.funcs[f.fn]?=Â s)(c:s.results=#[.tmp t])(h:P.inits.idxOf? f.fn=Á):stepG P Î (G {f.at y L with mode:=.returning} []) w=.ended (.done<|y.tmps.getD t ĸ) w:=by have i:=results_tmp c y.tmps P w;have j:=events_results_tmp (P:=P) (w:=w) c y.tmps;simp[G,stepG,unwind,doReturn,Frame.at,d,e,g,i,j,h,seen,GStep.after]
def aso{l:fc}(e:iB vQ l g)(a:gA l)(c:g.status=.running):sr vQ #[g] l.w Á #[]:=e a c (λ_=>False) 0 _ _ _ _ Á _ ⟨λx q=>q.elim,λ_ _ _ _ q=>q,Ö _⟩ (arC (P:=À) (J:=λ_ _=>True) (T:=.fA) U a.d a.q a.N a.I a.M a.k (λb q=>a.r.fx b<|È q) c λ_ _=>trivial) a.d U
def JY(W:Í):fc:={O:=λb=>b<W.heap.size,I:=λ_=>False,r:=λ_=>False,N:=λ_=>False,K:=λ_=>False,d:=0,q:=False,w:=W}
def abW(W:Í):gA (JY W):= ⟨⟨λ_ _=>id,λ_ q=>q.elim,λ_ q=>q.elim (λz=>z.elim) λz=>z.elim,λ_ q=>q.elim id λz=>z.elim,λ_ q=>q.elim (λz=>z.elim) λz=>z.elim,λ_ q=>q.elim⟩,U,id,λ_=>id,λ_=>id,λ_=>id,λ_=>id⟩
structure nI(W w':Í):Prop where
 ru:∀b,b<W.heap.size->w'.heap[b]?=W.heap[b]?
 Ep:W.heap.size<=w'.heap.size
def asq(g:nA W):∀b,b=1\/b=2\/b=3\/b=4->b<W.heap.size:=λb q=>by let⟨c,a,h,_⟩:=g.C;have:=(Ý.1 h).1;omega
def abX:À.cellsOf 9=1:=ft
theorem Ux(b a n:Nat):(⟨b,a,Á⟩:ù).add n=⟨b,a+n,Á⟩:=by unfold Addr.add;grind
theorem asr(h:w.cell? a=Â v):a.spot=Á/\a.block<w.heap.size:=by
 unfold à at h;split at h
 .rename_i c t f e;constructor
  .simp_all
  .grind
 .cases h
open Go.ChangeShapes Go.WideShapes Go.ChangeAt Go.Deep in
theorem asu{H:Type}{enc:TypeId×Value->H}{x:DataW H×List MemPlace} (h:DataW.trod enc À W 0 (λ_=>Î) Î k 25 [Æ O J j9]=Â x):J<=đ/\∃f,xW (JY W) O J f:=by
 rcases open_slice Č h with⟨d,_⟩|⟨a,r,t,m,n,D,B,d,_,C,E,u,_,v⟩
 .have e:Æ O J j9=Æ Á 0 0:=by simpa using d
  cases e;exact⟨Ö _,λ_=>⟨#[]⟩,λj l=>by omega⟩
 have e:Æ O J j9=Æ (Â a) r t:=by simpa using d
 cases e;have F:m=j9:=by rw[u];rfl
 have w:∀i,∃s:ByteArray,i<J->W.cell? (a.add i)=Â (Ä s)/\s.size<=đ:=by
  intro i;by_cases b:i<J
  .let⟨y,c,g⟩:=v i Z;rw[abX]at c;let⟨_,z,q⟩:=World.cells?_some c;let⟨s,p,_,G⟩:=DataW.trod_string Tryz.underlying9 g;subst p;have o:=q 0 fj;have I:(a.add i).add 0=a.add i:=rfl;grind
  .exact⟨⟨#[]⟩,λq=>absurd q b⟩
 let⟨f,q⟩:=Classical.axiomOfChoice w;refine⟨Z,f,λj l=> ?_⟩;let⟨c,g⟩:=q j l;let⟨o,_⟩:=q 0 Z;let⟨G,y⟩:=asr o;let⟨b,p,sp⟩:=a;have z:sp=Á:=by have:((⟨b,p,sp⟩:ù).add 0).spot=sp:=rfl;grind
 subst z;rw[Ux]at c;exact⟨g,b,p,U,y,c⟩
end Go.Proofs.Y.kT
