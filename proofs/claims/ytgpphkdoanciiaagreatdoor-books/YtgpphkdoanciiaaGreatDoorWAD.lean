import Derived.Test.YtgpphkdoanciiaaGreatDoorWAC
import Derived.Test.YtgpphkdoanciiaaGreatDoorChecked
import Derived.WalkKit
import Derived.WalkSpells
import Derived.WalkLawsBesides
import Derived.Deep.Light
import Derived.Maps.AppendAt
import Derived.RegionTactic
import Derived.Deep.RegionWith
import Derived.Deep.QuietTactic
import Derived.BigQuiet
import Derived.Deep.RegionHeld3
import Derived.WalkMore
import Derived.Deep.MidRow
import Derived.Great.Walk
import Derived.Lib.UnsafeStr
import Derived.Lib.BufferWrite
import Derived.Laws.Tables
import Derived.Laws.Bits64
import Derived.Shelf.Strconv.Itoa0
import Derived.Shelf.Strconv.Itoa1
import Derived.Shelf.LaysM
import Derived.Shelf.Strconv.Itoa2
import Derived.Shelf.Strconv.Itoa3
import Derived.Shelf.Strings.Repeat
import Derived.Shelf.Strings.OnBuilder
import Derived.Shelf.Strconv.Clone
import Derived.Shelf.Strings.Prefix
import Derived.Shelf.Bits.Mul64
import Derived.Test.YtgpphkdoanciiaaGreatDoorProg
import Derived.Lib.ItoaLen
import Derived.Deep.DeepCutAuto
set_option linter.all false
set_option maxRecDepth 1000000
set_option maxHeartbeats 8000000
open Go.Proofs.Tryz renaming prog->À,underlying107->ã,underlying9->ó,underlying3->Ă,underlying4->ă,zeroValue3->Đ,zeroValue4->đ,zeroValue9->Ē,underlying106->ę,underlying36->ğ,underlying25->ġ,zeroValue36->Ħ,ntmps66->Ĭ,sizeOf3->ĭ,sizeOf4->Į,sizeOf9->į,func66->Ł,isAgg3->ł,isAgg4->Ń,isAgg9->ń,ntmps113->ō,sizeOf36->Ŏ,underlying177->œ,underlying168->ŗ,underlying170->Ř,func187->Ţ,func113->ţ,zeroValue168->ť,isAgg36->Ŧ,underlying95->ŧ,underlying0->ŭ,underlying5->Ů,zeroValue95->ů,zeroValue0->Ŷ,zeroValue5->ŷ,sizeOf168->ž,ntmps168->Γ,ntmps196->Ε,ntmps169->Ζ,ntmps154->Η,ntmps187->Θ,isAgg168->Ι,sizeOf95->Κ,ntmps172->Λ,func168->Χ,func196->Ω,func169->ε,func154->η,ntmps35->θ,sizeOf0->ι,sizeOf5->κ,isAgg95->ξ,func172->ο,ntmps78->π,func35->υ,isAgg0->χ,isAgg5->ψ,func78->ω
open And renaming intro->Á
open Option renaming some->Â,none->Ã,map_eq_some_iff->É,map_some->Ý,isSome_none->Ő,map->Ŗ
open Go.Value renaming int->Ä,slice->Å,pointer->Ç,string->Í,bool->Ú,agg->õ,tuple->č,ownBlock->ĕ,cells->Ĝ
open Go.Ending renaming returned->Æ
open Go renaming Value->È,World->Ë,Calls->Ñ,heap_alloc_new->Ü,TypeId->é,info_parts->ì,setRow_other->ú,cell_one_new->ÿ,maxLen->ā,setRow_heap->ą,execOp->ċ,Addr->Ě,Oper->Ķ,Operand->ķ,grownCap->Ĺ,growslice_fits->ļ,run_underlying->Ŀ,all_oneCell_toArray->ņ,run_callFunc_extern->Ŋ,wpList_plain->ś,bodyPost_ret->š,wpList_store_mid->ū,grownCap_ge->Ű,run_append_grow->ų,run_loadVar_mid->Ŵ,wpList_load_mid->ŵ,ready_mono->ź,wpList->Ž,resolve->Ρ,builtin->Τ,results->Υ,Ending->ζ,Program->ρ,invoke->ai,Act->ar,undef->aE
open Go.IntKind renaming i64->Ê,u64->Ì,wrap_i64->Ą,u8->au,wrap_u64->az
open Go.Obj renaming cells->Î
open List renaming getElem?_eq_getElem->Ï,getElem?_eq_some_iff->Ò,length_append->Ó,getElem?_append_left->Õ,eq_nil_of_length_eq_zero->Ø,getElem?_range->â,ext_getElem?->æ,range->ë,setIfInBounds_toArray->í,getElem?_append_right->î,drop_eq_getElem_cons->ô,mem_append->ö,size_toArray->ù,take_of_length_le->û,drop_eq_nil_of_le->ü,getElem?_map->ý,append_assoc->þ,set_append_left->Ć,mem_of_getElem?->ć,length_set->Č,append_nil->ď,getD_eq_getElem?_getD->Ę,map_toArray->ĥ,mem_map->ī,range_succ->ĳ,length_map->Ĵ,mem_append_left->ĺ,mem_cons_of_mem->ŀ,flatMap_append->ŉ,map_cons->ŋ,set_cons_zero->Ŕ,set_cons_succ->ŕ,map_nil->ş,take_add_one->Ũ,mem_flatMap->ũ,map_append->Ÿ
open Array renaming getElem?_modify->Ð,size_replicate->ð,getD_eq_getD_getElem?->ē,replicate->Ĳ,toList_append->Ņ,length_toList->Ň,size_append->Ś
open Bool renaming true->Ô,false->Û,false_eq_true->ő,not_false->Α,not_true->Μ
open Option.some renaming injEq->Ö
open Go.World renaming block_lt_of_cell?->Ù,freeze->ò,alloc->ĝ,ownsRow_nil->Ğ,setCell->Ģ,drew->Ī,shape?->Š,cell?->ς
open Nat renaming zero_le->Þ,le_refl->å,le_trans->ç,zero_add->Ĩ,add_mul->ĸ,mul_le_mul_right->Ļ,lt_of_lt_of_le->ŏ,lt_or_ge->ř,le_add_right->Ŭ,mod_lt->ah
open Or renaming inl->ß,inr->ä
open Go.Lib renaming byteCells->à,nDigits->ï,zeros24->Ĉ,decDigits_length->ĉ,run_unsafeString_row->ģ,decDigits->Ĥ,byteCells_length->Ľ,TabIs->Ο,pow10Tab->ν
open Go.Builtin renaming zeroCells->á,append_->ı,unsafeString_->ĵ,copy_->Δ,unsafeSliceData_->Ν,lenOf->aJ
open Go.Region renaming ready->è,binds->ĩ,wanted->Ō,Mode->ű
open Go.RowKit renaming intOf->ê
open Go.RowKit.Below renaming heap_alloc->ñ,heap_setCell->ø
open Go.Great renaming wpList_runTo->Ā
open Go.Obj.cells renaming injEq->Ċ
open Go.Oper renaming upon_value->Ď,wp->Ŝ
open Go.Shelf renaming Ren->Ĕ
open Go.Result renaming andThen->Ė,andThen_ok->ě,ok->Ξ
open Go.Instr renaming fill->ė,index->Ų
open ByteArray renaming extract->Ġ,size_extract->İ,ext->aG
open Go.Sort renaming mapBlock->ħ,putRow->ſ
open Go.TypeDesc renaming isRow->ľ,slice->aD
open Int renaming toNat_of_nonneg->ň,le_refl->σ
open False renaming elim->Œ
open Go.Sem renaming run_bind->ŝ,run_pure->Ş
open Go.Proofs.Lays renaming n283->ae,n285->af,n212->ag,n99->ak
variable{i n j b k m J j9 j7 j6:Nat}{w u W jX:Ë}{v x z jQ:È}{a p:Ě}{h c:Int}{e t T:é}{d q:Array È}{P:ρ}{y:ar}{B:ByteArray}{X:Nat->Prop}{O:Option Ě}{l:List È}{yQ:Bool}{o:Ķ}{D:Nat->Nat}{jJ:List Nat}{qQ:ķ}{zQ:List Int}{zJ:Go.TypeInfo}{xX:ķ->È}{xJ:Nat×Nat}{vX:List ByteArray}{vJ:Go.Exit->ar->Ë->Prop}{s:Go.Func}
namespace Go.Proofs.Y.gu
open Go Go.Proofs Go.RowKit Go.Proofs.Y.Lift
def eZ{p:Prop}(h:p):Hid p:=h
def Tq{b:Bool}(h:yQ=b):Æ (Ú yQ)=Æ (Ú b):=by rw[h]
def IH{k:IntKind}{b:Int}(h:c=b):Æ (Ä k c)=Æ (Ä k b):=by rw[h]
def N'{b:ByteArray}(h:B=b):Æ (Í B)=Æ (Í b):=by rw[h]
def j4:È->Bool
 |Ä au _=>Û
 |Ä _ _=>Ô
 |Ú _=>Ô
 |_=>Û
def lz(T:é):Bool:=T==257||T==246
def sR(m:Nat)(w:Ë):Prop:=∀(b:Nat) (c:Array È) (T:é) (v:Nat×Nat),m<=b->w.heap[b]?=Â (Î c T v)->lz T=Ô->0<c.size/\∀v∈c.toList,j4 v=Ô
def NF(b:Nat)(w:Ë):Prop:=∀(c:Array È) (T:é) (a:Nat×Nat),w.heap[b]?=Â (Î c T a)->lz T=Û
structure fc(X:Nat->Prop)(w w':Ë):Prop where
 M:w.heap.size<=w'.heap.size
 N:∀k,k<w.heap.size->¬X k->w'.heap[k]?=w.heap[k]?
 gU:kl w->kl w'
 S:∀m,sR m w->sR m w'
section
variable{Y:Nat->Prop}{w' d:Ë}
theorem fc.fV(X:Nat->Prop)(w:Ë):fc X w w:=⟨å _,λ_ _ _=>rfl,id,λ_=>id⟩
def fc.fj(h:fc X W jX)(k:fc X jX d):fc X W d:= ⟨ç h.M k.M,λi b c=>(k.N i (ŏ b h.M) c).trans<|h.N i b c,λa=>k.gU<|h.gU a,λm a=>k.S m<|h.S m a⟩
def fc.ff(h:fc X w w')(b:∀k,k<w.heap.size->X k->Y k):fc Y w w':= ⟨h.M,λk a c=>h.N k a λx=>c<|b k a x,h.gU,h.S⟩
def fc.C(h:fc X W jX)(k:fc Y jX d)(hy:∀i,i<W.heap.size->Y i->X i):fc X W d:= ⟨ç h.M k.M,λi b c=>(k.N i (ŏ b h.M) λy=>c<|hy i b y).trans<|h.N i b c,λa=>k.gU<|h.gU a,λm a=>k.S m<|h.S m a⟩
def alL(a:kl w)(p:Ě)(v:È):kl (w.setCell p v):=by
 intro i o h;by_cases e:i=p.block
 .subst e;unfold Ģ at h;simp only[Ð,if_true]at h;cases b:w.heap[p.block]? with
  |none=>rw[b]at h;cases h
  |some d=>
   have:=a _ _ b;rw[b]at h;cases d with
   |cells c t z=>simp only[Ý,Ö]at h;subst h;exact λx=>x
   |_=>exact absurd trivial this
 .rw[ø _ _ _ _ (by simpa using e)]at h;exact a i o h
theorem IJ(a:kl w)(b:Array È)(t:é)(z:Nat×Nat):kl (w.alloc<|Î b t z):=by
 intro i o h;by_cases e:i<w.heap.size
 .rw[ñ _ _ _ e]at h;exact a i o h
 .by_cases c:i=w.heap.size
  .subst c;rw[Ü]at h;cases h;exact λx=>x
  .have:(w.alloc<|Î b t z).heap.size<=i:=by simp;omega
   grind
def alM(a:sR m w)(p:Ě)(v:È)(f:j4 v=Ô\/NF p.block w):sR m (w.setCell p v):=by
 intro i c T k g h b;by_cases e:i=p.block
 .subst e;unfold Ģ at h;simp only[Ð,if_true]at h;cases d:w.heap[p.block]? with
  |none=>rw[d]at h;cases h
  |some l=>
   rw[d]at h;cases l with
   |cells o t z=>
    simp only[Ý,Ö,Ċ]at h;obtain⟨n,rfl,rfl⟩:=h;rcases f with f|f
    .subst n;split
     .exact a _ _ _ _ g d b
     .refine⟨by rw[Array.size_setIfInBounds];exact(a _ _ _ _ g d b).1,λu j=> ?_⟩;rw[Array.toList_setIfInBounds]at j;rcases List.mem_or_eq_of_mem_set j with q|q
      .exact(a _ _ _ _ g d b).2 u q
      .rwa[q]
    .rw[f _ _ _ d]at b;cases b
   |_=>cases h
 .rw[ø _ _ _ _ (by simpa using e)]at h;exact a i c T k g h b
theorem IK(a:sR m w)(b:Array È)(t:é)(z:Nat×Nat)(j:lz t=Û\/0<b.size/\∀v∈b.toList,j4 v=Ô):sR m (w.alloc<|Î b t z):=by
 intro i c T d f h g;by_cases e:i<w.heap.size
 .rw[ñ _ _ _ e]at h;exact a i c T d f h g
 .by_cases k:i=w.heap.size
  .grind [Ü]
  .have:(w.alloc<|Î b t z).heap.size<=i:=by simp;omega
   grind
def fc.I{p:Addr}(hx:X p.block)(v:Value)(hv:j4 v=true\/NF p.block w:=by first|exact Or.inl (by rfl)|exact Or.inr<|by assumption):fc X w (w.setCell p v):= ⟨fp,λk _ hk=>ø _ _ _ _ (by intro e;subst e;exact hk hx),λa=>alL a p v,λ_ a=>alM a p v hv⟩
def fc.iw(X:Nat->Prop)(w:World)(cs:Array Value)(t:TypeId)(hf:lz t=false\/0<cs.size/\∀v∈cs.toList,j4 v=true:=by first|exact Or.inl (by decide)|exact Or.inr ⟨by simp,by simp[j4]⟩):fc X w (w.alloc<|.cells cs t):= ⟨fp,λk hk _=>ñ _ _ _ hk,λa=>IJ a cs t (0,0),λ_ a=>IK a cs t (0,0) hf⟩
def fc.jh(X:Nat->Prop)(w:Ë)(n:Nat):fc X w (w.drewN n):=⟨å _,λ_ _ _=>rfl,id,λ_=>id⟩
def fc.gG(X:Nat->Prop)(w:Ë):fc X w w.drew:=⟨å _,λ_ _ _=>rfl,id,λ_=>id⟩
def kp{X:Nat->Prop}{w w':World}(h:fc X w w':=by repeat' (first|(with_reducible exact fc.fV _ _)|(with_reducible refine fc.fj ?_<|fc.jh _ _ _)|(with_reducible refine fc.fj ?_<|fc.gG _ _)|(with_reducible refine fc.fj ?_<|fc.iw _ _ _ _))):fc X w w':=h
def fc.r(h:fc X w w')(b:w.cell? a=Â v)(c:¬X a.block):w'.cell? a=Â v:=by rwa[World.cell?_of_block<|h.N _ (Ù w a b) c]
end
def alN(h:j≠b):(w.setCell ⟨j,i,Ã⟩ v).cell? ⟨b,n,Ã⟩=w.cell? ⟨b,n,Ã⟩:= World.cell?_setCell_other _ _ _ _<|by intro e;injection e with e1 e2;exact h e1
def fq(j:Nat)(vs:List È)(T:é)(w:Ë):Prop:=w.heap[j]?=Â (Î vs.toArray T (0,0))
section
variable{vs:List È}{w':Ë}
def fq.N(w:Ë)(vs:List È)(T:é):fq w.heap.size vs T (w.alloc<|Î vs.toArray T):=Ü w _
def fq.M(h:fq j vs T w):j<w.heap.size:=by
 rcases ř j w.heap.size with a|a
 .exact a
 .unfold fq at h;rw[Array.getElem?_eq_none a]at h;cases h
def fq.r(h:fq j vs T w)(i:Nat)(v:È)(a:vs[i]?=Â v):w.cell? ⟨j,i,Ã⟩=Â v:=by unfold fq at h;simp only[ς,h,Ő,ő,if_false,List.getElem?_toArray];exact a
def fq.I(h:fq j vs T w)(i:Nat):w.frozen? ⟨j,i,Ã⟩=Û:=by unfold fq at h;simp[World.frozen?,h]
def fq.zN(h:fq j vs T w)(e:w'.heap[j]?=w.heap[j]?):fq j vs T w':=by unfold fq;rwa[e]
def fq.C(h:fq j vs T w)(k:fc X w w')(a:¬X j):fq j vs T w':=h.zN<|k.N j h.M a
theorem fq.fO(h:fq j vs T w)(i:Nat)(u:È):fq j (vs.set i u) T (w.setCell ⟨j,i,Ã⟩ u):=by unfold fq at h|-;unfold Ģ;grind
def fq.S(h:fq j vs T w)(hT:lz T=false:=by decide):NF j w:=λc T' fr q=>by unfold fq at h;rw[h]at q;cases q;exact hT
theorem fq.G(h:fq j vs T w)(k:fq i l e w)(a:T≠e):j≠i:=by rintro rfl;unfold fq at h k;grind
end
section
variable{w':Ë}{base:Nat}{size:Nat}{xs:List È}
def alO(h:w.ownsRow base e size v n xs)(k:∀j,v.ownBlock=Â j->w'.heap[j]?=w.heap[j]?):w'.ownsRow base e size v n xs:=by
 let⟨c,a⟩:=h;refine⟨c,?_⟩;rcases a with a|⟨g,d,f,b,i,l,r⟩
 .exact ß a
 .refine ä ⟨g,d,f,b,i,?_,r⟩;rw[k g (by rw[b];rfl)];exact l
def im(h:w.ownsRow base e size v n xs)(k:fc X w w')(b:∀j,v.ownBlock=Â j->¬X j):w'.ownsRow base e size v n xs:= alO h λj a=>k.N j (h.lt j a).2<|b j a
theorem jv(h:w.ownsRow base e size v n xs):∃a c,v=Å a n c:=by rcases h.2 with⟨b,d⟩|⟨g,f,i,b,_⟩;all_goals grind
theorem nV(h:w.ownsRow base e size v n xs)(a:v.ownBlock=Â j):∃b,w.heap[j]?=Â (Î b e (0,0)):=by
 rcases h.2 with⟨c,_⟩|⟨g,f,b,c,_,d,_⟩
 .rw[c]at a;cases a
 .rw[c]at a;cases a;exact⟨b,d⟩
theorem iL(h:w.ownsRow base e size v n xs)(k:fq j l T w)(a:e≠T):v.ownBlock≠Â j:=by intro q;let⟨b,c⟩:=nV h q;unfold fq at k;grind
theorem IL(h:w.ownsRow base e size v n xs)(k:w.ownsRow i t b x m l)(a:e≠t)(c:v.ownBlock=Â j):x.ownBlock≠Â j:=by grind [nV]
theorem Tr{n:Nat}(h:v∈(á d n).toList):v∈d.toList:=by unfold á at h;grind [Array.toList_map,getElem,ah]
structure nW(w:Ë)(base:Nat)(e:é)(size:Nat)(v:È)(n:Nat)(xs:List È)(m:Nat)(news:List È)(v':È)(w':Ë):Prop where
 fg:w'.ownsRow base e size v' (n+m) (xs++news)
 r:fc (λk=>v.ownBlock=Â k) w w'
 C:v'.ownBlock=v.ownBlock\/v'.ownBlock=Â w.heap.size
 I:∀v0 n0 Fu,w.ownsRow base e size v0 n0 Fu->(v0.ownBlock=v.ownBlock->n0<=n)->w'.ownsRow base e size v0 n0 Fu
def nW.alP(c:w.ownsRow base e size v n xs)(f:l.length=m*size)(g:base<=w.heap.size)(j:n+m<=i)(o:i<=ā)(p:d.size=i*size)(q:d.toList.take ((n+m)*size)=xs++l)(r:lz e=Û\/0<d.size/\∀v∈d.toList,j4 v=Ô): nW w base e size v n xs m l (Å (Â ⟨w.heap.size,0,Ã⟩) (n+m) i) (w.drew.alloc<|Î d e):=by have b:∀X,fc X w (w.drew.alloc<|Î d e):=λX=>⟨fp,λk s _=>ñ _ _ _ s,λa=>IJ a d e (0,0),λ_ a=>IK a d e (0,0) r⟩;refine⟨⟨by rw[Ó,c.1,f,ĸ],ä ⟨w.heap.size,i,d,U,g,Ü w.drew _,j,o,p,q⟩⟩,b _,ä U,λt u x h _=>im h (b λ_=>False) λ_ _=>id⟩
theorem Ts{ty:é}{bytes:Nat}(F:P.underlying t=Â (aD e))(G:P.info? e=Â zJ)(Q:zJ.zero=Â z) (zd:zJ.size=size) (oX:zJ.bytes=bytes) (oD:z.cells.size=size) (p:w.ownsRow base e size v n xs) (a:Ě) (c:Nat) (b:List È) (hm:0<m) (r:b.length=m*size) (H:∀j u,b[j]?=Â u->w.cell? (a.add j)=Â u) (h1:∀u∈b,u.oneCell'=Ô) (S:n+m<=ā) (V:(n+m)*bytes<=140737488355328) (Da:base<=w.heap.size) (W:lz e=Û\/(0<b.length/\(∀u∈xs++b,j4 u=Ô)/\∀u∈z.cells.toList,j4 u=Ô)): ∃x w',(ı #[t,t] ty #[v,Å (Â a) m c]).run P w=Ξ x w'/\nW w base e size v n xs m b x w':=by
 subst zd;subst oX;have alQ:n+m<=9223372036854775807:=by simp only[ā]at S;omega
 have hlen:(xs++b).length=(n+m)*zJ.size:=by rw[Ó,p.1,r,ĸ]
 have aus:=p;have tk:∀d,((xs.toArray++b.toArray++á z.cells (Ĺ w (n+m) d e-(n+m))).toList.take ((n+m)*zJ.size)=xs++b):=λd=>by grind
 have sz:∀d,(xs.toArray++b.toArray++á z.cells (Ĺ w (n+m) d e-(n+m))).size=Ĺ w (n+m) d e*zJ.size:=λd=>by have x:=Ű w (n+m) d e;simp only[Ś,ù,size_zeroCells,oD,p.1,r,<-ĸ];congr 1;omega
 have alR:∀d,lz e=Û\/0<(xs.toArray++b.toArray++á z.cells (Ĺ w (n+m) d e-(n+m))).size/\∀v∈(xs.toArray++b.toArray++á z.cells (Ĺ w (n+m) d e-(n+m))).toList,j4 v=Ô:=λd=>by
  cases s:lz e with
  |false=>exact ß U
  |true=>
   rcases W with q|⟨x,B,I⟩
   .rw[q]at s;cases s
   .refine ä ⟨by simp only[Ś,ù];omega,λv f=> ?_⟩;simp only[Ņ,ö]at f;rcases f with(f|f)|f
    .exact B v<|ĺ _ f
    .exact B v<|List.mem_append_right _ f
    .exact I v<|Tr f
 have gr:=λd=>nW.alP p r Da (Ű w (n+m) d e) (grownCap_le_maxLen w (n+m) d e S) (sz d) (tk d)<|alR d;rcases p.2 with⟨rfl,rfl⟩|⟨g,y,h,rfl,hbg,C,hnc,hcm,X,htake⟩
 .have J:=Ø (by simpa using p.1);subst J;have Y:=run_append_nil w t ty e zJ z F G Q a m c b r H hm Z (by have x:=V;simp only[Ĩ]at x;omega);grind
 .by_cases K:n+m<=y
  .have Tt:n*zJ.size+b.length<=h.size:=by rw[r,X,<-ĸ];exact Ļ _ K
   have Y:=run_append_room w t ty e zJ F G g n y h C a m c b r H h1 K Tt;have E:=ą w g h (h.toList.take (n*zJ.size)++b++h.toList.drop (n*zJ.size+b.length)).toArray e _ C;have L:=λk (M:k≠g)=>ú w g k (h.toList.take (n*zJ.size)++b++h.toList.drop (n*zJ.size+b.length)).toArray M;have N:(h.toList.take (n*zJ.size)++b++h.toList.drop (n*zJ.size+b.length)).toArray.size=h.size:=by grind
   have kp:fc (λk=>ĕ (Å (Â ⟨g,0,Ã⟩) n y)=Â k) w (w.setRow g (h.toList.take (n*zJ.size)++b++h.toList.drop (n*zJ.size+b.length)).toArray):=by
    refine⟨fp,λk _ M=>L k λe=>M (by simp[ĕ,e]),λal q o l=> ?_,λm' hF q c T fr O l s=> ?_⟩;rotate_left
    .by_cases D:q=g
     .subst D;rw[E]at l;cases l;rcases W with qq|⟨_,B,_⟩
      .grind
      .refine⟨by rw[N];exact(hF _ _ _ _ O C s).1,λu x=> ?_⟩;simp only[ö]at x;rcases x with(x|x)|x
       .grind
       .grind
       .exact(hF _ _ _ _ O C s).2 u<|List.mem_of_mem_drop x
     .rw[L q D]at l;exact hF q c T fr O l s
    by_cases D:q=g
    .subst D;rw[E]at l;cases l;exact λx=>x
    .rw[L q D]at l;exact al q o l
   refine⟨_,_,Y,⟨hlen,ä ⟨g,y,_,U,hbg,E,K,hcm,by rw[N,X],?_⟩⟩,kp,ß U,λo q Fu x s=> ?_⟩
   .grind
   .by_cases f:o.ownBlock=Â g
    .let⟨B,I⟩:=x;refine⟨B,?_⟩;rcases I with⟨rfl,_⟩|⟨g0,D,aut,rfl,O,l,T,b4,b5,b6⟩
     .cases f
     .have:g0=g:=by simpa[ĕ]using f
      subst this;rw[C]at l;cases l;refine ä ⟨g0,D,_,U,O,E,T,b4,by rw[N,b5],?_⟩;rw[htake];have auu:q*zJ.size<=n*zJ.size:=Ļ _<|s f;grind
    .exact im x kp λj l J=>f<|by rw[l];simpa[ĕ]using J.symm
  .exact⟨_,_,(ų w t ty e zJ z F G Q ⟨g,0,Ã⟩ n y xs p.1 (p.cells U) a m c b r H Z Z<|ļ Z V),gr y⟩
def xn{P:Program}{ops:Array Oper}{rest:List Oper}{o:Oper}{a:Act}{Q:Exit->Act->World->Prop}(IN:o.guard=none)(s x:Operand)(t:TypeId) (ho:o.op=.call {callee:=.builtin .append,args:=#[s,x],argTypes:=#[t,t]}) {i:TypeInfo} {z:Value} {bytes:Nat} (ht:P.underlying t=some (.slice e)) (hi:P.info? e=some i) (hz:i.zero=some z) (zd:i.size=size) (oX:i.bytes=bytes) (oD:z.cells.size=size) (hs:a.eval s=v) (lS:w.ownsRow base e size v n xs) (ad:Addr) {m c:Nat} (news:List Value) (hx:a.eval x=.slice (some ad) m c) (hm:0<m) (hl:news.length=m*size) (Tv:∀j u,news[j]?=some u->w.cell? (ad.add j)=some u) (h1:∀u∈news,u.oneCell'=true) (Db:n+m<=maxLen) (Dc:(n+m)*bytes<=140737488355328) (Da:base<=w.heap.size) (h:∀v' w',nW w base e size v n xs m news v' w'->wpList P ops Q rest (a.put o.dst v') w') (hfl:lz e=false\/(0<news.length/\(∀u∈xs++news,j4 u=true)/\∀u∈z.cells.toList,j4 u=true):=by first|exact Or.inl (by decide)|exact Or.inr ⟨by simp,by simp[j4],by simp[j4,Value.cells]⟩): wpList P ops Q (o::rest) a w:=by refine ś IN λK hK=> ?_;let⟨v',w',hr,h2⟩:=Ts (ty:=o.type) ht hi hz zd oX oD lS ad c news hm hl Tv h1 Db Dc Da hfl;unfold Ŝ ċ;simp only[ho,Ρ,ai,Τ,ŝ,Ş,ě,ĥ,ŋ,ş,hs,hx,hr];exact hK _ _<|h v' w' h2
end
structure IP where
 ft:Int
 C:ByteArray
 r:Nat->Int
abbrev St:=Nat->IP
def St.fO(s:St)(i:Nat)(a:IP):St:=λj=>if j=i then a else s j
def St.ft(s:St)(i:Nat)(b:Int):St:=s.fO i {s i with ft:=b}
def St.r(s:St)(i:Nat)(p:ByteArray):St:=s.fO i {s i with C:=p}
def St.C(s:St)(i j:Nat)(v:Int):St:=s.fO i {s i with r:=λk=>if k=j then v else(s i).r k}
def rK(n:Int):È:=Ä Ì n
def O_(n:Int):È:=Ä Ê n
def rL(s:St)(i:Nat):È:=if i%18=0 then rK (s<|i/18).ft else if i%18=1 then Í (s<|i/18).C else rK ((s<|i/18).r<|i%18-2)
def sS(s:St)(a:È)(i:Nat):È:=if 144<=i then a else rL s i
theorem uw(s:St)(a:È)(h:i<144):sS s a i=rL s i:=by unfold sS;rw[if_neg Z]
def nu(s:St)(a:È):List È:=(ë 145).map<|sS s a
theorem rM(s:St)(a:È):(nu s a).length=145:=by simp[nu]
theorem MU(s:St)(a:È)(h:i<145):(nu s a)[i]?=Â (sS s a i):=by unfold nu;grind
theorem alS{s:St}(h:l.length=145)(a:∀i,i<145->l[i]?=Â (sS s v i)):l=nu s v:=by apply æ;grind [MU,rM]
section
variable(s:St)(lv:È)
def IQ(h:i<8):sS s lv (i*18)=rK (s i).ft:=by rw[uw _ _ Z,rL,if_pos Z,show i*18/18=i from by omega]
def MV(h:i<8):sS s lv (i*18+1)=Í (s i).C:=by rw[uw _ _ Z,rL,if_neg Z,if_pos Z,show(i*18+1)/18=i from by omega]
def P_(h:i<8)(a:j<16):sS s lv (i*18+2+j)=rK ((s i).r j):=by rw[uw _ _ Z,rL,if_neg Z,if_neg Z,show(i*18+2+j)/18=i from by omega,show(i*18+2+j)%18-2=j from by omega]
theorem Tw:sS s lv 144=lv:=by unfold sS;grind
theorem P'(f:i<144){c:St}(g:sS c lv i=v)(h:∀b,b<144->b≠i->rL c b=rL s b):(nu s lv).set i v=nu c lv:=by
 refine alS (by rw[Č,rM]) λb d=> ?_;by_cases e:b=i
 .grind [rM]
 .rw[List.getElem?_set_ne<|Ne.symm e,MU _ _ d];grind [uw,Tw]
def Q_(h:i<8)(b:Int):(nu s lv).set (i*18) (rK b)=nu (s.ft i b) lv:=by
 refine P' s lv Z ?_ λk a c=> ?_
 .rw[IQ _ _ h];simp[St.ft,St.fO]
 .unfold rL;by_cases e:k/18=i
  .have:k%18≠0:=Z
   simp[St.ft,St.fO,e,this]
  .simp[St.ft,St.fO,e]
def alT(h:i<8)(p:ByteArray):(nu s lv).set (i*18+1) (Í p)=nu (s.r i p) lv:=by
 refine P' s lv Z ?_ λk a b=> ?_
 .rw[MV _ _ h];simp[St.r,St.fO]
 .unfold rL;by_cases e:k/18=i
  .have:k%18≠1:=Z
   simp[St.r,St.fO,e,this]
  .simp[St.r,St.fO,e]
end
def kB(b:Nat)(T:é)(tl:List È)(s:St)(a:È)(w:Ë):Prop:=fq b (nu s a++tl) T w
section
variable{tl:List È}{s:St}{lv:È}{w':Ë}
def kB.mN(h:kB b T tl s lv w)(a:i<145):w.cell? ⟨b,i,Ã⟩=Â (sS s lv i):= fq.r h i _<|by rw[Õ (by rwa[rM]),MU _ _ a]
def kB.rh(h:kB b T tl s lv w)(c:i<145){a:St}(e:(nu s lv).set i v=nu a x):kB b T tl a x (w.setCell ⟨b,i,Ã⟩ v):=by have:=fq.fO h i v;rw[Ć _ _ (show i<(nu s lv).length by rwa[rM]),e]at this;exact this
def kB.ft(h:kB b T tl s lv w)(a:i<8):w.cell? ⟨b,i*18,Ã⟩=Â (Ä Ì (s i).ft):=by rw[h.mN Z,IQ _ _ a];rfl
def kB.IT(h:kB b T tl s lv w)(a:i<8):w.cell? ⟨b,i*18+1,Ã⟩=Â (Í (s i).C):=by rw[h.mN Z,MV _ _ a]
def kB.Ty(h:kB b T tl s lv w):w.cell? ⟨b,144,Ã⟩=Â lv:=by rw[h.mN Z,Tw]
def kB.IU(h:kB b T tl s lv w)(a:i<8)(x:Int):kB b T tl (s.ft i x) lv (w.setCell ⟨b,i*18,Ã⟩<|Ä Ì x):=h.rh Z<|Q_ s lv a x
def kB.alU(h:kB b T tl s lv w)(a:i<8)(x:ByteArray):kB b T tl (s.r i x) lv (w.setCell ⟨b,i*18+1,Ã⟩<|Í x):=h.rh Z<|alT s lv a x
end
def AS(b:Bool):Int:=if b then 1 else 0
def alV(b:Bool)(w:Ë):Ñ À 159 #[Ú b] w λe a=>e=Æ (Ä Ì<|AS b)/\a=w:=by
 go_enter Tryz.func159,Tryz.ntmps159;go_wp2;all_goals go_ret
 all_goals refine⟨IH ?_,U⟩
 all_goals simp[AS, *]
def wu(n:Int):Int:=Ì.wrap n
theorem AT{n:Int}(a:0<=n)(b:n<18446744073709551616):wu n=n:=by show n%18446744073709551616=n;omega
def Q'(n:Int):wu n=n%18446744073709551616:=rfl
def alW(n:Int):0<=wu n:=by rw[Q'];omega
def alX(n:Int):wu n<18446744073709551616:=by rw[Q'];omega
def alY(k p q:Int):Int:=
 if k=2 then wu (p+q)else if k=3 then wu (p-q)else if k=4 then wu (p*q)
 else if k=5 then(if q=0 then 0 else p/q)else if k=6 then AS (decide<|p<q)else AS (decide<|p=q)
structure RC where
 x:Nat
 y:Nat
 k:Int
 d:Int
 g:Int
def Tz:(À.info? 36).map (λi=>(i.zero,i.size,i.bytes))=Â (Â<|Ä Ì 0,1,8):=fx
def oH(l:List (Nat×Int)):List È:=l.flatMap λp=>[O_ p.1,rK p.2]
structure pH where
 r:Nat
 T:é
 C:List È
structure pH.Ok(E:pH):Prop where
 M:E.T≠36
 r:E.T≠257
 I:E.T≠282
 N:E.T≠300
 auv:E.T≠252
 alZ:E.T≠246
def pH.Ok.C{E:pH}(h:E.Ok):lz E.T=Û:=by unfold lz;rw[beq_eq_false_iff_ne.2 h.r,beq_eq_false_iff_ne.2 h.alZ];rfl
def vK:List (Int×Int×Int):=[(0,0,0),(1,0,1),(1,2,1),(1,2,1),(2,2,1),(2,2,1),(1,2,1),(1,2,1),(1,1,2),(1,2,2),(1,1,0),(1,0,1),(1,0,1),(1,0,1),(1,0,1),(3,1,1),(6,2,0),(2,2,0),(8,2,1),(4,1,0),(8,3,2),(1,1,0),(1,0,0)]
structure sT(w:Ë):Prop where
 M:∃cs fz,w.heap[2]?=Â (Î cs 300 fz)
 I:∀(k:Nat) (r:Int×Int×Int),vK[k]?=Â r->w.cell? ⟨2,k*3,Ã⟩=Â (Ä Ì r.1)/\w.cell? ⟨2,k*3+1,Ã⟩=Â (Ä Ê r.2.1)/\w.cell? ⟨2,k*3+2,Ã⟩=Â (Ä Ê r.2.2)
theorem sT.r(h:sT w)(k:fc X w u)(a:¬X 2):sT u:=by
 let⟨b,c,d⟩:=h.M;have e:2<w.heap.size:=by grind
 refine⟨⟨b,c,by rwa[k.N 2 e a]⟩,λi r f=> ?_⟩;let⟨g,j,l⟩:=h.I i r f;exact⟨k.r g a,k.r j a,k.r l a⟩
def al0(g:Int)(n:Nat)(b a c:Int):Bool:= !(decide (g<b)||(decide ((n:Int)-a<0)||decide (32<(n:Int)-a+c)))
def R_(s:St)(y:Nat)(q p:Int):Int×St:=
 if(s y).ft<p then(0,s)else(1,(s.ft y<|(s y).ft-p).ft (q%8).toNat<|wu<|(s.ft y ((s y).ft-p) (q%8).toNat).ft+p)
structure jV(E:pH)(lv:È)(n:Nat)(w:Ë)(s:St)(ls:List (Nat×Int))(w':Ë)(yY:È):Prop where
 r:kB E.r E.T E.C s yY w'
 I:w'.ownsRow 0 257 2 yY ls.length (oH ls)
 C:fc (λk=>k=E.r\/lv.ownBlock=Â k) w w'
 l:∀j,yY.ownBlock=Â j->lv.ownBlock=Â j\/w.heap.size<=j
 M:∀v0 n0 Fu,w.ownsRow 0 257 2 v0 n0 Fu->(v0.ownBlock=lv.ownBlock->n0<=n)->w'.ownsRow 0 257 2 v0 n0 Fu/\(v0.ownBlock=yY.ownBlock->n0<=ls.length)
structure TA where
 r:Int
 C:Bool
 M:Int
 s:St
 I:List (Nat×Int)
abbrev xo:=St->List (Nat×Int)->Nat->Nat->Int->Int->TA
def oz(n:Int):Prop:=0<=n/\n<18446744073709551616
def mD(c:Int):Nat:=
 if 48<=c/\c<=57 then 1 else if c=43 then 2 else if c=45 then 3 else if c=42 then 4 else if c=47 then 5 else if c=60 then 6 else if c=61 then 7
 else if c=100 then 8 else if c=120 then 9 else if c=112 then 10 else if c=107 then 11 else if c=99 then 12 else if c=121 then 13 else if c=98 then 14
 else if c=108 then 15 else if c=116 then 16 else if c=106 then 17 else if c=118 then 18 else if c=101 then 19 else if c=111 then 20 else if c=114 then 21 else if c=102 then 22 else 0
def ze(c:UInt8):Bool:=decide<|mD (c.toNat:Int)≠0
structure iZ(s:St):Prop where
 ft:∀i,oz (s i).ft
 C:∀i j,oz<|(s i).r j
 I:∀i,(s i).C.size<=40/\∀c∈(s i).C.data.toList,ze c=Ô
def gX(l:List Int):Int:=l.getLastD 0
def IV{P:Program}{ops:Array Oper}{o:Oper}{a:Act}{w:World}{K:Act->World->Prop}{Q:Exit->Act->World->Prop}{E:Prop}{base:Nat}{e:TypeId}{size n:Nat}{v:Value}{xs:List Value} (hg:o.guard=none) (s x:Operand) (t:TypeId) (yj:o.op=Op.call {callee:=Callee.builtin Builtin.append,args:=#[s,x],argTypes:=#[t,t]}) {i:TypeInfo} {z:Value} {bytes:Nat} (ht:P.underlying t=some (.slice e)) (hi:P.info? e=some i) (hz:i.zero=some z) (zd:i.size=size) (oX:i.bytes=bytes) (oD:z.cells.size=size) (hs:a.eval s=v) (lS:w.ownsRow base e size v n xs) (ad:Addr) {m c:Nat} (news:List Value) (hx:a.eval x=.slice (some ad) m c) (hm:0<m) (hl:news.length=m*size) (Tv:∀j u,news[j]?=some u->w.cell? (ad.add j)=some u) (h1:∀u∈news,u.oneCell'=true) (Db:n+m<=maxLen) (Dc:(n+m)*bytes<=140737488355328) (Da:base<=w.heap.size) (h:∀v' w',nW w base e size v n xs m news v' w'->K (a.put o.dst v') w') (hfl:lz e=false\/(0<news.length/\(∀u∈xs++news,j4 u=true)/\∀u∈z.cells.toList,j4 u=true):=by first|exact Or.inl (by decide)|exact Or.inr ⟨by simp,by simp[j4],by simp[j4,Value.cells]⟩): if Region.wanted o (yielded ops a.tmps)=true then Oper.wp P o a w K Q else E:=by
 have hw:Ō o (yielded ops a.tmps)=Ô:=by simp[Ō,hg]
 rw[if_pos hw];let⟨v',w',hr,h2⟩:=Ts (ty:=o.type) ht hi hz zd oX oD lS ad c news hm hl Tv h1 Db Dc Da hfl;unfold Ŝ;simp[ċ,yj,Ρ,ai,Τ,hs,hx,hr,Ė];exact h v' w' h2
def R'(b:List (Nat×Int)):∀u∈oH b,j4 u=Ô:=λu a=>by unfold oH at a;let⟨e,_,h⟩:=ũ.1 a;simp[O_,rK]at h;rcases h with rfl|rfl<;>rfl
section
variable{md:ű}{ops:Array Ķ}{Q:Exit->ar->Ë->Prop}{S:Ë->Prop}{X:List Nat}
def rN(P:ρ)(md:ű)(ops:Array Ķ)(Q:Exit->ar->Ë->Prop)(S:Ë->Prop)(X:List Nat):Nat->Array Bool->ar->Ë->Prop
 |0,listed,a,w=>è md ops listed=[]/\Q .normal a w
 |fuel+1,listed,a,w=>(è md ops listed=[]->Q .normal a w)/\
  ∀i∈è md ops listed,wpOp P ops Q i (λc b=>(i∉X->S b)/\rN P md ops Q S X fuel (listed.setIfInBounds i Ô) c b) a w
def S_:∀(b:Nat) (listed:Array Bool) (a:ar) (w:Ë),rN P md ops Q S X b listed a w->wpAny P md ops Q b listed a w
 |0,_,_,_,h=>h
 |b+1,_,_,_,h=>⟨h.1,λi c=>wpOp_mono (λd e q=>S_ b _ d e q.2)<|h.2 i c⟩
def tT(md:ű)(ops:Array Ķ)(X:List Nat)(i:Nat):Bool:=X.all λx=>match ops[x]? with
 |some o=>o.after.toList.any λe=>ĩ md e&&e.on==i
 |none=>Ô
theorem al1{listed:Array Bool}(a:tT md ops X i=Ô)(c:ops[j]?=Â o)(d:listed.getD i Û=Û)(f:∀e∈o.after,ĩ md e=Ô->listed.getD e.on Û=Ô):j∉X:=by intro b;have g:=List.all_eq_true.1 a j b;grind
theorem al2{m:Ķ}(x:ops[i]?=Â m)(y:∀(j:Nat) (o:Ķ) n b,ops[j]?=Â o->o.op≠.select n b)(E:tT md ops X i=Ô) (F:∀c a w,Q (.panic c) (a.put m.dst v) w->Q (.panic c) a w): ∀(p:Nat) (d:Array Bool) (a:ar) (w:Ë),(∀j g,ops[j]?=Â g->j≠i->d.getD j Ô=Û->(∀e∈g.after,ĩ md e=Ô->e.on≠i)->m.apart ops g=Ô)-> i∈è md ops d->YieldsIf P ops S m v a->S w->rN P md ops Q S X p (d.setIfInBounds i Ô) (a.put m.dst v) w->rN P md ops Q S X (p+1) d a w:=by
 have G:∀{d:Array Bool},i∈è md ops d->d.getD i Û=Û:=λ{d} l=>by have D:=(mem_ready.1 l).1;grind
 intro p
 induction p with
 |zero=>
  intro d a w _ l s r H;refine⟨λh=>absurd (h▸l) fp,λj t=> ?_⟩;by_cases f:j=i
  .subst f;exact s.wpOp x r ⟨λ_=>r,H⟩
  .exact absurd (H.1▸ź t f) fp
 |succ p I=>
  intro d a w z l s r H;refine⟨λh=>absurd (h▸l) fp,λj t=> ?_⟩;by_cases f:j=i
  .subst f;exact s.wpOp x r ⟨λ_=>r,H⟩
  .let⟨B,g,u,J⟩:=mem_ready.1 t;have K:∀e∈g.after,ĩ md e=Ô->e.on≠i:=λe V W Y=>by
    grind
   refine wpOp_mono (λD L q=>⟨q.2.1,I (d.setIfInBounds j Ô) D L (λk M N O C T=>z k M N O ?_ T) (ź l<|Ne.symm f) q.1 (q.2.1<|al1 E u (G l) J) ?_⟩)<|wpOp_putIf u (z j g u f B K) (λn b=>y i m n b x) (λn b=>y j g n b u) F s<|H.2 j<|ź t f
   .by_cases D:j=k
    .subst D;exact B
    .rwa[getD_set_ne Ô D]at C
   .rw[Array.setIfInBounds_comm _ _ f];exact q.2.2
def MW{oi:Ķ}{listed:Array Bool}(b:ops[i]?=Â oi) (d:Region.noSelect ops=Ô) (e:Region.free md ops listed i=Ô) (f:(è md ops listed).contains i=Ô) (g:tT md ops X i=Ô) (j:∀c y w,Q (.panic c) (y.put oi.dst v) w->Q (.panic c) y w) (k:S w) (l:YieldsIf P ops S oi v y) (h:rN P md ops Q S X n (listed.setIfInBounds i Ô) (y.put oi.dst v) w):rN P md ops Q S X (n+1) listed y w:= al2 b (Region.noSelect_spec d) g j n listed y w (Region.free_spec b e) (by simpa using f) l k h
def al3{listed:Array Bool}(c:è md ops listed=[i])(e:ops[i]?=Â o) (h:∀b:ar->Ë->Prop,Shut (∀y w,(i∉X->S w)->rN P md ops Q S X n (listed.setIfInBounds i Ô) y w->b y w)->if Ō o (yielded ops y.tmps)=Ô then Ŝ P o y w b Q else b (y.put o.dst aE) w):rN P md ops Q S X (n+1) listed y w:=by
 refine⟨λq=>absurd (c▸q) fp,λj d=> ?_⟩;rw[c]at d;have:j=i:=by simpa using d
 subst this;exact wpOp_step e λb f=>h b λy w g k=>f y w ⟨g,k⟩
def ix:List Ķ->Nat->Option Ķ
 |[],_=>Ã
 |o::_,0=>Â o
 |_::l,n+1=>ix l n
def S':∀{l:List Ķ} {i:Nat} {o:Ķ},ix l i=Â o->l.toArray[i]?=Â o
 |[],_,_,h=>by cases h
 |o::l,0,_,h=>by simpa[ix]using h
 |o::l,n+1,_,h=>by simpa using S' (l:=l) h
def T_(h:ix ops.toList i=Â o):ops[i]?=Â o:=by simpa using S' h
def tk{oi:Oper}{v:Value}{fuel:Nat}{listed:Array Bool}{a0 a a':Act}{w:World}(hS:S w)(i:Nat:=ops.size-1-fuel)(h:rN P md ops Q S X fuel (listed.setIfInBounds i true) a' w) (h0:a0=a:=by(try simp only[Act.put,List.setIfInBounds_toArray,List.set_cons_zero,List.set_cons_succ]);rfl) (hi:ix ops.toList i=some oi:=by rfl) (hs:Region.noSelect ops=true:=by kernel_rfl) (hf:Region.free md ops listed i=true:=by kernel_rfl) (hr:(Region.ready md ops listed).contains i=true:=by kernel_rfl) (hw:tT md ops X i=true:=by kernel_rfl) (hQ:∀v c a w,Q (.panic c) (a.put oi.dst v) w->Q (.panic c) a w:=by exact λ_ _ _ _ h=>h) (hn:Region.wanted oi (yielded ops a.tmps)=true:=by rfl) (hy:∀w,S w->(execOp a.eval oi).run P w=.ok (.value v) w:=by intro w h;revert h;simp only[and_imp];intros;go_simp;try(with_reducible rfl)) (ha:a.put oi.dst v=a':=by(try simp only[Act.put,List.setIfInBounds_toArray,List.set_cons_zero,List.set_cons_succ]);rfl):rN P md ops Q S X (fuel+1) listed a0 w:= h0▸MW (T_ hi) hs hf hr hw (hQ v) hS (ß ⟨hn,hy⟩) (ha▸h)
def ia(i:Nat){o:Oper}{fuel:Nat}{listed:Array Bool}{a0 a:Act}{w:World} (h:∀K':Act->World->Prop,Shut (∀a w,(i∉X->S w)->rN P md ops Q S X fuel (listed.setIfInBounds i true) a w->K' a w)->if Region.wanted o (yielded ops a.tmps)=true then Oper.wp P o a w K' Q else K' (a.put o.dst undef) w) (h0:a0=a:=by(try simp only[Act.put,List.setIfInBounds_toArray,List.set_cons_zero,List.set_cons_succ]);rfl) (hr:Region.ready md ops listed=[i]:=by kernel_rfl) (ho:ix ops.toList i=some o:=by rfl):rN P md ops Q S X (fuel+1) listed a0 w:=h0▸al3 hr (T_ ho) h
def oY{listed:Array Bool}(b:è md ops listed=[])(h:Q .normal y w):∀c,rN P md ops Q S X c listed y w
 |0=>⟨b,h⟩
 |_+1=>⟨λ_=>h,by rw[b];simp⟩
def oZ{id:Nat}(S:Ë->Prop)(X:List Nat)(b:P.follows .mixedOrders=Ô) (h:rN P .any ops Q S X ops.size (Ĳ ops.size Û) y w.drew):(Code.region id ops Ô).wp P Q y w:= wp_region_any b<|S_ _ _ _ _ h
end
structure RT where
 ss:List Int
 s:St
 ls:List (Nat×Int)
 g:Int
def TB(F:xo)(c:RC)(t:RT)(q p k:Int):Int×Int×RT:=
 if c.d=4 then(0,0,t)else
  ((F t.s t.ls c.y (q%8).toNat (min p t.g) k).M,AS (F t.s t.ls c.y (q%8).toNat (min p t.g) k).C,
    {t with s:=(F t.s t.ls c.y (q%8).toNat (min p t.g) k).s,ls:=(F t.s t.ls c.y (q%8).toNat (min p t.g) k).I,g:=t.g-(F t.s t.ls c.y (q%8).toNat (min p t.g) k).r})
def jW(l:List Int):List Int:=l.dropLast
def al4(F:xo)(c:RC)(a:Nat)(t:RT):RT:=
 if a=8 then{t with ss:=jW t.ss++[gX t.ss,gX t.ss]}
 else if a=9 then{t with ss:=jW (jW t.ss)++[gX t.ss,gX<|jW t.ss]}
 else if a=10 then{t with ss:=jW t.ss}
 else if a=11 then{t with ss:=t.ss++[c.k]}
 else if a=12 then{t with ss:=t.ss++[(c.x:Int)]}
 else if a=13 then{t with ss:=t.ss++[(c.y:Int)]}
 else if a=14 then{t with ss:=t.ss++[(t.s c.y).ft]}
 else if a=15 then{t with ss:=jW t.ss++[(t.s c.y).r (gX t.ss%16).toNat]}
 else if a=16 then{t with ss:=jW<|jW t.ss,s:=t.s.C c.y (gX t.ss%16).toNat (gX<|jW t.ss)}
 else if a=18 then{t with ss:=jW (jW t.ss)++[(R_ t.s c.y (gX t.ss)<|gX<|jW t.ss).1],s:=(R_ t.s c.y (gX t.ss)<|gX<|jW t.ss).2}
 else if a=19 then{t with ss:=jW t.ss,ls:=t.ls++[(c.y,gX t.ss)]}
 else if a=20 then
  {(TB F c t (gX t.ss) (gX<|jW t.ss)<|gX<|jW<|jW t.ss).2.2 with ss:=jW (jW<|jW t.ss)++[(TB F c t (gX t.ss) (gX<|jW t.ss)<|gX<|jW<|jW t.ss).1,(TB F c t (gX t.ss) (gX<|jW t.ss)<|gX<|jW<|jW t.ss).2.1]}
 else{t with ss:=jW (jW t.ss)++[alY a (gX<|jW t.ss)<|gX t.ss]}
section
variable{E:pH}{c:RC}{s a:St}{b d:List (Nat×Int)}{q p:Int}{F:xo}
def TC(a:0<=h)(b:h<9223372036854775808):Ê.wrap h=h:=by show(if(Ê.signed&&decide (h%(2^64:Int)≥(2^63:Int)))=Ô then h%(2^64:Int)-2^64 else h%(2^64:Int))=h;rw[(Int.emod_eq_of_lt a Z),if_neg];simp;omega
end
def U_(c:Int)(w:Ë):Ñ À 103 #[Ä au c] w λe a=>e=Æ (Ä Ê<|mD c)/\a=w:=by
 go_enter Tryz.func103,Tryz.ntmps103;go_wp2;all_goals go_ret
 all_goals refine⟨IH ?_,U⟩
 all_goals simp only[beq_iff_eq,beq_eq_false_iff_ne,ne_eq]at*
 all_goals(try subst c)
 all_goals first|rfl|(unfold mD;simp[*];done)|(unfold mD;rw[if_neg Z];simp[*])
def sU(k:Nat):Int×Int×Int:=(vK[k]?).getD (0,0,0)
def V_(P:ByteArray)(a:Int):Int:=((P.data.getD a.toNat 0).toNat:Int)
def rO(P:ByteArray)(a:Int):Nat:=mD<|V_ P a
def IW(F:xo)(c:RC)(P:ByteArray):Nat->Int->RT->Int×Bool×RT
 |0,_,t=>(0,Û,t)
 |f+1,pl,t=>
  if pl=P.size then(0,Ô,t)
  else if(P.size:Int)<pl then(0,Û,{t with g:=0})
  else if al0 t.g t.ss.length (sU<|rO P pl).1 (sU<|rO P pl).2.1 (sU<|rO P pl).2.2=Û then(0,Û,{t with g:=0})
  else if rO P pl=1 then IW F c P f (pl+1) {t with ss:=t.ss++[V_ P pl-48],g:=t.g-(sU<|rO P pl).1}
  else if rO P pl=17 then
   if gX (jW t.ss)=0 then IW F c P f (pl+1) {t with ss:=jW<|jW t.ss,g:=t.g-(sU<|rO P pl).1}else IW F c P f (gX t.ss) {t with ss:=jW<|jW t.ss,g:=t.g-(sU<|rO P pl).1}
  else if rO P pl=21 then(gX t.ss,Ô,{t with ss:=jW t.ss,g:=t.g-(sU<|rO P pl).1})
  else if rO P pl=22 then(0,Û,{t with g:=t.g-(sU<|rO P pl).1})
  else IW F c P f (pl+1) (al4 F c (rO P pl) {t with g:=t.g-(sU<|rO P pl).1})
def al5{p:Prop}[Decidable p](c:i<=m)(d:b<=m):(if p then i else b)<=m:=by split;exact c;exact d
def al6(c:Int):mD c<=22:=by unfold mD;repeat' (first|refine al5 A ?_|decide)
def Dd(n:Int):oz (wu n):=⟨alW n,alX n⟩
def iZ.fO{s:St}(h:iZ s){a:IP}(b:oz a.ft)(d:∀j,oz<|a.r j)(e:a.C.size<=40/\∀c∈a.C.data.toList,ze c=Ô):iZ (s.fO i a):=by
 refine⟨λj=> ?_,λj k=> ?_,λj=> ?_⟩<;>unfold St.fO<;>split
 .exact b
 .exact h.ft j
 .exact d k
 .exact h.C j k
 .exact e
 .exact h.I j
def iZ.r{s:St}(h:iZ s)(i:Nat){b:Int}(a:oz b):iZ (s.ft i b):=h.fO a (h.C i)<|h.I i
section
variable{E:pH}{c:RC}{F:xo}{s:St}{a:List (Nat×Int)}
def De(F:xo)(c:RC)(s:St)(a:List (Nat×Int)):Int×Bool×RT:=IW F c (s c.y).C (c.g.toNat+1) 0 ⟨[],s,a,c.g⟩
end
def MX(a:o.op=.alloc T)(b:P.info? T=Â zJ)(c:zJ.zero=Â z): (ċ xX o).run P w=Ξ (.value<|Ç<|Â ⟨w.heap.size,0,Ã⟩) (w.alloc<|Î z.cells T):=by unfold ċ;simp[a,Instr.alloc,zeroValue,typeInfo,b,c,newVar,newRow]
def IX:∀(e a d:List È) (w:Ë) (c:List È),c.length=e.length->fq b (a++c++d) T w->fq b (a++e++d) T (w.setCells b a.length e)
 |[],a,d,w,c,hl,h=>by have:c=[]:=Ø (by simpa using hl);subst this;exact h
 |v::r,a,d,w,c,hl,h=>by
  match c,hl,h with
  |x::c,hl,h=>
   have f:=h.fO a.length v;rw[show(a++x::c++d).set a.length v=(a++[v])++c++d by simp]at f;have:=IX r (a++[v]) d _ c (by simpa using hl) f;rw[show(a++[v]).length=a.length+1 by simp]at this;rw[show a++v::r++d=a++[v]++r++d by simp];exact this
def NF.rh(h:NF b w)(p:Ě)(v:È):NF b (w.setCell p v):=λc T d q=>by
 by_cases e:b=p.block
 .subst e;unfold Ģ at q;simp only[Ð,if_true]at q;cases a:w.heap[p.block]? with
  |none=>rw[a]at q;cases q
  |some f=>
   rw[a]at q;cases f with
   |cells g t z=>
    simp only[Ý,Ö,Ċ]at q;rw[<-q.2.1];exact h _ _ _ a
   |_=>cases q
 .rw[ø _ _ _ _ (by simpa using e)]at q;exact h c T d q
def IY:∀(a:List È) (o:Nat) (w:Ë),NF b w->fc (λk=>k=b) w (w.setCells b o a)
 |[],_,w,_=>fc.fV _ w
 |v::r,o,w,h=>(fc.I (X:=λk=>k=b) (p:=⟨b,o,Ã⟩) U v<|ä h).fj<|IY r (o+1) _<|h.rh _ _
def fq.MY(h:fq j l T w)(a:n<=l.length):w.there j 0 n:=λi b=>by refine⟨?_,h.I _⟩;rw[h.r (0+i) (l[0+i]'Z)<|Ï Z];rfl
def fq.Y{vs tl:List È}(h:fq j (vs++tl) T w):w.rangeAt j 0 vs:=λi v a=>by apply h.r (0+i) v;rwa[Ĩ,Õ (Ò.1 a).1]
def MZ{P:Program}{ops:Array Oper}{rest:List Oper}{o1 o2:Oper}{a:Act}{w:World}{Q:Exit->Act->World->Prop}(g1:o1.guard=none)(g2:o2.guard=none)(T:TypeId)(h1:o1.op=.alloc T)(d:Tmp)(hd:o1.dst=some d)(x y:Operand)(h2:o2.op=.store T x y)(pF:o2.dst=none) {i:TypeInfo} {z:Value} (hi:P.info? T=some i) (hz:i.zero=some z) (cs:List Value) (iO:i.size=cs.length) (oD:z.cells.size=cs.length) (hx:(a.put (some d)<|.pointer<|some ⟨w.heap.size,0,none⟩).eval x=.pointer (some ⟨w.heap.size,0,none⟩)) (hy:(a.put (some d)<|.pointer<|some ⟨w.heap.size,0,none⟩).eval y=.agg cs.toArray) (al7:∀v∈cs,v.oneCell'=true) (h:∀w',fq w.heap.size cs T w'->fc fh w w'->w'.heap.size=w.heap.size+1->wpList P ops Q rest (a.put (some d)<|.pointer<|some ⟨w.heap.size,0,none⟩) w') (hT:lz T=false:=by decide):wpList P ops Q (o1::o2::rest) a w:=by
 apply Ā g1 (Â d) hd _ _ (MX h1 hi hz);have hB:fq w.heap.size z.cells.toList T (w.alloc<|Î z.cells T):=by have:=fq.N w z.cells.toList T;simpa using this
 refine ū g2 T x y h2 w.heap.size 0 cs.toArray hx hy (hB.MY<|by simp[oD]) (by rw[hi];simp[iO]) (ņ al7) ?_;rw[pF];have IZ:=IX cs [] [] (w.alloc<|Î z.cells T) z.cells.toList (by simpa using oD) (by simpa using hB);refine h _ (by simpa using IZ) ?_ ?_
 .refine(fc.iw fh w _ _<|ß hT).C (IY _ _ _<|hB.S hT) λk hk e=> ?_;omega
 .have:∀(vs:List È) (o:Nat) (w:Ë) (b:Nat),(w.setCells b o vs).heap.size=w.heap.size:=by
   intro vs
   induction vs with
   |nil=>intro o w b;rfl
   |cons v r ih=>intro o w b;rw[World.setCells,ih];simp
  simp[this]
def al8(h:(P.info? e).map (λi=>(i.size,i.zero.map (·.cells.size)))=Â (n,Â m)):∃i z,P.info? e=Â i/\i.size=n/\i.zero=Â z/\z.cells.size=m:=by let⟨i,a,h⟩:=É.1 h;simp only[Prod.mk.injEq,É]at h;let⟨b,z,c,d⟩:=h;exact⟨i,z,a,b,c,d⟩
def al9(s:St){lv:È}(b:lv.oneCell'=Ô):∀v∈nu s lv,v.oneCell'=Ô:=λv c=>by
 obtain⟨i,a,rfl⟩:=List.getElem_of_mem c;rw[rM]at a;have:=MU s lv a;rw[Ï (by rwa[rM])]at this;injection this with this;rw[this];unfold sS rL;repeat' split
 all_goals first|exact b|rfl
def W_{t:Tmp}{d:TypeDesc}(h:s.results=#[.cell t T])(a:q.getD t aE=Ç (Â ⟨b,0,Ã⟩))(c:w.rangeAt b 0 l)(e:P.underlying T=Â d)(f:d.isRow=Ô)(g:(P.info? T).map (·.size)=Â l.length): (Υ s q).run P w=Ξ (õ l.toArray) w:=by rw[ē]at a;simp only[Υ,h];simp[a,asAddr,Ŵ w b 0 T l d c e f g]
def ama(F:xo)(c:RC)(s:St)(a:List (Nat×Int)):TA:=
 ⟨c.g-(De F c s a).2.2.g,(De F c s a).2.1,(De F c s a).1,if(De F c s a).2.1 then(De F c s a).2.2.s else s,if(De F c s a).2.1 then(De F c s a).2.2.ls else a⟩
section
variable{E:pH}{c:RC}{lv:È}{s:St}{ls:List (Nat×Int)}{F:xo}
def jV.N{Y:Nat->Prop}(r:jV E lv n w s ls W v)(k:fc Y W jX)(h:∀i,Y i->w.heap.size<=i)(m:∀i d,Y i->W.heap[i]?≠Â (Î d 257 (0,0)))(o:¬Y E.r):jV E lv n w s ls jX v:=by
 have e:∀{a b c},W.ownsRow 0 257 2 a b c->jX.ownsRow 0 257 2 a b c:=λ{a b c} q=>im q k λj p y=>by let⟨d,t⟩:=nV q p;exact m j d y t
 exact⟨r.r.C k o,e r.I,r.C.C k λi u y=>absurd (h i y) Z,r.l,λa b c f g=>⟨e (r.M a b c f g).1,(r.M a b c f g).2⟩⟩
end
def X_:Nat->xo
 |0=>λs a _ _ _ _=>⟨0,Û,0,s,a⟩
 |n+1=>λs a x y g k=>ama (X_ n) ⟨x,y,k,4-(n:Int),g⟩ s a
def gO:xo:=X_ 4
def kB.oR{tl:List È}{s:St}(h:kB b T tl s v w)(k:fc X w u)(a:¬X b):kB b T tl s v u:=fq.C h k a
section
variable{E:pH}{f:È}{w1:Ë}{s r d:St}{ls B C:List (Nat×Int)}
theorem jV.fV(a:kB E.r E.T E.C s v w)(b:w.ownsRow 0 257 2 v ls.length (oH ls)):jV E v ls.length w s ls w v:= ⟨a,b,fc.fV _ _,λ_ q=>ß q,λ_ _ _ c d=>⟨c,d⟩⟩
def jV.fE(h:jV E v n w s ls w1 jQ)(k:fc fh w1 u):jV E v n w s ls u jQ:= h.N k (λ_=>Œ) (λ_ _=>Œ) id
def jV.Y(ok:E.Ok)(h:jV E v n w s ls w1 jQ)(i:Nat)(k:kB E.r E.T E.C d jQ (w1.setCell ⟨E.r,i,Ã⟩ x)):jV E v n w d ls (w1.setCell ⟨E.r,i,Ã⟩ x) jQ:=by have e:=fc.I (X:=λk=>k=E.r) (p:=⟨E.r,i,Ã⟩) U x<|ä<|fq.S h.r ok.C;have f:∀{a b c},w1.ownsRow 0 257 2 a b c->(w1.setCell ⟨E.r,i,Ã⟩ x).ownsRow 0 257 2 a b c:=λ{a b c} q=>im q e λj o y=>iL q h.r ok.r.symm (by rw[o,y]);exact⟨k,f h.I,h.C.C e λi _ q=>ß q,h.l,λa b c g m=>⟨f (h.M a b c g m).1,(h.M a b c g m).2⟩⟩
def jV.ft(ok:E.Ok)(h:jV E v n w s ls w1 jQ)(a:i<8)(x:Int):jV E v n w (s.ft i x) ls (w1.setCell ⟨E.r,i*18,Ã⟩<|Ä Ì x) jQ:=h.Y ok _<|h.r.IU a x
def jV.IT(ok:E.Ok)(h:jV E v n w s ls w1 jQ)(a:i<8)(x:ByteArray):jV E v n w (s.r i x) ls (w1.setCell ⟨E.r,i*18+1,Ã⟩<|Í x) jQ:=h.Y ok _<|h.r.alU a x
end
def rP(s:St)(x y:Nat)(n:Int):Bool×St:=
 if(s x).ft<n+10 then(Û,s)else(Ô,(s.ft x<|(s x).ft-(n+10)).ft y<|wu<|(s.ft x ((s x).ft-(n+10)) y).ft+n)
section
variable{E:pH}{s:St}{ls:List (Nat×Int)}
def amb(ok:E.Ok)(c:kB E.r E.T E.C s v w)(g:w.ownsRow 0 257 2 v ls.length (oH ls))(f:iZ s)(x y:Nat)(n:Int)(a:x<8)(d:y<8)(h:0<=n)(i:n<=1000000): Ñ À 168 #[Ç<|Â ⟨E.r,0,Ã⟩,Ä Ê x,Ä Ê y,Ä Ì n] w λe m=>e=Æ (Ú (rP s x y n).1)/\jV E v ls.length w (rP s x y n).2 ls m v:=by
 have j:=c.ft a;have k:=fq.I c<|x*18;have l:=(f.ft x).1;have o:=(f.ft x).2;have p:∀m,((w.drewN m).setCell ⟨E.r,x*18,Ã⟩<|Ä Ì<|(s x).ft-(n+10)).cell? ⟨E.r,y*18,Ã⟩=Â (Ä Ì (s.ft x ((s x).ft-(n+10)) y).ft):=λm=>((c.oR (fc.jh fh w m) id).IU a _).ft d;have q:∀m,((w.drewN m).setCell ⟨E.r,x*18,Ã⟩<|Ä Ì<|(s x).ft-(n+10)).frozen? ⟨E.r,y*18,Ã⟩=Û:=λm=>fq.I ((c.oR (fc.jh fh w m) id).IU a _) _;have r:=(c.IU a<|(s x).ft-(n+10)).ft d;have t:=fq.I (c.IU a<|(s x).ft-(n+10))<|y*18;have H:=eZ<|jV.fV c g;unfold rP;by_cases e:(s x).ft<n+10
 .rw[if_pos e];generalize(s x).ft=b at*;go_enter Χ,Γ;go_wp2_with fail;go_ret;exact⟨U,H.out⟩
 .rw[if_neg e];generalize(s.ft x ((s x).ft-(n+10)) y).ft=b2 at*;generalize(s x).ft=b at*;go_enter Χ,Γ;go_wp2_with fail;go_region;go_wp2_with fail;go_region;go_wp2_with fail;go_ret;refine⟨U,?_⟩;first
   |exact((H.out.ft ok a _).ft ok d _).fE<|fc.jh _ _ _
   |exact(((H.out.fE<|fc.jh _ _ _).ft ok a _).ft ok d _)
   |exact(((H.out.fE<|fc.gG _ _).ft ok a _).fE<|fc.gG _ _).ft ok d _
   |exact((H.out.ft ok a _).ft ok d _).still<|(Keep.drew _ _).trans<|Keep.drew _ _
end
def amc(a:kl w)(p:Ě)(n:Nat):kl (w.freeze p n):=by
 unfold ò;split
 .exact a
 .intro i o h;simp only[Ð]at h;split at h
  .cases b:w.heap[i]? with
   |none=>rw[b]at h;cases h
   |some d=>
    have:=a _ _ b;rw[b]at h;cases d with
    |cells c t z=>simp only[Ý,Ö]at h;subst h;exact λx=>x
    |_=>exact absurd trivial this
  .exact a i o h
def X'(a:sR m w)(p:Ě)(n:Nat):sR m (w.freeze p n):=by
 unfold ò;split
 .exact a
 .intro i c T f e h b;simp only[Ð]at h;split at h
  .cases d:w.heap[i]? with
   |none=>rw[d]at h;cases h
   |some g=>
    rw[d]at h;cases g with
    |cells j t z=>
     simp only[Ý,Ö,Ċ]at h;rw[<-h.1];rw[<-h.2.1]at b;exact a _ _ _ _ e d b
    |_=>cases h
  .exact a i c T f e h b
theorem amd{w w1:World}{g:Nat}{cur Y:Array Value}{e:TypeId}{z:Nat×Nat}(hw:fc fh w w1)(hg:w1.heap[g]?=some (.cells cur e z))(auw:w.heap.size<=g)(he:lz e=false:=by decide):fc fh w (w1.setRow g Y):=by
 refine⟨by simpa using hw.M,λk hk _=>(ú w1 g k Y Z).trans<|hw.N k hk id,λal i o ho=> ?_,λm a i c T fr hm h hT=> ?_⟩;rotate_left
 .by_cases hi:i=g
  .subst hi;rw[ą w1 i cur Y e z hg]at h;grind
  .rw[ú w1 g i Y hi]at h;exact hw.S m a i c T fr hm h hT
 by_cases hi:i=g
 .subst hi;rw[ą w1 i cur Y e z hg]at ho;cases ho;exact λx=>x
 .rw[ú w1 g i Y hi]at ho;exact hw.gU al i o ho
def ame(b:fc fh w u)(e:w.heap.size<=p.block):fc fh w (u.freeze p n):=by
 refine⟨?_,λk c _=> ?_,λd=>amc (b.gU d) p n,λm a=>X' (b.S m a) p n⟩
 .unfold ò;split
  .exact b.M
  .simpa using b.M
 .unfold ò;split
  .exact b.N k c id
  .simp only[Ð];rw[if_neg Z];exact b.N k c id
def TD:(À.info? 5).map (λi=>(i.zero,i.size,i.bytes))=Â (Â<|Ä au 0,1,1):=fx
def amf(n:Nat)(e:n<=1000000):∃M:Array È,M.size=n/\∀W:Ë,(Instr.makeSlice 107 (Ä Ê (n:Int))<|Ä Ê (n:Int)).run À W=Ξ (Å (Â ⟨W.heap.size,0,Ã⟩) n n) (W.alloc<|Î M 5):=by let⟨i,a,b,c,d⟩:=ì TD;refine⟨madeCells (Ä au 0).cells<|(n:Int).toNat*i.size,by rw[size_madeCells,c];simp,λW=> ?_⟩;simpa using run_make W 107 5 i (Ä au 0) ã a b Ê Ê n n Z Z (by rw[d];omega) Z
theorem amg{M:Array È}(e:M.size=B.size)(b:W.heap[i]?=Â (Î M 5 (0,0))): (Δ #[107,9] 3 #[Å (Â ⟨i,0,Ã⟩) B.size B.size,Í B]).run À W=Ξ (goInt B.size) (W.setRow i (à B.data.toList).toArray):=by let⟨a,c,_,d,_⟩:=ì TD;have h:=Lib.run_copy_row_string W 107 9 3 5 i 0 B.size B.size B M 5 ã (by rw[c];simp[d]) b (å _) Z;grind [List.drop_of_length_le]
def amh(d:B.size≠0)(m:B.size<=1000000)(c:W.heap[i]?=Â (Î (à B.data.toList).toArray 5 (0,0))): (ĵ #[177,3] 9 #[Ç<|Â ⟨i,0,Ã⟩,Ä Ê (B.size:Int)]).run À W=Ξ (Í B) (W.freeze ⟨i,0,Ã⟩ B.size):=by
 let⟨a,f,_,k,_⟩:=ì TD;have b:=Lib.size_eq B;have l:(à B.data.toList).toArray.size=B.size:=by rw[ù,Ľ,<-b]
 have h:=ģ W 177 3 9 5 œ (by simp[Program.cellsOf,f,k]) i B.size (by unfold Š;rw[c];simp only[l]) B.data.toList (by intro e;rw[e]at b;exact d b) Z Z (λj x e=>Lib.cells_of_row c _ j _<|by rw[û<|å _];simp[à,e]);rwa[<-b]at h
def ami(s:ByteArray)(a:s.size<=1000000)(w:Ë):Ñ À 196 #[Í s] w λe c=>e=Æ (Í s)/\fc fh w c:=by
 by_cases b:s.size=0
 .have d:=aG<|Array.eq_empty_of_size_eq_zero b;subst d;go_enter Ω,Ε;go_wp2;go_ret;exact⟨U,fc.fV _ _⟩
 .let⟨M,d,mk⟩:=amf s.size a;have g:=amg d<|Ü w<|Î M 5;have h:=amh b a<|ą (w.alloc<|Î M 5) w.heap.size M (à s.data.toList).toArray 5 (0,0)<|Ü w _;have f:=eZ<|ame (p:=⟨w.heap.size,0,Ã⟩) (n:=s.size) (amd (Y:=(à s.data.toList).toArray) (fc.iw fh w M 5) (Ü w _)<|å _)<|å _;generalize(à s.data.toList).toArray=Y at*;go_enter Ω,Ε;go_wp2;go_ret;exact⟨U,f.out⟩
def amj(s:ByteArray)(a:s.size<=1000000)(w:Ë):Ñ À 186 #[Í s] w λe b=>e=Æ (Í s)/\fc fh w b:=by go_enter Tryz.func186,Tryz.ntmps186;go_wp2_with (go_at_call 196;refine(ami s a _).mono ?_;rintro e d ⟨rfl,c⟩);go_ret;exact⟨U,c⟩
def rQ(s:St)(x:Nat)(p:ByteArray):Bool×St:=
 if(s x).ft<20 then(Û,s)else(Ô,(s.ft x<|(s x).ft-20).r x p)
def TE{t u:Tmp}{cs:List È}{d:TypeDesc}(h:s.results=#[.cell t T,.tmp u])(a:q.getD t aE=Ç (Â ⟨b,0,Ã⟩))(c:w.rangeAt b 0 cs)(e:P.underlying T=Â d)(f:d.isRow=Ô)(g:(P.info? T).map (·.size)=Â cs.length): (Υ s q).run P w=Ξ (č #[õ cs.toArray,q.getD u aE]) w:=by have i:=Ŵ w b 0 T cs d c e f g;rw[ē]at a;simp only[Υ,h];simp[a,asAddr,i]
def Y_:(À.underlying 246).map ľ=Â Ô:=fx
def Z_:(À.info? 246).map (·.size)=Â 2:=fx
section
variable{E:pH}{s:St}{ls:List (Nat×Int)}
def amk(ok:E.Ok)(a:kB E.r E.T E.C s v w)(h:w.ownsRow 0 257 2 v ls.length (oH ls))(f:iZ s)(x:Nat)(p:ByteArray)(c:x<8)(i:p.size<=1000000): Ñ À 169 #[Ç<|Â ⟨E.r,0,Ã⟩,Ä Ê x,Í p] w λe d=>e=Æ (Ú (rQ s x p).1)/\jV E v ls.length w (rQ s x p).2 ls d v:=by
 have k:=fq.M a;have l:=a.ft c;have m:=fq.I a<|x*18;have n:=(f.ft x).1;have o:=(f.ft x).2;have q:(0:Int)<=(x:Int):=Z
 have r:(x:Int)<8:=Z
 have H:=eZ<|jV.fV a h;unfold rQ;by_cases g:(s x).ft<20
 .rw[if_pos g];generalize(s x).ft=b at*;go_enter ε,Ζ;go_wp2_with fail;go_ret;exact⟨U,H.out⟩
 .rw[if_neg g];generalize(s x).ft=b at*;go_enter ε,Ζ;go_wp2_with fail;go_region;go_wp2_with fail;go_region_held3 (λ_=>True) (trivial) (first
    |(go_at_call 186;refine(amj p i _).mono ?_;rintro e t ⟨rfl,j⟩;dsimp only;have d:=((H.out.ft ok c (b-20)).fE (fc.jh fh _ 2)).fE j;have u:=d.r.IT c;have y:=fq.I d.r (x*18+1)))
  go_wp2_with fail
  go_ret;exact⟨U,d.IT ok c p⟩
def TF(s:St)(ls:List (Nat×Int))(x y:Nat)(n k:Int):(Int×Bool)×Bool×St×List (Nat×Int):=
 if n<10\/400<n\/(s x).ft<n then((0,Û),Û,s,ls)
 else(((gO (s.ft x<|(s x).ft-n) ls x y (n-10) k).r+10,(gO (s.ft x<|(s x).ft-n) ls x y (n-10) k).C),Ô,
  (gO (s.ft x ((s x).ft-n)) ls x y (n-10) k).s.ft x (wu (((gO (s.ft x ((s x).ft-n)) ls x y (n-10) k).s x).ft+(n-((gO (s.ft x ((s x).ft-n)) ls x y (n-10) k).r+10)))),(gO (s.ft x ((s x).ft-n)) ls x y (n-10) k).I)
end
structure Tx where
 x:Nat
 y:Nat
 n:Int
 k:Int
 r:Int
 C:ByteArray
structure nX(a:Nat)(t:Tx)(w:Ë):Prop where
 b:∃cs fz,w.heap[a]?=Â (Î cs 200 fz)
 r:w.cell? ⟨a,0,Ã⟩=Â (Ä Ê t.x)
 C:w.cell? ⟨a,1,Ã⟩=Â (Ä Ê t.y)
 I:w.cell? ⟨a,2,Ã⟩=Â (Ä Ê t.n)
 M:w.cell? ⟨a,3,Ã⟩=Â (Ä Ê t.k)
 Y:w.cell? ⟨a,4,Ã⟩=Â (Ä Ê t.r)
 N:w.cell? ⟨a,5,Ã⟩=Â (Í t.C)
structure Tx.xp(t:Tx):Prop where
 x:t.x<8
 y:t.y<8
 I:0<=t.n
 M:t.n<1000000
 r:0<=t.k
 C:t.k<1000000
 Y:t.C.size<=40/\∀c∈t.C.data.toList,ze c=Ô
def nX.G{t:Tx}(h:nX i t w):i<w.heap.size:=Ù w _ h.r
def nX.S{t:Tx}(h:nX i t w)(k:fc X w u)(b:¬X i):nX i t u:=by let⟨c,d,e⟩:=h.b;exact⟨⟨c,d,by rwa[k.N i h.G b]⟩,k.r h.r b,k.r h.C b,k.r h.I b,k.r h.M b,k.r h.Y b,k.r h.N b⟩
def nX.iU{t:Tx}(h:nX i t w)(c:w.heap[j]?=Â (Î d T xJ))(e:T≠200):i≠j:=by rintro rfl;let⟨f,g,b⟩:=h.b;rw[c]at b;cases b;exact e U
def nX.I0{E:pH}{t:Tx}{s c:St}{ls b:List (Nat×Int)}(d:E.T≠200)(h:nX i t w)(e:kB E.r E.T E.C c v w)(f:w.ownsRow 0 257 2 v b.length (oH b))(r:jV E v n w s ls u x):nX i t u:=by
 refine h.S r.C ?_;rintro(q|q)
 .exact h.iU e d q
 .let⟨j,g⟩:=nV f q;exact h.iU g A U
def lV(s:St)(ls:List (Nat×Int))(t:Tx):(Int×Bool)×Bool×St×List (Nat×Int):=
 if t.r=1 then((10,Ô),(rP s t.x t.y t.n).1,(rP s t.x t.y t.n).2,ls)
 else if t.r=2 then((20,Ô),(rQ s t.x t.C).1,(rQ s t.x t.C).2,ls)
 else TF s ls t.x t.y t.n t.k
def M0(E:pH)(a:È)(n:Nat)(w:Ë)(o:(Int×Bool)×Bool×St×List (Nat×Int))(e:ζ)(b:Ë):Prop:=
 e=Æ (č #[õ #[Ä Ì o.1.1,Ú o.1.2],Ú o.2.1])/\∃c,jV E a n w o.2.2.1 o.2.2.2 b c
structure Z'(r:List (Nat×Int))(o:(Int×Bool)×Bool×St×List (Nat×Int)):Prop where
 g0:0<=o.1.1
 C:o.1.1<=400
 s:iZ o.2.2.1
 r:o.2.2.2.length<=r.length+400
def xq(ls:List (Nat×Int)):Prop:=∀e∈ls,e.1<8/\oz e.2
structure TG:Prop where
 ox:∀{E:pH} {lv:È} {w:Ë} {s:St} {ls:List (Nat×Int)} {a:Nat} {t:Tx},E.Ok->E.T≠200->kB E.r E.T E.C s lv w->w.ownsRow 0 257 2 lv ls.length (oH ls)->sT w->iZ s->nX a t w->t.xp->(ls.length:Int)+400<=1000000->t.r≠1->t.r≠2->Ñ À 154 #[Ç<|Â ⟨E.r,0,Ã⟩,Ç<|Â ⟨a,0,Ã⟩] w (M0 E lv ls.length w<|lV s ls t)
 ok:∀{s:St} {ls:List (Nat×Int)} {t:Tx},iZ s->t.xp->(ls.length:Int)+400<=1000000->Z' ls (TF s ls t.x t.y t.n t.k)
 aml:∀{s:St} {ls:List (Nat×Int)} {t:Tx},iZ s->t.xp->(ls.length:Int)+400<=1000000->xq ls->xq (TF s ls t.x t.y t.n t.k).2.2.2
structure Tx.Ok(t:Tx):Prop extends Tx.xp t where
 S:t.r≠1->t.r≠2->TG
def Tx.Ok.N{t:Tx}(h:t.Ok):t.xp:=⟨h.x,h.y,h.I,h.M,h.r,h.C,h.Y⟩
def M1(a:0<=h)(b:h<1000000):Ì.wrap h=h:=by show wu h=h;exact AT a Z
def jV.S{E:pH}{s:St}{ls:List (Nat×Int)}(k:fc fh w W)(r:jV E v n W s ls u x):jV E v n w s ls u x:= ⟨r.r,r.I,(k.ff λ_ _=>Œ).C r.C λ_ _ q=>q,λj q=>(r.l j q).imp id λe=>ç k.M e,λa b c d f=>r.M a b c (im d k λ_ _=>id) f⟩
section
variable{E:pH}{lv:È}{s:St}{ls:List (Nat×Int)}{a:Nat}{t:Tx}
def aac{Fl:Value}{w1:World}{n:Nat}{s1:St}{ls1:List (Nat×Int)}(r:jV E lv n w s1 ls1 w1 Fl)(hB:fq w.heap.size [.int .u64 0,.bool false] 246 w1)(hlb:E.r<w.heap.size)(v0 v1:Value)(hf0:j4 v0=true:=by rfl)(hf1:j4 v1=true:=by rfl): jV E lv n w s1 ls1 ((w1.setCell ⟨w.heap.size,0,none⟩ v0).setCell ⟨w.heap.size,1,none⟩ v1) Fl/\fq w.heap.size [v0,v1] 246 ((w1.setCell ⟨w.heap.size,0,none⟩ v0).setCell ⟨w.heap.size,1,none⟩ v1):=by refine⟨r.N (Y:=λk=>k=w.heap.size) ((fc.I (X:=λk=>k=w.heap.size) (p:=⟨w.heap.size,0,Ã⟩) U v0<|ß hf0).fj<|fc.I (X:=λk=>k=w.heap.size) (p:=⟨w.heap.size,1,Ã⟩) U v1<|ß hf1) (λi q=>by omega) (λi cur q hc=> ?_) Z,(hB.fO 0 v0).fO 1 v1⟩;rw[q,hB]at hc;cases hc
def aad{W:Ë}{a:St}{b:List (Nat×Int)}{cs:List È}(c:jX=(w.alloc<|Î cs.toArray T).drewN 1\/jX=w.alloc (Î cs.toArray T))(d:w.ownsRow 0 257 2 lv ls.length (oH ls))(f:E.r<w.heap.size)(r:jV E lv n jX a b u v):fq w.heap.size cs T u:=by
 have e:fq w.heap.size cs T jX:=by
  rcases c with rfl|rfl
  .exact fq.N w cs T
  .exact fq.N w cs T
 refine e.C r.C ?_;rintro(q|q)
 .omega
 .have:=(d.lt _ q).2;omega
def amm(ok:E.Ok)(Q:E.T≠200)(l:kB E.r E.T E.C s lv w)(m:w.ownsRow 0 257 2 lv ls.length (oH ls))(z:sT w)(B:iZ s)(c:nX a t w)(d:t.Ok)(hlen:(ls.length:Int)+400<=1000000)(D:t.r=1): Ñ À 154 #[Ç<|Â ⟨E.r,0,Ã⟩,Ç<|Â ⟨a,0,Ã⟩] w (M0 E lv ls.length w<|lV s ls t):=by
 have F:=fq.M l;have hla:=c.G;have S:=c.r;have V:=c.C;have Y:=c.I;have c3:=c.M;have c4:=c.Y;have c5:=c.N;have hn:=M1 d.I d.M;have hk:=M1 d.r d.C;let⟨d2,G,I⟩:=É.1 Y_;have J:=eZ<|Á G I;clear G I;have g:=(fc.iw fh w #[Ä Ì 0,Ú Û] 246).fj<|fc.gG _ _;have o:=l.oR g id;have u:=im m g λ_ _=>id;have b:=c.S g id;have RA:=z.r g id;rw[D]at c4;have L:lV s ls t=((10,Ô),(rP s t.x t.y t.n).1,(rP s t.x t.y t.n).2,ls):=by unfold lV;rw[if_pos D]
 rw[L];have C:=amb (ls:=ls) ok o u B t.x t.y t.n d.x d.y d.I (by have:=d.M;omega);have M:∀(j:Ë) (N:St) (O:List (Nat×Int)) (P:È),jV E lv ls.length _ N O j P->nX a t j:=λj N O P r=>nX.I0 Q b o u r;have H:=eZ<|Á C<|Á m M;clear C M l m z B c d o u RA L;go_enter η,Η;go_wp2_with fail;have HS:=eZ<|Á b.r<|Á b.C<|Á b.I<|Á b.M b.N;clear S V Y c3 c5 b;refine oZ (λe=>e.cell? ⟨a,0,Ã⟩=Â (Ä Ê t.x)/\e.cell? ⟨a,1,Ã⟩=Â (Ä Ê t.y)/\e.cell? ⟨a,2,Ã⟩=Â (Ä Ê t.n)/\e.cell? ⟨a,3,Ã⟩=Â (Ä Ê t.k)/\e.cell? ⟨a,5,Ã⟩=Â (Í t.C)) [22] fx ?_;iterate 20 apply tk HS.out
 apply ia 20;intro K f;go_simp;go_at_call 168;apply H.out.1.mono;rintro e j ⟨rfl,v⟩;dsimp only;have b:=H.out.2.2 _ _ _ _ v;apply f.out _ _ λ_=>⟨b.r,b.C,b.I,b.M,b.N⟩;clear f K;have h:=aad (W:=w) (cs:=[Ä Ì 0,Ú Û]) (ß U) H.out.2.1 F v;have e0:=h.r 0 _ U;have e1:=h.r 1 _ U;have y0:=h.I 0;have y1:=h.I 1;have i:=b.S ((fc.I (X:=λk=>k=w.heap.size) (p:=⟨w.heap.size,0,Ã⟩) U<|Ä Ì 10).fj<|fc.I (X:=λk=>k=w.heap.size) (p:=⟨w.heap.size,1,Ã⟩) U<|Ú Ô) Z;apply ia 21;intro K f;go_simp;apply f.out _ _ λ_=>⟨i.r,i.C,i.I,i.M,i.N⟩;clear f K;apply ia 22;intro K f;go_simp;apply f.out _ _ λq=>absurd fp q;clear f K;try simp only[Act.put,í,Ŕ,ŕ]
 refine oY fx ?_ _;go_wp2_with fail;let⟨q,q2⟩:=aac (jV.S g v) h F (Ä Ì 10)<|Ú Ô;apply š (TE U U (fq.Y (tl:=[]) (vs:=[Ä Ì 10,Ú Ô]) q2) J.out.1 J.out.2 Z_) U;exact⟨U,lv,q⟩
def amn(ok:E.Ok)(Q:E.T≠200)(l:kB E.r E.T E.C s lv w)(m:w.ownsRow 0 257 2 lv ls.length (oH ls))(z:sT w)(B:iZ s)(c:nX a t w)(f:t.Ok)(hlen:(ls.length:Int)+400<=1000000)(D:t.r=2): Ñ À 154 #[Ç<|Â ⟨E.r,0,Ã⟩,Ç<|Â ⟨a,0,Ã⟩] w (M0 E lv ls.length w<|lV s ls t):=by
 have F:=fq.M l;have hla:=c.G;have S:=c.r;have V:=c.C;have Y:=c.I;have c3:=c.M;have c4:=c.Y;have c5:=c.N;have hn:=M1 f.I f.M;have hk:=M1 f.r f.C;let⟨d2,G,I⟩:=É.1 Y_;have J:=eZ<|Á G I;clear G I;have g:=(fc.iw fh w #[Ä Ì 0,Ú Û] 246).fj<|fc.gG _ _;have o:=l.oR g id;have u:=im m g λ_ _=>id;have b:=c.S g id;have RA:=z.r g id;rw[D]at c4;have L:lV s ls t=((20,Ô),(rQ s t.x t.C).1,(rQ s t.x t.C).2,ls):=by unfold lV;rw[if_neg Z,if_pos D]
 rw[L];have C:=amk (ls:=ls) ok o u B t.x t.C f.x (by have:=f.Y.1;omega);have M:∀(j:Ë) (N:St) (O:List (Nat×Int)) (P:È),jV E lv ls.length _ N O j P->nX a t j:=λj N O P r=>nX.I0 Q b o u r;have H:=eZ<|Á C<|Á m M;clear C M l m z B c f o u RA L;go_enter η,Η;go_wp2_with fail;have HS:=eZ<|Á b.r<|Á b.C<|Á b.I<|Á b.M b.N;clear S V Y c3 c5 b;refine oZ (λd=>d.cell? ⟨a,0,Ã⟩=Â (Ä Ê t.x)/\d.cell? ⟨a,1,Ã⟩=Â (Ä Ê t.y)/\d.cell? ⟨a,2,Ã⟩=Â (Ä Ê t.n)/\d.cell? ⟨a,3,Ã⟩=Â (Ä Ê t.k)/\d.cell? ⟨a,5,Ã⟩=Â (Í t.C)) [15] fx ?_;iterate 13 apply tk HS.out
 apply ia 13;intro K d;go_simp;go_at_call 169;apply H.out.1.mono;rintro e j ⟨rfl,v⟩;dsimp only;have b:=H.out.2.2 _ _ _ _ v;apply d.out _ _ λ_=>⟨b.r,b.C,b.I,b.M,b.N⟩;clear d K;have h:=aad (W:=w) (cs:=[Ä Ì 0,Ú Û]) (ß U) H.out.2.1 F v;have e0:=h.r 0 _ U;have e1:=h.r 1 _ U;have y0:=h.I 0;have y1:=h.I 1;have i:=b.S ((fc.I (X:=λk=>k=w.heap.size) (p:=⟨w.heap.size,0,Ã⟩) U<|Ä Ì 20).fj<|fc.I (X:=λk=>k=w.heap.size) (p:=⟨w.heap.size,1,Ã⟩) U<|Ú Ô) Z;apply ia 14;intro K d;go_simp;apply d.out _ _ λ_=>⟨i.r,i.C,i.I,i.M,i.N⟩;clear d K;apply ia 15;intro K d;go_simp;apply d.out _ _ λq=>absurd fp q;clear d K;try simp only[Act.put,í,Ŕ,ŕ]
 refine oY fx ?_ _;go_wp2_with fail;let⟨q,q2⟩:=aac (jV.S g v) h F (Ä Ì 20)<|Ú Ô;apply š (TE U U (fq.Y (tl:=[]) (vs:=[Ä Ì 20,Ú Ô]) q2) J.out.1 J.out.2 Z_) U;exact⟨U,lv,q⟩
def amo(ok:E.Ok)(c:E.T≠200)(d:kB E.r E.T E.C s lv w)(e:w.ownsRow 0 257 2 lv ls.length (oH ls))(f:sT w)(g:iZ s)(h:nX a t w)(b:t.Ok)(i:(ls.length:Int)+400<=1000000): Ñ À 154 #[Ç<|Â ⟨E.r,0,Ã⟩,Ç<|Â ⟨a,0,Ã⟩] w (M0 E lv ls.length w<|lV s ls t):=by
 by_cases j:t.r=1
 .exact amm ok c d e f g h b i j
 .by_cases k:t.r=2
  .exact amn ok c d e f g h b i k
  .exact(b.S j k).ox ok c d e f g h b.N i j k
end
def aae:∀(d a b c:List È) (k:Nat),b.length=d.length->(d.zipIdx k).foldl (λ(q:Array È) (p:Value×Nat)=>q.setIfInBounds (a.length-k+p.2) p.1) (a++b++c).toArray=(a++d++c).toArray\/a.length<k
 |[],a,b,c,k,h=>by have:b=[]:=Ø (by simpa using h);subst this;exact ß U
 |v::r,a,b,c,k,h=>by
  rcases ř a.length k with q|q
  .exact ä q
  .match b,h with
   |x::b,h=>
    apply ß;have p:=(aae r (a++[v]) b c (k+1)<|by simpa using h).resolve_right (by simp;omega);simp only[List.zipIdx_cons,List.foldl_cons];rw[show a.length-k+k=a.length by omega,í,show(a++x::b++c).set a.length v=a++[v]++b++c by simp];rw[show(a++[v]).length-(k+1)=a.length-k by simp]at p;rw[p];simp
theorem Df{place:Nat->Option (Nat×Nat)}{pre old suf:List È}{size:Nat}{rest:List (Nat×Value)}(a:place i=Â (pre.length,size))(b:v.cells.size=size)(c:old.length=size): ė place (pre++old++suf).toArray ((i,v)::rest)=ė place (pre++v.cells.toList++suf).toArray rest:=by rw[Instr.fill.eq_2];simp only[a];rw[if_neg (by simp only[ù,Ó,Bool.or_eq_true,decide_eq_true_eq,not_or];omega)];have:=(aae v.cells.toList pre old suf 0<|by rw[c,Ň,b]).resolve_right Z;simp only[Nat.sub_zero]at this;grind [Array.toList_zipIdx]
def amq:((À.info? 144).bind (·.zero)).map (λz=>z.cells.toList.drop 144)=Â [Å Ã 0 0]:=fx
def amr:((À.info? 144).bind (·.zero)).map (λz=>z.cells.size)=Â 145:=fx
def aaf:((À.info? 147).bind (·.zero)).map (λz=>z.cells.toList.drop 145)=Â [Ä Ê 0,Å Ã 0 0]:=fx
def aag:((À.info? 147).bind (·.zero)).map (λz=>z.cells.size)=Â 147:=fx
def I1(P:ρ)(t:é):Option (List<|Nat×Nat):=match P.underlying t with
 |some (.struct fs)=>fs.toList.mapM λf=>(P.info? f.type).map λi=>(f.offset,i.size)
 |_=>Ã
def ams:I1 À 144=Â [(0,144),(144,1)]:=fx
def aah:I1 À 147=Â [(0,145),(145,1),(146,1)]:=fx
def I2{c:List (Nat×Nat)}(a:I1 P t=Â c)(b:(P.info? t).bind (·.zero)=Â z)(e:List (Nat×Value)):P.built t e=ė (c.toArray[·]?) z.cells e:=by
 unfold I1 at a;unfold Program.built;cases f:P.info? t with
 |none=>rw[f]at b;cases b
 |some h=>
  rw[f]at b;have b:h.zero=Â z:=b;cases g:P.underlying t with
  |none=>rw[g]at a;cases a
  |some d=>
   rw[g]at a;cases d<;>first|(cases a;done)|skip
   simp only at a;simp only[b,a]
theorem M3{suf:List È}(h:((P.info? t).bind (·.zero)).map (λz=>z.cells.toList.drop n)=Â suf)(a:((P.info? t).bind (·.zero)).map (λz=>z.cells.size)=Â m)(c:n<=m):∃z old,(P.info? t).bind (·.zero)=Â z/\old.length=n/\z.cells=(old++suf).toArray:=by
 let⟨z,b,d⟩:=É.1 h;rw[b]at a;have a:z.cells.size=m:=by injection a
 refine⟨z,z.cells.toList.take n,b,by rw[List.length_take,Ň,a];omega,?_⟩;grind
theorem amt(h:l.length=144):À.built 144 [(0,õ l.toArray)]=Â (l++[Å Ã 0 0]).toArray:=by let⟨z,d,a,b,c⟩:=M3 amq amr A;rw[I2 ams a,c];have:=Df (place:=λi=>[(0,144),(144,1)].toArray[i]?) (pre:=[]) (suf:=[Å Ã 0 0]) (i:=0) (v:=õ l.toArray) (rest:=[]) U (by show l.toArray.size=144;simp[h]) b;simpa[ė,Ĝ]using this
theorem amu(h:l.length=145)(a:v.cells=#[v]):À.built 147 [(0,õ l.toArray),(1,v)]=Â (l++[v,Å Ã 0 0]).toArray:=by let⟨z,g,c,d,f⟩:=M3 aaf aag A;rw[I2 aah c,f];have b:=Df (place:=λi=>[(0,145),(145,1),(146,1)].toArray[i]?) (pre:=[]) (suf:=[Ä Ê 0,Å Ã 0 0]) (i:=0) (v:=õ l.toArray) (rest:=[(1,v)]) U (by show l.toArray.size=145;simp[h]) d;simp only[List.nil_append]at b;rw[b];have e:(õ l.toArray).cells.toList=l:=rfl;rw[e];rw[show(l++[Ä Ê 0,Å Ã 0 0])=l++[Ä Ê 0]++[Å Ã 0 0] by simp,(Df (place:=λi=>[(0,145),(145,1),(146,1)].toArray[i]?) (old:=[Ä Ê 0]) (suf:=[Å Ã 0 0]) (i:=1) (rest:=[]) (by show Â (145,1)=Â (l.length,1);rw[h]) (by rw[a];rfl) U)];simp[ė,a]
def iz(s:St):List È:=(ë 144).map<|rL s
def xr(s:St):(iz s).length=144:=by simp[iz]
theorem Fv(s:St)(lv:È):nu s lv=iz s++[lv]:=by unfold nu iz;grind [ĳ,List.map_congr_left,uw,Tw]
def sV{cs:Array È}(a:o.op=.box T qQ)(b:xX qQ=õ cs):(ċ xX o).run P w=Ξ (.value<|Ç<|Â ⟨w.heap.size,0,Ã⟩) (w.alloc<|Î cs T):=by unfold ċ;simp[a,b,Instr.box,newVar,newRow,Ĝ]
theorem I3{a:Array (Nat×Operand)}{cs:Array È}(b:o.op=.build T a)(h:P.built T (a.map λ(i,x)=>(i,xX x)).toList=Â cs):(ċ xX o).run P w=Ξ (.value<|õ cs) w:=by have:=run_build w T (a.map λ(i,x)=>(i,xX x)) cs h;unfold ċ;simp_all
theorem aai(a:o.op=.build 144 #[(0,qQ)])(b:xX qQ=õ l.toArray)(c:l.length=144):(ċ xX o).run À w=Ξ (.value<|õ (l++[Å Ã 0 0]).toArray) w:=by grind [I3,amt]
theorem amv{y:ķ}(a:o.op=.build 147 #[(0,qQ),(1,y)])(b:xX qQ=õ l.toArray)(c:xX y=v)(d:l.length=145)(e:v.cells=#[v]):(ċ xX o).run À w=Ξ (.value<|õ (l++[v,Å Ã 0 0]).toArray) w:=by apply I3 a;grind [amu]
def aaj:(À.underlying 140).map ľ=Â Ô:=fx
def amw:(À.info? 140).map (·.size)=Â 144:=fx
structure rR(vb:Nat)(s:St)(h:Int)(w:Ë):Prop where
 C:w.rangeAt vb 0 (iz s)
 h:w.cell? ⟨vb,145,Ã⟩=Â (Ä Ê h)
def rR.r{s:St}(a:rR i s h w)(k:fc X w u)(b:¬X i):rR i s h u:= ⟨λj v c=>k.r (a.C j v c) b,k.r a.h b⟩
def xt(l:List (Int×Bool)):List È:=l.flatMap λp=>[Ä Ì p.1,Ú p.2]
structure NX(B:Nat)(h:Int)(lv uv:È)(s:St)(ls:List (Nat×Int))(us:List (Int×Bool))(w0 w:Ë):Prop where
 r:kB B 147 [Ä Ê h,uv] s lv w
 C:w.ownsRow 0 257 2 lv ls.length (oH ls)
 I:w.ownsRow 0 246 2 uv us.length (xt us)
 M:fc fh w0 w
 N:w0.heap.size<=B
 S:∀j,lv.ownBlock=Â j->w0.heap.size<=j
 Y:∀j,uv.ownBlock=Â j->w0.heap.size<=j
def NX.jc(w:Ë)(s:St)(h:Int):NX w.heap.size h (Å Ã 0 0) (Å Ã 0 0) s [] [] w ((ĝ w<|Î (iz s++[Å Ã 0 0,Ä Ê h,Å Ã 0 0]).toArray 147).drew):=by refine⟨?_,Ğ _ _ _ _,Ğ _ _ _ _,(fc.iw _ _ _ _).fj<|fc.gG _ _,å _,(λj q=>nomatch q),(λj q=>nomatch q)⟩;unfold kB;rw[Fv,show iz s++[Å Ã 0 0]++[Ä Ê h,Å Ã 0 0]=iz s++[Å Ã 0 0,Ä Ê h,Å Ã 0 0] by simp];exact fq.N w _ 147
section
variable{B:Nat}{b:È}{s c:St}{ls d:List (Nat×Int)}{us:List (Int×Bool)}
def TH(B:Nat)(h:Int)(b:È):pH:=⟨B,147,[Ä Ê h,b]⟩
def aak(B:Nat)(h:Int)(b:È):(TH B h b).Ok:=⟨by show(147:Nat)≠36;decide,by show(147:Nat)≠257;decide,by show(147:Nat)≠282;decide,by show(147:Nat)≠300;decide,by show(147:Nat)≠252;decide,by show(147:Nat)≠246;decide⟩
def NX.fE(x:NX B h z b s ls us u w)(k:fc fh w W):NX B h z b s ls us u W:= ⟨x.r.oR k id,im x.C k λ_ _=>id,im x.I k λ_ _=>id,x.M.fj k,x.N,x.S,x.Y⟩
def NX.I0(x:NX B h z b s ls us u w)(r:jV (TH B h b) z ls.length w c d W jQ):NX B h jQ b c d us u W:=by
 have f:=x.r;refine⟨r.r,r.I,im x.I r.C ?_,x.M.C r.C ?_,x.N,λj q=> ?_,x.Y⟩
 .rintro j i (q|q)
  .let⟨g,a⟩:=nV x.I i;have e:j=B:=q;rw[e,f]at a;cases a
  .exact IL x.I x.C A i q
 .rintro i a (q|q)
  .have:=x.N;have e:i=B:=q;omega
  .have:=x.S i q;omega
 .rcases r.l j q with e|e
  .exact x.S j e
  .exact ç x.M.M e
def NX.ft(x:NX B h z b s ls us u w)(a:i<8)(v:Int):NX B h z b (s.ft i v) ls us u (w.setCell ⟨B,i*18,Ã⟩<|Ä Ì v):= x.I0<|(jV.fV (E:=TH B h b) x.r x.C).ft (aak _ _ _) a v
def aal(us:List (Int×Bool)):∀u∈xt us,j4 u=Ô:=λu a=>by unfold xt at a;let⟨e,_,h⟩:=ũ.1 a;simp at h;rcases h with rfl|rfl<;>rfl
def amx:(À.info? 246).map (λi=>(i.zero,i.size,i.bytes))=Â (Â<|õ #[Ä Ì 0,Ú Û],2,16):=fx
def NX.G(x:NX B h z b s ls us u w):w.cell? ⟨B,146,Ã⟩=Â b:= fq.r x.r 146 _<|by rw[î (by rw[rM];omega),rM];rfl
def NX.amy{g:Int}(x:NX B h z b s ls us u w)(a:nW w 0 246 2 b us.length (xt us) 1 [Ä Ì g,Ú yQ] v W): NX B h z b s ls us u W/\NX B h z v s ls (us++[(g,yQ)]) u (W.setCell ⟨B,146,Ã⟩ v):=by
 have f:∀{i:Nat} {l:Array È} {T:é},b.ownBlock=Â i->w.heap[i]?=Â (Î l T (0,0))->T=246:=λ{i l T} q hc=>by let⟨k,e⟩:=nV x.I q;rw[hc]at e;cases e;rfl
 have m:=x.M.C a.r λi o q=>by have:=x.Y i q;omega
 have c:NX B h z b s ls us u W:=⟨x.r.oR a.r λq=>absurd (f q x.r) A,im x.C a.r (λj q r=>by let⟨k,e⟩:=nV x.C q;exact absurd (f r e) A),a.I _ _ _ x.I λ_=>å _,m,x.N,x.S,x.Y⟩;have n:W.ownsRow 0 246 2 v (us++[(g,yQ)]).length (xt<|us++[(g,yQ)]):=by have:=a.fg;rwa[show xt us++[Ä Ì g,Ú yQ]=xt (us++[(g,yQ)]) by simp[xt],show us.length+1=(us++[(g,yQ)]).length by simp]at this
 have d:fc (λk=>k=B) W (W.setCell ⟨B,146,Ã⟩ v):=fc.I (X:=λk=>k=B) (p:=⟨B,146,Ã⟩) U v<|ä<|fq.S c.r;have k:=fq.fO c.r 146 v;rw[List.set_append_right _ _ (by rw[rM];omega),rM]at k;refine⟨c,k,im c.C d λj q r=>iL c.C c.r A (by rw[q,r]),im n d λj q r=>iL n c.r A (by rw[q,r]),m.C d λi o q=>by have:=x.N;omega,x.N,x.S,λj q=> ?_⟩;rcases a.C with e|e
 .exact x.Y j<|by rwa[<-e]
 .rw[e]at q;cases q;exact x.M.M
end
def o5(m:Nat):St->List (Nat×Int)->List (Int×Bool)->List Tx->Option (St×List (Nat×Int)×List (Int×Bool))
 |s,ls,us,[]=>Â (s,ls,us)
 |s,ls,us,t::r=>if(lV s ls t).2.1 then o5 m ((lV s ls t).2.2.1.ft m<|wu<|((lV s ls t).2.2.1 m).ft+(lV s ls t).1.1) (lV s ls t).2.2.2 (us++[(lV s ls t).1]) r else Ã
def aam{s:St}(b:iZ s)(x y:Nat)(c:0<=h):iZ (rP s x y h).2:=by
 unfold rP;split
 .exact b
 .rename_i a;have:=(b.ft x).2;exact(b.r x ⟨Z,Z⟩).r y<|Dd _
def aan{s:St}(a:iZ s)(x:Nat)(e:B.size<=40/\∀c∈B.data.toList,ze c=Ô):iZ (rQ s x B).2:=by
 unfold rQ;split
 .exact a
 .rename_i h;have:=(a.ft x).2;have d:=a.r x (b:=(s x).ft-20) ⟨Z,Z⟩;exact d.fO (d.ft x) (d.C x) e
def aao{s:St}(b:iZ s){ls:List (Nat×Int)}{t:Tx}(a:t.Ok)(c:(ls.length:Int)+400<=1000000):Z' ls (lV s ls t):=by
 unfold lV;split
 .exact⟨by show(0:Int)<=10;decide,by show(10:Int)<=400;decide,aam b _ _ a.I,Ŭ _ _⟩
 .split
  .exact⟨by show(0:Int)<=20;decide,by show(20:Int)<=400;decide,aan b _ a.Y,Ŭ _ _⟩
  .exact(a.S ‹_› ‹_›).ok b a.N c
structure Fw(bp:Option Ě)(n:Nat)(qg:List (Nat×Tx))(w:Ë):Prop where
 C:n=qg.length
 r:∀(j a:Nat) (t:Tx),qg[j]?=Â (a,t)->∃tb te,bp=Â ⟨tb,te,Ã⟩/\w.cell? ⟨tb,te+j,Ã⟩=Â (Ç<|Â ⟨a,0,Ã⟩)/\nX a t w/\t.Ok
def Fw.I{b:List (Nat×Tx)}(h:Fw O n b w)(k:fc fh w u):Fw O n b u:= ⟨h.C,λj a t q=>by let⟨tb,c,d,e,f,g⟩:=h.r j a t q;exact⟨tb,c,d,k.r e id,f.S k id,g⟩⟩
def mO(a:List (Nat×Tx)):List Tx:=a.map (·.2)
section
variable{bp:Option Ě}{cp:Nat}{qg:List (Nat×Tx)}{d:Option (St×List (Nat×Int)×List (Int×Bool))}
def mP(m:Nat)(s:St)(qg:List Tx):Option (St×List (Nat×Int)×List (Int×Bool)):=
 (o5 m s [] [] qg).map λr=>(r.1.ft m<|wu<|(r.1 m).ft+50,r.2)
def Fy(h:Int)(w:Ë)(r:Option (St×List (Nat×Int)×List (Int×Bool)))(e:ζ)(a:Ë):Prop:=
 (r=Ã/\e=Æ (Ç Ã)/\fc fh w a)\/
 ∃s b c i d f,r=Â (s,b,c)/\e=Æ (Ç<|Â ⟨i,0,Ã⟩)/\NX i (h+1) d f s b c w a/\iZ s
theorem amz{s:St}(l:rR b s h w)(hh0:0<=h)(hh1:h<=1000)(o:iZ s)(hT:Fw bp n qg w)(hr:sT w)(hn:n<=1000)(L:m<8): Ñ À 115 #[Ç<|Â ⟨b,0,Ã⟩,Ä Ê m,Å bp n cp] w (Fy h w<|mP m s<|mO qg):=by
 let⟨dd,AU,vL⟩:=É.1 aaj;have iO:(À.info? 140).map (·.size)=Â (iz s).length:=by rw[xr];exact amw
 have v:=eZ<|Á AU<|Á vL iO;have mq:=(l.r (fc.gG fh w) id).C;have hht:=(l.r (fc.gG fh w) id).h;have qF:Ê.wrap (h+1)=h+1:=TC Z Z;have k:=eZ<|Á mq hht;have T:=Ù w _ l.h;have H:=eZ<|Á l<|Á o<|Á hT hr;have AO:mP m s (mO qg)=(o5 m s [] []<|mO qg).map λr=>(r.1.ft m<|wu<|(r.1 m).ft+50,r.2):=rfl;rw[AO];clear AU vL mq hht l iO o hT hr AO;generalize hg:o5 m s [] [] (mO qg)=d;have HG:=eZ hg;clear hg;go_enter Tryz.func115,Tryz.ntmps115;go_wp2_with fail;refine oZ (λF=>F.rangeAt b 0 (iz s)/\F.cell? ⟨b,145,Ã⟩=Â (Ä Ê h)) [] fx ?_;iterate 4 apply tk k.out
 apply MW (i:=4) (oi:={dst:=Â 16,op:=Go.Op.load 140<|Go.Operand.tmp 15,type:=140,pos:= "block.go:30",after:=#[{on:=3,ground:=Go.Ground.data}],guard:=Ã}) U fx fx fx fx (λ_ _ _ h=>h) k.out (yieldsIf_load_mid fL 140 _ U b 0 U (iz s) dd (λw h=>h.1) v.out.1 v.out.2.1 v.out.2.2);apply MW (i:=5) (oi:={dst:=Â 17,op:=Go.Op.build 144 #[(0,Go.Operand.tmp 16)],type:=144,pos:= "block.go:30",after:=#[{on:=4,ground:=Go.Ground.data}],guard:=Ã}) U fx fx fx fx (λ_ _ _ h=>h) k.out (ß ⟨fL,λ_ _=>aai U U<|xr s⟩);apply tk k.out 6;apply tk k.out 7;apply tk k.out 8;apply tk k.out 9;apply tk k.out 10;apply MW (i:=11) U fx fx fx fx (λ_ _ _ h=>h) k.out (ß ⟨fL,λ_ _=>amv U U U (by simp[xr]) U⟩);have M:=eZ<|(H.out.1.r (fc.gG fh w) id).r (fc.iw fh _ ((iz s++[Å Ã 0 0])++[Ä Ê<|h+1,Å Ã 0 0]).toArray 147) id;apply ia 12;intro K f;rw[if_pos fL];unfold Ŝ;rw[sV U U,Ď];apply f.out _ _ λ_=>⟨M.out.C,M.out.h⟩;apply ia 13;intro K f;go_simp;apply f.out _ _ λ_=>⟨M.out.C,M.out.h⟩;refine oY fx ?_ _;go_wp2_with fail;have x0:=NX.jc w s<|h+1;generalize õ (iz s).toArray=z16;generalize õ (iz s++[Å Ã 0 0]).toArray=z17;generalize õ (iz s++[Å Ã 0 0,Ä Ê<|h+1,Å Ã 0 0]).toArray=z23;go_loopw [27] (λi wr=>∃(j:Nat) (s:St) (z:List (Nat×Int)) (us:List (Int×Bool)) (V N:È),i=Ä Ê j/\j<=n/\NX w.heap.size (h+1) V N s z us w wr/\iZ s/\z.length<=400*j/\us.length=j/\o5 m s z us ((mO qg).drop j)=d) λi _=>n-(ê i).toNat
 case atStart=>exact⟨0,s,[],[],_,_,U,Þ _,x0,H.out.2.1,fp,U,HG.out⟩
 case round=>
  clear x0 HG k v M;obtain⟨j,s,z,us,V,N,rfl,hj,x,o,hls,L8,D⟩:=hrel;obtain⟨wo,rfl⟩:∃wo,wo=wr:=⟨_,U⟩;have W:=H.out.2.2.1.C;by_cases wR:j=n
  .have P:(mO qg).drop j=[]:=ü (by unfold mO;rw[Ĵ,<-W];omega);rw[P]at D;subst D wR;have d1:=x.r.ft L;have f1:=fq.I x.r<|m*18;have hl1:=fq.M x.r;have b0:=(o.ft m).1;have b1:=(o.ft m).2;have hm0:(0:Int)<=(m:Int):=Z
   have hm1:(m:Int)<8:=Z
   have B:=eZ<|Á x o;generalize hbb:(s m).ft=b at*;go_wp2_with fail;go_region;go_wp2_with fail;go_ret;refine ä ⟨s.ft m<|wu<|(s m).ft+50,z,us,w.heap.size,V,N,U,U,?_,B.out.2.r m<|Dd _⟩;rw[hbb];first
    |exact(B.out.1.ft L<|wu<|b+50).fE<|fc.gG _ _
    |exact(B.out.1.still<|Keep.drew _ _).ft L<|wu<|b+50
  .have T:j<n:=Z
   obtain⟨⟨a,t⟩,X⟩:∃p,qg[j]?=Â p:=⟨_,Ï<|by rw[<-W];exact T⟩;have P:(mO qg).drop j=t::(mO qg).drop (j+1):=by
    have ht:(mO qg)[j]?=Â t:=by unfold mO;rw[ý,X];rfl
    grind [ô]
   obtain⟨tb,tq,rfl,hc,hta,Y⟩:=(H.out.2.2.1.I x.M).r j a t X;have hlen:(z.length:Int)+400<=1000000:=Z
   have G:=aao o Y hlen;rw[P]at D;unfold o5 at D;have C:=amo (aak _ _ _) (by show(147:Nat)≠200;decide) x.r x.C (H.out.2.2.2.r x.M id) o hta Y hlen;obtain⟨g,c,dn,s1,Q,ho⟩:∃g c dn s1 Q,lV s z t=((g,c),dn,s1,Q):=⟨_,_,_,_,_,U⟩;rw[ho]at D G C;have LC:0<=g:=G.g0;have hg1:g<=400:=G.C;have I:=G.s;have auy:Q.length<=z.length+400:=G.r;have e1:(0:Int)<=(j:Int):=Z
   have e2:(j:Int)<(n:Int):=Z
   have auz:=fq.M x.r;have O:=eZ<|Á x<|Á C<|Á D I;have HU:=eZ L8;have hu1:us.length<=1000:=Z
   clear L8;clear x C D hta Y o ho G P X I W;go_wp2_with fail;go_at_call 154;apply O.out.2.1.mono;rintro e y ⟨rfl,Fl,r1⟩;have E:=O.out.1.I0 r1;have I:=O.out.2.2.2;cases dn with
   |false=>
    have B:=eZ E;clear E;go_wp2_with fail;go_ret;exact ß ⟨by rw[<-O.out.2.2.1];rfl,U,B.out.M.fj<|fc.iw _ _ _ _⟩
   |true=>
    have m1:=E.r.ft L;have z1:=fq.I E.r<|m*18;have hl1:=fq.M E.r;have b0:=(I.ft m).1;have b1:=(I.ft m).2;have hub:N.ownBlock≠Â y.heap.size:=λq=>by have:=(E.I.lt _ q).2;omega
    have B:=eZ<|Á E I;generalize hb:(s1 m).ft=b at*;have hm0:(0:Int)<=(m:Int):=Z
    have hm1:(m:Int)<8:=Z
    go_wp2_with fail
    go_region
    have hx8:=(B.out.1.ft L<|wu<|b+g).fE<|(fc.iw fh _ #[Ä Ì g,Ú c] 246).fj<|fc.gG _ _;have hU:fq y.heap.size [Ä Ì g,Ú c] 246 (Ī<|ĝ (y.setCell ⟨w.heap.size,m*18,Ã⟩<|Ä Ì<|wu<|b+g)<|Î #[Ä Ì g,Ú c] 246):=by
     have:=fq.N (y.setCell ⟨w.heap.size,m*18,Ã⟩<|Ä Ì<|wu<|b+g) [Ä Ì g,Ú c] 246;have h0:fq y.heap.size [Ä Ì g,Ú c] 246 (ĝ (y.setCell ⟨w.heap.size,m*18,Ã⟩<|Ä Ì<|wu<|b+g)<|Î #[Ä Ì g,Ú c] 246):=by simpa using this
     exact h0
    go_wp2_with fail
    change Code.wp À _ _ _ (Ī<|ĝ (y.setCell ⟨w.heap.size,m*18,Ã⟩<|Ä Ì<|wu<|b+g)<|Î #[Ä Ì g,Ú c] 246);generalize Ī (ĝ (y.setCell ⟨w.heap.size,m*18,Ã⟩<|Ä Ì<|wu<|b+g)<|Î #[Ä Ì g,Ú c] 246)=w8 at*;generalize y.heap.size=ub at*;have x9:=hx8.fE<|fc.gG fh w8;have U9:=hU.C (fc.gG fh w8) id;let⟨i0,qh,oI,AV,AW⟩:=ì amx;have v:=eZ<|Á qh<|Á oI<|Á AV AW;have k:=eZ<|Á x9.G<|Á (U9.r 0 _ rfl)<|U9.r 1 _ rfl;have HN:=eZ<|Á x9 U9;refine oZ (λF=>F.cell? ⟨w.heap.size,146,Ã⟩=Â N/\F.cell? ⟨ub,0,Ã⟩=Â (Ä Ì g)/\F.cell? ⟨ub,1,Ã⟩=Â (Ú c)) [10] fx ?_;iterate 6 apply tk k.out
    have y1:=HN.out.1.fE<|fc.iw fh _ #[Ä Ì g,Ú c] 246;have V1:=HN.out.2.C (fc.iw fh _ #[Ä Ì g,Ú c] 246) id;refine ia 6 ?_;intro K f;go_simp;refine f.out _ _ (λ_=>⟨y1.G,V1.r 0 _ U,V1.r 1 _ U⟩) ?_;refine ia 7 ?_;intro K f;refine IV (hfl:=ä ⟨fp,λu S=>(ö.1 S).elim (aal us u) (λq=>by simp at q;rcases q with rfl|rfl<;>rfl),by simp[j4,Ĝ]⟩) fL _ _ 145 fL Tryz.underlying145 v.out.1 v.out.2.1 v.out.2.2.1 v.out.2.2.2 U fL y1.I ⟨_,0,Ã⟩ [Ä Ì g,Ú c] fL Z U (cell_two_new _ _ _ _) (λu S=>by simp at S;rcases S with rfl|rfl<;>rfl) (by unfold ā;omega) Z (Þ _) ?_;intro uv1 w9 l;obtain⟨a2,cp2,rfl⟩:=jv l.fg;let⟨n1,n2⟩:=y1.amy l;have J:=V1.C l.r hub;refine f.out _ _ (λ_=>⟨n1.G,J.r 0 _ U,J.r 1 _ U⟩) ?_;have dl:=n1.G;have fz:=fq.I n1.r 146;refine ia 8 ?_;intro K f;go_simp;refine f.out _ _ (λ_=>⟨dl,J.r 0 _ U,J.r 1 _ U⟩) ?_;refine ia 9 ?_;intro K f;go_simp;refine f.out _ _ (λ_=>⟨dl,J.r 0 _ U,J.r 1 _ U⟩) ?_;refine ia 10 ?_;intro K f;go_simp;refine f.out _ _ (λq=>absurd fp q) ?_;refine oY fx ?_ _;go_wp2_with fail;subst hb;go_roundw
    case rel=>exact⟨j+1,_,Q,us++[(g,c)],Fl,_,by go_num,T,n2,B.out.2.r m<|Dd _,Z,by simp[HU.out],O.out.2.2.1⟩
    case measure=>simp[ê];omega
end
def nY(i:Nat):ByteArray:=if i<10 then⟨#[(48+i).toUInt8]⟩else⟨#[(48+i/10).toUInt8,(48+i%10).toUInt8]⟩
def amA:∀k:Fin 10,(⟨#[48,49,50,51,52,53,54,55,56,57,97,98,99,100,101,102,103,104,105,106,107,108,109,110,111,112,113,114,115,116,117,118,119,120,121,122]⟩:ByteArray).extract k.val (k.val+1)=nY k.val:=by decide+kernel
def amB:∀k:Fin 100,k.val<10\/(⟨#[48,48,48,49,48,50,48,51,48,52,48,53,48,54,48,55,48,56,48,57,49,48,49,49,49,50,49,51,49,52,49,53,49,54,49,55,49,56,49,57,50,48,50,49,50,50,50,51,50,52,50,53,50,54,50,55,50,56,50,57,51,48,51,49,51,50,51,51,51,52,51,53,51,54,51,55,51,56,51,57,52,48,52,49,52,50,52,51,52,52,52,53,52,54,52,55,52,56,52,57,53,48,53,49,53,50,53,51,53,52,53,53,53,54,53,55,53,56,53,57,54,48,54,49,54,50,54,51,54,52,54,53,54,54,54,55,54,56,54,57,55,48,55,49,55,50,55,51,55,52,55,53,55,54,55,55,55,56,55,57,56,48,56,49,56,50,56,51,56,52,56,53,56,54,56,55,56,56,56,57,57,48,57,49,57,50,57,51,57,52,57,53,57,54,57,55,57,56,57,57]⟩:ByteArray).extract (k.val*2) (k.val*2+2)=nY k.val:=by decide+kernel
theorem amC(i:Nat)(h:i<10)(w:Ë):Ñ À 187 #[Ä Ê i] w λe a=>e=Æ (Í<|nY i)/\a=w:=by
 go_enter Ţ,Θ;go_wp2;all_goals go_ret
 refine⟨N'<|amA ⟨i,h⟩,U⟩
theorem amD(i:Nat)(h:i<100)(b:10<=i)(w:Ë):Ñ À 187 #[Ä Ê i] w λe a=>e=Æ (Í<|nY i)/\a=w:=by
 go_enter Ţ,Θ;go_wp2;all_goals go_ret
 refine⟨N' ((amB ⟨i,h⟩).resolve_left<|by show¬i<10;omega),U⟩
theorem amE(i:Nat)(h:i<100)(w:Ë):Ñ À 187 #[Ä Ê i] w λe a=>e=Æ (Í<|nY i)/\a=w:=by grind [amC,amD]
def amF(i:Nat)(h:i<100)(w:Ë):Ñ À 171 #[Ä Ê i,Ä Ê 10] w λe a=>e=Æ (Í<|nY i)/\a=w:=by go_enter Tryz.func171,Tryz.ntmps171;go_wp2_with (go_at_call 187;refine(amE i h _).mono ?_;rintro e a ⟨rfl,rfl⟩);go_ret;exact⟨U,U⟩
def aap(i:Nat)(h:i<100)(w:Ë):Ñ À 117 #[Ä Ê i] w λe a=>e=Æ (Í<|nY i)/\a=w:=by
 go_enter Tryz.func117,Tryz.ntmps117;go_wp2_with (first
  |(go_at_call 171;refine(amF i h _).mono ?_;rintro e a ⟨rfl,rfl⟩)
  |go_in)
 go_ret;exact⟨U,U⟩
def ov(i:Nat):ByteArray:=⟨#[33]⟩++nY i
def I4(i:Nat)(h:i<10)(w:Ë):Ñ À 114 #[Ä Ê i] w λe a=>e=Æ (Í<|ov i)/\a=w:=by
 have b:(nY i).size=1:=by unfold nY;rw[if_pos h];rfl
 go_enter Tryz.func114,Tryz.ntmps114;go_wp2_with (go_at_call 117;refine(aap i Z _).mono ?_;rintro e a ⟨rfl,rfl⟩);go_ret;exact⟨U,U⟩
def tb(n c:Nat):Nat:=(n^^^c)*1099511628211%18446744073709551616
def I5(n c:Nat):tb n c<18446744073709551616:=ah _ Z
def aaq(n c:Nat)(a:n<18446744073709551616)(f:c<256)(w:Ë):Ñ À 178 #[Ä Ì n,Ä au c] w λe b=>e=Æ (Ä Ì<|tb n c)/\b=w:=by
 go_enter Tryz.func178,Tryz.ntmps178;go_wp2_with fail;go_ret;refine⟨?_,U⟩;have d:Ì.wrap (((n^^^c:Nat):Int)*1099511628211)=((tb n c:Nat):Int):=by rw[az];unfold tb;omega
 rw[bits_xor_u64_nat n c a Z,d];rfl
def tn(m:Nat):Nat->Nat->Nat
 |n,0=>n
 |n,j+1=>tn m (tb n<|m/2^(8*j)%256) j
def aar(m:Nat):∀(j n:Nat),n<18446744073709551616->tn m n j<18446744073709551616
 |0,_,h=>h
 |j+1,_,_=>aar m j _<|I5 _ _
def ny(n m:Nat):Nat:=tn m n 8
theorem Dg(n m:Nat)(a:n<18446744073709551616):ny n m<18446744073709551616:=aar m 8 n a
def I6(n m:Nat)(f:n<18446744073709551616)(o:m<18446744073709551616)(w:Ë):Ñ À 177 #[Ä Ì n,Ä Ì m] w λe g=>e=Æ (Ä Ì<|ny n m)/\g=w:=by
 generalize k:ny n m=r;go_enter Tryz.func177,Tryz.ntmps177;go_wp2;go_loop [0,5] (λa i=>∃h j:Nat,j<=8/\h<18446744073709551616/\tn m h j=r/\i=Ä Ê (((8*j:Nat):Int)-8)/\a=Ä Ì h) λ_ i=>(ê i+8).toNat
 case atStart=>exact⟨n,8,å _,f,k,U,U⟩
 case round=>
  obtain⟨h,j,p,l,b,rfl,rfl⟩:=hrel;cases j with
  |zero=>
   subst b;go_wp2;go_ret;exact⟨U,U⟩
  |succ j=>
   rw[show(((8*(j+1):Nat):Int)-8)=((8*j:Nat):Int) by omega];have q:(0:Int)<=((8*j:Nat):Int):=Z
   have s:((8*j:Nat):Int)<64:=Z
   have T:=aaq h (m/2^(8*j)%256) l Z w;have d:((m/2^(8*j)%256:Nat):Int)=(m:Int)/2^(8*j)%256:=fp
   rw[d]at T;have H:=eZ<|Á T b;clear T d b;generalize c:8*j=j8 at*;go_wp2_with (go_at_call 178;apply H.out.1.mono;rintro e t ⟨rfl,rfl⟩);go_round
   case rel=>exact⟨_,j,Z,I5 _ _,by subst c;exact H.out.2,by subst c;go_num,by subst c;rfl⟩
   case measure=>simp[ê];omega
def M4(p q:Nat):Nat:=ny (ny 14695981039346656037 p) q
def amG(p q:Nat):M4 p q<18446744073709551616:=Dg _ _<|Dg _ _ Z
def pr(l:List Nat)(t:Nat):Nat:=M4 (l.getD (2*t) 0)<|l.getD (2*t+1) 0
def aas(l:List Nat)(t:Nat):M4 (l.getD (2*t) 0) (l.getD (2*t+1) 0)=pr l t:=by unfold pr;exact Eq.refl _
def ko(l:List Nat)(i:Nat):List Nat:=(ë l.length).map λt=>if t<i then pr l t else l.getD t 0
def oJ(l:List Nat):List Nat:=(ë<|l.length/2).map<|pr l
def jw(l:List Nat):List È:=l.map λ(x:Nat)=>Ä Ì x
def vM(l:List Nat):Prop:=∀t,l.getD t 0<18446744073709551616
theorem I7(l:List Nat)(i:Nat):(ko l i).length=l.length:=by simp[ko]
theorem M5(l:List Nat)(i t:Nat)(h:t<l.length):(ko l i)[t]?=Â (if t<i then pr l t else l.getD t 0):=by simp[ko,â h]
theorem amH(l:List Nat):ko l 0=l:=by refine æ λt=> ?_;grind [M5,I7]
theorem amI(l:List Nat)(i:Nat)(h:i<l.length):(ko l i).set i (pr l i)=ko l (i+1):=by refine æ λt=> ?_;grind [M5,I7,Č]
theorem amJ(l:List Nat):ko l (l.length/2)=oJ l++l.drop (l.length/2):=by
 refine æ λt=> ?_;have b:(oJ l).length=l.length/2:=by simp[oJ]
 by_cases a:t<l.length
 .rw[M5 _ _ t a];by_cases q:t<l.length/2
  .rw[if_pos q,Õ Z];simp[oJ,â q]
  .grind
 .grind [I7,Ó,List.length_drop]
def amK(l:List Nat)(t:Nat):pr l t<18446744073709551616:=by rw[<-aas];exact amG _ _
def Fz{l:List Nat}{N:Nat}(a:0<N)(h:∀x∈l,x<N)(t:Nat):l.getD t 0<N:=by
 rw[Ę];cases e:l[t]? with
 |none=>exact a
 |some x=>exact h x<|ć e
def TJ(l:List Nat):vM (oJ l):=Fz Z λx a=>by unfold oJ at a;obtain⟨t,_,rfl⟩:=ī.1 a;exact amK l t
def oK:Nat->List Nat->Nat
 |0,l=>l.getD 0 0
 |k+1,l=>oK k<|oJ l
def TK(l:List Nat)(i x:Nat):jw (l.set i x)=(jw l).set i (Ä Ì x):=by simp[jw,List.map_set]
theorem I8(l:List Nat)(i x:Nat)(h:l[i]?=Â x):(jw l)[i]?=Â (Ä Ì x):=by simp[jw,h]
def aat:È->Nat
 |Å _ n _=>n
 |_=>0
def aau{cp:Nat}{l:List Nat}{junk:List È}(j:l.length=2^k)(s:l.length<=16)(z:l.length<=cp)(o:vM l)(a:fq b (jw l++junk) T w): Ñ À 162 #[Å (Â ⟨b,0,Ã⟩) l.length cp] w λe B=>e=Æ (Ä Ì<|oK k l)/\fc (λi=>i=b) w B:=by
 have H:=eZ<|Á j<|Á s<|Á z<|Á o a;clear j s z o a;generalize O:oK k l=r;have P:=eZ O;clear O;generalize Q:l.length=n;go_enter Tryz.func162,Tryz.ntmps162;go_wp2_with fail;go_loopw [0] (λx wr=>∃(k:Nat) (l:List Nat) (junk:List È),x=Å (Â ⟨b,0,Ã⟩) l.length cp/\l.length=2^k/\l.length<=16/\l.length<=cp/\vM l/\fc (λk=>k=b) w wr/\fq b (jw l++junk) T wr/\oK k l=r) λx _=>aat x
 case atStart=>exact⟨k,l,junk,by rw[Q],H.out.1,H.out.2.1,H.out.2.2.1,H.out.2.2.2.1,fc.fV _ _,H.out.2.2.2.2,P.out⟩
 case round=>
  clear H P Q l junk;obtain⟨k,l,junk,rfl,j,s,z,o,g,a,C⟩:=hrel;obtain⟨D,rfl⟩:∃D,D=wr:=⟨_,U⟩;cases k with
  |zero=>
   have hc:D.cell? ⟨b,0,Ã⟩=Â (Ä Ì<|l.getD 0 0):=a.r 0 _ (by rw[Õ (by simp[jw];omega)];exact I8 _ _ _<|by rw[Ę,Ï Z];rfl);rw[show l.getD 0 0=r from C]at hc;rw[j];have HK:=eZ g;clear g a o j C s;go_wp2_with fail;go_ret;exact⟨U,HK.out⟩
  |succ k=>
   have S:2*2^k=l.length:=by rw[j,Nat.pow_succ];omega
   have F:0<2^k:=Nat.pow_pos Z;have V:(oJ l).length=2^k:=by rw[oJ,Ĵ,List.length_range];omega
   have G:=amJ l;rw[show l.length/2=2^k by omega]at G;have c:=eZ<|Á V<|Á g<|Á C<|Á a<|Á o G;clear g C o a V j G;obtain⟨d,I⟩:∃d,d=2^k:=⟨_,U⟩;rw[<-I]at c S F;obtain⟨h,J⟩:∃h,l.length=h:=⟨_,U⟩;have u:=eZ<|Á I J;rw[J]at S s z|-;clear I J;have e2:(h:Int).tdiv 2=(d:Int):=by rw[Int.tdiv_eq_ediv_of_nonneg Z];omega
   have e3:(0:Int)<=(d:Int):=Z
   have e4:(d:Int)<=(cp:Int):=Z
   go_wp2_with fail
   rw[show decide ((1:Int)<(h:Int))=Ô from decide_eq_true Z];go_loopw [12] (λy W=>∃i:Nat,i<=d/\y=Ä Ê i/\fc (λk=>k=b) D W/\fq b (jw (ko l i)++junk) T W) λy _=>d-(ê y).toNat
   case atStart=>exact⟨0,Þ _,U,fc.fV _ _,by rw[amH];exact c.out.2.2.2.1⟩
   case round=>
    obtain⟨i,hi,rfl,g,a⟩:=hrel;by_cases he:i=d
    .subst he;have v:=eZ<|Á g a;clear g a;go_wp2_with fail;go_roundw
     case rel=>
      refine⟨k,oJ l,jw (l.drop i)++junk,by rw[c.out.1],c.out.1.trans u.out.1,by rw[c.out.1];omega,by rw[c.out.1];omega,TJ l,c.out.2.1.fj v.out.1,?_,c.out.2.2.1⟩;have q:=v.out.2;rw[c.out.2.2.2.2.2]at q;rw[<-þ];simpa[jw]using q
     case measure=>simp[aat];omega
    .have gE:i<d:=Z
     have E:=λt (h1:i<=t) (h3:t<h)=>
      a.r t _<|by rw[Õ (by simp[jw,I7,u.out.2];omega)];exact I8 _ _ _<|by rw[M5 l i t (by rwa[u.out.2]),if_neg Z]
     have c0:=E i Z Z;have c1:=E (2*i) Z Z;have c2:=E (2*i+1) Z Z;have f0:=a.I i;have L:=a.fO i<|Ä Ì<|pr l i;rw[Ć _ _ (by simp[jw,I7,u.out.2];omega),<-TK,amI l i (by rw[u.out.2];omega)]at L;have F:=c.out.2.2.2.2.1<|2*i;have hq:=c.out.2.2.2.2.1<|2*i+1;have M:=aas l i;have v:=eZ<|Á g L;clear g a L E;generalize l.getD (2*i) 0=p at*;generalize l.getD (2*i+1) 0=q at*;generalize l.getD i 0=v0 at*;unfold M4 at M;have e0:(0:Int)<=(i:Int):=Z
     have e1:(i:Int)<(d:Int):=Z
     have e2:(2:Int)*(i:Int)+1<(h:Int):=Z
     have t1:((2:Int)*(i:Int)).toNat=2*i:=Z
     have t2:((2:Int)*(i:Int)+1).toNat=2*i+1:=Z
     have sK:Ê.wrap (2*(i:Int))=2*(i:Int):=TC Z Z;have Y:Ê.wrap (2*(i:Int)+1)=2*(i:Int)+1:=TC Z Z;have b1:(0:Int)<=2*(i:Int):=Z
     have b2:2*(i:Int)<(h:Int):=Z
     have b3:(0:Int)<=2*(i:Int)+1:=Z
     have b4:(i:Int)<(h:Int):=Z
     have HZ:=eZ M;clear M;go_wp2_with fail;have f:=eZ<|Á c1 c2;refine oZ (λB=>B.cell? ⟨b,2*i,Ã⟩=Â (Ä Ì p)/\B.cell? ⟨b,2*i+1,Ã⟩=Â (Ä Ì q)) [16] fx ?_;iterate 7 apply tk f.out
     apply tk f.out 8;apply tk f.out 9;apply tk f.out 10;apply tk f.out 11;apply tk f.out 12;apply tk f.out 13;refine ia 7 ?_;intro K m;go_simp;go_at_call 177;refine(I6 14695981039346656037 p Z F _).mono ?_;rintro e N ⟨rfl,Y⟩;subst N;refine m.out _ _ (λ_=>f.out) ?_;refine ia 14 ?_;intro K m;go_simp;go_at_call 177;refine(I6 (ny 14695981039346656037 p) q (Dg _ _ Z) hq _).mono ?_;rintro e N ⟨rfl,Y⟩;subst N;refine m.out _ _ (λ_=>f.out) ?_;refine ia 15 ?_;intro K m;go_simp;refine m.out _ _ (λ_=>f.out) ?_;refine ia 16 ?_;intro K m;go_simp;refine m.out _ _ (λq=>absurd fp q) ?_;refine oY fx ?_ _;go_wp2_with fail;go_roundw
     case rel=>exact⟨i+1,gE,by go_num,(v.out.1.fj<|fc.I (X:=λk=>k=b) U _).fj<|fc.gG _ _,by rw[HZ.out];exact v.out.2.C (fc.gG fh _) id⟩
     case measure=>simp[ê];omega
def amL:À.underlying 118=Â (.array 16 36):=fx
def amM{p:Int}(w:Ë)(c:i<16)(e:d[i]?=Â (Ä Ì p)):(Ų 118 (õ d)<|Ä Ê (i:Int)).run À w=Ξ (Ä Ì p) w:=by
 have a:(0:Int)<=(i:Int):=Z
 have b:(i:Int)<16:=Z
 simp[Ų,Ŀ amL,asIntOf,go_sem,a,b];go_simp
def lf(x:Nat):Nat:=ny 14695981039346656037 x
theorem AX(x:Nat):lf x<18446744073709551616:=Dg _ _ Z
def aav(x:Nat):ny 14695981039346656037 x=lf x:=by unfold lf;exact Eq.refl _
def nZ(l:List Nat)(i:Nat):List Nat:=(ë 16).map λt=>if t<i then lf (l.getD t 0)else 0
theorem FA(l:List Nat)(i:Nat):(nZ l i).length=16:=by simp[nZ]
theorem TL(l:List Nat)(i t:Nat)(h:t<16):(nZ l i)[t]?=Â (if t<i then lf (l.getD t 0)else 0):=by simp[nZ,â h]
theorem amN(l:List Nat)(i:Nat)(h:i<16):(nZ l i).set i (lf<|l.getD i 0)=nZ l (i+1):=by refine æ λt=> ?_;grind [TL,FA,Č]
def aaw(l:List Nat):vM (nZ l 16):=Fz Z λx a=>by
 unfold nZ at a;obtain⟨t,_,rfl⟩:=ī.1 a;split
 .exact AX _
 .omega
def qS(n:Nat)(l:List UInt8):Nat:=l.foldl (λn c=>tb n c.toNat) n
def amO{c:UInt8}(w:Ë)(a:B.data.toList[i]?=Â c):(Ų 9 (Í B)<|Ä Ê (i:Int)).run À w=Ξ (Ä au (c.toNat:Nat)) w:=by
 have e:(0:Int)<=(i:Int):=Z
 let⟨b,d⟩:=Ò.1 a;have f:i<B.size:=by simpa using b
 have g:B[i]=c:=by rw[<-d];exact(Array.getElem_toList _).symm
 go_simp
abbrev zA:List È:=[Ä Ì 0,Ä Ì 0,Ä Ì 0,Ä Ì 0,Ä Ì 0,Ä Ì 0,Ä Ì 0,Ä Ì 0,Ä Ì 0,Ä Ì 0,Ä Ì 0,Ä Ì 0,Ä Ì 0,Ä Ì 0,Ä Ì 0,Ä Ì 0]
def I9(B:Nat)(P:ByteArray)(a:List Nat):Nat:=qS (ny (lf B)<|oK 4<|nZ a 16) P.data.toList
def M6:∀(k:Nat) (l:List Nat),vM l->oK k l<18446744073709551616
 |0,_,h=>h 0
 |k+1,l,_=>M6 k (oJ l)<|TJ l
def amQ:(À.underlying 118).map ľ=Â Ô:=fx
def amR:(À.info? 118).map (·.size)=Â 16:=fx
def amS(l:List Nat):jw (nZ l 0)=zA:=by rfl
def qi{b:Array Ķ}{c:List Ķ}{x:ķ}(T:é)(_:o.op=.load T x)(h:Ž P b vJ (o::c) y w):Ž P b vJ (o::c) y w:=h
theorem amT{P:ByteArray}(a:j9<18446744073709551616)(hP:P.size<=1000000)(hl:jJ.length=16)(F:vM jJ) (h:w.cell? ⟨m,J,Ã⟩=Â (Ä Ì j9)) (G:w.cell? ⟨m,J+1,Ã⟩=Â (Í P)) (I:∀(j x:Nat),jJ[j]?=Â x->w.cell? ⟨m,J+2+j,Ã⟩=Â (Ä Ì x)): Ñ À 161 #[Ç<|Â ⟨m,J,Ã⟩] w λe d=>e=Æ (Ä Ì<|I9 j9 P jJ)/\fc fh w d:=by
 let⟨dd,K,L⟩:=É.1 amQ;have c:=Ù w _ h;have M:w.rangeAt m (J+2) (jw jJ):=λj v s=>by unfold jw at s;rw[ý]at s;obtain⟨x,h1,rfl⟩:=É.1 s;exact I j x h1
 have N:∀j,j<16->(jw jJ).toArray[j]?=Â (Ä Ì<|jJ.getD j 0):=λj O=>by grind [I8]
 have Q:∀W,fq w.heap.size (jw<|nZ jJ 16) 118 W->Ñ À 162 #[Å (Â ⟨w.heap.size,0,Ã⟩) 16 16] W λe d=>e=Æ (Ä Ì<|oK 4<|nZ jJ 16)/\fc (λi=>i=w.heap.size) W d:=λW hW=>by have t:=aau (w:=W) (b:=w.heap.size) (cp:=16) (k:=4) (T:=118) (l:=nZ jJ 16) (junk:=[]) (by rw[FA]) (by rw[FA];omega) (by rw[FA];omega) (aaw jJ) (by rwa[ď]);rwa[FA]at t
 have S:=M6 4 (nZ jJ 16)<|aaw jJ;unfold I9;generalize oK 4 (nZ jJ 16)=t at*;have V:∀W,Ñ À 177 #[Ä Ì 14695981039346656037,Ä Ì j9] W λe d=>e=Æ (Ä Ì<|lf j9)/\d=W:=λW=>by rw[<-aav];exact I6 14695981039346656037 j9 Z a W
 have Y:∀W,Ñ À 177 #[Ä Ì<|lf j9,Ä Ì t] W λe d=>e=Æ (Ä Ì<|ny (lf j9) t)/\d=W:=λW=>I6 (lf j9) t (AX j9) S W;have Dh:=Dg (lf j9) t<|AX j9;generalize ny (lf j9) t=n2 at*;generalize lf j9=n1 at*;have H:=eZ<|Á h<|Á G<|Á Q<|Á V<|Á Y<|Á N F;have r:=eZ (Á M<|Á K<|Á L<|amR.trans<|congrArg Â<|show 16=(jw jJ).length by simp[jw,hl]);clear Q V Y S F h G N K L M I;go_enter Tryz.func161,Tryz.ntmps161;go_wp2_with (apply qi 118 U;refine ŵ U 118 _ U m (J+2) U (jw jJ) dd (λj v q=>(fc.iw fh _ _ _).r (r.out.1 j v q) id) r.out.2.1 r.out.2.2.1 r.out.2.2.2 ?_);go_loopw [12] (λi wr=>∃j:Nat,j<=16/\i=Ä Ê j/\fc fh w wr/\fq w.heap.size (jw<|nZ jJ j) 118 wr) λi _=>16-(ê i).toNat
 case atStart=>exact⟨0,Þ _,U,fc.iw fh w zA.toArray 118,by rw[amS];exact fq.N w zA 118⟩
 case round=>
  obtain⟨j,O,rfl,g,a⟩:=hrel;by_cases u:j=16
  .subst u;have g0:=g.r H.out.1 id;have HV:=eZ<|Á g a;clear g a;go_wp2_with (first
    |(go_at_call 162;refine(H.out.2.2.1 _ HV.out.2).mono ?_;rintro e w2 ⟨rfl,vg⟩;have y:=HV.out.1.C vg (λi hi q=>by omega);have g1:=y.r H.out.2.1 id;have HK:=eZ y;clear vg y)
    |(go_at_call 177;with_reducible refine(H.out.2.2.2.2.1 _).mono ?_;rintro e D ⟨rfl,rfl⟩)
    |(go_at_call 177;refine(H.out.2.2.2.1 _).mono ?_;rintro e D ⟨rfl,rfl⟩))
   go_loop [6,35] (λx i=>∃n j:Nat,j<=P.size/\n<18446744073709551616/\x=Ä Ì n/\i=Ä Ê j/\qS n (P.data.toList.drop j)=qS n2 P.data.toList) λ_ i=>P.size-(ê i).toNat
   case atStart=>exact⟨n2,0,Þ _,Dh,U,U,U⟩
   case round=>
    obtain⟨n,j,O,hn,rfl,rfl,f⟩:=hrel;have iO:P.data.toList.length=P.size:=fp
    by_cases u:j=P.size
    .rw[ü Z]at f;subst u;have HR:=eZ f;clear f;go_wp2_with fail;go_ret;exact⟨by rw[<-HR.out];rfl,HK.out⟩
    .have c:j<P.size:=Z
     have M7:j<P.data.toList.length:=Z
     rw[ô M7]at f;have hix:=λW=>amO W<|Ï M7;have BV:=(P.data.toList[j]).toNat_lt;have T:=λW=>aaq n (P.data.toList[j]).toNat hn Z W;have HT:=eZ (Á T<|show qS (tb n (P.data.toList[j]).toNat) (P.data.toList.drop<|j+1)=_ from f);clear T f;generalize(P.data.toList[j]).toNat=cn at*;have e0:(0:Int)<=(j:Int):=Z
     have e1:(j:Int)<(P.size:Int):=Z
     have e2:(P.size:Int)<=1000000:=Z
     go_wp2_with (go_at_call 178;refine(HT.out.1 _).mono ?_;rintro e D ⟨rfl,rfl⟩)
     go_round
     case rel=>exact⟨_,j+1,c,I5 _ _,U,by go_num,HT.out.2⟩
     case measure=>simp[ê];omega
  .have c:j<16:=Z
   have hAi:=H.out.2.2.2.2.2.1 j c;have hix:=λW=>amM W c hAi;have h:=a.r j _ (I8 _ _ _<|by rw[TL jJ j j c,if_neg Z]);have f0:=a.I j;have hp:=H.out.2.2.2.2.2.2 j;have E:=a.fO j<|Ä Ì<|lf<|jJ.getD j 0;rw[<-TK,amN jJ j c]at E;have C:=λW=>I6 14695981039346656037 (jJ.getD j 0) Z hp W;rw[aav]at C;generalize lf (jJ.getD j 0)=z at*;generalize jJ.getD j 0=p at*;have HB:=eZ (Á (g.C (fc.I (X:=λk=>k=w.heap.size) (p:=⟨w.heap.size,j,Ã⟩) rfl<|Ä Ì z) λi hi q=>by omega) E);have HC:=eZ C;clear g a E hAi C;go_wp2_with (go_at_call 177;refine(HC.out _).mono ?_;rintro e D ⟨rfl,rfl⟩);go_roundw
   case rel=>exact⟨j+1,c,by go_num,HB.out.1,HB.out.2⟩
   case measure=>simp[ê];omega
abbrev zB:List È:=[Ä Ì 0,Ä Ì 0,Ä Ì 0,Ä Ì 0,Ä Ì 0,Ä Ì 0,Ä Ì 0,Ä Ì 0]
def pI(D:Nat->Nat)(i:Nat):List Nat:=(ë 8).map λt=>if t<i then D t else 0
theorem FB(D:Nat->Nat)(i:Nat):(pI D i).length=8:=by simp[pI]
theorem TM(D:Nat->Nat)(i t:Nat)(h:t<8):(pI D i)[t]?=Â (if t<i then D t else 0):=by simp[pI,â h]
theorem amU(D:Nat->Nat)(i:Nat)(h:i<8):(pI D i).set i (D i)=pI D (i+1):=by refine æ λt=> ?_;grind [TM,FB,Č]
def aax(b:∀i,D i<18446744073709551616):vM (pI D 8):=Fz Z λx a=>by
 unfold pI at a;obtain⟨t,_,rfl⟩:=ī.1 a;split
 .exact b _
 .omega
def amV(D:Nat->Nat):jw (pI D 0)=zB:=by rfl
def Ja(D:Nat->Nat):Nat:=oK 3<|pI D 8
def amW(r:∀a,D a<18446744073709551616)(C:∀a,a<8->∀W,fc (λk=>k=w.heap.size) (w.alloc<|Î zB.toArray 116) W->Ñ À 161 #[Ç<|Â ⟨i,a*18,Ã⟩] W λe b=>e=Æ (Ä Ì<|D a)/\fc fh W b): Ñ À 122 #[Ç<|Â ⟨i,0,Ã⟩] w λe b=>e=Æ (Ä Ì<|Ja D)/\fc fh w b:=by
 have T:∀W,fq w.heap.size (jw<|pI D 8) 116 W->Ñ À 162 #[Å (Â ⟨w.heap.size,0,Ã⟩) 8 8] W λe b=>e=Æ (Ä Ì<|oK 3<|pI D 8)/\fc (λa=>a=w.heap.size) W b:=λW s=>by have t:=aau (cp:=8) (k:=3) (by rw[FB]) (by rw[FB];omega) (by rw[FB];omega) (aax r) (by rwa[ď]);rwa[FB]at t
 unfold Ja;have H:=eZ<|Á C T;clear C T;generalize oK 3 (pI D 8)=t at*;go_enter Tryz.func122,Tryz.ntmps122;go_wp2_with fail;go_loopw [5] (λx wr=>∃a:Nat,a<=8/\x=Ä Ê a/\fc (λk=>k=w.heap.size) (w.alloc<|Î zB.toArray 116) wr/\fq w.heap.size (jw<|pI D a) 116 wr) λx _=>8-(ê x).toNat
 case atStart=>exact⟨0,Þ _,U,fc.fV _ _,by rw[amV];exact fq.N w zB 116⟩
 case round=>
  obtain⟨a,l,rfl,d,f⟩:=hrel;by_cases u:a=8
  .subst u;have m:=(fc.iw fh w zB.toArray 116).C d λa l q=>by omega
   have n:=eZ<|Á m f;clear m f d;go_wp2_with (go_at_call 162;refine(H.out.2 _ n.out.2).mono ?_;rintro e y ⟨rfl,o⟩;have p:=n.out.1.C o (λa l q=>by omega);have g:=eZ p;clear o p);go_ret;exact⟨U,g.out⟩
  .have h:a<8:=Z
   have v:=I8 _ _ _<|TM D a a h;have c:=eZ<|Á d f;clear d f;go_wp2_with (go_at_call 161;refine(H.out.1 a h _ c.out.1).mono ?_;rintro e z ⟨rfl,j⟩;have B:=(c.out.2.C j id).r a _ v;have E:=(c.out.2.C j id).I a;have g:=eZ j;clear j);go_roundw
   case rel=>exact⟨a+1,h,by go_num,(c.out.1.fj<|g.out.ff λ_ _=>Œ).fj (fc.I (X:=λk=>k=w.heap.size) U _),by rw[<-amU D a h,TK];exact(c.out.2.C g.out id).fO a<|Ä Ì<|D a⟩
   case measure=>simp[ê];omega
def vN(a:IP):List Nat:=(ë 16).map λj=>(a.r j).toNat
def AY(a:IP):Nat:=I9 a.ft.toNat a.C<|vN a
def AZ(s:St):Nat:=Ja λi=>AY<|s i
theorem aay(l:List UInt8):∀n,n<18446744073709551616->qS n l<18446744073709551616:=by
 induction l with
 |nil=>exact λn h=>h
 |cons c r h=>exact λn _=>h _<|I5 _ _
theorem TN(B:Nat)(P:ByteArray)(a:List Nat):I9 B P a<18446744073709551616:=by unfold I9;grind [aay,Dg,AX]
def TO(s:St)(h:i<144):(iz s)[i]?=Â (rL s i):=by simp[iz,â h]
def rR.amX{s:St}(m:rR n s h W)(a:iZ s)(i:Nat)(f:i<8): Ñ À 161 #[Ç<|Â ⟨n,i*18,Ã⟩] W λe b=>e=Æ (Ä Ì<|AY<|s i)/\fc fh W b:=by
 have g:=λj d=>by have:=m.C j _<|TO s d;simpa using this
 have b:=a.ft i;have k:=g (i*18) Z;have l:=g (i*18+1) Z;rw[<-uw s (Å Ã 0 0) Z,IQ _ _ f]at k;rw[<-uw s (Å Ã 0 0) Z,MV _ _ f]at l;refine amT (by have e:=b.1;have c:=b.2;omega) (by have:=(a.I i).1;omega) (by simp[vN]) ?_ ?_ l ?_
 .refine Fz Z λx e=> ?_;unfold vN at e;obtain⟨t,_,rfl⟩:=ī.1 e;have c:=(a.C i t).2;omega
 .rw[k];unfold rK;rw[ň b.1]
 .intro j x e;have d:j<16:=by have:=(Ò.1 e).1;simpa[vN]using this
  have c:=g (i*18+2+j) Z;rw[<-uw s (Å Ã 0 0) Z,P_ _ _ f d]at c;have t:((s i).r j).toNat=x:=by simpa[vN,â d]using e
  rw[c,<-t];unfold rK;rw[ň (a.C i j).1]
def amY{s:St}(b:rR i s h w)(c:iZ s): Ñ À 122 #[Ç<|Â ⟨i,0,Ã⟩] w λe d=>e=Æ (Ä Ì<|AZ s)/\fc fh w d:=amW (λa=>TN _ _ _) λa f W k=>((b.r (fc.iw fh w _ _) id).r k<|by show i≠w.heap.size;exact Nat.ne_of_lt<|Ù w _ b.h).amX c a f
def jx(i:Nat):St:=λj=>⟨if j<i then 1000 else 0,⟨#[]⟩,λ_=>0⟩
theorem aaz(i:Nat):jx (i+1)=(jx i).ft i 1000:=by funext j;unfold jx St.ft St.fO;grind
def amZ(s:St)(a:i<8)(x:Int):(iz s).set (i*18) (Ä Ì x)=iz (s.ft i x):=by have h:=Q_ s (Å Ã 0 0) a x;rw[Fv,Fv,Ć _ _ (by rw[xr];omega)]at h;exact List.append_cancel_right h
def am0(s:St)(a:i<8):(iz s)[i*18]?=Â (Ä Ì (s i).ft):=by rw[TO s Z,<-uw s (Å Ã 0 0) Z,IQ _ _ a];rfl
def am1:(À.info? 140).map (λi=>(i.size,i.zero.map λz=>z.cells.toList))=Â (144,Â<|iz<|jx 0):=fx
def am2(s:St):∀v∈iz s,v.oneCell'=Ô:=λv a=>al9 s (lv:=Å Ã 0 0) U v<|by rw[Fv];exact ĺ _ a
def am3(w:Ë):Ñ À 60 #[] w λe E=>e=Æ (õ (iz<|jx 8).toArray)/\fc fh w E:=by
 let⟨F,m,n⟩:=É.1 aaj;let⟨N,f,o⟩:=É.1 am1;simp only[Prod.mk.injEq]at o;let⟨p,r⟩:=o;let⟨G,t,u⟩:=É.1 r;have v:G.cells=(iz<|jx 0).toArray:=by rw[<-u]
 have y:∀s,(À.info? 140).map (·.size)=Â (iz s).length:=λs=>by rw[f,xr];simp[p]
 have g:=fc.iw fh (w.alloc<|Î (iz<|jx 0).toArray 140) (iz<|jx 0).toArray 140;have z:=(fq.N w (iz<|jx 0) 140).C g id;have B:fq (w.heap.size+1) (iz<|jx 0) 140 ((w.alloc<|Î (iz<|jx 0).toArray 140).alloc<|Î (iz<|jx 0).toArray 140):=by have:=fq.N (w.alloc<|Î (iz<|jx 0).toArray 140) (iz<|jx 0) 140;simpa using this
 have a:=eZ<|Á m<|Á n<|Á f<|Á t<|Á v y;have H:=eZ<|Á ((fc.iw fh w (iz<|jx 0).toArray 140).fj g)<|Á z B;clear g z B m n f p r t u v y;go_enter Tryz.func60,Tryz.ntmps60;go_wp2_with (first
  |(with_reducible refine Ā U (Â 0) U _ _ (MX U a.out.2.2.1 a.out.2.2.2.1) ?_;rw[a.out.2.2.2.2.1])
  |(with_reducible refine Ā U (Â 1) U _ _ (MX U a.out.2.2.1 a.out.2.2.2.1) ?_;rw[a.out.2.2.2.2.1]))
 generalize(w.alloc<|Î (iz<|jx 0).toArray 140).alloc (Î (iz<|jx 0).toArray 140)=wa at*;go_loopw [3] (λx wr=>∃i:Nat,i<=8/\x=Ä Ê i/\fc (λk=>k=w.heap.size+1) wa wr/\fq (w.heap.size+1) (iz<|jx i) 140 wr) λx _=>8-(ê x).toNat
 case atStart=>exact⟨0,Þ _,U,fc.fV _ _,H.out.2.2⟩
 case round=>
  obtain⟨i,C,rfl,c,b⟩:=hrel;by_cases h:i<8
  .have O:=b.r _ _<|am0 (jx i) h;have P:=b.I<|i*18;have j:=b.fO (i*18)<|Ä Ì 1000;rw[amZ _ h,<-aaz]at j;have D:=eZ<|Á c j;clear c b j;go_wp2_with fail;go_roundw
   case rel=>exact⟨i+1,h,by go_num,D.out.1.fj (fc.I (X:=λk=>k=w.heap.size+1) U _),D.out.2⟩
   case measure=>simp[ê];omega
  obtain rfl:i=8:=Z
  have l:=H.out.2.1.C c Z;have I:=fq.Y (by rw[ď];exact b);have J:wr.there w.heap.size 0 (iz<|jx 8).toArray.size:=l.MY (by simp[xr]);have K:=IX (iz<|jx 8) [] [] wr (iz<|jx 0) (by rw[xr,xr]) (by simpa using l);have L:=(H.out.1.C c λi C q=>by omega).C (IY (iz<|jx 8) 0 wr l.S) λi C q=>by omega
  have d:=eZ<|Á L<|Á K<|Á I J;go_wp2_with (first
   |(with_reducible refine ŵ U 140 _ U (w.heap.size+1) 0 U (iz<|jx 8) F d.out.2.2.1 a.out.1 a.out.2.1 (a.out.2.2.2.2.2 _) ?_)
   |(with_reducible refine ū U 140 _ _ U w.heap.size 0 (iz (jx 8)).toArray U U d.out.2.2.2 (by rw[a.out.2.2.2.2.2 (jx 8)];simp) (ņ (am2 _)) ?_))
  have M:fq w.heap.size (iz (jx 8)++[]) 140 (wr.setCells w.heap.size 0<|iz<|jx 8):=by simpa using d.out.2.1
  refine š (W_ U U (fq.Y M) a.out.1 a.out.2.1<|a.out.2.2.2.2.2 _) U<|⟨U,d.out.1⟩
structure fM where
 s:St
 C:List (Nat×Int)
 r:List (Int×Bool)
 h:Int
def A0(a:Ě)(k:Nat)(d:List È)(w:Ë):Prop:=
 ∃p c,w.cell? a=Â (Å p k c)/\∀(j:Nat) (x:È),d[j]?=Â x->∃b o,p=Â ⟨b,o,Ã⟩/\w.cell? ⟨b,o+j,Ã⟩=Â x
def A0.r(h:A0 a k l w)(q:fc fh w u):A0 a k l u:=by let⟨p,c,d,e⟩:=h;exact⟨p,c,q.r d id,λj x f=>by let⟨b,o,g,i⟩:=e j x f;exact⟨b,o,g,q.r i id⟩⟩
structure sW(b:Nat)(v:fM)(w:Ë):Prop where
 r:rR b v.s v.h w
 C:iZ v.s
 I:0<=v.h
 M:v.h<=40
 N:A0 ⟨b,144,Ã⟩ v.C.length (oH v.C) w
 S:A0 ⟨b,146,Ã⟩ v.r.length (xt v.r) w
def sW.Y{v:fM}(h:sW b v w)(q:fc fh w u):sW b v u:= ⟨h.r.r q id,h.C,h.I,h.M,h.N.r q,h.S.r q⟩
structure qT(bp:Option Ě)(n:Nat)(vs:List (Nat×fM))(w:Ë):Prop where
 r:n=vs.length
 C:∀(j b:Nat) (v:fM),vs[j]?=Â (b,v)->∃sb so,bp=Â ⟨sb,so,Ã⟩/\w.cell? ⟨sb,so+j,Ã⟩=Â (Ç<|Â ⟨b,0,Ã⟩)/\sW b v w
def qT.I{a:List (Nat×fM)}(h:qT O n a w)(q:fc fh w u):qT O n a u:= ⟨h.r,λj b v e=>by let⟨c,d,f,g,i⟩:=h.C j b v e;exact⟨c,d,f,q.r g id,i.Y q⟩⟩
def zf(a b:Nat×fM):Nat×fM:=if a.2.h<b.2.h then b else a
def vO(d:Nat×fM)(a:List (Nat×fM)):Nat×fM:=a.foldl zf d
def am4{cp:Nat}{a:List (Nat×fM)}{d:Nat×fM}(m:qT O n a w)(F:n<=1000)(o:a[0]?=Â d): Ñ À 153 #[Å O n cp] w λe C=>e=Æ (Ç<|Â ⟨(vO d a).1,0,Ã⟩)/\fc fh w C:=by
 obtain⟨G,H,rfl,k,c⟩:=m.C 0 d.1 d.2 o;have I:0<n:=by rw[m.r];exact(Ò.1 o).1
 generalize x:vO d a=r;have q:=eZ m;clear m;simp only[Nat.add_zero]at k;go_enter Tryz.func153,Tryz.ntmps153;go_wp2_with fail;go_loopw [3,11] (λp i wr=>∃(j:Nat) (e:Nat×fM),j<=n/\fc fh w wr/\sW e.1 e.2 w/\vO e (a.drop j)=r/\p=Ç (Â ⟨e.1,0,Ã⟩)/\i=Ä Ê j) λ_ i _=>n-(ê i).toNat
 case atStart=>exact⟨0,d,Þ _,fc.fV _ _,c,x,U,U⟩
 case round=>
  obtain⟨j,⟨D,y⟩,J,f,s,l,rfl,rfl⟩:=hrel;clear x k c o;by_cases t:j<n
  .obtain⟨⟨b,v⟩,u⟩:∃p,a[j]?=Â p:=⟨_,Ï<|by rwa[<-q.out.r]⟩;let⟨K,L,E,k,c⟩:=q.out.C j b v u;cases E;let⟨z,e⟩:=Ò.1 u;rw[ô z,e]at l;have M:=f.r k id;have N:=f.r c.r.h id;have P:=f.r s.r.h id;have g:=eZ<|Á l<|Á f<|Á c s;clear l f c s k u e z;by_cases B:y.h<v.h;all_goals
    go_wp2_with fail
    go_quiet (fail)
    go_wp2_with fail
   .exact⟨⟨j+1,(b,v),t,g.out.2.1.fj<|fc.jh _ _ _,g.out.2.2.1,by rw[<-g.out.1];simp[vO,zf,B],U,by go_num⟩,by simp[ê];omega⟩
   .exact⟨⟨j+1,(D,y),t,g.out.2.1.fj<|fc.jh _ _ _,g.out.2.2.2,by rw[<-g.out.1];simp only[vO,zf,List.foldl,if_neg<|Int.not_lt.2 B],U,by go_num⟩,by simp[ê];omega⟩
  .rw[ü (by rw[<-q.out.r];omega)]at l;obtain rfl:j=n:=Z
   subst l;go_wp2_with fail;go_ret;exact⟨U,f⟩
def n5(a:List (Nat×fM))(b:Int):Option (Nat×fM):=
 if b=-1 then(a[0]?).map λd=>vO d a else a[b.toNat]?
def oL(b:Option Nat):È:=Ç<|b.map λb=>⟨b,0,Ã⟩
section
variable{cp:Nat}{a:List (Nat×fM)}
def M8(f:qT O n a w)(i:n<=1000)(j:0<n)(c:Int)(m:-1<=c): Ñ À 113 #[Å O n cp,Ä Ê c] w λe b=>e=Æ (oL ((n5 a c).map (·.1)))/\fc fh w b:=by
 by_cases h:c=-1
 .subst h;obtain⟨d,b⟩:∃d,a[0]?=Â d:=⟨_,Ï<|by rwa[<-f.r]⟩;have e:n5 a (-1)=Â (vO d a):=by unfold n5;rw[if_pos U,b];rfl
  rw[e];go_enter ţ,ō;go_wp2_with (go_at_call 153;refine(eZ<|am4 (cp:=cp) f i b).out.mono ?_;rintro e k ⟨rfl,g⟩);go_ret;exact⟨U,g⟩
 .obtain⟨k,rfl⟩:∃k:Nat,c=k:=⟨c.toNat,Z⟩;have e:n5 a (k:Int)=a[k]?:=by unfold n5;rw[if_neg h,Int.toNat_natCast]
  rw[e];by_cases g:k<n
  .obtain⟨⟨b,v⟩,d⟩:∃p,a[k]?=Â p:=⟨_,Ï<|by rwa[<-f.r]⟩;let⟨o,q,l,r,s⟩:=f.C k b v d;rw[d];subst l;go_enter ţ,ō;go_wp2_with fail;go_ret;exact⟨U,fc.fV _ _⟩
  .rw[(List.getElem?_eq_none<|by rw[<-f.r];omega)];go_enter ţ,ō;go_wp2_with fail;go_ret;exact⟨U,fc.fV _ _⟩
end
theorem aaA(a:List (Nat×fM)):∀(l:List (Nat×fM)) (d:Nat×fM),d∈a->(∀x∈l,x∈a)->vO d l∈a
 |[],d,hd,_=>hd
 |x::l,d,hd,hl=>by
  show vO (zf d x) l∈a;refine aaA a l _ ?_ λy b=>hl y<|ŀ _ b;unfold zf;split
  .exact hl x List.mem_cons_self
  .exact hd
theorem Jb{a:List (Nat×fM)}{p:Nat×fM}(h:n5 a c=Â p):p∈a:=by unfold n5 at h;grind [É,aaA,List.mem_of_getElem]
def qT.M{a:List (Nat×fM)}(h:qT O n a w){p:Nat×fM}(b:p∈a):sW p.1 p.2 w:=by let⟨j,c⟩:=List.getElem?_of_mem b;let⟨_,_,_,_,d⟩:=h.C j p.1 p.2 c;exact d
theorem aaB(c:w.cell? ⟨b,i,Ã⟩=Â v)(h:w.ownsRow 0 e j v n l):A0 ⟨b,i,Ã⟩ n l w:=by
 rcases h.2 with⟨rfl,rfl⟩|⟨g,f,k,rfl,_,m,_,_,_,o⟩
 .have d:=Ø (by simpa using h.1);subst d;exact⟨Ã,0,c,λa x q=>by simp at q⟩
 .refine⟨_,_,c,λa x q=>⟨g,0,U,?_⟩⟩;have:=h.cells U a x q;grind [Addr.add_mid]
def NX.am5{s:St}{b:List (Nat×Int)}{us:List (Int×Bool)}(x:NX i h v z s b us u w)(c:iZ s)(d:0<=h)(e:h<=40):sW i ⟨s,b,us,h⟩ w:=by have a:fq i (nu s v++[Ä Ê h,z]) 147 w:=x.r;refine⟨⟨?_,a.r 145 _<|by rw[î (by rw[rM];omega),rM];rfl⟩,c,d,e,aaB x.r.Ty x.C,aaB x.G x.I⟩;rw[Fv,þ]at a;exact a.Y
def am6:(À.info? 136).map (λi=>(i.zero,i.size,i.bytes))=Â (Â<|Ç Ã,1,8):=fx
def am7{p:Array Ķ}{r:List Ķ}(C:o.guard=Ã)(s x:ķ)(t:é) (D:o.op=.call {callee:=.builtin .append,args:=#[s,x],argTypes:=#[t,t]}) (E:P.underlying t=Â (aD e)) (F:P.info? e=Â zJ) (G:zJ.zero=Â z) (B:zJ.size=1) (H:zJ.bytes=8) (g k n:Nat) (b:List È) (I:b.length=n) (J:∀j v,b[j]?=Â v->w.cell? ((⟨g,k,Ã⟩:Ě).add j)=Â v) (L:y.eval s=Å (Â ⟨g,k,Ã⟩) n n) (l:Nat) (v:È) (M:y.eval x=Å (Â ⟨l,0,Ã⟩) 1 1) (N:∀j u,[v][j]?=Â u->w.cell? ((⟨l,0,Ã⟩:Ě).add j)=Â u) (X:n<=1000) (O:lz e=Û) (h:∀c f,n+1<=c->fc fh w f->(∃m:Array È,f.heap[w.heap.size]?=Â (Î m e (0,0))/\0<m.size/\∀u∈m.toList,u∈b\/u=v\/u∈z.cells.toList)->(∀j u,(b++[v])[j]?=Â u->f.cell? ⟨w.heap.size,0+j,Ã⟩=Â u)->Ž P p vJ r (y.put o.dst<|Å (Â ⟨w.heap.size,0,Ã⟩) (n+1) c) f):Ž P p vJ (o::r) y w:=by refine ś C λK S=> ?_;have T:=ų w t o.type e zJ z E F G ⟨g,k,Ã⟩ n n b (by rw[I,B];omega) J ⟨l,0,Ã⟩ 1 1 [v] (by rw[B];rfl) N Z Z (ļ Z<|by rw[H];omega);unfold Ŝ ċ;simp only[D,Ρ,ai,Τ,ŝ,Ş,ě,ĥ,ŋ,ş,L,M,T];refine S _ _ (h _ _ (Ű w (n+1) n e) ((fc.gG _ _).fj<|fc.iw _ _ _ _<|ß O) ⟨_,Ü w.drew _,by simp;omega,λu d=>by simp only[Ņ,ö]at d;rcases d with(q|q)|q;exact ß q;exact ä (ß<|by simpa using q);exact ä<|ä<|Tr q⟩ λj u d=> ?_);have V:(w.drew.alloc<|Î (b.toArray++[v].toArray++á z.cells (Ĺ w (n+1) n e-(n+1))) e).heap[w.heap.size]?=_:=Ü w.drew _;simp only[ς,V,Ő,ő,if_false,Ĩ];have W:=(Ò.1 d).1;rw[Array.getElem?_append_left (by simpa using W)];simpa using d
def uy(v:È)(T:é)(w:Ë):Prop:=v=Å Ã 0 0\/∃g n c a,v=Å (Â ⟨g,0,Ã⟩) n c/\w.heap[g]?=Â (Î a T (0,0))
def uy.I(h:w.ownsRow 0 T i v n l):uy v T w:=by
 rcases h.2 with⟨q,_⟩|⟨g,a,b,c,_,d,_⟩
 .exact ß q
 .exact ä ⟨g,_,a,b,c,d⟩
def uy.C(h:uy v T w)(k:fc fh w u):uy v T u:=by
 rcases h with q|⟨g,n,c,b,d,a⟩
 .exact ß q
 .refine ä ⟨g,n,c,b,d,?_⟩;rwa[k.N g (Array.getElem?_eq_some_iff.1 a).1 id]
def sX(a:List (Nat×fM)):List È:=a.map λp=>Ç<|Â ⟨p.1,0,Ã⟩
structure TP(vs:List (Nat×fM))(B:Nat)(w w':Ë)(g:Nat):Prop where
 C:w.heap.size<=g
 r:∃cur:Array È,w'.heap[g]?=Â (Î cur 136 (0,0))/\0<cur.size/\∀u∈cur.toList,u∈sX vs\/u=Ç (Â ⟨B,0,Ã⟩)\/u=Ç Ã
structure TQ(B:Nat)(s:St)(h:Int)(w w':Ë):Prop where
 C:w.heap.size<=B
 r:∃lv uv,fq B (nu s lv++[Ä Ê h,uv]) 147 w'/\uy lv 257 w'/\uy uv 246 w'/\(∀j,lv.ownBlock=Â j->w.heap.size<=j)/\∀j,uv.ownBlock=Â j->w.heap.size<=j
section
variable{bp:Option Ě}{cp:Nat}{vs:List (Nat×fM)}
def am8(a b:Nat)(d:n<=1000)(f:n<=cp):Ñ À 155 #[Å (Â ⟨a,b,Ã⟩) n cp] w λe c=>e=Æ (Å (Â ⟨a,b,Ã⟩) n n)/\c=w:=by go_enter Tryz.func155,Tryz.ntmps155;go_wp2;go_ret;exact⟨U,U⟩
def am9(b:qT bp n vs w)(h:n<=1000)(l:0<n)(m:n<=cp)(B:Nat): Ñ À 116 #[Å bp n cp,Ç<|Â ⟨B,0,Ã⟩] w λe a=>∃g c,e=Æ (Å (Â ⟨g,0,Ã⟩) (n+1) c)/\n+1<=c/\fc fh w a/\TP vs B w a g/\∀j u,(sX vs++[Ç<|Â ⟨B,0,Ã⟩])[j]?=Â u->a.cell? ⟨g,0+j,Ã⟩=Â u:=by
 let⟨G,r,s,t,x⟩:=ì am6;obtain⟨d,y⟩:∃d,vs[0]?=Â d:=⟨_,Ï<|by rwa[<-b.r]⟩;let⟨g,f,i,_,_⟩:=b.C 0 d.1 d.2 y;have z:∀(o:Obj) (j:Nat) (v:È),(sX vs)[j]?=Â v->(w.alloc o).cell? ((⟨g,f,Ã⟩:Ě).add j)=Â v:=λo j v q=>by unfold sX at q;rw[ý]at q;obtain⟨p,C,rfl⟩:=É.1 q;let⟨D,E,H,k,_⟩:=b.C j p.1 p.2 C;rw[i]at H;cases H;rwa[Addr.add_mid,World.cell?_alloc_lt _ _ _<|Ù w _ k]
 have H:=eZ (Á z<|Á r<|Á s<|Á t<|Á x<|show(sX vs).length=n by unfold sX;rw[Ĵ];exact b.r.symm);subst i;go_enter Tryz.func116,Tryz.ntmps116;go_wp2_with (first
  |(go_at_call 155;refine(am8 g f h m).mono ?_;rintro e a ⟨rfl,k⟩;subst a)
  |(at_builtin;refine am7 U _ _ 65 U Tryz.underlying65 H.out.2.1 H.out.2.2.1 H.out.2.2.2.1 H.out.2.2.2.2.1 g f n (sX vs) H.out.2.2.2.2.2 (H.out.1 _) U w.heap.size (Ç (Â ⟨B,0,Ã⟩)) U (ÿ _ _ _) h A ?_;intro c C a e k p))
 go_ret;refine⟨_,_,U,a,(fc.iw _ _ _ _).fj e,⟨fp,by let⟨c,C,D,E⟩:=k;exact⟨c,by simpa using C,D,λu F=>(E u F).elim ß λq=>q.elim (λq=>ä<|ß q) λq=>ä<|ä<|by simpa[Ĝ]using q⟩⟩,λj u q=>by have:=p j u q;simpa using this⟩
end
structure Di(r:Nat)(v:Int)(x:Nat)(bp:Option Ě)(n cp:Nat)(w:Ë):Prop where
 M:w.cell? ⟨r,0,Ã⟩=Â (Ä Ê x)
 N:w.cell? ⟨r,5,Ã⟩=Â (Ä Ê v)
 I:w.cell? ⟨r,8,Ã⟩=Â (Å bp n cp)
def Di.C{r:Nat}(h:Di r c i O n j w)(k:fc fh w u):Di r c i O n j u:=⟨k.r h.M id,k.r h.N id,k.r h.I id⟩
def rS(a:List (Nat×fM))(v:Int)(x:Nat)(b:List Tx):Option fM×ByteArray:=
 match n5 a v with
 |none=>(Ã,ov 3)
 |some p=>if a.length=40 then(Ã,ov 4)else match mP x p.2.s b with
  |none=>(Ã,ov 5)
  |some r=>(Â ⟨r.1,r.2.1,r.2.2,p.2.h+1⟩,nY a.length)
def M9(c:È)(d:List (Nat×fM))(w:Ë):Prop:=∃a n b,c=Å a n b/\n<=b/\qT a n d w
def TR(f:List (Nat×fM))(i:È)(w:Ë)(o:Option fM×ByteArray)(e:ζ)(a:Ë):Prop:=
 fc fh w a/\((o.1=Ã/\e=Æ (č #[i,Í o.2]))\/∃v b d,o.1=Â v/\e=Æ (č #[d,Í o.2])/\M9 d (f++[(b,v)]) a/\TQ b v.s v.h w a/\∃g n c,d=Å (Â ⟨g,0,Ã⟩) n c/\TP f b w a g)
def ana{c:List (Nat×fM)}{v:fM}(e:qT O n c w)(f:sW j v w)(h:∀a u,(sX c++[Ç<|Â ⟨j,0,Ã⟩])[a]?=Â u->w.cell? ⟨i,0+a,Ã⟩=Â u):qT (Â ⟨i,0,Ã⟩) (n+1) (c++[(j,v)]) w:=by
 refine⟨by rw[e.r];simp,λa b u q=>⟨i,0,U,?_,?_⟩⟩
 .apply h a _;have:sX c++[Ç<|Â ⟨j,0,Ã⟩]=sX (c++[(j,v)]):=by simp[sX]
  rw[this];unfold sX;rw[ý,q];rfl
 .rcases ř a c.length with d|d
  .rw[Õ d]at q;let⟨_,_,_,_,k⟩:=e.C a b u q;exact k
  .rw[î d]at q;have k:a-c.length=0:=by
    have:=(Ò.1 q).1;simp at this;omega
   rw[k]at q;cases q;exact f
def anb{e:ζ}(a:Fy h W Ã e u)(k:fc fh w W):e=Æ (Ç Ã)/\fc fh w u:=by
 rcases a with⟨_,b,c⟩|⟨_,_,_,_,_,_,q,_⟩
 .exact⟨b,k.fj c⟩
 .cases q
def anc{e:ζ}{s:St}{a:List (Nat×Int)}{us:List (Int×Bool)}(b:Fy h W (Â (s,a,us)) e u)(i:0<=h)(l:h<40)(k:fc fh w W):∃B,e=Æ (Ç<|Â ⟨B,0,Ã⟩)/\fc fh w u/\sW B ⟨s,a,us,h+1⟩ u/\TQ B s (h+1) w u:=by
 rcases b with⟨q,_⟩|⟨m,n,o,B,c,d,q,f,x,g⟩
 .cases q
 .cases q;exact⟨B,f,k.fj x.M,x.am5 g Z Z,ç k.M x.N,c,d,x.r,uy.I x.C,uy.I x.I,λj q=>ç k.M<|x.S j q,λj q=>ç k.M<|x.Y j q⟩
section
variable{bp:Option Ě}{cp r x:Nat}{v:Int}{vs:List (Nat×fM)}{f:List (Nat×Tx)}
def ane{p:Nat×fM}(F:Ñ À 113 #[Å bp n cp,Ä Ê v] w λe a=>e=Æ (oL<|Â p.1)/\fc fh w a)(f:Di r v x O b i w)(m:((n:Int)==40)=Û)(N:∀W,fc fh w W->Ñ À 115 #[Ç<|Â ⟨p.1,0,Ã⟩,Ä Ê x,Å O b i] W (Fy p.2.h W Ã)): Ñ À 66 #[Å bp n cp,Ç<|Â ⟨r,0,Ã⟩] w (TR vs (Å bp n cp) w (Ã,ov 5)):=by
 have o:=f.N;have H:=eZ<|Á F<|Á N f;go_enter Ł,Ĭ;go_wp2_with (go_at_call 113;refine H.out.1.mono ?_;rintro e d ⟨rfl,c⟩;dsimp only[oL,Ŗ]);have g:=eZ<|Á ((H.out.2.2.C c).C<|fc.gG fh _).M ((H.out.2.2.C c).C<|fc.gG fh _).I;go_region_held3 (λa=>a.cell? ⟨r,0,Ã⟩=Â (Ä Ê x)/\a.cell? ⟨r,8,Ã⟩=Â (Å O b i)) (first|exact g.out|exact j.out) (first
   |(go_at_call 115;refine(H.out.2.1 _ (c.fj kp)).mono ?_;rintro e k l;obtain⟨rfl,d⟩:e=Æ (Ç Ã)/\fc fh w k:=anb l (c.fj kp);dsimp only;have j:=eZ (Á (H.out.2.2.C d).M (H.out.2.2.C d).I)))
 go_wp2_with (first
  |(go_at_call 114;refine(I4 5 A _).mono ?_;rintro e a ⟨rfl,c⟩;subst a))
 go_ret2;exact⟨d,ß ⟨U,U⟩⟩
def anf{p:Nat×fM}{f:St}{g:List (Nat×Int)}{j:List (Int×Bool)}(k:qT bp n vs w)(Q:n<=40)(q:0<n)(s:n<=cp)(t:0<=p.2.h)(u:p.2.h<40)(F:Ñ À 113 #[Å bp n cp,Ä Ê v] w λe a=>e=Æ (oL<|Â p.1)/\fc fh w a)(l:Di r v x O b i w)(S:((n:Int)==40)=Û)(N:∀W,fc fh w W->Ñ À 115 #[Ç<|Â ⟨p.1,0,Ã⟩,Ä Ê x,Å O b i] W (Fy p.2.h W<|Â (f,g,j))): Ñ À 66 #[Å bp n cp,Ç<|Â ⟨r,0,Ã⟩] w (TR vs (Å bp n cp) w (Â ⟨f,g,j,p.2.h+1⟩,nY vs.length)):=by
 have T:=l.N;rw[<-k.r];have H:=eZ<|Á F<|Á N<|Á l k;go_enter Ł,Ĭ;go_wp2_with (go_at_call 113;refine H.out.1.mono ?_;rintro e o ⟨rfl,d⟩;dsimp only[oL,Ŗ]);have y:=eZ<|Á ((H.out.2.2.1.C d).C<|fc.gG fh _).M ((H.out.2.2.1.C d).C<|fc.gG fh _).I;go_region_held3 (λa=>a.cell? ⟨r,0,Ã⟩=Â (Ä Ê x)/\a.cell? ⟨r,8,Ã⟩=Â (Å O b i)) (first|exact y.out|exact o.out) (first
   |(go_at_call 115;refine(H.out.2.1 _ (d.fj kp)).mono ?_;rintro e D z;obtain⟨B,rfl,c,C,m⟩:=anc (w:=w) z t u (d.fj kp);dsimp only;have o:=eZ (Á (H.out.2.2.1.C c).M (H.out.2.2.1.C c).I)))
 have W:=am9 (H.out.2.2.2.I c) Z q s B;have z:=eZ W;go_wp2_with (first
  |(go_at_call 116;refine z.out.mono ?_;rintro e G ⟨I,J,rfl,D,d,o,E⟩)
  |(go_at_call 117;refine(aap n Z _).mono ?_;rintro e a ⟨rfl,G⟩;subst a))
 go_ret2;refine⟨c.fj d,ä ⟨_,B,_,U,U,⟨_,_,_,U,D,?_⟩,⟨m.C,by let⟨G,I,J,K,L,M,P⟩:=m.r;exact⟨G,I,J.C d id,K.C d,L.C d,M,P⟩⟩,_,_,_,U,ç c.M o.C,o.r⟩⟩;exact ana ((H.out.2.2.2.I c).I d) (C.Y d) E
def ang(a:qT bp n vs w)(C:n<=40)(j:0<n)(D:n<=cp)(t:∀p∈vs,p.2.h<40)(d:Di r v x O b i w)(u:Fw O b f w)(E:b<=1000)(y:sT w)(G:x<8)(z:-1<=v): Ñ À 66 #[Å bp n cp,Ç<|Â ⟨r,0,Ã⟩] w (TR vs (Å bp n cp) w<|rS vs v x<|mO f):=by
 have L:=d.N;unfold rS;cases g:n5 vs v with
 |none=>
  have F:=M8 (cp:=cp) a Z j v z;rw[g]at F;have H:=eZ F;go_enter Ł,Ĭ;go_wp2_with (first
   |(go_at_call 113;refine H.out.mono ?_;rintro e I ⟨rfl,q⟩;dsimp only[oL,Ŗ])
   |(go_at_call 114;refine(I4 3 A _).mono ?_;rintro e l ⟨rfl,J⟩;subst l))
  go_ret2;exact⟨q,ß ⟨U,U⟩⟩
 |some p=>
  have m:=Jb g;have c:=a.M m;have F:=M8 (cp:=cp) a Z j v z;rw[g]at F;have N:∀W,fc fh w W->Ñ À 115 #[Ç<|Â ⟨p.1,0,Ã⟩,Ä Ê x,Å O b i] W (Fy p.2.h W<|mP x p.2.s<|mO f):=λW k=>
   amz (c.r.r k id) c.I (by have:=c.M;omega) c.C (u.I k) (y.r k id) E G
  have K:=a.r;by_cases B:n=40
  .simp only;rw[if_pos Z];have H:=eZ F;clear F N a d u y t c g m K;have o:((n:Int)==40)=Ô:=by rw[B];rfl
   clear B;go_enter Ł,Ĭ;go_wp2_with (first
    |(go_at_call 113;refine H.out.mono ?_;rintro e I ⟨rfl,q⟩;dsimp only[oL,Ŗ])
    |(go_at_call 114;refine(I4 4 A _).mono ?_;rintro e l ⟨rfl,J⟩;subst l))
   go_ret2;exact⟨q,ß ⟨U,U⟩⟩
  .simp only;rw[if_neg Z];have o:((n:Int)==40)=Û:=by rw[beq_eq_false_iff_ne];omega
   have l:=t p m;have H:=c.I;cases e:mP x p.2.s (mO f)with
   |none=>
    rw[e]at N;exact ane F d o N
   |some q=>
    let⟨I,J,M⟩:=q;rw[e]at N;exact anf a C j D H l F d o N
end
theorem anh(h:l.length=145):À.built 147 [(0,õ l.toArray)]=Â (l++[Ä Ê 0,Å Ã 0 0]).toArray:=by let⟨z,d,a,b,c⟩:=M3 aaf aag A;rw[I2 aah a,c];have:=Df (place:=λi=>[(0,145),(145,1),(146,1)].toArray[i]?) (pre:=[]) (suf:=[Ä Ê 0,Å Ã 0 0]) (i:=0) (v:=õ l.toArray) (rest:=[]) U (by show l.toArray.size=145;simp[h]) b;simpa[ė,Ĝ]using this
theorem ani(a:o.op=.build 147 #[(0,qQ)])(b:xX qQ=õ l.toArray)(c:l.length=145):(ċ xX o).run À w=Ξ (.value<|õ (l++[Ä Ê 0,Å Ã 0 0]).toArray) w:=by grind [I3,anh]
def iR:fM:=⟨jx 8,[],[],0⟩
def aaC:iZ (jx 8):=by refine⟨λi=> ?_,λi j=>⟨σ _,show(0:Int)<18446744073709551616 by decide⟩,λi=>⟨show(0:Nat)<=40 by decide,λc a=>by cases a⟩⟩;show oz (if i<8 then 1000 else 0);split<;>exact⟨A,A⟩
theorem anj{s:St}(b:iZ s)(h:fq i (iz s++[Å Ã 0 0]++[Ä Ê 0,Å Ã 0 0]) 147 w):sW i ⟨s,[],[],0⟩ w:=by
 have c:=xr s;refine⟨⟨λj v d=> ?_,?_⟩,b,σ _,show(0:Int)<=40 by decide,?_,?_⟩
 .rw[Ĩ];apply h.r j v;grind
 .apply h.r 145 _;simp_all
 .refine⟨Ã,0,h.r 144 _ ?_,λj x a=>by cases a⟩;grind
 .refine⟨Ã,0,h.r 146 _ ?_,λj x a=>by cases a⟩;simp_all
def ank(n:Int)(h:n<1)(w:Ë):Ñ À 35 #[Ä Ê n] w λe w'=>e=Æ (č #[Ç Ã,Ä Ê 7])/\w'=w:=by go_enter υ,θ;go_wp2_with fail;go_ret2;exact⟨U,U⟩
def anl(n:Int)(h:8<n)(w:Ë):Ñ À 35 #[Ä Ê n] w λe w'=>e=Æ (č #[Ç Ã,Ä Ê 7])/\w'=w:=by go_enter υ,θ;go_wp2_with fail;go_ret2;exact⟨U,U⟩
def anm{s:St}(b:iZ s){ls:List (Nat×Int)}{t:Tx}(a:t.Ok)(c:(ls.length:Int)+400<=1000000)(h:xq ls):xq (lV s ls t).2.2.2:=by
 unfold lV;split
 .exact h
 .split
  .exact h
  .exact(a.S ‹_› ‹_›).aml b a.N c h
def A1(us:List (Int×Bool)):Prop:=∀e∈us,0<=e.1/\e.1<=400
def A1.BM{us:List (Int×Bool)}(h:A1 us){e:Int×Bool}(a:0<=e.1)(b:e.1<=400):A1 (us++[e]):=λx c=>by
 rcases ö.1 c with q|q
 .exact h x q
 .simp at q;subst q;exact⟨a,b⟩
structure TS(v:fM):Prop where
 C:xq v.C
 r:A1 v.r
 I:v.C.length<=400000
 M:v.r.length<=1000
def TT:∀(a:List Tx) {s:St} {ls:List (Nat×Int)} {us:List (Int×Bool)} {r:St×List (Nat×Int)×List (Int×Bool)},(∀t∈a,t.Ok)->iZ s->xq ls->A1 us->ls.length+400*a.length<=400000->us.length+a.length<=1000->o5 m s ls us a=Â r->iZ r.1/\xq r.2.1/\A1 r.2.2/\r.2.1.length<=400000/\r.2.2.length<=1000
 |[],s,ls,us,r,_,hs,hl,hu,n1,n2,h=>by cases h;exact⟨hs,hl,hu,by simpa using n1,by simpa using n2⟩
 |t::q,s,ls,us,r,ht,hs,hl,hu,n1,n2,h=>by
  unfold o5 at h;simp only[List.length_cons]at n1 n2;split at h
  .have d:=aao (ls:=ls) hs (ht t fp) Z;have e:=d.r;exact TT q (λb c=>ht b<|ŀ _ c) (d.s.r m<|Dd _) (anm hs (ht t fp) Z hl) (hu.BM d.g0 d.C) Z (by simp;omega) h
  .cases h
def ano{s:St}{a:List Tx}{r:St×List (Nat×Int)×List (Int×Bool)}(b:∀t∈a,t.Ok)(c:iZ s)(k:a.length<=1000)(e:mP m s a=Â r):TS ⟨r.1,r.2.1,r.2.2,h⟩:=by unfold mP at e;obtain⟨l,d,rfl⟩:=É.1 e;let⟨_,f,g,i,j⟩:=TT a b c (λ_ q=>by cases q) (λ_ q=>by cases q) (by simp;omega) (by simp;omega) d;exact⟨f,g,i,j⟩
end Go.Proofs.Y.gu
namespace Go.Proofs
open Go.Shelf
def Tryz.lays283_ren:Ĕ:=⟨fun|283=>187|n=>n,fun|3=>3|9=>9|4=>4|n=>n,fun|n=>n⟩
def Tryz.lays283:ae À Tryz.lays283_ren:={
 mixed:=fx
 f283:=Ţ.trans<|congrArg Â fx
 t3:=Ă
 a3:=ł
 z3:=ĭ
 v3:=Đ
 t4:=ă
 a4:=Ń
 z4:=Į
 v4:=đ
 t9:=ó
 a9:=ń
 z9:=į
 v9:=Ē}
open Go.Lib in
def Tryz.internal_strconv_small(i:Nat)(h:i<100)(w:Ë):
 Ñ À 187 #[Ä Ê i] w λe a=>e=Æ (Í ⟨(Ĥ i).toArray⟩)/\a=w:=Any.internal_strconv_small Tryz.lays283 i h w
def Tryz.laysM284_ren:Ĕ:=⟨fun|284=>188|129=>198|317=>197|318=>199|n=>n,fun|53=>36|3=>3|212=>291|0=>0|4=>4|46=>168|5=>5|9=>9|n=>n,fun|17=>1|n=>n⟩
def Tryz.laysM284:Go.Proofs.LaysM.n284 À Tryz.laysM284_ren:={
 mixed:=fx
 f129:=Tryz.func198.trans<|congrArg Â fx
 f284:=Tryz.func188.trans<|congrArg Â fx
 f317:=Tryz.func197.trans<|congrArg Â fx
 f318:=Tryz.func199.trans<|congrArg Â fx
 t0:=ŭ
 a0:=χ
 z0:=ι
 v0:=Ŷ
 t3:=Ă
 a3:=ł
 z3:=ĭ
 v3:=Đ
 t4:=ă
 a4:=Ń
 z4:=Į
 v4:=đ
 t5:=Ů
 a5:=ψ
 z5:=κ
 v5:=ŷ
 t9:=ó
 a9:=ń
 z9:=į
 v9:=Ē
 t46:=ŗ
 a46:=Ι
 z46:=ž
 v46:=ť
 t53:=ğ
 a53:=Ŧ
 z53:=Ŏ
 v53:=Ħ
 t212:=Tryz.underlying291
 a212:=Tryz.isAgg291
 z212:=Tryz.sizeOf291
 v212:=Tryz.zeroValue291
 g17:=fx
 i0:=fx
 i3:=fx
 i4:=fx
 i5:=fx
 i9:=fx
 i46:=fx
 i53:=fx
 i212:=fx
 m17:=by kernel_rfl}
open Go.Lib in
def Tryz.internal_strconv_numDigits(u:Nat)(a:1<=u)(b:u<18446744073709551616)(w:Ë)(c:Ο À w "internal/strconv.uint64pow10" Ì ν):
 Ñ À 188 #[Ä Ì u] w λe d=>e=Æ (Ä Ê<|ï u)/\d=w:=Any.internal_strconv_numDigits Tryz.laysM284 u a b w c
def Tryz.lays285_ren:Ĕ:=⟨fun|285=>189|n=>n,fun|37=>107|53=>36|3=>3|4=>4|51=>95|9=>9|5=>5|0=>0|n=>n,fun|n=>n⟩
def Tryz.lays285:af À Tryz.lays285_ren:={
 mixed:=fx
 f285:=Tryz.func189.trans<|congrArg Â fx
 t0:=ŭ
 a0:=χ
 z0:=ι
 v0:=Ŷ
 t3:=Ă
 a3:=ł
 z3:=ĭ
 v3:=Đ
 t4:=ă
 a4:=Ń
 z4:=Į
 v4:=đ
 t5:=Ů
 a5:=ψ
 z5:=κ
 v5:=ŷ
 t9:=ó
 a9:=ń
 z9:=į
 v9:=Ē
 t37:=ã
 a37:=Tryz.isAgg107
 z37:=Tryz.sizeOf107
 v37:=Tryz.zeroValue107
 t51:=ŧ
 a51:=ξ
 z51:=Κ
 v51:=ů
 t53:=ğ
 a53:=Ŧ
 z53:=Ŏ
 v53:=Ħ}
open Go.RowKit Go.Sort Go.Lib in
def Tryz.internal_strconv_formatBase10(a c f:Nat)(u:Nat)(d:Array UInt8)(w:Ë)(h:Holds (λ(b:UInt8)=>Ä au (b.toNat:Int)) w a c d)(i:u<10^d.size)(j:u<18446744073709551616)(k:d.size<4611686018427387904):
 Ñ À 189 #[Å (Â ⟨a,c,Ã⟩) d.size f,Ä Ì u] w λe l=>
  e=Æ (č #[])/\∃(n m:Nat) (g:Array UInt8),l=(ſ (λ(b:UInt8)=>Ä au (b.toNat:Int)) w a c g).drewN n/\FmtInv d.size u 0 m g:=Any.internal_strconv_formatBase10 Tryz.lays285 a c f u d w h i j k
def Tryz.lays99_ren:Ĕ:=⟨fun|99=>175|206=>194|n=>n,fun|9=>9|4=>4|3=>3|n=>n,fun|n=>n⟩
def Tryz.lays99:ak À Tryz.lays99_ren:={
 mixed:=fx
 f99:=Tryz.func175.trans<|congrArg Â fx
 f206:=Tryz.func194.trans<|congrArg Â fx
 t3:=Ă
 a3:=ł
 z3:=ĭ
 v3:=Đ
 t4:=ă
 a4:=Ń
 z4:=Į
 v4:=đ
 t9:=ó
 a9:=ń
 z9:=į
 v9:=Ē}
open Go.RowKit Go.Lib in
def Tryz.strings_HasPrefix(s p:ByteArray)(w:Ë):
 Ñ À 175 #[Í s,Í p] w λe a=>e=Æ (Ú<|Lib.hasPrefix s.data.toList p.data.toList)/\a=w:=Any.strings_HasPrefix Tryz.lays99 s p w
def Tryz.lays212_ren:Ĕ:=⟨fun|212=>174|263=>192|264=>193|n=>n,fun|46=>168|51=>95|146=>285|53=>36|148=>287|n=>n,fun|n=>n⟩
def Tryz.lays212:ag À Tryz.lays212_ren:={
 mixed:=fx
 f212:=Tryz.func174.trans<|congrArg Â fx
 f263:=Tryz.func192.trans<|congrArg Â fx
 f264:=Tryz.func193.trans<|congrArg Â fx
 t46:=ŗ
 a46:=Ι
 z46:=ž
 v46:=ť
 t51:=ŧ
 a51:=ξ
 z51:=Κ
 v51:=ů
 t53:=ğ
 a53:=Ŧ
 z53:=Ŏ
 v53:=Ħ
 t146:=Tryz.underlying285
 a146:=Tryz.isAgg285
 z146:=Tryz.sizeOf285
 v146:=Tryz.zeroValue285
 t148:=Tryz.underlying287
 a148:=Tryz.isAgg287
 z148:=Tryz.sizeOf287
 v148:=Tryz.zeroValue287}
open Go.RowKit Go.Lib in
def Tryz.bits_Mul(x y:Nat)(a:x<18446744073709551616)(b:y<18446744073709551616)(w:Ë):
 Ñ À 174 #[Ä Ì x,Ä Ì y] w λe c=>e=Æ (č #[Ä Ì ((x*y/18446744073709551616:Nat):Int),Ä Ì ((x*y%18446744073709551616:Nat):Int)])/\c=w:=Any.bits_Mul Tryz.lays212 x y a b w
end Go.Proofs
namespace Go.Proofs.Y.gu
open Go Go.Proofs Go.RowKit Go.Sort Go.Proofs.Y.Lift
def A2:UInt8->È:=λb=>Ä au (b.toNat:Int)
def pJ(w:Ë):Prop:=Ο À w "internal/strconv.uint64pow10" Ì ν
def anp(a:kl w)(b:Nat)(f:Array È->Array È):kl (ħ w b f):=by
 intro i o h;unfold ħ at h;simp only[Ð]at h;split at h
 .cases d:w.heap[i]? with
  |none=>rw[d]at h;cases h
  |some e=>
   have:=a _ _ d;rw[d]at h;cases e with
   |cells c t z=>simp only[Ý,Ö]at h;subst h;exact λx=>x
   |_=>exact absurd trivial this
 .exact a i o h
def anq(a:sR m w)(b:Nat)(f:Array È->Array È)(j:NF b w):sR m (ħ w b f):=by
 intro i c T k l h g;unfold ħ at h;simp only[Ð]at h;split at h
 .rename_i e;subst e;cases d:w.heap[b]? with
  |none=>rw[d]at h;cases h
  |some n=>
   rw[d]at h;cases n with
   |cells o t z=>
    simp only[Ý,Ö,onCells,Ċ]at h;have:=j _ _ _ d;rw[h.2.1,g]at this;cases this
   |_=>simp only[Ý,Ö,onCells]at h;cases h
 .exact a i c T k l h g
def fc.fO(w:World)(T:TypeId)(cs:Array Value)(off:Nat)(d:Array UInt8)(n:Nat)(hT:lz T=false:=by decide):fc fh w ((putRow A2 (w.alloc<|.cells cs T) w.heap.size off d).drewN n):= ⟨by simp[ſ,ħ,World.drewN],λk hk _=>by show(ħ (w.alloc<|Î cs T) w.heap.size _).heap[k]?=_;unfold ħ;simp only[Ð];rw[if_neg Z];exact ñ _ _ _ hk,λa=>anp (IJ a cs T (0,0)) _ _,λ_ a=>anq (IK a cs T (0,0)<|ß hT) _ _<|fq.S (fq.N w cs.toList T) hT⟩
def anr(w:Ë)(T:é)(a:Nat)(c:a<=24):Holds A2 (w.alloc<|Î Ĉ T) w.heap.size 0 (Ĳ a (0:UInt8)):=λj b=>by
 have d:j<a:=by simpa using b
 refine⟨?_,World.frozen?_alloc_new _ _ _ _⟩;rw[World.cell?_alloc_new,Lib.zeros24_at _ Z,getElem!_pos _ j b];simp[A2]
def iM(u:Nat):ByteArray:=⟨(Ĥ u).toArray⟩
def ant(u:Nat)(h:u<100)(w:Ë):Ñ À 172 #[Ä Ì u,Ä Ê 10] w λe a=>e=Æ (Í<|iM u)/\a=w:=by go_enter ο,Λ;go_wp2_with (go_at_call 187;refine(Tryz.internal_strconv_small u h _).mono ?_;rintro e a ⟨rfl,rfl⟩);go_ret;exact⟨U,U⟩
def anu(u:Nat)(h:¬u<100)(c:u<18446744073709551616)(w:Ë)(m:pJ w):Ñ À 172 #[Ä Ì u,Ä Ê 10] w λe b=>e=Æ (Í<|iM u)/\fc fh w b:=by
 have g:1<=u:=Z
 have o:ï u<=20:=by have:=Lib.numDigits_eq u g c;split at this<;>omega
 have n:À.arrayLen 276=24:=fx
 have p:∀W,(Instr.sliceAt 276 (Ç<|Â ⟨w.heap.size,0,Ã⟩) Ã (Â<|Ä Ê (ï u:Int)) Ã).run À W=Ξ (Å (Â ⟨w.heap.size,0,Ã⟩) (ï u) 24) W:=λW=>by rw[run_sliceAt_array_h W 276 ⟨w.heap.size,0,Ã⟩ (by simp[Program.arrayLen,Program.elem,Tryz.type276]) Ê (ï u:Int) Z (by rw[n];omega)];go_simp
 have i:=anr w 276 (ï u) Z;have l:=Tryz.internal_strconv_formatBase10 w.heap.size 0 24 u (Ĳ (ï u) 0) (w.alloc<|Î Ĉ 276) i (by rw[ð];exact Lib.lt_pow_nDigits u) c (by rw[ð];omega);rw[ð]at l;go_enter ο,Λ;go_wp2_with (go_at_call 188;refine(Tryz.internal_strconv_numDigits u g c _<|Lib.tabIs_alloc m _).mono ?_;rintro e b ⟨rfl,rfl⟩);go_at_call 189;apply l.mono;rintro e b ⟨rfl,k,q,a,d,hF⟩;replace d:b=(ſ A2 (w.alloc<|Î Ĉ 276) w.heap.size 0 a).drewN k:=d;subst d;have r:(convert 107 9<|Å (Â ⟨w.heap.size,0,Ã⟩) (ï u) 24).run À ((ſ A2 (w.alloc<|Î Ĉ 276) w.heap.size 0 a).drewN k)=Ξ (Í<|iM u) ((ſ A2 (w.alloc<|Î Ĉ 276) w.heap.size 0 a).drewN k):=by have h:=run_convert_bytes_back (P:=À) ((ſ A2 (w.alloc<|Î Ĉ 276) w.heap.size 0 a).drewN k) 107 9 5 ⟨w.heap.size,0,Ã⟩ 24 (Ĥ u) fx fx fx (λj f=>by rw[Lib.row_is_numeral hF j f,Lib.add_plain,World.cell?_drewN];exact cell?_putRow A2 _ w.heap.size 0 _ a (Lib.hid i).out (by rw[hF.size,ð]) j<|by rw[hF.size];rwa[ĉ]at f);rwa[ĉ]at h
 go_wp2;go_ret;exact⟨U,fc.fO w 276 _ _ a k⟩
def anv(u:Nat)(d:u<18446744073709551616)(w:Ë)(f:pJ w):Ñ À 172 #[Ä Ì u,Ä Ê 10] w λe c=>e=Æ (Í<|iM u)/\fc fh w c:=by
 by_cases h:u<100
 .exact(ant u h w).mono λe c ⟨a,b⟩=>⟨a,b▸fc.fV _ _⟩
 .exact anu u h d w f
def anw(u:Nat)(b:u<18446744073709551616)(w:Ë)(c:pJ w):Ñ À 157 #[Ä Ì u,Ä Ê 10] w λe a=>e=Æ (Í<|iM u)/\fc fh w a:=by go_enter Tryz.func157,Tryz.ntmps157;go_wp2_with (go_at_call 172;refine(anv u b _ c).mono ?_;rintro e a ⟨rfl,d⟩);go_ret;exact⟨U,d⟩
def Jc(u:Nat)(b:u<18446744073709551616)(w:Ë)(c:pJ w):Ñ À 118 #[Ä Ì u] w λe a=>e=Æ (Í<|iM u)/\fc fh w a:=by go_enter Tryz.func118,Tryz.ntmps118;go_wp2_with (go_at_call 157;refine(anw u b _ c).mono ?_;rintro e a ⟨rfl,d⟩);go_ret;exact⟨U,d⟩
end Go.Proofs.Y.gu
namespace Go.Proofs.Y.gu
open Go Go.Proofs Go.RowKit Go.Proofs.Y.Lift
def Je(s:St)(x y:Nat)(k:Int):Nat->Nat->ByteArray
 |_,0=>⟨#[45]⟩
 |i,n+1=>if(gO s [] x y i k).C then iM i else Je s x y k (i+1) n
theorem pJ.r(h:pJ w)(q:fc fh w u):pJ u:=by
 unfold pJ Ο World.var? at*;cases a:À.globalNamed "internal/strconv.uint64pow10" with
 |none=>rw[a]at h;cases h
 |some g=>
  rw[a]at h;simp only[Option.bind_some]at h|-;have b:g<w.heap.size:=by grind
  rwa[q.N g b id]
def TU:(À.info? 9).map (λi=>(i.zero,i.size,i.bytes))=Â (Â<|Í ⟨#[]⟩,1,16):=fx
def rT(a:List ByteArray):List È:=a.map Í
structure jY(w0:Ë)(tv:È)(xs:List ByteArray)(w:Ë):Prop where
 fg:w.ownsRow w0.heap.size 9 1 tv xs.length (rT xs)
 r:fc fh w0 w
section
variable{w0:Ë}{tv:È}{xs:List ByteArray}
def jY.N(w0:Ë){w:Ë}(k:fc fh w0 w):jY w0 (Å Ã 0 0) [] w:=⟨Ğ _ _ _ _,k⟩
def jY.fE(h:jY w0 tv xs w)(k:fc fh w u):jY w0 tv xs u:=⟨im h.fg k λ_ _=>id,h.r.fj k⟩
def jY.M(h:jY w0 tv xs w)(a:nW w w0.heap.size 9 1 tv xs.length (rT xs) 1 [Í B] v u):jY w0 v (xs++[B]) u:=by
 refine⟨?_,h.r.C a.r λi b q=> ?_⟩
 .have:=a.fg;rwa[show rT xs++[Í B]=rT (xs++[B]) by simp[rT],show xs.length+1=(xs++[B]).length by simp]at this
 .have:=(h.fg.lt i q).1;omega
end
theorem uz(u:Nat)(h:u<18446744073709551616):(iM u).size<=20:=by have:=Lib.nDigits_le20 u h;unfold iM;show(Ĥ u).toArray.size<=20;grind [ĉ]
def qU(p:Option Ě)(a:List È)(w:Ë):Prop:=∀(j:Nat) (x:È),a[j]?=Â x->∃b o,p=Â ⟨b,o,Ã⟩/\w.cell? ⟨b,o+j,Ã⟩=Â x
def qU.C(h:qU O l w)(q:fc fh w u):qU O l u:=λj x a=>by let⟨b,o,c,d⟩:=h j x a;exact⟨b,o,c,q.r d id⟩
def qU.r{base:Nat}(h:w.ownsRow base e i (Å O n j) n l):qU O l w:=λb x d=>by
 rcases h.2 with⟨f,k⟩|⟨g,m,o,f,_⟩
 .have:=h.1;rw[k,Nat.zero_mul]at this;rw[Ø this]at d;cases d
 .cases f;refine⟨g,0,U,?_⟩;have:=h.cells (g:=g) U b x d;rwa[Addr.add_mid]at this
def Dj{α:Type}(f g:α->È):∀(l:List α) (j:Nat) (x:α),l[j]?=Â x->(l.flatMap λp=>[f p,g p])[j*2]?=Â (f x)/\(l.flatMap λp=>[f p,g p])[j*2+1]?=Â (g x)
 |[],j,x,h=>by cases h
 |a::l,0,x,h=>by cases h;exact⟨U,U⟩
 |a::l,j+1,x,h=>by rw[show(j+1)*2=j*2+1+1 by omega];exact Dj f g l j x h
def lb(y:Nat):ByteArray:=Ġ ⟨#[97,98,99,100,101,102,103,104]⟩ y<|y+1
def mj(e:Nat×Int):ByteArray:=lb e.1++iM e.2.toNat
def anx{cp:Nat}{l:List (Nat×Int)}(S:n=l.length)(hn:n<=400000)(v:xq l)(B:pJ w)(C:qU O (oH l) w): Ñ À 124 #[Å O n cp] w λe f=>∃g,e=Æ g/\jY w g (l.map mj) f:=by
 have H:=eZ<|Á v<|Á B C;clear v B C;subst S;go_enter Tryz.func124,Tryz.ntmps124;go_wp2_with fail;go_loopw [3,8] (λg i wr=>∃j:Nat,j<=l.length/\jY w g ((l.take j).map mj) wr/\i=Ä Ê j) λ_ i _=>l.length-(ê i).toNat
 case atStart=>exact⟨0,Þ _,jY.N w<|fc.fV _ _,U⟩
 case round=>
  obtain⟨j,hj,b,rfl⟩:=hrel;by_cases D:j=l.length
  .subst D;have h:=eZ b;clear b;go_wp2_with fail;go_ret;exact⟨_,U,by have:=h.out;rwa[û Z]at this⟩
  .obtain⟨x,c⟩:∃x,l[j]?=Â x:=⟨_,Ï Z⟩;obtain⟨E,F,rfl,G⟩:=H.out.2.2 (j*2) _ (Dj _ _ l j x c).1;let⟨sb2,so2,T,I⟩:=H.out.2.2 (j*2+1) _ (Dj _ _ l j x c).2;cases T;have k:=H.out.1 x<|ć c;have V:j<l.length:=Z
   have J:mj x=lb x.1++iM x.2.toNat:=U;have W:(l.take<|j+1).map mj=(l.take j).map mj++[mj x]:=by rw[Ũ,c,Ÿ];rfl
   have EG:((l.take j).map mj).length<=400000:=by simp;omega
   let⟨y,z⟩:=x;obtain⟨p,rfl⟩:∃p:Nat,z=p:=⟨z.toNat,by have:=k.2.1;omega⟩;have hy:y<8:=k.1;have L:p<18446744073709551616:=by have:=k.2.2;omega
   rw[show((p:Nat):Int).toNat=p from rfl]at J;have va:wr.cell? ⟨E,F+j*2,Ã⟩=Â (Ä Ê y):=b.r.r G id;have xu:wr.cell? ⟨E,F+j*2+1,Ã⟩=Â (Ä Ì p):=b.r.r I id;generalize(l.take j).map mj=xs at*;clear G I c k D;have e0:(0:Int)<=(j:Int):=Z
   have e1:(j:Int)<(l.length:Int):=Z
   have y0:(0:Int)<=(y:Int):=Z
   have y1:(y:Int)<8:=Z
   have iO:=uz p L;have qF:Ê.wrap ((y:Int)+1)=(y:Int)+1:=by rw[Ą];omega
   have yF:(0:Int)<=(y:Int)+1:=Z
   have sK:(y:Int)+1<=8:=Z
   have sL:(y:Int)<=(y:Int)+1:=Z
   have xc:((y:Int)+1).toNat=y+1:=Z
   have hw4:¬9223372036854775807<min (y+1) 8-y+(iM p).size:=Z
   obtain⟨ta,tc,rfl⟩:=jv b.fg;have h:=eZ b;clear b;go_wp2_with fail;change Code.wp À _ _ _ (wr.alloc<|Î #[Ä Ê y,Ä Ì p] 257);have M:=fc.iw fh wr #[Ä Ê y,Ä Ì p] 257;have X:=(h.out.fE M).fE<|fc.gG _ _;have Y:=((H.out.2.1.r h.out.r).r M).r<|fc.gG _ _;have s:=(fq.N wr [Ä Ê y,Ä Ì p] 257).C (fc.gG fh _) id;let⟨i0,qh,oI,AV,AW⟩:=ì TU;have m:=eZ<|Á qh<|Á oI<|Á AV AW;refine oZ (λf=>f.cell? ⟨wr.heap.size,0,Ã⟩=Â (Ä Ê y)/\f.cell? ⟨wr.heap.size,1,Ã⟩=Â (Ä Ì p)) [] fx ?_;have HS:=eZ<|Á (s.r 0 _ rfl)<|s.r 1 _ rfl;generalize wr.heap.size=ub at*;generalize Ī (wr.alloc<|Î #[Ä Ê y,Ä Ì p] 257)=w1 at*;iterate 9 apply tk HS.out
   apply ia 9;intro K a;go_simp;go_at_call 118;refine(Jc p L _ Y).mono ?_;rintro e w2 ⟨rfl,N⟩;have T2:=X.fE N;have d:=s.C N id;apply a.out _ _ λ_=>⟨d.r 0 _ U,d.r 1 _ U⟩;apply ia 10;intro K a;go_simp;apply a.out _ _ λ_=>⟨d.r 0 _ U,d.r 1 _ U⟩;have P:=fc.iw fh w2 #[Í<|lb y++iM p] 9;have o:=T2.fE P;have q:=d.C P id;apply ia 11;intro K a;go_simp;apply a.out _ _ λ_=>⟨q.r 0 _ U,q.r 1 _ U⟩;apply ia 12;intro K a;refine IV fL _ _ 25 fL ġ m.out.1 m.out.2.1 m.out.2.2.1 m.out.2.2.2 U fL o.fg ⟨_,0,Ã⟩ [Í<|lb y++iM p] fL Z U (ÿ _ _ _) (λu Q=>by simp at Q;subst Q;rfl) (by unfold ā;omega) Z o.r.M ?_;intro tv1 w9 t;obtain⟨a2,cp2,rfl⟩:=jv t.fg;have r:=q.C t.r<|iL o.fg q A;apply a.out _ _ λ_=>⟨r.r 0 _ U,r.r 1 _ U⟩;apply ia 13;intro K a;go_simp;apply a.out _ _ λ_=>⟨r.r 0 _ U,r.r 1 _ U⟩;refine oY fx ?_ _;go_wp2_with fail;go_roundw
   case rel=>exact⟨j+1,V,by rw[W,J];exact o.M t,by go_num⟩
   case measure=>
    simp[ê];omega
def anz(b:Bool):AS b=((b.toNat:Nat):Int):=by cases b<;>rfl
def ml(e:Int×Bool):ByteArray:=iM e.2.toNat++⟨#[58]⟩++iM e.1.toNat
def anB{cp:Nat}{l:List (Int×Bool)}(hl:n=l.length)(hn:n<=1000)(D:A1 l)(E:pJ w)(F:qU O (xt l) w): Ñ À 125 #[Å O n cp] w λe g=>∃h,e=Æ h/\jY w h (l.map ml) g:=by
 have H:=eZ<|Á D<|Á E F;clear D E F;subst hl;go_enter Tryz.func125,Tryz.ntmps125;go_wp2_with fail;go_loopw [3,8] (λh i wr=>∃j:Nat,j<=l.length/\jY w h ((l.take j).map ml) wr/\i=Ä Ê j) λ_ i _=>l.length-(ê i).toNat
 case atStart=>exact⟨0,Þ _,jY.N w<|fc.fV _ _,U⟩
 case round=>
  obtain⟨j,hj,c,rfl⟩:=hrel;by_cases G:j=l.length
  .subst G;have k:=eZ c;clear c;go_wp2_with fail;go_ret;exact⟨_,U,by have:=k.out;rwa[û Z]at this⟩
  .obtain⟨x,d⟩:∃x,l[j]?=Â x:=⟨_,Ï Z⟩;obtain⟨I,J,rfl,L⟩:=H.out.2.2 (j*2) _ (Dj _ _ l j x d).1;let⟨sb2,so2,anC,M⟩:=H.out.2.2 (j*2+1) _ (Dj _ _ l j x d).2;cases anC;have t:=H.out.1 x<|ć d;have gE:j<l.length:=Z
   have htk:(l.take<|j+1).map ml=(l.take j).map ml++[ml x]:=by rw[Ũ,d,Ÿ];rfl
   have EG:((l.take j).map ml).length<=1000:=by simp;omega
   let⟨z,b⟩:=x;obtain⟨p,rfl⟩:∃p:Nat,z=p:=⟨z.toNat,by have:=t.1;omega⟩;have N:p<18446744073709551616:=by have:=t.2;omega
   have va:wr.cell? ⟨I,J+j*2,Ã⟩=Â (Ä Ì p):=c.r.r L id;have xu:wr.cell? ⟨I,J+j*2+1,Ã⟩=Â (Ú b):=c.r.r M id;generalize(l.take j).map ml=xs at*;clear L M d t G;have iO:=uz p N;have P:b.toNat<18446744073709551616:=by cases b<;>decide
   have hsb:=uz b.toNat P;have hw4:¬9223372036854775807<(iM b.toNat).size+1:=Z
   have A3:¬9223372036854775807<(iM b.toNat).size+1+(iM p).size:=Z
   obtain⟨ta,tc,rfl⟩:=jv c.fg;have k:=eZ c;clear c;go_wp2_with fail;change Code.wp À _ _ _ (wr.alloc<|Î #[Ä Ì p,Ú b] 246);have Q:=fc.iw fh wr #[Ä Ì p,Ú b] 246;have T1:=(k.out.fE Q).fE<|fc.gG _ _;have S:=((H.out.2.1.r k.out.r).r Q).r<|fc.gG _ _;have v:=(fq.N wr [Ä Ì p,Ú b] 246).C (fc.gG fh _) id;let⟨i0,qh,oI,AV,AW⟩:=ì TU;have m:=eZ<|Á qh<|Á oI<|Á AV AW;refine oZ (λg=>g.cell? ⟨wr.heap.size,0,Ã⟩=Â (Ä Ì p)/\g.cell? ⟨wr.heap.size,1,Ã⟩=Â (Ú b)) [] fx ?_;have o:=eZ<|Á (v.r 0 _ rfl)<|v.r 1 _ rfl;generalize wr.heap.size=ub at*;generalize Ī (wr.alloc<|Î #[Ä Ì p,Ú b] 246)=w1 at*;iterate 3 apply tk o.out
   apply tk o.out 6;apply tk o.out 7;apply ia 3;intro K a;go_simp;go_at_call 159;refine(alV _ _).mono ?_;rintro e T ⟨rfl,sL⟩;subst T;dsimp only;rw[anz];apply a.out _ _ λ_=>o.out;apply ia 4;intro K a;go_simp;go_at_call 118;refine(Jc b.toNat P _ S).mono ?_;rintro e T ⟨rfl,y⟩;have T2:=T1.fE y;have B:=v.C y id;have P2:=S.r y;have V:=eZ<|Á (B.r 0 _ rfl)<|B.r 1 _ rfl;apply a.out _ _ λ_=>V.out;apply tk V.out 5;apply ia 8;intro K a;go_simp;go_at_call 118;refine(Jc p N _ P2).mono ?_;rintro e w3 ⟨rfl,W⟩;have f:=B.C W id;apply a.out _ _ λ_=>⟨f.r 0 _ U,f.r 1 _ U⟩;apply ia 9;intro K a;go_simp;apply a.out _ _ λ_=>⟨f.r 0 _ U,f.r 1 _ U⟩;have X:=fc.iw fh w3 #[Í<|iM b.toNat++⟨#[58]⟩++iM p] 9;have q:=(T2.fE W).fE X;have r:=f.C X id;apply ia 10;intro K a;go_simp;apply a.out _ _ λ_=>⟨r.r 0 _ U,r.r 1 _ U⟩;apply ia 11;intro K a;refine IV fL _ _ 25 fL ġ m.out.1 m.out.2.1 m.out.2.2.1 m.out.2.2.2 U fL q.fg ⟨_,0,Ã⟩ [Í<|iM b.toNat++⟨#[58]⟩++iM p] fL Z U (ÿ _ _ _) (λu Y=>by simp at Y;subst Y;rfl) (by unfold ā;omega) Z q.r.M ?_;intro tv1 w9 C;obtain⟨a2,cp2,rfl⟩:=jv C.fg;have s:=r.C C.r<|iL q.fg r A;apply a.out _ _ λ_=>⟨s.r 0 _ U,s.r 1 _ U⟩;apply ia 12;intro K a;go_simp;apply a.out _ _ λ_=>⟨s.r 0 _ U,s.r 1 _ U⟩;refine oY fx ?_ _;go_wp2_with fail;go_roundw
   case rel=>exact⟨j+1,gE,by rw[htk];exact q.M C,by go_num⟩
   case measure=>
    simp[ê];omega
def uA(j:Nat):ByteArray:=Ġ ⟨#[48,49,50,51,52,53,54,55,56,57,97,98,99,100,101,102]⟩ j<|j+1
def Dk(s t:St)(i j:Nat):List ByteArray:=if(s i).r j=(t i).r j then[]else[lb i++uA j]
def n7(s t:St)(i j:Nat):List ByteArray:=(ë j).flatMap<|Dk s t i
def mQ(b a:Int)(p c:ByteArray)(i:Nat):List ByteArray:=(if b=a then[]else[lb i++⟨#[36]⟩])++(if p.toList=c.toList then[]else[lb i++⟨#[123]⟩])
def xv(s t:St)(i:Nat):List ByteArray:=mQ (s i).ft (t i).ft (s i).C (t i).C i++n7 s t i 16
def lh(s t:St)(n:Nat):List ByteArray:=(ë n).flatMap<|xv s t
def anD(s t:St)(i j:Nat):(Dk s t i j).length<=1:=by unfold Dk;split<;>simp
def Na(s t:St)(i j:Nat):n7 s t i (j+1)=n7 s t i j++Dk s t i j:=by unfold n7;rw[ĳ,ŉ];simp
theorem Nb(s t:St)(i:Nat):∀j,(n7 s t i j).length<=j
 |0=>by simp[n7]
 |j+1=>by rw[Na,Ó];have:=Nb s t i j;have:=anD s t i j;omega
theorem Nc(b a:Int)(p c:ByteArray)(i:Nat):(mQ b a p c i).length<=2:=by unfold mQ;rw[Ó];split<;>split<;>simp
def aaD(s t:St)(n:Nat):lh s t (n+1)=lh s t n++xv s t n:=by unfold lh;rw[ĳ,ŉ];simp
def TV(s t:St):∀n,(lh s t n).length<=18*n
 |0=>by simp[lh]
 |n+1=>by rw[aaD,Ó];have:=TV s t n;unfold xv;rw[Ó];have:=Nb s t n 16;have:=Nc (s n).ft (t n).ft (s n).C (t n).C n;omega
def FC(i:Nat):(lb i).size<=1:=by unfold lb;rw[İ];omega
def anE(i:Nat):(uA i).size<=1:=by unfold uA;rw[İ];omega
def rR.gU{s:St}(c:rR n s h W)(a:i<8):W.cell? ⟨n,i*18,Ã⟩=Â (Ä Ì (s i).ft)/\W.cell? ⟨n,i*18+1,Ã⟩=Â (Í (s i).C)/\∀j,j<16->W.cell? ⟨n,i*18+2+j,Ã⟩=Â (Ä Ì<|(s i).r j):=by
 have g:∀j,j<144->W.cell? ⟨n,j,Ã⟩=Â (rL s j):=λj b=>by have:=c.C j _<|TO s b;simpa using this
 refine⟨?_,?_,λj b=> ?_⟩
 .rw[g _ Z,<-uw s (Å Ã 0 0) Z,IQ _ _ a];rfl
 .rw[g _ Z,<-uw s (Å Ã 0 0) Z,MV _ _ a]
 .rw[g _ Z,<-uw s (Å Ã 0 0) Z,P_ _ _ a b];rfl
def TW{g:Array Ķ}{k:List Ķ}{a:ar}{y:ByteArray}{ad:Ě}{x:ķ}(b:jY W v vX w)(E:vX.length<=400000) (h:∀d m e f,jY W (Å d m e) (vX++[y]) f->Ž À g vJ k (a.put o.dst<|Å d m e) f) (n:∀j u,[Í y][j]?=Â u->w.cell? (ad.add j)=Â u) (p:o.guard=Ã) (q:o.op=.call {callee:=.builtin .append,args:=#[qQ,x],argTypes:=#[25,25]}) (r:a.eval qQ=v) (t:a.eval x=Å (Â ad) 1 i):Ž À g vJ (o::k) a w:=by let⟨F,z,B,C,D⟩:=ì TU;refine xn p qQ x 25 q ġ z B C D U r b.fg ad [Í y] t Nat.one_pos U n (λu l=>by simp at l;subst l;rfl) (by unfold ā;omega) Z b.r.M λG f l=> ?_;obtain⟨d,e,rfl⟩:=jv l.fg;exact h _ _ _ _<|b.M l
section
variable{s t:St}
def jY.I{w:Ë}{a:List ByteArray}(h:jY u v vX w)(e:vX=a)(k:fc fh w W):jY u v a W:=e▸h.fE k
def anF(H:rR n s h w)(I:rR j t c w): Ñ À 126 #[Ç<|Â ⟨n,0,Ã⟩,Ç<|Â ⟨j,0,Ã⟩] w λe X=>∃g,e=Æ g/\jY w g (lh s t 8) X:=by
 have J:=eZ<|Á H I;clear H I;go_enter Tryz.func126,Tryz.ntmps126;go_wp2_with fail;go_loopw [5,11] (λg i wr=>∃a:Nat,a<=8/\jY w g (lh s t a) wr/\i=Ä Ê a) λ_ i _=>8-(ê i).toNat
 case atStart=>exact⟨0,Þ _,jY.N w<|fc.fV _ _,U⟩
 case round=>
  obtain⟨a,hj,b,rfl⟩:=hrel;obtain⟨K,rfl⟩:∃K,K=wr:=⟨_,U⟩;by_cases C:a<8
  .let⟨L,D,M⟩:=J.out.1.gU C;let⟨N,E,O⟩:=J.out.2.gU C;have hl:=TV s t a;have c1:=b.r.r L id;have c2:=b.r.r N id;have c3:=b.r.r D id;have c4:=b.r.r E id;have e0:(0:Int)<=(a:Int):=Z
   have r:(a:Int)<8:=Z
   have qF:Ê.wrap ((a:Int)+1)=(a:Int)+1:=by rw[Ą];omega
   have yF:(0:Int)<=(a:Int)+1:=Z
   have sK:(a:Int)+1<=8:=Z
   have sL:(a:Int)<=(a:Int)+1:=Z
   have xc:((a:Int)+1).toNat=a+1:=Z
   have hw4:¬9223372036854775807<(lb a).size+1:=by have:=FC a;omega
   have auA:Ġ ⟨#[97,98,99,100,101,102,103,104]⟩ a (a+1)=lb a:=U;generalize P:(s a).ft=x1 at*;generalize Q:(t a).ft=x2 at*;generalize S:(s a).C=y1 at*;generalize T:(t a).C=y2 at*;have u:=eZ (Á (show lh s t (a+1)=lh s t a++mQ x1 x2 y1 y2 a++n7 s t a 16 by rw[aaD,xv,P,Q,S,T,þ])<|Á (Á D E)<|Á M O);obtain⟨l,o,rfl⟩:=jv b.fg;have d:=eZ b;clear P Q S T b L N D E M O;generalize Y:lh s t a=xs at*;clear Y;go_wp2_with fail;go_region;go_wp2_with fail;go_region;go_upto_if 34 with fail;go_cut [5] λv wc=>jY w v (xs++mQ x1 x2 y1 y1 a) wc
   case first=>
    by_cases r:x1=x2
    .have d1:(x1==x2)=Ô:=beq_iff_eq.2 r;go_wp2_with fail;go_meet
     case rel=>exact d.out.I (by simp[mQ,r]) kp
    .have d1:(x1==x2)=Û:=beq_eq_false_iff_ne.2 r;go_wp2_with (at_builtin;refine TW (y:=lb a++⟨#[36]⟩) (d.out.fE kp) Z ?_ (ÿ _ _ _) U U U U;intro l m o V b;have d:=eZ b;clear b);go_meet
     case rel=>exact d.out.I (by simp[mQ,r]) kp
   case rest=>
   obtain⟨l,o,rfl⟩:=jv hcut.fg;have W:=hcut.r.r u.out.2.1.1 id;have d4:=hcut.r.r u.out.2.1.2 id;have d:=eZ hcut;clear hcut;go_wp2_with fail;go_region;go_upto_if 48 with fail;go_cut [5] λv wc=>jY w v (xs++mQ x1 x2 y1 y2 a) wc
   case first=>
    by_cases p:y1.toList=y2.toList
    .have F:(y1.toList==y2.toList)=Ô:=beq_iff_eq.2 p;have G:=eZ p;clear p;simp only[F,Μ,Α];go_wp2_with fail;go_meet
     case rel=>exact d.out.I (by simp[mQ,G.out]) kp
    .have F:(y1.toList==y2.toList)=Û:=beq_eq_false_iff_ne.2 p;have G:=eZ p;clear p;simp only[F,Μ,Α];go_wp2_with (at_builtin;refine TW (y:=lb a++⟨#[123]⟩) (d.out.fE kp) (by have:=Nc x1 x2 y1 y1 a;simp;omega) ?_ (ÿ _ _ _) U U U U;intro l m o V b;have d:=eZ b;clear b);go_meet
     case rel=>exact d.out.I (by simp[mQ,G.out]) kp
   case rest=>
   obtain⟨l,o,rfl⟩:=jv hcut.fg;have d:=eZ hcut;clear hcut;go_wp2_with fail;go_loopw [5,54] (λg i wq=>∃k:Nat,k<=16/\jY w g (xs++mQ x1 x2 y1 y2 a++n7 s t a k) wq/\i=Ä Ê k) λ_ i _=>16-(ê i).toNat
   case atStart=>exact⟨0,Þ _,d.out.I (by simp[n7]) kp,U⟩
   case round=>
    obtain⟨k,hk,b,rfl⟩:=hrel;by_cases z:k<16
    .have s1:=b.r.r (u.out.2.2.1 k z) id;have s2:=b.r.r (u.out.2.2.2 k z) id;have f:=Na s t a k;have q1:=Nb s t a k;have q2:=Nc x1 x2 y1 y2 a;have FD:(xs++mQ x1 x2 y1 y2 a++n7 s t a k).length<=400000:=by simp;omega
     unfold Dk at f;generalize(s a).r k=z1 at*;generalize(t a).r k=z2 at*;have r0:(0:Int)<=k:=Z
     have r6:(k:Int)<16:=Z
     have r1:Ê.wrap ((k:Int)+1)=(k:Int)+1:=IntWalk.i64_in _ ⟨Z,Z⟩;have r2:(k:Int)<=(k:Int)+1:=Z
     have r3:(k:Int)+1<=16:=Z
     have r4:(0:Int)<=(k:Int)+1:=Z
     have r5:((k:Int)+1).toNat=k+1:=Z
     have a3:¬9223372036854775807<(lb a).size+(min (k+1) 16-k):=by have:=FC a;omega
     obtain⟨l,o,rfl⟩:=jv b.fg;generalize B:xs++mQ x1 x2 y1 y2 a++n7 s t a k=ys at*;have d:=eZ b;by_cases q:z1=z2
     .rw[if_pos q,ď]at f;have W:(z1==z2)=Ô:=beq_iff_eq.2 q;have x:=eZ<|Á f B;clear f q b B;go_wp2_with fail;go_region;go_wp2_with fail;go_roundw
      case rel=>exact⟨k+1,z,by rw[x.out.1,x.out.2];exact d.out.fE kp,by go_num⟩
      case measure=>simp[ê];omega
     .rw[if_neg q]at f;have W:(z1==z2)=Û:=beq_eq_false_iff_ne.2 q;have x:=eZ<|Á f B;clear f q b B;go_wp2_with fail;go_region;go_wp2_with (at_builtin;refine TW (y:=lb a++uA k) (d.out.fE kp) FD ?_ (ÿ _ _ _) U U U U;intro l m o V b;have d:=eZ b;clear b);go_roundw
      case rel=>exact⟨k+1,z,by rw[x.out.1,<-þ,x.out.2];exact d.out.fE kp,by go_num⟩
      case measure=>simp[ê];omega
    .obtain rfl:k=16:=Z
     have d:=eZ b;clear b;go_wp2_with fail;go_roundw
     case rel=>exact⟨a+1,C,by rw[u.out.1];exact d.out.fE kp,by go_num⟩
     case measure=>simp[ê];omega
  .obtain rfl:a=8:=Z
   have d:=eZ b;clear b;go_wp2_with fail;go_ret;exact⟨_,U,d.out⟩
end
def anG:(À.info? 5).map (λi=>(i.zero,i.size,i.bytes))=Â (Â<|Ä au 0,1,1):=fx
theorem fc.Y(f:X p.block)(n:Nat):fc X w (w.freeze p n):=by
 by_cases b:n=0
 .rw[ò,if_pos b];exact fc.fV _ _
 rw[ò,if_neg b];refine⟨fp,λk _ g=> ?_,λa i o h=> ?_,λ_ a=>by have:=X' a p n;rwa[ò,if_neg b]at this⟩
 .grind
 .simp only[Ð]at h;split at h
  .cases d:w.heap[i]? with
   |none=>rw[d]at h;cases h
   |some e=>
    have:=a _ _ d;rw[d]at h;cases e with
    |cells c t z=>simp only[Ý,Ö]at h;subst h;exact λx=>x
    |_=>exact absurd trivial this
  .exact a i o h
def aaE:(À.info? 109).map (·.size)=Â 2:=fx
def anH:liesAt À À.depth 109 (2/À.cellsOf 109) 0 109 1=Ô:=fx
def anI(b:Nat)(w:Ë)(d:w.cell? ⟨b,0,Ã⟩=Â (Ç<|Â ⟨b,0,Ã⟩)):Ñ À 78 #[Ç<|Â ⟨b,0,Ã⟩] w λe a=>e=Æ (č #[])/\a=w:=by let⟨j,c,_⟩:=É.1 aaE;go_enter ω,π;go_wp2;rw[Lib.run_neq_ptr_same w _ ę c];go_wp2;go_end0;exact⟨U,U⟩
def anJ(b:Nat)(w:Ë)(g:w.cell? ⟨b,0,Ã⟩=Â (Ç Ã))(a:w.shape? b=Â (109,2))(h:w.frozen? ⟨b,0,Ã⟩=Û):Ñ À 78 #[Ç<|Â ⟨b,0,Ã⟩] w λe d=>e=Æ (č #[])/\d=w.setCell ⟨b,0,Ã⟩ (Ç<|Â ⟨b,0,Ã⟩):=by let⟨j,c,f⟩:=É.1 aaE;go_enter ω,π;go_wp2;rw[Lib.run_to_unsafe w ⟨b,0,Ã⟩ ę Ř c (by rw[f];decide) a<|Nat.zero_lt_succ 1];simp only[Ė];rw[Ď];go_wp2;rw[Ŋ Tryz.func129 fx fx fx fx];rw[Lib.run_noEscape];simp only[Ė];rw[Ď];go_wp2;rw[Lib.run_from_unsafe w ⟨b,0,Ã⟩ Ř ę c a anH];simp only[Ė];rw[Ď];go_wp2;go_end0;exact⟨U,U⟩
theorem aaF{base:Nat}{u h:é}(j:P.underlying t=Â (aD e))(k:P.underlying u=Â .string)(p:P.info? e=Â zJ)(G:zJ.zero=Â (Ä au 0)) (D:zJ.size=1) (H:zJ.bytes=1) (E:w.ownsRow base e 1 v n l) (s:ByteArray) (J:n+s.size<=ā) (Q:n+s.size<=140737488355328) (r:(ı #[t,u] h #[v,Í s]).run P w=Ξ z W) (I:lz e=Û):(kl w->kl W)/\(∀m,sR m w->sR m W):=by
 have S:n+s.size<=9223372036854775807:=by simp only[ā]at J;omega
 have K:l.length=n:=by simpa using E.1
 rcases E.2 with⟨rfl,rfl⟩|⟨g,y,B,rfl,V,F,X,Y,L,htake⟩
 .by_cases C:s.size=0
  .have a:=Lib.run_firstCells_string (P:=P) w 1 s;rw[C]at a;simp[ı,Ŀ j,Ŀ k,sizeOf,typeInfo,p,D,aJ,C,a]at r;grind
  .have b:=run_append_nil_string w t u h e zJ (Ä au 0) j k p G s Z Z (by rw[H];omega);rw[r]at b;cases b;exact⟨λa=>IJ a _ _ _,λ_ a=>IK a _ _ _<|ß I⟩
 .by_cases M:n+s.size<=y
  .have auB:B.size=y:=by simpa using L
   have b:=Lib.run_append_room_string w t u h e zJ j k p D g n y B F s M Z;rw[r]at b;cases b;refine⟨λa q o d=> ?_,λm a q c T N C d O=> ?_⟩
   .by_cases f:q=g
    .subst f;rw[ą w q B _ e _ F]at d;cases d;exact λx=>x
    .rw[ú w g q _ f]at d;exact a q o d
   .by_cases f:q=g
    .subst f;rw[ą w q B _ e _ F]at d;grind
    .rw[ú w g q _ f]at d;exact a q c T N C d O
  .have c:=E.cells U;have b:=Lib.run_append_grow_string w t u h e zJ (Ä au 0) j k p G ⟨g,0,Ã⟩ n y l (by rw[D];simpa using K) c s Z Z (by rw[H];exact ļ Z Z);rw[r]at b;cases b;exact⟨λa=>IJ a _ _ _,λ_ a=>IK a _ _ _<|ß I⟩
def anK{P:Program}{ops:Array Oper}{rest:List Oper}{o:Oper}{a:Act}{Q:Exit->Act->World->Prop}{w:World}(IN:o.guard=none)(sl x:Operand)(t u:TypeId) (ho:o.op=.call {callee:=.builtin .append,args:=#[sl,x],argTypes:=#[t,u]}) {base:Nat} {e:TypeId} {i:TypeInfo} (ht:P.underlying t=some (.slice e)) (hu:P.underlying u=some .string) (hi:P.info? e=some i) (hz:i.zero=some (.int .u8 0)) (zd:i.size=1) (oX:i.bytes=1) {v:Value} {n:Nat} {xs:List Value} (hs:a.eval sl=v) (lS:w.ownsRow base e 1 v n xs) (s:ByteArray) (hx:a.eval x=.string s) (Db:n+s.size<=maxLen) (Dc:n+s.size<=140737488355328) (Da:base<=w.heap.size) (h:∀v' w',w'.ownsRow base e 1 v' (n+s.size) (xs++Lib.strCells s)->fc (λk=>v.ownBlock=some k) w w'->wpList P ops Q rest (a.put o.dst v') w') (hT:lz e=false:=by decide):wpList P ops Q (o::rest) a w:=by refine ś IN λK hK=> ?_;let⟨v',w',hr,h2,h3,_⟩:=Lib.run_append_own_string w base t u o.type e i ht hu hi hz zd oX v n xs lS s Db Dc Da;have kp:fc (λk=>v.ownBlock=Â k) w w':=⟨h3.size,λk hk q=>h3.block k hk λe=>q e.symm,(aaF ht hu hi hz zd oX lS s Db Dc hr hT).1,(aaF ht hu hi hz zd oX lS s Db Dc hr hT).2⟩;unfold Ŝ ċ;simp only[ho,Ρ,ai,Τ,ŝ,Ş,ě,ĥ,ŋ,ş,hs,hx,hr];exact hK _ _<|h v' w' h2 kp
structure uB(w0:Ë)(b:Nat)(bs:List È)(w:Ë):Prop where
 I:w0.heap.size<=b
 r:fc fh w0 w
 C:∃v,fq b [Ç<|Â ⟨b,0,Ã⟩,v] 109 w/\w.ownsRow w0.heap.size 5 1 v bs.length bs
def uB.fE(h:uB u b l w)(k:fc fh w W):uB u b l W:=by let⟨v,a,c⟩:=h.C;exact⟨h.I,h.r.fj k,v,a.C k id,im c k λ_ _=>id⟩
theorem TX(h:uB u b l w)(s:ByteArray)(m:l.length+s.size<=140737488355328): Ñ À 55 #[Ç<|Â ⟨b,0,Ã⟩,Í s] w λe i=>e=Æ (č #[Ä Ê s.size,.nilIface])/\uB u b (l++Lib.strCells s) i:=by
 let⟨B,c,n,o,p⟩:=ì anG;let⟨v,a,d⟩:=h.C;obtain⟨C,D,rfl⟩:=jv d;have t:=a.r 0 _ U;have E:=a.r 1 _ U;have x:=h.r.M;have y:=iL d a A;have H:=eZ<|Á h<|Á c<|Á n<|Á o<|Á p<|Á a d;go_enter Tryz.func55,Tryz.ntmps55;go_wp2_with (first
  |(go_at_call 78;refine(anI b _ t).mono ?_;rintro e i ⟨rfl,j⟩;subst i)
  |(at_builtin;refine anK U _ _ 107 9 U ã ó H.out.2.1 H.out.2.2.1 H.out.2.2.2.1 H.out.2.2.2.2.1 U H.out.2.2.2.2.2.2 s U (by unfold ā;omega) m x ?_;intro g f j k;obtain⟨q,r,rfl⟩:=jv j;have i:=H.out.2.2.2.2.2.1.C k y;have z:=i.r 0 _ U;have F:=i.r 1 _ U;have G:=i.I 1;have e:=eZ (Á k (Á i j));clear k i j))
 go_ret2;have z:=e.out.2.1.fO 1<|Å q (l.length+s.size) r;have g:fc (λk=>k=b) f (f.setCell ⟨b,1,Ã⟩<|Å q (l.length+s.size) r):=fc.I (X:=λk=>k=b) U _<|ä e.out.2.1.S;refine⟨U,H.out.1.I,(H.out.1.r.C e.out.1 λi c q=> ?_).C g λi c q=> ?_,_,z,?_⟩
 .have:=(H.out.2.2.2.2.2.2.lt i q).1;omega
 .have:=H.out.1.I;omega
 .have:=im e.out.2.2 g λj q r=>iL e.out.2.2 e.out.2.1 A (by rw[q,r]);grind [Ó,Lib.strCells_length]
def anL:(À.info? 5).map (·.size)=Â 1:=fx
def anM:À.cellsOf 5=1:=fx
structure Jf(w0:Ë)(b:Nat)(p:È)(w:Ë):Prop where
 C:w0.heap.size<=b
 I:fc fh w0 w
 r:fq b [p,Å Ã 0 0] 109 w
section
variable{w0:Ë}{p:È}
def Jf.Ez(h:Jf w0 b (Ç<|Â ⟨b,0,Ã⟩) w)(f:d.size<=ā):uB w0 b [] ((w.alloc<|Î d 5).setCell ⟨b,1,Ã⟩<|Å (Â ⟨w.heap.size,0,Ã⟩) 0 d.size).drew.drew.drew:=by have a:=fc.iw fh w d 5;have c:fc (λk=>k=b) (w.alloc<|Î d 5) ((w.alloc<|Î d 5).setCell ⟨b,1,Ã⟩<|Å (Â ⟨w.heap.size,0,Ã⟩) 0 d.size):=fc.I (X:=λk=>k=b) U _<|ä (h.r.C a id).S;have k:=(h.r.C a id).fO 1<|Å (Â ⟨w.heap.size,0,Ã⟩) 0 d.size;have m:=h.r.M;have g:(w.alloc<|Î d 5).ownsRow w0.heap.size 5 1 (Å (Â ⟨w.heap.size,0,Ã⟩) 0 d.size) 0 []:= ⟨U,ä ⟨w.heap.size,d.size,d,U,h.I.M,Ü w _,Þ _,f,fp,fp⟩⟩;have l:uB w0 b [] ((w.alloc<|Î d 5).setCell ⟨b,1,Ã⟩<|Å (Â ⟨w.heap.size,0,Ã⟩) 0 d.size):= ⟨h.C,(h.I.fj a).C c λi n q=>by have:=h.C;omega,_,k,im g c λj q r=>by cases q;have e:w.heap.size=b:=r;omega⟩;exact((l.fE<|fc.gG _ _).fE<|fc.gG _ _).fE<|fc.gG _ _
theorem anN(h:Jf w0 b (Ç<|Â ⟨b,0,Ã⟩) w)(n:Nat)(j:n<=281474976710656): Ñ À 79 #[Ç<|Â ⟨b,0,Ã⟩,Ä Ê n] w λe c=>e=Æ (č #[])/\uB w0 b [] c:=by
 let⟨a,g,o,k⟩:=Lib.run_makeNoZero w.drew #[3] 107 5 ã n j;have i:Ê.wrap (Ê.wrap 0+(n:Int))=n:=by grind [Ą]
 have p:(callFunc 130 #[Ä Ê<|Ê.wrap<|Ê.wrap 0+(n:Int)]).run À w.drew=Ξ (.value<|Å (Â ⟨w.drew.heap.size,0,Ã⟩) n a.size) (w.drew.drew.drew.alloc<|Î a 5):=by rw[i,Ŋ Tryz.func130 fx fx fx fx,g];rfl
 have e:=eZ (Á (show w.drew.cell? ⟨b,1,Ã⟩=Â (Å Ã 0 0)from h.r.r 1 _ rfl) trivial);have d:=h.r.C (fc.iw fh w a 5) id;have l:=d.r 1 _ U;have f:=l;have q:=d.I 1;have r:∀W:Ë,(Δ #[107,107] 3 #[Å (Â ⟨w.heap.size,0,Ã⟩) 0 a.size,Å Ã 0 0]).run À W=Ξ (goInt 0) W:= λW=>run_copy_none W 107 107 3 5 _ _ 0 a.size 0 0 ã anL U;have m:=eZ (h.Ez<|k<|by unfold ā;omega);clear i h d g;go_enter Tryz.func79,Tryz.ntmps79;go_wp2;refine oZ (λc=>c.cell? ⟨b,1,Ã⟩=Â (Å Ã 0 0)/\True) [] fx ?_;iterate 8 apply tk e.out
 apply tk e.out 9;apply tk e.out 10;apply tk e.out 11;apply tk e.out 12;apply tk e.out 13;refine ia 8 ?_;intro K c;go_simp;refine c.out _ _ (λ_=>⟨f,trivial⟩) ?_;refine ia 14 ?_;intro K c;go_simp;refine c.out _ _ (λ_=>⟨f,trivial⟩) ?_;refine ia 15 ?_;intro K c;go_simp;refine c.out _ _ (λ_=>⟨f,trivial⟩) ?_;refine oY fx ?_ _;go_wp2;go_end0;exact⟨U,m.out⟩
def anO(h:Jf w0 b (Ç Ã) w)(n:Nat)(l:0<n)(d:n<=281474976710656): Ñ À 54 #[Ç<|Â ⟨b,0,Ã⟩,Ä Ê n] w λe a=>e=Æ (č #[])/\uB w0 b [] a:=by
 have f:w.shape? b=Â (109,2):=by have i:w.heap[b]?=_:=h.r;simp[Š,i]
 have c:=eZ (show Jf w0 b (Ç<|Â ⟨b,0,Ã⟩) (w.setCell ⟨b,0,Ã⟩<|Ç<|Â ⟨b,0,Ã⟩).drew from⟨h.C,(h.I.C (fc.I (X:=λk=>k=b) U _<|ä h.r.S) λi k q=>by have:=h.C;omega).fj<|fc.gG _ _,(h.r.fO 0 _).C (fc.gG fh _) id⟩);have k:=eZ<|Á (c.out.r.r 1 _ rfl) trivial;have q:=h.r.r 0 _ U;have g:=h.r.I 0;have m:¬((n:Int)<0):=Z
 have o:(0:Int)<(n:Int):=Z
 have p:Ê.wrap 0<(n:Int):=by rw[Ą];omega
 go_enter Tryz.func54,Tryz.ntmps54;go_wp2_with (go_at_call 78;refine(anJ b w q f g).mono ?_;rintro e a ⟨rfl,i⟩;subst a);refine oZ (λa=>a.cell? ⟨b,1,Ã⟩=Â (Å Ã 0 0)/\True) [] fx ?_;iterate 13 apply tk k.out
 refine oY fx ?_ _;go_wp2_with (go_at_call 79;refine(anN c.out n d).mono ?_;rintro e a ⟨rfl,i⟩;have j:=eZ i;clear i);go_end0;exact⟨U,j.out⟩
def anP{l:List UInt8}(h:uB w0 b (à l) w)(d:l≠[]): Ñ À 56 #[Ç<|Â ⟨b,0,Ã⟩] w λe K=>e=Æ (Í ⟨l.toArray⟩)/\fc fh w0 K:=by
 let⟨v,f,c⟩:=h.C;have n:l.length≠0:=by simpa using d
 rw[Ľ]at c;obtain⟨g,e,a,rfl,t,o,u,s,y,z⟩:∃g e a,v=Å (Â ⟨g,0,Ã⟩) l.length e/\w0.heap.size<=g/\w.heap[g]?=Â (Î a 5 (0,0))/\l.length<=e/\e<=ā/\a.size=e*1/\a.toList.take (l.length*1)=à l:=by
  rcases c.2 with⟨_,i⟩|⟨g,e,a,j,r⟩
  .exact absurd i n
  .exact⟨g,e,a,j,r⟩
 have m:=eZ (Á (show w.drew.cell? ⟨b,1,Ã⟩=Â (Å (Â ⟨g,0,Ã⟩) l.length e)from f.r 1 _ rfl) trivial);have B:∀W:Ë,(Ν #[107] 177 #[Å (Â ⟨g,0,Ã⟩) l.length e]).run À W=Ξ (Ç<|Â ⟨g,0,Ã⟩) W:=λW=>
  Lib.run_unsafeSliceData_row _ _ _ _ _ _ Z
 have C:(ĵ #[177,3] 9 #[Ç<|Â ⟨g,0,Ã⟩,Ä Ê l.length]).run À w.drew=Ξ (Í ⟨l.toArray⟩) (w.drew.freeze ⟨g,0,Ã⟩ l.length):=by refine ģ w.drew 177 3 9 5 œ anM g a.size (by have i:w.drew.heap[g]?=Â (Î a 5 (0,0)):=o;simp[Š,i]) l d Z (by unfold ā at s;omega) ?_;intro j x i;have:=c.cells U j (Ä au x.toNat) (by simp[à,i]);exact this
 have x:=eZ ((h.r.fj<|fc.gG _ _).C (fc.Y (X:=λk=>k=g) (p:=⟨g,0,Ã⟩) U l.length) λi j q=>by omega);have j:=eZ (Á ((fc.Y (X:=λk=>k=g) (p:=⟨g,0,Ã⟩) rfl l.length).r m.out.1 λq=>iL c f A<|by show Â g=Â b;rw[show g=b from(show b=g from q).symm]) trivial);go_enter Tryz.func56,Tryz.ntmps56;go_wp2;refine oZ (λK=>K.cell? ⟨b,1,Ã⟩=Â (Å (Â ⟨g,0,Ã⟩) l.length e)/\True) [] fx ?_;iterate 10 apply tk m.out
 apply ia 10;intro K i;go_simp;apply i.out _ _ λ_=>j.out;apply ia 11;intro K i;go_simp;apply i.out _ _ λ_=>j.out;refine oY fx ?_ _;go_wp2;go_ret;exact⟨U,x.out⟩
end
end Go.Proofs.Y.gu
