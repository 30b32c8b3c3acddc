import Derived.Test.YtgpphkdoanciiaaGreatDoorWAC
import Derived.Test.YtgpphkdoanciiaaGreatDoorChecked
import Derived.WalkKit
import Derived.WalkSpells
import Derived.WalkLawsBesides
import Derived.Deep.Light
import Derived.Maps.AppendAt
import Derived.RegionTactic
import Derived.Deep.RegionWith
import Derived.Deep.QuietTactic
import Derived.BigQuiet
import Derived.Deep.RegionHeld3
import Derived.WalkMore
import Derived.Deep.MidRow
import Derived.Great.Walk
import Derived.Lib.UnsafeStr
import Derived.Lib.BufferWrite
import Derived.Laws.Tables
import Derived.Laws.Bits64
import Derived.Shelf.Strconv.Itoa0
import Derived.Shelf.Strconv.Itoa1
import Derived.Shelf.LaysM
import Derived.Shelf.Strconv.Itoa2
import Derived.Shelf.Strconv.Itoa3
import Derived.Shelf.Strings.Repeat
import Derived.Shelf.Strings.OnBuilder
import Derived.Shelf.Strconv.Clone
import Derived.Shelf.Strings.Prefix
import Derived.Shelf.Bits.Mul64
import Derived.Test.YtgpphkdoanciiaaGreatDoorProg
import Derived.Lib.ItoaLen
import Derived.Deep.DeepCutAuto
set_option linter.all false
set_option maxRecDepth 1000000
set_option maxHeartbeats 8000000
open Go.Proofs.Tryz renaming prog->À,underlying107->ã,underlying9->ó,underlying3->Ă,underlying4->ă,zeroValue3->Đ,zeroValue4->đ,zeroValue9->Ē,underlying106->ę,underlying36->ğ,underlying25->ġ,zeroValue36->Ħ,ntmps66->Ĭ,sizeOf3->ĭ,sizeOf4->Į,sizeOf9->į,func66->Ł,isAgg3->ł,isAgg4->Ń,isAgg9->ń,ntmps113->ō,sizeOf36->Ŏ,underlying177->œ,underlying168->ŗ,underlying170->Ř,func187->Ţ,func113->ţ,zeroValue168->ť,isAgg36->Ŧ,underlying95->ŧ,underlying0->ŭ,underlying5->Ů,zeroValue95->ů,zeroValue0->Ŷ,zeroValue5->ŷ,sizeOf168->ž,ntmps168->Γ,ntmps196->Ε,ntmps169->Ζ,ntmps154->Η,ntmps187->Θ,isAgg168->Ι,sizeOf95->Κ,ntmps172->Λ,func168->Χ,func196->Ω,func169->ε,func154->η,ntmps35->θ,sizeOf0->ι,sizeOf5->κ,isAgg95->ξ,func172->ο,ntmps78->π,func35->υ,isAgg0->χ,isAgg5->ψ,func78->ω
open And renaming intro->Á
open Option renaming some->Â,none->Ã,map_eq_some_iff->É,map_some->Ý,isSome_none->Ő,map->Ŗ
open Go.Value renaming int->Ä,slice->Å,pointer->Ç,string->Í,bool->Ú,agg->õ,tuple->č,ownBlock->ĕ,cells->Ĝ
open Go.Ending renaming returned->Æ
open Go renaming Value->È,World->Ë,Calls->Ñ,heap_alloc_new->Ü,TypeId->é,info_parts->ì,setRow_other->ú,cell_one_new->ÿ,maxLen->ā,setRow_heap->ą,execOp->ċ,Addr->Ě,Oper->Ķ,Operand->ķ,grownCap->Ĺ,growslice_fits->ļ,run_underlying->Ŀ,all_oneCell_toArray->ņ,run_callFunc_extern->Ŋ,wpList_plain->ś,bodyPost_ret->š,wpList_store_mid->ū,grownCap_ge->Ű,run_append_grow->ų,run_loadVar_mid->Ŵ,wpList_load_mid->ŵ,ready_mono->ź,wpList->Ž,resolve->Ρ,builtin->Τ,results->Υ,Ending->ζ,Program->ρ,invoke->ai,Act->ar,undef->aE
open Go.IntKind renaming i64->Ê,u64->Ì,wrap_i64->Ą,u8->au,wrap_u64->az
open Go.Obj renaming cells->Î
open List renaming getElem?_eq_getElem->Ï,getElem?_eq_some_iff->Ò,length_append->Ó,getElem?_append_left->Õ,eq_nil_of_length_eq_zero->Ø,getElem?_range->â,ext_getElem?->æ,range->ë,setIfInBounds_toArray->í,getElem?_append_right->î,drop_eq_getElem_cons->ô,mem_append->ö,size_toArray->ù,take_of_length_le->û,drop_eq_nil_of_le->ü,getElem?_map->ý,append_assoc->þ,set_append_left->Ć,mem_of_getElem?->ć,length_set->Č,append_nil->ď,getD_eq_getElem?_getD->Ę,map_toArray->ĥ,mem_map->ī,range_succ->ĳ,length_map->Ĵ,mem_append_left->ĺ,mem_cons_of_mem->ŀ,flatMap_append->ŉ,map_cons->ŋ,set_cons_zero->Ŕ,set_cons_succ->ŕ,map_nil->ş,take_add_one->Ũ,mem_flatMap->ũ,map_append->Ÿ
open Array renaming getElem?_modify->Ð,size_replicate->ð,getD_eq_getD_getElem?->ē,replicate->Ĳ,toList_append->Ņ,length_toList->Ň,size_append->Ś
open Bool renaming true->Ô,false->Û,false_eq_true->ő,not_false->Α,not_true->Μ
open Option.some renaming injEq->Ö
open Go.World renaming block_lt_of_cell?->Ù,freeze->ò,alloc->ĝ,ownsRow_nil->Ğ,setCell->Ģ,drew->Ī,shape?->Š,cell?->ς
open Nat renaming zero_le->Þ,le_refl->å,le_trans->ç,zero_add->Ĩ,add_mul->ĸ,mul_le_mul_right->Ļ,lt_of_lt_of_le->ŏ,lt_or_ge->ř,le_add_right->Ŭ,mod_lt->ah
open Or renaming inl->ß,inr->ä
open Go.Lib renaming byteCells->à,nDigits->ï,zeros24->Ĉ,decDigits_length->ĉ,run_unsafeString_row->ģ,decDigits->Ĥ,byteCells_length->Ľ,TabIs->Ο,pow10Tab->ν
open Go.Builtin renaming zeroCells->á,append_->ı,unsafeString_->ĵ,copy_->Δ,unsafeSliceData_->Ν,lenOf->aJ
open Go.Region renaming ready->è,binds->ĩ,wanted->Ō,Mode->ű
open Go.RowKit renaming intOf->ê
open Go.RowKit.Below renaming heap_alloc->ñ,heap_setCell->ø
open Go.Great renaming wpList_runTo->Ā
open Go.Obj.cells renaming injEq->Ċ
open Go.Oper renaming upon_value->Ď,wp->Ŝ
open Go.Shelf renaming Ren->Ĕ
open Go.Result renaming andThen->Ė,andThen_ok->ě,ok->Ξ
open Go.Instr renaming fill->ė,index->Ų
open ByteArray renaming extract->Ġ,size_extract->İ,ext->aG
open Go.Sort renaming mapBlock->ħ,putRow->ſ
open Go.TypeDesc renaming isRow->ľ,slice->aD
open Int renaming toNat_of_nonneg->ň,le_refl->σ
open False renaming elim->Œ
open Go.Sem renaming run_bind->ŝ,run_pure->Ş
open Go.Proofs.Lays renaming n283->ae,n285->af,n212->ag,n99->ak
variable{i n j b k m J j9 j7 j6:Nat}{w u W jX:Ë}{v x z jQ:È}{a p:Ě}{h c:Int}{e t T:é}{d q:Array È}{P:ρ}{y:ar}{B:ByteArray}{X:Nat->Prop}{O:Option Ě}{l:List È}{yQ:Bool}{o:Ķ}{D:Nat->Nat}{jJ:List Nat}{qQ:ķ}{zQ:List Int}{zJ:Go.TypeInfo}{xX:ķ->È}{xJ:Nat×Nat}{vX:List ByteArray}{vJ:Go.Exit->ar->Ë->Prop}{s:Go.Func}
namespace Go.Proofs.Y.gu
open Go Go.Proofs Go.RowKit Go.Proofs.Y.Lift
def eZ{p:Prop}(h:p):Hid p:=h
def Tz{b:Bool}(h:yQ=b):Æ (Ú yQ)=Æ (Ú b):=by rw[h]
def IN{k:IntKind}{b:Int}(h:c=b):Æ (Ä k c)=Æ (Ä k b):=by rw[h]
def R'{b:ByteArray}(h:B=b):Æ (Í B)=Æ (Í b):=by rw[h]
def j4:È->Bool
 |Ä au _=>Û
 |Ä _ _=>Ô
 |Ú _=>Ô
 |_=>Û
def lA(T:é):Bool:=T==257||T==246
def sS(m:Nat)(w:Ë):Prop:=∀(b:Nat) (c:Array È) (T:é) (v:Nat×Nat),m<=b->w.heap[b]?=Â (Î c T v)->lA T=Ô->0<c.size/\∀v∈c.toList,j4 v=Ô
def NF(b:Nat)(w:Ë):Prop:=∀(c:Array È) (T:é) (a:Nat×Nat),w.heap[b]?=Â (Î c T a)->lA T=Û
structure fc(X:Nat->Prop)(w w':Ë):Prop where
 M:w.heap.size<=w'.heap.size
 N:∀k,k<w.heap.size->¬X k->w'.heap[k]?=w.heap[k]?
 gU:kl w->kl w'
 S:∀m,sS m w->sS m w'
section
variable{Y:Nat->Prop}{w' d:Ë}
theorem fc.fV(X:Nat->Prop)(w:Ë):fc X w w:=⟨å _,λ_ _ _=>rfl,id,λ_=>id⟩
def fc.fj(h:fc X W jX)(k:fc X jX d):fc X W d:= ⟨ç h.M k.M,λi b c=>(k.N i (ŏ b h.M) c).trans<|h.N i b c,λa=>k.gU<|h.gU a,λm a=>k.S m<|h.S m a⟩
def fc.ff(h:fc X w w')(b:∀k,k<w.heap.size->X k->Y k):fc Y w w':= ⟨h.M,λk a c=>h.N k a λx=>c<|b k a x,h.gU,h.S⟩
def fc.C(h:fc X W jX)(k:fc Y jX d)(hy:∀i,i<W.heap.size->Y i->X i):fc X W d:= ⟨ç h.M k.M,λi b c=>(k.N i (ŏ b h.M) λy=>c<|hy i b y).trans<|h.N i b c,λa=>k.gU<|h.gU a,λm a=>k.S m<|h.S m a⟩
def alS(a:kl w)(p:Ě)(v:È):kl (w.setCell p v):=by
 intro i o h;by_cases e:i=p.block
 .subst e;unfold Ģ at h;simp only[Ð,if_true]at h;cases b:w.heap[p.block]? with
  |none=>rw[b]at h;cases h
  |some d=>
   have:=a _ _ b;rw[b]at h;cases d with
   |cells c t z=>simp only[Ý,Ö]at h;subst h;exact λx=>x
   |_=>exact absurd trivial this
 .rw[ø _ _ _ _ (by simpa using e)]at h;exact a i o h
theorem IP(a:kl w)(b:Array È)(t:é)(z:Nat×Nat):kl (w.alloc<|Î b t z):=by
 intro i o h;by_cases e:i<w.heap.size
 .rw[ñ _ _ _ e]at h;exact a i o h
 .by_cases c:i=w.heap.size
  .subst c;rw[Ü]at h;cases h;exact λx=>x
  .have:(w.alloc<|Î b t z).heap.size<=i:=by simp;omega
   grind
def alT(a:sS m w)(p:Ě)(v:È)(f:j4 v=Ô\/NF p.block w):sS m (w.setCell p v):=by
 intro i c T k g h b;by_cases e:i=p.block
 .subst e;unfold Ģ at h;simp only[Ð,if_true]at h;cases d:w.heap[p.block]? with
  |none=>rw[d]at h;cases h
  |some l=>
   rw[d]at h;cases l with
   |cells o t z=>
    simp only[Ý,Ö,Ċ]at h;obtain⟨n,rfl,rfl⟩:=h;rcases f with f|f
    .subst n;split
     .exact a _ _ _ _ g d b
     .refine⟨by rw[Array.size_setIfInBounds];exact(a _ _ _ _ g d b).1,λu j=> ?_⟩;rw[Array.toList_setIfInBounds]at j;rcases List.mem_or_eq_of_mem_set j with q|q
      .exact(a _ _ _ _ g d b).2 u q
      .rwa[q]
    .rw[f _ _ _ d]at b;cases b
   |_=>cases h
 .rw[ø _ _ _ _ (by simpa using e)]at h;exact a i c T k g h b
theorem IQ(a:sS m w)(b:Array È)(t:é)(z:Nat×Nat)(j:lA t=Û\/0<b.size/\∀v∈b.toList,j4 v=Ô):sS m (w.alloc<|Î b t z):=by
 intro i c T d f h g;by_cases e:i<w.heap.size
 .rw[ñ _ _ _ e]at h;exact a i c T d f h g
 .by_cases k:i=w.heap.size
  .grind [Ü]
  .have:(w.alloc<|Î b t z).heap.size<=i:=by simp;omega
   grind
def fc.I{p:Addr}(hx:X p.block)(v:Value)(hv:j4 v=true\/NF p.block w:=by first|exact Or.inl (by rfl)|exact Or.inr<|by assumption):fc X w (w.setCell p v):= ⟨fp,λk _ hk=>ø _ _ _ _ (by intro e;subst e;exact hk hx),λa=>alS a p v,λ_ a=>alT a p v hv⟩
def fc.iw(X:Nat->Prop)(w:World)(cs:Array Value)(t:TypeId)(hf:lA t=false\/0<cs.size/\∀v∈cs.toList,j4 v=true:=by first|exact Or.inl (by decide)|exact Or.inr ⟨by simp,by simp[j4]⟩):fc X w (w.alloc<|.cells cs t):= ⟨fp,λk hk _=>ñ _ _ _ hk,λa=>IP a cs t (0,0),λ_ a=>IQ a cs t (0,0) hf⟩
def fc.jh(X:Nat->Prop)(w:Ë)(n:Nat):fc X w (w.drewN n):=⟨å _,λ_ _ _=>rfl,id,λ_=>id⟩
def fc.gG(X:Nat->Prop)(w:Ë):fc X w w.drew:=⟨å _,λ_ _ _=>rfl,id,λ_=>id⟩
def kp{X:Nat->Prop}{w w':World}(h:fc X w w':=by repeat' (first|(with_reducible exact fc.fV _ _)|(with_reducible refine fc.fj ?_<|fc.jh _ _ _)|(with_reducible refine fc.fj ?_<|fc.gG _ _)|(with_reducible refine fc.fj ?_<|fc.iw _ _ _ _))):fc X w w':=h
def fc.r(h:fc X w w')(b:w.cell? a=Â v)(c:¬X a.block):w'.cell? a=Â v:=by rwa[World.cell?_of_block<|h.N _ (Ù w a b) c]
end
def alU(h:j≠b):(w.setCell ⟨j,i,Ã⟩ v).cell? ⟨b,n,Ã⟩=w.cell? ⟨b,n,Ã⟩:= World.cell?_setCell_other _ _ _ _<|by intro e;injection e with e1 e2;exact h e1
def fq(j:Nat)(vs:List È)(T:é)(w:Ë):Prop:=w.heap[j]?=Â (Î vs.toArray T (0,0))
section
variable{vs:List È}{w':Ë}
def fq.N(w:Ë)(vs:List È)(T:é):fq w.heap.size vs T (w.alloc<|Î vs.toArray T):=Ü w _
def fq.M(h:fq j vs T w):j<w.heap.size:=by
 rcases ř j w.heap.size with a|a
 .exact a
 .unfold fq at h;rw[Array.getElem?_eq_none a]at h;cases h
def fq.r(h:fq j vs T w)(i:Nat)(v:È)(a:vs[i]?=Â v):w.cell? ⟨j,i,Ã⟩=Â v:=by unfold fq at h;simp only[ς,h,Ő,ő,if_false,List.getElem?_toArray];exact a
def fq.I(h:fq j vs T w)(i:Nat):w.frozen? ⟨j,i,Ã⟩=Û:=by unfold fq at h;simp[World.frozen?,h]
def fq.zP(h:fq j vs T w)(e:w'.heap[j]?=w.heap[j]?):fq j vs T w':=by unfold fq;rwa[e]
def fq.C(h:fq j vs T w)(k:fc X w w')(a:¬X j):fq j vs T w':=h.zP<|k.N j h.M a
theorem fq.fO(h:fq j vs T w)(i:Nat)(u:È):fq j (vs.set i u) T (w.setCell ⟨j,i,Ã⟩ u):=by unfold fq at h|-;unfold Ģ;grind
def fq.S(h:fq j vs T w)(hT:lA T=false:=by decide):NF j w:=λc T' fr q=>by unfold fq at h;rw[h]at q;cases q;exact hT
theorem fq.G(h:fq j vs T w)(k:fq i l e w)(a:T≠e):j≠i:=by rintro rfl;unfold fq at h k;grind
end
section
variable{w':Ë}{base:Nat}{size:Nat}{xs:List È}
def alV(h:w.ownsRow base e size v n xs)(k:∀j,v.ownBlock=Â j->w'.heap[j]?=w.heap[j]?):w'.ownsRow base e size v n xs:=by
 let⟨c,a⟩:=h;refine⟨c,?_⟩;rcases a with a|⟨g,d,f,b,i,l,r⟩
 .exact ß a
 .refine ä ⟨g,d,f,b,i,?_,r⟩;rw[k g (by rw[b];rfl)];exact l
def im(h:w.ownsRow base e size v n xs)(k:fc X w w')(b:∀j,v.ownBlock=Â j->¬X j):w'.ownsRow base e size v n xs:= alV h λj a=>k.N j (h.lt j a).2<|b j a
theorem jv(h:w.ownsRow base e size v n xs):∃a c,v=Å a n c:=by rcases h.2 with⟨b,d⟩|⟨g,f,i,b,_⟩;all_goals grind
theorem nW(h:w.ownsRow base e size v n xs)(a:v.ownBlock=Â j):∃b,w.heap[j]?=Â (Î b e (0,0)):=by
 rcases h.2 with⟨c,_⟩|⟨g,f,b,c,_,d,_⟩
 .rw[c]at a;cases a
 .rw[c]at a;cases a;exact⟨b,d⟩
theorem iL(h:w.ownsRow base e size v n xs)(k:fq j l T w)(a:e≠T):v.ownBlock≠Â j:=by intro q;let⟨b,c⟩:=nW h q;unfold fq at k;grind
theorem IT(h:w.ownsRow base e size v n xs)(k:w.ownsRow i t b x m l)(a:e≠t)(c:v.ownBlock=Â j):x.ownBlock≠Â j:=by grind [nW]
theorem TA{n:Nat}(h:v∈(á d n).toList):v∈d.toList:=by unfold á at h;grind [Array.toList_map,getElem,ah]
structure nX(w:Ë)(base:Nat)(e:é)(size:Nat)(v:È)(n:Nat)(xs:List È)(m:Nat)(news:List È)(v':È)(w':Ë):Prop where
 fg:w'.ownsRow base e size v' (n+m) (xs++news)
 r:fc (λk=>v.ownBlock=Â k) w w'
 C:v'.ownBlock=v.ownBlock\/v'.ownBlock=Â w.heap.size
 I:∀v0 n0 Fy,w.ownsRow base e size v0 n0 Fy->(v0.ownBlock=v.ownBlock->n0<=n)->w'.ownsRow base e size v0 n0 Fy
def nX.alW(c:w.ownsRow base e size v n xs)(f:l.length=m*size)(g:base<=w.heap.size)(j:n+m<=i)(o:i<=ā)(p:d.size=i*size)(q:d.toList.take ((n+m)*size)=xs++l)(r:lA e=Û\/0<d.size/\∀v∈d.toList,j4 v=Ô): nX w base e size v n xs m l (Å (Â ⟨w.heap.size,0,Ã⟩) (n+m) i) (w.drew.alloc<|Î d e):=by have b:∀X,fc X w (w.drew.alloc<|Î d e):=λX=>⟨fp,λk s _=>ñ _ _ _ s,λa=>IP a d e (0,0),λ_ a=>IQ a d e (0,0) r⟩;refine⟨⟨by rw[Ó,c.1,f,ĸ],ä ⟨w.heap.size,i,d,U,g,Ü w.drew _,j,o,p,q⟩⟩,b _,ä U,λt u x h _=>im h (b λ_=>False) λ_ _=>id⟩
theorem TB{ty:é}{bytes:Nat}(F:P.underlying t=Â (aD e))(G:P.info? e=Â zJ)(Q:zJ.zero=Â z) (zf:zJ.size=size) (oY:zJ.bytes=bytes) (oE:z.cells.size=size) (p:w.ownsRow base e size v n xs) (a:Ě) (c:Nat) (b:List È) (hm:0<m) (r:b.length=m*size) (H:∀j u,b[j]?=Â u->w.cell? (a.add j)=Â u) (h1:∀u∈b,u.oneCell'=Ô) (S:n+m<=ā) (V:(n+m)*bytes<=140737488355328) (Df:base<=w.heap.size) (W:lA e=Û\/(0<b.length/\(∀u∈xs++b,j4 u=Ô)/\∀u∈z.cells.toList,j4 u=Ô)): ∃x w',(ı #[t,t] ty #[v,Å (Â a) m c]).run P w=Ξ x w'/\nX w base e size v n xs m b x w':=by
 subst zf;subst oY;have alX:n+m<=9223372036854775807:=by simp only[ā]at S;omega
 have hlen:(xs++b).length=(n+m)*zJ.size:=by rw[Ó,p.1,r,ĸ]
 have auA:=p;have tk:∀d,((xs.toArray++b.toArray++á z.cells (Ĺ w (n+m) d e-(n+m))).toList.take ((n+m)*zJ.size)=xs++b):=λd=>by grind
 have sz:∀d,(xs.toArray++b.toArray++á z.cells (Ĺ w (n+m) d e-(n+m))).size=Ĺ w (n+m) d e*zJ.size:=λd=>by have x:=Ű w (n+m) d e;simp only[Ś,ù,size_zeroCells,oE,p.1,r,<-ĸ];congr 1;omega
 have alY:∀d,lA e=Û\/0<(xs.toArray++b.toArray++á z.cells (Ĺ w (n+m) d e-(n+m))).size/\∀v∈(xs.toArray++b.toArray++á z.cells (Ĺ w (n+m) d e-(n+m))).toList,j4 v=Ô:=λd=>by
  cases s:lA e with
  |false=>exact ß U
  |true=>
   rcases W with q|⟨x,B,I⟩
   .rw[q]at s;cases s
   .refine ä ⟨by simp only[Ś,ù];omega,λv f=> ?_⟩;simp only[Ņ,ö]at f;rcases f with(f|f)|f
    .exact B v<|ĺ _ f
    .exact B v<|List.mem_append_right _ f
    .exact I v<|TA f
 have gr:=λd=>nX.alW p r Df (Ű w (n+m) d e) (grownCap_le_maxLen w (n+m) d e S) (sz d) (tk d)<|alY d;rcases p.2 with⟨rfl,rfl⟩|⟨g,y,h,rfl,hbg,C,hnc,hcm,X,htake⟩
 .have J:=Ø (by simpa using p.1);subst J;have Y:=run_append_nil w t ty e zJ z F G Q a m c b r H hm Z (by have x:=V;simp only[Ĩ]at x;omega);grind
 .by_cases K:n+m<=y
  .have TC:n*zJ.size+b.length<=h.size:=by rw[r,X,<-ĸ];exact Ļ _ K
   have Y:=run_append_room w t ty e zJ F G g n y h C a m c b r H h1 K TC;have E:=ą w g h (h.toList.take (n*zJ.size)++b++h.toList.drop (n*zJ.size+b.length)).toArray e _ C;have L:=λk (M:k≠g)=>ú w g k (h.toList.take (n*zJ.size)++b++h.toList.drop (n*zJ.size+b.length)).toArray M;have N:(h.toList.take (n*zJ.size)++b++h.toList.drop (n*zJ.size+b.length)).toArray.size=h.size:=by grind
   have kp:fc (λk=>ĕ (Å (Â ⟨g,0,Ã⟩) n y)=Â k) w (w.setRow g (h.toList.take (n*zJ.size)++b++h.toList.drop (n*zJ.size+b.length)).toArray):=by
    refine⟨fp,λk _ M=>L k λe=>M (by simp[ĕ,e]),λal q o l=> ?_,λm' hF q c T fr O l s=> ?_⟩;rotate_left
    .by_cases D:q=g
     .subst D;rw[E]at l;cases l;rcases W with qq|⟨_,B,_⟩
      .grind
      .refine⟨by rw[N];exact(hF _ _ _ _ O C s).1,λu x=> ?_⟩;simp only[ö]at x;rcases x with(x|x)|x
       .grind
       .grind
       .exact(hF _ _ _ _ O C s).2 u<|List.mem_of_mem_drop x
     .rw[L q D]at l;exact hF q c T fr O l s
    by_cases D:q=g
    .subst D;rw[E]at l;cases l;exact λx=>x
    .rw[L q D]at l;exact al q o l
   refine⟨_,_,Y,⟨hlen,ä ⟨g,y,_,U,hbg,E,K,hcm,by rw[N,X],?_⟩⟩,kp,ß U,λo q Fy x s=> ?_⟩
   .grind
   .by_cases f:o.ownBlock=Â g
    .let⟨B,I⟩:=x;refine⟨B,?_⟩;rcases I with⟨rfl,_⟩|⟨g0,D,auB,rfl,O,l,T,b4,b5,b6⟩
     .cases f
     .have:g0=g:=by simpa[ĕ]using f
      subst this;rw[C]at l;cases l;refine ä ⟨g0,D,_,U,O,E,T,b4,by rw[N,b5],?_⟩;rw[htake];have auC:q*zJ.size<=n*zJ.size:=Ļ _<|s f;grind
    .exact im x kp λj l J=>f<|by rw[l];simpa[ĕ]using J.symm
  .exact⟨_,_,(ų w t ty e zJ z F G Q ⟨g,0,Ã⟩ n y xs p.1 (p.cells U) a m c b r H Z Z<|ļ Z V),gr y⟩
def xp{P:Program}{ops:Array Oper}{rest:List Oper}{o:Oper}{a:Act}{Q:Exit->Act->World->Prop}(IU:o.guard=none)(s x:Operand)(t:TypeId) (ho:o.op=.call {callee:=.builtin .append,args:=#[s,x],argTypes:=#[t,t]}) {i:TypeInfo} {z:Value} {bytes:Nat} (ht:P.underlying t=some (.slice e)) (hi:P.info? e=some i) (hz:i.zero=some z) (zf:i.size=size) (oY:i.bytes=bytes) (oE:z.cells.size=size) (hs:a.eval s=v) (lT:w.ownsRow base e size v n xs) (ad:Addr) {m c:Nat} (news:List Value) (hx:a.eval x=.slice (some ad) m c) (hm:0<m) (hl:news.length=m*size) (TD:∀j u,news[j]?=some u->w.cell? (ad.add j)=some u) (h1:∀u∈news,u.oneCell'=true) (Dg:n+m<=maxLen) (Dh:(n+m)*bytes<=140737488355328) (Df:base<=w.heap.size) (h:∀v' w',nX w base e size v n xs m news v' w'->wpList P ops Q rest (a.put o.dst v') w') (hfl:lA e=false\/(0<news.length/\(∀u∈xs++news,j4 u=true)/\∀u∈z.cells.toList,j4 u=true):=by first|exact Or.inl (by decide)|exact Or.inr ⟨by simp,by simp[j4],by simp[j4,Value.cells]⟩): wpList P ops Q (o::rest) a w:=by refine ś IU λK hK=> ?_;let⟨v',w',hr,h2⟩:=TB (ty:=o.type) ht hi hz zf oY oE lT ad c news hm hl TD h1 Dg Dh Df hfl;unfold Ŝ ċ;simp only[ho,Ρ,ai,Τ,ŝ,Ş,ě,ĥ,ŋ,ş,hs,hx,hr];exact hK _ _<|h v' w' h2
end
structure IV where
 ft:Int
 C:ByteArray
 r:Nat->Int
abbrev St:=Nat->IV
def St.fO(s:St)(i:Nat)(a:IV):St:=λj=>if j=i then a else s j
def St.ft(s:St)(i:Nat)(b:Int):St:=s.fO i {s i with ft:=b}
def St.r(s:St)(i:Nat)(p:ByteArray):St:=s.fO i {s i with C:=p}
def St.C(s:St)(i j:Nat)(v:Int):St:=s.fO i {s i with r:=λk=>if k=j then v else(s i).r k}
def rM(n:Int):È:=Ä Ì n
def S_(n:Int):È:=Ä Ê n
def rN(s:St)(i:Nat):È:=if i%18=0 then rM (s<|i/18).ft else if i%18=1 then Í (s<|i/18).C else rM ((s<|i/18).r<|i%18-2)
def sT(s:St)(a:È)(i:Nat):È:=if 144<=i then a else rN s i
theorem uz(s:St)(a:È)(h:i<144):sT s a i=rN s i:=by unfold sT;rw[if_neg Z]
def ny(s:St)(a:È):List È:=(ë 145).map<|sT s a
theorem rO(s:St)(a:È):(ny s a).length=145:=by simp[ny]
theorem MZ(s:St)(a:È)(h:i<145):(ny s a)[i]?=Â (sT s a i):=by unfold ny;grind
theorem alZ{s:St}(h:l.length=145)(a:∀i,i<145->l[i]?=Â (sT s v i)):l=ny s v:=by apply æ;grind [MZ,rO]
section
variable(s:St)(lv:È)
def IW(h:i<8):sT s lv (i*18)=rM (s i).ft:=by rw[uz _ _ Z,rN,if_pos Z,show i*18/18=i from by omega]
def M0(h:i<8):sT s lv (i*18+1)=Í (s i).C:=by rw[uz _ _ Z,rN,if_neg Z,if_pos Z,show(i*18+1)/18=i from by omega]
def S'(h:i<8)(a:j<16):sT s lv (i*18+2+j)=rM ((s i).r j):=by rw[uz _ _ Z,rN,if_neg Z,if_neg Z,show(i*18+2+j)/18=i from by omega,show(i*18+2+j)%18-2=j from by omega]
theorem TE:sT s lv 144=lv:=by unfold sT;grind
theorem T_(f:i<144){c:St}(g:sT c lv i=v)(h:∀b,b<144->b≠i->rN c b=rN s b):(ny s lv).set i v=ny c lv:=by
 refine alZ (by rw[Č,rO]) λb d=> ?_;by_cases e:b=i
 .grind [rO]
 .rw[List.getElem?_set_ne<|Ne.symm e,MZ _ _ d];grind [uz,TE]
def U_(h:i<8)(b:Int):(ny s lv).set (i*18) (rM b)=ny (s.ft i b) lv:=by
 refine T_ s lv Z ?_ λk a c=> ?_
 .rw[IW _ _ h];simp[St.ft,St.fO]
 .unfold rN;by_cases e:k/18=i
  .have:k%18≠0:=Z
   simp[St.ft,St.fO,e,this]
  .simp[St.ft,St.fO,e]
def al0(h:i<8)(p:ByteArray):(ny s lv).set (i*18+1) (Í p)=ny (s.r i p) lv:=by
 refine T_ s lv Z ?_ λk a b=> ?_
 .rw[M0 _ _ h];simp[St.r,St.fO]
 .unfold rN;by_cases e:k/18=i
  .have:k%18≠1:=Z
   simp[St.r,St.fO,e,this]
  .simp[St.r,St.fO,e]
end
def kC(b:Nat)(T:é)(tl:List È)(s:St)(a:È)(w:Ë):Prop:=fq b (ny s a++tl) T w
section
variable{tl:List È}{s:St}{lv:È}{w':Ë}
def kC.mO(h:kC b T tl s lv w)(a:i<145):w.cell? ⟨b,i,Ã⟩=Â (sT s lv i):= fq.r h i _<|by rw[Õ (by rwa[rO]),MZ _ _ a]
def kC.rj(h:kC b T tl s lv w)(c:i<145){a:St}(e:(ny s lv).set i v=ny a x):kC b T tl a x (w.setCell ⟨b,i,Ã⟩ v):=by have:=fq.fO h i v;rw[Ć _ _ (show i<(ny s lv).length by rwa[rO]),e]at this;exact this
def kC.ft(h:kC b T tl s lv w)(a:i<8):w.cell? ⟨b,i*18,Ã⟩=Â (Ä Ì (s i).ft):=by rw[h.mO Z,IW _ _ a];rfl
def kC.IX(h:kC b T tl s lv w)(a:i<8):w.cell? ⟨b,i*18+1,Ã⟩=Â (Í (s i).C):=by rw[h.mO Z,M0 _ _ a]
def kC.TF(h:kC b T tl s lv w):w.cell? ⟨b,144,Ã⟩=Â lv:=by rw[h.mO Z,TE]
def kC.IY(h:kC b T tl s lv w)(a:i<8)(x:Int):kC b T tl (s.ft i x) lv (w.setCell ⟨b,i*18,Ã⟩<|Ä Ì x):=h.rj Z<|U_ s lv a x
def kC.al1(h:kC b T tl s lv w)(a:i<8)(x:ByteArray):kC b T tl (s.r i x) lv (w.setCell ⟨b,i*18+1,Ã⟩<|Í x):=h.rj Z<|al0 s lv a x
end
def AV(b:Bool):Int:=if b then 1 else 0
def al2(b:Bool)(w:Ë):Ñ À 159 #[Ú b] w λe a=>e=Æ (Ä Ì<|AV b)/\a=w:=by
 go_enter Tryz.func159,Tryz.ntmps159;go_wp2;all_goals go_ret
 all_goals refine⟨IN ?_,U⟩
 all_goals simp[AV, *]
def wu(n:Int):Int:=Ì.wrap n
theorem AW{n:Int}(a:0<=n)(b:n<18446744073709551616):wu n=n:=by show n%18446744073709551616=n;omega
def V_(n:Int):wu n=n%18446744073709551616:=rfl
def al3(n:Int):0<=wu n:=by rw[V_];omega
def al4(n:Int):wu n<18446744073709551616:=by rw[V_];omega
def al5(k p q:Int):Int:=
 if k=2 then wu (p+q)else if k=3 then wu (p-q)else if k=4 then wu (p*q)
 else if k=5 then(if q=0 then 0 else p/q)else if k=6 then AV (decide<|p<q)else AV (decide<|p=q)
structure RC where
 x:Nat
 y:Nat
 k:Int
 d:Int
 g:Int
def TG:(À.info? 36).map (λi=>(i.zero,i.size,i.bytes))=Â (Â<|Ä Ì 0,1,8):=fx
def oI(l:List (Nat×Int)):List È:=l.flatMap λp=>[S_ p.1,rM p.2]
structure pI where
 r:Nat
 T:é
 C:List È
structure pI.Ok(E:pI):Prop where
 M:E.T≠36
 r:E.T≠257
 I:E.T≠282
 N:E.T≠300
 auD:E.T≠252
 al6:E.T≠246
def pI.Ok.C{E:pI}(h:E.Ok):lA E.T=Û:=by unfold lA;rw[beq_eq_false_iff_ne.2 h.r,beq_eq_false_iff_ne.2 h.al6];rfl
def vM:List (Int×Int×Int):=[(0,0,0),(1,0,1),(1,2,1),(1,2,1),(2,2,1),(2,2,1),(1,2,1),(1,2,1),(1,1,2),(1,2,2),(1,1,0),(1,0,1),(1,0,1),(1,0,1),(1,0,1),(3,1,1),(6,2,0),(2,2,0),(8,2,1),(4,1,0),(8,3,2),(1,1,0),(1,0,0)]
structure sU(w:Ë):Prop where
 M:∃cs fz,w.heap[2]?=Â (Î cs 300 fz)
 I:∀(k:Nat) (r:Int×Int×Int),vM[k]?=Â r->w.cell? ⟨2,k*3,Ã⟩=Â (Ä Ì r.1)/\w.cell? ⟨2,k*3+1,Ã⟩=Â (Ä Ê r.2.1)/\w.cell? ⟨2,k*3+2,Ã⟩=Â (Ä Ê r.2.2)
theorem sU.r(h:sU w)(k:fc X w u)(a:¬X 2):sU u:=by
 let⟨b,c,d⟩:=h.M;have e:2<w.heap.size:=by grind
 refine⟨⟨b,c,by rwa[k.N 2 e a]⟩,λi r f=> ?_⟩;let⟨g,j,l⟩:=h.I i r f;exact⟨k.r g a,k.r j a,k.r l a⟩
def al7(g:Int)(n:Nat)(b a c:Int):Bool:= !(decide (g<b)||(decide ((n:Int)-a<0)||decide (32<(n:Int)-a+c)))
def W_(s:St)(y:Nat)(q p:Int):Int×St:=
 if(s y).ft<p then(0,s)else(1,(s.ft y<|(s y).ft-p).ft (q%8).toNat<|wu<|(s.ft y ((s y).ft-p) (q%8).toNat).ft+p)
structure jV(E:pI)(lv:È)(n:Nat)(w:Ë)(s:St)(ls:List (Nat×Int))(w':Ë)(za:È):Prop where
 r:kC E.r E.T E.C s za w'
 I:w'.ownsRow 0 257 2 za ls.length (oI ls)
 C:fc (λk=>k=E.r\/lv.ownBlock=Â k) w w'
 l:∀j,za.ownBlock=Â j->lv.ownBlock=Â j\/w.heap.size<=j
 M:∀v0 n0 Fy,w.ownsRow 0 257 2 v0 n0 Fy->(v0.ownBlock=lv.ownBlock->n0<=n)->w'.ownsRow 0 257 2 v0 n0 Fy/\(v0.ownBlock=za.ownBlock->n0<=ls.length)
structure TH where
 r:Int
 C:Bool
 M:Int
 s:St
 I:List (Nat×Int)
abbrev xq:=St->List (Nat×Int)->Nat->Nat->Int->Int->TH
def oA(n:Int):Prop:=0<=n/\n<18446744073709551616
def mD(c:Int):Nat:=
 if 48<=c/\c<=57 then 1 else if c=43 then 2 else if c=45 then 3 else if c=42 then 4 else if c=47 then 5 else if c=60 then 6 else if c=61 then 7
 else if c=100 then 8 else if c=120 then 9 else if c=112 then 10 else if c=107 then 11 else if c=99 then 12 else if c=121 then 13 else if c=98 then 14
 else if c=108 then 15 else if c=116 then 16 else if c=106 then 17 else if c=118 then 18 else if c=101 then 19 else if c=111 then 20 else if c=114 then 21 else if c=102 then 22 else 0
def zg(c:UInt8):Bool:=decide<|mD (c.toNat:Int)≠0
structure iZ(s:St):Prop where
 ft:∀i,oA (s i).ft
 C:∀i j,oA<|(s i).r j
 I:∀i,(s i).C.size<=40/\∀c∈(s i).C.data.toList,zg c=Ô
def gX(l:List Int):Int:=l.getLastD 0
def IZ{P:Program}{ops:Array Oper}{o:Oper}{a:Act}{w:World}{K:Act->World->Prop}{Q:Exit->Act->World->Prop}{E:Prop}{base:Nat}{e:TypeId}{size n:Nat}{v:Value}{xs:List Value} (hg:o.guard=none) (s x:Operand) (t:TypeId) (yl:o.op=Op.call {callee:=Callee.builtin Builtin.append,args:=#[s,x],argTypes:=#[t,t]}) {i:TypeInfo} {z:Value} {bytes:Nat} (ht:P.underlying t=some (.slice e)) (hi:P.info? e=some i) (hz:i.zero=some z) (zf:i.size=size) (oY:i.bytes=bytes) (oE:z.cells.size=size) (hs:a.eval s=v) (lT:w.ownsRow base e size v n xs) (ad:Addr) {m c:Nat} (news:List Value) (hx:a.eval x=.slice (some ad) m c) (hm:0<m) (hl:news.length=m*size) (TD:∀j u,news[j]?=some u->w.cell? (ad.add j)=some u) (h1:∀u∈news,u.oneCell'=true) (Dg:n+m<=maxLen) (Dh:(n+m)*bytes<=140737488355328) (Df:base<=w.heap.size) (h:∀v' w',nX w base e size v n xs m news v' w'->K (a.put o.dst v') w') (hfl:lA e=false\/(0<news.length/\(∀u∈xs++news,j4 u=true)/\∀u∈z.cells.toList,j4 u=true):=by first|exact Or.inl (by decide)|exact Or.inr ⟨by simp,by simp[j4],by simp[j4,Value.cells]⟩): if Region.wanted o (yielded ops a.tmps)=true then Oper.wp P o a w K Q else E:=by
 have hw:Ō o (yielded ops a.tmps)=Ô:=by simp[Ō,hg]
 rw[if_pos hw];let⟨v',w',hr,h2⟩:=TB (ty:=o.type) ht hi hz zf oY oE lT ad c news hm hl TD h1 Dg Dh Df hfl;unfold Ŝ;simp[ċ,yl,Ρ,ai,Τ,hs,hx,hr,Ė];exact h v' w' h2
def X_(b:List (Nat×Int)):∀u∈oI b,j4 u=Ô:=λu a=>by unfold oI at a;let⟨e,_,h⟩:=ũ.1 a;simp[S_,rM]at h;rcases h with rfl|rfl<;>rfl
section
variable{md:ű}{ops:Array Ķ}{Q:Exit->ar->Ë->Prop}{S:Ë->Prop}{X:List Nat}
def rP(P:ρ)(md:ű)(ops:Array Ķ)(Q:Exit->ar->Ë->Prop)(S:Ë->Prop)(X:List Nat):Nat->Array Bool->ar->Ë->Prop
 |0,listed,a,w=>è md ops listed=[]/\Q .normal a w
 |fuel+1,listed,a,w=>(è md ops listed=[]->Q .normal a w)/\
  ∀i∈è md ops listed,wpOp P ops Q i (λc b=>(i∉X->S b)/\rP P md ops Q S X fuel (listed.setIfInBounds i Ô) c b) a w
def X':∀(b:Nat) (listed:Array Bool) (a:ar) (w:Ë),rP P md ops Q S X b listed a w->wpAny P md ops Q b listed a w
 |0,_,_,_,h=>h
 |b+1,_,_,_,h=>⟨h.1,λi c=>wpOp_mono (λd e q=>X' b _ d e q.2)<|h.2 i c⟩
def tV(md:ű)(ops:Array Ķ)(X:List Nat)(i:Nat):Bool:=X.all λx=>match ops[x]? with
 |some o=>o.after.toList.any λe=>ĩ md e&&e.on==i
 |none=>Ô
theorem al8{listed:Array Bool}(a:tV md ops X i=Ô)(c:ops[j]?=Â o)(d:listed.getD i Û=Û)(f:∀e∈o.after,ĩ md e=Ô->listed.getD e.on Û=Ô):j∉X:=by intro b;have g:=List.all_eq_true.1 a j b;grind
theorem al9{m:Ķ}(x:ops[i]?=Â m)(y:∀(j:Nat) (o:Ķ) n b,ops[j]?=Â o->o.op≠.select n b)(E:tV md ops X i=Ô) (F:∀c a w,Q (.panic c) (a.put m.dst v) w->Q (.panic c) a w): ∀(p:Nat) (d:Array Bool) (a:ar) (w:Ë),(∀j g,ops[j]?=Â g->j≠i->d.getD j Ô=Û->(∀e∈g.after,ĩ md e=Ô->e.on≠i)->m.apart ops g=Ô)-> i∈è md ops d->YieldsIf P ops S m v a->S w->rP P md ops Q S X p (d.setIfInBounds i Ô) (a.put m.dst v) w->rP P md ops Q S X (p+1) d a w:=by
 have G:∀{d:Array Bool},i∈è md ops d->d.getD i Û=Û:=λ{d} l=>by have D:=(mem_ready.1 l).1;grind
 intro p
 induction p with
 |zero=>
  intro d a w _ l s r H;refine⟨λh=>absurd (h▸l) fp,λj t=> ?_⟩;by_cases f:j=i
  .subst f;exact s.wpOp x r ⟨λ_=>r,H⟩
  .exact absurd (H.1▸ź t f) fp
 |succ p I=>
  intro d a w z l s r H;refine⟨λh=>absurd (h▸l) fp,λj t=> ?_⟩;by_cases f:j=i
  .subst f;exact s.wpOp x r ⟨λ_=>r,H⟩
  .let⟨B,g,u,J⟩:=mem_ready.1 t;have K:∀e∈g.after,ĩ md e=Ô->e.on≠i:=λe V W Y=>by
    grind
   refine wpOp_mono (λD L q=>⟨q.2.1,I (d.setIfInBounds j Ô) D L (λk M N O C T=>z k M N O ?_ T) (ź l<|Ne.symm f) q.1 (q.2.1<|al8 E u (G l) J) ?_⟩)<|wpOp_putIf u (z j g u f B K) (λn b=>y i m n b x) (λn b=>y j g n b u) F s<|H.2 j<|ź t f
   .by_cases D:j=k
    .subst D;exact B
    .rwa[getD_set_ne Ô D]at C
   .rw[Array.setIfInBounds_comm _ _ f];exact q.2.2
def M1{oi:Ķ}{listed:Array Bool}(b:ops[i]?=Â oi) (d:Region.noSelect ops=Ô) (e:Region.free md ops listed i=Ô) (f:(è md ops listed).contains i=Ô) (g:tV md ops X i=Ô) (j:∀c y w,Q (.panic c) (y.put oi.dst v) w->Q (.panic c) y w) (k:S w) (l:YieldsIf P ops S oi v y) (h:rP P md ops Q S X n (listed.setIfInBounds i Ô) (y.put oi.dst v) w):rP P md ops Q S X (n+1) listed y w:= al9 b (Region.noSelect_spec d) g j n listed y w (Region.free_spec b e) (by simpa using f) l k h
def ama{listed:Array Bool}(c:è md ops listed=[i])(e:ops[i]?=Â o) (h:∀b:ar->Ë->Prop,Shut (∀y w,(i∉X->S w)->rP P md ops Q S X n (listed.setIfInBounds i Ô) y w->b y w)->if Ō o (yielded ops y.tmps)=Ô then Ŝ P o y w b Q else b (y.put o.dst aE) w):rP P md ops Q S X (n+1) listed y w:=by
 refine⟨λq=>absurd (c▸q) fp,λj d=> ?_⟩;rw[c]at d;have:j=i:=by simpa using d
 subst this;exact wpOp_step e λb f=>h b λy w g k=>f y w ⟨g,k⟩
def ix:List Ķ->Nat->Option Ķ
 |[],_=>Ã
 |o::_,0=>Â o
 |_::l,n+1=>ix l n
def Y_:∀{l:List Ķ} {i:Nat} {o:Ķ},ix l i=Â o->l.toArray[i]?=Â o
 |[],_,_,h=>by cases h
 |o::l,0,_,h=>by simpa[ix]using h
 |o::l,n+1,_,h=>by simpa using Y_ (l:=l) h
def Z_(h:ix ops.toList i=Â o):ops[i]?=Â o:=by simpa using Y_ h
def tk{oi:Oper}{v:Value}{fuel:Nat}{listed:Array Bool}{a0 a a':Act}{w:World}(hS:S w)(i:Nat:=ops.size-1-fuel)(h:rP P md ops Q S X fuel (listed.setIfInBounds i true) a' w) (h0:a0=a:=by(try simp only[Act.put,List.setIfInBounds_toArray,List.set_cons_zero,List.set_cons_succ]);rfl) (hi:ix ops.toList i=some oi:=by rfl) (hs:Region.noSelect ops=true:=by kernel_rfl) (hf:Region.free md ops listed i=true:=by kernel_rfl) (hr:(Region.ready md ops listed).contains i=true:=by kernel_rfl) (hw:tV md ops X i=true:=by kernel_rfl) (hQ:∀v c a w,Q (.panic c) (a.put oi.dst v) w->Q (.panic c) a w:=by exact λ_ _ _ _ h=>h) (hn:Region.wanted oi (yielded ops a.tmps)=true:=by rfl) (hy:∀w,S w->(execOp a.eval oi).run P w=.ok (.value v) w:=by intro w h;revert h;simp only[and_imp];intros;go_simp;try(with_reducible rfl)) (ha:a.put oi.dst v=a':=by(try simp only[Act.put,List.setIfInBounds_toArray,List.set_cons_zero,List.set_cons_succ]);rfl):rP P md ops Q S X (fuel+1) listed a0 w:= h0▸M1 (Z_ hi) hs hf hr hw (hQ v) hS (ß ⟨hn,hy⟩) (ha▸h)
def ia(i:Nat){o:Oper}{fuel:Nat}{listed:Array Bool}{a0 a:Act}{w:World} (h:∀K':Act->World->Prop,Shut (∀a w,(i∉X->S w)->rP P md ops Q S X fuel (listed.setIfInBounds i true) a w->K' a w)->if Region.wanted o (yielded ops a.tmps)=true then Oper.wp P o a w K' Q else K' (a.put o.dst undef) w) (h0:a0=a:=by(try simp only[Act.put,List.setIfInBounds_toArray,List.set_cons_zero,List.set_cons_succ]);rfl) (hr:Region.ready md ops listed=[i]:=by kernel_rfl) (ho:ix ops.toList i=some o:=by rfl):rP P md ops Q S X (fuel+1) listed a0 w:=h0▸ama hr (Z_ ho) h
def oZ{listed:Array Bool}(b:è md ops listed=[])(h:Q .normal y w):∀c,rP P md ops Q S X c listed y w
 |0=>⟨b,h⟩
 |_+1=>⟨λ_=>h,by rw[b];simp⟩
def o5{id:Nat}(S:Ë->Prop)(X:List Nat)(b:P.follows .mixedOrders=Ô) (h:rP P .any ops Q S X ops.size (Ĳ ops.size Û) y w.drew):(Code.region id ops Ô).wp P Q y w:= wp_region_any b<|X' _ _ _ _ h
end
structure RT where
 r:List Int
 s:St
 C:List (Nat×Int)
 g:Int
def TJ(F:xq)(c:RC)(t:RT)(q p k:Int):Int×Int×RT:=
 if c.d=4 then(0,0,t)else
  ((F t.s t.C c.y (q%8).toNat (min p t.g) k).M,AV (F t.s t.C c.y (q%8).toNat (min p t.g) k).C,
    {t with s:=(F t.s t.C c.y (q%8).toNat (min p t.g) k).s,C:=(F t.s t.C c.y (q%8).toNat (min p t.g) k).I,g:=t.g-(F t.s t.C c.y (q%8).toNat (min p t.g) k).r})
def jW(l:List Int):List Int:=l.dropLast
def amb(F:xq)(c:RC)(a:Nat)(t:RT):RT:=
 if a=8 then{t with r:=jW t.r++[gX t.r,gX t.r]}
 else if a=9 then{t with r:=jW (jW t.r)++[gX t.r,gX<|jW t.r]}
 else if a=10 then{t with r:=jW t.r}
 else if a=11 then{t with r:=t.r++[c.k]}
 else if a=12 then{t with r:=t.r++[(c.x:Int)]}
 else if a=13 then{t with r:=t.r++[(c.y:Int)]}
 else if a=14 then{t with r:=t.r++[(t.s c.y).ft]}
 else if a=15 then{t with r:=jW t.r++[(t.s c.y).r (gX t.r%16).toNat]}
 else if a=16 then{t with r:=jW<|jW t.r,s:=t.s.C c.y (gX t.r%16).toNat (gX<|jW t.r)}
 else if a=18 then{t with r:=jW (jW t.r)++[(W_ t.s c.y (gX t.r)<|gX<|jW t.r).1],s:=(W_ t.s c.y (gX t.r)<|gX<|jW t.r).2}
 else if a=19 then{t with r:=jW t.r,C:=t.C++[(c.y,gX t.r)]}
 else if a=20 then
  {(TJ F c t (gX t.r) (gX<|jW t.r)<|gX<|jW<|jW t.r).2.2 with r:=jW (jW<|jW t.r)++[(TJ F c t (gX t.r) (gX<|jW t.r)<|gX<|jW<|jW t.r).1,(TJ F c t (gX t.r) (gX<|jW t.r)<|gX<|jW<|jW t.r).2.1]}
 else{t with r:=jW (jW t.r)++[al5 a (gX<|jW t.r)<|gX t.r]}
section
variable{E:pI}{c:RC}{s a:St}{b d:List (Nat×Int)}{q p:Int}{F:xq}
def TK(a:0<=h)(b:h<9223372036854775808):Ê.wrap h=h:=by show(if(Ê.signed&&decide (h%(2^64:Int)≥(2^63:Int)))=Ô then h%(2^64:Int)-2^64 else h%(2^64:Int))=h;rw[(Int.emod_eq_of_lt a Z),if_neg];simp;omega
end
def Z'(c:Int)(w:Ë):Ñ À 103 #[Ä au c] w λe a=>e=Æ (Ä Ê<|mD c)/\a=w:=by
 go_enter Tryz.func103,Tryz.ntmps103;go_wp2;all_goals go_ret
 all_goals refine⟨IN ?_,U⟩
 all_goals simp only[beq_iff_eq,beq_eq_false_iff_ne,ne_eq]at*
 all_goals(try subst c)
 all_goals first|rfl|(unfold mD;simp[*];done)|(unfold mD;rw[if_neg Z];simp[*])
def sV(k:Nat):Int×Int×Int:=(vM[k]?).getD (0,0,0)
def aac(P:ByteArray)(a:Int):Int:=((P.data.getD a.toNat 0).toNat:Int)
def rQ(P:ByteArray)(a:Int):Nat:=mD<|aac P a
def I0(F:xq)(c:RC)(P:ByteArray):Nat->Int->RT->Int×Bool×RT
 |0,_,t=>(0,Û,t)
 |f+1,pl,t=>
  if pl=P.size then(0,Ô,t)
  else if(P.size:Int)<pl then(0,Û,{t with g:=0})
  else if al7 t.g t.r.length (sV<|rQ P pl).1 (sV<|rQ P pl).2.1 (sV<|rQ P pl).2.2=Û then(0,Û,{t with g:=0})
  else if rQ P pl=1 then I0 F c P f (pl+1) {t with r:=t.r++[aac P pl-48],g:=t.g-(sV<|rQ P pl).1}
  else if rQ P pl=17 then
   if gX (jW t.r)=0 then I0 F c P f (pl+1) {t with r:=jW<|jW t.r,g:=t.g-(sV<|rQ P pl).1}else I0 F c P f (gX t.r) {t with r:=jW<|jW t.r,g:=t.g-(sV<|rQ P pl).1}
  else if rQ P pl=21 then(gX t.r,Ô,{t with r:=jW t.r,g:=t.g-(sV<|rQ P pl).1})
  else if rQ P pl=22 then(0,Û,{t with g:=t.g-(sV<|rQ P pl).1})
  else I0 F c P f (pl+1) (amb F c (rQ P pl) {t with g:=t.g-(sV<|rQ P pl).1})
def amc{p:Prop}[Decidable p](c:i<=m)(d:b<=m):(if p then i else b)<=m:=by split;exact c;exact d
def amd(c:Int):mD c<=22:=by unfold mD;repeat' (first|refine amc A ?_|decide)
def Di(n:Int):oA (wu n):=⟨al3 n,al4 n⟩
def iZ.fO{s:St}(h:iZ s){a:IV}(b:oA a.ft)(d:∀j,oA<|a.r j)(e:a.C.size<=40/\∀c∈a.C.data.toList,zg c=Ô):iZ (s.fO i a):=by
 refine⟨λj=> ?_,λj k=> ?_,λj=> ?_⟩<;>unfold St.fO<;>split
 .exact b
 .exact h.ft j
 .exact d k
 .exact h.C j k
 .exact e
 .exact h.I j
def iZ.r{s:St}(h:iZ s)(i:Nat){b:Int}(a:oA b):iZ (s.ft i b):=h.fO a (h.C i)<|h.I i
section
variable{E:pI}{c:RC}{F:xq}{s:St}{a:List (Nat×Int)}
def Dj(F:xq)(c:RC)(s:St)(a:List (Nat×Int)):Int×Bool×RT:=I0 F c (s c.y).C (c.g.toNat+1) 0 ⟨[],s,a,c.g⟩
end
def M3(a:o.op=.alloc T)(b:P.info? T=Â zJ)(c:zJ.zero=Â z): (ċ xX o).run P w=Ξ (.value<|Ç<|Â ⟨w.heap.size,0,Ã⟩) (w.alloc<|Î z.cells T):=by unfold ċ;simp[a,Instr.alloc,zeroValue,typeInfo,b,c,newVar,newRow]
def I1:∀(e a d:List È) (w:Ë) (c:List È),c.length=e.length->fq b (a++c++d) T w->fq b (a++e++d) T (w.setCells b a.length e)
 |[],a,d,w,c,hl,h=>by have:c=[]:=Ø (by simpa using hl);subst this;exact h
 |v::r,a,d,w,c,hl,h=>by
  match c,hl,h with
  |x::c,hl,h=>
   have f:=h.fO a.length v;rw[show(a++x::c++d).set a.length v=(a++[v])++c++d by simp]at f;have:=I1 r (a++[v]) d _ c (by simpa using hl) f;rw[show(a++[v]).length=a.length+1 by simp]at this;rw[show a++v::r++d=a++[v]++r++d by simp];exact this
def NF.rj(h:NF b w)(p:Ě)(v:È):NF b (w.setCell p v):=λc T d q=>by
 by_cases e:b=p.block
 .subst e;unfold Ģ at q;simp only[Ð,if_true]at q;cases a:w.heap[p.block]? with
  |none=>rw[a]at q;cases q
  |some f=>
   rw[a]at q;cases f with
   |cells g t z=>
    simp only[Ý,Ö,Ċ]at q;rw[<-q.2.1];exact h _ _ _ a
   |_=>cases q
 .rw[ø _ _ _ _ (by simpa using e)]at q;exact h c T d q
def I2:∀(a:List È) (o:Nat) (w:Ë),NF b w->fc (λk=>k=b) w (w.setCells b o a)
 |[],_,w,_=>fc.fV _ w
 |v::r,o,w,h=>(fc.I (X:=λk=>k=b) (p:=⟨b,o,Ã⟩) U v<|ä h).fj<|I2 r (o+1) _<|h.rj _ _
def fq.M4(h:fq j l T w)(a:n<=l.length):w.there j 0 n:=λi b=>by refine⟨?_,h.I _⟩;rw[h.r (0+i) (l[0+i]'Z)<|Ï Z];rfl
def fq.Y{vs tl:List È}(h:fq j (vs++tl) T w):w.rangeAt j 0 vs:=λi v a=>by apply h.r (0+i) v;rwa[Ĩ,Õ (Ò.1 a).1]
def M5{P:Program}{ops:Array Oper}{rest:List Oper}{o1 o2:Oper}{a:Act}{w:World}{Q:Exit->Act->World->Prop}(g1:o1.guard=none)(g2:o2.guard=none)(T:TypeId)(h1:o1.op=.alloc T)(d:Tmp)(hd:o1.dst=some d)(x y:Operand)(h2:o2.op=.store T x y)(pG:o2.dst=none) {i:TypeInfo} {z:Value} (hi:P.info? T=some i) (hz:i.zero=some z) (cs:List Value) (iO:i.size=cs.length) (oE:z.cells.size=cs.length) (hx:(a.put (some d)<|.pointer<|some ⟨w.heap.size,0,none⟩).eval x=.pointer (some ⟨w.heap.size,0,none⟩)) (hy:(a.put (some d)<|.pointer<|some ⟨w.heap.size,0,none⟩).eval y=.agg cs.toArray) (ame:∀v∈cs,v.oneCell'=true) (h:∀w',fq w.heap.size cs T w'->fc fh w w'->w'.heap.size=w.heap.size+1->wpList P ops Q rest (a.put (some d)<|.pointer<|some ⟨w.heap.size,0,none⟩) w') (hT:lA T=false:=by decide):wpList P ops Q (o1::o2::rest) a w:=by
 apply Ā g1 (Â d) hd _ _ (M3 h1 hi hz);have hB:fq w.heap.size z.cells.toList T (w.alloc<|Î z.cells T):=by have:=fq.N w z.cells.toList T;simpa using this
 refine ū g2 T x y h2 w.heap.size 0 cs.toArray hx hy (hB.M4<|by simp[oE]) (by rw[hi];simp[iO]) (ņ ame) ?_;rw[pG];have I3:=I1 cs [] [] (w.alloc<|Î z.cells T) z.cells.toList (by simpa using oE) (by simpa using hB);refine h _ (by simpa using I3) ?_ ?_
 .refine(fc.iw fh w _ _<|ß hT).C (I2 _ _ _<|hB.S hT) λk hk e=> ?_;omega
 .have:∀(vs:List È) (o:Nat) (w:Ë) (b:Nat),(w.setCells b o vs).heap.size=w.heap.size:=by
   intro vs
   induction vs with
   |nil=>intro o w b;rfl
   |cons v r ih=>intro o w b;rw[World.setCells,ih];simp
  simp[this]
def amf(h:(P.info? e).map (λi=>(i.size,i.zero.map (·.cells.size)))=Â (n,Â m)):∃i z,P.info? e=Â i/\i.size=n/\i.zero=Â z/\z.cells.size=m:=by let⟨i,a,h⟩:=É.1 h;simp only[Prod.mk.injEq,É]at h;let⟨b,z,c,d⟩:=h;exact⟨i,z,a,b,c,d⟩
def amg(s:St){lv:È}(b:lv.oneCell'=Ô):∀v∈ny s lv,v.oneCell'=Ô:=λv c=>by
 obtain⟨i,a,rfl⟩:=List.getElem_of_mem c;rw[rO]at a;have:=MZ s lv a;rw[Ï (by rwa[rO])]at this;injection this with this;rw[this];unfold sT rN;repeat' split
 all_goals first|exact b|rfl
def aad{t:Tmp}{d:TypeDesc}(h:s.results=#[.cell t T])(a:q.getD t aE=Ç (Â ⟨b,0,Ã⟩))(c:w.rangeAt b 0 l)(e:P.underlying T=Â d)(f:d.isRow=Ô)(g:(P.info? T).map (·.size)=Â l.length): (Υ s q).run P w=Ξ (õ l.toArray) w:=by rw[ē]at a;simp only[Υ,h];simp[a,asAddr,Ŵ w b 0 T l d c e f g]
def amh(F:xq)(c:RC)(s:St)(a:List (Nat×Int)):TH:=
 ⟨c.g-(Dj F c s a).2.2.g,(Dj F c s a).2.1,(Dj F c s a).1,if(Dj F c s a).2.1 then(Dj F c s a).2.2.s else s,if(Dj F c s a).2.1 then(Dj F c s a).2.2.C else a⟩
section
variable{E:pI}{c:RC}{lv:È}{s:St}{ls:List (Nat×Int)}{F:xq}
def jV.N{Y:Nat->Prop}(r:jV E lv n w s ls W v)(k:fc Y W jX)(h:∀i,Y i->w.heap.size<=i)(m:∀i d,Y i->W.heap[i]?≠Â (Î d 257 (0,0)))(o:¬Y E.r):jV E lv n w s ls jX v:=by
 have e:∀{a b c},W.ownsRow 0 257 2 a b c->jX.ownsRow 0 257 2 a b c:=λ{a b c} q=>im q k λj p y=>by let⟨d,t⟩:=nW q p;exact m j d y t
 exact⟨r.r.C k o,e r.I,r.C.C k λi u y=>absurd (h i y) Z,r.l,λa b c f g=>⟨e (r.M a b c f g).1,(r.M a b c f g).2⟩⟩
end
def aae:Nat->xq
 |0=>λs a _ _ _ _=>⟨0,Û,0,s,a⟩
 |n+1=>λs a x y g k=>amh (aae n) ⟨x,y,k,4-(n:Int),g⟩ s a
def gO:xq:=aae 4
def kC.oS{tl:List È}{s:St}(h:kC b T tl s v w)(k:fc X w u)(a:¬X b):kC b T tl s v u:=fq.C h k a
section
variable{E:pI}{f:È}{w1:Ë}{s r d:St}{ls B C:List (Nat×Int)}
theorem jV.fV(a:kC E.r E.T E.C s v w)(b:w.ownsRow 0 257 2 v ls.length (oI ls)):jV E v ls.length w s ls w v:= ⟨a,b,fc.fV _ _,λ_ q=>ß q,λ_ _ _ c d=>⟨c,d⟩⟩
def jV.fE(h:jV E v n w s ls w1 jQ)(k:fc fh w1 u):jV E v n w s ls u jQ:= h.N k (λ_=>Œ) (λ_ _=>Œ) id
def jV.Y(ok:E.Ok)(h:jV E v n w s ls w1 jQ)(i:Nat)(k:kC E.r E.T E.C d jQ (w1.setCell ⟨E.r,i,Ã⟩ x)):jV E v n w d ls (w1.setCell ⟨E.r,i,Ã⟩ x) jQ:=by have e:=fc.I (X:=λk=>k=E.r) (p:=⟨E.r,i,Ã⟩) U x<|ä<|fq.S h.r ok.C;have f:∀{a b c},w1.ownsRow 0 257 2 a b c->(w1.setCell ⟨E.r,i,Ã⟩ x).ownsRow 0 257 2 a b c:=λ{a b c} q=>im q e λj o y=>iL q h.r ok.r.symm (by rw[o,y]);exact⟨k,f h.I,h.C.C e λi _ q=>ß q,h.l,λa b c g m=>⟨f (h.M a b c g m).1,(h.M a b c g m).2⟩⟩
def jV.ft(ok:E.Ok)(h:jV E v n w s ls w1 jQ)(a:i<8)(x:Int):jV E v n w (s.ft i x) ls (w1.setCell ⟨E.r,i*18,Ã⟩<|Ä Ì x) jQ:=h.Y ok _<|h.r.IY a x
def jV.IX(ok:E.Ok)(h:jV E v n w s ls w1 jQ)(a:i<8)(x:ByteArray):jV E v n w (s.r i x) ls (w1.setCell ⟨E.r,i*18+1,Ã⟩<|Í x) jQ:=h.Y ok _<|h.r.al1 a x
end
def rR(s:St)(x y:Nat)(n:Int):Bool×St:=
 if(s x).ft<n+10 then(Û,s)else(Ô,(s.ft x<|(s x).ft-(n+10)).ft y<|wu<|(s.ft x ((s x).ft-(n+10)) y).ft+n)
section
variable{E:pI}{s:St}{ls:List (Nat×Int)}
def ami(ok:E.Ok)(c:kC E.r E.T E.C s v w)(g:w.ownsRow 0 257 2 v ls.length (oI ls))(f:iZ s)(x y:Nat)(n:Int)(a:x<8)(d:y<8)(h:0<=n)(i:n<=1000000): Ñ À 168 #[Ç<|Â ⟨E.r,0,Ã⟩,Ä Ê x,Ä Ê y,Ä Ì n] w λe m=>e=Æ (Ú (rR s x y n).1)/\jV E v ls.length w (rR s x y n).2 ls m v:=by
 have j:=c.ft a;have k:=fq.I c<|x*18;have l:=(f.ft x).1;have o:=(f.ft x).2;have p:∀m,((w.drewN m).setCell ⟨E.r,x*18,Ã⟩<|Ä Ì<|(s x).ft-(n+10)).cell? ⟨E.r,y*18,Ã⟩=Â (Ä Ì (s.ft x ((s x).ft-(n+10)) y).ft):=λm=>((c.oS (fc.jh fh w m) id).IY a _).ft d;have q:∀m,((w.drewN m).setCell ⟨E.r,x*18,Ã⟩<|Ä Ì<|(s x).ft-(n+10)).frozen? ⟨E.r,y*18,Ã⟩=Û:=λm=>fq.I ((c.oS (fc.jh fh w m) id).IY a _) _;have r:=(c.IY a<|(s x).ft-(n+10)).ft d;have t:=fq.I (c.IY a<|(s x).ft-(n+10))<|y*18;have H:=eZ<|jV.fV c g;unfold rR;by_cases e:(s x).ft<n+10
 .rw[if_pos e];generalize(s x).ft=b at*;go_enter Χ,Γ;go_wp2_with fail;go_ret;exact⟨U,H.out⟩
 .rw[if_neg e];generalize(s.ft x ((s x).ft-(n+10)) y).ft=b2 at*;generalize(s x).ft=b at*;go_enter Χ,Γ;go_wp2_with fail;go_region;go_wp2_with fail;go_region;go_wp2_with fail;go_ret;refine⟨U,?_⟩;first
   |exact((H.out.ft ok a _).ft ok d _).fE<|fc.jh _ _ _
   |exact(((H.out.fE<|fc.jh _ _ _).ft ok a _).ft ok d _)
   |exact(((H.out.fE<|fc.gG _ _).ft ok a _).fE<|fc.gG _ _).ft ok d _
   |exact((H.out.ft ok a _).ft ok d _).still<|(Keep.drew _ _).trans<|Keep.drew _ _
end
def amj(a:kl w)(p:Ě)(n:Nat):kl (w.freeze p n):=by
 unfold ò;split
 .exact a
 .intro i o h;simp only[Ð]at h;split at h
  .cases b:w.heap[i]? with
   |none=>rw[b]at h;cases h
   |some d=>
    have:=a _ _ b;rw[b]at h;cases d with
    |cells c t z=>simp only[Ý,Ö]at h;subst h;exact λx=>x
    |_=>exact absurd trivial this
  .exact a i o h
def aaf(a:sS m w)(p:Ě)(n:Nat):sS m (w.freeze p n):=by
 unfold ò;split
 .exact a
 .intro i c T f e h b;simp only[Ð]at h;split at h
  .cases d:w.heap[i]? with
   |none=>rw[d]at h;cases h
   |some g=>
    rw[d]at h;cases g with
    |cells j t z=>
     simp only[Ý,Ö,Ċ]at h;rw[<-h.1];rw[<-h.2.1]at b;exact a _ _ _ _ e d b
    |_=>cases h
  .exact a i c T f e h b
theorem amk{w w1:World}{g:Nat}{cur Y:Array Value}{e:TypeId}{z:Nat×Nat}(hw:fc fh w w1)(hg:w1.heap[g]?=some (.cells cur e z))(auE:w.heap.size<=g)(he:lA e=false:=by decide):fc fh w (w1.setRow g Y):=by
 refine⟨by simpa using hw.M,λk hk _=>(ú w1 g k Y Z).trans<|hw.N k hk id,λal i o ho=> ?_,λm a i c T fr hm h hT=> ?_⟩;rotate_left
 .by_cases hi:i=g
  .subst hi;rw[ą w1 i cur Y e z hg]at h;grind
  .rw[ú w1 g i Y hi]at h;exact hw.S m a i c T fr hm h hT
 by_cases hi:i=g
 .subst hi;rw[ą w1 i cur Y e z hg]at ho;cases ho;exact λx=>x
 .rw[ú w1 g i Y hi]at ho;exact hw.gU al i o ho
def aml(b:fc fh w u)(e:w.heap.size<=p.block):fc fh w (u.freeze p n):=by
 refine⟨?_,λk c _=> ?_,λd=>amj (b.gU d) p n,λm a=>aaf (b.S m a) p n⟩
 .unfold ò;split
  .exact b.M
  .simpa using b.M
 .unfold ò;split
  .exact b.N k c id
  .simp only[Ð];rw[if_neg Z];exact b.N k c id
def TL:(À.info? 5).map (λi=>(i.zero,i.size,i.bytes))=Â (Â<|Ä au 0,1,1):=fx
def amm(n:Nat)(e:n<=1000000):∃M:Array È,M.size=n/\∀W:Ë,(Instr.makeSlice 107 (Ä Ê (n:Int))<|Ä Ê (n:Int)).run À W=Ξ (Å (Â ⟨W.heap.size,0,Ã⟩) n n) (W.alloc<|Î M 5):=by let⟨i,a,b,c,d⟩:=ì TL;refine⟨madeCells (Ä au 0).cells<|(n:Int).toNat*i.size,by rw[size_madeCells,c];simp,λW=> ?_⟩;simpa using run_make W 107 5 i (Ä au 0) ã a b Ê Ê n n Z Z (by rw[d];omega) Z
theorem amn{M:Array È}(e:M.size=B.size)(b:W.heap[i]?=Â (Î M 5 (0,0))): (Δ #[107,9] 3 #[Å (Â ⟨i,0,Ã⟩) B.size B.size,Í B]).run À W=Ξ (goInt B.size) (W.setRow i (à B.data.toList).toArray):=by let⟨a,c,_,d,_⟩:=ì TL;have h:=Lib.run_copy_row_string W 107 9 3 5 i 0 B.size B.size B M 5 ã (by rw[c];simp[d]) b (å _) Z;grind [List.drop_of_length_le]
def amo(d:B.size≠0)(m:B.size<=1000000)(c:W.heap[i]?=Â (Î (à B.data.toList).toArray 5 (0,0))): (ĵ #[177,3] 9 #[Ç<|Â ⟨i,0,Ã⟩,Ä Ê (B.size:Int)]).run À W=Ξ (Í B) (W.freeze ⟨i,0,Ã⟩ B.size):=by
 let⟨a,f,_,k,_⟩:=ì TL;have b:=Lib.size_eq B;have l:(à B.data.toList).toArray.size=B.size:=by rw[ù,Ľ,<-b]
 have h:=ģ W 177 3 9 5 œ (by simp[Program.cellsOf,f,k]) i B.size (by unfold Š;rw[c];simp only[l]) B.data.toList (by intro e;rw[e]at b;exact d b) Z Z (λj x e=>Lib.cells_of_row c _ j _<|by rw[û<|å _];simp[à,e]);rwa[<-b]at h
def amq(s:ByteArray)(a:s.size<=1000000)(w:Ë):Ñ À 196 #[Í s] w λe c=>e=Æ (Í s)/\fc fh w c:=by
 by_cases b:s.size=0
 .have d:=aG<|Array.eq_empty_of_size_eq_zero b;subst d;go_enter Ω,Ε;go_wp2;go_ret;exact⟨U,fc.fV _ _⟩
 .let⟨M,d,mk⟩:=amm s.size a;have g:=amn d<|Ü w<|Î M 5;have h:=amo b a<|ą (w.alloc<|Î M 5) w.heap.size M (à s.data.toList).toArray 5 (0,0)<|Ü w _;have f:=eZ<|aml (p:=⟨w.heap.size,0,Ã⟩) (n:=s.size) (amk (Y:=(à s.data.toList).toArray) (fc.iw fh w M 5) (Ü w _)<|å _)<|å _;generalize(à s.data.toList).toArray=Y at*;go_enter Ω,Ε;go_wp2;go_ret;exact⟨U,f.out⟩
def amr(s:ByteArray)(a:s.size<=1000000)(w:Ë):Ñ À 186 #[Í s] w λe b=>e=Æ (Í s)/\fc fh w b:=by go_enter Tryz.func186,Tryz.ntmps186;go_wp2_with (go_at_call 196;refine(amq s a _).mono ?_;rintro e d ⟨rfl,c⟩);go_ret;exact⟨U,c⟩
def rS(s:St)(x:Nat)(p:ByteArray):Bool×St:=
 if(s x).ft<20 then(Û,s)else(Ô,(s.ft x<|(s x).ft-20).r x p)
def TM{t u:Tmp}{cs:List È}{d:TypeDesc}(h:s.results=#[.cell t T,.tmp u])(a:q.getD t aE=Ç (Â ⟨b,0,Ã⟩))(c:w.rangeAt b 0 cs)(e:P.underlying T=Â d)(f:d.isRow=Ô)(g:(P.info? T).map (·.size)=Â cs.length): (Υ s q).run P w=Ξ (č #[õ cs.toArray,q.getD u aE]) w:=by have i:=Ŵ w b 0 T cs d c e f g;rw[ē]at a;simp only[Υ,h];simp[a,asAddr,i]
def aag:(À.underlying 246).map ľ=Â Ô:=fx
def aah:(À.info? 246).map (·.size)=Â 2:=fx
section
variable{E:pI}{s:St}{ls:List (Nat×Int)}
def ams(ok:E.Ok)(a:kC E.r E.T E.C s v w)(h:w.ownsRow 0 257 2 v ls.length (oI ls))(f:iZ s)(x:Nat)(p:ByteArray)(c:x<8)(i:p.size<=1000000): Ñ À 169 #[Ç<|Â ⟨E.r,0,Ã⟩,Ä Ê x,Í p] w λe d=>e=Æ (Ú (rS s x p).1)/\jV E v ls.length w (rS s x p).2 ls d v:=by
 have k:=fq.M a;have l:=a.ft c;have m:=fq.I a<|x*18;have n:=(f.ft x).1;have o:=(f.ft x).2;have q:(0:Int)<=(x:Int):=Z
 have r:(x:Int)<8:=Z
 have H:=eZ<|jV.fV a h;unfold rS;by_cases g:(s x).ft<20
 .rw[if_pos g];generalize(s x).ft=b at*;go_enter ε,Ζ;go_wp2_with fail;go_ret;exact⟨U,H.out⟩
 .rw[if_neg g];generalize(s x).ft=b at*;go_enter ε,Ζ;go_wp2_with fail;go_region;go_wp2_with fail;go_region_held3 (λ_=>True) (trivial) (first
    |(go_at_call 186;refine(amr p i _).mono ?_;rintro e t ⟨rfl,j⟩;dsimp only;have d:=((H.out.ft ok c (b-20)).fE (fc.jh fh _ 2)).fE j;have u:=d.r.IX c;have y:=fq.I d.r (x*18+1)))
  go_wp2_with fail
  go_ret;exact⟨U,d.IX ok c p⟩
def TN(s:St)(ls:List (Nat×Int))(x y:Nat)(n k:Int):(Int×Bool)×Bool×St×List (Nat×Int):=
 if n<10\/400<n\/(s x).ft<n then((0,Û),Û,s,ls)
 else(((gO (s.ft x<|(s x).ft-n) ls x y (n-10) k).r+10,(gO (s.ft x<|(s x).ft-n) ls x y (n-10) k).C),Ô,
  (gO (s.ft x ((s x).ft-n)) ls x y (n-10) k).s.ft x (wu (((gO (s.ft x ((s x).ft-n)) ls x y (n-10) k).s x).ft+(n-((gO (s.ft x ((s x).ft-n)) ls x y (n-10) k).r+10)))),(gO (s.ft x ((s x).ft-n)) ls x y (n-10) k).I)
end
structure Tx where
 x:Nat
 y:Nat
 n:Int
 k:Int
 r:Int
 C:ByteArray
structure nY(a:Nat)(t:Tx)(w:Ë):Prop where
 b:∃cs fz,w.heap[a]?=Â (Î cs 200 fz)
 r:w.cell? ⟨a,0,Ã⟩=Â (Ä Ê t.x)
 C:w.cell? ⟨a,1,Ã⟩=Â (Ä Ê t.y)
 I:w.cell? ⟨a,2,Ã⟩=Â (Ä Ê t.n)
 M:w.cell? ⟨a,3,Ã⟩=Â (Ä Ê t.k)
 Y:w.cell? ⟨a,4,Ã⟩=Â (Ä Ê t.r)
 N:w.cell? ⟨a,5,Ã⟩=Â (Í t.C)
structure Tx.xr(t:Tx):Prop where
 x:t.x<8
 y:t.y<8
 I:0<=t.n
 M:t.n<1000000
 r:0<=t.k
 C:t.k<1000000
 Y:t.C.size<=40/\∀c∈t.C.data.toList,zg c=Ô
def nY.G{t:Tx}(h:nY i t w):i<w.heap.size:=Ù w _ h.r
def nY.S{t:Tx}(h:nY i t w)(k:fc X w u)(b:¬X i):nY i t u:=by let⟨c,d,e⟩:=h.b;exact⟨⟨c,d,by rwa[k.N i h.G b]⟩,k.r h.r b,k.r h.C b,k.r h.I b,k.r h.M b,k.r h.Y b,k.r h.N b⟩
def nY.iU{t:Tx}(h:nY i t w)(c:w.heap[j]?=Â (Î d T xJ))(e:T≠200):i≠j:=by rintro rfl;let⟨f,g,b⟩:=h.b;rw[c]at b;cases b;exact e U
def nY.I4{E:pI}{t:Tx}{s c:St}{ls b:List (Nat×Int)}(d:E.T≠200)(h:nY i t w)(e:kC E.r E.T E.C c v w)(f:w.ownsRow 0 257 2 v b.length (oI b))(r:jV E v n w s ls u x):nY i t u:=by
 refine h.S r.C ?_;rintro(q|q)
 .exact h.iU e d q
 .let⟨j,g⟩:=nW f q;exact h.iU g A U
def lW(s:St)(ls:List (Nat×Int))(t:Tx):(Int×Bool)×Bool×St×List (Nat×Int):=
 if t.r=1 then((10,Ô),(rR s t.x t.y t.n).1,(rR s t.x t.y t.n).2,ls)
 else if t.r=2 then((20,Ô),(rS s t.x t.C).1,(rS s t.x t.C).2,ls)
 else TN s ls t.x t.y t.n t.k
def M6(E:pI)(a:È)(n:Nat)(w:Ë)(o:(Int×Bool)×Bool×St×List (Nat×Int))(e:ζ)(b:Ë):Prop:=
 e=Æ (č #[õ #[Ä Ì o.1.1,Ú o.1.2],Ú o.2.1])/\∃c,jV E a n w o.2.2.1 o.2.2.2 b c
structure aai(r:List (Nat×Int))(o:(Int×Bool)×Bool×St×List (Nat×Int)):Prop where
 g0:0<=o.1.1
 C:o.1.1<=400
 s:iZ o.2.2.1
 r:o.2.2.2.length<=r.length+400
def xt(ls:List (Nat×Int)):Prop:=∀e∈ls,e.1<8/\oA e.2
structure TO:Prop where
 oy:∀{E:pI} {lv:È} {w:Ë} {s:St} {ls:List (Nat×Int)} {a:Nat} {t:Tx},E.Ok->E.T≠200->kC E.r E.T E.C s lv w->w.ownsRow 0 257 2 lv ls.length (oI ls)->sU w->iZ s->nY a t w->t.xr->(ls.length:Int)+400<=1000000->t.r≠1->t.r≠2->Ñ À 154 #[Ç<|Â ⟨E.r,0,Ã⟩,Ç<|Â ⟨a,0,Ã⟩] w (M6 E lv ls.length w<|lW s ls t)
 ok:∀{s:St} {ls:List (Nat×Int)} {t:Tx},iZ s->t.xr->(ls.length:Int)+400<=1000000->aai ls (TN s ls t.x t.y t.n t.k)
 amt:∀{s:St} {ls:List (Nat×Int)} {t:Tx},iZ s->t.xr->(ls.length:Int)+400<=1000000->xt ls->xt (TN s ls t.x t.y t.n t.k).2.2.2
structure Tx.Ok(t:Tx):Prop extends Tx.xr t where
 S:t.r≠1->t.r≠2->TO
def Tx.Ok.N{t:Tx}(h:t.Ok):t.xr:=⟨h.x,h.y,h.I,h.M,h.r,h.C,h.Y⟩
def M7(a:0<=h)(b:h<1000000):Ì.wrap h=h:=by show wu h=h;exact AW a Z
def jV.S{E:pI}{s:St}{ls:List (Nat×Int)}(k:fc fh w W)(r:jV E v n W s ls u x):jV E v n w s ls u x:= ⟨r.r,r.I,(k.ff λ_ _=>Œ).C r.C λ_ _ q=>q,λj q=>(r.l j q).imp id λe=>ç k.M e,λa b c d f=>r.M a b c (im d k λ_ _=>id) f⟩
section
variable{E:pI}{lv:È}{s:St}{ls:List (Nat×Int)}{a:Nat}{t:Tx}
def aaj{Fq:Value}{w1:World}{n:Nat}{s1:St}{ls1:List (Nat×Int)}(r:jV E lv n w s1 ls1 w1 Fq)(hB:fq w.heap.size [.int .u64 0,.bool false] 246 w1)(hlb:E.r<w.heap.size)(v0 v1:Value)(hf0:j4 v0=true:=by rfl)(hf1:j4 v1=true:=by rfl): jV E lv n w s1 ls1 ((w1.setCell ⟨w.heap.size,0,none⟩ v0).setCell ⟨w.heap.size,1,none⟩ v1) Fq/\fq w.heap.size [v0,v1] 246 ((w1.setCell ⟨w.heap.size,0,none⟩ v0).setCell ⟨w.heap.size,1,none⟩ v1):=by refine⟨r.N (Y:=λk=>k=w.heap.size) ((fc.I (X:=λk=>k=w.heap.size) (p:=⟨w.heap.size,0,Ã⟩) U v0<|ß hf0).fj<|fc.I (X:=λk=>k=w.heap.size) (p:=⟨w.heap.size,1,Ã⟩) U v1<|ß hf1) (λi q=>by omega) (λi cur q hc=> ?_) Z,(hB.fO 0 v0).fO 1 v1⟩;rw[q,hB]at hc;cases hc
def aak{W:Ë}{a:St}{b:List (Nat×Int)}{cs:List È}(c:jX=(w.alloc<|Î cs.toArray T).drewN 1\/jX=w.alloc (Î cs.toArray T))(d:w.ownsRow 0 257 2 lv ls.length (oI ls))(f:E.r<w.heap.size)(r:jV E lv n jX a b u v):fq w.heap.size cs T u:=by
 have e:fq w.heap.size cs T jX:=by
  rcases c with rfl|rfl
  .exact fq.N w cs T
  .exact fq.N w cs T
 refine e.C r.C ?_;rintro(q|q)
 .omega
 .have:=(d.lt _ q).2;omega
def amu(ok:E.Ok)(Q:E.T≠200)(l:kC E.r E.T E.C s lv w)(m:w.ownsRow 0 257 2 lv ls.length (oI ls))(z:sU w)(B:iZ s)(c:nY a t w)(d:t.Ok)(hlen:(ls.length:Int)+400<=1000000)(D:t.r=1): Ñ À 154 #[Ç<|Â ⟨E.r,0,Ã⟩,Ç<|Â ⟨a,0,Ã⟩] w (M6 E lv ls.length w<|lW s ls t):=by
 have F:=fq.M l;have hla:=c.G;have S:=c.r;have V:=c.C;have Y:=c.I;have c3:=c.M;have c4:=c.Y;have c5:=c.N;have hn:=M7 d.I d.M;have hk:=M7 d.r d.C;let⟨d2,G,I⟩:=É.1 aag;have J:=eZ<|Á G I;clear G I;have g:=(fc.iw fh w #[Ä Ì 0,Ú Û] 246).fj<|fc.gG _ _;have o:=l.oS g id;have u:=im m g λ_ _=>id;have b:=c.S g id;have RA:=z.r g id;rw[D]at c4;have L:lW s ls t=((10,Ô),(rR s t.x t.y t.n).1,(rR s t.x t.y t.n).2,ls):=by unfold lW;rw[if_pos D]
 rw[L];have C:=ami (ls:=ls) ok o u B t.x t.y t.n d.x d.y d.I (by have:=d.M;omega);have M:∀(j:Ë) (N:St) (O:List (Nat×Int)) (P:È),jV E lv ls.length _ N O j P->nY a t j:=λj N O P r=>nY.I4 Q b o u r;have H:=eZ<|Á C<|Á m M;clear C M l m z B c d o u RA L;go_enter η,Η;go_wp2_with fail;have HS:=eZ<|Á b.r<|Á b.C<|Á b.I<|Á b.M b.N;clear S V Y c3 c5 b;refine o5 (λe=>e.cell? ⟨a,0,Ã⟩=Â (Ä Ê t.x)/\e.cell? ⟨a,1,Ã⟩=Â (Ä Ê t.y)/\e.cell? ⟨a,2,Ã⟩=Â (Ä Ê t.n)/\e.cell? ⟨a,3,Ã⟩=Â (Ä Ê t.k)/\e.cell? ⟨a,5,Ã⟩=Â (Í t.C)) [22] fx ?_;iterate 20 apply tk HS.out
 apply ia 20;intro K f;go_simp;go_at_call 168;apply H.out.1.mono;rintro e j ⟨rfl,v⟩;dsimp only;have b:=H.out.2.2 _ _ _ _ v;apply f.out _ _ λ_=>⟨b.r,b.C,b.I,b.M,b.N⟩;clear f K;have h:=aak (W:=w) (cs:=[Ä Ì 0,Ú Û]) (ß U) H.out.2.1 F v;have e0:=h.r 0 _ U;have e1:=h.r 1 _ U;have y0:=h.I 0;have y1:=h.I 1;have i:=b.S ((fc.I (X:=λk=>k=w.heap.size) (p:=⟨w.heap.size,0,Ã⟩) U<|Ä Ì 10).fj<|fc.I (X:=λk=>k=w.heap.size) (p:=⟨w.heap.size,1,Ã⟩) U<|Ú Ô) Z;apply ia 21;intro K f;go_simp;apply f.out _ _ λ_=>⟨i.r,i.C,i.I,i.M,i.N⟩;clear f K;apply ia 22;intro K f;go_simp;apply f.out _ _ λq=>absurd fp q;clear f K;try simp only[Act.put,í,Ŕ,ŕ]
 refine oZ fx ?_ _;go_wp2_with fail;let⟨q,q2⟩:=aaj (jV.S g v) h F (Ä Ì 10)<|Ú Ô;apply š (TM U U (fq.Y (tl:=[]) (vs:=[Ä Ì 10,Ú Ô]) q2) J.out.1 J.out.2 aah) U;exact⟨U,lv,q⟩
def amv(ok:E.Ok)(Q:E.T≠200)(l:kC E.r E.T E.C s lv w)(m:w.ownsRow 0 257 2 lv ls.length (oI ls))(z:sU w)(B:iZ s)(c:nY a t w)(f:t.Ok)(hlen:(ls.length:Int)+400<=1000000)(D:t.r=2): Ñ À 154 #[Ç<|Â ⟨E.r,0,Ã⟩,Ç<|Â ⟨a,0,Ã⟩] w (M6 E lv ls.length w<|lW s ls t):=by
 have F:=fq.M l;have hla:=c.G;have S:=c.r;have V:=c.C;have Y:=c.I;have c3:=c.M;have c4:=c.Y;have c5:=c.N;have hn:=M7 f.I f.M;have hk:=M7 f.r f.C;let⟨d2,G,I⟩:=É.1 aag;have J:=eZ<|Á G I;clear G I;have g:=(fc.iw fh w #[Ä Ì 0,Ú Û] 246).fj<|fc.gG _ _;have o:=l.oS g id;have u:=im m g λ_ _=>id;have b:=c.S g id;have RA:=z.r g id;rw[D]at c4;have L:lW s ls t=((20,Ô),(rS s t.x t.C).1,(rS s t.x t.C).2,ls):=by unfold lW;rw[if_neg Z,if_pos D]
 rw[L];have C:=ams (ls:=ls) ok o u B t.x t.C f.x (by have:=f.Y.1;omega);have M:∀(j:Ë) (N:St) (O:List (Nat×Int)) (P:È),jV E lv ls.length _ N O j P->nY a t j:=λj N O P r=>nY.I4 Q b o u r;have H:=eZ<|Á C<|Á m M;clear C M l m z B c f o u RA L;go_enter η,Η;go_wp2_with fail;have HS:=eZ<|Á b.r<|Á b.C<|Á b.I<|Á b.M b.N;clear S V Y c3 c5 b;refine o5 (λd=>d.cell? ⟨a,0,Ã⟩=Â (Ä Ê t.x)/\d.cell? ⟨a,1,Ã⟩=Â (Ä Ê t.y)/\d.cell? ⟨a,2,Ã⟩=Â (Ä Ê t.n)/\d.cell? ⟨a,3,Ã⟩=Â (Ä Ê t.k)/\d.cell? ⟨a,5,Ã⟩=Â (Í t.C)) [15] fx ?_;iterate 13 apply tk HS.out
 apply ia 13;intro K d;go_simp;go_at_call 169;apply H.out.1.mono;rintro e j ⟨rfl,v⟩;dsimp only;have b:=H.out.2.2 _ _ _ _ v;apply d.out _ _ λ_=>⟨b.r,b.C,b.I,b.M,b.N⟩;clear d K;have h:=aak (W:=w) (cs:=[Ä Ì 0,Ú Û]) (ß U) H.out.2.1 F v;have e0:=h.r 0 _ U;have e1:=h.r 1 _ U;have y0:=h.I 0;have y1:=h.I 1;have i:=b.S ((fc.I (X:=λk=>k=w.heap.size) (p:=⟨w.heap.size,0,Ã⟩) U<|Ä Ì 20).fj<|fc.I (X:=λk=>k=w.heap.size) (p:=⟨w.heap.size,1,Ã⟩) U<|Ú Ô) Z;apply ia 14;intro K d;go_simp;apply d.out _ _ λ_=>⟨i.r,i.C,i.I,i.M,i.N⟩;clear d K;apply ia 15;intro K d;go_simp;apply d.out _ _ λq=>absurd fp q;clear d K;try simp only[Act.put,í,Ŕ,ŕ]
 refine oZ fx ?_ _;go_wp2_with fail;let⟨q,q2⟩:=aaj (jV.S g v) h F (Ä Ì 20)<|Ú Ô;apply š (TM U U (fq.Y (tl:=[]) (vs:=[Ä Ì 20,Ú Ô]) q2) J.out.1 J.out.2 aah) U;exact⟨U,lv,q⟩
def amw(ok:E.Ok)(c:E.T≠200)(d:kC E.r E.T E.C s lv w)(e:w.ownsRow 0 257 2 lv ls.length (oI ls))(f:sU w)(g:iZ s)(h:nY a t w)(b:t.Ok)(i:(ls.length:Int)+400<=1000000): Ñ À 154 #[Ç<|Â ⟨E.r,0,Ã⟩,Ç<|Â ⟨a,0,Ã⟩] w (M6 E lv ls.length w<|lW s ls t):=by
 by_cases j:t.r=1
 .exact amu ok c d e f g h b i j
 .by_cases k:t.r=2
  .exact amv ok c d e f g h b i k
  .exact(b.S j k).oy ok c d e f g h b.N i j k
end
def aal:∀(d a b c:List È) (k:Nat),b.length=d.length->(d.zipIdx k).foldl (λ(q:Array È) (p:Value×Nat)=>q.setIfInBounds (a.length-k+p.2) p.1) (a++b++c).toArray=(a++d++c).toArray\/a.length<k
 |[],a,b,c,k,h=>by have:b=[]:=Ø (by simpa using h);subst this;exact ß U
 |v::r,a,b,c,k,h=>by
  rcases ř a.length k with q|q
  .exact ä q
  .match b,h with
   |x::b,h=>
    apply ß;have p:=(aal r (a++[v]) b c (k+1)<|by simpa using h).resolve_right (by simp;omega);simp only[List.zipIdx_cons,List.foldl_cons];rw[show a.length-k+k=a.length by omega,í,show(a++x::b++c).set a.length v=a++[v]++b++c by simp];rw[show(a++[v]).length-(k+1)=a.length-k by simp]at p;rw[p];simp
theorem Dk{place:Nat->Option (Nat×Nat)}{pre old suf:List È}{size:Nat}{rest:List (Nat×Value)}(a:place i=Â (pre.length,size))(b:v.cells.size=size)(c:old.length=size): ė place (pre++old++suf).toArray ((i,v)::rest)=ė place (pre++v.cells.toList++suf).toArray rest:=by rw[Instr.fill.eq_2];simp only[a];rw[if_neg (by simp only[ù,Ó,Bool.or_eq_true,decide_eq_true_eq,not_or];omega)];have:=(aal v.cells.toList pre old suf 0<|by rw[c,Ň,b]).resolve_right Z;simp only[Nat.sub_zero]at this;grind [Array.toList_zipIdx]
def amx:((À.info? 144).bind (·.zero)).map (λz=>z.cells.toList.drop 144)=Â [Å Ã 0 0]:=fx
def amy:((À.info? 144).bind (·.zero)).map (λz=>z.cells.size)=Â 145:=fx
def aam:((À.info? 147).bind (·.zero)).map (λz=>z.cells.toList.drop 145)=Â [Ä Ê 0,Å Ã 0 0]:=fx
def aan:((À.info? 147).bind (·.zero)).map (λz=>z.cells.size)=Â 147:=fx
def I5(P:ρ)(t:é):Option (List<|Nat×Nat):=match P.underlying t with
 |some (.struct fs)=>fs.toList.mapM λf=>(P.info? f.type).map λi=>(f.offset,i.size)
 |_=>Ã
def amz:I5 À 144=Â [(0,144),(144,1)]:=fx
def aao:I5 À 147=Â [(0,145),(145,1),(146,1)]:=fx
def I6{c:List (Nat×Nat)}(a:I5 P t=Â c)(b:(P.info? t).bind (·.zero)=Â z)(e:List (Nat×Value)):P.built t e=ė (c.toArray[·]?) z.cells e:=by
 unfold I5 at a;unfold Program.built;cases f:P.info? t with
 |none=>rw[f]at b;cases b
 |some h=>
  rw[f]at b;have b:h.zero=Â z:=b;cases g:P.underlying t with
  |none=>rw[g]at a;cases a
  |some d=>
   rw[g]at a;cases d<;>first|(cases a;done)|skip
   simp only at a;simp only[b,a]
theorem M8{suf:List È}(h:((P.info? t).bind (·.zero)).map (λz=>z.cells.toList.drop n)=Â suf)(a:((P.info? t).bind (·.zero)).map (λz=>z.cells.size)=Â m)(c:n<=m):∃z old,(P.info? t).bind (·.zero)=Â z/\old.length=n/\z.cells=(old++suf).toArray:=by
 let⟨z,b,d⟩:=É.1 h;rw[b]at a;have a:z.cells.size=m:=by injection a
 refine⟨z,z.cells.toList.take n,b,by rw[List.length_take,Ň,a];omega,?_⟩;grind
theorem amA(h:l.length=144):À.built 144 [(0,õ l.toArray)]=Â (l++[Å Ã 0 0]).toArray:=by let⟨z,d,a,b,c⟩:=M8 amx amy A;rw[I6 amz a,c];have:=Dk (place:=λi=>[(0,144),(144,1)].toArray[i]?) (pre:=[]) (suf:=[Å Ã 0 0]) (i:=0) (v:=õ l.toArray) (rest:=[]) U (by show l.toArray.size=144;simp[h]) b;simpa[ė,Ĝ]using this
theorem amB(h:l.length=145)(a:v.cells=#[v]):À.built 147 [(0,õ l.toArray),(1,v)]=Â (l++[v,Å Ã 0 0]).toArray:=by let⟨z,g,c,d,f⟩:=M8 aam aan A;rw[I6 aao c,f];have b:=Dk (place:=λi=>[(0,145),(145,1),(146,1)].toArray[i]?) (pre:=[]) (suf:=[Ä Ê 0,Å Ã 0 0]) (i:=0) (v:=õ l.toArray) (rest:=[(1,v)]) U (by show l.toArray.size=145;simp[h]) d;simp only[List.nil_append]at b;rw[b];have e:(õ l.toArray).cells.toList=l:=rfl;rw[e];rw[show(l++[Ä Ê 0,Å Ã 0 0])=l++[Ä Ê 0]++[Å Ã 0 0] by simp,(Dk (place:=λi=>[(0,145),(145,1),(146,1)].toArray[i]?) (old:=[Ä Ê 0]) (suf:=[Å Ã 0 0]) (i:=1) (rest:=[]) (by show Â (145,1)=Â (l.length,1);rw[h]) (by rw[a];rfl) U)];simp[ė,a]
def iz(s:St):List È:=(ë 144).map<|rN s
def xu(s:St):(iz s).length=144:=by simp[iz]
theorem Fz(s:St)(lv:È):ny s lv=iz s++[lv]:=by unfold ny iz;grind [ĳ,List.map_congr_left,uz,TE]
def sW{cs:Array È}(a:o.op=.box T qQ)(b:xX qQ=õ cs):(ċ xX o).run P w=Ξ (.value<|Ç<|Â ⟨w.heap.size,0,Ã⟩) (w.alloc<|Î cs T):=by unfold ċ;simp[a,b,Instr.box,newVar,newRow,Ĝ]
theorem I7{a:Array (Nat×Operand)}{cs:Array È}(b:o.op=.build T a)(h:P.built T (a.map λ(i,x)=>(i,xX x)).toList=Â cs):(ċ xX o).run P w=Ξ (.value<|õ cs) w:=by have:=run_build w T (a.map λ(i,x)=>(i,xX x)) cs h;unfold ċ;simp_all
theorem aap(a:o.op=.build 144 #[(0,qQ)])(b:xX qQ=õ l.toArray)(c:l.length=144):(ċ xX o).run À w=Ξ (.value<|õ (l++[Å Ã 0 0]).toArray) w:=by grind [I7,amA]
theorem amC{y:ķ}(a:o.op=.build 147 #[(0,qQ),(1,y)])(b:xX qQ=õ l.toArray)(c:xX y=v)(d:l.length=145)(e:v.cells=#[v]):(ċ xX o).run À w=Ξ (.value<|õ (l++[v,Å Ã 0 0]).toArray) w:=by apply I7 a;grind [amB]
def aaq:(À.underlying 140).map ľ=Â Ô:=fx
def amD:(À.info? 140).map (·.size)=Â 144:=fx
structure rT(vb:Nat)(s:St)(h:Int)(w:Ë):Prop where
 C:w.rangeAt vb 0 (iz s)
 h:w.cell? ⟨vb,145,Ã⟩=Â (Ä Ê h)
def rT.r{s:St}(a:rT i s h w)(k:fc X w u)(b:¬X i):rT i s h u:= ⟨λj v c=>k.r (a.C j v c) b,k.r a.h b⟩
def xv(l:List (Int×Bool)):List È:=l.flatMap λp=>[Ä Ì p.1,Ú p.2]
structure NX(B:Nat)(h:Int)(lv uv:È)(s:St)(ls:List (Nat×Int))(us:List (Int×Bool))(w0 w:Ë):Prop where
 r:kC B 147 [Ä Ê h,uv] s lv w
 C:w.ownsRow 0 257 2 lv ls.length (oI ls)
 I:w.ownsRow 0 246 2 uv us.length (xv us)
 M:fc fh w0 w
 N:w0.heap.size<=B
 S:∀j,lv.ownBlock=Â j->w0.heap.size<=j
 Y:∀j,uv.ownBlock=Â j->w0.heap.size<=j
def NX.jc(w:Ë)(s:St)(h:Int):NX w.heap.size h (Å Ã 0 0) (Å Ã 0 0) s [] [] w ((ĝ w<|Î (iz s++[Å Ã 0 0,Ä Ê h,Å Ã 0 0]).toArray 147).drew):=by refine⟨?_,Ğ _ _ _ _,Ğ _ _ _ _,(fc.iw _ _ _ _).fj<|fc.gG _ _,å _,(λj q=>nomatch q),(λj q=>nomatch q)⟩;unfold kC;rw[Fz,show iz s++[Å Ã 0 0]++[Ä Ê h,Å Ã 0 0]=iz s++[Å Ã 0 0,Ä Ê h,Å Ã 0 0] by simp];exact fq.N w _ 147
section
variable{B:Nat}{b:È}{s c:St}{ls d:List (Nat×Int)}{us:List (Int×Bool)}
def TP(B:Nat)(h:Int)(b:È):pI:=⟨B,147,[Ä Ê h,b]⟩
def aar(B:Nat)(h:Int)(b:È):(TP B h b).Ok:=⟨by show(147:Nat)≠36;decide,by show(147:Nat)≠257;decide,by show(147:Nat)≠282;decide,by show(147:Nat)≠300;decide,by show(147:Nat)≠252;decide,by show(147:Nat)≠246;decide⟩
def NX.fE(x:NX B h z b s ls us u w)(k:fc fh w W):NX B h z b s ls us u W:= ⟨x.r.oS k id,im x.C k λ_ _=>id,im x.I k λ_ _=>id,x.M.fj k,x.N,x.S,x.Y⟩
def NX.I4(x:NX B h z b s ls us u w)(r:jV (TP B h b) z ls.length w c d W jQ):NX B h jQ b c d us u W:=by
 have f:=x.r;refine⟨r.r,r.I,im x.I r.C ?_,x.M.C r.C ?_,x.N,λj q=> ?_,x.Y⟩
 .rintro j i (q|q)
  .let⟨g,a⟩:=nW x.I i;have e:j=B:=q;rw[e,f]at a;cases a
  .exact IT x.I x.C A i q
 .rintro i a (q|q)
  .have:=x.N;have e:i=B:=q;omega
  .have:=x.S i q;omega
 .rcases r.l j q with e|e
  .exact x.S j e
  .exact ç x.M.M e
def NX.ft(x:NX B h z b s ls us u w)(a:i<8)(v:Int):NX B h z b (s.ft i v) ls us u (w.setCell ⟨B,i*18,Ã⟩<|Ä Ì v):= x.I4<|(jV.fV (E:=TP B h b) x.r x.C).ft (aar _ _ _) a v
def aas(us:List (Int×Bool)):∀u∈xv us,j4 u=Ô:=λu a=>by unfold xv at a;let⟨e,_,h⟩:=ũ.1 a;simp at h;rcases h with rfl|rfl<;>rfl
def amE:(À.info? 246).map (λi=>(i.zero,i.size,i.bytes))=Â (Â<|õ #[Ä Ì 0,Ú Û],2,16):=fx
def NX.G(x:NX B h z b s ls us u w):w.cell? ⟨B,146,Ã⟩=Â b:= fq.r x.r 146 _<|by rw[î (by rw[rO];omega),rO];rfl
def NX.amF{g:Int}(x:NX B h z b s ls us u w)(a:nX w 0 246 2 b us.length (xv us) 1 [Ä Ì g,Ú yQ] v W): NX B h z b s ls us u W/\NX B h z v s ls (us++[(g,yQ)]) u (W.setCell ⟨B,146,Ã⟩ v):=by
 have f:∀{i:Nat} {l:Array È} {T:é},b.ownBlock=Â i->w.heap[i]?=Â (Î l T (0,0))->T=246:=λ{i l T} q hc=>by let⟨k,e⟩:=nW x.I q;rw[hc]at e;cases e;rfl
 have m:=x.M.C a.r λi o q=>by have:=x.Y i q;omega
 have c:NX B h z b s ls us u W:=⟨x.r.oS a.r λq=>absurd (f q x.r) A,im x.C a.r (λj q r=>by let⟨k,e⟩:=nW x.C q;exact absurd (f r e) A),a.I _ _ _ x.I λ_=>å _,m,x.N,x.S,x.Y⟩;have n:W.ownsRow 0 246 2 v (us++[(g,yQ)]).length (xv<|us++[(g,yQ)]):=by have:=a.fg;rwa[show xv us++[Ä Ì g,Ú yQ]=xv (us++[(g,yQ)]) by simp[xv],show us.length+1=(us++[(g,yQ)]).length by simp]at this
 have d:fc (λk=>k=B) W (W.setCell ⟨B,146,Ã⟩ v):=fc.I (X:=λk=>k=B) (p:=⟨B,146,Ã⟩) U v<|ä<|fq.S c.r;have k:=fq.fO c.r 146 v;rw[List.set_append_right _ _ (by rw[rO];omega),rO]at k;refine⟨c,k,im c.C d λj q r=>iL c.C c.r A (by rw[q,r]),im n d λj q r=>iL n c.r A (by rw[q,r]),m.C d λi o q=>by have:=x.N;omega,x.N,x.S,λj q=> ?_⟩;rcases a.C with e|e
 .exact x.Y j<|by rwa[<-e]
 .rw[e]at q;cases q;exact x.M.M
end
def pb(m:Nat):St->List (Nat×Int)->List (Int×Bool)->List Tx->Option (St×List (Nat×Int)×List (Int×Bool))
 |s,ls,us,[]=>Â (s,ls,us)
 |s,ls,us,t::r=>if(lW s ls t).2.1 then pb m ((lW s ls t).2.2.1.ft m<|wu<|((lW s ls t).2.2.1 m).ft+(lW s ls t).1.1) (lW s ls t).2.2.2 (us++[(lW s ls t).1]) r else Ã
def aat{s:St}(b:iZ s)(x y:Nat)(c:0<=h):iZ (rR s x y h).2:=by
 unfold rR;split
 .exact b
 .rename_i a;have:=(b.ft x).2;exact(b.r x ⟨Z,Z⟩).r y<|Di _
def aau{s:St}(a:iZ s)(x:Nat)(e:B.size<=40/\∀c∈B.data.toList,zg c=Ô):iZ (rS s x B).2:=by
 unfold rS;split
 .exact a
 .rename_i h;have:=(a.ft x).2;have d:=a.r x (b:=(s x).ft-20) ⟨Z,Z⟩;exact d.fO (d.ft x) (d.C x) e
def aav{s:St}(b:iZ s){ls:List (Nat×Int)}{t:Tx}(a:t.Ok)(c:(ls.length:Int)+400<=1000000):aai ls (lW s ls t):=by
 unfold lW;split
 .exact⟨by show(0:Int)<=10;decide,by show(10:Int)<=400;decide,aat b _ _ a.I,Ŭ _ _⟩
 .split
  .exact⟨by show(0:Int)<=20;decide,by show(20:Int)<=400;decide,aau b _ a.Y,Ŭ _ _⟩
  .exact(a.S ‹_› ‹_›).ok b a.N c
structure FA(bp:Option Ě)(n:Nat)(qi:List (Nat×Tx))(w:Ë):Prop where
 C:n=qi.length
 r:∀(j a:Nat) (t:Tx),qi[j]?=Â (a,t)->∃tb te,bp=Â ⟨tb,te,Ã⟩/\w.cell? ⟨tb,te+j,Ã⟩=Â (Ç<|Â ⟨a,0,Ã⟩)/\nY a t w/\t.Ok
def FA.I{b:List (Nat×Tx)}(h:FA O n b w)(k:fc fh w u):FA O n b u:= ⟨h.C,λj a t q=>by let⟨tb,c,d,e,f,g⟩:=h.r j a t q;exact⟨tb,c,d,k.r e id,f.S k id,g⟩⟩
def mP(a:List (Nat×Tx)):List Tx:=a.map (·.2)
section
variable{bp:Option Ě}{cp:Nat}{qi:List (Nat×Tx)}{d:Option (St×List (Nat×Int)×List (Int×Bool))}
def mQ(m:Nat)(s:St)(qi:List Tx):Option (St×List (Nat×Int)×List (Int×Bool)):=
 (pb m s [] [] qi).map λr=>(r.1.ft m<|wu<|(r.1 m).ft+50,r.2)
def FB(h:Int)(w:Ë)(r:Option (St×List (Nat×Int)×List (Int×Bool)))(e:ζ)(a:Ë):Prop:=
 (r=Ã/\e=Æ (Ç Ã)/\fc fh w a)\/
 ∃s b c i d f,r=Â (s,b,c)/\e=Æ (Ç<|Â ⟨i,0,Ã⟩)/\NX i (h+1) d f s b c w a/\iZ s
theorem amG{s:St}(l:rT b s h w)(hh0:0<=h)(hh1:h<=1000)(o:iZ s)(hT:FA bp n qi w)(hr:sU w)(hn:n<=1000)(L:m<8): Ñ À 115 #[Ç<|Â ⟨b,0,Ã⟩,Ä Ê m,Å bp n cp] w (FB h w<|mQ m s<|mP qi):=by
 let⟨dd,AX,vN⟩:=É.1 aaq;have iO:(À.info? 140).map (·.size)=Â (iz s).length:=by rw[xu];exact amD
 have v:=eZ<|Á AX<|Á vN iO;have mq:=(l.r (fc.gG fh w) id).C;have hht:=(l.r (fc.gG fh w) id).h;have qH:Ê.wrap (h+1)=h+1:=TK Z Z;have k:=eZ<|Á mq hht;have T:=Ù w _ l.h;have H:=eZ<|Á l<|Á o<|Á hT hr;have AR:mQ m s (mP qi)=(pb m s [] []<|mP qi).map λr=>(r.1.ft m<|wu<|(r.1 m).ft+50,r.2):=rfl;rw[AR];clear AX vN mq hht l iO o hT hr AR;generalize hg:pb m s [] [] (mP qi)=d;have HG:=eZ hg;clear hg;go_enter Tryz.func115,Tryz.ntmps115;go_wp2_with fail;refine o5 (λF=>F.rangeAt b 0 (iz s)/\F.cell? ⟨b,145,Ã⟩=Â (Ä Ê h)) [] fx ?_;iterate 4 apply tk k.out
 apply M1 (i:=4) (oi:={dst:=Â 16,op:=Go.Op.load 140<|Go.Operand.tmp 15,type:=140,pos:= "block.go:30",after:=#[{on:=3,ground:=Go.Ground.data}],guard:=Ã}) U fx fx fx fx (λ_ _ _ h=>h) k.out (yieldsIf_load_mid fL 140 _ U b 0 U (iz s) dd (λw h=>h.1) v.out.1 v.out.2.1 v.out.2.2);apply M1 (i:=5) (oi:={dst:=Â 17,op:=Go.Op.build 144 #[(0,Go.Operand.tmp 16)],type:=144,pos:= "block.go:30",after:=#[{on:=4,ground:=Go.Ground.data}],guard:=Ã}) U fx fx fx fx (λ_ _ _ h=>h) k.out (ß ⟨fL,λ_ _=>aap U U<|xu s⟩);apply tk k.out 6;apply tk k.out 7;apply tk k.out 8;apply tk k.out 9;apply tk k.out 10;apply M1 (i:=11) U fx fx fx fx (λ_ _ _ h=>h) k.out (ß ⟨fL,λ_ _=>amC U U U (by simp[xu]) U⟩);have M:=eZ<|(H.out.1.r (fc.gG fh w) id).r (fc.iw fh _ ((iz s++[Å Ã 0 0])++[Ä Ê<|h+1,Å Ã 0 0]).toArray 147) id;apply ia 12;intro K f;rw[if_pos fL];unfold Ŝ;rw[sW U U,Ď];apply f.out _ _ λ_=>⟨M.out.C,M.out.h⟩;apply ia 13;intro K f;go_simp;apply f.out _ _ λ_=>⟨M.out.C,M.out.h⟩;refine oZ fx ?_ _;go_wp2_with fail;have x0:=NX.jc w s<|h+1;generalize õ (iz s).toArray=z16;generalize õ (iz s++[Å Ã 0 0]).toArray=z17;generalize õ (iz s++[Å Ã 0 0,Ä Ê<|h+1,Å Ã 0 0]).toArray=z23;go_loopw [27] (λi wr=>∃(j:Nat) (s:St) (z:List (Nat×Int)) (us:List (Int×Bool)) (V N:È),i=Ä Ê j/\j<=n/\NX w.heap.size (h+1) V N s z us w wr/\iZ s/\z.length<=400*j/\us.length=j/\pb m s z us ((mP qi).drop j)=d) λi _=>n-(ê i).toNat
 case atStart=>exact⟨0,s,[],[],_,_,U,Þ _,x0,H.out.2.1,fp,U,HG.out⟩
 case round=>
  clear x0 HG k v M;obtain⟨j,s,z,us,V,N,rfl,hj,x,o,hls,Md,D⟩:=hrel;obtain⟨wo,rfl⟩:∃wo,wo=wr:=⟨_,U⟩;have W:=H.out.2.2.1.C;by_cases wT:j=n
  .have P:(mP qi).drop j=[]:=ü (by unfold mP;rw[Ĵ,<-W];omega);rw[P]at D;subst D wT;have d1:=x.r.ft L;have f1:=fq.I x.r<|m*18;have hl1:=fq.M x.r;have b0:=(o.ft m).1;have b1:=(o.ft m).2;have hm0:(0:Int)<=(m:Int):=Z
   have hm1:(m:Int)<8:=Z
   have B:=eZ<|Á x o;generalize hbb:(s m).ft=b at*;go_wp2_with fail;go_region;go_wp2_with fail;go_ret;refine ä ⟨s.ft m<|wu<|(s m).ft+50,z,us,w.heap.size,V,N,U,U,?_,B.out.2.r m<|Di _⟩;rw[hbb];first
    |exact(B.out.1.ft L<|wu<|b+50).fE<|fc.gG _ _
    |exact(B.out.1.still<|Keep.drew _ _).ft L<|wu<|b+50
  .have T:j<n:=Z
   obtain⟨⟨a,t⟩,X⟩:∃p,qi[j]?=Â p:=⟨_,Ï<|by rw[<-W];exact T⟩;have P:(mP qi).drop j=t::(mP qi).drop (j+1):=by
    have ht:(mP qi)[j]?=Â t:=by unfold mP;rw[ý,X];rfl
    grind [ô]
   obtain⟨tb,to,rfl,hc,hta,Y⟩:=(H.out.2.2.1.I x.M).r j a t X;have hlen:(z.length:Int)+400<=1000000:=Z
   have G:=aav o Y hlen;rw[P]at D;unfold pb at D;have C:=amw (aar _ _ _) (by show(147:Nat)≠200;decide) x.r x.C (H.out.2.2.2.r x.M id) o hta Y hlen;obtain⟨g,c,dn,s1,Q,ho⟩:∃g c dn s1 Q,lW s z t=((g,c),dn,s1,Q):=⟨_,_,_,_,_,U⟩;rw[ho]at D G C;have LJ:0<=g:=G.g0;have hg1:g<=400:=G.C;have I:=G.s;have auF:Q.length<=z.length+400:=G.r;have e1:(0:Int)<=(j:Int):=Z
   have e2:(j:Int)<(n:Int):=Z
   have auG:=fq.M x.r;have O:=eZ<|Á x<|Á C<|Á D I;have HU:=eZ Md;have hu1:us.length<=1000:=Z
   clear Md;clear x C D hta Y o ho G P X I W;go_wp2_with fail;go_at_call 154;apply O.out.2.1.mono;rintro e y ⟨rfl,Fq,r1⟩;have E:=O.out.1.I4 r1;have I:=O.out.2.2.2;cases dn with
   |false=>
    have B:=eZ E;clear E;go_wp2_with fail;go_ret;exact ß ⟨by rw[<-O.out.2.2.1];rfl,U,B.out.M.fj<|fc.iw _ _ _ _⟩
   |true=>
    have m1:=E.r.ft L;have z1:=fq.I E.r<|m*18;have hl1:=fq.M E.r;have b0:=(I.ft m).1;have b1:=(I.ft m).2;have hub:N.ownBlock≠Â y.heap.size:=λq=>by have:=(E.I.lt _ q).2;omega
    have B:=eZ<|Á E I;generalize hb:(s1 m).ft=b at*;have hm0:(0:Int)<=(m:Int):=Z
    have hm1:(m:Int)<8:=Z
    go_wp2_with fail
    go_region
    have hx8:=(B.out.1.ft L<|wu<|b+g).fE<|(fc.iw fh _ #[Ä Ì g,Ú c] 246).fj<|fc.gG _ _;have hU:fq y.heap.size [Ä Ì g,Ú c] 246 (Ī<|ĝ (y.setCell ⟨w.heap.size,m*18,Ã⟩<|Ä Ì<|wu<|b+g)<|Î #[Ä Ì g,Ú c] 246):=by
     have:=fq.N (y.setCell ⟨w.heap.size,m*18,Ã⟩<|Ä Ì<|wu<|b+g) [Ä Ì g,Ú c] 246;have h0:fq y.heap.size [Ä Ì g,Ú c] 246 (ĝ (y.setCell ⟨w.heap.size,m*18,Ã⟩<|Ä Ì<|wu<|b+g)<|Î #[Ä Ì g,Ú c] 246):=by simpa using this
     exact h0
    go_wp2_with fail
    change Code.wp À _ _ _ (Ī<|ĝ (y.setCell ⟨w.heap.size,m*18,Ã⟩<|Ä Ì<|wu<|b+g)<|Î #[Ä Ì g,Ú c] 246);generalize Ī (ĝ (y.setCell ⟨w.heap.size,m*18,Ã⟩<|Ä Ì<|wu<|b+g)<|Î #[Ä Ì g,Ú c] 246)=w8 at*;generalize y.heap.size=ub at*;have x9:=hx8.fE<|fc.gG fh w8;have U9:=hU.C (fc.gG fh w8) id;let⟨i0,qj,oJ,AY,AZ⟩:=ì amE;have v:=eZ<|Á qj<|Á oJ<|Á AY AZ;have k:=eZ<|Á x9.G<|Á (U9.r 0 _ rfl)<|U9.r 1 _ rfl;have HN:=eZ<|Á x9 U9;refine o5 (λF=>F.cell? ⟨w.heap.size,146,Ã⟩=Â N/\F.cell? ⟨ub,0,Ã⟩=Â (Ä Ì g)/\F.cell? ⟨ub,1,Ã⟩=Â (Ú c)) [10] fx ?_;iterate 6 apply tk k.out
    have y1:=HN.out.1.fE<|fc.iw fh _ #[Ä Ì g,Ú c] 246;have V1:=HN.out.2.C (fc.iw fh _ #[Ä Ì g,Ú c] 246) id;refine ia 6 ?_;intro K f;go_simp;refine f.out _ _ (λ_=>⟨y1.G,V1.r 0 _ U,V1.r 1 _ U⟩) ?_;refine ia 7 ?_;intro K f;refine IZ (hfl:=ä ⟨fp,λu S=>(ö.1 S).elim (aas us u) (λq=>by simp at q;rcases q with rfl|rfl<;>rfl),by simp[j4,Ĝ]⟩) fL _ _ 145 fL Tryz.underlying145 v.out.1 v.out.2.1 v.out.2.2.1 v.out.2.2.2 U fL y1.I ⟨_,0,Ã⟩ [Ä Ì g,Ú c] fL Z U (cell_two_new _ _ _ _) (λu S=>by simp at S;rcases S with rfl|rfl<;>rfl) (by unfold ā;omega) Z (Þ _) ?_;intro uv1 w9 l;obtain⟨a2,cp2,rfl⟩:=jv l.fg;let⟨n1,n2⟩:=y1.amF l;have J:=V1.C l.r hub;refine f.out _ _ (λ_=>⟨n1.G,J.r 0 _ U,J.r 1 _ U⟩) ?_;have dl:=n1.G;have fz:=fq.I n1.r 146;refine ia 8 ?_;intro K f;go_simp;refine f.out _ _ (λ_=>⟨dl,J.r 0 _ U,J.r 1 _ U⟩) ?_;refine ia 9 ?_;intro K f;go_simp;refine f.out _ _ (λ_=>⟨dl,J.r 0 _ U,J.r 1 _ U⟩) ?_;refine ia 10 ?_;intro K f;go_simp;refine f.out _ _ (λq=>absurd fp q) ?_;refine oZ fx ?_ _;go_wp2_with fail;subst hb;go_roundw
    case rel=>exact⟨j+1,_,Q,us++[(g,c)],Fq,_,by go_num,T,n2,B.out.2.r m<|Di _,Z,by simp[HU.out],O.out.2.2.1⟩
    case measure=>simp[ê];omega
end
def nZ(i:Nat):ByteArray:=if i<10 then⟨#[(48+i).toUInt8]⟩else⟨#[(48+i/10).toUInt8,(48+i%10).toUInt8]⟩
def amH:∀k:Fin 10,(⟨#[48,49,50,51,52,53,54,55,56,57,97,98,99,100,101,102,103,104,105,106,107,108,109,110,111,112,113,114,115,116,117,118,119,120,121,122]⟩:ByteArray).extract k.val (k.val+1)=nZ k.val:=by decide+kernel
def amI:∀k:Fin 100,k.val<10\/(⟨#[48,48,48,49,48,50,48,51,48,52,48,53,48,54,48,55,48,56,48,57,49,48,49,49,49,50,49,51,49,52,49,53,49,54,49,55,49,56,49,57,50,48,50,49,50,50,50,51,50,52,50,53,50,54,50,55,50,56,50,57,51,48,51,49,51,50,51,51,51,52,51,53,51,54,51,55,51,56,51,57,52,48,52,49,52,50,52,51,52,52,52,53,52,54,52,55,52,56,52,57,53,48,53,49,53,50,53,51,53,52,53,53,53,54,53,55,53,56,53,57,54,48,54,49,54,50,54,51,54,52,54,53,54,54,54,55,54,56,54,57,55,48,55,49,55,50,55,51,55,52,55,53,55,54,55,55,55,56,55,57,56,48,56,49,56,50,56,51,56,52,56,53,56,54,56,55,56,56,56,57,57,48,57,49,57,50,57,51,57,52,57,53,57,54,57,55,57,56,57,57]⟩:ByteArray).extract (k.val*2) (k.val*2+2)=nZ k.val:=by decide+kernel
theorem amJ(i:Nat)(h:i<10)(w:Ë):Ñ À 187 #[Ä Ê i] w λe a=>e=Æ (Í<|nZ i)/\a=w:=by
 go_enter Ţ,Θ;go_wp2;all_goals go_ret
 refine⟨R'<|amH ⟨i,h⟩,U⟩
theorem amK(i:Nat)(h:i<100)(b:10<=i)(w:Ë):Ñ À 187 #[Ä Ê i] w λe a=>e=Æ (Í<|nZ i)/\a=w:=by
 go_enter Ţ,Θ;go_wp2;all_goals go_ret
 refine⟨R' ((amI ⟨i,h⟩).resolve_left<|by show¬i<10;omega),U⟩
theorem amL(i:Nat)(h:i<100)(w:Ë):Ñ À 187 #[Ä Ê i] w λe a=>e=Æ (Í<|nZ i)/\a=w:=by grind [amJ,amK]
def amM(i:Nat)(h:i<100)(w:Ë):Ñ À 171 #[Ä Ê i,Ä Ê 10] w λe a=>e=Æ (Í<|nZ i)/\a=w:=by go_enter Tryz.func171,Tryz.ntmps171;go_wp2_with (go_at_call 187;refine(amL i h _).mono ?_;rintro e a ⟨rfl,rfl⟩);go_ret;exact⟨U,U⟩
def aaw(i:Nat)(h:i<100)(w:Ë):Ñ À 117 #[Ä Ê i] w λe a=>e=Æ (Í<|nZ i)/\a=w:=by
 go_enter Tryz.func117,Tryz.ntmps117;go_wp2_with (first
  |(go_at_call 171;refine(amM i h _).mono ?_;rintro e a ⟨rfl,rfl⟩)
  |go_in)
 go_ret;exact⟨U,U⟩
def ow(i:Nat):ByteArray:=⟨#[33]⟩++nZ i
def I8(i:Nat)(h:i<10)(w:Ë):Ñ À 114 #[Ä Ê i] w λe a=>e=Æ (Í<|ow i)/\a=w:=by
 have b:(nZ i).size=1:=by unfold nZ;rw[if_pos h];rfl
 go_enter Tryz.func114,Tryz.ntmps114;go_wp2_with (go_at_call 117;refine(aaw i Z _).mono ?_;rintro e a ⟨rfl,rfl⟩);go_ret;exact⟨U,U⟩
def tb(n c:Nat):Nat:=(n^^^c)*1099511628211%18446744073709551616
def I9(n c:Nat):tb n c<18446744073709551616:=ah _ Z
def aax(n c:Nat)(a:n<18446744073709551616)(f:c<256)(w:Ë):Ñ À 178 #[Ä Ì n,Ä au c] w λe b=>e=Æ (Ä Ì<|tb n c)/\b=w:=by
 go_enter Tryz.func178,Tryz.ntmps178;go_wp2_with fail;go_ret;refine⟨?_,U⟩;have d:Ì.wrap (((n^^^c:Nat):Int)*1099511628211)=((tb n c:Nat):Int):=by rw[az];unfold tb;omega
 rw[bits_xor_u64_nat n c a Z,d];rfl
def tn(m:Nat):Nat->Nat->Nat
 |n,0=>n
 |n,j+1=>tn m (tb n<|m/2^(8*j)%256) j
def aay(m:Nat):∀(j n:Nat),n<18446744073709551616->tn m n j<18446744073709551616
 |0,_,h=>h
 |j+1,_,_=>aay m j _<|I9 _ _
def nz(n m:Nat):Nat:=tn m n 8
theorem Dl(n m:Nat)(a:n<18446744073709551616):nz n m<18446744073709551616:=aay m 8 n a
def Ja(n m:Nat)(f:n<18446744073709551616)(o:m<18446744073709551616)(w:Ë):Ñ À 177 #[Ä Ì n,Ä Ì m] w λe g=>e=Æ (Ä Ì<|nz n m)/\g=w:=by
 generalize k:nz n m=r;go_enter Tryz.func177,Tryz.ntmps177;go_wp2;go_loop [0,5] (λa i=>∃h j:Nat,j<=8/\h<18446744073709551616/\tn m h j=r/\i=Ä Ê (((8*j:Nat):Int)-8)/\a=Ä Ì h) λ_ i=>(ê i+8).toNat
 case atStart=>exact⟨n,8,å _,f,k,U,U⟩
 case round=>
  obtain⟨h,j,p,l,b,rfl,rfl⟩:=hrel;cases j with
  |zero=>
   subst b;go_wp2;go_ret;exact⟨U,U⟩
  |succ j=>
   rw[show(((8*(j+1):Nat):Int)-8)=((8*j:Nat):Int) by omega];have q:(0:Int)<=((8*j:Nat):Int):=Z
   have s:((8*j:Nat):Int)<64:=Z
   have T:=aax h (m/2^(8*j)%256) l Z w;have d:((m/2^(8*j)%256:Nat):Int)=(m:Int)/2^(8*j)%256:=fp
   rw[d]at T;have H:=eZ<|Á T b;clear T d b;generalize c:8*j=j8 at*;go_wp2_with (go_at_call 178;apply H.out.1.mono;rintro e t ⟨rfl,rfl⟩);go_round
   case rel=>exact⟨_,j,Z,I9 _ _,by subst c;exact H.out.2,by subst c;go_num,by subst c;rfl⟩
   case measure=>simp[ê];omega
def M9(p q:Nat):Nat:=nz (nz 14695981039346656037 p) q
def amN(p q:Nat):M9 p q<18446744073709551616:=Dl _ _<|Dl _ _ Z
def pr(l:List Nat)(t:Nat):Nat:=M9 (l.getD (2*t) 0)<|l.getD (2*t+1) 0
def aaz(l:List Nat)(t:Nat):M9 (l.getD (2*t) 0) (l.getD (2*t+1) 0)=pr l t:=by unfold pr;exact Eq.refl _
def ko(l:List Nat)(i:Nat):List Nat:=(ë l.length).map λt=>if t<i then pr l t else l.getD t 0
def oK(l:List Nat):List Nat:=(ë<|l.length/2).map<|pr l
def jw(l:List Nat):List È:=l.map λ(x:Nat)=>Ä Ì x
def vO(l:List Nat):Prop:=∀t,l.getD t 0<18446744073709551616
theorem Jb(l:List Nat)(i:Nat):(ko l i).length=l.length:=by simp[ko]
theorem Na(l:List Nat)(i t:Nat)(h:t<l.length):(ko l i)[t]?=Â (if t<i then pr l t else l.getD t 0):=by simp[ko,â h]
theorem amO(l:List Nat):ko l 0=l:=by refine æ λt=> ?_;grind [Na,Jb]
theorem amQ(l:List Nat)(i:Nat)(h:i<l.length):(ko l i).set i (pr l i)=ko l (i+1):=by refine æ λt=> ?_;grind [Na,Jb,Č]
theorem amR(l:List Nat):ko l (l.length/2)=oK l++l.drop (l.length/2):=by
 refine æ λt=> ?_;have b:(oK l).length=l.length/2:=by simp[oK]
 by_cases a:t<l.length
 .rw[Na _ _ t a];by_cases q:t<l.length/2
  .rw[if_pos q,Õ Z];simp[oK,â q]
  .grind
 .grind [Jb,Ó,List.length_drop]
def amS(l:List Nat)(t:Nat):pr l t<18446744073709551616:=by rw[<-aaz];exact amN _ _
def FC{l:List Nat}{N:Nat}(a:0<N)(h:∀x∈l,x<N)(t:Nat):l.getD t 0<N:=by
 rw[Ę];cases e:l[t]? with
 |none=>exact a
 |some x=>exact h x<|ć e
def TQ(l:List Nat):vO (oK l):=FC Z λx a=>by unfold oK at a;obtain⟨t,_,rfl⟩:=ī.1 a;exact amS l t
def oL:Nat->List Nat->Nat
 |0,l=>l.getD 0 0
 |k+1,l=>oL k<|oK l
def TR(l:List Nat)(i x:Nat):jw (l.set i x)=(jw l).set i (Ä Ì x):=by simp[jw,List.map_set]
theorem Jc(l:List Nat)(i x:Nat)(h:l[i]?=Â x):(jw l)[i]?=Â (Ä Ì x):=by simp[jw,h]
def aaA:È->Nat
 |Å _ n _=>n
 |_=>0
def aaB{cp:Nat}{l:List Nat}{junk:List È}(j:l.length=2^k)(s:l.length<=16)(z:l.length<=cp)(o:vO l)(a:fq b (jw l++junk) T w): Ñ À 162 #[Å (Â ⟨b,0,Ã⟩) l.length cp] w λe B=>e=Æ (Ä Ì<|oL k l)/\fc (λi=>i=b) w B:=by
 have H:=eZ<|Á j<|Á s<|Á z<|Á o a;clear j s z o a;generalize P:oL k l=r;have Q:=eZ P;clear P;generalize S:l.length=n;go_enter Tryz.func162,Tryz.ntmps162;go_wp2_with fail;go_loopw [0] (λx F=>∃(k:Nat) (l:List Nat) (junk:List È),x=Å (Â ⟨b,0,Ã⟩) l.length cp/\l.length=2^k/\l.length<=16/\l.length<=cp/\vO l/\fc (λk=>k=b) w F/\fq b (jw l++junk) T F/\oL k l=r) λx _=>aaA x
 case atStart=>exact⟨k,l,junk,by rw[S],H.out.1,H.out.2.1,H.out.2.2.1,H.out.2.2.2.1,fc.fV _ _,H.out.2.2.2.2,Q.out⟩
 case round=>
  clear H Q S k l junk;obtain⟨k,l,junk,rfl,j,s,z,o,g,a,C⟩:=hrel;obtain⟨D,rfl⟩:∃D,D=F:=⟨_,U⟩;cases k with
  |zero=>
   have hc:D.cell? ⟨b,0,Ã⟩=Â (Ä Ì<|l.getD 0 0):=a.r 0 _ (by rw[Õ (by simp[jw];omega)];exact Jc _ _ _<|by rw[Ę,Ï Z];rfl);rw[show l.getD 0 0=r from C]at hc;rw[j];have HK:=eZ g;clear g a o j C s;go_wp2_with fail;go_ret;exact⟨U,HK.out⟩
  |succ k=>
   have V:2*2^k=l.length:=by rw[j,Nat.pow_succ];omega
   have G:0<2^k:=Nat.pow_pos Z;have W:(oK l).length=2^k:=by rw[oK,Ĵ,List.length_range];omega
   have I:=amR l;rw[show l.length/2=2^k by omega]at I;have c:=eZ<|Á W<|Á g<|Á C<|Á a<|Á o I;clear g C o a W j I;obtain⟨d,J⟩:∃d,d=2^k:=⟨_,U⟩;rw[<-J]at c V G;obtain⟨h,L⟩:∃h,l.length=h:=⟨_,U⟩;have u:=eZ<|Á J L;rw[L]at V s z|-;clear J L;have e2:(h:Int).tdiv 2=(d:Int):=by rw[Int.tdiv_eq_ediv_of_nonneg Z];omega
   have e3:(0:Int)<=(d:Int):=Z
   have e4:(d:Int)<=(cp:Int):=Z
   go_wp2_with fail
   rw[show decide ((1:Int)<(h:Int))=Ô from decide_eq_true Z];go_loopw [12] (λy Y=>∃i:Nat,i<=d/\y=Ä Ê i/\fc (λk=>k=b) D Y/\fq b (jw (ko l i)++junk) T Y) λy _=>d-(ê y).toNat
   case atStart=>exact⟨0,Þ _,U,fc.fV _ _,by rw[amO];exact c.out.2.2.2.1⟩
   case round=>
    obtain⟨i,hi,rfl,g,a⟩:=hrel;by_cases he:i=d
    .subst he;have v:=eZ<|Á g a;clear g a;go_wp2_with fail;go_roundw
     case rel=>
      refine⟨k,oK l,jw (l.drop i)++junk,by rw[c.out.1],c.out.1.trans u.out.1,by rw[c.out.1];omega,by rw[c.out.1];omega,TQ l,c.out.2.1.fj v.out.1,?_,c.out.2.2.1⟩;have q:=v.out.2;rw[c.out.2.2.2.2.2]at q;rw[<-þ];simpa[jw]using q
     case measure=>simp[aaA];omega
    .have gE:i<d:=Z
     have E:=λt (h1:i<=t) (h3:t<h)=>
      a.r t _<|by rw[Õ (by simp[jw,Jb,u.out.2];omega)];exact Jc _ _ _<|by rw[Na l i t (by rwa[u.out.2]),if_neg Z]
     have c0:=E i Z Z;have c1:=E (2*i) Z Z;have c2:=E (2*i+1) Z Z;have f0:=a.I i;have M:=a.fO i<|Ä Ì<|pr l i;rw[Ć _ _ (by simp[jw,Jb,u.out.2];omega),<-TR,amQ l i (by rw[u.out.2];omega)]at M;have G:=c.out.2.2.2.2.1<|2*i;have hq:=c.out.2.2.2.2.1<|2*i+1;have N:=aaz l i;have v:=eZ<|Á g M;clear g a M E;generalize l.getD (2*i) 0=p at*;generalize l.getD (2*i+1) 0=q at*;generalize l.getD i 0=v0 at*;unfold M9 at N;have e0:(0:Int)<=(i:Int):=Z
     have e1:(i:Int)<(d:Int):=Z
     have e2:(2:Int)*(i:Int)+1<(h:Int):=Z
     have t1:((2:Int)*(i:Int)).toNat=2*i:=Z
     have t2:((2:Int)*(i:Int)+1).toNat=2*i+1:=Z
     have sM:Ê.wrap (2*(i:Int))=2*(i:Int):=TK Z Z;have qh:Ê.wrap (2*(i:Int)+1)=2*(i:Int)+1:=TK Z Z;have b1:(0:Int)<=2*(i:Int):=Z
     have b2:2*(i:Int)<(h:Int):=Z
     have b3:(0:Int)<=2*(i:Int)+1:=Z
     have b4:(i:Int)<(h:Int):=Z
     have HZ:=eZ N;clear N;go_wp2_with fail;have f:=eZ<|Á c1 c2;refine o5 (λB=>B.cell? ⟨b,2*i,Ã⟩=Â (Ä Ì p)/\B.cell? ⟨b,2*i+1,Ã⟩=Â (Ä Ì q)) [16] fx ?_;iterate 7 apply tk f.out
     apply tk f.out 8;apply tk f.out 9;apply tk f.out 10;apply tk f.out 11;apply tk f.out 12;apply tk f.out 13;apply ia 7;intro K m;go_simp;go_at_call 177;refine(Ja 14695981039346656037 p Z G _).mono ?_;rintro e O ⟨rfl,qh⟩;subst O;apply m.out _ _ λ_=>f.out;apply ia 14;intro K m;go_simp;go_at_call 177;refine(Ja (nz 14695981039346656037 p) q (Dl _ _ Z) hq _).mono ?_;rintro e O ⟨rfl,qh⟩;subst O;apply m.out _ _ λ_=>f.out;apply ia 15;intro K m;go_simp;apply m.out _ _ λ_=>f.out;apply ia 16;intro K m;go_simp;apply m.out _ _ λq=>absurd fp q;refine oZ fx ?_ _;go_wp2_with fail;go_roundw
     case rel=>exact⟨i+1,gE,by go_num,(v.out.1.fj<|fc.I (X:=λk=>k=b) U _).fj<|fc.gG _ _,by rw[HZ.out];exact v.out.2.C (fc.gG fh _) id⟩
     case measure=>simp[ê];omega
def amT:À.underlying 118=Â (.array 16 36):=fx
def amU{p:Int}(w:Ë)(c:i<16)(e:d[i]?=Â (Ä Ì p)):(Ų 118 (õ d)<|Ä Ê (i:Int)).run À w=Ξ (Ä Ì p) w:=by
 have a:(0:Int)<=(i:Int):=Z
 have b:(i:Int)<16:=Z
 simp[Ų,Ŀ amT,asIntOf,go_sem,a,b];go_simp
def lf(x:Nat):Nat:=nz 14695981039346656037 x
theorem A0(x:Nat):lf x<18446744073709551616:=Dl _ _ Z
def aaC(x:Nat):nz 14695981039346656037 x=lf x:=by unfold lf;exact Eq.refl _
def n5(l:List Nat)(i:Nat):List Nat:=(ë 16).map λt=>if t<i then lf (l.getD t 0)else 0
theorem FD(l:List Nat)(i:Nat):(n5 l i).length=16:=by simp[n5]
theorem TS(l:List Nat)(i t:Nat)(h:t<16):(n5 l i)[t]?=Â (if t<i then lf (l.getD t 0)else 0):=by simp[n5,â h]
theorem amV(l:List Nat)(i:Nat)(h:i<16):(n5 l i).set i (lf<|l.getD i 0)=n5 l (i+1):=by refine æ λt=> ?_;grind [TS,FD,Č]
def aaD(l:List Nat):vO (n5 l 16):=FC Z λx a=>by
 unfold n5 at a;obtain⟨t,_,rfl⟩:=ī.1 a;split
 .exact A0 _
 .omega
def qU(n:Nat)(l:List UInt8):Nat:=l.foldl (λn c=>tb n c.toNat) n
def amW{c:UInt8}(w:Ë)(a:B.data.toList[i]?=Â c):(Ų 9 (Í B)<|Ä Ê (i:Int)).run À w=Ξ (Ä au (c.toNat:Nat)) w:=by
 have e:(0:Int)<=(i:Int):=Z
 let⟨b,d⟩:=Ò.1 a;have f:i<B.size:=by simpa using b
 have g:B[i]=c:=by rw[<-d];exact(Array.getElem_toList _).symm
 go_simp
abbrev zA:List È:=[Ä Ì 0,Ä Ì 0,Ä Ì 0,Ä Ì 0,Ä Ì 0,Ä Ì 0,Ä Ì 0,Ä Ì 0,Ä Ì 0,Ä Ì 0,Ä Ì 0,Ä Ì 0,Ä Ì 0,Ä Ì 0,Ä Ì 0,Ä Ì 0]
def Je(B:Nat)(P:ByteArray)(a:List Nat):Nat:=qU (nz (lf B)<|oL 4<|n5 a 16) P.data.toList
def Nb:∀(k:Nat) (l:List Nat),vO l->oL k l<18446744073709551616
 |0,_,h=>h 0
 |k+1,l,_=>Nb k (oK l)<|TQ l
def amX:(À.underlying 118).map ľ=Â Ô:=fx
def amY:(À.info? 118).map (·.size)=Â 16:=fx
def amZ(l:List Nat):jw (n5 l 0)=zA:=by rfl
def qk{b:Array Ķ}{c:List Ķ}{x:ķ}(T:é)(_:o.op=.load T x)(h:Ž P b vJ (o::c) y w):Ž P b vJ (o::c) y w:=h
theorem am0{P:ByteArray}(a:j9<18446744073709551616)(hP:P.size<=1000000)(hl:jJ.length=16)(F:vO jJ) (h:w.cell? ⟨m,J,Ã⟩=Â (Ä Ì j9)) (G:w.cell? ⟨m,J+1,Ã⟩=Â (Í P)) (I:∀(j x:Nat),jJ[j]?=Â x->w.cell? ⟨m,J+2+j,Ã⟩=Â (Ä Ì x)): Ñ À 161 #[Ç<|Â ⟨m,J,Ã⟩] w λe d=>e=Æ (Ä Ì<|Je j9 P jJ)/\fc fh w d:=by
 let⟨dd,K,L⟩:=É.1 amX;have c:=Ù w _ h;have M:w.rangeAt m (J+2) (jw jJ):=λj v s=>by unfold jw at s;rw[ý]at s;obtain⟨x,h1,rfl⟩:=É.1 s;exact I j x h1
 have N:∀j,j<16->(jw jJ).toArray[j]?=Â (Ä Ì<|jJ.getD j 0):=λj O=>by grind [Jc]
 have Q:∀W,fq w.heap.size (jw<|n5 jJ 16) 118 W->Ñ À 162 #[Å (Â ⟨w.heap.size,0,Ã⟩) 16 16] W λe d=>e=Æ (Ä Ì<|oL 4<|n5 jJ 16)/\fc (λi=>i=w.heap.size) W d:=λW hW=>by have t:=aaB (w:=W) (b:=w.heap.size) (cp:=16) (k:=4) (T:=118) (l:=n5 jJ 16) (junk:=[]) (by rw[FD]) (by rw[FD];omega) (by rw[FD];omega) (aaD jJ) (by rwa[ď]);rwa[FD]at t
 have S:=Nb 4 (n5 jJ 16)<|aaD jJ;unfold Je;generalize oL 4 (n5 jJ 16)=t at*;have V:∀W,Ñ À 177 #[Ä Ì 14695981039346656037,Ä Ì j9] W λe d=>e=Æ (Ä Ì<|lf j9)/\d=W:=λW=>by rw[<-aaC];exact Ja 14695981039346656037 j9 Z a W
 have Y:∀W,Ñ À 177 #[Ä Ì<|lf j9,Ä Ì t] W λe d=>e=Æ (Ä Ì<|nz (lf j9) t)/\d=W:=λW=>Ja (lf j9) t (A0 j9) S W;have Dm:=Dl (lf j9) t<|A0 j9;generalize nz (lf j9) t=n2 at*;generalize lf j9=n1 at*;have H:=eZ<|Á h<|Á G<|Á Q<|Á V<|Á Y<|Á N F;have r:=eZ (Á M<|Á K<|Á L<|amY.trans<|congrArg Â<|show 16=(jw jJ).length by simp[jw,hl]);clear Q V Y S F h G N K L M I;go_enter Tryz.func161,Tryz.ntmps161;go_wp2_with (apply qk 118 U;refine ŵ U 118 _ U m (J+2) U (jw jJ) dd (λj v q=>(fc.iw fh _ _ _).r (r.out.1 j v q) id) r.out.2.1 r.out.2.2.1 r.out.2.2.2 ?_);go_loopw [12] (λi wr=>∃j:Nat,j<=16/\i=Ä Ê j/\fc fh w wr/\fq w.heap.size (jw<|n5 jJ j) 118 wr) λi _=>16-(ê i).toNat
 case atStart=>exact⟨0,Þ _,U,fc.iw fh w zA.toArray 118,by rw[amZ];exact fq.N w zA 118⟩
 case round=>
  obtain⟨j,O,rfl,g,a⟩:=hrel;by_cases u:j=16
  .subst u;have g0:=g.r H.out.1 id;have HV:=eZ<|Á g a;clear g a;go_wp2_with (first
    |(go_at_call 162;refine(H.out.2.2.1 _ HV.out.2).mono ?_;rintro e w2 ⟨rfl,vi⟩;have y:=HV.out.1.C vi (λi hi q=>by omega);have g1:=y.r H.out.2.1 id;have HK:=eZ y;clear vi y)
    |(go_at_call 177;with_reducible refine(H.out.2.2.2.2.1 _).mono ?_;rintro e D ⟨rfl,rfl⟩)
    |(go_at_call 177;refine(H.out.2.2.2.1 _).mono ?_;rintro e D ⟨rfl,rfl⟩))
   go_loop [6,35] (λx i=>∃n j:Nat,j<=P.size/\n<18446744073709551616/\x=Ä Ì n/\i=Ä Ê j/\qU n (P.data.toList.drop j)=qU n2 P.data.toList) λ_ i=>P.size-(ê i).toNat
   case atStart=>exact⟨n2,0,Þ _,Dm,U,U,U⟩
   case round=>
    obtain⟨n,j,O,hn,rfl,rfl,f⟩:=hrel;have iO:P.data.toList.length=P.size:=fp
    by_cases u:j=P.size
    .rw[ü Z]at f;subst u;have HR:=eZ f;clear f;go_wp2_with fail;go_ret;exact⟨by rw[<-HR.out];rfl,HK.out⟩
    .have c:j<P.size:=Z
     have Nc:j<P.data.toList.length:=Z
     rw[ô Nc]at f;have hix:=λW=>amW W<|Ï Nc;have BZ:=(P.data.toList[j]).toNat_lt;have T:=λW=>aax n (P.data.toList[j]).toNat hn Z W;have HT:=eZ (Á T<|show qU (tb n (P.data.toList[j]).toNat) (P.data.toList.drop<|j+1)=_ from f);clear T f;generalize(P.data.toList[j]).toNat=cn at*;have e0:(0:Int)<=(j:Int):=Z
     have e1:(j:Int)<(P.size:Int):=Z
     have e2:(P.size:Int)<=1000000:=Z
     go_wp2_with (go_at_call 178;refine(HT.out.1 _).mono ?_;rintro e D ⟨rfl,rfl⟩)
     go_round
     case rel=>exact⟨_,j+1,c,I9 _ _,U,by go_num,HT.out.2⟩
     case measure=>simp[ê];omega
  .have c:j<16:=Z
   have hAi:=H.out.2.2.2.2.2.1 j c;have hix:=λW=>amU W c hAi;have h:=a.r j _ (Jc _ _ _<|by rw[TS jJ j j c,if_neg Z]);have f0:=a.I j;have hp:=H.out.2.2.2.2.2.2 j;have E:=a.fO j<|Ä Ì<|lf<|jJ.getD j 0;rw[<-TR,amV jJ j c]at E;have C:=λW=>Ja 14695981039346656037 (jJ.getD j 0) Z hp W;rw[aaC]at C;generalize lf (jJ.getD j 0)=z at*;generalize jJ.getD j 0=p at*;have HB:=eZ (Á (g.C (fc.I (X:=λk=>k=w.heap.size) (p:=⟨w.heap.size,j,Ã⟩) rfl<|Ä Ì z) λi hi q=>by omega) E);have HC:=eZ C;clear g a E hAi C;go_wp2_with (go_at_call 177;refine(HC.out _).mono ?_;rintro e D ⟨rfl,rfl⟩);go_roundw
   case rel=>exact⟨j+1,c,by go_num,HB.out.1,HB.out.2⟩
   case measure=>simp[ê];omega
abbrev zB:List È:=[Ä Ì 0,Ä Ì 0,Ä Ì 0,Ä Ì 0,Ä Ì 0,Ä Ì 0,Ä Ì 0,Ä Ì 0]
def pJ(D:Nat->Nat)(i:Nat):List Nat:=(ë 8).map λt=>if t<i then D t else 0
theorem FE(D:Nat->Nat)(i:Nat):(pJ D i).length=8:=by simp[pJ]
theorem TT(D:Nat->Nat)(i t:Nat)(h:t<8):(pJ D i)[t]?=Â (if t<i then D t else 0):=by simp[pJ,â h]
theorem am1(D:Nat->Nat)(i:Nat)(h:i<8):(pJ D i).set i (D i)=pJ D (i+1):=by refine æ λt=> ?_;grind [TT,FE,Č]
def aaE(b:∀i,D i<18446744073709551616):vO (pJ D 8):=FC Z λx a=>by
 unfold pJ at a;obtain⟨t,_,rfl⟩:=ī.1 a;split
 .exact b _
 .omega
def am2(D:Nat->Nat):jw (pJ D 0)=zB:=by rfl
def Jf(D:Nat->Nat):Nat:=oL 3<|pJ D 8
def am3(s:∀i,D i<18446744073709551616)(C:∀i,i<8->∀W,fc (λk=>k=w.heap.size) (w.alloc<|Î zB.toArray 116) W->Ñ À 161 #[Ç<|Â ⟨n,i*18,Ã⟩] W λe a=>e=Æ (Ä Ì<|D i)/\fc fh W a): Ñ À 122 #[Ç<|Â ⟨n,0,Ã⟩] w λe a=>e=Æ (Ä Ì<|Jf D)/\fc fh w a:=by
 have T:∀W,fq w.heap.size (jw<|pJ D 8) 116 W->Ñ À 162 #[Å (Â ⟨w.heap.size,0,Ã⟩) 8 8] W λe a=>e=Æ (Ä Ì<|oL 3<|pJ D 8)/\fc (λi=>i=w.heap.size) W a:=λW u=>by have t:=aaB (cp:=8) (k:=3) (by rw[FE]) (by rw[FE];omega) (by rw[FE];omega) (aaE s) (by rwa[ď]);rwa[FE]at t
 unfold Jf;have H:=eZ<|Á C T;clear C T;generalize oL 3 (pJ D 8)=t at*;go_enter Tryz.func122,Tryz.ntmps122;go_wp2_with fail;go_loopw [5] (λx j=>∃i:Nat,i<=8/\x=Ä Ê i/\fc (λk=>k=w.heap.size) (w.alloc<|Î zB.toArray 116) j/\fq w.heap.size (jw<|pJ D i) 116 j) λx _=>8-(ê x).toNat
 case atStart=>exact⟨0,Þ _,U,fc.fV _ _,by rw[am2];exact fq.N w zB 116⟩
 case round=>
  obtain⟨i,l,rfl,c,d⟩:=hrel;by_cases v:i=8
  .subst v;have m:=(fc.iw fh w zB.toArray 116).C c λi l q=>by omega
   have o:=eZ<|Á m d;clear m d c;go_wp2_with (go_at_call 162;refine(H.out.2 _ o.out.2).mono ?_;rintro e z ⟨rfl,p⟩;have r:=o.out.1.C p (λi l q=>by omega);have f:=eZ r;clear p r);go_ret;exact⟨U,f.out⟩
  .have g:i<8:=Z
   have y:=Jc _ _ _<|TT D i i g;have b:=eZ<|Á c d;clear c d;go_wp2_with (go_at_call 161;refine(H.out.1 i g _ b.out.1).mono ?_;rintro e B ⟨rfl,h⟩;have E:=(b.out.2.C h id).r i _ y;have F:=(b.out.2.C h id).I i;have f:=eZ h;clear h);go_roundw
   case rel=>exact⟨i+1,g,by go_num,(b.out.1.fj<|f.out.ff λ_ _=>Œ).fj (fc.I (X:=λk=>k=w.heap.size) U _),by rw[<-am1 D i g,TR];exact(b.out.2.C f.out id).fO i<|Ä Ì<|D i⟩
   case measure=>simp[ê];omega
def vP(a:IV):List Nat:=(ë 16).map λj=>(a.r j).toNat
def A1(a:IV):Nat:=Je a.ft.toNat a.C<|vP a
def A2(s:St):Nat:=Jf λi=>A1<|s i
theorem aaF(l:List UInt8):∀n,n<18446744073709551616->qU n l<18446744073709551616:=by
 induction l with
 |nil=>exact λn h=>h
 |cons c r h=>exact λn _=>h _<|I9 _ _
theorem TU(B:Nat)(P:ByteArray)(a:List Nat):Je B P a<18446744073709551616:=by unfold Je;grind [aaF,Dl,A0]
def TV(s:St)(h:i<144):(iz s)[i]?=Â (rN s i):=by simp[iz,â h]
def rT.am4{s:St}(m:rT n s h W)(a:iZ s)(i:Nat)(f:i<8): Ñ À 161 #[Ç<|Â ⟨n,i*18,Ã⟩] W λe b=>e=Æ (Ä Ì<|A1<|s i)/\fc fh W b:=by
 have g:=λj d=>by have:=m.C j _<|TV s d;simpa using this
 have b:=a.ft i;have k:=g (i*18) Z;have l:=g (i*18+1) Z;rw[<-uz s (Å Ã 0 0) Z,IW _ _ f]at k;rw[<-uz s (Å Ã 0 0) Z,M0 _ _ f]at l;refine am0 (by have e:=b.1;have c:=b.2;omega) (by have:=(a.I i).1;omega) (by simp[vP]) ?_ ?_ l ?_
 .refine FC Z λx e=> ?_;unfold vP at e;obtain⟨t,_,rfl⟩:=ī.1 e;have c:=(a.C i t).2;omega
 .rw[k];unfold rM;rw[ň b.1]
 .intro j x e;have d:j<16:=by have:=(Ò.1 e).1;simpa[vP]using this
  have c:=g (i*18+2+j) Z;rw[<-uz s (Å Ã 0 0) Z,S' _ _ f d]at c;have t:((s i).r j).toNat=x:=by simpa[vP,â d]using e
  rw[c,<-t];unfold rM;rw[ň (a.C i j).1]
def am5{s:St}(b:rT i s h w)(c:iZ s): Ñ À 122 #[Ç<|Â ⟨i,0,Ã⟩] w λe d=>e=Æ (Ä Ì<|A2 s)/\fc fh w d:=am3 (λa=>TU _ _ _) λa f W k=>((b.r (fc.iw fh w _ _) id).r k<|by show i≠w.heap.size;exact Nat.ne_of_lt<|Ù w _ b.h).am4 c a f
def jx(i:Nat):St:=λj=>⟨if j<i then 1000 else 0,⟨#[]⟩,λ_=>0⟩
theorem aaG(i:Nat):jx (i+1)=(jx i).ft i 1000:=by funext j;unfold jx St.ft St.fO;grind
def am6(s:St)(a:i<8)(x:Int):(iz s).set (i*18) (Ä Ì x)=iz (s.ft i x):=by have h:=U_ s (Å Ã 0 0) a x;rw[Fz,Fz,Ć _ _ (by rw[xu];omega)]at h;exact List.append_cancel_right h
def am7(s:St)(a:i<8):(iz s)[i*18]?=Â (Ä Ì (s i).ft):=by rw[TV s Z,<-uz s (Å Ã 0 0) Z,IW _ _ a];rfl
def am8:(À.info? 140).map (λi=>(i.size,i.zero.map λz=>z.cells.toList))=Â (144,Â<|iz<|jx 0):=fx
def am9(s:St):∀v∈iz s,v.oneCell'=Ô:=λv a=>amg s (lv:=Å Ã 0 0) U v<|by rw[Fz];exact ĺ _ a
def ana(w:Ë):Ñ À 60 #[] w λe F=>e=Æ (õ (iz<|jx 8).toArray)/\fc fh w F:=by
 let⟨G,n,o⟩:=É.1 aaq;let⟨O,g,p⟩:=É.1 am8;simp only[Prod.mk.injEq]at p;let⟨r,t⟩:=p;let⟨I,u,v⟩:=É.1 t;have y:I.cells=(iz<|jx 0).toArray:=by rw[<-v]
 have z:∀s,(À.info? 140).map (·.size)=Â (iz s).length:=λs=>by rw[g,xu];simp[r]
 have h:=fc.iw fh (w.alloc<|Î (iz<|jx 0).toArray 140) (iz<|jx 0).toArray 140;have B:=(fq.N w (iz<|jx 0) 140).C h id;have C:fq (w.heap.size+1) (iz<|jx 0) 140 ((w.alloc<|Î (iz<|jx 0).toArray 140).alloc<|Î (iz<|jx 0).toArray 140):=by have:=fq.N (w.alloc<|Î (iz<|jx 0).toArray 140) (iz<|jx 0) 140;simpa using this
 have a:=eZ<|Á n<|Á o<|Á g<|Á u<|Á y z;have H:=eZ<|Á ((fc.iw fh w (iz<|jx 0).toArray 140).fj h)<|Á B C;clear h B C n o g r t u v y z;go_enter Tryz.func60,Tryz.ntmps60;go_wp2_with (first
  |(with_reducible refine Ā U (Â 0) U _ _ (M3 U a.out.2.2.1 a.out.2.2.2.1) ?_;rw[a.out.2.2.2.2.1])
  |(with_reducible refine Ā U (Â 1) U _ _ (M3 U a.out.2.2.1 a.out.2.2.2.1) ?_;rw[a.out.2.2.2.2.1]))
 generalize(w.alloc<|Î (iz<|jx 0).toArray 140).alloc (Î (iz<|jx 0).toArray 140)=wa at*;go_loopw [3] (λx b=>∃i:Nat,i<=8/\x=Ä Ê i/\fc (λk=>k=w.heap.size+1) wa b/\fq (w.heap.size+1) (iz<|jx i) 140 b) λx _=>8-(ê x).toNat
 case atStart=>exact⟨0,Þ _,U,fc.fV _ _,H.out.2.2⟩
 case round=>
  obtain⟨i,D,rfl,d,c⟩:=hrel;by_cases j:i<8
  .have P:=c.r _ _<|am7 (jx i) j;have Q:=c.I<|i*18;have l:=c.fO (i*18)<|Ä Ì 1000;rw[am6 _ j,<-aaG]at l;have E:=eZ<|Á d l;clear d c l;go_wp2_with fail;go_roundw
   case rel=>exact⟨i+1,j,by go_num,E.out.1.fj (fc.I (X:=λk=>k=w.heap.size+1) U _),E.out.2⟩
   case measure=>simp[ê];omega
  obtain rfl:i=8:=Z
  have m:=H.out.2.1.C d Z;have J:=fq.Y (by rw[ď];exact c);have K:b.there w.heap.size 0 (iz<|jx 8).toArray.size:=m.M4 (by simp[xu]);have L:=I1 (iz<|jx 8) [] [] b (iz<|jx 0) (by rw[xu,xu]) (by simpa using m);have M:=(H.out.1.C d λi D q=>by omega).C (I2 (iz<|jx 8) 0 b m.S) λi D q=>by omega
  have f:=eZ<|Á M<|Á L<|Á J K;go_wp2_with (first
   |(with_reducible refine ŵ U 140 _ U (w.heap.size+1) 0 U (iz<|jx 8) G f.out.2.2.1 a.out.1 a.out.2.1 (a.out.2.2.2.2.2 _) ?_)
   |(with_reducible refine ū U 140 _ _ U w.heap.size 0 (iz (jx 8)).toArray U U f.out.2.2.2 (by rw[a.out.2.2.2.2.2 (jx 8)];simp) (ņ (am9 _)) ?_))
  have N:fq w.heap.size (iz (jx 8)++[]) 140 (b.setCells w.heap.size 0<|iz<|jx 8):=by simpa using f.out.2.1
  refine š (aad U U (fq.Y N) a.out.1 a.out.2.1<|a.out.2.2.2.2.2 _) U<|⟨U,f.out.1⟩
structure fM where
 s:St
 C:List (Nat×Int)
 r:List (Int×Bool)
 h:Int
def A3(a:Ě)(k:Nat)(d:List È)(w:Ë):Prop:=
 ∃p c,w.cell? a=Â (Å p k c)/\∀(j:Nat) (x:È),d[j]?=Â x->∃b o,p=Â ⟨b,o,Ã⟩/\w.cell? ⟨b,o+j,Ã⟩=Â x
def A3.r(h:A3 a k l w)(q:fc fh w u):A3 a k l u:=by let⟨p,c,d,e⟩:=h;exact⟨p,c,q.r d id,λj x f=>by let⟨b,o,g,i⟩:=e j x f;exact⟨b,o,g,q.r i id⟩⟩
structure sX(b:Nat)(v:fM)(w:Ë):Prop where
 r:rT b v.s v.h w
 C:iZ v.s
 I:0<=v.h
 M:v.h<=40
 N:A3 ⟨b,144,Ã⟩ v.C.length (oI v.C) w
 S:A3 ⟨b,146,Ã⟩ v.r.length (xv v.r) w
def sX.Y{v:fM}(h:sX b v w)(q:fc fh w u):sX b v u:= ⟨h.r.r q id,h.C,h.I,h.M,h.N.r q,h.S.r q⟩
structure qV(bp:Option Ě)(n:Nat)(vs:List (Nat×fM))(w:Ë):Prop where
 r:n=vs.length
 C:∀(j b:Nat) (v:fM),vs[j]?=Â (b,v)->∃sb so,bp=Â ⟨sb,so,Ã⟩/\w.cell? ⟨sb,so+j,Ã⟩=Â (Ç<|Â ⟨b,0,Ã⟩)/\sX b v w
def qV.I{a:List (Nat×fM)}(h:qV O n a w)(q:fc fh w u):qV O n a u:= ⟨h.r,λj b v e=>by let⟨c,d,f,g,i⟩:=h.C j b v e;exact⟨c,d,f,q.r g id,i.Y q⟩⟩
def zh(a b:Nat×fM):Nat×fM:=if a.2.h<b.2.h then b else a
def vR(d:Nat×fM)(a:List (Nat×fM)):Nat×fM:=a.foldl zh d
def anb{cp:Nat}{a:List (Nat×fM)}{d:Nat×fM}(m:qV O n a w)(G:n<=1000)(o:a[0]?=Â d): Ñ À 153 #[Å O n cp] w λe C=>e=Æ (Ç<|Â ⟨(vR d a).1,0,Ã⟩)/\fc fh w C:=by
 obtain⟨H,I,rfl,k,c⟩:=m.C 0 d.1 d.2 o;have J:0<n:=by rw[m.r];exact(Ò.1 o).1
 generalize x:vR d a=r;have q:=eZ m;clear m;simp only[Nat.add_zero]at k;go_enter Tryz.func153,Tryz.ntmps153;go_wp2_with fail;go_loopw [3,11] (λp i D=>∃(j:Nat) (e:Nat×fM),j<=n/\fc fh w D/\sX e.1 e.2 w/\vR e (a.drop j)=r/\p=Ç (Â ⟨e.1,0,Ã⟩)/\i=Ä Ê j) λ_ i _=>n-(ê i).toNat
 case atStart=>exact⟨0,d,Þ _,fc.fV _ _,c,x,U,U⟩
 case round=>
  obtain⟨j,⟨E,y⟩,K,f,s,l,rfl,rfl⟩:=hrel;clear x k c o;by_cases t:j<n
  .obtain⟨⟨b,v⟩,u⟩:∃p,a[j]?=Â p:=⟨_,Ï<|by rwa[<-q.out.r]⟩;let⟨L,M,F,k,c⟩:=q.out.C j b v u;cases F;let⟨z,e⟩:=Ò.1 u;rw[ô z,e]at l;have N:=f.r k id;have P:=f.r c.r.h id;have Q:=f.r s.r.h id;have g:=eZ<|Á l<|Á f<|Á c s;clear l f c s k u e z;by_cases B:y.h<v.h;all_goals
    go_wp2_with fail
    go_quiet (fail)
    go_wp2_with fail
   .exact⟨⟨j+1,(b,v),t,g.out.2.1.fj<|fc.jh _ _ _,g.out.2.2.1,by rw[<-g.out.1];simp[vR,zh,B],U,by go_num⟩,by simp[ê];omega⟩
   .exact⟨⟨j+1,(E,y),t,g.out.2.1.fj<|fc.jh _ _ _,g.out.2.2.2,by rw[<-g.out.1];simp only[vR,zh,List.foldl,if_neg<|Int.not_lt.2 B],U,by go_num⟩,by simp[ê];omega⟩
  .rw[ü (by rw[<-q.out.r];omega)]at l;obtain rfl:j=n:=Z
   subst l;go_wp2_with fail;go_ret;exact⟨U,f⟩
def n7(a:List (Nat×fM))(b:Int):Option (Nat×fM):=
 if b=-1 then(a[0]?).map λd=>vR d a else a[b.toNat]?
def oM(b:Option Nat):È:=Ç<|b.map λb=>⟨b,0,Ã⟩
section
variable{cp:Nat}{a:List (Nat×fM)}
def Nf(f:qV O n a w)(i:n<=1000)(j:0<n)(c:Int)(m:-1<=c): Ñ À 113 #[Å O n cp,Ä Ê c] w λe b=>e=Æ (oM ((n7 a c).map (·.1)))/\fc fh w b:=by
 by_cases h:c=-1
 .subst h;obtain⟨d,b⟩:∃d,a[0]?=Â d:=⟨_,Ï<|by rwa[<-f.r]⟩;have e:n7 a (-1)=Â (vR d a):=by unfold n7;rw[if_pos U,b];rfl
  rw[e];go_enter ţ,ō;go_wp2_with (go_at_call 153;refine(eZ<|anb (cp:=cp) f i b).out.mono ?_;rintro e k ⟨rfl,g⟩);go_ret;exact⟨U,g⟩
 .obtain⟨k,rfl⟩:∃k:Nat,c=k:=⟨c.toNat,Z⟩;have e:n7 a (k:Int)=a[k]?:=by unfold n7;rw[if_neg h,Int.toNat_natCast]
  rw[e];by_cases g:k<n
  .obtain⟨⟨b,v⟩,d⟩:∃p,a[k]?=Â p:=⟨_,Ï<|by rwa[<-f.r]⟩;let⟨o,q,l,r,s⟩:=f.C k b v d;rw[d];subst l;go_enter ţ,ō;go_wp2_with fail;go_ret;exact⟨U,fc.fV _ _⟩
  .rw[(List.getElem?_eq_none<|by rw[<-f.r];omega)];go_enter ţ,ō;go_wp2_with fail;go_ret;exact⟨U,fc.fV _ _⟩
end
theorem aaH(a:List (Nat×fM)):∀(l:List (Nat×fM)) (d:Nat×fM),d∈a->(∀x∈l,x∈a)->vR d l∈a
 |[],d,hd,_=>hd
 |x::l,d,hd,hl=>by
  show vR (zh d x) l∈a;refine aaH a l _ ?_ λy b=>hl y<|ŀ _ b;unfold zh;split
  .exact hl x List.mem_cons_self
  .exact hd
theorem Jg{a:List (Nat×fM)}{p:Nat×fM}(h:n7 a c=Â p):p∈a:=by unfold n7 at h;grind [É,aaH,List.mem_of_getElem]
def qV.M{a:List (Nat×fM)}(h:qV O n a w){p:Nat×fM}(b:p∈a):sX p.1 p.2 w:=by let⟨j,c⟩:=List.getElem?_of_mem b;let⟨_,_,_,_,d⟩:=h.C j p.1 p.2 c;exact d
theorem aaI(c:w.cell? ⟨b,i,Ã⟩=Â v)(h:w.ownsRow 0 e j v n l):A3 ⟨b,i,Ã⟩ n l w:=by
 rcases h.2 with⟨rfl,rfl⟩|⟨g,f,k,rfl,_,m,_,_,_,o⟩
 .have d:=Ø (by simpa using h.1);subst d;exact⟨Ã,0,c,λa x q=>by simp at q⟩
 .refine⟨_,_,c,λa x q=>⟨g,0,U,?_⟩⟩;have:=h.cells U a x q;grind [Addr.add_mid]
def NX.zi{s:St}{b:List (Nat×Int)}{us:List (Int×Bool)}(x:NX i h v z s b us u w)(c:iZ s)(d:0<=h)(e:h<=40):sX i ⟨s,b,us,h⟩ w:=by have a:fq i (ny s v++[Ä Ê h,z]) 147 w:=x.r;refine⟨⟨?_,a.r 145 _<|by rw[î (by rw[rO];omega),rO];rfl⟩,c,d,e,aaI x.r.TF x.C,aaI x.G x.I⟩;rw[Fz,þ]at a;exact a.Y
def anc:(À.info? 136).map (λi=>(i.zero,i.size,i.bytes))=Â (Â<|Ç Ã,1,8):=fx
def ane{p:Array Ķ}{r:List Ķ}(C:o.guard=Ã)(s x:ķ)(t:é) (D:o.op=.call {callee:=.builtin .append,args:=#[s,x],argTypes:=#[t,t]}) (E:P.underlying t=Â (aD e)) (F:P.info? e=Â zJ) (G:zJ.zero=Â z) (B:zJ.size=1) (H:zJ.bytes=8) (g k n:Nat) (b:List È) (I:b.length=n) (J:∀j v,b[j]?=Â v->w.cell? ((⟨g,k,Ã⟩:Ě).add j)=Â v) (L:y.eval s=Å (Â ⟨g,k,Ã⟩) n n) (l:Nat) (v:È) (M:y.eval x=Å (Â ⟨l,0,Ã⟩) 1 1) (N:∀j u,[v][j]?=Â u->w.cell? ((⟨l,0,Ã⟩:Ě).add j)=Â u) (X:n<=1000) (O:lA e=Û) (h:∀c f,n+1<=c->fc fh w f->(∃m:Array È,f.heap[w.heap.size]?=Â (Î m e (0,0))/\0<m.size/\∀u∈m.toList,u∈b\/u=v\/u∈z.cells.toList)->(∀j u,(b++[v])[j]?=Â u->f.cell? ⟨w.heap.size,0+j,Ã⟩=Â u)->Ž P p vJ r (y.put o.dst<|Å (Â ⟨w.heap.size,0,Ã⟩) (n+1) c) f):Ž P p vJ (o::r) y w:=by refine ś C λK S=> ?_;have T:=ų w t o.type e zJ z E F G ⟨g,k,Ã⟩ n n b (by rw[I,B];omega) J ⟨l,0,Ã⟩ 1 1 [v] (by rw[B];rfl) N Z Z (ļ Z<|by rw[H];omega);unfold Ŝ ċ;simp only[D,Ρ,ai,Τ,ŝ,Ş,ě,ĥ,ŋ,ş,L,M,T];refine S _ _ (h _ _ (Ű w (n+1) n e) ((fc.gG _ _).fj<|fc.iw _ _ _ _<|ß O) ⟨_,Ü w.drew _,by simp;omega,λu d=>by simp only[Ņ,ö]at d;rcases d with(q|q)|q;exact ß q;exact ä (ß<|by simpa using q);exact ä<|ä<|TA q⟩ λj u d=> ?_);have V:(w.drew.alloc<|Î (b.toArray++[v].toArray++á z.cells (Ĺ w (n+1) n e-(n+1))) e).heap[w.heap.size]?=_:=Ü w.drew _;simp only[ς,V,Ő,ő,if_false,Ĩ];have W:=(Ò.1 d).1;rw[Array.getElem?_append_left (by simpa using W)];simpa using d
def uA(v:È)(T:é)(w:Ë):Prop:=v=Å Ã 0 0\/∃g n c a,v=Å (Â ⟨g,0,Ã⟩) n c/\w.heap[g]?=Â (Î a T (0,0))
def uA.I(h:w.ownsRow 0 T i v n l):uA v T w:=by
 rcases h.2 with⟨q,_⟩|⟨g,a,b,c,_,d,_⟩
 .exact ß q
 .exact ä ⟨g,_,a,b,c,d⟩
def uA.C(h:uA v T w)(k:fc fh w u):uA v T u:=by
 rcases h with q|⟨g,n,c,b,d,a⟩
 .exact ß q
 .refine ä ⟨g,n,c,b,d,?_⟩;rwa[k.N g (Array.getElem?_eq_some_iff.1 a).1 id]
def sY(a:List (Nat×fM)):List È:=a.map λp=>Ç<|Â ⟨p.1,0,Ã⟩
structure TW(vs:List (Nat×fM))(B:Nat)(w w':Ë)(g:Nat):Prop where
 C:w.heap.size<=g
 r:∃cur:Array È,w'.heap[g]?=Â (Î cur 136 (0,0))/\0<cur.size/\∀u∈cur.toList,u∈sY vs\/u=Ç (Â ⟨B,0,Ã⟩)\/u=Ç Ã
structure TX(B:Nat)(s:St)(h:Int)(w w':Ë):Prop where
 C:w.heap.size<=B
 r:∃lv uv,fq B (ny s lv++[Ä Ê h,uv]) 147 w'/\uA lv 257 w'/\uA uv 246 w'/\(∀j,lv.ownBlock=Â j->w.heap.size<=j)/\∀j,uv.ownBlock=Â j->w.heap.size<=j
section
variable{bp:Option Ě}{cp:Nat}{vs:List (Nat×fM)}
def anf(a b:Nat)(d:n<=1000)(f:n<=cp):Ñ À 155 #[Å (Â ⟨a,b,Ã⟩) n cp] w λe c=>e=Æ (Å (Â ⟨a,b,Ã⟩) n n)/\c=w:=by go_enter Tryz.func155,Tryz.ntmps155;go_wp2;go_ret;exact⟨U,U⟩
def ang(b:qV bp n vs w)(h:n<=1000)(l:0<n)(m:n<=cp)(B:Nat): Ñ À 116 #[Å bp n cp,Ç<|Â ⟨B,0,Ã⟩] w λe a=>∃g c,e=Æ (Å (Â ⟨g,0,Ã⟩) (n+1) c)/\n+1<=c/\fc fh w a/\TW vs B w a g/\∀j u,(sY vs++[Ç<|Â ⟨B,0,Ã⟩])[j]?=Â u->a.cell? ⟨g,0+j,Ã⟩=Â u:=by
 let⟨G,r,s,t,x⟩:=ì anc;obtain⟨d,y⟩:∃d,vs[0]?=Â d:=⟨_,Ï<|by rwa[<-b.r]⟩;let⟨g,f,i,_,_⟩:=b.C 0 d.1 d.2 y;have z:∀(o:Obj) (j:Nat) (v:È),(sY vs)[j]?=Â v->(w.alloc o).cell? ((⟨g,f,Ã⟩:Ě).add j)=Â v:=λo j v q=>by unfold sY at q;rw[ý]at q;obtain⟨p,C,rfl⟩:=É.1 q;let⟨D,E,H,k,_⟩:=b.C j p.1 p.2 C;rw[i]at H;cases H;rwa[Addr.add_mid,World.cell?_alloc_lt _ _ _<|Ù w _ k]
 have H:=eZ (Á z<|Á r<|Á s<|Á t<|Á x<|show(sY vs).length=n by unfold sY;rw[Ĵ];exact b.r.symm);subst i;go_enter Tryz.func116,Tryz.ntmps116;go_wp2_with (first
  |(go_at_call 155;refine(anf g f h m).mono ?_;rintro e a ⟨rfl,k⟩;subst a)
  |(at_builtin;refine ane U _ _ 65 U Tryz.underlying65 H.out.2.1 H.out.2.2.1 H.out.2.2.2.1 H.out.2.2.2.2.1 g f n (sY vs) H.out.2.2.2.2.2 (H.out.1 _) U w.heap.size (Ç (Â ⟨B,0,Ã⟩)) U (ÿ _ _ _) h A ?_;intro c C a e k p))
 go_ret;refine⟨_,_,U,a,(fc.iw _ _ _ _).fj e,⟨fp,by let⟨c,C,D,E⟩:=k;exact⟨c,by simpa using C,D,λu F=>(E u F).elim ß λq=>q.elim (λq=>ä<|ß q) λq=>ä<|ä<|by simpa[Ĝ]using q⟩⟩,λj u q=>by have:=p j u q;simpa using this⟩
end
structure Dn(r:Nat)(v:Int)(x:Nat)(bp:Option Ě)(n cp:Nat)(w:Ë):Prop where
 M:w.cell? ⟨r,0,Ã⟩=Â (Ä Ê x)
 N:w.cell? ⟨r,5,Ã⟩=Â (Ä Ê v)
 I:w.cell? ⟨r,8,Ã⟩=Â (Å bp n cp)
def Dn.C{r:Nat}(h:Dn r c i O n j w)(k:fc fh w u):Dn r c i O n j u:=⟨k.r h.M id,k.r h.N id,k.r h.I id⟩
def rU(a:List (Nat×fM))(v:Int)(x:Nat)(b:List Tx):Option fM×ByteArray:=
 match n7 a v with
 |none=>(Ã,ow 3)
 |some p=>if a.length=40 then(Ã,ow 4)else match mQ x p.2.s b with
  |none=>(Ã,ow 5)
  |some r=>(Â ⟨r.1,r.2.1,r.2.2,p.2.h+1⟩,nZ a.length)
def Ng(c:È)(d:List (Nat×fM))(w:Ë):Prop:=∃a n b,c=Å a n b/\n<=b/\qV a n d w
def TY(f:List (Nat×fM))(i:È)(w:Ë)(o:Option fM×ByteArray)(e:ζ)(a:Ë):Prop:=
 fc fh w a/\((o.1=Ã/\e=Æ (č #[i,Í o.2]))\/∃v b d,o.1=Â v/\e=Æ (č #[d,Í o.2])/\Ng d (f++[(b,v)]) a/\TX b v.s v.h w a/\∃g n c,d=Å (Â ⟨g,0,Ã⟩) n c/\TW f b w a g)
def anh{c:List (Nat×fM)}{v:fM}(e:qV O n c w)(f:sX j v w)(h:∀a u,(sY c++[Ç<|Â ⟨j,0,Ã⟩])[a]?=Â u->w.cell? ⟨i,0+a,Ã⟩=Â u):qV (Â ⟨i,0,Ã⟩) (n+1) (c++[(j,v)]) w:=by
 refine⟨by rw[e.r];simp,λa b u q=>⟨i,0,U,?_,?_⟩⟩
 .apply h a _;have:sY c++[Ç<|Â ⟨j,0,Ã⟩]=sY (c++[(j,v)]):=by simp[sY]
  rw[this];unfold sY;rw[ý,q];rfl
 .rcases ř a c.length with d|d
  .rw[Õ d]at q;let⟨_,_,_,_,k⟩:=e.C a b u q;exact k
  .rw[î d]at q;have k:a-c.length=0:=by
    have:=(Ò.1 q).1;simp at this;omega
   rw[k]at q;cases q;exact f
def ani{e:ζ}(a:FB h W Ã e u)(k:fc fh w W):e=Æ (Ç Ã)/\fc fh w u:=by
 rcases a with⟨_,b,c⟩|⟨_,_,_,_,_,_,q,_⟩
 .exact⟨b,k.fj c⟩
 .cases q
def anj{e:ζ}{s:St}{a:List (Nat×Int)}{us:List (Int×Bool)}(b:FB h W (Â (s,a,us)) e u)(i:0<=h)(l:h<40)(k:fc fh w W):∃B,e=Æ (Ç<|Â ⟨B,0,Ã⟩)/\fc fh w u/\sX B ⟨s,a,us,h+1⟩ u/\TX B s (h+1) w u:=by
 rcases b with⟨q,_⟩|⟨m,n,o,B,c,d,q,f,x,g⟩
 .cases q
 .cases q;exact⟨B,f,k.fj x.M,x.zi g Z Z,ç k.M x.N,c,d,x.r,uA.I x.C,uA.I x.I,λj q=>ç k.M<|x.S j q,λj q=>ç k.M<|x.Y j q⟩
section
variable{bp:Option Ě}{cp r x:Nat}{v:Int}{vs:List (Nat×fM)}{f:List (Nat×Tx)}
def ank{p:Nat×fM}(F:Ñ À 113 #[Å bp n cp,Ä Ê v] w λe a=>e=Æ (oM<|Â p.1)/\fc fh w a)(f:Dn r v x O b i w)(m:((n:Int)==40)=Û)(N:∀W,fc fh w W->Ñ À 115 #[Ç<|Â ⟨p.1,0,Ã⟩,Ä Ê x,Å O b i] W (FB p.2.h W Ã)): Ñ À 66 #[Å bp n cp,Ç<|Â ⟨r,0,Ã⟩] w (TY vs (Å bp n cp) w (Ã,ow 5)):=by
 have o:=f.N;have H:=eZ<|Á F<|Á N f;go_enter Ł,Ĭ;go_wp2_with (go_at_call 113;refine H.out.1.mono ?_;rintro e d ⟨rfl,c⟩;dsimp only[oM,Ŗ]);have g:=eZ<|Á ((H.out.2.2.C c).C<|fc.gG fh _).M ((H.out.2.2.C c).C<|fc.gG fh _).I;go_region_held3 (λa=>a.cell? ⟨r,0,Ã⟩=Â (Ä Ê x)/\a.cell? ⟨r,8,Ã⟩=Â (Å O b i)) (first|exact g.out|exact j.out) (first
   |(go_at_call 115;refine(H.out.2.1 _ (c.fj kp)).mono ?_;rintro e k l;obtain⟨rfl,d⟩:e=Æ (Ç Ã)/\fc fh w k:=ani l (c.fj kp);dsimp only;have j:=eZ (Á (H.out.2.2.C d).M (H.out.2.2.C d).I)))
 go_wp2_with (first
  |(go_at_call 114;refine(I8 5 A _).mono ?_;rintro e a ⟨rfl,c⟩;subst a))
 go_ret2;exact⟨d,ß ⟨U,U⟩⟩
def anl{p:Nat×fM}{f:St}{g:List (Nat×Int)}{j:List (Int×Bool)}(k:qV bp n vs w)(Q:n<=40)(q:0<n)(s:n<=cp)(t:0<=p.2.h)(u:p.2.h<40)(F:Ñ À 113 #[Å bp n cp,Ä Ê v] w λe a=>e=Æ (oM<|Â p.1)/\fc fh w a)(l:Dn r v x O b i w)(S:((n:Int)==40)=Û)(N:∀W,fc fh w W->Ñ À 115 #[Ç<|Â ⟨p.1,0,Ã⟩,Ä Ê x,Å O b i] W (FB p.2.h W<|Â (f,g,j))): Ñ À 66 #[Å bp n cp,Ç<|Â ⟨r,0,Ã⟩] w (TY vs (Å bp n cp) w (Â ⟨f,g,j,p.2.h+1⟩,nZ vs.length)):=by
 have T:=l.N;rw[<-k.r];have H:=eZ<|Á F<|Á N<|Á l k;go_enter Ł,Ĭ;go_wp2_with (go_at_call 113;refine H.out.1.mono ?_;rintro e o ⟨rfl,d⟩;dsimp only[oM,Ŗ]);have y:=eZ<|Á ((H.out.2.2.1.C d).C<|fc.gG fh _).M ((H.out.2.2.1.C d).C<|fc.gG fh _).I;go_region_held3 (λa=>a.cell? ⟨r,0,Ã⟩=Â (Ä Ê x)/\a.cell? ⟨r,8,Ã⟩=Â (Å O b i)) (first|exact y.out|exact o.out) (first
   |(go_at_call 115;refine(H.out.2.1 _ (d.fj kp)).mono ?_;rintro e D z;obtain⟨B,rfl,c,C,m⟩:=anj (w:=w) z t u (d.fj kp);dsimp only;have o:=eZ (Á (H.out.2.2.1.C c).M (H.out.2.2.1.C c).I)))
 have W:=ang (H.out.2.2.2.I c) Z q s B;have z:=eZ W;go_wp2_with (first
  |(go_at_call 116;refine z.out.mono ?_;rintro e G ⟨I,J,rfl,D,d,o,E⟩)
  |(go_at_call 117;refine(aaw n Z _).mono ?_;rintro e a ⟨rfl,G⟩;subst a))
 go_ret2;refine⟨c.fj d,ä ⟨_,B,_,U,U,⟨_,_,_,U,D,?_⟩,⟨m.C,by let⟨G,I,J,K,L,M,P⟩:=m.r;exact⟨G,I,J.C d id,K.C d,L.C d,M,P⟩⟩,_,_,_,U,ç c.M o.C,o.r⟩⟩;exact anh ((H.out.2.2.2.I c).I d) (C.Y d) E
def anm(a:qV bp n vs w)(C:n<=40)(j:0<n)(D:n<=cp)(t:∀p∈vs,p.2.h<40)(d:Dn r v x O b i w)(u:FA O b f w)(E:b<=1000)(y:sU w)(G:x<8)(z:-1<=v): Ñ À 66 #[Å bp n cp,Ç<|Â ⟨r,0,Ã⟩] w (TY vs (Å bp n cp) w<|rU vs v x<|mP f):=by
 have L:=d.N;unfold rU;cases g:n7 vs v with
 |none=>
  have F:=Nf (cp:=cp) a Z j v z;rw[g]at F;have H:=eZ F;go_enter Ł,Ĭ;go_wp2_with (first
   |(go_at_call 113;refine H.out.mono ?_;rintro e I ⟨rfl,q⟩;dsimp only[oM,Ŗ])
   |(go_at_call 114;refine(I8 3 A _).mono ?_;rintro e l ⟨rfl,J⟩;subst l))
  go_ret2;exact⟨q,ß ⟨U,U⟩⟩
 |some p=>
  have m:=Jg g;have c:=a.M m;have F:=Nf (cp:=cp) a Z j v z;rw[g]at F;have N:∀W,fc fh w W->Ñ À 115 #[Ç<|Â ⟨p.1,0,Ã⟩,Ä Ê x,Å O b i] W (FB p.2.h W<|mQ x p.2.s<|mP f):=λW k=>
   amG (c.r.r k id) c.I (by have:=c.M;omega) c.C (u.I k) (y.r k id) E G
  have K:=a.r;by_cases B:n=40
  .simp only;rw[if_pos Z];have H:=eZ F;clear F N a d u y t c g m K;have o:((n:Int)==40)=Ô:=by rw[B];rfl
   clear B;go_enter Ł,Ĭ;go_wp2_with (first
    |(go_at_call 113;refine H.out.mono ?_;rintro e I ⟨rfl,q⟩;dsimp only[oM,Ŗ])
    |(go_at_call 114;refine(I8 4 A _).mono ?_;rintro e l ⟨rfl,J⟩;subst l))
   go_ret2;exact⟨q,ß ⟨U,U⟩⟩
  .simp only;rw[if_neg Z];have o:((n:Int)==40)=Û:=by rw[beq_eq_false_iff_ne];omega
   have l:=t p m;have H:=c.I;cases e:mQ x p.2.s (mP f)with
   |none=>
    rw[e]at N;exact ank F d o N
   |some q=>
    let⟨I,J,M⟩:=q;rw[e]at N;exact anl a C j D H l F d o N
end
theorem ano(h:l.length=145):À.built 147 [(0,õ l.toArray)]=Â (l++[Ä Ê 0,Å Ã 0 0]).toArray:=by let⟨z,d,a,b,c⟩:=M8 aam aan A;rw[I6 aao a,c];have:=Dk (place:=λi=>[(0,145),(145,1),(146,1)].toArray[i]?) (pre:=[]) (suf:=[Ä Ê 0,Å Ã 0 0]) (i:=0) (v:=õ l.toArray) (rest:=[]) U (by show l.toArray.size=145;simp[h]) b;simpa[ė,Ĝ]using this
theorem anp(a:o.op=.build 147 #[(0,qQ)])(b:xX qQ=õ l.toArray)(c:l.length=145):(ċ xX o).run À w=Ξ (.value<|õ (l++[Ä Ê 0,Å Ã 0 0]).toArray) w:=by grind [I7,ano]
def iR:fM:=⟨jx 8,[],[],0⟩
def aaJ:iZ (jx 8):=by refine⟨λi=> ?_,λi j=>⟨σ _,show(0:Int)<18446744073709551616 by decide⟩,λi=>⟨show(0:Nat)<=40 by decide,λc a=>by cases a⟩⟩;show oA (if i<8 then 1000 else 0);split<;>exact⟨A,A⟩
theorem anq{s:St}(b:iZ s)(h:fq i (iz s++[Å Ã 0 0]++[Ä Ê 0,Å Ã 0 0]) 147 w):sX i ⟨s,[],[],0⟩ w:=by
 have c:=xu s;refine⟨⟨λj v d=> ?_,?_⟩,b,σ _,show(0:Int)<=40 by decide,?_,?_⟩
 .rw[Ĩ];apply h.r j v;grind
 .apply h.r 145 _;simp_all
 .refine⟨Ã,0,h.r 144 _ ?_,λj x a=>by cases a⟩;grind
 .refine⟨Ã,0,h.r 146 _ ?_,λj x a=>by cases a⟩;simp_all
def anr(n:Int)(h:n<1)(w:Ë):Ñ À 35 #[Ä Ê n] w λe w'=>e=Æ (č #[Ç Ã,Ä Ê 7])/\w'=w:=by go_enter υ,θ;go_wp2_with fail;go_ret2;exact⟨U,U⟩
def ant(n:Int)(h:8<n)(w:Ë):Ñ À 35 #[Ä Ê n] w λe w'=>e=Æ (č #[Ç Ã,Ä Ê 7])/\w'=w:=by go_enter υ,θ;go_wp2_with fail;go_ret2;exact⟨U,U⟩
def anu{s:St}(b:iZ s){ls:List (Nat×Int)}{t:Tx}(a:t.Ok)(c:(ls.length:Int)+400<=1000000)(h:xt ls):xt (lW s ls t).2.2.2:=by
 unfold lW;split
 .exact h
 .split
  .exact h
  .exact(a.S ‹_› ‹_›).amt b a.N c h
def A4(us:List (Int×Bool)):Prop:=∀e∈us,0<=e.1/\e.1<=400
def A4.BQ{us:List (Int×Bool)}(h:A4 us){e:Int×Bool}(a:0<=e.1)(b:e.1<=400):A4 (us++[e]):=λx c=>by
 rcases ö.1 c with q|q
 .exact h x q
 .simp at q;subst q;exact⟨a,b⟩
structure T0(v:fM):Prop where
 C:xt v.C
 r:A4 v.r
 I:v.C.length<=400000
 M:v.r.length<=1000
def T3:∀(a:List Tx) {s:St} {ls:List (Nat×Int)} {us:List (Int×Bool)} {r:St×List (Nat×Int)×List (Int×Bool)},(∀t∈a,t.Ok)->iZ s->xt ls->A4 us->ls.length+400*a.length<=400000->us.length+a.length<=1000->pb m s ls us a=Â r->iZ r.1/\xt r.2.1/\A4 r.2.2/\r.2.1.length<=400000/\r.2.2.length<=1000
 |[],s,ls,us,r,_,hs,hl,hu,n1,n2,h=>by cases h;exact⟨hs,hl,hu,by simpa using n1,by simpa using n2⟩
 |t::q,s,ls,us,r,ht,hs,hl,hu,n1,n2,h=>by
  unfold pb at h;simp only[List.length_cons]at n1 n2;split at h
  .have d:=aav (ls:=ls) hs (ht t fp) Z;have e:=d.r;exact T3 q (λb c=>ht b<|ŀ _ c) (d.s.r m<|Di _) (anu hs (ht t fp) Z hl) (hu.BQ d.g0 d.C) Z (by simp;omega) h
  .cases h
def anv{s:St}{a:List Tx}{r:St×List (Nat×Int)×List (Int×Bool)}(b:∀t∈a,t.Ok)(c:iZ s)(k:a.length<=1000)(e:mQ m s a=Â r):T0 ⟨r.1,r.2.1,r.2.2,h⟩:=by unfold mQ at e;obtain⟨l,d,rfl⟩:=É.1 e;let⟨_,f,g,i,j⟩:=T3 a b c (λ_ q=>by cases q) (λ_ q=>by cases q) (by simp;omega) (by simp;omega) d;exact⟨f,g,i,j⟩
end Go.Proofs.Y.gu
namespace Go.Proofs
open Go.Shelf
def Tryz.lays283_ren:Ĕ:=⟨fun|283=>187|n=>n,fun|3=>3|9=>9|4=>4|n=>n,fun|n=>n⟩
def Tryz.lays283:ae À Tryz.lays283_ren:={
 mixed:=fx
 f283:=Ţ.trans<|congrArg Â fx
 t3:=Ă
 a3:=ł
 z3:=ĭ
 v3:=Đ
 t4:=ă
 a4:=Ń
 z4:=Į
 v4:=đ
 t9:=ó
 a9:=ń
 z9:=į
 v9:=Ē}
open Go.Lib in
def Tryz.internal_strconv_small(i:Nat)(h:i<100)(w:Ë):
 Ñ À 187 #[Ä Ê i] w λe a=>e=Æ (Í ⟨(Ĥ i).toArray⟩)/\a=w:=Any.internal_strconv_small Tryz.lays283 i h w
def Tryz.laysM284_ren:Ĕ:=⟨fun|284=>188|129=>198|317=>197|318=>199|n=>n,fun|53=>36|3=>3|212=>291|0=>0|4=>4|46=>168|5=>5|9=>9|n=>n,fun|17=>1|n=>n⟩
def Tryz.laysM284:Go.Proofs.LaysM.n284 À Tryz.laysM284_ren:={
 mixed:=fx
 f129:=Tryz.func198.trans<|congrArg Â fx
 f284:=Tryz.func188.trans<|congrArg Â fx
 f317:=Tryz.func197.trans<|congrArg Â fx
 f318:=Tryz.func199.trans<|congrArg Â fx
 t0:=ŭ
 a0:=χ
 z0:=ι
 v0:=Ŷ
 t3:=Ă
 a3:=ł
 z3:=ĭ
 v3:=Đ
 t4:=ă
 a4:=Ń
 z4:=Į
 v4:=đ
 t5:=Ů
 a5:=ψ
 z5:=κ
 v5:=ŷ
 t9:=ó
 a9:=ń
 z9:=į
 v9:=Ē
 t46:=ŗ
 a46:=Ι
 z46:=ž
 v46:=ť
 t53:=ğ
 a53:=Ŧ
 z53:=Ŏ
 v53:=Ħ
 t212:=Tryz.underlying291
 a212:=Tryz.isAgg291
 z212:=Tryz.sizeOf291
 v212:=Tryz.zeroValue291
 g17:=fx
 i0:=fx
 i3:=fx
 i4:=fx
 i5:=fx
 i9:=fx
 i46:=fx
 i53:=fx
 i212:=fx
 m17:=by kernel_rfl}
open Go.Lib in
def Tryz.internal_strconv_numDigits(u:Nat)(a:1<=u)(b:u<18446744073709551616)(w:Ë)(c:Ο À w "internal/strconv.uint64pow10" Ì ν):
 Ñ À 188 #[Ä Ì u] w λe d=>e=Æ (Ä Ê<|ï u)/\d=w:=Any.internal_strconv_numDigits Tryz.laysM284 u a b w c
def Tryz.lays285_ren:Ĕ:=⟨fun|285=>189|n=>n,fun|37=>107|53=>36|3=>3|4=>4|51=>95|9=>9|5=>5|0=>0|n=>n,fun|n=>n⟩
def Tryz.lays285:af À Tryz.lays285_ren:={
 mixed:=fx
 f285:=Tryz.func189.trans<|congrArg Â fx
 t0:=ŭ
 a0:=χ
 z0:=ι
 v0:=Ŷ
 t3:=Ă
 a3:=ł
 z3:=ĭ
 v3:=Đ
 t4:=ă
 a4:=Ń
 z4:=Į
 v4:=đ
 t5:=Ů
 a5:=ψ
 z5:=κ
 v5:=ŷ
 t9:=ó
 a9:=ń
 z9:=į
 v9:=Ē
 t37:=ã
 a37:=Tryz.isAgg107
 z37:=Tryz.sizeOf107
 v37:=Tryz.zeroValue107
 t51:=ŧ
 a51:=ξ
 z51:=Κ
 v51:=ů
 t53:=ğ
 a53:=Ŧ
 z53:=Ŏ
 v53:=Ħ}
open Go.RowKit Go.Sort Go.Lib in
def Tryz.internal_strconv_formatBase10(a c f:Nat)(u:Nat)(d:Array UInt8)(w:Ë)(h:Holds (λ(b:UInt8)=>Ä au (b.toNat:Int)) w a c d)(i:u<10^d.size)(j:u<18446744073709551616)(k:d.size<4611686018427387904):
 Ñ À 189 #[Å (Â ⟨a,c,Ã⟩) d.size f,Ä Ì u] w λe l=>
  e=Æ (č #[])/\∃(n m:Nat) (g:Array UInt8),l=(ſ (λ(b:UInt8)=>Ä au (b.toNat:Int)) w a c g).drewN n/\FmtInv d.size u 0 m g:=Any.internal_strconv_formatBase10 Tryz.lays285 a c f u d w h i j k
def Tryz.lays99_ren:Ĕ:=⟨fun|99=>175|206=>194|n=>n,fun|9=>9|4=>4|3=>3|n=>n,fun|n=>n⟩
def Tryz.lays99:ak À Tryz.lays99_ren:={
 mixed:=fx
 f99:=Tryz.func175.trans<|congrArg Â fx
 f206:=Tryz.func194.trans<|congrArg Â fx
 t3:=Ă
 a3:=ł
 z3:=ĭ
 v3:=Đ
 t4:=ă
 a4:=Ń
 z4:=Į
 v4:=đ
 t9:=ó
 a9:=ń
 z9:=į
 v9:=Ē}
open Go.RowKit Go.Lib in
def Tryz.strings_HasPrefix(s p:ByteArray)(w:Ë):
 Ñ À 175 #[Í s,Í p] w λe a=>e=Æ (Ú<|Lib.hasPrefix s.data.toList p.data.toList)/\a=w:=Any.strings_HasPrefix Tryz.lays99 s p w
def Tryz.lays212_ren:Ĕ:=⟨fun|212=>174|263=>192|264=>193|n=>n,fun|46=>168|51=>95|146=>285|53=>36|148=>287|n=>n,fun|n=>n⟩
def Tryz.lays212:ag À Tryz.lays212_ren:={
 mixed:=fx
 f212:=Tryz.func174.trans<|congrArg Â fx
 f263:=Tryz.func192.trans<|congrArg Â fx
 f264:=Tryz.func193.trans<|congrArg Â fx
 t46:=ŗ
 a46:=Ι
 z46:=ž
 v46:=ť
 t51:=ŧ
 a51:=ξ
 z51:=Κ
 v51:=ů
 t53:=ğ
 a53:=Ŧ
 z53:=Ŏ
 v53:=Ħ
 t146:=Tryz.underlying285
 a146:=Tryz.isAgg285
 z146:=Tryz.sizeOf285
 v146:=Tryz.zeroValue285
 t148:=Tryz.underlying287
 a148:=Tryz.isAgg287
 z148:=Tryz.sizeOf287
 v148:=Tryz.zeroValue287}
open Go.RowKit Go.Lib in
def Tryz.bits_Mul(x y:Nat)(a:x<18446744073709551616)(b:y<18446744073709551616)(w:Ë):
 Ñ À 174 #[Ä Ì x,Ä Ì y] w λe c=>e=Æ (č #[Ä Ì ((x*y/18446744073709551616:Nat):Int),Ä Ì ((x*y%18446744073709551616:Nat):Int)])/\c=w:=Any.bits_Mul Tryz.lays212 x y a b w
end Go.Proofs
namespace Go.Proofs.Y.gu
open Go Go.Proofs Go.RowKit Go.Sort Go.Proofs.Y.Lift
def A5:UInt8->È:=λb=>Ä au (b.toNat:Int)
def pK(w:Ë):Prop:=Ο À w "internal/strconv.uint64pow10" Ì ν
def anw(a:kl w)(b:Nat)(f:Array È->Array È):kl (ħ w b f):=by
 intro i o h;unfold ħ at h;simp only[Ð]at h;split at h
 .cases d:w.heap[i]? with
  |none=>rw[d]at h;cases h
  |some e=>
   have:=a _ _ d;rw[d]at h;cases e with
   |cells c t z=>simp only[Ý,Ö]at h;subst h;exact λx=>x
   |_=>exact absurd trivial this
 .exact a i o h
def anx(a:sS m w)(b:Nat)(f:Array È->Array È)(j:NF b w):sS m (ħ w b f):=by
 intro i c T k l h g;unfold ħ at h;simp only[Ð]at h;split at h
 .rename_i e;subst e;cases d:w.heap[b]? with
  |none=>rw[d]at h;cases h
  |some n=>
   rw[d]at h;cases n with
   |cells o t z=>
    simp only[Ý,Ö,onCells,Ċ]at h;have:=j _ _ _ d;rw[h.2.1,g]at this;cases this
   |_=>simp only[Ý,Ö,onCells]at h;cases h
 .exact a i c T k l h g
def fc.fO(w:World)(T:TypeId)(cs:Array Value)(off:Nat)(d:Array UInt8)(n:Nat)(hT:lA T=false:=by decide):fc fh w ((putRow A5 (w.alloc<|.cells cs T) w.heap.size off d).drewN n):= ⟨by simp[ſ,ħ,World.drewN],λk hk _=>by show(ħ (w.alloc<|Î cs T) w.heap.size _).heap[k]?=_;unfold ħ;simp only[Ð];rw[if_neg Z];exact ñ _ _ _ hk,λa=>anw (IP a cs T (0,0)) _ _,λ_ a=>anx (IQ a cs T (0,0)<|ß hT) _ _<|fq.S (fq.N w cs.toList T) hT⟩
def anz(w:Ë)(T:é)(a:Nat)(c:a<=24):Holds A5 (w.alloc<|Î Ĉ T) w.heap.size 0 (Ĳ a (0:UInt8)):=λj b=>by
 have d:j<a:=by simpa using b
 refine⟨?_,World.frozen?_alloc_new _ _ _ _⟩;rw[World.cell?_alloc_new,Lib.zeros24_at _ Z,getElem!_pos _ j b];simp[A5]
def iM(u:Nat):ByteArray:=⟨(Ĥ u).toArray⟩
def anB(u:Nat)(h:u<100)(w:Ë):Ñ À 172 #[Ä Ì u,Ä Ê 10] w λe a=>e=Æ (Í<|iM u)/\a=w:=by go_enter ο,Λ;go_wp2_with (go_at_call 187;refine(Tryz.internal_strconv_small u h _).mono ?_;rintro e a ⟨rfl,rfl⟩);go_ret;exact⟨U,U⟩
def anC(u:Nat)(h:¬u<100)(c:u<18446744073709551616)(w:Ë)(m:pK w):Ñ À 172 #[Ä Ì u,Ä Ê 10] w λe b=>e=Æ (Í<|iM u)/\fc fh w b:=by
 have g:1<=u:=Z
 have o:ï u<=20:=by have:=Lib.numDigits_eq u g c;split at this<;>omega
 have n:À.arrayLen 276=24:=fx
 have p:∀W,(Instr.sliceAt 276 (Ç<|Â ⟨w.heap.size,0,Ã⟩) Ã (Â<|Ä Ê (ï u:Int)) Ã).run À W=Ξ (Å (Â ⟨w.heap.size,0,Ã⟩) (ï u) 24) W:=λW=>by rw[run_sliceAt_array_h W 276 ⟨w.heap.size,0,Ã⟩ (by simp[Program.arrayLen,Program.elem,Tryz.type276]) Ê (ï u:Int) Z (by rw[n];omega)];go_simp
 have i:=anz w 276 (ï u) Z;have l:=Tryz.internal_strconv_formatBase10 w.heap.size 0 24 u (Ĳ (ï u) 0) (w.alloc<|Î Ĉ 276) i (by rw[ð];exact Lib.lt_pow_nDigits u) c (by rw[ð];omega);rw[ð]at l;go_enter ο,Λ;go_wp2_with (go_at_call 188;refine(Tryz.internal_strconv_numDigits u g c _<|Lib.tabIs_alloc m _).mono ?_;rintro e b ⟨rfl,rfl⟩);go_at_call 189;apply l.mono;rintro e b ⟨rfl,k,q,a,d,hF⟩;replace d:b=(ſ A5 (w.alloc<|Î Ĉ 276) w.heap.size 0 a).drewN k:=d;subst d;have r:(convert 107 9<|Å (Â ⟨w.heap.size,0,Ã⟩) (ï u) 24).run À ((ſ A5 (w.alloc<|Î Ĉ 276) w.heap.size 0 a).drewN k)=Ξ (Í<|iM u) ((ſ A5 (w.alloc<|Î Ĉ 276) w.heap.size 0 a).drewN k):=by have h:=run_convert_bytes_back (P:=À) ((ſ A5 (w.alloc<|Î Ĉ 276) w.heap.size 0 a).drewN k) 107 9 5 ⟨w.heap.size,0,Ã⟩ 24 (Ĥ u) fx fx fx (λj f=>by rw[Lib.row_is_numeral hF j f,Lib.add_plain,World.cell?_drewN];exact cell?_putRow A5 _ w.heap.size 0 _ a (Lib.hid i).out (by rw[hF.size,ð]) j<|by rw[hF.size];rwa[ĉ]at f);rwa[ĉ]at h
 go_wp2;go_ret;exact⟨U,fc.fO w 276 _ _ a k⟩
def anD(u:Nat)(d:u<18446744073709551616)(w:Ë)(f:pK w):Ñ À 172 #[Ä Ì u,Ä Ê 10] w λe c=>e=Æ (Í<|iM u)/\fc fh w c:=by
 by_cases h:u<100
 .exact(anB u h w).mono λe c ⟨a,b⟩=>⟨a,b▸fc.fV _ _⟩
 .exact anC u h d w f
def anE(u:Nat)(b:u<18446744073709551616)(w:Ë)(c:pK w):Ñ À 157 #[Ä Ì u,Ä Ê 10] w λe a=>e=Æ (Í<|iM u)/\fc fh w a:=by go_enter Tryz.func157,Tryz.ntmps157;go_wp2_with (go_at_call 172;refine(anD u b _ c).mono ?_;rintro e a ⟨rfl,d⟩);go_ret;exact⟨U,d⟩
def Jh(u:Nat)(b:u<18446744073709551616)(w:Ë)(c:pK w):Ñ À 118 #[Ä Ì u] w λe a=>e=Æ (Í<|iM u)/\fc fh w a:=by go_enter Tryz.func118,Tryz.ntmps118;go_wp2_with (go_at_call 157;refine(anE u b _ c).mono ?_;rintro e a ⟨rfl,d⟩);go_ret;exact⟨U,d⟩
end Go.Proofs.Y.gu
namespace Go.Proofs.Y.gu
open Go Go.Proofs Go.RowKit Go.Proofs.Y.Lift
def Ji(s:St)(x y:Nat)(k:Int):Nat->Nat->ByteArray
 |_,0=>⟨#[45]⟩
 |i,n+1=>if(gO s [] x y i k).C then iM i else Ji s x y k (i+1) n
theorem pK.r(h:pK w)(q:fc fh w u):pK u:=by
 unfold pK Ο World.var? at*;cases a:À.globalNamed "internal/strconv.uint64pow10" with
 |none=>rw[a]at h;cases h
 |some g=>
  rw[a]at h;simp only[Option.bind_some]at h|-;have b:g<w.heap.size:=by grind
  rwa[q.N g b id]
def T4:(À.info? 9).map (λi=>(i.zero,i.size,i.bytes))=Â (Â<|Í ⟨#[]⟩,1,16):=fx
def rV(a:List ByteArray):List È:=a.map Í
structure jY(w0:Ë)(tv:È)(xs:List ByteArray)(w:Ë):Prop where
 fg:w.ownsRow w0.heap.size 9 1 tv xs.length (rV xs)
 r:fc fh w0 w
section
variable{w0:Ë}{tv:È}{xs:List ByteArray}
def jY.N(w0:Ë){w:Ë}(k:fc fh w0 w):jY w0 (Å Ã 0 0) [] w:=⟨Ğ _ _ _ _,k⟩
def jY.fE(h:jY w0 tv xs w)(k:fc fh w u):jY w0 tv xs u:=⟨im h.fg k λ_ _=>id,h.r.fj k⟩
def jY.M(h:jY w0 tv xs w)(a:nX w w0.heap.size 9 1 tv xs.length (rV xs) 1 [Í B] v u):jY w0 v (xs++[B]) u:=by
 refine⟨?_,h.r.C a.r λi b q=> ?_⟩
 .have:=a.fg;rwa[show rV xs++[Í B]=rV (xs++[B]) by simp[rV],show xs.length+1=(xs++[B]).length by simp]at this
 .have:=(h.fg.lt i q).1;omega
end
theorem uB(u:Nat)(h:u<18446744073709551616):(iM u).size<=20:=by have:=Lib.nDigits_le20 u h;unfold iM;show(Ĥ u).toArray.size<=20;grind [ĉ]
def qW(p:Option Ě)(a:List È)(w:Ë):Prop:=∀(j:Nat) (x:È),a[j]?=Â x->∃b o,p=Â ⟨b,o,Ã⟩/\w.cell? ⟨b,o+j,Ã⟩=Â x
def qW.C(h:qW O l w)(q:fc fh w u):qW O l u:=λj x a=>by let⟨b,o,c,d⟩:=h j x a;exact⟨b,o,c,q.r d id⟩
def qW.r{base:Nat}(h:w.ownsRow base e i (Å O n j) n l):qW O l w:=λb x d=>by
 rcases h.2 with⟨f,k⟩|⟨g,m,o,f,_⟩
 .have:=h.1;rw[k,Nat.zero_mul]at this;rw[Ø this]at d;cases d
 .cases f;refine⟨g,0,U,?_⟩;have:=h.cells (g:=g) U b x d;rwa[Addr.add_mid]at this
def Jj{α:Type}(f g:α->È):∀(l:List α) (j:Nat) (x:α),l[j]?=Â x->(l.flatMap λp=>[f p,g p])[j*2]?=Â (f x)/\(l.flatMap λp=>[f p,g p])[j*2+1]?=Â (g x)
 |[],j,x,h=>by cases h
 |a::l,0,x,h=>by cases h;exact⟨U,U⟩
 |a::l,j+1,x,h=>by rw[show(j+1)*2=j*2+1+1 by omega];exact Jj f g l j x h
def lh(y:Nat):ByteArray:=Ġ ⟨#[97,98,99,100,101,102,103,104]⟩ y<|y+1
def mj(e:Nat×Int):ByteArray:=lh e.1++iM e.2.toNat
def anF{cp:Nat}{l:List (Nat×Int)}(V:n=l.length)(hn:n<=400000)(B:xt l)(C:pK w)(D:qW O (oI l) w): Ñ À 124 #[Å O n cp] w λe f=>∃g,e=Æ g/\jY w g (l.map mj) f:=by
 have H:=eZ<|Á B<|Á C D;clear B C D;subst V;go_enter Tryz.func124,Tryz.ntmps124;go_wp2_with fail;go_loopw [3,8] (λg i a=>∃j:Nat,j<=l.length/\jY w g ((l.take j).map mj) a/\i=Ä Ê j) λ_ i _=>l.length-(ê i).toNat
 case atStart=>exact⟨0,Þ _,jY.N w<|fc.fV _ _,U⟩
 case round=>
  obtain⟨j,hj,c,rfl⟩:=hrel;by_cases E:j=l.length
  .subst E;have h:=eZ c;clear c;go_wp2_with fail;go_ret;exact⟨_,U,by have:=h.out;rwa[û Z]at this⟩
  .obtain⟨x,k⟩:∃x,l[j]?=Â x:=⟨_,Ï Z⟩;let⟨g0,F⟩:=Jj _ _ l j x k;obtain⟨G,I,rfl,J⟩:=H.out.2.2 (j*2) _ g0;let⟨sb2,so2,W,L⟩:=H.out.2.2 (j*2+1) _ F;cases W;have m:=H.out.1 x<|ć k;have X:j<l.length:=Z
   have M:mj x=lh x.1++iM x.2.toNat:=U;have Y:(l.take<|j+1).map mj=(l.take j).map mj++[mj x]:=by rw[Ũ,k,Ÿ];rfl
   have At:((l.take j).map mj).length<=400000:=by simp;omega
   let⟨y,z⟩:=x;obtain⟨p,rfl⟩:∃p:Nat,z=p:=⟨z.toNat,by have:=m.2.1;omega⟩;have hy:y<8:=m.1;have N:p<18446744073709551616:=by have:=m.2.2;omega
   rw[show((p:Nat):Int).toNat=p from rfl]at M;have ve:a.cell? ⟨G,I+j*2,Ã⟩=Â (Ä Ê y):=c.r.r J id;have xw:a.cell? ⟨G,I+j*2+1,Ã⟩=Â (Ä Ì p):=c.r.r L id;generalize(l.take j).map mj=xs at*;clear J L g0 F k m E;have e0:(0:Int)<=(j:Int):=Z
   have e1:(j:Int)<(l.length:Int):=Z
   have y0:(0:Int)<=(y:Int):=Z
   have y1:(y:Int)<8:=Z
   have iO:=uB p N;have qH:Ê.wrap ((y:Int)+1)=(y:Int)+1:=by rw[Ą];omega
   have yI:(0:Int)<=(y:Int)+1:=Z
   have sM:(y:Int)+1<=8:=Z
   have qh:(y:Int)<=(y:Int)+1:=Z
   have xe:((y:Int)+1).toNat=y+1:=Z
   have hw4:¬9223372036854775807<min (y+1) 8-y+(iM p).size:=Z
   obtain⟨ta,tc,rfl⟩:=jv c.fg;have h:=eZ c;clear c;go_wp2_with fail;change Code.wp À _ _ _ (a.alloc<|Î #[Ä Ê y,Ä Ì p] 257);have P:=fc.iw fh a #[Ä Ê y,Ä Ì p] 257;have T1:=(h.out.fE P).fE<|fc.gG _ _;have P1:=((H.out.2.1.r h.out.r).r P).r<|fc.gG _ _;have t:=(fq.N a [Ä Ê y,Ä Ì p] 257).C (fc.gG fh _) id;let⟨i0,qj,oJ,AY,AZ⟩:=ì T4;have o:=eZ<|Á qj<|Á oJ<|Á AY AZ;refine o5 (λf=>f.cell? ⟨a.heap.size,0,Ã⟩=Â (Ä Ê y)/\f.cell? ⟨a.heap.size,1,Ã⟩=Â (Ä Ì p)) [] fx ?_;have HS:=eZ<|Á (t.r 0 _ rfl)<|t.r 1 _ rfl;generalize a.heap.size=ub at*;generalize Ī (a.alloc<|Î #[Ä Ê y,Ä Ì p] 257)=w1 at*;iterate 9 apply tk HS.out
   apply ia 9;intro K b;go_simp;go_at_call 118;refine(Jh p N _ P1).mono ?_;rintro e w2 ⟨rfl,Q⟩;have T2:=T1.fE Q;have d:=t.C Q id;apply b.out _ _ λ_=>⟨d.r 0 _ U,d.r 1 _ U⟩;apply ia 10;intro K b;go_simp;apply b.out _ _ λ_=>⟨d.r 0 _ U,d.r 1 _ U⟩;have S:=fc.iw fh w2 #[Í<|lh y++iM p] 9;have q:=T2.fE S;have r:=d.C S id;apply ia 11;intro K b;go_simp;apply b.out _ _ λ_=>⟨r.r 0 _ U,r.r 1 _ U⟩;apply ia 12;intro K b;refine IZ fL _ _ 25 fL ġ o.out.1 o.out.2.1 o.out.2.2.1 o.out.2.2.2 U fL q.fg ⟨_,0,Ã⟩ [Í<|lh y++iM p] fL Z U (ÿ _ _ _) (λu T=>by simp at T;subst T;rfl) (by unfold ā;omega) Z q.r.M ?_;intro tv1 w9 v;obtain⟨a2,cp2,rfl⟩:=jv v.fg;have s:=r.C v.r<|iL q.fg r A;apply b.out _ _ λ_=>⟨s.r 0 _ U,s.r 1 _ U⟩;apply ia 13;intro K b;go_simp;apply b.out _ _ λ_=>⟨s.r 0 _ U,s.r 1 _ U⟩;refine oZ fx ?_ _;go_wp2_with fail;go_roundw
   case rel=>exact⟨j+1,X,by rw[Y,M];exact q.M v,by go_num⟩
   case measure=>
    simp[ê];omega
def anG(b:Bool):AV b=((b.toNat:Nat):Int):=by cases b<;>rfl
def ml(e:Int×Bool):ByteArray:=iM e.2.toNat++⟨#[58]⟩++iM e.1.toNat
def anH{cp:Nat}{l:List (Int×Bool)}(hl:n=l.length)(hn:n<=1000)(E:A4 l)(F:pK w)(G:qW O (xv l) w): Ñ À 125 #[Å O n cp] w λe g=>∃h,e=Æ h/\jY w h (l.map ml) g:=by
 have H:=eZ<|Á E<|Á F G;clear E F G;subst hl;go_enter Tryz.func125,Tryz.ntmps125;go_wp2_with fail;go_loopw [3,8] (λh i c=>∃j:Nat,j<=l.length/\jY w h ((l.take j).map ml) c/\i=Ä Ê j) λ_ i _=>l.length-(ê i).toNat
 case atStart=>exact⟨0,Þ _,jY.N w<|fc.fV _ _,U⟩
 case round=>
  obtain⟨j,hj,d,rfl⟩:=hrel;by_cases I:j=l.length
  .subst I;have k:=eZ d;clear d;go_wp2_with fail;go_ret;exact⟨_,U,by have:=k.out;rwa[û Z]at this⟩
  .obtain⟨x,m⟩:∃x,l[j]?=Â x:=⟨_,Ï Z⟩;let⟨g0,J⟩:=Jj _ _ l j x m;obtain⟨L,M,rfl,N⟩:=H.out.2.2 (j*2) _ g0;let⟨sb2,so2,anI,P⟩:=H.out.2.2 (j*2+1) _ J;cases anI;have v:=H.out.1 x<|ć m;have gE:j<l.length:=Z
   have htk:(l.take<|j+1).map ml=(l.take j).map ml++[ml x]:=by rw[Ũ,m,Ÿ];rfl
   have At:((l.take j).map ml).length<=1000:=by simp;omega
   let⟨z,b⟩:=x;obtain⟨p,rfl⟩:∃p:Nat,z=p:=⟨z.toNat,by have:=v.1;omega⟩;have Q:p<18446744073709551616:=by have:=v.2;omega
   have ve:c.cell? ⟨L,M+j*2,Ã⟩=Â (Ä Ì p):=d.r.r N id;have xw:c.cell? ⟨L,M+j*2+1,Ã⟩=Â (Ú b):=d.r.r P id;generalize(l.take j).map ml=xs at*;clear N P g0 J m v I;have iO:=uB p Q;have S:b.toNat<18446744073709551616:=by cases b<;>decide
   have hsb:=uB b.toNat S;have hw4:¬9223372036854775807<(iM b.toNat).size+1:=Z
   have A6:¬9223372036854775807<(iM b.toNat).size+1+(iM p).size:=Z
   obtain⟨ta,tc,rfl⟩:=jv d.fg;have k:=eZ d;clear d;go_wp2_with fail;change Code.wp À _ _ _ (c.alloc<|Î #[Ä Ì p,Ú b] 246);have T:=fc.iw fh c #[Ä Ì p,Ú b] 246;have T1:=(k.out.fE T).fE<|fc.gG _ _;have V:=((H.out.2.1.r k.out.r).r T).r<|fc.gG _ _;have y:=(fq.N c [Ä Ì p,Ú b] 246).C (fc.gG fh _) id;let⟨i0,qj,oJ,AY,AZ⟩:=ì T4;have o:=eZ<|Á qj<|Á oJ<|Á AY AZ;refine o5 (λg=>g.cell? ⟨c.heap.size,0,Ã⟩=Â (Ä Ì p)/\g.cell? ⟨c.heap.size,1,Ã⟩=Â (Ú b)) [] fx ?_;have q:=eZ<|Á (y.r 0 _ rfl)<|y.r 1 _ rfl;generalize c.heap.size=ub at*;generalize Ī (c.alloc<|Î #[Ä Ì p,Ú b] 246)=w1 at*;iterate 3 apply tk q.out
   apply tk q.out 6;apply tk q.out 7;apply ia 3;intro K a;go_simp;go_at_call 159;refine(al2 _ _).mono ?_;rintro e W ⟨rfl,qh⟩;subst W;dsimp only;rw[anG];apply a.out _ _ λ_=>q.out;apply ia 4;intro K a;go_simp;go_at_call 118;refine(Jh b.toNat S _ V).mono ?_;rintro e W ⟨rfl,B⟩;have T2:=T1.fE B;have C:=y.C B id;have P2:=V.r B;have X:=eZ<|Á (C.r 0 _ rfl)<|C.r 1 _ rfl;apply a.out _ _ λ_=>X.out;apply tk X.out 5;apply ia 8;intro K a;go_simp;go_at_call 118;refine(Jh p Q _ P2).mono ?_;rintro e w3 ⟨rfl,Y⟩;have f:=C.C Y id;apply a.out _ _ λ_=>⟨f.r 0 _ U,f.r 1 _ U⟩;apply ia 9;intro K a;go_simp;apply a.out _ _ λ_=>⟨f.r 0 _ U,f.r 1 _ U⟩;have kB:=fc.iw fh w3 #[Í<|iM b.toNat++⟨#[58]⟩++iM p] 9;have r:=(T2.fE Y).fE kB;have s:=f.C kB id;apply ia 10;intro K a;go_simp;apply a.out _ _ λ_=>⟨s.r 0 _ U,s.r 1 _ U⟩;apply ia 11;intro K a;refine IZ fL _ _ 25 fL ġ o.out.1 o.out.2.1 o.out.2.2.1 o.out.2.2.2 U fL r.fg ⟨_,0,Ã⟩ [Í<|iM b.toNat++⟨#[58]⟩++iM p] fL Z U (ÿ _ _ _) (λu hu=>by simp at hu;subst hu;rfl) (by unfold ā;omega) Z r.r.M ?_;intro tv1 w9 D;obtain⟨a2,cp2,rfl⟩:=jv D.fg;have t:=s.C D.r<|iL r.fg s A;apply a.out _ _ λ_=>⟨t.r 0 _ U,t.r 1 _ U⟩;apply ia 12;intro K a;go_simp;apply a.out _ _ λ_=>⟨t.r 0 _ U,t.r 1 _ U⟩;refine oZ fx ?_ _;go_wp2_with fail;go_roundw
   case rel=>exact⟨j+1,gE,by rw[htk];exact r.M D,by go_num⟩
   case measure=>
    simp[ê];omega
def uC(j:Nat):ByteArray:=Ġ ⟨#[48,49,50,51,52,53,54,55,56,57,97,98,99,100,101,102]⟩ j<|j+1
def Dp(s t:St)(i j:Nat):List ByteArray:=if(s i).r j=(t i).r j then[]else[lh i++uC j]
def n8(s t:St)(i j:Nat):List ByteArray:=(ë j).flatMap<|Dp s t i
def mR(b a:Int)(p c:ByteArray)(i:Nat):List ByteArray:=(if b=a then[]else[lh i++⟨#[36]⟩])++(if p.toList=c.toList then[]else[lh i++⟨#[123]⟩])
def xx(s t:St)(i:Nat):List ByteArray:=mR (s i).ft (t i).ft (s i).C (t i).C i++n8 s t i 16
def lj(s t:St)(n:Nat):List ByteArray:=(ë n).flatMap<|xx s t
def anJ(s t:St)(i j:Nat):(Dp s t i j).length<=1:=by unfold Dp;split<;>simp
def Nh(s t:St)(i j:Nat):n8 s t i (j+1)=n8 s t i j++Dp s t i j:=by unfold n8;rw[ĳ,ŉ];simp
theorem Ni(s t:St)(i:Nat):∀j,(n8 s t i j).length<=j
 |0=>by simp[n8]
 |j+1=>by rw[Nh,Ó];have:=Ni s t i j;have:=anJ s t i j;omega
theorem Nj(b a:Int)(p c:ByteArray)(i:Nat):(mR b a p c i).length<=2:=by unfold mR;rw[Ó];split<;>split<;>simp
def aaK(s t:St)(n:Nat):lj s t (n+1)=lj s t n++xx s t n:=by unfold lj;rw[ĳ,ŉ];simp
def T5(s t:St):∀n,(lj s t n).length<=18*n
 |0=>by simp[lj]
 |n+1=>by rw[aaK,Ó];have:=T5 s t n;unfold xx;rw[Ó];have:=Ni s t n 16;have:=Nj (s n).ft (t n).ft (s n).C (t n).C n;omega
def FF(i:Nat):(lh i).size<=1:=by unfold lh;rw[İ];omega
def anK(i:Nat):(uC i).size<=1:=by unfold uC;rw[İ];omega
def rT.gU{s:St}(c:rT n s h W)(a:i<8):W.cell? ⟨n,i*18,Ã⟩=Â (Ä Ì (s i).ft)/\W.cell? ⟨n,i*18+1,Ã⟩=Â (Í (s i).C)/\∀j,j<16->W.cell? ⟨n,i*18+2+j,Ã⟩=Â (Ä Ì<|(s i).r j):=by
 have g:∀j,j<144->W.cell? ⟨n,j,Ã⟩=Â (rN s j):=λj b=>by have:=c.C j _<|TV s b;simpa using this
 refine⟨?_,?_,λj b=> ?_⟩
 .rw[g _ Z,<-uz s (Å Ã 0 0) Z,IW _ _ a];rfl
 .rw[g _ Z,<-uz s (Å Ã 0 0) Z,M0 _ _ a]
 .rw[g _ Z,<-uz s (Å Ã 0 0) Z,S' _ _ a b];rfl
def T6{g:Array Ķ}{k:List Ķ}{a:ar}{y:ByteArray}{ad:Ě}{x:ķ}(b:jY W v vX w)(E:vX.length<=400000) (h:∀d m e f,jY W (Å d m e) (vX++[y]) f->Ž À g vJ k (a.put o.dst<|Å d m e) f) (n:∀j u,[Í y][j]?=Â u->w.cell? (ad.add j)=Â u) (p:o.guard=Ã) (q:o.op=.call {callee:=.builtin .append,args:=#[qQ,x],argTypes:=#[25,25]}) (r:a.eval qQ=v) (t:a.eval x=Å (Â ad) 1 i):Ž À g vJ (o::k) a w:=by let⟨F,z,B,C,D⟩:=ì T4;refine xp p qQ x 25 q ġ z B C D U r b.fg ad [Í y] t Nat.one_pos U n (λu l=>by simp at l;subst l;rfl) (by unfold ā;omega) Z b.r.M λG f l=> ?_;obtain⟨d,e,rfl⟩:=jv l.fg;exact h _ _ _ _<|b.M l
section
variable{s t:St}
def jY.I{w:Ë}{a:List ByteArray}(h:jY u v vX w)(e:vX=a)(k:fc fh w W):jY u v a W:=e▸h.fE k
def anL(I:rT n s h w)(J:rT j t c w): Ñ À 126 #[Ç<|Â ⟨n,0,Ã⟩,Ç<|Â ⟨j,0,Ã⟩] w λe w'=>∃g,e=Æ g/\jY w g (lj s t 8) w':=by
 have K:=eZ<|Á I J;clear I J;go_enter Tryz.func126,Tryz.ntmps126;go_wp2_with fail;go_loopw [5,11] (λg i L=>∃a:Nat,a<=8/\jY w g (lj s t a) L/\i=Ä Ê a) λ_ i _=>8-(ê i).toNat
 case atStart=>exact⟨0,Þ _,jY.N w<|fc.fV _ _,U⟩
 case round=>
  obtain⟨a,hj,b,rfl⟩:=hrel;obtain⟨M,rfl⟩:∃M,M=L:=⟨_,U⟩;by_cases C:a<8
  .let⟨N,D,O⟩:=K.out.1.gU C;let⟨P,E,Q⟩:=K.out.2.gU C;have hl:=T5 s t a;have c1:=b.r.r N id;have c2:=b.r.r P id;have c3:=b.r.r D id;have c4:=b.r.r E id;have e0:(0:Int)<=(a:Int):=Z
   have r:(a:Int)<8:=Z
   have qH:Ê.wrap ((a:Int)+1)=(a:Int)+1:=by rw[Ą];omega
   have yI:(0:Int)<=(a:Int)+1:=Z
   have sM:(a:Int)+1<=8:=Z
   have qh:(a:Int)<=(a:Int)+1:=Z
   have xe:((a:Int)+1).toNat=a+1:=Z
   have hw4:¬9223372036854775807<(lh a).size+1:=by have:=FF a;omega
   have auH:Ġ ⟨#[97,98,99,100,101,102,103,104]⟩ a (a+1)=lh a:=U;generalize S:(s a).ft=x1 at*;generalize T:(t a).ft=x2 at*;generalize V:(s a).C=y1 at*;generalize W:(t a).C=y2 at*;have u:=eZ (Á (show lj s t (a+1)=lj s t a++mR x1 x2 y1 y2 a++n8 s t a 16 by rw[aaK,xx,S,T,V,W,þ])<|Á (Á D E)<|Á O Q);obtain⟨l,o,rfl⟩:=jv b.fg;have d:=eZ b;clear S T V W b N P D E O Q;generalize At:lj s t a=xs at*;clear At;go_wp2_with fail;go_region;go_wp2_with fail;go_region;go_upto_if 34 with fail;go_cut [5] λv F=>jY w v (xs++mR x1 x2 y1 y1 a) F
   case first=>
    by_cases r:x1=x2
    .have d1:(x1==x2)=Ô:=beq_iff_eq.2 r;go_wp2_with fail;go_meet
     case rel=>exact d.out.I (by simp[mR,r]) kp
    .have d1:(x1==x2)=Û:=beq_eq_false_iff_ne.2 r;go_wp2_with (at_builtin;refine T6 (y:=lh a++⟨#[36]⟩) (d.out.fE kp) Z ?_ (ÿ _ _ _) U U U U;intro l m o X b;have d:=eZ b;clear b);go_meet
     case rel=>exact d.out.I (by simp[mR,r]) kp
   case rest=>
   obtain⟨l,o,rfl⟩:=jv hcut.fg;have Y:=hcut.r.r u.out.2.1.1 id;have d4:=hcut.r.r u.out.2.1.2 id;have d:=eZ hcut;clear hcut;go_wp2_with fail;go_region;go_upto_if 48 with fail;go_cut [5] λv F=>jY w v (xs++mR x1 x2 y1 y2 a) F
   case first=>
    by_cases p:y1.toList=y2.toList
    .have G:(y1.toList==y2.toList)=Ô:=beq_iff_eq.2 p;have H:=eZ p;clear p;simp only[G,Μ,Α];go_wp2_with fail;go_meet
     case rel=>exact d.out.I (by simp[mR,H.out]) kp
    .have G:(y1.toList==y2.toList)=Û:=beq_eq_false_iff_ne.2 p;have H:=eZ p;clear p;simp only[G,Μ,Α];go_wp2_with (at_builtin;refine T6 (y:=lh a++⟨#[123]⟩) (d.out.fE kp) (by have:=Nj x1 x2 y1 y1 a;simp;omega) ?_ (ÿ _ _ _) U U U U;intro l m o X b;have d:=eZ b;clear b);go_meet
     case rel=>exact d.out.I (by simp[mR,H.out]) kp
   case rest=>
   obtain⟨l,o,rfl⟩:=jv hcut.fg;have d:=eZ hcut;clear hcut;go_wp2_with fail;go_loopw [5,54] (λg i wq=>∃k:Nat,k<=16/\jY w g (xs++mR x1 x2 y1 y2 a++n8 s t a k) wq/\i=Ä Ê k) λ_ i _=>16-(ê i).toNat
   case atStart=>exact⟨0,Þ _,d.out.I (by simp[n8]) kp,U⟩
   case round=>
    obtain⟨k,hk,b,rfl⟩:=hrel;by_cases z:k<16
    .have s1:=b.r.r (u.out.2.2.1 k z) id;have s2:=b.r.r (u.out.2.2.2 k z) id;have f:=Nh s t a k;have q1:=Ni s t a k;have q2:=Nj x1 x2 y1 y2 a;have FG:(xs++mR x1 x2 y1 y2 a++n8 s t a k).length<=400000:=by simp;omega
     unfold Dp at f;generalize(s a).r k=z1 at*;generalize(t a).r k=z2 at*;have r0:(0:Int)<=k:=Z
     have r6:(k:Int)<16:=Z
     have r1:Ê.wrap ((k:Int)+1)=(k:Int)+1:=IntWalk.i64_in _ ⟨Z,Z⟩;have r2:(k:Int)<=(k:Int)+1:=Z
     have r3:(k:Int)+1<=16:=Z
     have r4:(0:Int)<=(k:Int)+1:=Z
     have r5:((k:Int)+1).toNat=k+1:=Z
     have a3:¬9223372036854775807<(lh a).size+(min (k+1) 16-k):=by have:=FF a;omega
     obtain⟨l,o,rfl⟩:=jv b.fg;generalize B:xs++mR x1 x2 y1 y2 a++n8 s t a k=ys at*;have d:=eZ b;by_cases q:z1=z2
     .rw[if_pos q,ď]at f;have Y:(z1==z2)=Ô:=beq_iff_eq.2 q;have x:=eZ<|Á f B;clear f q b B;go_wp2_with fail;go_region;go_wp2_with fail;go_roundw
      case rel=>exact⟨k+1,z,by rw[x.out.1,x.out.2];exact d.out.fE kp,by go_num⟩
      case measure=>simp[ê];omega
     .rw[if_neg q]at f;have Y:(z1==z2)=Û:=beq_eq_false_iff_ne.2 q;have x:=eZ<|Á f B;clear f q b B;go_wp2_with fail;go_region;go_wp2_with (at_builtin;refine T6 (y:=lh a++uC k) (d.out.fE kp) FG ?_ (ÿ _ _ _) U U U U;intro l m o X b;have d:=eZ b;clear b);go_roundw
      case rel=>exact⟨k+1,z,by rw[x.out.1,<-þ,x.out.2];exact d.out.fE kp,by go_num⟩
      case measure=>simp[ê];omega
    .obtain rfl:k=16:=Z
     have d:=eZ b;clear b;go_wp2_with fail;go_roundw
     case rel=>exact⟨a+1,C,by rw[u.out.1];exact d.out.fE kp,by go_num⟩
     case measure=>simp[ê];omega
  .obtain rfl:a=8:=Z
   have d:=eZ b;clear b;go_wp2_with fail;go_ret;exact⟨_,U,d.out⟩
end
def anM:(À.info? 5).map (λi=>(i.zero,i.size,i.bytes))=Â (Â<|Ä au 0,1,1):=fx
theorem fc.Y(f:X p.block)(n:Nat):fc X w (w.freeze p n):=by
 by_cases b:n=0
 .rw[ò,if_pos b];exact fc.fV _ _
 rw[ò,if_neg b];refine⟨fp,λk _ g=> ?_,λa i o h=> ?_,λ_ a=>by have:=aaf a p n;rwa[ò,if_neg b]at this⟩
 .grind
 .simp only[Ð]at h;split at h
  .cases d:w.heap[i]? with
   |none=>rw[d]at h;cases h
   |some e=>
    have:=a _ _ d;rw[d]at h;cases e with
    |cells c t z=>simp only[Ý,Ö]at h;subst h;exact λx=>x
    |_=>exact absurd trivial this
  .exact a i o h
def aaL:(À.info? 109).map (·.size)=Â 2:=fx
def anN:liesAt À À.depth 109 (2/À.cellsOf 109) 0 109 1=Ô:=fx
def anO(b:Nat)(w:Ë)(d:w.cell? ⟨b,0,Ã⟩=Â (Ç<|Â ⟨b,0,Ã⟩)):Ñ À 78 #[Ç<|Â ⟨b,0,Ã⟩] w λe a=>e=Æ (č #[])/\a=w:=by let⟨j,c,_⟩:=É.1 aaL;go_enter ω,π;go_wp2;rw[Lib.run_neq_ptr_same w _ ę c];go_wp2;go_end0;exact⟨U,U⟩
def anP(b:Nat)(w:Ë)(g:w.cell? ⟨b,0,Ã⟩=Â (Ç Ã))(a:w.shape? b=Â (109,2))(h:w.frozen? ⟨b,0,Ã⟩=Û):Ñ À 78 #[Ç<|Â ⟨b,0,Ã⟩] w λe d=>e=Æ (č #[])/\d=w.setCell ⟨b,0,Ã⟩ (Ç<|Â ⟨b,0,Ã⟩):=by let⟨j,c,f⟩:=É.1 aaL;go_enter ω,π;go_wp2;rw[Lib.run_to_unsafe w ⟨b,0,Ã⟩ ę Ř c (by rw[f];decide) a<|Nat.zero_lt_succ 1];simp only[Ė];rw[Ď];go_wp2;rw[Ŋ Tryz.func129 fx fx fx fx];rw[Lib.run_noEscape];simp only[Ė];rw[Ď];go_wp2;rw[Lib.run_from_unsafe w ⟨b,0,Ã⟩ Ř ę c a anN];simp only[Ė];rw[Ď];go_wp2;go_end0;exact⟨U,U⟩
theorem aaM{base:Nat}{u h:é}(j:P.underlying t=Â (aD e))(k:P.underlying u=Â .string)(p:P.info? e=Â zJ)(G:zJ.zero=Â (Ä au 0)) (D:zJ.size=1) (H:zJ.bytes=1) (E:w.ownsRow base e 1 v n l) (s:ByteArray) (J:n+s.size<=ā) (Q:n+s.size<=140737488355328) (r:(ı #[t,u] h #[v,Í s]).run P w=Ξ z W) (I:lA e=Û):(kl w->kl W)/\(∀m,sS m w->sS m W):=by
 have S:n+s.size<=9223372036854775807:=by simp only[ā]at J;omega
 have K:l.length=n:=by simpa using E.1
 rcases E.2 with⟨rfl,rfl⟩|⟨g,y,B,rfl,V,F,X,Y,L,htake⟩
 .by_cases C:s.size=0
  .have a:=Lib.run_firstCells_string (P:=P) w 1 s;rw[C]at a;simp[ı,Ŀ j,Ŀ k,sizeOf,typeInfo,p,D,aJ,C,a]at r;grind
  .have b:=run_append_nil_string w t u h e zJ (Ä au 0) j k p G s Z Z (by rw[H];omega);rw[r]at b;cases b;exact⟨λa=>IP a _ _ _,λ_ a=>IQ a _ _ _<|ß I⟩
 .by_cases M:n+s.size<=y
  .have auI:B.size=y:=by simpa using L
   have b:=Lib.run_append_room_string w t u h e zJ j k p D g n y B F s M Z;rw[r]at b;cases b;refine⟨λa q o d=> ?_,λm a q c T N C d O=> ?_⟩
   .by_cases f:q=g
    .subst f;rw[ą w q B _ e _ F]at d;cases d;exact λx=>x
    .rw[ú w g q _ f]at d;exact a q o d
   .by_cases f:q=g
    .subst f;rw[ą w q B _ e _ F]at d;grind
    .rw[ú w g q _ f]at d;exact a q c T N C d O
  .have c:=E.cells U;have b:=Lib.run_append_grow_string w t u h e zJ (Ä au 0) j k p G ⟨g,0,Ã⟩ n y l (by rw[D];simpa using K) c s Z Z (by rw[H];exact ļ Z Z);rw[r]at b;cases b;exact⟨λa=>IP a _ _ _,λ_ a=>IQ a _ _ _<|ß I⟩
def anQ{P:Program}{ops:Array Oper}{rest:List Oper}{o:Oper}{a:Act}{Q:Exit->Act->World->Prop}{w:World}(IU:o.guard=none)(sl x:Operand)(t u:TypeId) (ho:o.op=.call {callee:=.builtin .append,args:=#[sl,x],argTypes:=#[t,u]}) {base:Nat} {e:TypeId} {i:TypeInfo} (ht:P.underlying t=some (.slice e)) (hu:P.underlying u=some .string) (hi:P.info? e=some i) (hz:i.zero=some (.int .u8 0)) (zf:i.size=1) (oY:i.bytes=1) {v:Value} {n:Nat} {xs:List Value} (hs:a.eval sl=v) (lT:w.ownsRow base e 1 v n xs) (s:ByteArray) (hx:a.eval x=.string s) (Dg:n+s.size<=maxLen) (Dh:n+s.size<=140737488355328) (Df:base<=w.heap.size) (h:∀v' w',w'.ownsRow base e 1 v' (n+s.size) (xs++Lib.strCells s)->fc (λk=>v.ownBlock=some k) w w'->wpList P ops Q rest (a.put o.dst v') w') (hT:lA e=false:=by decide):wpList P ops Q (o::rest) a w:=by refine ś IU λK hK=> ?_;let⟨v',w',hr,h2,h3,_⟩:=Lib.run_append_own_string w base t u o.type e i ht hu hi hz zf oY v n xs lT s Dg Dh Df;have kp:fc (λk=>v.ownBlock=Â k) w w':=⟨h3.size,λk hk q=>h3.block k hk λe=>q e.symm,(aaM ht hu hi hz zf oY lT s Dg Dh hr hT).1,(aaM ht hu hi hz zf oY lT s Dg Dh hr hT).2⟩;unfold Ŝ ċ;simp only[ho,Ρ,ai,Τ,ŝ,Ş,ě,ĥ,ŋ,ş,hs,hx,hr];exact hK _ _<|h v' w' h2 kp
structure uD(w0:Ë)(b:Nat)(bs:List È)(w:Ë):Prop where
 I:w0.heap.size<=b
 r:fc fh w0 w
 C:∃v,fq b [Ç<|Â ⟨b,0,Ã⟩,v] 109 w/\w.ownsRow w0.heap.size 5 1 v bs.length bs
def uD.fE(h:uD u b l w)(k:fc fh w W):uD u b l W:=by let⟨v,a,c⟩:=h.C;exact⟨h.I,h.r.fj k,v,a.C k id,im c k λ_ _=>id⟩
theorem T7(h:uD u b l w)(s:ByteArray)(m:l.length+s.size<=140737488355328): Ñ À 55 #[Ç<|Â ⟨b,0,Ã⟩,Í s] w λe i=>e=Æ (č #[Ä Ê s.size,.nilIface])/\uD u b (l++Lib.strCells s) i:=by
 let⟨B,c,n,o,p⟩:=ì anM;let⟨v,a,d⟩:=h.C;obtain⟨C,D,rfl⟩:=jv d;have t:=a.r 0 _ U;have E:=a.r 1 _ U;have x:=h.r.M;have y:=iL d a A;have H:=eZ<|Á h<|Á c<|Á n<|Á o<|Á p<|Á a d;go_enter Tryz.func55,Tryz.ntmps55;go_wp2_with (first
  |(go_at_call 78;refine(anO b _ t).mono ?_;rintro e i ⟨rfl,j⟩;subst i)
  |(at_builtin;refine anQ U _ _ 107 9 U ã ó H.out.2.1 H.out.2.2.1 H.out.2.2.2.1 H.out.2.2.2.2.1 U H.out.2.2.2.2.2.2 s U (by unfold ā;omega) m x ?_;intro g f j k;obtain⟨q,r,rfl⟩:=jv j;have i:=H.out.2.2.2.2.2.1.C k y;have z:=i.r 0 _ U;have F:=i.r 1 _ U;have G:=i.I 1;have e:=eZ (Á k (Á i j));clear k i j))
 go_ret2;have z:=e.out.2.1.fO 1<|Å q (l.length+s.size) r;have g:fc (λk=>k=b) f (f.setCell ⟨b,1,Ã⟩<|Å q (l.length+s.size) r):=fc.I (X:=λk=>k=b) U _<|ä e.out.2.1.S;refine⟨U,H.out.1.I,(H.out.1.r.C e.out.1 λi c q=> ?_).C g λi c q=> ?_,_,z,?_⟩
 .have:=(H.out.2.2.2.2.2.2.lt i q).1;omega
 .have:=H.out.1.I;omega
 .have:=im e.out.2.2 g λj q r=>iL e.out.2.2 e.out.2.1 A (by rw[q,r]);grind [Ó,Lib.strCells_length]
def anR:(À.info? 5).map (·.size)=Â 1:=fx
def anS:À.cellsOf 5=1:=fx
structure Jk(w0:Ë)(b:Nat)(p:È)(w:Ë):Prop where
 C:w0.heap.size<=b
 I:fc fh w0 w
 r:fq b [p,Å Ã 0 0] 109 w
section
variable{w0:Ë}{p:È}
def Jk.ED(h:Jk w0 b (Ç<|Â ⟨b,0,Ã⟩) w)(f:d.size<=ā):uD w0 b [] ((w.alloc<|Î d 5).setCell ⟨b,1,Ã⟩<|Å (Â ⟨w.heap.size,0,Ã⟩) 0 d.size).drew.drew.drew:=by have a:=fc.iw fh w d 5;have c:fc (λk=>k=b) (w.alloc<|Î d 5) ((w.alloc<|Î d 5).setCell ⟨b,1,Ã⟩<|Å (Â ⟨w.heap.size,0,Ã⟩) 0 d.size):=fc.I (X:=λk=>k=b) U _<|ä (h.r.C a id).S;have k:=(h.r.C a id).fO 1<|Å (Â ⟨w.heap.size,0,Ã⟩) 0 d.size;have m:=h.r.M;have g:(w.alloc<|Î d 5).ownsRow w0.heap.size 5 1 (Å (Â ⟨w.heap.size,0,Ã⟩) 0 d.size) 0 []:= ⟨U,ä ⟨w.heap.size,d.size,d,U,h.I.M,Ü w _,Þ _,f,fp,fp⟩⟩;have l:uD w0 b [] ((w.alloc<|Î d 5).setCell ⟨b,1,Ã⟩<|Å (Â ⟨w.heap.size,0,Ã⟩) 0 d.size):= ⟨h.C,(h.I.fj a).C c λi n q=>by have:=h.C;omega,_,k,im g c λj q r=>by cases q;have e:w.heap.size=b:=r;omega⟩;exact((l.fE<|fc.gG _ _).fE<|fc.gG _ _).fE<|fc.gG _ _
theorem anT(h:Jk w0 b (Ç<|Â ⟨b,0,Ã⟩) w)(n:Nat)(j:n<=281474976710656): Ñ À 79 #[Ç<|Â ⟨b,0,Ã⟩,Ä Ê n] w λe c=>e=Æ (č #[])/\uD w0 b [] c:=by
 let⟨a,g,o,k⟩:=Lib.run_makeNoZero w.drew #[3] 107 5 ã n j;have i:Ê.wrap (Ê.wrap 0+(n:Int))=n:=by grind [Ą]
 have p:(callFunc 130 #[Ä Ê<|Ê.wrap<|Ê.wrap 0+(n:Int)]).run À w.drew=Ξ (.value<|Å (Â ⟨w.drew.heap.size,0,Ã⟩) n a.size) (w.drew.drew.drew.alloc<|Î a 5):=by rw[i,Ŋ Tryz.func130 fx fx fx fx,g];rfl
 have e:=eZ (Á (show w.drew.cell? ⟨b,1,Ã⟩=Â (Å Ã 0 0)from h.r.r 1 _ rfl) trivial);have d:=h.r.C (fc.iw fh w a 5) id;have l:=d.r 1 _ U;have f:=l;have q:=d.I 1;have r:∀W:Ë,(Δ #[107,107] 3 #[Å (Â ⟨w.heap.size,0,Ã⟩) 0 a.size,Å Ã 0 0]).run À W=Ξ (goInt 0) W:= λW=>run_copy_none W 107 107 3 5 _ _ 0 a.size 0 0 ã anR U;have m:=eZ (h.ED<|k<|by unfold ā;omega);clear i h d g;go_enter Tryz.func79,Tryz.ntmps79;go_wp2;refine o5 (λc=>c.cell? ⟨b,1,Ã⟩=Â (Å Ã 0 0)/\True) [] fx ?_;iterate 8 apply tk e.out
 apply tk e.out 9;apply tk e.out 10;apply tk e.out 11;apply tk e.out 12;apply tk e.out 13;refine ia 8 ?_;intro K c;go_simp;refine c.out _ _ (λ_=>⟨f,trivial⟩) ?_;refine ia 14 ?_;intro K c;go_simp;refine c.out _ _ (λ_=>⟨f,trivial⟩) ?_;refine ia 15 ?_;intro K c;go_simp;refine c.out _ _ (λ_=>⟨f,trivial⟩) ?_;refine oZ fx ?_ _;go_wp2;go_end0;exact⟨U,m.out⟩
def anU(h:Jk w0 b (Ç Ã) w)(n:Nat)(l:0<n)(d:n<=281474976710656): Ñ À 54 #[Ç<|Â ⟨b,0,Ã⟩,Ä Ê n] w λe a=>e=Æ (č #[])/\uD w0 b [] a:=by
 have f:w.shape? b=Â (109,2):=by have i:w.heap[b]?=_:=h.r;simp[Š,i]
 have c:=eZ (show Jk w0 b (Ç<|Â ⟨b,0,Ã⟩) (w.setCell ⟨b,0,Ã⟩<|Ç<|Â ⟨b,0,Ã⟩).drew from⟨h.C,(h.I.C (fc.I (X:=λk=>k=b) U _<|ä h.r.S) λi k q=>by have:=h.C;omega).fj<|fc.gG _ _,(h.r.fO 0 _).C (fc.gG fh _) id⟩);have k:=eZ<|Á (c.out.r.r 1 _ rfl) trivial;have q:=h.r.r 0 _ U;have g:=h.r.I 0;have m:¬((n:Int)<0):=Z
 have o:(0:Int)<(n:Int):=Z
 have p:Ê.wrap 0<(n:Int):=by rw[Ą];omega
 go_enter Tryz.func54,Tryz.ntmps54;go_wp2_with (go_at_call 78;refine(anP b w q f g).mono ?_;rintro e a ⟨rfl,i⟩;subst a);refine o5 (λa=>a.cell? ⟨b,1,Ã⟩=Â (Å Ã 0 0)/\True) [] fx ?_;iterate 13 apply tk k.out
 refine oZ fx ?_ _;go_wp2_with (go_at_call 79;refine(anT c.out n d).mono ?_;rintro e a ⟨rfl,i⟩;have j:=eZ i;clear i);go_end0;exact⟨U,j.out⟩
def anV{l:List UInt8}(h:uD w0 b (à l) w)(d:l≠[]): Ñ À 56 #[Ç<|Â ⟨b,0,Ã⟩] w λe K=>e=Æ (Í ⟨l.toArray⟩)/\fc fh w0 K:=by
 let⟨v,f,c⟩:=h.C;have n:l.length≠0:=by simpa using d
 rw[Ľ]at c;obtain⟨g,e,a,rfl,t,o,u,s,y,z⟩:∃g e a,v=Å (Â ⟨g,0,Ã⟩) l.length e/\w0.heap.size<=g/\w.heap[g]?=Â (Î a 5 (0,0))/\l.length<=e/\e<=ā/\a.size=e*1/\a.toList.take (l.length*1)=à l:=by
  rcases c.2 with⟨_,i⟩|⟨g,e,a,j,r⟩
  .exact absurd i n
  .exact⟨g,e,a,j,r⟩
 have m:=eZ (Á (show w.drew.cell? ⟨b,1,Ã⟩=Â (Å (Â ⟨g,0,Ã⟩) l.length e)from f.r 1 _ rfl) trivial);have B:∀W:Ë,(Ν #[107] 177 #[Å (Â ⟨g,0,Ã⟩) l.length e]).run À W=Ξ (Ç<|Â ⟨g,0,Ã⟩) W:=λW=>
  Lib.run_unsafeSliceData_row _ _ _ _ _ _ Z
 have C:(ĵ #[177,3] 9 #[Ç<|Â ⟨g,0,Ã⟩,Ä Ê l.length]).run À w.drew=Ξ (Í ⟨l.toArray⟩) (w.drew.freeze ⟨g,0,Ã⟩ l.length):=by refine ģ w.drew 177 3 9 5 œ anS g a.size (by have i:w.drew.heap[g]?=Â (Î a 5 (0,0)):=o;simp[Š,i]) l d Z (by unfold ā at s;omega) ?_;intro j x i;have:=c.cells U j (Ä au x.toNat) (by simp[à,i]);exact this
 have x:=eZ ((h.r.fj<|fc.gG _ _).C (fc.Y (X:=λk=>k=g) (p:=⟨g,0,Ã⟩) U l.length) λi j q=>by omega);have j:=eZ (Á ((fc.Y (X:=λk=>k=g) (p:=⟨g,0,Ã⟩) rfl l.length).r m.out.1 λq=>iL c f A<|by show Â g=Â b;rw[show g=b from(show b=g from q).symm]) trivial);go_enter Tryz.func56,Tryz.ntmps56;go_wp2;refine o5 (λK=>K.cell? ⟨b,1,Ã⟩=Â (Å (Â ⟨g,0,Ã⟩) l.length e)/\True) [] fx ?_;iterate 10 apply tk m.out
 apply ia 10;intro K i;go_simp;apply i.out _ _ λ_=>j.out;apply ia 11;intro K i;go_simp;apply i.out _ _ λ_=>j.out;refine oZ fx ?_ _;go_wp2;go_ret;exact⟨U,x.out⟩
end
end Go.Proofs.Y.gu
