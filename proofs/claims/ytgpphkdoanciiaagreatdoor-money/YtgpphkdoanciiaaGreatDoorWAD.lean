import Derived.Test.YtgpphkdoanciiaaGreatDoorWAC
import Derived.Test.YtgpphkdoanciiaaGreatDoorChecked
import Derived.WalkKit
import Derived.WalkSpells
import Derived.WalkLawsBesides
import Derived.Deep.Light
import Derived.Maps.AppendAt
import Derived.RegionTactic
import Derived.Deep.RegionWith
import Derived.Deep.QuietTactic
import Derived.BigQuiet
import Derived.Deep.RegionHeld3
import Derived.WalkMore
import Derived.Deep.MidRow
import Derived.Great.Walk
import Derived.Lib.UnsafeStr
import Derived.Lib.BufferWrite
import Derived.Laws.Tables
import Derived.Laws.Bits64
import Derived.Shelf.Strconv.Itoa0
import Derived.Shelf.Strconv.Itoa1
import Derived.Shelf.LaysM
import Derived.Shelf.Strconv.Itoa2
import Derived.Shelf.Strconv.Itoa3
import Derived.Shelf.Strings.Repeat
import Derived.Shelf.Strings.OnBuilder
import Derived.Shelf.Strconv.Clone
import Derived.Shelf.Strings.Prefix
import Derived.Shelf.Bits.Mul64
import Derived.Test.YtgpphkdoanciiaaGreatDoorProg
import Derived.Lib.ItoaLen
set_option linter.all false
set_option maxRecDepth 1000000
set_option maxHeartbeats 8000000
open Go.Proofs.Tryz renaming prog->À,ntmps205->æ,func205->ë,underlying25->ú,underlying107->þ,underlying9->ĕ,underlying3->ġ,underlying4->Ģ,zeroValue3->Ĭ,zeroValue4->ĭ,zeroValue9->Į,underlying106->ĸ,underlying36->ľ,ntmps170->ŀ,zeroValue36->Ņ,func170->ŋ,ntmps66->Ō,sizeOf3->ō,sizeOf4->Ŏ,sizeOf9->ŏ,func66->Ţ,isAgg3->ţ,isAgg4->Ť,isAgg9->ť,ntmps154->ū,ntmps113->Ŭ,sizeOf36->ŭ,underlying177->Ű,underlying168->Ų,underlying170->ų,func154->ž,func187->ſ,func113->Α,zeroValue168->Γ,isAgg36->Δ,underlying95->Ε,underlying0->Ι,underlying5->Κ,zeroValue95->Λ,zeroValue0->ε,zeroValue5->ζ,sizeOf168->ι,ntmps209->ν,ntmps210->ξ,ntmps173->π,ntmps168->ρ,ntmps196->σ,ntmps169->υ,ntmps187->φ,isAgg168->χ,sizeOf95->ψ,ntmps172->ω,func209->au,func210->ax,func173->az,func168->aA,func196->aB,func169->aC,sizeOf0->aE,sizeOf5->aF,isAgg95->aH,func172->aI,ntmps78->aJ,isAgg0->aO,isAgg5->aP,func78->aQ,f161->bl
open And renaming intro->Á
open Go.Value renaming int->Â,pointer->Å,slice->Ê,string->Í,bool->Ñ,tuple->ç,agg->Ė,cells->Ħ,ownBlock->Ĵ
open Option renaming some->Ã,none->Ä,map_eq_some_iff->Ì,map_some->ó,isSome_none->ů,map->ű
open Go.IntKind renaming u64->Æ,i64->Ë,wrap_i64->ì,u8->bb,wrap_u64->bk
open Go renaming Value->Ç,World->É,Calls->Ò,Act->ê,heap_alloc_new->î,info_parts->ï,bodyPost_ret->ò,TypeId->õ,cell_one_new->ā,undef->Ą,Addr->ć,maxLen->Ĉ,wp_loop->Č,wpList_load_mid->ě,setRow_other->ĝ,setRow_heap->Ĥ,execOp->Ī,all_oneCell_toArray->į,wpList_store_mid->Ń,Code->Ŗ,grownCap->ř,growslice_fits->Ŝ,run_underlying->Š,Oper->Ŧ,run_callFunc_extern->Ū,Operand->Ŵ,wpList_plain->ŷ,cell_two_new->ź,grownCap_ge->Ν,run_append_grow->Ρ,run_loadVar_mid->Υ,ready_mono->θ,wpOp_step->ah,resolve->ak,builtin->ar,yielded->av,results->ay,Ending->aD,Program->aL,invoke->aV,wpList->aX,Exit->aZ
open Go.Ending renaming returned->È
open Go.Code renaming wp->Î,wp_mono->Þ,loop->á,skip->Ļ
open Bool renaming false->Ï,true->Ü,false_eq_true->ĳ
open Go.Obj renaming cells->Ð
open List renaming length_append->Ó,getElem?_eq_getElem->Ô,getElem?_eq_none->Õ,setIfInBounds_toArray->Ö,getElem?_eq_some_iff->Û,eq_nil_of_length_eq_zero->à,set_cons_zero->ä,set_cons_succ->å,getElem?_append_left->è,append_nil->ô,mem_append->û,getElem?_range->ü,getElem?_append_right->ý,getD_eq_getElem?_getD->ÿ,ext_getElem?->Ā,map_toArray->ą,size_toArray->ċ,append_assoc->č,range->Ď,mem_of_getElem?->Đ,drop_eq_getElem_cons->ė,map_cons->ę,length_set->Ě,map_nil->Ğ,drop_eq_nil_of_le->ğ,set_append_left->ĥ,mem_map->İ,getElem?_map->ļ,getElem?_set->Ľ,length_cons->ł,getElem?_set_self->ŉ,range_succ->œ,map_append->Ŕ,getElem?_toArray->ŕ,mem_append_left->Ś,getElem?_set_ne->ŝ,mem_cons_of_mem->š,flatMap_append->ũ,take_add_one->Ζ,mem_flatMap->Η,length_nil->Τ,nil_append->Χ,length_map->Ω
open Int renaming le_refl->Ø,toNat_of_nonneg->Ę,toNat_natCast->Ż,le_trans->ż
open Or renaming inl->Ù,inr->Ú
open Array renaming getElem?_modify->Ý,size_replicate->Ē,getD_eq_getD_getElem?->ı,replicate->Œ,toList_append->ŧ,length_toList->Ũ,size_append->Ŷ
open Nat renaming le_refl->ß,zero_le->ã,le_trans->í,le_add_right->ń,zero_add->Ň,add_mul->Ř,mul_le_mul_right->ś,mul_one->Ş,lt_of_lt_of_le->Ů,lt_or_ge->ŵ,mod_lt->aU
open Go.World renaming block_lt_of_cell?->â,ownsRow_nil->ă,alloc->Ć,setCell->ĉ,drew->ď,freeze->Ĕ,shape?->Ž,cell?->Μ
open Option.some renaming injEq->é
open Go.Operand renaming tmp->ð,func->bq
open Go.Ground renaming data->ñ
open Go.Lib renaming byteCells->ö,nDigits->đ,zeros24->ħ,decDigits_length->Ĩ,run_unsafeString_row->Ŀ,decDigits->Ł,byteCells_length->ş,TabIs->aj,pow10Tab->aG
open Go.Builtin renaming zeroCells->ø,append_->ő,unsafeString_->ŗ,copy_->ς,unsafeSliceData_->ae,min->bA,lenOf->bD
open ByteArray renaming extract->ù,size_extract->Ő,ext->bB
open Go.Region renaming ready->Ă,wanted->ģ,binds->Ŋ,Mode->Ξ
open Go.Great renaming wpList_runTo->Ċ
open Go.RowKit.Below renaming heap_alloc->ē,heap_setCell->Ĝ
open False renaming elim->Ġ
open Go.Obj.cells renaming injEq->ĩ
open Go.Oper renaming upon_value->ī,wp->ň
open Go.Shelf renaming Ren->Ĳ
open Go.Result renaming andThen->ĵ,andThen_ok->Ĺ,ok->ag
open Go.TypeDesc renaming isRow->Ķ,slice->bz
open Go.Instr renaming fill->ķ,index->Ο
open Go.Act renaming put->ĺ
open Go.Sort renaming mapBlock->ņ,putRow->κ
open Go.Sem renaming run_bind->Ÿ,run_pure->Ź
open Go.Op renaming build->η,call->aK,alloc->br
open Go.Proofs.Lays renaming n283->aR,n285->aS,n212->aT,n99->aY
variable{i n j b k m J j9 j7 j6:Nat}{w u W jX:É}{v x z jQ:Ç}{a p:ć}{h c:Int}{e t T:õ}{d q:Array Ç}{P:aL}{y:ê}{B:ByteArray}{X:Nat->Prop}{O:Option ć}{l:List Ç}{yQ:Bool}{K H:ê->É->Prop}{o:Ŧ}{D:Nat->Nat}{jJ:List Nat}{qQ:Ŵ}{zQ:List Int}{zJ:Go.TypeInfo}{xX:Ŵ->Ç}{xJ:Nat×Nat}{vX:List ByteArray}{vJ:aZ->ê->É->Prop}{s:Go.Func}
namespace Go.Proofs.Y.gO
open Go Go.Proofs Go.RowKit Go.Proofs.Y.Lift
def fe{p:Prop}(h:p):Hid p:=h
def Z0{b:Bool}(h:yQ=b):È (Ñ yQ)=È (Ñ b):=by rw[h]
def Fv{k:IntKind}{b:Int}(h:c=b):È (Â k c)=È (Â k b):=by rw[h]
def Z1{b:ByteArray}(h:B=b):È (Í B)=È (Í b):=by rw[h]
def kj:Ç->Bool
 |Â bb _=>Ï
 |Â _ _=>Ü
 |Ñ _=>Ü
 |_=>Ï
def mb(T:õ):Bool:=T==257||T==246
def rN(m:Nat)(w:É):Prop:=∀(b:Nat) (c:Array Ç) (T:õ) (v:Nat×Nat),m<=b->w.heap[b]?=Ã (Ð c T v)->mb T=Ü->0<c.size/\∀v∈c.toList,kj v=Ü
def NF(b:Nat)(w:É):Prop:=∀(c:Array Ç) (T:õ) (a:Nat×Nat),w.heap[b]?=Ã (Ð c T a)->mb T=Ï
structure e9(X:Nat->Prop)(w w':É):Prop where
 M:w.heap.size<=w'.heap.size
 N:∀k,k<w.heap.size->¬X k->w'.heap[k]?=w.heap[k]?
 gS:kh w->kh w'
 Y:∀m,rN m w->rN m w'
section
variable{Y:Nat->Prop}{w' d:É}
def e9.fT(X:Nat->Prop)(w:É):e9 X w w:=⟨ß _,λ_ _ _=>rfl,id,λ_=>id⟩
def e9.ff(h:e9 X W jX)(k:e9 X jX d):e9 X W d:= ⟨í h.M k.M,λi b c=>(k.N i (Ů b h.M) c).trans<|h.N i b c,λa=>k.gS<|h.gS a,λm a=>k.Y m<|h.Y m a⟩
def e9.S(h:e9 X w w')(b:∀k,k<w.heap.size->X k->Y k):e9 Y w w':= ⟨h.M,λk a c=>h.N k a λx=>c<|b k a x,h.gS,h.Y⟩
def e9.C(h:e9 X W jX)(k:e9 Y jX d)(e:∀i,i<W.heap.size->Y i->X i):e9 X W d:= ⟨í h.M k.M,λi b c=>(k.N i (Ů b h.M) λy=>c<|e i b y).trans<|h.N i b c,λa=>k.gS<|h.gS a,λm a=>k.Y m<|h.Y m a⟩
def akP(a:kh w)(p:ć)(v:Ç):kh (w.setCell p v):=by
 intro i o h;by_cases e:i=p.block
 .subst e;unfold ĉ at h;simp only[Ý,if_true]at h;cases b:w.heap[p.block]? with
  |none=>rw[b]at h;cases h
  |some d=>
   have:=a _ _ b;rw[b]at h;cases d with
   |cells c t z=>simp only[ó,é]at h;subst h;exact λx=>x
   |_=>exact absurd trivial this
 .rw[Ĝ _ _ _ _ (by simpa using e)]at h;exact a i o h
theorem IT(a:kh w)(b:Array Ç)(t:õ)(z:Nat×Nat):kh (w.alloc<|Ð b t z):=by
 intro i o h;by_cases e:i<w.heap.size
 .rw[ē _ _ _ e]at h;exact a i o h
 .by_cases c:i=w.heap.size
  .subst c;rw[î]at h;cases h;exact λx=>x
  .have:(w.alloc<|Ð b t z).heap.size<=i:=by simp;omega
   grind
def akQ(a:rN m w)(p:ć)(v:Ç)(f:kj v=Ü\/NF p.block w):rN m (w.setCell p v):=by
 intro i c T k g h b;by_cases e:i=p.block
 .subst e;unfold ĉ at h;simp only[Ý,if_true]at h;cases d:w.heap[p.block]? with
  |none=>rw[d]at h;cases h
  |some l=>
   rw[d]at h;cases l with
   |cells o t z=>
    simp only[ó,é,ĩ]at h;obtain⟨n,rfl,rfl⟩:=h;rcases f with f|f
    .subst n;split
     .exact a _ _ _ _ g d b
     .refine⟨by rw[Array.size_setIfInBounds];exact(a _ _ _ _ g d b).1,λu j=> ?_⟩;rw[Array.toList_setIfInBounds]at j;rcases List.mem_or_eq_of_mem_set j with q|q
      .exact(a _ _ _ _ g d b).2 u q
      .rwa[q]
    .rw[f _ _ _ d]at b;cases b
   |_=>cases h
 .rw[Ĝ _ _ _ _ (by simpa using e)]at h;exact a i c T k g h b
theorem IU(a:rN m w)(b:Array Ç)(t:õ)(z:Nat×Nat)(k:mb t=Ï\/0<b.size/\∀v∈b.toList,kj v=Ü):rN m (w.alloc<|Ð b t z):=by
 intro i c T d f h g;by_cases e:i<w.heap.size
 .rw[ē _ _ _ e]at h;exact a i c T d f h g
 .by_cases j:i=w.heap.size
  .subst j;rw[î]at h;grind
  .have:(w.alloc<|Ð b t z).heap.size<=i:=by simp;omega
   grind
def e9.I{p:Addr}(hx:X p.block)(v:Value)(hv:kj v=true\/NF p.block w:=by first|exact Or.inl (by rfl)|exact Or.inr<|by assumption):e9 X w (w.setCell p v):= ⟨fj,λk _ hk=>Ĝ _ _ _ _ (by intro e;subst e;exact hk hx),λa=>akP a p v,λ_ a=>akQ a p v hv⟩
def e9.gG(X:Nat->Prop)(w:World)(cs:Array Value)(t:TypeId)(hf:mb t=false\/0<cs.size/\∀v∈cs.toList,kj v=true:=by first|exact Or.inl (by decide)|exact Or.inr ⟨by simp,by simp[kj]⟩):e9 X w (w.alloc<|.cells cs t):= ⟨fj,λk hk _=>ē _ _ _ hk,λa=>IT a cs t (0,0),λ_ a=>IU a cs t (0,0) hf⟩
def e9.iN(X:Nat->Prop)(w:É)(n:Nat):e9 X w (w.drewN n):=⟨ß _,λ_ _ _=>rfl,id,λ_=>id⟩
def e9.fR(X:Nat->Prop)(w:É):e9 X w w.drew:=⟨ß _,λ_ _ _=>rfl,id,λ_=>id⟩
def kp{X:Nat->Prop}{w w':World}(h:e9 X w w':=by repeat' (first|(with_reducible exact e9.fT _ _)|(with_reducible refine e9.ff ?_<|e9.iN _ _ _)|(with_reducible refine e9.ff ?_<|e9.fR _ _)|(with_reducible refine e9.ff ?_<|e9.gG _ _ _ _))):e9 X w w':=h
def e9.r(h:e9 X w w')(b:w.cell? a=Ã v)(c:¬X a.block):w'.cell? a=Ã v:=by rwa[World.cell?_of_block<|h.N _ (â w a b) c]
end
def IV{u:Ç}(h:j≠b):(w.setCell ⟨j,i,Ä⟩ u).cell? ⟨b,n,Ä⟩=w.cell? ⟨b,n,Ä⟩:= World.cell?_setCell_other _ _ _ _<|by intro e;injection e with e1 e2;exact h e1
def fg(j:Nat)(vs:List Ç)(T:õ)(w:É):Prop:=w.heap[j]?=Ã (Ð vs.toArray T (0,0))
section
variable{vs:List Ç}{w':É}
def fg.N(w:É)(vs:List Ç)(T:õ):fg w.heap.size vs T (w.alloc<|Ð vs.toArray T):=î w _
def fg.M(h:fg j vs T w):j<w.heap.size:=by
 rcases ŵ j w.heap.size with a|a
 .exact a
 .unfold fg at h;rw[Array.getElem?_eq_none a]at h;cases h
def fg.r(h:fg j vs T w)(i:Nat)(v:Ç)(a:vs[i]?=Ã v):w.cell? ⟨j,i,Ä⟩=Ã v:=by unfold fg at h;simp only[Μ,h,ů,ĳ,if_false,ŕ];exact a
def fg.C(h:fg j vs T w)(i:Nat):w.frozen? ⟨j,i,Ä⟩=Ï:=by unfold fg at h;simp[World.frozen?,h]
def fg.Aj(h:fg j vs T w)(e:w'.heap[j]?=w.heap[j]?):fg j vs T w':=by unfold fg;rwa[e]
def fg.I(h:fg j vs T w)(k:e9 X w w')(a:¬X j):fg j vs T w':=h.Aj<|k.N j h.M a
theorem fg.fW(h:fg j vs T w)(i:Nat)(u:Ç):fg j (vs.set i u) T (w.setCell ⟨j,i,Ä⟩ u):=by unfold fg at h|-;unfold ĉ;grind
def fg.G(h:fg j vs T w)(hT:mb T=false:=by decide):NF j w:=λc T' fr q=>by unfold fg at h;rw[h]at q;cases q;exact hT
theorem fg.S(h:fg j vs T w)(k:fg i l e w)(a:T≠e):j≠i:=by rintro rfl;unfold fg at h k;grind
end
section
variable{w':É}{base:Nat}{size:Nat}{xs:List Ç}
def akR(h:w.ownsRow base e size v n xs)(k:∀j,v.ownBlock=Ã j->w'.heap[j]?=w.heap[j]?):w'.ownsRow base e size v n xs:=by
 let⟨c,a⟩:=h;refine⟨c,?_⟩;rcases a with a|⟨g,d,f,b,i,l,r⟩
 .exact Ù a
 .refine Ú ⟨g,d,f,b,i,?_,r⟩;rw[k g (by rw[b];rfl)];exact l
def ia(h:w.ownsRow base e size v n xs)(k:e9 X w w')(b:∀j,v.ownBlock=Ã j->¬X j):w'.ownsRow base e size v n xs:= akR h λj a=>k.N j (h.lt j a).2<|b j a
theorem jh(h:w.ownsRow base e size v n xs):∃a c,v=Ê a n c:=by rcases h.2 with⟨b,d⟩|⟨g,f,i,b,_⟩;all_goals grind
def lG(h:w.ownsRow base e size v n xs)(a:v.ownBlock=Ã j):∃b,w.heap[j]?=Ã (Ð b e (0,0)):=by
 rcases h.2 with⟨c,_⟩|⟨g,f,b,c,_,d,_⟩
 .rw[c]at a;cases a
 .rw[c]at a;cases a;exact⟨b,d⟩
theorem jA(h:w.ownsRow base e size v n xs)(k:fg j l T w)(a:e≠T):v.ownBlock≠Ã j:=by intro q;let⟨b,c⟩:=lG h q;unfold fg at k;grind
theorem akS(h:w.ownsRow base e size v n xs)(k:w.ownsRow i t b x m l)(c:e≠t)(a:v.ownBlock=Ã j):x.ownBlock≠Ã j:=by intro q;let⟨d,f⟩:=lG h a;let⟨g,o⟩:=lG k q;grind
theorem Sp{n:Nat}(h:v∈(ø d n).toList):v∈d.toList:=by
 unfold ø at h;rw[Array.toList_map,İ]at h;obtain⟨i,a,rfl⟩:=h;have c:i<n*d.size:=by simpa using a
 have b:0<d.size:=by grind
 rw[getElem!_pos d _<|aU _ b];simp
structure qf(w:É)(base:Nat)(e:õ)(size:Nat)(v:Ç)(n:Nat)(xs:List Ç)(m:Nat)(news:List Ç)(v':Ç)(w':É):Prop where
 fp:w'.ownsRow base e size v' (n+m) (xs++news)
 r:e9 (λk=>v.ownBlock=Ã k) w w'
 C:v'.ownBlock=v.ownBlock\/v'.ownBlock=Ã w.heap.size
 I:∀v0 n0 xq,w.ownsRow base e size v0 n0 xq->(v0.ownBlock=v.ownBlock->n0<=n)->w'.ownsRow base e size v0 n0 xq
def qf.akT(c:w.ownsRow base e size v n xs)(f:l.length=m*size)(g:base<=w.heap.size)(j:n+m<=i)(o:i<=Ĉ)(p:d.size=i*size)(q:d.toList.take ((n+m)*size)=xs++l)(r:mb e=Ï\/0<d.size/\∀v∈d.toList,kj v=Ü): qf w base e size v n xs m l (Ê (Ã ⟨w.heap.size,0,Ä⟩) (n+m) i) (w.drew.alloc<|Ð d e):=by have b:∀X,e9 X w (w.drew.alloc<|Ð d e):=λX=>⟨fj,λk s _=>ē _ _ _ s,λa=>IT a d e (0,0),λ_ a=>IU a d e (0,0) r⟩;refine⟨⟨by rw[Ó,c.1,f,Ř],Ú ⟨w.heap.size,i,d,U,g,î w.drew _,j,o,p,q⟩⟩,b _,Ú U,λt u x h _=>ia h (b λ_=>False) λ_ _=>id⟩
theorem Sq{ty:õ}{bytes:Nat}(F:P.underlying t=Ã (bz e))(G:P.info? e=Ã zJ)(Q:zJ.zero=Ã z) (xr:zJ.size=size) (xt:zJ.bytes=bytes) (rK:z.cells.size=size) (p:w.ownsRow base e size v n xs) (a:ć) (c:Nat) (b:List Ç) (hm:0<m) (r:b.length=m*size) (H:∀j u,b[j]?=Ã u->w.cell? (a.add j)=Ã u) (h1:∀u∈b,u.oneCell'=Ü) (S:n+m<=Ĉ) (V:(n+m)*bytes<=140737488355328) (C0:base<=w.heap.size) (W:mb e=Ï\/(0<b.length/\(∀u∈xs++b,kj u=Ü)/\∀u∈z.cells.toList,kj u=Ü)): ∃x w',(ő #[t,t] ty #[v,Ê (Ã a) m c]).run P w=ag x w'/\qf w base e size v n xs m b x w':=by
 subst xr;subst xt;have akU:n+m<=9223372036854775807:=by simp only[Ĉ]at S;omega
 have hlen:(xs++b).length=(n+m)*zJ.size:=by rw[Ó,p.1,r,Ř]
 have aum:=p;have tk:∀d,((xs.toArray++b.toArray++ø z.cells (ř w (n+m) d e-(n+m))).toList.take ((n+m)*zJ.size)=xs++b):=λd=>by grind
 have sz:∀d,(xs.toArray++b.toArray++ø z.cells (ř w (n+m) d e-(n+m))).size=ř w (n+m) d e*zJ.size:=λd=>by have x:=Ν w (n+m) d e;simp only[Ŷ,ċ,size_zeroCells,rK,p.1,r,<-Ř];congr 1;omega
 have akV:∀d,mb e=Ï\/0<(xs.toArray++b.toArray++ø z.cells (ř w (n+m) d e-(n+m))).size/\∀v∈(xs.toArray++b.toArray++ø z.cells (ř w (n+m) d e-(n+m))).toList,kj v=Ü:=λd=>by
  cases s:mb e with
  |false=>exact Ù U
  |true=>
   rcases W with q|⟨x,B,I⟩
   .rw[q]at s;cases s
   .refine Ú ⟨by simp only[Ŷ,ċ];omega,λv f=> ?_⟩;simp only[ŧ,û]at f;rcases f with(f|f)|f
    .exact B v<|Ś _ f
    .exact B v<|List.mem_append_right _ f
    .exact I v<|Sp f
 have gr:=λd=>qf.akT p r C0 (Ν w (n+m) d e) (grownCap_le_maxLen w (n+m) d e S) (sz d) (tk d)<|akV d;rcases p.2 with⟨rfl,rfl⟩|⟨g,y,h,rfl,hbg,C,hnc,hcm,X,htake⟩
 .have J:=à (by simpa using p.1);subst J;have Y:=run_append_nil w t ty e zJ z F G Q a m c b r H hm Z (by have x:=V;simp only[Ň]at x;omega);grind
 .by_cases K:n+m<=y
  .have Sr:n*zJ.size+b.length<=h.size:=by rw[r,X,<-Ř];exact ś _ K
   have Y:=run_append_room w t ty e zJ F G g n y h C a m c b r H h1 K Sr;have E:=Ĥ w g h (h.toList.take (n*zJ.size)++b++h.toList.drop (n*zJ.size+b.length)).toArray e _ C;have L:=λk (M:k≠g)=>ĝ w g k (h.toList.take (n*zJ.size)++b++h.toList.drop (n*zJ.size+b.length)).toArray M;have N:(h.toList.take (n*zJ.size)++b++h.toList.drop (n*zJ.size+b.length)).toArray.size=h.size:=by grind
   have kp:e9 (λk=>Ĵ (Ê (Ã ⟨g,0,Ä⟩) n y)=Ã k) w (w.setRow g (h.toList.take (n*zJ.size)++b++h.toList.drop (n*zJ.size+b.length)).toArray):=by
    refine⟨fj,λk _ M=>L k λe=>M (by simp[Ĵ,e]),λal q o l=> ?_,λm' hF q c T fr O l s=> ?_⟩;rotate_left
    .by_cases D:q=g
     .subst D;rw[E]at l;cases l;rcases W with qq|⟨_,B,_⟩
      .grind
      .refine⟨by rw[N];exact(hF _ _ _ _ O C s).1,λu x=> ?_⟩;simp only[û]at x;rcases x with(x|x)|x
       .grind
       .grind
       .exact(hF _ _ _ _ O C s).2 u<|List.mem_of_mem_drop x
     .rw[L q D]at l;exact hF q c T fr O l s
    by_cases D:q=g
    .subst D;rw[E]at l;cases l;exact λx=>x
    .rw[L q D]at l;exact al q o l
   refine⟨_,_,Y,⟨hlen,Ú ⟨g,y,_,U,hbg,E,K,hcm,by rw[N,X],?_⟩⟩,kp,Ù U,λo q xq x s=> ?_⟩
   .grind
   .by_cases f:o.ownBlock=Ã g
    .let⟨B,I⟩:=x;refine⟨B,?_⟩;rcases I with⟨rfl,_⟩|⟨g0,D,aun,rfl,O,l,T,b4,b5,b6⟩
     .cases f
     .have:g0=g:=by simpa[Ĵ]using f
      subst this;rw[C]at l;cases l;refine Ú ⟨g0,D,_,U,O,E,T,b4,by rw[N,b5],?_⟩;rw[htake];have auo:q*zJ.size<=n*zJ.size:=ś _<|s f;grind
    .exact ia x kp λj l J=>f<|by rw[l];simpa[Ĵ]using J.symm
  .exact⟨_,_,(Ρ w t ty e zJ z F G Q ⟨g,0,Ä⟩ n y xs p.1 (p.cells U) a m c b r H Z Z<|Ŝ Z V),gr y⟩
def C3{P:Program}{ops:Array Oper}{rest:List Oper}{o:Oper}{a:Act}{Q:Exit->Act->World->Prop}(Ss:o.guard=none)(s x:Operand)(t:TypeId) (ho:o.op=.call {callee:=.builtin .append,args:=#[s,x],argTypes:=#[t,t]}) {i:TypeInfo} {z:Value} {bytes:Nat} (ht:P.underlying t=some (.slice e)) (hi:P.info? e=some i) (hz:i.zero=some z) (xr:i.size=size) (xt:i.bytes=bytes) (rK:z.cells.size=size) (hs:a.eval s=v) (lE:w.ownsRow base e size v n xs) (ad:Addr) {m c:Nat} (news:List Value) (hx:a.eval x=.slice (some ad) m c) (hm:0<m) (hl:news.length=m*size) (Sv:∀j u,news[j]?=some u->w.cell? (ad.add j)=some u) (h1:∀u∈news,u.oneCell'=true) (C4:n+m<=maxLen) (C5:(n+m)*bytes<=140737488355328) (C0:base<=w.heap.size) (h:∀v' w',qf w base e size v n xs m news v' w'->wpList P ops Q rest (a.put o.dst v') w') (hfl:mb e=false\/(0<news.length/\(∀u∈xs++news,kj u=true)/\∀u∈z.cells.toList,kj u=true):=by first|exact Or.inl (by decide)|exact Or.inr ⟨by simp,by simp[kj],by simp[kj,Value.cells]⟩): wpList P ops Q (o::rest) a w:=by refine ŷ Ss λK hK=> ?_;let⟨v',w',hr,h2⟩:=Sq (ty:=o.type) ht hi hz xr xt rK lE ad c news hm hl Sv h1 C4 C5 C0 hfl;unfold ň Ī;simp only[ho,ak,aV,ar,Ÿ,Ź,Ĺ,ą,ę,Ğ,hs,hx,hr];exact hK _ _<|h v' w' h2
end
structure Fw where
 fl:Int
 r:ByteArray
 C:Nat->Int
abbrev St:=Nat->Fw
def St.fW(s:St)(i:Nat)(a:Fw):St:=λj=>if j=i then a else s j
def St.fl(s:St)(i:Nat)(b:Int):St:=s.fW i {s i with fl:=b}
def St.C(s:St)(i:Nat)(p:ByteArray):St:=s.fW i {s i with r:=p}
def St.r(s:St)(i j:Nat)(v:Int):St:=s.fW i {s i with C:=λk=>if k=j then v else(s i).C k}
def qg(n:Int):Ç:=Â Æ n
def Sw(n:Int):Ç:=Â Ë n
def qh(s:St)(i:Nat):Ç:=if i%18=0 then qg (s<|i/18).fl else if i%18=1 then Í (s<|i/18).r else qg ((s<|i/18).C<|i%18-2)
def rO(s:St)(a:Ç)(i:Nat):Ç:=if 144<=i then a else qh s i
def qi(s:St)(a:Ç)(h:i<144):rO s a i=qh s i:=by unfold rO;rw[if_neg Z]
def iZ(s:St)(lv:Ç):List Ç:=(Ď 145).map<|rO s lv
def mD(s:St)(lv:Ç):(iZ s lv).length=145:=by simp[iZ]
theorem IW(s:St)(a:Ç)(h:i<145):(iZ s a)[i]?=Ã (rO s a i):=by unfold iZ;grind
def Z2{s:St}(h:l.length=145)(b:∀i,i<145->l[i]?=Ã (rO s v i)):l=iZ s v:=by
 apply Ā;intro i;by_cases a:i<145
 .rw[b i a,IW _ _ a]
 .rw[Õ Z,Õ (by rw[mD];omega)]
section
variable(s:St)(lv:Ç)
def IX(h:i<8):rO s lv (i*18)=qg (s i).fl:=by rw[qi _ _ Z,qh,if_pos Z,show i*18/18=i from by omega]
def MG(h:i<8):rO s lv (i*18+1)=Í (s i).r:=by rw[qi _ _ Z,qh,if_neg Z,if_pos Z,show(i*18+1)/18=i from by omega]
def MH(h:i<8)(a:j<16):rO s lv (i*18+2+j)=qg ((s i).C j):=by rw[qi _ _ Z,qh,if_neg Z,if_neg Z,show(i*18+2+j)/18=i from by omega,show(i*18+2+j)%18-2=j from by omega]
theorem IY:rO s lv 144=lv:=by unfold rO;grind
def akW(v:Ç):(iZ s lv).set 144 v=iZ s v:=by
 refine Z2 (by rw[Ě,mD]) λi a=> ?_;by_cases e:i=144
 .subst e;rw[ŉ (by rw[mD];omega),IY]
 .rw[ŝ<|Ne.symm e,IW _ _ a,qi _ _ Z,qi _ _ Z]
def Sx(j:i<144){c:St}(f:rO c lv i=v)(g:∀b,b<144->b≠i->qh c b=qh s b):(iZ s lv).set i v=iZ c lv:=by
 refine Z2 (by rw[Ě,mD]) λb h=> ?_;by_cases e:b=i
 .subst e;rw[ŉ (by rw[mD];omega),f]
 .rw[ŝ<|Ne.symm e,IW _ _ h];by_cases d:b<144
  .rw[qi _ _ d,qi _ _ d,g b d e]
  .have:b=144:=Z
   subst this;rw[IY,IY]
def Z3(h:i<8)(b:Int):(iZ s lv).set (i*18) (qg b)=iZ (s.fl i b) lv:=by
 refine Sx s lv Z ?_ λk a c=> ?_
 .rw[IX _ _ h];simp[St.fl,St.fW]
 .unfold qh;by_cases e:k/18=i
  .have:k%18≠0:=Z
   simp[St.fl,St.fW,e,this]
  .simp[St.fl,St.fW,e]
def akX(h:i<8)(p:ByteArray):(iZ s lv).set (i*18+1) (Í p)=iZ (s.C i p) lv:=by
 refine Sx s lv Z ?_ λk a b=> ?_
 .rw[MG _ _ h];simp[St.C,St.fW]
 .unfold qh;by_cases e:k/18=i
  .have:k%18≠1:=Z
   simp[St.C,St.fW,e,this]
  .simp[St.C,St.fW,e]
def akY(h:i<8)(c:j<16)(v:Int):(iZ s lv).set (i*18+2+j) (qg v)=iZ (s.r i j v) lv:=by
 refine Sx s lv Z ?_ λk d f=> ?_
 .rw[MH _ _ h c];simp[St.r,St.fW]
 .unfold qh;by_cases e:k/18=i
  .by_cases a:k%18=0
   .simp[St.r,St.fW,e,a]
   .by_cases b:k%18=1
    .simp[St.r,St.fW,e,b]
    .have:k%18-2≠j:=Z
     simp[St.r,St.fW,e,a,b,this]
  .simp[St.r,St.fW,e]
end
def iz(b:Nat)(T:õ)(tl:List Ç)(s:St)(lv:Ç)(w:É):Prop:=fg b (iZ s lv++tl) T w
section
variable{tl:List Ç}{s:St}{lv:Ç}
def iz.IZ(h:iz b T tl s lv w)(a:i<145):w.cell? ⟨b,i,Ä⟩=Ã (rO s lv i):= fg.r h i _<|by rw[è (by rwa[mD]),IW _ _ a]
def iz.qz(h:iz b T tl s lv w)(c:i<145){a:St}(e:(iZ s lv).set i v=iZ a x):iz b T tl a x (w.setCell ⟨b,i,Ä⟩ v):=by have:=fg.fW h i v;rw[ĥ _ _ (show i<(iZ s lv).length by rwa[mD]),e]at this;exact this
def iz.fl(h:iz b T tl s lv w)(a:i<8):w.cell? ⟨b,i*18,Ä⟩=Ã (Â Æ (s i).fl):=by rw[h.IZ Z,IX _ _ a];rfl
def iz.MI(h:iz b T tl s lv w)(a:i<8):w.cell? ⟨b,i*18+1,Ä⟩=Ã (Í (s i).r):=by rw[h.IZ Z,MG _ _ a]
def iz.Z4(h:iz b T tl s lv w)(a:i<8)(c:j<16):w.cell? ⟨b,i*18+2+j,Ä⟩=Ã (Â Æ<|(s i).C j):=by rw[h.IZ Z,MH _ _ a c];rfl
def iz.C6(h:iz b T tl s lv w):w.cell? ⟨b,144,Ä⟩=Ã lv:=by rw[h.IZ Z,IY]
def iz.zm(h:iz b T tl s lv w)(a:i<8)(x:Int):iz b T tl (s.fl i x) lv (w.setCell ⟨b,i*18,Ä⟩<|Â Æ x):=h.qz Z<|Z3 s lv a x
def iz.akZ(h:iz b T tl s lv w)(a:i<8)(x:ByteArray):iz b T tl (s.C i x) lv (w.setCell ⟨b,i*18+1,Ä⟩<|Í x):=h.qz Z<|akX s lv a x
def iz.Sy(h:iz b T tl s lv w)(a:i<8)(c:j<16)(x:Int):iz b T tl (s.r i j x) lv (w.setCell ⟨b,i*18+2+j,Ä⟩<|Â Æ x):=h.qz Z<|akY s lv a c x
def iz.ak0(h:iz b T tl s lv w)(v:Ç):iz b T tl s v (w.setCell ⟨b,144,Ä⟩ v):=h.qz Z<|akW s lv v
end
def xu(b:Bool):Int:=if b then 1 else 0
def I1(b:Bool)(w:É):Ò À 159 #[Ñ b] w λe a=>e=È (Â Æ<|xu b)/\a=w:=by
 go_enter Tryz.func159,Tryz.ntmps159;go_wp2;all_goals go_ret
 all_goals refine⟨Fv ?_,U⟩
 all_goals simp[xu, *]
def Z5(b o:Nat)(s:Int)(c:0<=s)(d:s<18446744073709551616)(w:É):Ò À 208 #[Å<|Ã ⟨b,o,Ä⟩,Â Æ s] w λe a=>e=È (Å<|Ã ⟨b,o+2+(s%16).toNat,Ä⟩)/\a=w:=by
 go_enter Tryz.func208,Tryz.ntmps208;go_wp2;all_goals go_ret
 exact⟨U,U⟩
def wu(n:Int):Int:=Æ.wrap n
def Z6(a:0<=h)(b:h<18446744073709551616):wu h=h:=by show h%18446744073709551616=h;omega
def Z7(n:Int):wu n=n%18446744073709551616:=rfl
def ak1(n:Int):0<=wu n:=by rw[Z7];omega
def ak2(n:Int):wu n<18446744073709551616:=by rw[Z7];omega
def xv(k p q:Int):Int:=
 if k=2 then wu (p+q)else if k=3 then wu (p-q)else if k=4 then wu (p*q)
 else if k=5 then(if q=0 then 0 else p/q)else if k=6 then xu (decide<|p<q)else xu (decide<|p=q)
def ak3(k p q:Int)(b:0<=p)(c:p<18446744073709551616)(d:0<=q)(f:q<18446744073709551616)(w:É):Ò À 211 #[Â Ë k,Â Æ p,Â Æ q] w λe a=>e=È (Â Æ<|xv k p q)/\a=w:=by
 go_enter Tryz.func211,Tryz.ntmps211;go_wp2_with (go_at_call 159;refine(I1 _ _).mono ?_;rintro e a ⟨rfl,rfl⟩);all_goals simp only[beq_iff_eq,beq_eq_false_iff_ne,ne_eq]at*
 all_goals first
  |(exfalso;simp_all;done)
  |(go_ret;refine⟨Fv ?_,U⟩;unfold xv;simp[wu, *];done)
  |(go_ret;refine⟨Fv ?_,U⟩;unfold xv;simp[wu, *];rfl)
structure RC where
 x:Nat
 y:Nat
 k:Int
 d:Int
 g:Int
def qV(a:Nat)(c:RC)(b:Ç):List Ç:=[Å<|Ã ⟨a,0,Ä⟩,Â Ë c.x,Â Ë c.y,Â Æ c.k,Â Ë c.d,Â Æ c.g,b]
def pj(l:List Int):List Ç:=l.map qg
theorem ak4{base:Nat}(h:w.ownsRow base e 1 (Ê O (n+1) i) (n+1) (l++[x])):w.ownsRow base e 1 (Ê O n i) n l:=by
 let⟨d,b⟩:=h;simp only[Ó,ł,Τ,Ş]at d;refine⟨Z,?_⟩;rcases b with⟨b,_⟩|⟨g,q,f,b,j,k,r,m,o,p⟩
 .cases b
 .cases b;refine Ú ⟨g,i,f,U,j,k,Z,m,o,?_⟩;have:=congrArg (List.take n) p;grind
def MJ{base:Nat}(h:w.ownsRow base e 1 (Ê O (n+1) i) (n+1) (l++[x])):∃g,O=Ã ⟨g,0,Ä⟩/\w.cell? ⟨g,n,Ä⟩=Ã x/\n+1<=i:=by
 let⟨f,d⟩:=h;simp only[Ó,ł,Τ,Ş]at f;rcases d with⟨d,_⟩|⟨g,o,p,d,q,j,k,r,s,m⟩
 .cases d
 .cases d;refine⟨g,U,?_,k⟩;have:=congrArg (λb=>b[n]?) m;simp only[Ş]at this;rw[List.getElem?_take_of_lt Z,ý Z,show n-l.length=0 by omega]at this;simp only[Μ,j];simpa using this
def MK(j d:Nat)(c:RC)(f:Ç)(base:Nat)(b:List Int)(p:Int)(w:É)(i:fg d (qV j c f) 282 w)(h:w.ownsRow base 36 1 f (b.length+1) (pj b++[qg p]))(k:b.length<=1000): Ò À 204 #[Å<|Ã ⟨d,0,Ä⟩] w λe g=>e=È (Â Æ p)/\∃a,g=w.setCell ⟨d,6,Ä⟩ a/\w.ownsRow base 36 1 a b.length (pj b)/\a.ownBlock=f.ownBlock:=by obtain⟨a,l,rfl⟩:=jh h;obtain⟨g,rfl,m,o⟩:=MJ h;have e:=ak4 h;have q:=i.r 6 _ U;have r:=i.C 6;have H:=fe e;generalize b.length=n at*;go_enter Tryz.func204,Tryz.ntmps204;go_wp2;go_ret;refine⟨U,_,U,?_,U⟩;simpa using H.out
def ak5:(À.info? 36).map (λi=>(i.zero,i.size,i.bytes))=Ã (Ã<|Â Æ 0,1,8):=ft
def Z8(p b:Nat)(c:RC)(d:Ç)(base:Nat)(k:List Ç)(n:Nat)(f m:Nat)(q:Nat)(a:List Ç)(w:É)(g:fg b (qV p c d) 282 w)(l:w.ownsRow base 36 1 d n k)(E:n+m<=1000) (r:0<m) (s:a.length=m) (t:∀j u,a[j]?=Ã u->w.cell? ((⟨f,0,Ä⟩:ć).add j)=Ã u) (v:∀u∈a,u.oneCell'=Ü) (x:base<=w.heap.size): Ò À 203 #[Å<|Ã ⟨b,0,Ä⟩,Ê (Ã ⟨f,0,Ä⟩) m q] w λe o=>e=È (ç #[])/\∃h i,qf w base 36 1 d n k m a h i/\o=i.setCell ⟨b,6,Ä⟩ h:=by let⟨F,y,z,B,C⟩:=ï ak5;have D:=g.r 6 _ U;have o:=jA l g A;have H:=fe g;go_enter Tryz.func203,Tryz.ntmps203;go_wp2_with (at_builtin;refine C3 U _ _ 231 U Tryz.underlying231 y z B C U U l ⟨f,0,Ä⟩ a U r (by rw[s,Ş]) t v (by unfold Ĉ;omega) Z x ?_;intro h i e;obtain⟨G,I,rfl⟩:=jh e.fp;have J:=e.r.r D o;have K:=(H.out.I e.r o).C 6);go_end0;exact⟨U,_,_,e,U⟩
def kl(l:List (Nat×Int)):List Ç:=l.flatMap λp=>[Sw p.1,qg p.2]
structure iT where
 r:Nat
 T:õ
 C:List Ç
structure iT.Ok(E:iT):Prop where
 M:E.T≠36
 r:E.T≠257
 I:E.T≠282
 N:E.T≠300
 ak6:E.T≠252
 ak7:E.T≠246
def iT.Ok.C{E:iT}(h:E.Ok):mb E.T=Ï:=by unfold mb;rw[beq_eq_false_iff_ne.2 h.r,beq_eq_false_iff_ne.2 h.ak7];rfl
structure R(E:iT)(rb:Nat)(c:RC)(sv lv:Ç)(ss:List Int)(s:St)(ls:List (Nat×Int))(w:É):Prop where
 r:fg rb (qV E.r c sv) 282 w
 I:w.ownsRow 0 36 1 sv ss.length (pj ss)
 C:iz E.r E.T E.C s lv w
 M:w.ownsRow 0 257 2 lv ls.length (kl ls)
structure Tr(E:iT)(rb:Nat)(sv lv:Ç)(n:Nat)(w:É)(j0 jz:Ç)(n':Nat)(w':É):Prop where
 r:e9 (λk=>k=E.r\/k=rb\/sv.ownBlock=Ã k\/lv.ownBlock=Ã k) w w'
 s:∀j,j0.ownBlock=Ã j->sv.ownBlock=Ã j\/w.heap.size<=j
 l:∀j,jz.ownBlock=Ã j->lv.ownBlock=Ã j\/w.heap.size<=j
 C:∀v0 n0 xq,w.ownsRow 0 257 2 v0 n0 xq->(v0.ownBlock=lv.ownBlock->n0<=n)->w'.ownsRow 0 257 2 v0 n0 xq/\(v0.ownBlock=jz.ownBlock->n0<=n')
section
variable{E:iT}{rb:Nat}{c:RC}{sv lv f o:Ç}{ss:List Int}{s:St}{ls:List (Nat×Int)}
def Tr.fT(E:iT)(rb:Nat)(sv lv:Ç)(n:Nat)(w:É):Tr E rb sv lv n w sv lv n w:= ⟨e9.fT _ _,λ_ h=>Ù h,λ_ h=>Ù h,λ_ _ _ h k=>⟨h,k⟩⟩
theorem Tr.ff(h:Tr E rb sv lv n w f z b u)(k:Tr E rb f z b u o jQ m W):Tr E rb sv lv n w o jQ m W:=by
 refine⟨h.r.C k.r ?_,λj a=> ?_,λj a=> ?_,λc d g p q=> ?_⟩
 .rintro i r (e|e|e|e)
  .exact Ù e
  .grind
  .exact Ú<|Ú<|Ù<|(h.s i e).resolve_right Z
  .exact Ú<|Ú<|Ú<|(h.l i e).resolve_right Z
 .rcases k.s j a with e|e
  .exact h.s j e
  .exact Ú<|í h.r.M e
 .rcases k.l j a with e|e
  .exact h.l j e
  .exact Ú<|í h.r.M e
 .let⟨e,i⟩:=h.C c d g p q;exact k.C c d g e i
def Tr.I(k:e9 X w u)(c:∀i,i<w.heap.size->X i->i=E.r\/i=rb\/sv.ownBlock=Ã i)(d:∀j,f.ownBlock=Ã j->sv.ownBlock=Ã j\/w.heap.size<=j)(g:∀i a,X i->w.heap[i]?≠Ã (Ð a 257 (0,0))):Tr E rb sv lv n w f lv n u:= ⟨k.S λi h q=>(c i h q).elim Ù λe=>Ú (e.elim Ù λe=>Ú<|Ù e),d,λj q=>Ù q,λp r s b l=>⟨ia b k λj m q=>by let⟨a,o⟩:=lG b m;exact g j a q o,l⟩⟩
def Tr.ak8{Y:Nat->Prop}(t:Tr E rb sv lv n w f z b u)(k:e9 Y u W)(m:∀i,Y i->w.heap.size<=i)(o:∀i a,Y i->u.heap[i]?≠Ã (Ð a 257 (0,0))):Tr E rb sv lv n w f z b W:= ⟨t.r.C k λi v q=>absurd (m i q) Z,t.s,t.l,λc d e g h=>⟨ia (t.C c d e g h).1 k λj p q=>by let⟨a,r⟩:=lG (t.C c d e g h).1 p;exact o j a q r,(t.C c d e g h).2⟩⟩
def R.ak9(ok:E.Ok)(h:R E rb c sv lv ss s ls w)(a:fg j l 252 w)(k:e9 (λi=>i=j) w u):R E rb c sv lv ss s ls u:= ⟨h.r.I k<|fg.S h.r a A,ia h.I k λi q r=>jA h.I a A (by rw[q,r]),h.C.I k<|fg.S h.C a ok.ak6,ia h.M k λi q r=>jA h.M a A<|by rw[q,r]⟩
theorem R.N(ok:E.Ok)(h:R E rb c sv lv ss s ls w)(i:Nat){c':RC}{j0:Ç}{ss':List Int}(e:(qV E.r c sv).set i v=qV E.r c' j0)(b:w.ownsRow 0 36 1 j0 ss'.length (pj ss'))(d:∀j,j0.ownBlock=Ã j->sv.ownBlock=Ã j): R E rb c' j0 lv ss' s ls (w.setCell ⟨rb,i,Ä⟩ v)/\Tr E rb sv lv ls.length w j0 lv ls.length (w.setCell ⟨rb,i,Ä⟩ v):=by have a:=e9.I (X:=λk=>k=rb) (p:=⟨rb,i,Ä⟩) U v<|Ú h.r.G;refine⟨⟨by have:=h.r.fW i v;rwa[e]at this,ia b a λj q r=>jA b h.r A (by rw[q,r]),h.C.I a<|fg.S h.C h.r ok.I,ia h.M a λj q r=>jA h.M h.r A<|by rw[q,r]⟩,Tr.I a (λi _ q=>Ú<|Ù q) (λj q=>Ù<|d j q) λi f q g=> ?_⟩;have k:=h.r;unfold fg at k;grind
def R.S(ok:E.Ok)(h:R E rb c sv lv ss s ls w)(i:Nat){d:St}(k:iz E.r E.T E.C d lv (w.setCell ⟨E.r,i,Ä⟩ v)): R E rb c sv lv ss d ls (w.setCell ⟨E.r,i,Ä⟩ v)/\Tr E rb sv lv ls.length w sv lv ls.length (w.setCell ⟨E.r,i,Ä⟩ v):=by have b:=e9.I (X:=λk=>k=E.r) (p:=⟨E.r,i,Ä⟩) U v<|Ú<|fg.G h.C ok.C;refine⟨⟨h.r.I b (fg.S h.C h.r ok.I).symm,ia h.I b λj q r=>jA h.I h.C ok.M.symm (by rw[q,r]),k,ia h.M b λj q r=>jA h.M h.C ok.r.symm<|by rw[q,r]⟩,Tr.I b (λi _ q=>Ù q) (λj q=>Ù q) λi e q a=> ?_⟩;rw[q,h.C]at a;injection a with a;injection a with _ a;exact ok.r a
theorem R.Y(ok:E.Ok)(h:R E rb c sv lv ss s ls w){ns:List Int}{u:É}(o:ns.length=m)(a:qf w 0 36 1 sv ss.length (pj ss) m (pj ns) v u): R E rb c v lv (ss++ns) s ls (u.setCell ⟨rb,6,Ä⟩ v)/\Tr E rb sv lv ls.length w v lv ls.length (u.setCell ⟨rb,6,Ä⟩ v):=by
 subst o;have d:∀{i:Nat} {f:Array Ç} {T:õ},sv.ownBlock=Ã i->w.heap[i]?=Ã (Ð f T (0,0))->T=36:=λ{i f T} q l=>by let⟨g,e⟩:=lG h.I q;grind
 have b:R E rb c sv lv ss s ls u:=⟨h.r.I a.r λq=>absurd (d q h.r) A,a.I _ _ _ h.I λ_=>ß _,h.C.I a.r λq=>ok.M<|d q h.C,ia h.M a.r λj q r=>by let⟨g,e⟩:=lG h.M q;exact absurd (d r e) A⟩;have n:u.ownsRow 0 36 1 v (ss++ns).length (pj<|ss++ns):=by have:=a.fp;rwa[show pj ss++pj ns=pj (ss++ns) by simp[pj],show ss.length+ns.length=(ss++ns).length by simp]at this
 have g:=e9.I (X:=λk=>k=rb) (p:=⟨rb,6,Ä⟩) U v<|Ú b.r.G;refine⟨⟨b.r.fW 6 v,ia n g λj q r=>jA n b.r A (by rw[q,r]),b.C.I g<|fg.S b.C b.r ok.I,ia b.M g λj q r=>jA b.M b.r A<|by rw[q,r]⟩,(Tr.I a.r (λi _ q=>Ú<|Ú q) (λj q=>a.C.elim (λe=>Ù<|by rwa[<-e]) λe=>Ú<|by rw[e]at q;cases q;exact ß _) λi f q l=>absurd (d q l) A).ff<|Tr.I g (λi _ q=>Ú<|Ù q) (λj q=>Ù q) λi f q l=> ?_⟩;have e:=b.r;unfold fg at e;grind
end
section
variable{E:iT}{rb:Nat}{c:RC}{sv lv:Ç}{s:St}{ls:List (Nat×Int)}
def R.fK(h:R E rb c sv lv zQ s ls w)(k:e9 (λ_=>False) w W):R E rb c sv lv zQ s ls W:= ⟨h.r.I k id,ia h.I k λ_ _=>id,h.C.I k id,ia h.M k λ_ _=>id⟩
def Tr.fK(k:e9 (λ_=>False) w W):Tr E rb sv lv n w sv lv n W:=Tr.I k (λ_ _=>Ġ) (λ_ q=>Ù q) λ_ _=>Ġ
end
def iY:List (Int×Int×Int):=[(0,0,0),(1,0,1),(1,2,1),(1,2,1),(2,2,1),(2,2,1),(1,2,1),(1,2,1),(1,1,2),(1,2,2),(1,1,0),(1,0,1),(1,0,1),(1,0,1),(1,0,1),(3,1,1),(6,2,0),(2,2,0),(8,2,1),(4,1,0),(8,3,2),(1,1,0),(1,0,0)]
structure iJ(w:É):Prop where
 M:∃cs fz,w.heap[2]?=Ã (Ð cs 300 fz)
 I:∀(k:Nat) (r:Int×Int×Int),iY[k]?=Ã r->w.cell? ⟨2,k*3,Ä⟩=Ã (Â Æ r.1)/\w.cell? ⟨2,k*3+1,Ä⟩=Ã (Â Ë r.2.1)/\w.cell? ⟨2,k*3+2,Ä⟩=Ã (Â Ë r.2.2)
theorem iJ.r(h:iJ w)(k:e9 X w u)(a:¬X 2):iJ u:=by
 let⟨b,c,d⟩:=h.M;have e:2<w.heap.size:=by grind
 refine⟨⟨b,c,by rwa[k.N 2 e a]⟩,λi r f=> ?_⟩;let⟨g,j,l⟩:=h.I i r f;exact⟨k.r g a,k.r j a,k.r l a⟩
theorem iJ.C(h:iJ w)(a:w.heap[j]?=Ã (Ð d T xJ))(b:T≠300):j≠2:=by rintro rfl;let⟨c,e,f⟩:=h.M;grind
def iJ.N{E:iT}(ok:E.Ok){rb:Nat}{c:RC}{sv lv:Ç}{s:St}{a:List (Nat×Int)}(h:iJ w)(r:R E rb c sv lv zQ s a w)(t:Tr E rb sv lv n w v x i u):iJ u:=by
 refine h.r t.r ?_;rintro(e|e|e|e)
 .exact h.C r.C ok.N e.symm
 .exact h.C r.r A e.symm
 .let⟨b,q⟩:=lG r.I e;exact h.C q A U
 .let⟨b,q⟩:=lG r.M e;exact h.C q A U
theorem ML:∀(k:Nat) (r:Int×Int×Int),iY[k]?=Ã r->0<=r.1/\r.1<=8/\0<=r.2.1/\r.2.1<=3/\0<=r.2.2/\r.2.2<=2:=by
 have h:∀r∈iY,0<=r.1/\r.1<=8/\0<=r.2.1/\r.2.1<=3/\0<=r.2.2/\r.2.2<=2:=A
 grind
def me(g:Int)(n:Nat)(b a c:Int):Bool:= !(decide (g<b)||(decide ((n:Int)-a<0)||decide (32<(n:Int)-a+c)))
def Sz(E:iT)(f:Nat)(c:RC)(a d:Ç)(i:List Int)(s:St)(e:List (Nat×Int))(w:É)(j:Int)(b:Bool)(h:É):Prop:=
 R E f (if b then{c with g:=c.g-j}else c) a d i s e h/\Tr E f a d e.length w a d e.length h
section
variable{E:iT}{rb:Nat}{c:RC}{sv lv:Ç}{s:St}{ls:List (Nat×Int)}
def SA(a:R E rb c sv lv zQ s ls w)(k:e9 (λ_=>False) w u):Sz E rb c sv lv zQ s ls w h Ï u:=⟨a.fK k,Tr.fK k⟩
def ala(ok:E.Ok)(a:R E rb c sv lv zQ s ls w){g:Int}(d:c.g=g)(e:u=W.setCell ⟨rb,5,Ä⟩ (Â Æ<|g-h))(k:e9 (λ_=>False) w W):Sz E rb c sv lv zQ s ls w h Ü u:=by subst d e;have b:=a.fK k;let⟨f,i⟩:=b.N ok 5 (c':={c with g:=c.g-h}) U b.I λ_ q=>q;exact⟨f,(Tr.fK k).ff i⟩
end
def C7(E:iT)(ok:E.Ok)(m:Nat)(c:RC)(q r:Ç)(d:List Int)(s:St)(t:List (Nat×Int))(w:É)(h:R E m c q r d s t w)(u:iJ w)(k:Nat)(f b i:Int)(o:iY[k]?=Ã (f,b,i))(y:d.length<=1000)(P:0<=c.g)(Q:c.g<18446744073709551616): Ò À 202 #[Å<|Ã ⟨m,0,Ä⟩,Â Ë k] w λe a=>e=È (Ñ<|me c.g d.length f b i)/\Sz E m c q r d s t w f (me c.g d.length f b i) a:=by
 let⟨z,B,C⟩:=u.I k _ o;obtain⟨a,S,rfl⟩:=jh h.I;have D:=h.r.r 6 _ U;have T:=h.r.r 5 _ U;have V:=h.r.C 5;have W:=h.r.M;have X:k<23:=(Û.1 o).1;let⟨F,G,I,J,K,L⟩:=ML k _ o;simp only at F G I J K L z B C;obtain⟨n,j⟩:∃n,d.length=n:=⟨_,U⟩;rw[j]at D y;have e:me c.g d.length f b i= !(decide (c.g<f)||(decide ((n:Int)-b<0)||decide (32<(n:Int)-b+i))):=by rw[j];rfl
 have H:=fe<|Á h<|Á j e;clear u h j e;generalize M:c.g=g at*;go_enter Tryz.func202,Tryz.ntmps202;go_wp2;go_quiet (fail);go_wp2;by_cases v:g<f
 .go_quiet (fail)
  go_wp2;let⟨h,j,e⟩:=H.out;have l:me g d.length f b i=Ï:=by rw[e];simp[v]
  go_ret;rw[l];refine⟨U,SA h ?_⟩;exact kp
 .have N:=decide_eq_false v;by_cases x:(n:Int)-b<0
  .go_quiet (fail)
   go_wp2;let⟨h,j,e⟩:=H.out;have l:me g d.length f b i=Ï:=by rw[e];simp[x]
   go_ret;rw[l];refine⟨U,SA h ?_⟩;exact kp
  .have O:=decide_eq_false x;go_quiet (fail);go_wp2
   .have p:32<(n:Int)-b+i:=by assumption
    let⟨h,j,e⟩:=H.out;have l:me g d.length f b i=Ï:=by rw[e];simp[p]
    go_ret;rw[l];refine⟨U,SA h ?_⟩;exact kp
   .go_region
    go_wp2;have p:(n:Int)-b+i<=32:=by assumption
    let⟨h,j,e⟩:=H.out;have l:me g d.length f b i=Ü:=by rw[e];simp[N,O,p]
    go_ret;rw[l];refine⟨U,ala ok h M U ?_⟩;exact kp
def pn(s:St)(y:Nat)(q p:Int):Int×St:=
 if(s y).fl<p then(0,s)else(1,(s.fl y<|(s y).fl-p).fl (q%8).toNat<|wu<|(s.fl y ((s y).fl-p) (q%8).toNat).fl+p)
def zn(E:iT)(e:Nat)(c:RC)(a b:Ç)(g:List Int)(s:St)(d:List (Nat×Int))(w:É)(h:St)(f:É):Prop:=
 R E e c a b g h d f/\Tr E e a b d.length w a b d.length f
section
variable{E:iT}{rb:Nat}{c:RC}{sv lv:Ç}{s d f:St}{a:List (Nat×Int)}
def zn.fK(h:R E rb c sv lv zQ s a w)(k:e9 (λ_=>False) w u):zn E rb c sv lv zQ s a w s u:=⟨h.fK k,Tr.fK k⟩
def zn.fl(ok:E.Ok)(h:zn E rb c sv lv zQ s a w d W)(e:i<8)(x:Int):zn E rb c sv lv zQ s a w (d.fl i x) (W.setCell ⟨E.r,i*18,Ä⟩<|Â Æ x):=by let⟨b,f⟩:=h;let⟨g,j⟩:=b.S ok (i*18)<|b.C.zm e x;exact⟨g,f.ff j⟩
end
def alb(E:iT)(ok:E.Ok)(d:Nat)(c:RC)(f g:Ç)(i:List Int)(s:St)(j:List (Nat×Int))(w:É)(h:R E d c f g i s j w)(q p:Int)(n:0<=q)(o:q<18446744073709551616)(r:0<=p)(t:p<18446744073709551616)(a:c.y<8)(u:0<=(s c.y).fl)(v:(s c.y).fl<18446744073709551616): Ò À 209 #[Å<|Ã ⟨d,0,Ä⟩,Â Æ q,Â Æ p] w λe k=>e=È (Â Æ (pn s c.y q p).1)/\zn E d c f g i s j w (pn s c.y q p).2 k:=by
 have x:=h.r.r 0 _ U;have z:=h.r.r 2 _ U;have B:=h.r.M;have C:=fg.M h.C;have D:=h.C.fl a;have F:=fg.C h.C<|c.y*18;have k:(q%8).toNat<8:=Z
 have H:=fe h;by_cases l:(s c.y).fl<p
 .have e:pn s c.y q p=(0,s):=by unfold pn;rw[if_pos l]
  rw[e];generalize(s c.y).fl=b at*;generalize c.y=y at*;go_enter au,ν;go_wp2;go_quiet (fail);go_wp2;go_ret;refine⟨U,zn.fK H.out ?_⟩;exact kp
 .have e:pn s c.y q p=(1,(s.fl c.y<|(s c.y).fl-p).fl (q%8).toNat<|wu<|(s.fl c.y ((s c.y).fl-p) (q%8).toNat).fl+p):=by unfold pn;rw[if_neg l]
  rw[e];have G:=λm=>((h.fK<|e9.iN _ w m).C.zm a<|(s c.y).fl-p).fl k;have I:∀m,((w.drewN m).setCell ⟨E.r,c.y*18,Ä⟩<|Â Æ<|(s c.y).fl-p).frozen? ⟨E.r,(q%8).toNat*18,Ä⟩=Ï:=λm=>fg.C ((h.fK<|e9.iN _ w m).C.zm a<|(s c.y).fl-p) _;generalize(s.fl c.y ((s c.y).fl-p) (q%8).toNat).fl=b2 at*;generalize(s c.y).fl=b at*;go_enter au,ν;go_wp2;go_quiet (fail);go_wp2;go_ret;refine⟨U,((zn.fK H.out ?_).fl ok a _).fl ok k _⟩;exact kp
def kN(E:iT)(rb:Nat)(sv lv:Ç)(n:Nat)(w:É)(c:RC)(f:List Int)(s:St)(a:List (Nat×Int))(b:É):Prop:=
 ∃d e,R E rb c d e f s a b/\Tr E rb sv lv n w d e a.length b
section
variable{E:iT}{rb:Nat}{c a:RC}{sv lv:Ç}{w':É}{b:List Int}{s d:St}{ls f:List (Nat×Int)}{p:Int}
def R.jO(h:R E rb c sv lv zQ s ls w):kN E rb sv lv ls.length w c zQ s ls w:=⟨sv,lv,h,Tr.fT _ _ _ _ _ _⟩
def nt(ok:E.Ok)(h:R E rb c sv lv (zQ++[p]) s ls w)(g:zQ.length<=900):Ò À 204 #[Å<|Ã ⟨rb,0,Ä⟩] w λe w'=>e=È (Â Æ p)/\ ∃a,R E rb c a lv zQ s ls w'/\Tr E rb sv lv ls.length w a lv ls.length w':=by have b:=h.I;rw[show pj (zQ++[p])=pj zQ++[qg p] by simp[pj],show(zQ++[p]).length=zQ.length+1 by simp]at b;refine(MK E.r rb c sv 0 zQ p w h.r b Z).mono ?_;rintro e w' ⟨rfl,a,rfl,d,f⟩;exact⟨U,a,h.N ok 6 U d λj q=>by rwa[<-f]⟩
def zo(ok:E.Ok)(h:R E rb c sv lv zQ s ls w)(i:zQ.length<=900)(x:Int):Ò À 203 #[Å<|Ã ⟨rb,0,Ä⟩,Ê (Ã ⟨w.heap.size,0,Ä⟩) 1 1] (w.alloc<|Ð #[Â Æ x] 36) λe w'=>e=È (ç #[])/\ ∃b,R E rb c b lv (zQ++[x]) s ls w'/\Tr E rb sv lv ls.length w b lv ls.length w':=by have k:=e9.gG (λ_=>False) w #[Â Æ x] 36;have d:=h.fK k;refine(Z8 E.r rb c sv 0 (pj zQ) zQ.length w.heap.size 1 1 [Â Æ x] _ d.r d.I Z Z U (ā _ _ _) (λa f=>by simp at f;subst f;rfl)<|ã _).mono ?_;rintro e w' ⟨rfl,b,u,a,rfl⟩;let⟨f,g⟩:=d.Y ok (ns:=[x]) U a;exact⟨U,b,f,(Tr.fK k).ff g⟩
def SB(ok:E.Ok)(h:R E rb c sv lv zQ s ls w)(i:zQ.length<=900)(x y:Int):Ò À 203 #[Å<|Ã ⟨rb,0,Ä⟩,Ê (Ã ⟨w.heap.size,0,Ä⟩) 2 2] (w.alloc<|Ð #[Â Æ x,Â Æ y] 36) λe w'=>e=È (ç #[])/\ ∃b,R E rb c b lv (zQ++[x,y]) s ls w'/\Tr E rb sv lv ls.length w b lv ls.length w':=by have k:=e9.gG (λ_=>False) w #[Â Æ x,Â Æ y] 36;have d:=h.fK k;refine(Z8 E.r rb c sv 0 (pj zQ) zQ.length w.heap.size 2 2 [Â Æ x,Â Æ y] _ d.r d.I Z Z U (ź _ _ _ _) (λa f=>by simp at f;rcases f with rfl|rfl<;>rfl)<|ã _).mono ?_;rintro e w' ⟨rfl,b,u,a,rfl⟩;let⟨f,g⟩:=d.Y ok (ns:=[x,y]) U a;exact⟨U,b,f,(Tr.fK k).ff g⟩
end
structure il(E:iT)(lv:Ç)(n:Nat)(w:É)(s:St)(ls:List (Nat×Int))(w':É)(jz:Ç):Prop where
 r:iz E.r E.T E.C s jz w'
 I:w'.ownsRow 0 257 2 jz ls.length (kl ls)
 C:e9 (λk=>k=E.r\/lv.ownBlock=Ã k) w w'
 l:∀j,jz.ownBlock=Ã j->lv.ownBlock=Ã j\/w.heap.size<=j
 M:∀v0 n0 xq,w.ownsRow 0 257 2 v0 n0 xq->(v0.ownBlock=lv.ownBlock->n0<=n)->w'.ownsRow 0 257 2 v0 n0 xq/\(v0.ownBlock=jz.ownBlock->n0<=ls.length)
structure C8 where
 r:Int
 C:Bool
 M:Int
 s:St
 I:List (Nat×Int)
abbrev mf:=St->List (Nat×Int)->Nat->Nat->Int->Int->C8
def fY(n:Int):Prop:=0<=n/\n<18446744073709551616
def lH(c:Int):Nat:=
 if 48<=c/\c<=57 then 1 else if c=43 then 2 else if c=45 then 3 else if c=42 then 4 else if c=47 then 5 else if c=60 then 6 else if c=61 then 7
 else if c=100 then 8 else if c=120 then 9 else if c=112 then 10 else if c=107 then 11 else if c=99 then 12 else if c=121 then 13 else if c=98 then 14
 else if c=108 then 15 else if c=116 then 16 else if c=106 then 17 else if c=118 then 18 else if c=101 then 19 else if c=111 then 20 else if c=114 then 21 else if c=102 then 22 else 0
def xw(c:UInt8):Bool:=decide<|lH (c.toNat:Int)≠0
structure gF(s:St):Prop where
 fl:∀i,fY (s i).fl
 C:∀i j,fY<|(s i).C j
 I:∀i,(s i).r.size<=40/\∀c∈(s i).r.data.toList,xw c=Ü
def fZ(l:List Int):Int:=l.getLastD 0
def Z9(l:List Int)(h:0<l.length):l=l.dropLast++[fZ l]:=by
 have a:l≠[]:=by intro e;subst e;simp at h
 unfold fZ;rw[List.getLastD_eq_getLast?,List.getLast?_eq_some_getLast a,Option.getD_some];exact(List.dropLast_concat_getLast a).symm
section
variable{E:iT}{c:RC}{s:St}{a:List (Nat×Int)}{q r:Int}
def alc(ok:E.Ok)(b:R E i c x v (zQ++[h]) s a w)(k:zQ.length<=800)(l:c.y<8): Ò À 205 #[Å<|Ã ⟨i,0,Ä⟩,Â Ë 8] w λe H=>e=È (ç #[])/\kN E i x v a.length w c (zQ++[h,h]) s a H:=by have m:=b.r.r 0 _ U;have n:=b.r.r 2 _ U;have o:=b.r.M;have p:=fg.M b.C;have H:=fe b;go_enter ë,æ;go_wp2_with fail;go_quiet (fail);go_wp2_with fail;go_at_call 204;refine(nt ok (H.out.fK<|e9.iN _ _ _) (by first|omega|(simp;omega))).mono ?_;rintro e q ⟨rfl,r,d,f⟩;go_wp2_with fail;go_at_call 203;refine(SB ok d (by first|omega|(simp;omega)) _ _).mono ?_;rintro e t ⟨rfl,u,g,j⟩;go_wp2_with fail;go_end0;exact⟨U,_,_,g,(((Tr.fK<|e9.iN _ _ _).ff f).ff j)⟩
def ald(ok:E.Ok)(b:R E i c x v ((zQ++[h])++[q]) s a w)(m:zQ.length<=800)(n:c.y<8): Ò À 205 #[Å<|Ã ⟨i,0,Ä⟩,Â Ë 9] w λe H=>e=È (ç #[])/\kN E i x v a.length w c (zQ++[q,h]) s a H:=by have o:=b.r.r 0 _ U;have p:=b.r.r 2 _ U;have r:=b.r.M;have t:=fg.M b.C;have H:=fe b;go_enter ë,æ;go_wp2_with fail;go_quiet (fail);go_wp2_with fail;go_at_call 204;refine(nt ok (H.out.fK<|e9.iN _ _ _) (by first|omega|(simp;omega))).mono ?_;rintro e u ⟨rfl,z,d,f⟩;go_wp2_with fail;go_at_call 204;refine(nt ok d (by first|omega|(simp;omega))).mono ?_;rintro e B ⟨rfl,C,g,j⟩;go_wp2_with fail;go_at_call 203;refine(SB ok g (by first|omega|(simp;omega)) _ _).mono ?_;rintro e D ⟨rfl,F,k,l⟩;go_wp2_with fail;go_end0;exact⟨U,_,_,k,((((Tr.fK<|e9.iN _ _ _).ff f).ff j).ff l)⟩
def ale(ok:E.Ok)(b:R E i c x v (zQ++[h]) s a w)(g:zQ.length<=800)(j:c.y<8): Ò À 205 #[Å<|Ã ⟨i,0,Ä⟩,Â Ë 10] w λe H=>e=È (ç #[])/\kN E i x v a.length w c zQ s a H:=by have k:=b.r.r 0 _ U;have l:=b.r.r 2 _ U;have m:=b.r.M;have n:=fg.M b.C;have H:=fe b;go_enter ë,æ;go_wp2_with fail;go_quiet (fail);go_wp2_with fail;go_at_call 204;refine(nt ok (H.out.fK<|e9.iN _ _ _) (by first|omega|(simp;omega))).mono ?_;rintro e o ⟨rfl,p,d,f⟩;go_wp2_with fail;go_end0;exact⟨U,_,_,d,((Tr.fK<|e9.iN _ _ _).ff f)⟩
def alf(ok:E.Ok)(h:R E i c x v zQ s a w)(f:zQ.length<=800)(g:c.y<8): Ò À 205 #[Å<|Ã ⟨i,0,Ä⟩,Â Ë 11] w λe H=>e=È (ç #[])/\kN E i x v a.length w c (zQ++[c.k]) s a H:=by have j:=h.r.r 0 _ U;have l:=h.r.r 2 _ U;have m:=h.r.M;have n:=fg.M h.C;have o:=h.r.r 3 _ U;have H:=fe h;go_enter ë,æ;go_wp2_with fail;go_quiet (fail);go_wp2_with fail;go_at_call 203;refine(zo ok (H.out.fK<|e9.iN _ _ _) (by first|omega|(simp;omega)) _).mono ?_;rintro e p ⟨rfl,q,b,d⟩;go_wp2_with fail;go_end0;exact⟨U,_,_,b,((Tr.fK<|e9.iN _ _ _).ff d)⟩
def alg(ok:E.Ok)(h:R E i c x v zQ s a w)(f:zQ.length<=800)(g:c.y<8)(j:c.x<8): Ò À 205 #[Å<|Ã ⟨i,0,Ä⟩,Â Ë 12] w λe H=>e=È (ç #[])/\kN E i x v a.length w c (zQ++[(c.x:Int)]) s a H:=by have k:=h.r.r 0 _ U;have l:=h.r.r 2 _ U;have m:=h.r.M;have n:=fg.M h.C;have o:=h.r.r 1 _ U;have H:=fe h;go_enter ë,æ;go_wp2_with fail;go_quiet (fail);go_wp2_with fail;go_at_call 203;refine(zo ok (H.out.fK<|e9.iN _ _ _) (by first|omega|(simp;omega)) _).mono ?_;rintro e p ⟨rfl,q,b,d⟩;go_wp2_with fail;go_end0;exact⟨U,_,_,b,((Tr.fK<|e9.iN _ _ _).ff d)⟩
def alh(ok:E.Ok)(h:R E i c x v zQ s a w)(f:zQ.length<=800)(g:c.y<8): Ò À 205 #[Å<|Ã ⟨i,0,Ä⟩,Â Ë 13] w λe H=>e=È (ç #[])/\kN E i x v a.length w c (zQ++[(c.y:Int)]) s a H:=by have j:=h.r.r 0 _ U;have k:=h.r.r 2 _ U;have l:=h.r.M;have m:=fg.M h.C;have H:=fe h;go_enter ë,æ;go_wp2_with fail;go_quiet (fail);go_wp2_with fail;go_at_call 203;refine(zo ok (H.out.fK<|e9.iN _ _ _) (by first|omega|(simp;omega)) _).mono ?_;rintro e n ⟨rfl,o,b,d⟩;go_wp2_with fail;go_end0;exact⟨U,_,_,b,((Tr.fK<|e9.iN _ _ _).ff d)⟩
def ali(ok:E.Ok)(h:R E i c x v zQ s a w)(g:zQ.length<=800)(b:c.y<8): Ò À 205 #[Å<|Ã ⟨i,0,Ä⟩,Â Ë 14] w λe H=>e=È (ç #[])/\kN E i x v a.length w c (zQ++[(s c.y).fl]) s a H:=by have j:=h.r.r 0 _ U;have k:=h.r.r 2 _ U;have l:=h.r.M;have m:=fg.M h.C;have n:=h.C.fl b;have H:=fe h;go_enter ë,æ;go_wp2_with fail;go_quiet (fail);go_wp2_with fail;go_at_call 203;refine(zo ok (H.out.fK<|e9.iN _ _ _) (by first|omega|(simp;omega)) _).mono ?_;rintro e o ⟨rfl,p,d,f⟩;go_wp2_with fail;go_end0;exact⟨U,_,_,d,((Tr.fK<|e9.iN _ _ _).ff f)⟩
def alj(ok:E.Ok)(b:R E i c x v (zQ++[h]) s a w)(o:zQ.length<=800)(g:c.y<8)(d:fY h): Ò À 205 #[Å<|Ã ⟨i,0,Ä⟩,Â Ë 15] w λe f=>e=È (ç #[])/\kN E i x v a.length w c (zQ++[(s c.y).C (h%16).toNat]) s a f:=by have p:=b.r.r 0 _ U;have q:=b.r.r 2 _ U;have r:=b.r.M;have t:=fg.M b.C;have H:=fe b;go_enter ë,æ;go_wp2_with fail;go_quiet (fail);go_wp2_with fail;go_at_call 204;refine(nt ok (H.out.fK<|e9.iN _ _ _) (by first|omega|(simp;omega))).mono ?_;rintro e u ⟨rfl,z,f,k⟩;have B:=f.C.Z4 g (j:=(h%16).toNat) Z;have C:=d.1;have D:=d.2;go_wp2_with fail;go_at_call 208;refine(Z5 E.r (c.y*18) h d.1 d.2 _).mono ?_;rintro e l ⟨rfl,F⟩;subst l;go_wp2_with fail;go_at_call 203;refine(zo ok f (by first|omega|(simp;omega)) _).mono ?_;rintro e G ⟨rfl,I,m,n⟩;go_wp2_with fail;go_end0;exact⟨U,_,_,m,(((Tr.fK<|e9.iN _ _ _).ff k).ff n)⟩
def alk(ok:E.Ok)(b:R E i c x v ((zQ++[h])++[q]) s a w)(r:zQ.length<=800)(g:c.y<8)(d:fY q): Ò À 205 #[Å<|Ã ⟨i,0,Ä⟩,Â Ë 16] w λe f=>e=È (ç #[])/\kN E i x v a.length w c zQ (s.r c.y (q%16).toNat h) a f:=by have t:=b.r.r 0 _ U;have u:=b.r.r 2 _ U;have z:=b.r.M;have B:=fg.M b.C;have H:=fe b;go_enter ë,æ;go_wp2_with fail;go_quiet (fail);go_wp2_with fail;go_at_call 204;refine(nt ok (H.out.fK<|e9.iN _ _ _) (by first|omega|(simp;omega))).mono ?_;rintro e C ⟨rfl,D,k,l⟩;go_wp2_with fail;go_at_call 204;refine(nt ok k (by first|omega|(simp;omega))).mono ?_;rintro e F ⟨rfl,G,f,m⟩;have I:=f.C.Z4 g (j:=(q%16).toNat) (by have:=d.1;omega);have J:=fg.C f.C<|c.y*18+2+(q%16).toNat;go_wp2_with fail;go_at_call 208;refine(Z5 E.r (c.y*18) q d.1 d.2 _).mono ?_;rintro e n ⟨rfl,K⟩;subst n;go_wp2_with fail;go_end0;let⟨o,p⟩:=f.S ok (c.y*18+2+(q%16).toNat) (f.C.Sy g (by have:=d.1;omega) h);exact⟨U,_,_,o,(((Tr.fK<|e9.iN _ _ _).ff l).ff m).ff p⟩
def alm(ok:E.Ok)(b:R E i c x v ((zQ++[h])++[q]) s a w)(u:zQ.length<=800)(j:c.y<8)(d:fY h)(f:fY q)(g:gF s): Ò À 205 #[Å<|Ã ⟨i,0,Ä⟩,Â Ë 18] w λe H=>e=È (ç #[])/\kN E i x v a.length w c (zQ++[(pn s c.y q h).1]) (pn s c.y q h).2 a H:=by have z:=b.r.r 0 _ U;have B:=b.r.r 2 _ U;have C:=b.r.M;have D:=fg.M b.C;have H:=fe b;go_enter ë,æ;go_wp2_with fail;go_quiet (fail);go_wp2_with fail;go_at_call 204;refine(nt ok (H.out.fK<|e9.iN _ _ _) (by first|omega|(simp;omega))).mono ?_;rintro e F ⟨rfl,G,k,l⟩;go_wp2_with fail;go_at_call 204;refine(nt ok k (by first|omega|(simp;omega))).mono ?_;rintro e I ⟨rfl,J,m,n⟩;go_wp2_with fail;go_at_call 209;refine(alb E ok i c _ v _ s a _ m q h f.1 f.2 d.1 d.2 j (g.fl _).1 (g.fl _).2).mono ?_;rintro e K ⟨rfl,o,p⟩;go_wp2_with fail;go_at_call 203;refine(zo ok o (by first|omega|(simp;omega)) _).mono ?_;rintro e L ⟨rfl,M,r,t⟩;go_wp2_with fail;go_end0;exact⟨U,_,_,r,(((((Tr.fK<|e9.iN _ _ _).ff l).ff n).ff p).ff t)⟩
def aln{k:Int}(ok:E.Ok)(b:R E i c x v ((zQ++[h])++[q]) s a w)(r:zQ.length<=800)(t:c.y<8)(d:fY h)(f:fY q)(u:2<=k)(z:k<=7): Ò À 205 #[Å<|Ã ⟨i,0,Ä⟩,Â Ë k] w λe H=>e=È (ç #[])/\kN E i x v a.length w c (zQ++[xv k h q]) s a H:=by
 have B:=b.r.r 0 _ U;have C:=b.r.r 2 _ U;have D:=b.r.M;have F:=fg.M b.C;have G:(k==8)=Ï:=by rw[beq_eq_false_iff_ne];omega
 have I:(k==9)=Ï:=by rw[beq_eq_false_iff_ne];omega
 have J:(k==10)=Ï:=by rw[beq_eq_false_iff_ne];omega
 have K:(k==11)=Ï:=by rw[beq_eq_false_iff_ne];omega
 have L:(k==12)=Ï:=by rw[beq_eq_false_iff_ne];omega
 have M:(k==13)=Ï:=by rw[beq_eq_false_iff_ne];omega
 have N:(k==14)=Ï:=by rw[beq_eq_false_iff_ne];omega
 have O:(k==15)=Ï:=by rw[beq_eq_false_iff_ne];omega
 have P:(k==16)=Ï:=by rw[beq_eq_false_iff_ne];omega
 have Q:(k==18)=Ï:=by rw[beq_eq_false_iff_ne];omega
 have S:(k==19)=Ï:=by rw[beq_eq_false_iff_ne];omega
 have T:(k==20)=Ï:=by rw[beq_eq_false_iff_ne];omega
 have H:=fe b;go_enter ë,æ;go_wp2_with fail;go_quiet (fail);go_wp2_with fail;go_at_call 204;refine(nt ok (H.out.fK<|e9.iN _ _ _) (by first|omega|(simp;omega))).mono ?_;rintro e V ⟨rfl,W,g,j⟩;go_wp2_with fail;go_at_call 204;refine(nt ok g (by first|omega|(simp;omega))).mono ?_;rintro e X ⟨rfl,Y,l,m⟩;go_wp2_with fail;go_at_call 211;refine(ak3 k h q d.1 d.2 f.1 f.2 _).mono ?_;rintro e n ⟨rfl,uw⟩;subst n;go_wp2_with fail;go_at_call 203;refine(zo ok l (by first|omega|(simp;omega)) _).mono ?_;rintro e w4 ⟨rfl,sv4,o,p⟩;go_wp2_with fail;go_end0;exact⟨U,_,_,o,((((Tr.fK<|e9.iN _ _ _).ff j).ff m).ff p)⟩
end
def MN{P:Program}{ops:Array Oper}{o:Oper}{a:Act}{w:World}{K:Act->World->Prop}{Q:Exit->Act->World->Prop}{E:Prop}{base:Nat}{e:TypeId}{size n:Nat}{v:Value}{xs:List Value} (hg:o.guard=none) (s x:Operand) (t:TypeId) (oZ:o.op=Op.call {callee:=Callee.builtin Builtin.append,args:=#[s,x],argTypes:=#[t,t]}) {i:TypeInfo} {z:Value} {bytes:Nat} (ht:P.underlying t=some (.slice e)) (hi:P.info? e=some i) (hz:i.zero=some z) (xr:i.size=size) (xt:i.bytes=bytes) (rK:z.cells.size=size) (hs:a.eval s=v) (lE:w.ownsRow base e size v n xs) (ad:Addr) {m c:Nat} (news:List Value) (hx:a.eval x=.slice (some ad) m c) (hm:0<m) (hl:news.length=m*size) (Sv:∀j u,news[j]?=some u->w.cell? (ad.add j)=some u) (h1:∀u∈news,u.oneCell'=true) (C4:n+m<=maxLen) (C5:(n+m)*bytes<=140737488355328) (C0:base<=w.heap.size) (h:∀v' w',qf w base e size v n xs m news v' w'->K (a.put o.dst v') w') (hfl:mb e=false\/(0<news.length/\(∀u∈xs++news,kj u=true)/\∀u∈z.cells.toList,kj u=true):=by first|exact Or.inl (by decide)|exact Or.inr ⟨by simp,by simp[kj],by simp[kj,Value.cells]⟩): if Region.wanted o (yielded ops a.tmps)=true then Oper.wp P o a w K Q else E:=by
 have hw:ģ o (av ops a.tmps)=Ü:=by simp[ģ,hg]
 rw[if_pos hw];let⟨v',w',hr,h2⟩:=Sq (ty:=o.type) ht hi hz xr xt rK lE ad c news hm hl Sv h1 C4 C5 C0 hfl;unfold ň;simp[Ī,oZ,ak,aV,ar,hs,hx,hr,ĵ];exact h v' w' h2
def alo:(À.info? 257).map (λi=>(i.zero,i.size,i.bytes))=Ã (Ã<|Ė #[Â Ë 0,Â Æ 0],2,16):=ft
def a_(b:List (Nat×Int)):∀u∈kl b,kj u=Ü:=λu a=>by unfold kl at a;let⟨e,_,h⟩:=Η.1 a;simp[Sw,qg]at h;rcases h with rfl|rfl<;>rfl
section
variable{E:iT}{c:RC}{g d:Ç}{s:St}{ls:List (Nat×Int)}{p:Int}
theorem R.alp(ok:E.Ok)(h:R E k c g jQ zQ s ls w)(a:qf w 0 257 2 jQ ls.length (kl ls) 1 [Â Ë b,Â Æ p] d W): (R E k c g jQ zQ s ls W/\W.ownsRow 0 257 2 d (ls++[(b,p)]).length (kl<|ls++[(b,p)]))/\ R E k c g d zQ s (ls++[(b,p)]) (W.setCell ⟨E.r,144,Ä⟩ d)/\Tr E k g jQ ls.length w g d (ls++[(b,p)]).length (W.setCell ⟨E.r,144,Ä⟩ d):=by
 have m:∀{i:Nat} {o:Array Ç} {T:õ},jQ.ownBlock=Ã i->w.heap[i]?=Ã (Ð o T (0,0))->T=257:=λ{i o T} q hc=>by let⟨l,e⟩:=lG h.M q;grind
 have f:R E k c g jQ zQ s ls W:=⟨h.r.I a.r λq=>absurd (m q h.r) A,ia h.I a.r (λj q r=>by let⟨l,e⟩:=lG h.I q;exact absurd (m r e) A),h.C.I a.r λq=>ok.r<|m q h.C,a.I _ _ _ h.M λ_=>ß _⟩;have n:W.ownsRow 0 257 2 d (ls++[(b,p)]).length (kl<|ls++[(b,p)]):=by have:=a.fp;rwa[show kl ls++[Â Ë b,Â Æ p]=kl (ls++[(b,p)]) by simp[kl,Sw,qg],show ls.length+1=(ls++[(b,p)]).length by simp]at this
 have l:=e9.I (X:=λe=>e=E.r) (p:=⟨E.r,144,Ä⟩) U d<|Ú<|fg.G f.C ok.C;refine⟨⟨f,n⟩,⟨f.r.I l (fg.S f.C f.r ok.I).symm,ia f.I l λj q r=>jA f.I f.C ok.M.symm (by rw[q,r]),f.C.ak0 d,ia n l λj q r=>jA n f.C ok.r.symm<|by rw[q,r]⟩,?_,λj q=>Ù q,λj q=> ?_,λv x y t z=> ?_⟩
 .refine(a.r.S λe _ q=>Ú<|Ú<|Ú q).C l λi _ q=>Ù q
 .rcases a.C with e|e;all_goals grind
 .have u:=a.I v x y t z;refine⟨ia u l λj q r=>jA u f.C ok.r.symm (by rw[q,r]),λq=> ?_⟩;rcases a.C with e|e
  .grind
  .rw[e]at q;have:=(t.lt _ q).2;omega
end
def gi{f:(Nat->Value)->Act}(a:Act)(h:a=f (λn=>a.tmps.getD n undef):=by rfl):∃u,a=f u:=⟨_,h⟩
section
variable{md:Ξ}{ops:Array Ŧ}{Q:aZ->ê->É->Prop}{S:É->Prop}{X:List Nat}
def oM(P:aL)(md:Ξ)(ops:Array Ŧ)(Q:aZ->ê->É->Prop)(S:É->Prop)(X:List Nat):Nat->Array Bool->ê->É->Prop
 |0,listed,a,w=>Ă md ops listed=[]/\Q .normal a w
 |fuel+1,listed,a,w=>(Ă md ops listed=[]->Q .normal a w)/\
  ∀i∈Ă md ops listed,wpOp P ops Q i (λc b=>(i∉X->S b)/\oM P md ops Q S X fuel (listed.setIfInBounds i Ü) c b) a w
def b_:∀(b:Nat) (listed:Array Bool) (a:ê) (w:É),oM P md ops Q S X b listed a w->wpAny P md ops Q b listed a w
 |0,_,_,_,h=>h
 |b+1,_,_,_,h=>⟨h.1,λi c=>wpOp_mono (λd e q=>b_ b _ d e q.2)<|h.2 i c⟩
def sI(md:Ξ)(ops:Array Ŧ)(X:List Nat)(i:Nat):Bool:=X.all λx=>match ops[x]? with
 |some o=>o.after.toList.any λe=>Ŋ md e&&e.on==i
 |none=>Ü
theorem alq{listed:Array Bool}(a:sI md ops X i=Ü)(c:ops[j]?=Ã o)(d:listed.getD i Ï=Ï)(f:∀e∈o.after,Ŋ md e=Ü->listed.getD e.on Ï=Ü):j∉X:=by intro b;have g:=List.all_eq_true.1 a j b;grind
theorem alr{m:Ŧ}(x:ops[i]?=Ã m)(y:∀(j:Nat) (o:Ŧ) n b,ops[j]?=Ã o->o.op≠.select n b)(E:sI md ops X i=Ü) (F:∀c a w,Q (.panic c) (a.put m.dst v) w->Q (.panic c) a w): ∀(p:Nat) (d:Array Bool) (a:ê) (w:É),(∀j g,ops[j]?=Ã g->j≠i->d.getD j Ü=Ï->(∀e∈g.after,Ŋ md e=Ü->e.on≠i)->m.apart ops g=Ü)-> i∈Ă md ops d->YieldsIf P ops S m v a->S w->oM P md ops Q S X p (d.setIfInBounds i Ü) (a.put m.dst v) w->oM P md ops Q S X (p+1) d a w:=by
 have G:∀{d:Array Bool},i∈Ă md ops d->d.getD i Ï=Ï:=λ{d} l=>by have D:=(mem_ready.1 l).1;grind
 intro p
 induction p with
 |zero=>
  intro d a w _ l s r H;refine⟨λh=>absurd (h▸l) fj,λj t=> ?_⟩;by_cases f:j=i
  .subst f;exact s.wpOp x r ⟨λ_=>r,H⟩
  .exact absurd (H.1▸θ t f) fj
 |succ p I=>
  intro d a w z l s r H;refine⟨λh=>absurd (h▸l) fj,λj t=> ?_⟩;by_cases f:j=i
  .subst f;exact s.wpOp x r ⟨λ_=>r,H⟩
  .let⟨B,g,u,J⟩:=mem_ready.1 t;have K:∀e∈g.after,Ŋ md e=Ü->e.on≠i:=λe V W Y=>by
    grind
   refine wpOp_mono (λD L q=>⟨q.2.1,I (d.setIfInBounds j Ü) D L (λk M N O C T=>z k M N O ?_ T) (θ l<|Ne.symm f) q.1 (q.2.1<|alq E u (G l) J) ?_⟩)<|wpOp_putIf u (z j g u f B K) (λn b=>y i m n b x) (λn b=>y j g n b u) F s<|H.2 j<|θ t f
   .by_cases D:j=k
    .subst D;exact B
    .rwa[getD_set_ne Ü D]at C
   .rw[Array.setIfInBounds_comm _ _ f];exact q.2.2
def I2{oi:Ŧ}{listed:Array Bool}(b:ops[i]?=Ã oi) (d:Region.noSelect ops=Ü) (e:Region.free md ops listed i=Ü) (f:(Ă md ops listed).contains i=Ü) (g:sI md ops X i=Ü) (j:∀c y w,Q (.panic c) (y.put oi.dst v) w->Q (.panic c) y w) (k:S w) (l:YieldsIf P ops S oi v y) (h:oM P md ops Q S X n (listed.setIfInBounds i Ü) (y.put oi.dst v) w):oM P md ops Q S X (n+1) listed y w:= alr b (Region.noSelect_spec d) g j n listed y w (Region.free_spec b e) (by simpa using f) l k h
def als{listed:Array Bool}(c:Ă md ops listed=[i])(e:ops[i]?=Ã o) (h:∀b:ê->É->Prop,Shut (∀y w,(i∉X->S w)->oM P md ops Q S X n (listed.setIfInBounds i Ü) y w->b y w)->if ģ o (av ops y.tmps)=Ü then ň P o y w b Q else b (y.put o.dst Ą) w):oM P md ops Q S X (n+1) listed y w:=by
 refine⟨λq=>absurd (c▸q) fj,λj d=> ?_⟩;rw[c]at d;have:j=i:=by simpa using d
 subst this;exact ah e λb f=>h b λy w g k=>f y w ⟨g,k⟩
def ix:List Ŧ->Nat->Option Ŧ
 |[],_=>Ä
 |o::_,0=>Ã o
 |_::l,n+1=>ix l n
def c_:∀{l:List Ŧ} {i:Nat} {o:Ŧ},ix l i=Ã o->l.toArray[i]?=Ã o
 |[],_,_,h=>by cases h
 |o::l,0,_,h=>by simpa[ix]using h
 |o::l,n+1,_,h=>by simpa using c_ (l:=l) h
def d_(h:ix ops.toList i=Ã o):ops[i]?=Ã o:=by simpa using c_ h
def tk(i:Nat){oi:Oper}{v:Value}{fuel:Nat}{listed:Array Bool}{a0 a a':Act}{w:World}(hS:S w)(h:oM P md ops Q S X fuel (listed.setIfInBounds i true) a' w) (h0:a0=a:=by(try simp only[Act.put,List.setIfInBounds_toArray,List.set_cons_zero,List.set_cons_succ]);rfl) (hi:ix ops.toList i=some oi:=by rfl) (hs:Region.noSelect ops=true:=by kernel_rfl) (hf:Region.free md ops listed i=true:=by kernel_rfl) (hr:(Region.ready md ops listed).contains i=true:=by kernel_rfl) (hw:sI md ops X i=true:=by kernel_rfl) (hQ:∀v c a w,Q (.panic c) (a.put oi.dst v) w->Q (.panic c) a w:=by exact λ_ _ _ _ h=>h) (hn:Region.wanted oi (yielded ops a.tmps)=true:=by rfl) (hy:∀w,S w->(execOp a.eval oi).run P w=.ok (.value v) w:=by intro w h;revert h;simp only[and_imp];intros;go_simp;try(with_reducible rfl)) (ha:a.put oi.dst v=a':=by(try simp only[Act.put,List.setIfInBounds_toArray,List.set_cons_zero,List.set_cons_succ]);rfl):oM P md ops Q S X (fuel+1) listed a0 w:= h0▸I2 (d_ hi) hs hf hr hw (hQ v) hS (Ù ⟨hn,hy⟩) (ha▸h)
def gD(i:Nat){o:Oper}{fuel:Nat}{listed:Array Bool}{a0 a:Act}{w:World} (h:∀K':Act->World->Prop,Shut (∀a w,(i∉X->S w)->oM P md ops Q S X fuel (listed.setIfInBounds i true) a w->K' a w)->if Region.wanted o (yielded ops a.tmps)=true then Oper.wp P o a w K' Q else K' (a.put o.dst undef) w) (h0:a0=a:=by(try simp only[Act.put,List.setIfInBounds_toArray,List.set_cons_zero,List.set_cons_succ]);rfl) (hr:Region.ready md ops listed=[i]:=by kernel_rfl) (ho:ix ops.toList i=some o:=by rfl):oM P md ops Q S X (fuel+1) listed a0 w:=h0▸als hr (d_ ho) h
def alu{oi oj:Ŧ}{listed:Array Bool}(g:Ă md ops listed=[i,j])(h:ops[i]?=Ã oi)(l:ops[j]?=Ã oj) (m:∀b:ê->É->Prop,Shut (∀y w,(i∉X->S w)->oM P md ops Q S X n (listed.setIfInBounds i Ü) y w->b y w)->if ģ oi (av ops y.tmps)=Ü then ň P oi y w b Q else b (y.put oi.dst Ą) w) (o:∀b:ê->É->Prop,Shut (∀y w,(j∉X->S w)->oM P md ops Q S X n (listed.setIfInBounds j Ü) y w->b y w)->if ģ oj (av ops y.tmps)=Ü then ň P oj y w b Q else b (y.put oj.dst Ą) w):oM P md ops Q S X (n+1) listed y w:=by
 refine⟨λq=>absurd (g▸q) fj,λk c=> ?_⟩;rw[g]at c;rcases List.mem_cons.1 c with rfl|c
 .exact ah h λb d=>m b λy w e f=>d y w ⟨e,f⟩
 .have:k=j:=by simpa using c
  subst this;exact ah l λb d=>o b λy w e f=>d y w ⟨e,f⟩
def lS{listed:Array Bool}(b:Ă md ops listed=[])(h:Q .normal y w):∀c,oM P md ops Q S X c listed y w
 |0=>⟨b,h⟩
 |_+1=>⟨λ_=>h,by rw[b];simp⟩
def mg{id:Nat}(S:É->Prop)(X:List Nat)(b:P.follows .mixedOrders=Ü) (h:oM P .any ops Q S X ops.size (Œ ops.size Ï) y w.drew):(Code.region id ops Ü).wp P Q y w:= wp_region_any b<|b_ _ _ _ _ h
end
section
variable{E:iT}{c:RC}{s:St}{a:List (Nat×Int)}
def alv(ok:E.Ok)(b:R E i c x v (zQ++[h]) s a w)(G:zQ.length<=800)(I:c.y<8)(J:a.length<=1000000): Ò À 205 #[Å<|Ã ⟨i,0,Ä⟩,Â Ë 19] w λe u=>e=È (ç #[])/\kN E i x v a.length w c zQ s (a++[(c.y,h)]) u:=by
 have L:w.cell? ⟨i,0,Ä⟩=Ã (Å<|Ã ⟨E.r,0,Ä⟩):=b.r.r 0 _ U;have M:w.cell? ⟨i,2,Ä⟩=Ã (Â Ë c.y):=b.r.r 2 _ U;have N:=b.r.M;have O:=fg.M b.C;let⟨P,o,p,r,t⟩:=ï alo;have k:=fe<|Á o<|Á p<|Á r t;have H:=fe b;clear b o p r t;go_enter ë,æ;go_wp2_with fail;go_quiet (fail);go_wp2_with fail;have f:=fe<|Á ((H.out.fK<|(e9.iN _ _ nq).ff<|e9.fR _ _).r.r 0 _ rfl)<|Á ((H.out.fK<|(e9.iN _ _ nq).ff<|e9.fR _ _).r.r 2 _ rfl) (H.out.fK<|(e9.iN _ _ nq).ff<|e9.fR _ _).C.C6;refine mg (λu=>u.cell? ⟨i,0,Ä⟩=Ã (Å<|Ã ⟨E.r,0,Ä⟩)/\u.cell? ⟨i,2,Ä⟩=Ã (Â Ë c.y)/\u.cell? ⟨E.r,144,Ä⟩=Ã v) [22] ft ?_;refine tk 0 f.out ?_;refine tk 1 f.out ?_;refine tk 2 f.out ?_;refine tk 3 f.out ?_;refine tk 4 f.out ?_;refine tk 5 f.out ?_;refine tk 6 f.out ?_;refine tk 7 f.out ?_;refine tk 8 f.out ?_;refine tk 9 f.out ?_;refine tk 10 f.out ?_;refine tk 11 f.out ?_;refine tk 12 f.out ?_;refine tk 13 f.out ?_;refine tk 14 f.out ?_;refine tk 15 f.out ?_;refine gD 16 ?_;intro K d;go_simp;go_at_call 204;refine(nt ok (H.out.fK<|e9.iN _ _ _) Z).mono ?_;rintro e z ⟨rfl,Q,g,C⟩;dsimp only;refine d.out _ _ (λ_=>⟨g.r.r 0 _ U,g.r.r 2 _ U,g.C.C6⟩) ?_;clear d K;refine gD 17 ?_;intro K d;go_simp;refine d.out _ _ (λ_=>⟨g.r.r 0 _ U,g.r.r 2 _ U,g.C.C6⟩) ?_;clear d K;have j:=g.fK (e9.gG (λ_=>False) z #[Â Ë c.y,Â Æ h] 257);refine gD 18 ?_;intro K d;go_simp;refine d.out _ _ (λ_=>⟨j.r.r 0 _ U,j.r.r 2 _ U,j.C.C6⟩) ?_;clear d K;refine gD 19 ?_;intro K d;refine MN (hfl:=Ú ⟨fj,λu l=>(û.1 l).elim (a_ a u) (λq=>by simp at q;rcases q with rfl|rfl<;>rfl),by simp[kj,Ħ]⟩) (base:=0) (n:=a.length) (xs:=kl a) (m:=1) fO _ _ 142 fO Tryz.underlying142 k.out.1 k.out.2.1 k.out.2.2.1 k.out.2.2.2 U fO j.M ⟨z.heap.size,0,Ä⟩ [Â Ë c.y,Â Æ h] fO Z U (ź _ _ _ _) (λu l=>by simp at l;rcases l with rfl|rfl<;>rfl) (by unfold Ĉ;omega) Z (ã _) ?_;intro S T l;obtain⟨V,W,rfl⟩:=jh l.fp;let⟨⟨u,_⟩,D,F⟩:=j.alp ok l;refine d.out _ _ (λ_=>⟨u.r.r 0 _ U,u.r.r 2 _ U,u.C.C6⟩) ?_;clear d K;have B:=u.C.C6;have X:=fg.C u.C 144;refine gD 20 ?_;intro K d;go_simp;refine d.out _ _ (λ_=>⟨u.r.r 0 _ U,u.r.r 2 _ U,B⟩) ?_;clear d K;refine gD 21 ?_;intro K d;go_simp;refine d.out _ _ (λ_=>⟨u.r.r 0 _ U,u.r.r 2 _ U,B⟩) ?_;clear d K;refine gD 22 ?_;intro K d;go_simp;refine d.out _ _ (λq=>absurd fj q) ?_;clear d K;try simp only[ĺ,Ö,ä,å]
 refine lS ft ?_ _;go_wp2_with fail;go_end0;exact⟨U,_,_,D,(((Tr.fK<|(e9.iN _ _ _).ff<|e9.fR _ _).ff C).ff<|Tr.fK<|e9.gG _ _ _ _).ff F⟩
end
structure RT where
 r:List Int
 s:St
 C:List (Nat×Int)
 g:Int
def iU(F:mf)(c:RC)(t:RT)(q p k:Int):Int×Int×RT:=
 if c.d=4 then(0,0,t)else
  ((F t.s t.C c.y (q%8).toNat (min p t.g) k).M,xu (F t.s t.C c.y (q%8).toNat (min p t.g) k).C,
    {t with s:=(F t.s t.C c.y (q%8).toNat (min p t.g) k).s,C:=(F t.s t.C c.y (q%8).toNat (min p t.g) k).I,g:=t.g-(F t.s t.C c.y (q%8).toNat (min p t.g) k).r})
def fV(l:List Int):List Int:=l.dropLast
def n9(F:mf)(c:RC)(a:Nat)(t:RT):RT:=
 if a=8 then{t with r:=fV t.r++[fZ t.r,fZ t.r]}
 else if a=9 then{t with r:=fV (fV t.r)++[fZ t.r,fZ<|fV t.r]}
 else if a=10 then{t with r:=fV t.r}
 else if a=11 then{t with r:=t.r++[c.k]}
 else if a=12 then{t with r:=t.r++[(c.x:Int)]}
 else if a=13 then{t with r:=t.r++[(c.y:Int)]}
 else if a=14 then{t with r:=t.r++[(t.s c.y).fl]}
 else if a=15 then{t with r:=fV t.r++[(t.s c.y).C (fZ t.r%16).toNat]}
 else if a=16 then{t with r:=fV<|fV t.r,s:=t.s.r c.y (fZ t.r%16).toNat (fZ<|fV t.r)}
 else if a=18 then{t with r:=fV (fV t.r)++[(pn t.s c.y (fZ t.r)<|fZ<|fV t.r).1],s:=(pn t.s c.y (fZ t.r)<|fZ<|fV t.r).2}
 else if a=19 then{t with r:=fV t.r,C:=t.C++[(c.y,fZ t.r)]}
 else if a=20 then
  {(iU F c t (fZ t.r) (fZ<|fV t.r)<|fZ<|fV<|fV t.r).2.2 with r:=fV (fV<|fV t.r)++[(iU F c t (fZ t.r) (fZ<|fV t.r)<|fZ<|fV<|fV t.r).1,(iU F c t (fZ t.r) (fZ<|fV t.r)<|fZ<|fV<|fV t.r).2.1]}
 else{t with r:=fV (fV t.r)++[xv a (fZ<|fV t.r)<|fZ t.r]}
structure f_(ls:List (Nat×Int))(g:Int)(e:C8):Prop where
 C:0<=e.r
 r:e.r<=g
 N:gF e.s
 M:fY e.M
 I:(e.I.length:Int)<=ls.length+e.r
def qj(F:mf):Prop:=∀s a x y g k,gF s->x<8->y<8->fY k->0<=g->g<=100000->(a.length:Int)+g<=1000000->f_ a g (F s a x y g k)
def sZ(F:mf)(d:Int):Prop:=∀(E:iT),E.Ok->∀(s:St) (b:Ç) (a:List (Nat×Int)) (x y:Nat) (g k:Int) (w:É),iz E.r E.T E.C s b w->w.ownsRow 0 257 2 b a.length (kl a)->iJ w->gF s->x<8->y<8->0<=g->g<=100000->fY k->(a.length:Int)+g<=1000000->
 Ò À 173 #[Å<|Ã ⟨E.r,0,Ä⟩,Â Ë x,Â Ë y,Â Æ g,Â Æ k,Â Ë d] w λe c=>
  e=È (Ė #[Â Æ (F s a x y g k).r,Ñ (F s a x y g k).C,Â Æ (F s a x y g k).M])/\∃f,il E b a.length w (F s a x y g k).s (F s a x y g k).I c f
section
variable{E:iT}{rb:Nat}{c:RC}{sv lv:Ç}{s b:St}{ls a:List (Nat×Int)}{q p:Int}
theorem R.xx(ok:E.Ok)(d:R E rb c sv lv zQ s ls w)(r:il E lv ls.length w b a u v):R E rb c sv v zQ b a u/\Tr E rb sv lv ls.length w sv v a.length u:=by
 have g:∀{j:Nat} {i:Array Ç} {T:õ},w.heap[j]?=Ã (Ð i T (0,0))->T≠E.T->T≠257->¬(j=E.r\/lv.ownBlock=Ã j):=λ{j i T} f h1 h2=>by
  rintro(e|e)
  .rw[e,d.C]at f;grind
  .let⟨m,k⟩:=lG d.M e;grind
 refine⟨⟨d.r.I r.C<|g d.r ok.I.symm A,ia d.I r.C λj f=> ?_,r.r,r.I⟩,r.C.S λh _ q=>q.elim Ù λq=>Ú<|Ú<|Ú q,λj q=>Ù q,r.l,r.M⟩;let⟨m,k⟩:=lG d.I f;exact g k ok.M.symm A
def alx(ok:E.Ok)(a:R E rb c sv lv zQ s ls w)(b:c.d=4): Ò À 210 #[Å<|Ã ⟨rb,0,Ä⟩,Â Æ q,Â Æ p,Â Æ h] w λe u=>e=È (ç #[Â Æ 0,Â Æ 0])/\u=w:=by
 have e:w.cell? ⟨rb,4,Ä⟩=Ã (Â Ë 4):=by have:=a.r.r 4 (Â Ë c.d) U;rwa[b]at this
 go_enter ax,ξ;go_wp2_with fail;go_ret2;exact⟨U,U⟩
end
section
variable{E:iT}{c:RC}{w':É}{s f:St}{a l:List (Nat×Int)}{q p:Int}{F:mf}
def aly(E:iT)(n:Nat)(c:RC)(jQ x:Ç)(zQ:List Int)(a:List (Nat×Int))(w W:É)(r:C8)(w':É):Prop:=
 ∃z,il E x a.length W r.s r.I w' z/\R E n c jQ z zQ r.s r.I w'/\Tr E n jQ x a.length w jQ z r.I.length w'
def alz(p g:Int):(if g<p then g else p)=min p g:=by rw[Int.min_def];split<;>split<;>omega
def I3(a:0<=h)(b:h<9223372036854775808):Ë.wrap h=h:=by show(if(Ë.signed&&decide (h%(2^64:Int)≥(2^63:Int)))=Ü then h%(2^64:Int)-2^64 else h%(2^64:Int))=h;rw[(Int.emod_eq_of_lt a Z),if_neg];simp;omega
def alA{q:Int}(h:fY q):Ë.wrap (q.tmod 8)=((q%8).toNat:Int):=by
 rw[Int.tmod_eq_emod_of_nonneg h.1];have:Ë.wrap (q%8)=q%8:=by exact I3 Z Z
 rw[this];omega
def alB(a:0<=h)(b:h<4):Ë.wrap (h+1)=h+1:=by exact I3 Z Z
def vq(ok:E.Ok)(b:R E n c jQ x zQ s a w)(j:0<=c.d)(k:c.d<4)(hF:sZ F (c.d+1))(l:iJ w)(m:gF s)(o:c.y<8)(i:fY q)(t:fY p)(u:fY h)(C:0<=c.g)(D:c.g<=100000)(G:(a.length:Int)+c.g<=1000000)(W:É)(kW:e9 (λ_=>False) w W): Ò À 173 #[Å<|Ã ⟨E.r,0,Ä⟩,Â Ë c.y,Â Ë<|Ë.wrap<|q.tmod 8,Â Æ<|min p c.g,Â Æ h,Â Ë<|Ë.wrap<|c.d+1] W λe w'=>
  e=È (Ė #[Â Æ (F s a c.y (q%8).toNat (min p c.g) h).r,Ñ (F s a c.y (q%8).toNat (min p c.g) h).C,Â Æ (F s a c.y (q%8).toNat (min p c.g) h).M])/\aly E n c jQ x zQ a w W (F s a c.y (q%8).toNat (min p c.g) h) w':=by
 have f:=b.fK kW;rw[alA i,alB j k];have H:=t.1;have I:=i.1;refine(hF E ok s x a c.y (q%8).toNat (min p c.g) h W f.C f.M (l.r kW id) m o Z Z Z u Z).mono ?_;rintro e w' ⟨rfl,z,r⟩;let⟨v,B⟩:=f.xx ok r;exact⟨U,z,r,v,(Tr.fK kW).ff B⟩
def alC{b:List Ç}(h:R E n c jQ x zQ s a w)(r:il E x i (ď<|Ć w<|Ð b.toArray T) f l u z):fg w.heap.size b T u:=by
 refine fg.I (w:=ď<|Ć w<|Ð b.toArray T) (fg.N w b T) r.C ?_;rintro(e|e)
 .have:=fg.M h.C;omega
 .have:=(h.M.lt _ e).2;omega
def SC{f:List Ç}{j0:Ç}(ok:E.Ok)(d:R E n c jQ x zQ s a u)(t:Tr E n j0 z b w jQ x k u)(m:w.heap.size<=j)(e:fg j f 252 u)(i:Nat)(v:Ç): R E n c jQ x zQ s a (u.setCell ⟨j,i,Ä⟩ v)/\Tr E n j0 z b w jQ x k (u.setCell ⟨j,i,Ä⟩ v)/\fg j (f.set i v) 252 (u.setCell ⟨j,i,Ä⟩ v):=by have g:e9 (λh=>h=j) u (u.setCell ⟨j,i,Ä⟩ v):=e9.I (X:=λh=>h=j) (p:=⟨j,i,Ä⟩) U v<|Ú e.G;refine⟨d.ak9 ok e g,t.ak8 g (λi q=>by omega) λi o q l=> ?_,e.fW i v⟩;unfold fg at e;rw[q,e]at l;cases l
def alD(ok:E.Ok)(f:R E n c jQ x zQ s a w)(oG:0<=c.d)(hd:c.d<4)(hF:sZ F (c.d+1))(hI:qj F)(hr:iJ w)(P:gF s)(hx:c.x<8)(hy:c.y<8)(Q:fY q)(S:fY p)(hk:fY h)(vm:0<=c.g)(uD:c.g<=100000)(hlen:(a.length:Int)+c.g<=1000000): Ò À 210 #[Å<|Ã ⟨n,0,Ä⟩,Â Æ q,Â Æ p,Â Æ h] w λe w'=>e=È (ç #[Â Æ (F s a c.y (q%8).toNat (min p c.g) h).M,Â Æ<|xu (F s a c.y (q%8).toNat (min p c.g) h).C])/\kN E n jQ x a.length w {c with g:=c.g-(F s a c.y (q%8).toNat (min p c.g) h).r} zQ (F s a c.y (q%8).toNat (min p c.g) h).s (F s a c.y (q%8).toNat (min p c.g) h).I w':=by
 have c0:w.cell? ⟨n,0,Ä⟩=Ã (Å<|Ã ⟨E.r,0,Ä⟩):=f.r.r 0 _ U;have c2:w.cell? ⟨n,2,Ä⟩=Ã (Â Ë c.y):=f.r.r 2 _ U;have c4:w.cell? ⟨n,4,Ä⟩=Ã (Â Ë c.d):=f.r.r 4 _ U;have c5:w.cell? ⟨n,5,Ä⟩=Ã (Â Æ c.g):=f.r.r 5 _ U;have gJ:=f.r.M;have L4:=fg.M f.C;have hq0:=Q.1;have Cx:=Q.2;have g_:=S.1;have hp1:=S.2;have call:=vq ok f oG hd hF hr P hy Q S hk vm uD hlen;have T:=hI s a c.y (q%8).toNat (min p c.g) h P hy Z hk Z Z Z;have M:=T.C;have N:=T.r;clear T;generalize F s a c.y (q%8).toNat (min p c.g) h=r at*;have H:=fe<|Á f<|Á call<|Á M N;have SF:(c.d==4)=Ï:=by rw[beq_eq_false_iff_ne];omega
 clear f hr P hlen call M N;go_enter ax,ξ;go_wp2_with fail;have k:=fe<|Á ((H.out.1.fK<|e9.fR _ _).r.r 0 _ rfl)<|Á ((H.out.1.fK<|e9.fR _ _).r.r 2 _ rfl)<|Á ((H.out.1.fK<|e9.fR _ _).r.r 4 _ rfl)<|(H.out.1.fK<|e9.fR _ _).r.r 5 _ rfl;refine mg (λw'=>w'.cell? ⟨n,0,Ä⟩=Ã (Å<|Ã ⟨E.r,0,Ä⟩)/\w'.cell? ⟨n,2,Ä⟩=Ã (Â Ë c.y)/\w'.cell? ⟨n,4,Ä⟩=Ã (Â Ë c.d)/\w'.cell? ⟨n,5,Ä⟩=Ã (Â Æ c.g)) [25] ft ?_;refine tk 0 k.out ?_;refine tk 1 k.out ?_;refine tk 2 k.out ?_;refine tk 3 k.out ?_;refine tk 4 k.out ?_;refine tk 5 k.out ?_;refine tk 6 k.out ?_;refine tk 7 k.out ?_;refine tk 8 k.out ?_;refine tk 9 k.out ?_;refine tk 10 k.out ?_;refine tk 11 k.out ?_;refine tk 12 k.out ?_;refine tk 13 k.out ?_;refine tk 14 k.out ?_;refine tk 15 k.out ?_;refine I2 (i:=16) (oi:={dst:=Ã 32,op:=aK {callee:=Go.Callee.builtin bA,args:=#[ð 27,ð 31],argTypes:=#[36,36]},type:=36,pos:= "run.go:186",after:=#[{on:=11,ground:=ñ},{on:=15,ground:=ñ}],guard:=Ä}) (v:=Â Æ<|min p c.g) U ft ft ft ft (λ_ _ _ f=>f) k.out (Ù ⟨fO,?alE⟩) ?aup
 case alE=>(intro w hSw;let⟨q0,q2,q4,q5⟩:=hSw;go_simp<;>rw[alz])
 refine tk 17 k.out ?_;refine tk 18 k.out ?_;refine tk 19 k.out ?_;refine tk 20 k.out ?_;refine tk 21 k.out ?_;refine tk 22 k.out ?_;refine alu (i:=23) (j:=24) (oi:={dst:=Ã 39,op:=aK {callee:=Go.Callee.value<|bq 173,args:=#[ð 19,ð 23,ð 26,ð 32,ð 33,ð 38],argTypes:=#[267,3,3,36,36,3]},type:=252,pos:= "run.go:186",after:=#[{on:=3,ground:=ñ},{on:=7,ground:=ñ},{on:=10,ground:=ñ},{on:=16,ground:=ñ},{on:=17,ground:=ñ},{on:=22,ground:=ñ}],guard:=Ä}) (oj:={dst:=Ã 10,op:=br 252,type:=0,pos:= "run.go:186",after:=#[],guard:=Ä}) ft U U ?_ ?_
 .intro K l;go_simp;go_at_call 173;refine(H.out.2.1 _ kp).mono ?_;rintro e z ⟨rfl,zg,O,o,D⟩;dsimp only;refine l.out _ _ (λ_=>⟨o.r.r 0 _ U,o.r.r 2 _ U,o.r.r 4 _ U,o.r.r 5 _ U⟩) ?_;clear l K;have G:=o.fK (e9.gG (λ_=>False) z #[Â Æ 0,Ñ Ï,Â Æ 0] 252);refine gD 24 ?_;intro K l;go_simp;refine l.out _ _ (λ_=>⟨G.r.r 0 _ U,G.r.r 2 _ U,G.r.r 4 _ U,G.r.r 5 _ U⟩) ?_;clear l K;refine gD 25 ?_;intro K l;go_simp;refine l.out _ _ (λq=>absurd fj q) ?_;clear l K;try simp only[ĺ,Ö,ä,å]
  refine lS ft ?_ _;have V:=e9.gG (λ_=>False) z #[Â Æ r.r,Ñ r.C,Â Æ r.M] 252;have t:=o.fK V;have I:=D.ff<|Tr.fK V;have m:fg z.heap.size [Â Æ r.r,Ñ r.C,Â Æ r.M] 252 _:=fg.N z _ 252;generalize Ć z (Ð #[Â Æ r.r,Ñ r.C,Â Æ r.M] 252)=W at*;generalize z.heap.size=b at*;clear G V o D O;have v0:=m.r 0 _ U;have X:=m.r 1 _ U;have Y:=m.r 2 _ U;have z5:W.cell? ⟨n,5,Ä⟩=Ã (Â Æ c.g):=t.r.r 5 _ U;have y5:=t.r.C 5;have zl:=t.r.M;have zb:=m.M;have M:=H.out.2.2.1;have N:=H.out.2.2.2;have J:=fg.S t.r m A;have y1:=(IV (w:=W) (i:=5) (u:=Â Æ<|c.g-r.r) J).trans X;have y2:=(IV (w:=W) (i:=5) (u:=Â Æ<|c.g-r.r) J).trans Y;have C:=fe<|Á t I;clear t I m k;go_wp2_with fail;go_region;go_wp2_with fail;have k:=fe<|Á y1 y2;refine mg (λw'=>w'.cell? ⟨b,1,Ä⟩=Ã (Ñ r.C)/\w'.cell? ⟨b,2,Ä⟩=Ã (Â Æ r.M)) [] ft ?_;refine tk 0 k.out ?_;refine tk 1 k.out ?_;refine tk 2 k.out ?_;refine tk 3 k.out ?_;refine tk 4 k.out ?_;refine gD 5 ?_;intro K l;go_simp;go_at_call 159;refine(I1 _ _).mono ?_;rintro e w2 ⟨rfl,qP⟩;subst w2;dsimp only;refine l.out _ _ (λ_=>k.out) ?_;clear l K;refine gD 6 ?_;intro K l;go_simp;refine l.out _ _ (λ_=>k.out) ?_;clear l K;refine gD 7 ?_;intro K l;go_simp;refine l.out _ _ (λ_=>k.out) ?_;clear l K;try simp only[ĺ,Ö,ä,å]
  refine lS ft ?_ _;go_wp2_with fail;go_ret2;let⟨n1,n2⟩:=C.out.1.N ok 5 (v:=Â Æ<|c.g-r.r) (c':={c with g:=c.g-r.r}) (j0:=jQ) (ss':=zQ) U C.out.1.I λ_ q=>q;have L:=(e9.fR (λ_=>False)<|W.setCell ⟨n,5,Ä⟩<|Â Æ<|c.g-r.r).ff (e9.fR (λ_=>False) _);exact⟨U,_,_,n1.fK L,(C.out.2.ff n2).ff<|Tr.fK L⟩
 .intro K l;go_simp;refine l.out _ _ (λ_=>⟨(H.out.1.fK<|((e9.fR _ _).ff<|e9.gG _ _ _ _)).r.r 0 _ U,(H.out.1.fK<|((e9.fR _ _).ff<|e9.gG _ _ _ _)).r.r 2 _ U,(H.out.1.fK<|((e9.fR _ _).ff<|e9.gG _ _ _ _)).r.r 4 _ U,(H.out.1.fK<|((e9.fR _ _).ff<|e9.gG _ _ _ _)).r.r 5 _ U⟩) ?_;clear l K;refine gD 23 ?_;intro K l;go_simp;go_at_call 173;refine(H.out.2.1 (ď<|Ć w<|Ð #[Â Æ 0,Ñ Ï,Â Æ 0] 252) kp).mono ?_;rintro e z ⟨rfl,zg,O,o,D⟩;dsimp only;refine l.out _ _ (λ_=>⟨o.r.r 0 _ U,o.r.r 2 _ U,o.r.r 4 _ U,o.r.r 5 _ U⟩) ?_;clear l K;have B:=alC H.out.1 O;have k0:=B.r 0 _ U;have k1:=B.r 1 _ U;have k2:=B.r 2 _ U;have f0:=B.C 0;have f1:=B.C 1;have f2:=B.C 2;refine gD 25 ?_;intro K l;go_simp;refine l.out _ _ (λq=>absurd fj q) ?_;clear l K;try simp only[ĺ,Ö,ä,å]
  refine lS ft ?_ _;let⟨a1,a2,a3⟩:=SC ok o D (ß _) B 0<|Â Æ r.r;let⟨b1,b2,b3⟩:=SC ok a1 a2 (ß _) a3 1<|Ñ r.C;let⟨t,I,m⟩:=SC ok b1 b2 (ß _) b3 2<|Â Æ r.M;generalize ĉ (ĉ (ĉ z ⟨w.heap.size,0,Ä⟩<|Â Æ r.r) ⟨w.heap.size,1,Ä⟩<|Ñ r.C) ⟨w.heap.size,2,Ä⟩ (Â Æ r.M)=W at*;replace m:fg w.heap.size [Â Æ r.r,Ñ r.C,Â Æ r.M] 252 W:=m;clear a1 a2 a3 b1 b2 b3 B k0 k1 k2 f0 f1 f2 o D O;have v0:=m.r 0 _ U;have X:=m.r 1 _ U;have Y:=m.r 2 _ U;have z5:W.cell? ⟨n,5,Ä⟩=Ã (Â Æ c.g):=t.r.r 5 _ U;have y5:=t.r.C 5;have zl:=t.r.M;have zb:=m.M;have M:=H.out.2.2.1;have N:=H.out.2.2.2;have J:=fg.S t.r m A;have y1:=(IV (w:=W) (i:=5) (u:=Â Æ<|c.g-r.r) J).trans X;have y2:=(IV (w:=W) (i:=5) (u:=Â Æ<|c.g-r.r) J).trans Y;have C:=fe<|Á t I;clear t I m k;go_wp2_with fail;go_region;go_wp2_with fail;have k:=fe<|Á y1 y2;refine mg (λw'=>w'.cell? ⟨w.heap.size,1,Ä⟩=Ã (Ñ r.C)/\w'.cell? ⟨w.heap.size,2,Ä⟩=Ã (Â Æ r.M)) [] ft ?_;refine tk 0 k.out ?_;refine tk 1 k.out ?_;refine tk 2 k.out ?_;refine tk 3 k.out ?_;refine tk 4 k.out ?_;refine gD 5 ?_;intro K l;go_simp;go_at_call 159;refine(I1 _ _).mono ?_;rintro e w2 ⟨rfl,qP⟩;subst w2;dsimp only;refine l.out _ _ (λ_=>k.out) ?_;clear l K;refine gD 6 ?_;intro K l;go_simp;refine l.out _ _ (λ_=>k.out) ?_;clear l K;refine gD 7 ?_;intro K l;go_simp;refine l.out _ _ (λ_=>k.out) ?_;clear l K;try simp only[ĺ,Ö,ä,å]
  refine lS ft ?_ _;go_wp2_with fail;go_ret2;let⟨n1,n2⟩:=C.out.1.N ok 5 (v:=Â Æ<|c.g-r.r) (c':={c with g:=c.g-r.r}) (j0:=jQ) (ss':=zQ) U C.out.1.I λ_ q=>q;have L:=(e9.fR (λ_=>False)<|W.setCell ⟨n,5,Ä⟩<|Â Æ<|c.g-r.r).ff (e9.fR (λ_=>False) _);exact⟨U,_,_,n1.fK L,(C.out.2.ff n2).ff<|Tr.fK L⟩
end
section
variable{E:iT}{rb:Nat}{c:RC}{sv lv:Ç}{s i:St}{f j:List (Nat×Int)}{q p:Int}{F:mf}
def oN(c:RC)(g:Int):RC:={c with g:=g}
def alF(ok:E.Ok)(a:R E rb c sv lv zQ s f w)(i:0<=c.d)(G:c.d<=4)(hF:c.d<4->sZ F (c.d+1))(j:qj F)(k:iJ w)(l:gF s)(m:c.x<8)(n:c.y<8)(o:fY q)(r:fY p)(v:fY h)(z:0<=c.g)(B:c.g<=100000)(C:(f.length:Int)+c.g<=1000000)(t:RT)(D:t=(iU F c ⟨zQ,s,f,c.g⟩ q p h).2.2): Ò À 210 #[Å<|Ã ⟨rb,0,Ä⟩,Â Æ q,Â Æ p,Â Æ h] w λe u=>e=È (ç #[Â Æ (iU F c ⟨zQ,s,f,c.g⟩ q p h).1,Â Æ (iU F c ⟨zQ,s,f,c.g⟩ q p h).2.1])/\kN E rb sv lv f.length w (oN c t.g) zQ t.s t.C u:=by
 subst D;by_cases b:c.d=4
 .have e:iU F c ⟨zQ,s,f,c.g⟩ q p h=(0,0,⟨zQ,s,f,c.g⟩):=by unfold iU;rw[if_pos b]
  rw[e];refine(alx ok a b).mono ?_;rintro e u ⟨rfl,rfl⟩;exact⟨U,a.jO⟩
 .have e:iU F c ⟨zQ,s,f,c.g⟩ q p h=((F s f c.y (q%8).toNat (min p c.g) h).M,xu (F s f c.y (q%8).toNat (min p c.g) h).C,⟨zQ,(F s f c.y (q%8).toNat (min p c.g) h).s,(F s f c.y (q%8).toNat (min p c.g) h).I,c.g-(F s f c.y (q%8).toNat (min p c.g) h).r⟩):=by unfold iU;rw[if_neg b]
  rw[e];exact alD ok a i Z (hF Z) j k l m n o r v z B C
def alG(ok:E.Ok)(i:R E rb c sv lv (((zQ++[h])++[p])++[q]) s f w)(hn:zQ.length<=800)(o:0<=c.d)(r:c.d<=4)(hF:c.d<4->sZ F (c.d+1))(v:qj F)(z:iJ w)(B:gF s)(C:c.x<8)(D:c.y<8)(G:fY q)(I:fY p)(J:fY h)(K:0<=c.g)(L:c.g<=100000)(M:(f.length:Int)+c.g<=1000000)(t:RT)(N:t=(iU F c ⟨zQ,s,f,c.g⟩ q p h).2.2)(a b:Int)(j:a=(iU F c ⟨zQ,s,f,c.g⟩ q p h).1)(k:b=(iU F c ⟨zQ,s,f,c.g⟩ q p h).2.1): Ò À 205 #[Å<|Ã ⟨rb,0,Ä⟩,Â Ë 20] w λe u=>e=È (ç #[])/\kN E rb sv lv f.length w (oN c t.g) (zQ++[a,b]) t.s t.C u:=by have c0:=i.r.r 0 _ U;have c2:=i.r.r 2 _ U;have gJ:=i.r.M;have L4:=fg.M i.C;have H:=fe<|Á i<|Á z<|Á hF v;go_enter ë,æ;go_wp2_with fail;go_quiet (fail);go_wp2_with fail;have O:=Tr.fK (E:=E) (rb:=rb) (sv:=sv) (lv:=lv) (n:=f.length) (e9.iN (λ_=>False) w nq);have P:=H.out.1.fK (e9.iN (λ_=>False) w nq);go_at_call 204;refine(nt ok P (by first|omega|(simp;omega))).mono ?_;rintro e w1 ⟨rfl,sv1,Q,S⟩;go_wp2_with fail;go_at_call 204;refine(nt ok Q (by first|omega|(simp;omega))).mono ?_;rintro e w2 ⟨rfl,I4,T,V⟩;go_wp2_with fail;go_at_call 204;refine(nt ok T (by first|omega|(simp;omega))).mono ?_;rintro e w3 ⟨rfl,MO,W,X⟩;have l:=((O.ff S).ff V).ff X;go_wp2_with fail;go_at_call 210;refine(alF ok W o r H.out.2.2.1 H.out.2.2.2 (H.out.2.1.N ok H.out.1 l) B C D G I J K L M t N).mono ?_;rintro e w4 ⟨rfl,sv4,lv4,Y,t4⟩;rw[<-j,<-k];go_wp2_with fail;go_at_call 203;refine(SB ok Y (by first|omega|(simp;omega)) _ _).mono ?_;rintro e w5 ⟨rfl,sv5,m,t5⟩;go_wp2_with fail;go_end0;rw[<-j,<-k]at m;exact⟨U,_,_,m,(l.ff t4).ff t5⟩
end
def s5(h:∀p∈zQ,fY p):fY (fZ zQ):=by
 by_cases a:0<zQ.length
 .apply h _;rw[Z9 zQ a];simp[fZ]
 .have:zQ=[]:=à Z;subst this;exact⟨A,A⟩
def po(h:∀p∈zQ,fY p):∀p∈fV zQ,fY p:=λp a=>h p<|List.dropLast_subset zQ a
def qk(l:List Int):(fV l).length=l.length-1:=by simp[fV]
def xy(h:0<zQ.length):fV zQ++[fZ zQ]=zQ:=(Z9 zQ h).symm
theorem alH(F:mf)(c:RC)(l b:List Int)(s:St)(a:List (Nat×Int))(g q p k:Int): (iU F c ⟨l,s,a,g⟩ q p k).1=(iU F c ⟨b,s,a,g⟩ q p k).1/\(iU F c ⟨l,s,a,g⟩ q p k).2.1=(iU F c ⟨b,s,a,g⟩ q p k).2.1/\(iU F c ⟨l,s,a,g⟩ q p k).2.2.s=(iU F c ⟨b,s,a,g⟩ q p k).2.2.s/\ (iU F c ⟨l,s,a,g⟩ q p k).2.2.C=(iU F c ⟨b,s,a,g⟩ q p k).2.2.C/\(iU F c ⟨l,s,a,g⟩ q p k).2.2.g=(iU F c ⟨b,s,a,g⟩ q p k).2.2.g:=by unfold iU;grind
section
variable{E:iT}{rb:Nat}{c:RC}{sv lv:Ç}{s:St}{f:List (Nat×Int)}{F:mf}
def alI(ok:E.Ok)(h:R E rb c sv lv zQ s f w)(Y:zQ.length<=700)(C:0<=c.d)(D:c.d<=4)(hF:c.d<4->sZ F (c.d+1))(G:qj F)(H:iJ w)(v:gF s)(z:c.x<8)(a:c.y<8)(r:∀p∈zQ,fY p)(I:0<=c.g)(J:c.g<=100000)(K:(f.length:Int)+c.g<=1000000) (k:Nat) (uE:2<=k) (tW:k<=20) (h_:k≠17) (L B M:Int) (b:iY[k]?=Ã (L,B,M)) (C9:B<=zQ.length) (t:RT) (N:t=n9 F c k ⟨zQ,s,f,c.g⟩): Ò À 205 #[Å<|Ã ⟨rb,0,Ä⟩,Â Ë k] w λe i=>e=È (ç #[])/\kN E rb sv lv f.length w (oN c t.g) t.r t.s t.C i:=by
 subst N;have i:=s5 r;have u:=s5<|po r;have O:=s5<|po<|po r;have j:1<=zQ.length->R E rb c sv lv (fV zQ++[fZ zQ]) s f w:=λq=>by rwa[xy Z]
 have l:2<=zQ.length->R E rb c sv lv ((fV (fV zQ)++[fZ<|fV zQ])++[fZ zQ]) s f w:=λq=>by rw[xy (by rw[qk];omega),xy Z];exact h
 have P:3<=zQ.length->R E rb c sv lv (((fV (fV<|fV zQ)++[fZ<|fV<|fV zQ])++[fZ<|fV zQ])++[fZ zQ]) s f w:=λq=>by rw[xy (by rw[qk,qk];omega),xy (by rw[qk];omega),xy Z];exact h
 have m:zQ.length<=800:=Z
 have n:(fV zQ).length<=800:=by rw[qk];omega
 have o:(fV<|fV zQ).length<=800:=by rw[qk];omega
 have Q:(fV<|fV<|fV zQ).length<=800:=by rw[qk];omega
 have cases:(k=2\/k=3\/k=4\/k=5\/k=6\/k=7)\/k=8\/k=9\/k=10\/k=11\/k=12\/k=13\/k=14\/k=15\/k=16\/k=18\/k=19\/k=20:=Z
 rcases cases with hq|rfl|rfl|rfl|rfl|rfl|rfl|rfl|rfl|rfl|rfl|rfl|rfl
 .have S:2<=zQ.length:=by
   rcases hq with rfl|rfl|rfl|rfl|rfl|rfl<;>(simp[iY]at b;omega)
  have e:n9 F c k ⟨zQ,s,f,c.g⟩=⟨fV (fV zQ)++[xv k (fZ<|fV zQ)<|fZ zQ],s,f,c.g⟩:=by rcases hq with rfl|rfl|rfl|rfl|rfl|rfl<;>rfl
  rw[e];exact aln ok (l S) o a u i Z Z
 .exact alc ok (j<|by simp[iY]at b;omega) n a
 .exact ald ok (l<|by simp[iY]at b;omega) o a
 .exact ale ok (j<|by simp[iY]at b;omega) n a
 .exact alf ok h m a
 .exact alg ok h m a z
 .exact alh ok h m a
 .exact ali ok h m a
 .exact alj ok (j<|by simp[iY]at b;omega) n a i
 .exact alk ok (l<|by simp[iY]at b;omega) o a i
 .exact alm ok (l<|by simp[iY]at b;omega) o a u i v
 .exact alv ok (j<|by simp[iY]at b;omega) n a Z
 .let⟨S,T,V,W,X⟩:=alH F c zQ (fV<|fV<|fV zQ) s f c.g (fZ zQ) (fZ<|fV zQ)<|fZ<|fV<|fV zQ;have e:n9 F c 20 ⟨zQ,s,f,c.g⟩=⟨fV (fV<|fV zQ)++[(iU F c ⟨zQ,s,f,c.g⟩ (fZ zQ) (fZ<|fV zQ)<|fZ<|fV<|fV zQ).1,(iU F c ⟨zQ,s,f,c.g⟩ (fZ zQ) (fZ<|fV zQ)<|fZ<|fV<|fV zQ).2.1],(iU F c ⟨zQ,s,f,c.g⟩ (fZ zQ) (fZ<|fV zQ)<|fZ<|fV<|fV zQ).2.2.s,(iU F c ⟨zQ,s,f,c.g⟩ (fZ zQ) (fZ<|fV zQ)<|fZ<|fV<|fV zQ).2.2.C,(iU F c ⟨zQ,s,f,c.g⟩ (fZ zQ) (fZ<|fV zQ)<|fZ<|fV<|fV zQ).2.2.g⟩:=U;rw[e,S,T,V,W,X];exact alG ok (P<|by simp[iY]at b;omega) Q C D hF G H v z a i u O I J K _ U _ _ U U
end
def qm(c:Int)(w:É):Ò À 103 #[Â bb c] w λe a=>e=È (Â Ë<|lH c)/\a=w:=by
 go_enter Tryz.func103,Tryz.ntmps103;go_wp2;all_goals go_ret
 all_goals refine⟨Fv ?_,U⟩
 all_goals simp only[beq_iff_eq,beq_eq_false_iff_ne,ne_eq]at*
 all_goals(try subst c)
 all_goals first|rfl|(unfold lH;simp[*];done)|(unfold lH;rw[if_neg Z];simp[*])
def km:Ŗ->Option Ŗ
 |á c=>Ã c
 |.seq a b=>match km a with
  |some c=>Ã c
  |none=>km b
 |.block _ c=>km c
 |.scope c=>km c
 |.cond _ a b=>match km a with
  |some c=>Ã c
  |none=>km b
 |_=>Ä
noncomputable def uF:Ŗ:=(Tryz.f191.body.bind km).getD Ļ
def nX(a:Nat)(P:ByteArray)(b:Int)(u:Nat->Ç):ê:=⟨#[Å<|Ã ⟨a,0,Ä⟩,Ą,Â Æ 0,Ñ Ï,Í P,Â Æ P.size,Â Æ b,u 7,u 8,u 9,u 10,u 11,u 12,u 13,u 14,u 15,u 16,u 17,u 18,u 19,u 20,u 21,u 22,u 23,u 24,u 25,u 26,u 27,u 28,u 29,u 30,u 31,u 32,u 33,u 34,u 35,u 36,u 37,u 38,u 39,u 40,u 41,u 42,u 43,u 44,u 45,u 46,u 47,u 48,u 49,u 50,u 51,u 52,u 53,u 54,u 55,u 56,u 57,u 58,u 59,u 60,u 61,u 62,u 63,u 64,u 65,u 66,u 67,u 68,u 69,u 70,u 71,u 72,u 73,u 74,u 75,u 76,u 77,u 78,u 79,u 80],[]⟩
def Da(b:Nat)(P:ByteArray)(c:Int)(a:ê):Prop:=∃u,a=nX b P c u
def h'(a:Nat)(P:ByteArray)(v:Int)(b:Bool)(u:Nat->Ç):ê:=⟨#[Å<|Ã ⟨a,0,Ä⟩,Ą,Â Æ v,Ñ b,Í P,Â Æ P.size,u 6,u 7,u 8,u 9,u 10,u 11,u 12,u 13,u 14,u 15,u 16,u 17,u 18,u 19,u 20,u 21,u 22,u 23,u 24,u 25,u 26,u 27,u 28,u 29,u 30,u 31,u 32,u 33,u 34,u 35,u 36,u 37,u 38,u 39,u 40,u 41,u 42,u 43,u 44,u 45,u 46,u 47,u 48,u 49,u 50,u 51,u 52,u 53,u 54,u 55,u 56,u 57,u 58,u 59,u 60,u 61,u 62,u 63,u 64,u 65,u 66,u 67,u 68,u 69,u 70,u 71,u 72,u 73,u 74,u 75,u 76,u 77,u 78,u 79,u 80],[]⟩
def Fy(c:Nat)(P:ByteArray)(v:Int)(b:Bool)(a:ê):Prop:=∃u,a=h' c P v b u
def QQ(X:ê->É->Prop):aZ->ê->É->Prop
 |.exit 0,a,w=>X a w
 |_,_,_=>False
section
variable{X:ê->É->Prop}{E:iT}{c:RC}{s:St}{f:List (Nat×Int)}{F:mf}
def alJ(ok:E.Ok)(u:Nat->Ç)(b:R E i c z x zQ s f w)(j:B.size<=40)(e:h=B.size) (g:∀a d,Fy i B 0 Ü a->kN E i z x f.length w c zQ s f d->X a d): Î À uF (Exit.then K<|QQ X) (nX i B h u) w:=by
 unfold nX;conv=>arg 2;whnf
 subst e;go_wp2_with fail;exact g _ _ (gi _) b.jO
def alK(ok:E.Ok)(u:Nat->Ç)(b:R E i c z x zQ s f w)(l:B.size<=40)(m:(B.size:Int)<h) (e:∀a d,Fy i B 0 Ï a->kN E i z x f.length w (oN c 0) zQ s f d->X a d): Î À uF (Exit.then K<|QQ X) (nX i B h u) w:=by
 unfold nX;conv=>arg 2;whnf
 have n:w.cell? ⟨i,5,Ä⟩=Ã (Â Æ c.g):=b.r.r 5 _ U;have o:=b.r.C 5;have p:(h==(B.size:Int))=Ï:=by rw[beq_eq_false_iff_ne];omega
 have H:=fe b;clear b;go_wp2_with fail;let⟨j,k⟩:=H.out.N ok 5 (v:=Â Æ 0) (c':=oN c 0) (j0:=z) (ss':=zQ) U H.out.I λ_ q=>q;exact e _ _ (gi _) ⟨_,_,j,k⟩
def alL(ok:E.Ok)(u:Nat->Ç)(b:R E i c z x zQ s f w)(P:B.size<=40)(n:Nat)(G:h=n)(I:n<B.size)(y:iJ w)(m o p:Int)(Q:zQ.length<=700)(J:0<=c.g)(S:c.g<=100000)(k:Nat)(C:lH ((B[n]'I).toNat:Int)=k)(r:iY[k]?=Ã (m,o,p))(D:me c.g zQ.length m o p=Ï) (L:∀a j,Fy i B 0 Ï a->kN E i z x f.length w (oN c 0) zQ s f j->X a j): Î À uF (Exit.then K<|QQ X) (nX i B h u) w:=by
 unfold nX;conv=>arg 2;whnf
 subst G;have T:((n:Int)==(B.size:Int))=Ï:=by rw[beq_eq_false_iff_ne];omega
 have V:decide ((B.size:Int)<(n:Int))=Ï:=decide_eq_false Z;have W:(0:Int)<=(n:Int):=Z
 have Y:(n:Int)<(B.size:Int):=Z
 have d:=C7 E ok i c z x zQ s f w b y k m o p r Z J Z;rw[D]at d;have H:=fe<|Á b<|Á d<|Á r C;clear b d y r D C;go_wp2_with (go_at_call 103;refine(qm _ _).mono ?_;rintro e j ⟨rfl,l⟩;subst j;rw[H.out.2.2.2]);go_at_call 202;apply H.out.2.1.mono;rintro e M ⟨rfl,l,F⟩;have k5:M.cell? ⟨i,5,Ä⟩=Ã (Â Æ c.g):=l.r.r 5 _ U;have g5:=l.r.C 5;have t:=fe<|Á l F;clear l F;go_wp2_with fail;let⟨N,O⟩:=R.N ok t.out.1 5 (v:=Â Æ 0) (c':=oN c 0) (j0:=z) (ss':=zQ) U t.out.1.I λ_ q=>q;exact L _ _ (gi _) ⟨_,_,N,t.out.2.ff O⟩
def alM(ok:E.Ok)(u:Nat->Ç)(b:R E i c z x zQ s f w)(J:B.size<=40)(n:Nat)(C:h=n)(D:n<B.size)(q:iJ w)(k l m:Int)(L:zQ.length<=700)(F:0<=c.g)(M:c.g<=100000)(r:lH ((B[n]'D).toNat:Int)=22)(o:iY[(22:Nat)]?=Ã (k,l,m))(t:me c.g zQ.length k l m=Ü) (G:∀a j,Fy i B 0 Ï a->kN E i z x f.length w (oN c<|c.g-k) zQ s f j->X a j): Î À uF (Exit.then K<|QQ X) (nX i B h u) w:=by
 unfold nX;conv=>arg 2;whnf
 subst C;have N:((n:Int)==(B.size:Int))=Ï:=by rw[beq_eq_false_iff_ne];omega
 have O:decide ((B.size:Int)<(n:Int))=Ï:=decide_eq_false Z;have P:(0:Int)<=(n:Int):=Z
 have Q:(n:Int)<(B.size:Int):=Z
 have d:=C7 E ok i c z x zQ s f w b q 22 k l m o Z F Z;rw[t]at d;have H:=fe<|Á b<|Á d<|Á o r;clear b d q o t r;go_wp2_with (go_at_call 103;refine(qm _ _).mono ?_;rintro e j ⟨rfl,I⟩;subst j;rw[H.out.2.2.2]);go_at_call 202;apply H.out.2.1.mono;rintro e S ⟨rfl,p,v⟩;rw[if_pos U]at p;have y:=fe<|Á p v;clear p v;go_wp2_with (go_at_call 103;refine(qm _ _).mono ?_;rintro e j ⟨rfl,I⟩;subst j;rw[H.out.2.2.2]);exact G _ _ (gi _) ⟨_,_,y.out.1,y.out.2⟩
def alN(ok:E.Ok)(u:Nat->Ç)(b:R E i c z x zQ s f w)(P:B.size<=40)(n:Nat)(F:h=n)(G:n<B.size)(r:iJ w)(k l m:Int)(I:zQ.length<=700)(J:0<=c.g)(Q:c.g<=100000)(p:Int)(t:List Int)(L:zQ=t++[p])(v:lH ((B[n]'G).toNat:Int)=21)(o:iY[(21:Nat)]?=Ã (k,l,m))(y:me c.g zQ.length k l m=Ü) (M:∀a j,Fy i B p Ü a->kN E i z x f.length w (oN c<|c.g-k) t s f j->X a j): Î À uF (Exit.then K<|QQ X) (nX i B h u) w:=by
 unfold nX;conv=>arg 2;whnf
 subst F;have S:((n:Int)==(B.size:Int))=Ï:=by rw[beq_eq_false_iff_ne];omega
 have T:decide ((B.size:Int)<(n:Int))=Ï:=decide_eq_false Z;have V:(0:Int)<=(n:Int):=Z
 have W:(n:Int)<(B.size:Int):=Z
 have d:=C7 E ok i c z x zQ s f w b r 21 k l m o Z J Z;rw[y]at d;have H:=fe<|Á b<|Á d<|Á o v;clear b d r o y v;go_wp2_with (go_at_call 103;refine(qm _ _).mono ?_;rintro e j ⟨rfl,N⟩;subst j;rw[H.out.2.2.2]);go_at_call 202;apply H.out.2.1.mono;rintro e Y ⟨rfl,q,C⟩;rw[if_pos U]at q;have D:=fe<|Á q C;clear q C;subst L;go_wp2_with (go_at_call 103;refine(qm _ _).mono ?_;rintro e j ⟨rfl,N⟩;subst j;rw[H.out.2.2.2]);go_at_call 204;refine(nt ok D.out.1<|by simp at I;omega).mono ?_;rintro e w2 ⟨rfl,I4,N,O⟩;go_wp2_with fail;exact M _ _ (gi _) ⟨_,_,N,D.out.2.ff O⟩
def alO(ok:E.Ok)(u:Nat->Ç)(b:R E i c z x zQ s f w)(L:B.size<=40)(n:Nat)(D:h=n)(k:n<B.size)(r:iJ w)(l m o:Int)(M:zQ.length<=700)(F:0<=c.g)(N:c.g<=100000)(O:(48:Int)<=((B[n]'k).toNat:Int))(P:((B[n]'k).toNat:Int)<=57)(t:lH ((B[n]'k).toNat:Int)=1)(p:iY[(1:Nat)]?=Ã (l,m,o))(v:me c.g zQ.length l m o=Ü) (G:∀a j,Da i B ((n:Int)+1) a->kN E i z x f.length w (oN c<|c.g-l) (zQ++[((B[n]'k).toNat:Int)-48]) s f j->K a j): Î À uF (Exit.then K<|QQ X) (nX i B h u) w:=by
 unfold nX;conv=>arg 2;whnf
 subst D;have Q:((n:Int)==(B.size:Int))=Ï:=by rw[beq_eq_false_iff_ne];omega
 have S:decide ((B.size:Int)<(n:Int))=Ï:=decide_eq_false Z;have T:(0:Int)<=(n:Int):=Z
 have V:(n:Int)<(B.size:Int):=Z
 have d:=C7 E ok i c z x zQ s f w b r 1 l m o p Z F Z;rw[v]at d;have H:=fe<|Á b<|Á d<|Á p t;clear b d r p v t;go_wp2_with (go_at_call 103;refine(qm _ _).mono ?_;rintro e j ⟨rfl,I⟩;subst j;rw[H.out.2.2.2]);go_at_call 202;apply H.out.2.1.mono;rintro e W ⟨rfl,q,y⟩;rw[if_pos U]at q;have C:=fe<|Á q y;clear q y;go_wp2_with (go_at_call 103;refine(qm _ _).mono ?_;rintro e j ⟨rfl,I⟩;subst j;rw[H.out.2.2.2]);go_at_call 203;refine(zo ok C.out.1 Z _).mono ?_;rintro e Y ⟨rfl,I4,I,J⟩;go_wp2_with fail;exact G _ _ (gi _) ⟨_,_,I,C.out.2.ff J⟩
def alP(ok:E.Ok)(u:Nat->Ç)(b:R E i c z x zQ s f w)(W:B.size<=40)(n:Nat)(M:h=n)(N:n<B.size)(t:iJ w)(k l m:Int)(v:zQ.length<=700)(O:0<=c.g)(Y:c.g<=100000)(p q:Int)(y:List Int)(P:zQ=(y++[p])++[q])(Q:¬p=0)(C:lH ((B[n]'N).toNat:Int)=17)(o:iY[(17:Nat)]?=Ã (k,l,m))(D:me c.g zQ.length k l m=Ü) (S:∀a j,Da i B q a->kN E i z x f.length w (oN c<|c.g-k) y s f j->K a j): Î À uF (Exit.then K<|QQ X) (nX i B h u) w:=by
 unfold nX;conv=>arg 2;whnf
 subst M;have e1:((n:Int)==(B.size:Int))=Ï:=by rw[beq_eq_false_iff_ne];omega
 have e2:decide ((B.size:Int)<(n:Int))=Ï:=decide_eq_false Z;have IB:(0:Int)<=(n:Int):=Z
 have vB:(n:Int)<(B.size:Int):=Z
 have d:=C7 E ok i c z x zQ s f w b t 17 k l m o Z O Z;rw[D]at d;have H:=fe<|Á b<|Á d<|Á o C;clear b d t o D C;go_wp2_with (go_at_call 103;refine(qm _ _).mono ?_;rintro e j ⟨rfl,I⟩;subst j;rw[H.out.2.2.2]);go_at_call 202;apply H.out.2.1.mono;rintro e w1 ⟨rfl,r,F⟩;rw[if_pos U]at r;have G:=fe<|Á r F;clear r F;subst P;have e3:(p !=0)=Ü:=by rwa[bne_iff_ne]
 go_wp2_with (go_at_call 103;refine(qm _ _).mono ?_;rintro e j ⟨rfl,I⟩;subst j;rw[H.out.2.2.2])
 go_at_call 204;refine(nt ok G.out.1<|by simp at v|-;omega).mono ?_;rintro e w2 ⟨rfl,I4,I,J⟩;go_wp2_with fail;go_at_call 204;refine(nt ok I<|by simp at v;omega).mono ?_;rintro e w3 ⟨rfl,MO,V,L⟩;have T:=(G.out.2.ff J).ff L;clear I J L;go_wp2_with fail;exact S _ _ (gi _) ⟨_,_,V,T⟩
def alQ(ok:E.Ok)(u:Nat->Ç)(b:R E i c z x zQ s f w)(W:B.size<=40)(n:Nat)(M:h=n)(N:n<B.size)(t:iJ w)(k l m:Int)(v:zQ.length<=700)(O:0<=c.g)(Y:c.g<=100000)(p q:Int)(y:List Int)(P:zQ=(y++[p])++[q])(Q:p=0)(C:lH ((B[n]'N).toNat:Int)=17)(o:iY[(17:Nat)]?=Ã (k,l,m))(D:me c.g zQ.length k l m=Ü) (S:∀a j,Da i B ((n:Int)+1) a->kN E i z x f.length w (oN c<|c.g-k) y s f j->K a j): Î À uF (Exit.then K<|QQ X) (nX i B h u) w:=by
 unfold nX;conv=>arg 2;whnf
 subst M;have e1:((n:Int)==(B.size:Int))=Ï:=by rw[beq_eq_false_iff_ne];omega
 have e2:decide ((B.size:Int)<(n:Int))=Ï:=decide_eq_false Z;have IB:(0:Int)<=(n:Int):=Z
 have vB:(n:Int)<(B.size:Int):=Z
 have d:=C7 E ok i c z x zQ s f w b t 17 k l m o Z O Z;rw[D]at d;have H:=fe<|Á b<|Á d<|Á o C;clear b d t o D C;go_wp2_with (go_at_call 103;refine(qm _ _).mono ?_;rintro e j ⟨rfl,I⟩;subst j;rw[H.out.2.2.2]);go_at_call 202;apply H.out.2.1.mono;rintro e w1 ⟨rfl,r,F⟩;rw[if_pos U]at r;have G:=fe<|Á r F;clear r F;subst P;subst Q;go_wp2_with (go_at_call 103;refine(qm _ _).mono ?_;rintro e j ⟨rfl,I⟩;subst j;rw[H.out.2.2.2]);go_at_call 204;refine(nt ok G.out.1<|by simp at v|-;omega).mono ?_;rintro e w2 ⟨rfl,I4,I,J⟩;go_wp2_with fail;go_at_call 204;refine(nt ok I<|by simp at v;omega).mono ?_;rintro e w3 ⟨rfl,MO,V,L⟩;have T:=(G.out.2.ff J).ff L;clear I J L;go_wp2_with fail;exact S _ _ (gi _) ⟨_,_,V,T⟩
def alR(ok:E.Ok)(u:Nat->Ç)(b:R E i c z x zQ s f w)(hP:B.size<=40)(n:Nat)(Q:h=n)(S:n<B.size)(r:iJ w)(l o q:Int)(T:zQ.length<=700)(V:0<=c.g)(uD:c.g<=100000)(k:Nat)(W:2<=k)(Y:k<=20)(h_:k≠17)(C9:o<=zQ.length)(oG:0<=c.d)(hd:c.d<=4)(hF:c.d<4->sZ F (c.d+1))(I:qj F)(J:gF s)(hx:c.x<8)(hy:c.y<8)(L:∀p∈zQ,fY p)(hlen:(f.length:Int)+c.g<=1000000)(t:RT)(M:t=n9 F c k ⟨zQ,s,f,c.g-l⟩)(i_:0<=l)(SG:l<=c.g)(N:lH ((B[n]'S).toNat:Int)=k)(v:iY[(k:Nat)]?=Ã (l,o,q))(O:me c.g zQ.length l o q=Ü) (hK:∀a m,Da i B ((n:Int)+1) a->kN E i z x f.length w (oN c t.g) t.r t.s t.C m->K a m): Î À uF (Exit.then K<|QQ X) (nX i B h u) w:=by
 unfold nX;conv=>arg 2;whnf
 subst Q;have e1:((n:Int)==(B.size:Int))=Ï:=by rw[beq_eq_false_iff_ne];omega
 have e2:decide ((B.size:Int)<(n:Int))=Ï:=decide_eq_false Z;have IB:(0:Int)<=(n:Int):=Z
 have vB:(n:Int)<(B.size:Int):=Z
 have j:=C7 E ok i c z x zQ s f w b r k l o q v Z V Z;rw[O]at j;have H:=fe<|Á b<|Á j<|Á r<|Á v N;clear b j r v O N;go_wp2_with (go_at_call 103;refine(qm _ _).mono ?_;rintro e m ⟨rfl,hw⟩;subst m;rw[H.out.2.2.2.2]);go_at_call 202;apply H.out.2.1.mono;rintro e w1 ⟨rfl,C,P⟩;rw[if_pos U]at C;have G:=fe<|Á C P;clear C P;have e11:((k:Int)==1)=Ï:=by rw[beq_eq_false_iff_ne];omega
 have e27:((k:Int)==17)=Ï:=by rw[beq_eq_false_iff_ne];omega
 have e31:((k:Int)==21)=Ï:=by rw[beq_eq_false_iff_ne];omega
 have e32:((k:Int)==22)=Ï:=by rw[beq_eq_false_iff_ne];omega
 have D:=alI (t:=t) ok G.out.1 T oG hd hF I (H.out.2.2.1.N ok H.out.1 G.out.2) J hx hy L (by show 0<=c.g-l;omega) (by show c.g-l<=100000;omega) (by show(f.length:Int)+(c.g-l)<=1000000;omega) k W Y h_ l o q H.out.2.2.2.1 C9 M;have HD:=fe D;clear D hF I J L hlen M;go_wp2_with (go_at_call 103;refine(qm _ _).mono ?_;rintro e m ⟨rfl,hw⟩;subst m;rw[H.out.2.2.2.2]);go_at_call 205;apply HD.out.mono;rintro e w2 ⟨rfl,I4,Mr,h2,t2⟩;go_wp2_with fail;exact hK _ _ (gi _) ⟨_,_,h2,G.out.2.ff t2⟩
end
def qn(k:Nat):Int×Int×Int:=(iY[k]?).getD (0,0,0)
def Fz(P:ByteArray)(a:Int):Int:=((P.data.getD a.toNat 0).toNat:Int)
def lI(P:ByteArray)(a:Int):Nat:=lH<|Fz P a
def s6(F:mf)(c:RC)(P:ByteArray):Nat->Int->RT->Int×Bool×RT
 |0,_,t=>(0,Ï,t)
 |f+1,pl,t=>
  if pl=P.size then(0,Ü,t)
  else if(P.size:Int)<pl then(0,Ï,{t with g:=0})
  else if me t.g t.r.length (qn<|lI P pl).1 (qn<|lI P pl).2.1 (qn<|lI P pl).2.2=Ï then(0,Ï,{t with g:=0})
  else if lI P pl=1 then s6 F c P f (pl+1) {t with r:=t.r++[Fz P pl-48],g:=t.g-(qn<|lI P pl).1}
  else if lI P pl=17 then
   if fZ (fV t.r)=0 then s6 F c P f (pl+1) {t with r:=fV<|fV t.r,g:=t.g-(qn<|lI P pl).1}else s6 F c P f (fZ t.r) {t with r:=fV<|fV t.r,g:=t.g-(qn<|lI P pl).1}
  else if lI P pl=21 then(fZ t.r,Ü,{t with r:=fV t.r,g:=t.g-(qn<|lI P pl).1})
  else if lI P pl=22 then(0,Ï,{t with g:=t.g-(qn<|lI P pl).1})
  else s6 F c P f (pl+1) (n9 F c (lI P pl) {t with g:=t.g-(qn<|lI P pl).1})
structure nY(t:RT):Prop where
 r:∀p∈t.r,fY p
 M:t.r.length<=32
 s:gF t.s
 g0:0<=t.g
 C:t.g<=100000
 I:(t.C.length:Int)+t.g<=1000000
def alS{p:Prop}[Decidable p](c:i<=m)(d:b<=m):(if p then i else b)<=m:=by split;exact c;exact d
def j_(c:Int):lH c<=22:=by unfold lH;repeat' (first|refine alS A ?_|decide)
def uG:fY 0:=⟨A,A⟩
def alT:fY 1:=⟨A,A⟩
theorem k_(h:k<=22):iY[k]?=Ã (qn k):=by
 unfold qn;have:k<iY.length:=by show k<23;omega
 grind
def xA(n:Int):fY (wu n):=⟨ak1 n,ak2 n⟩
def m_(b:Bool):fY (xu b):=by cases b<;>exact⟨A,A⟩
def alU{q:Int}(a:fY c)(d:fY q):fY (xv h c q):=by
 unfold xv;repeat' split
 all_goals first|exact xA _|exact m_ _|exact⟨A,A⟩|skip
 rename_i e;have b:=a.1;exact⟨Int.ediv_nonneg b d.1,Int.lt_of_le_of_lt (Int.ediv_le_self _ b) a.2⟩
def gF.fW{s:St}(h:gF s){a:Fw}(b:fY a.fl)(d:∀j,fY<|a.C j)(e:a.r.size<=40/\∀c∈a.r.data.toList,xw c=Ü):gF (s.fW i a):=by
 refine⟨λj=> ?_,λj k=> ?_,λj=> ?_⟩<;>unfold St.fW<;>split
 .exact b
 .exact h.fl j
 .exact d k
 .exact h.C j k
 .exact e
 .exact h.I j
def gF.r{s:St}(h:gF s)(i:Nat){b:Int}(a:fY b):gF (s.fl i b):=h.fW a (h.C i)<|h.I i
def gF.Sy{s:St}(h:gF s)(i j:Nat)(a:fY c):gF (s.r i j c):=by
 refine h.fW (h.fl i) (λk=> ?_)<|h.I i;show fY (if k=j then c else(s i).C k);split
 .exact a
 .exact h.C i k
def alV{s:St}(h:gF s)(y:Nat){p:Int}(a:fY p):fY (pn s y c p).1/\gF (pn s y c p).2:=by
 unfold pn;split
 .exact⟨uG,h⟩
 .rename_i d;have b:=h.fl y;have e:=a.1;refine⟨alT,gF.r (gF.r h y ⟨Z,by have:=b.2;omega⟩) _<|xA _⟩
def n_(h:n<8):fY (n:Int):=⟨Z,Z⟩
section
variable{F:mf}{c:RC}{t:RT}
def s7{m:List Int}(h:∀p∈zQ,fY p)(k:∀p∈m,fY p):∀p∈zQ++m,fY p:=λp a=>(û.1 a).elim (h p)<|k p
def xB{a:Int}(h:fY a):∀p∈[a],fY p:=λp b=>by simp at b;subst b;exact h
def SH{a b:Int}(h:fY a)(k:fY b):∀p∈[a,b],fY p:=λp c=>by simp at c;rcases c with rfl|rfl;exact h;exact k
def alW(b:qj F)(a:nY t)(d:c.y<8){p k:Int}(f:fY h)(i:fY p)(j:fY k): fY (iU F c t h p k).1/\fY (iU F c t h p k).2.1/\gF (iU F c t h p k).2.2.s/\0<=(iU F c t h p k).2.2.g/\(iU F c t h p k).2.2.g<=t.g/\((iU F c t h p k).2.2.C.length:Int)+(iU F c t h p k).2.2.g<=(t.C.length:Int)+t.g:=by
 unfold iU;split
 .exact⟨uG,uG,a.s,a.g0,Ø _,Ø _⟩
 .have l:0<=min p t.g:=by have:=i.1;have:=a.g0;omega
  have m:=a.C;have n:=a.I;have o:=f.1;have e:=b t.s t.C c.y (h%8).toNat (min p t.g) k a.s d Z j l Z Z;have r:=e.C;have u:=e.r;have v:=e.I;refine⟨e.M,m_ _,e.N,?_,?_,?_⟩;all_goals simp only
  all_goals have:=a.g0
  all_goals omega
theorem o_(v:qj F)(w:c.x<8)(r:c.y<8)(z:fY c.k)(P:2<=k)(Q:k<=20)(S:k≠17){o u:Int}(d:iY[k]?=Ã (h,o,u)){g:Int}(T:t.g=g-h)(a:nY t)(V:(t.C.length:Int)+g<=1000000)(W:o<=t.r.length)(X:(t.r.length:Int)-o+u<=32): nY (n9 F c k t)/\(n9 F c k t).g<=t.g/\((n9 F c k t).C.length:Int)+(n9 F c k t).g<=t.C.length+g:=by
 have i:=s5 a.r;have j:=s5<|po a.r;have B:=s5<|po<|po a.r;have m:=po a.r;have n:=po m;have C:=po n;have f:=qk t.r;have q:=qk<|fV t.r;have Y:=qk<|fV<|fV t.r;have g1:=a.C;obtain⟨D,E,G,H,I,J⟩:=ML k _ d;simp only at D E G H I J;have len:=a.M;have b:∀{l:List Int},(∀p∈l,fY p)->l.length<=32->nY {t with r:=l}:=λp K=>⟨p,K,a.s,a.g0,a.C,a.I⟩;have cases:(k=2\/k=3\/k=4\/k=5\/k=6\/k=7)\/k=8\/k=9\/k=10\/k=11\/k=12\/k=13\/k=14\/k=15\/k=16\/k=18\/k=19\/k=20:=Z
 rcases cases with hq|rfl|rfl|rfl|rfl|rfl|rfl|rfl|rfl|rfl|rfl|rfl|rfl
 .have e:n9 F c k t={t with r:=fV (fV t.r)++[xv k (fZ<|fV t.r)<|fZ t.r]}:=by
   rcases hq with rfl|rfl|rfl|rfl|rfl|rfl<;>rfl
  rw[e];exact⟨b (s7 n<|xB<|alU j i) (by simp[f,q];omega),Ø _,by simp only;omega⟩
 .exact⟨b (s7 m<|SH i i) (by simp[f];simp[iY]at d;omega),Ø _,by show(t.C.length:Int)+t.g<=_;omega⟩
 .exact⟨b (s7 n<|SH i j) (by simp[f,q];omega),Ø _,by show(t.C.length:Int)+t.g<=_;omega⟩
 .exact⟨b m (by rw[f];omega),Ø _,by show(t.C.length:Int)+t.g<=_;omega⟩
 .exact⟨b (s7 a.r<|xB z) (by simp;simp[iY]at d;omega),Ø _,by show(t.C.length:Int)+t.g<=_;omega⟩
 .exact⟨b (s7 a.r<|xB<|n_ w) (by simp;simp[iY]at d;omega),Ø _,by show(t.C.length:Int)+t.g<=_;omega⟩
 .exact⟨b (s7 a.r<|xB<|n_ r) (by simp;simp[iY]at d;omega),Ø _,by show(t.C.length:Int)+t.g<=_;omega⟩
 .exact⟨b (s7 a.r<|xB<|a.s.fl _) (by simp;simp[iY]at d;omega),Ø _,by show(t.C.length:Int)+t.g<=_;omega⟩
 .exact⟨b (s7 m<|xB<|a.s.C _ _) (by simp[f];omega),Ø _,by show(t.C.length:Int)+t.g<=_;omega⟩
 .exact⟨⟨n,by show(fV<|fV t.r).length<=32;omega,a.s.Sy _ _ j,a.g0,a.C,a.I⟩,Ø _,by show(t.C.length:Int)+t.g<=_;omega⟩
 .obtain⟨e,L⟩:=alV a.s c.y j;exact⟨⟨s7 n<|xB e,by show(fV (fV t.r)++[_]).length<=32;simp[f,q];omega,L,a.g0,a.C,a.I⟩,Ø _,by show(t.C.length:Int)+t.g<=_;omega⟩
 .have e:h=4:=by simp[iY]at d;omega
  refine⟨⟨m,by show(fV t.r).length<=32;omega,a.s,a.g0,a.C,?_⟩,Ø _,?_⟩
  .show((t.C++[_]).length:Int)+t.g<=_;simp;omega
  .show((t.C++[_]).length:Int)+t.g<=_;simp;omega
 .obtain⟨e,L,M,N,O,w6⟩:=alW v a r i j B;refine⟨⟨s7 C<|SH e L,?_,M,N,?_,?_⟩,O,?_⟩
  .show(fV (fV<|fV t.r)++[_,_]).length<=32;grind
  .show(iU F c t _ _ _).2.2.g<=_;omega
  .show((iU F c t _ _ _).2.2.C.length:Int)+(iU F c t _ _ _).2.2.g<=_;omega
  .show((iU F c t _ _ _).2.2.C.length:Int)+(iU F c t _ _ _).2.2.g<=_;omega
end
def Db(a:Nat)(w:É):Nat:=match w.cell? ⟨a,5,Ä⟩with
 |some (Â _ n)=>n.toNat
 |_=>0
def R.G{E:iT}{c:RC}{s:St}{a:List (Nat×Int)}(h:R E i c v x zQ s a w):Db i w=c.g.toNat:=by unfold Db;rw[h.r.r 5 _ U]
def SI(E:iT)(d:Nat)(c:RC)(P:ByteArray)(F:mf)(f h:Ç)(i:Nat)(j:É)(k:Int×Bool×RT)(a:ê)(w:É):Prop:=
 ∃(b:Int) (t:RT) (e:Nat),Da d P b a/\fY b/\kN E d f h i j (oN c t.g) t.r t.s t.C w/\nY t/\iJ w/\t.g.toNat<e/\s6 F c P e b t=k
def SX(E:iT)(d:Nat)(c:RC)(P:ByteArray)(e f:Ç)(h:Nat)(i:É)(b:Int×Bool×RT)(a:ê)(w:É):Prop:=
 Fy d P b.1 b.2.1 a/\kN E d e f h i (oN c b.2.2.g) b.2.2.r b.2.2.s b.2.2.C w
def SJ(a:n<B.size):Fz B (n:Int)=((B[n]'a).toNat:Int):=by unfold Fz;rw[Ż];have b:n<B.data.size:=a;simp only[Array.getD,b,dif_pos];rfl
def SK{s:St}(b:gF s)(y:Nat)(a:n<(s y).r.size):1<=lI (s y).r (n:Int):=by
 unfold lI;rw[SJ a];have c:((s y).r[n]'a)∈(s y).r.data.toList:=by have:(s y).r[n]'a=(s y).r.data[n]'a:=U;rw[this];exact Array.mem_toList_iff.2<|Array.getElem_mem _
 have:=(b.I y).2 _ c;unfold xw at this;have:=of_decide_eq_true this;omega
def p_{b a d:Int}(h:me c n b a d=Ü):b<=c/\a<=n/\(n:Int)-a+d<=32:=by unfold me at h;simp at h;omega
def alX{p:Prop}[Decidable p](c:i≠m)(d:b≠m):(if p then i else b)≠m:=by split;exact c;exact d
def q_(h:lH c=1):48<=c/\c<=57:=by
 by_cases a:48<=c/\c<=57
 .exact a
 .exfalso;revert h;unfold lH;rw[if_neg a];repeat' (first|refine alX A ?_|decide)
def alY(a:1<=k)(b:k<=22):1<=(qn k).1:=by
 have h:∀k:Fin 23,1<=k.val->1<=(qn k.val).1:=A
 exact h ⟨k,Z⟩ a
section
variable{E:iT}{c:RC}{F:mf}{l:Int×Bool×RT}
def alZ(ok:E.Ok)(hP:B.size<=40)(al0:∀n,n<B.size->1<=lI B (n:Int))(oG:0<=c.d)(hd:c.d<=4)(hF:c.d<4->sZ F (c.d+1))(hI:qj F)(hx:c.x<8)(hy:c.y<8)(I5:fY c.k)(a:ê)(w:É)(h:SI E j c B F z v i W l a w): Î À uF (Exit.then (λa' w'=>SI E j c B F z v i W l a' w'/\Db j w'<Db j w)<|QQ<|SX E j c B z v i W l) a w:=by
 let⟨pl,t,fuel,hfr,rz,⟨sv,lv,hR,hT⟩,ht,hr,hfu,j1⟩:=h;have g0:=ht.g0;have g1:=ht.C;have hl:=ht.M;have al1:=hR.G;obtain⟨f,rfl⟩:∃f,fuel=f+1:=⟨fuel-1,Z⟩;unfold s6 at j1;obtain⟨u,rfl⟩:=hfr;by_cases h1:pl=B.size
 .rw[if_pos h1]at j1;subst j1;apply alJ ok u hR hP h1;rintro a' w' q1 ⟨j0,jz,r1,r2⟩;exact⟨q1,j0,jz,r1,hT.ff r2⟩
 rw[if_neg h1]at j1;by_cases h2:(B.size:Int)<pl
 .rw[if_pos h2]at j1;subst j1;apply alK ok u hR hP h2;rintro a' w' q1 ⟨j0,jz,r1,r2⟩;exact⟨q1,j0,jz,r1,hT.ff r2⟩
 rw[if_neg h2]at j1;have g_:=rz.1;obtain⟨n,rfl⟩:∃n:Nat,pl=n:=⟨pl.toNat,Z⟩;have hn:n<B.size:=Z
 have k1:=al0 n hn;have uE:lH ((B[n]'hn).toNat:Int)=lI B (n:Int):=by unfold lI;rw[SJ hn]
 have k2:lI B (n:Int)<=22:=j_ _;have hk:=k_ k2;have i_:=alY k1 k2;let⟨b1,b2,b3,b4,b5,b6⟩:=ML _ _ hk;have al2:=SJ hn;generalize lI B (n:Int)=k at*;generalize hro:qn k=ro at*;let⟨co,ta,pu⟩:=ro;simp only at j1 hk i_ b1 b2 b3 b4 b5 b6;by_cases h3:me t.g t.r.length co ta pu=Ï
 .rw[if_pos h3]at j1;subst j1;apply alL ok u hR hP n U hn hr co ta pu Z g0 g1 k uE hk h3;rintro a' w' q1 ⟨j0,jz,r1,r2⟩;exact⟨q1,j0,jz,r1,hT.ff r2⟩
 rw[if_neg h3]at j1;have oH:me t.g t.r.length co ta pu=Ü:=by cases e:me t.g t.r.length co ta pu with
  |true=>rfl
  |false=>exact absurd e h3
 let⟨SG,C9,SL⟩:=p_ oH;have SN:=ht.I;have vB:fY ((n:Int)+1):=⟨Z,Z⟩;have MP:∀{a':ê} {w':É} {I6:Int} {t':RT} {j0 jz:Ç},Da j B I6 a'->fY I6->R E j (oN c t'.g) j0 jz t'.r t'.s t'.C w'->Tr E j sv lv t.C.length w j0 jz t'.C.length w'->nY t'->t'.g<=t.g-co->s6 F c B f I6 t'=l->SI E j c B F z v i W l a' w'/\Db j w'<Db j w:=by intro a' w' I6 t' j0 jz q1 q2 q3 q4 q5 q6 q7;refine⟨⟨I6,t',f,q1,q2,⟨j0,jz,q3,hT.ff q4⟩,q5,hr.N ok hR q4,Z,q7⟩,?_⟩;rw[q3.G,al1];show t'.g.toNat<t.g.toNat;omega
 by_cases h4:k=1
 .rw[if_pos h4]at j1;subst h4;have q':=q_ uE;apply alO ok u hR hP n U hn hr co ta pu Z g0 g1 q'.1 q'.2 uE hk oH;rintro a' w' q1 ⟨j0,jz,r1,r2⟩;rw[al2]at j1;refine MP (t':={t with r:=t.r++[((B[n]'hn).toNat:Int)-48],g:=t.g-co}) q1 vB r1 r2 ⟨s7 ht.r<|xB ⟨Z,Z⟩,?_,ht.s,by show 0<=t.g-co;omega,by show t.g-co<=100000;omega,by show(t.C.length:Int)+(t.g-co)<=1000000;omega⟩ (Ø _) j1;simp[iY]at hk;simp;omega
 rw[if_neg h4]at j1;by_cases h5:k=17
 .rw[if_pos h5]at j1;subst h5;have al3:ta=2:=by simp[iY]at hk;omega
  have e2:t.r=(fV (fV t.r)++[fZ<|fV t.r])++[fZ t.r]:=by rw[xy (by rw[qk];omega),xy Z]
  have tok:nY {t with r:=fV<|fV t.r,g:=t.g-co}:=⟨po<|po ht.r,by show(fV<|fV t.r).length<=32;rw[qk,qk];omega,ht.s,by show 0<=t.g-co;omega,by show t.g-co<=100000;omega,by show(t.C.length:Int)+(t.g-co)<=1000000;omega⟩;by_cases h6:fZ (fV t.r)=0
  .rw[if_pos h6]at j1;apply alQ ok u hR hP n U hn hr co ta pu Z g0 g1 _ _ _ e2 h6 uE hk oH;rintro a' w' q1 ⟨j0,jz,r1,r2⟩;exact MP (t':={t with r:=fV<|fV t.r,g:=t.g-co}) q1 vB r1 r2 tok (Ø _) j1
  .rw[if_neg h6]at j1;apply alP ok u hR hP n U hn hr co ta pu Z g0 g1 _ _ _ e2 h6 uE hk oH;rintro a' w' q1 ⟨j0,jz,r1,r2⟩;exact MP (t':={t with r:=fV<|fV t.r,g:=t.g-co}) q1 (s5 ht.r) r1 r2 tok (Ø _) j1
 rw[if_neg h5]at j1;by_cases h6:k=21
 .rw[if_pos h6]at j1;subst h6 j1;have al3:ta=1:=by simp[iY]at hk;omega
  apply alN ok u hR hP n U hn hr co ta pu Z g0 g1 _ _ (xy Z).symm uE hk oH;rintro a' w' q1 ⟨j0,jz,r1,r2⟩;exact⟨q1,j0,jz,r1,hT.ff r2⟩
 rw[if_neg h6]at j1;by_cases h7:k=22
 .rw[if_pos h7]at j1;subst h7 j1;apply alM ok u hR hP n U hn hr co ta pu Z g0 g1 uE hk oH;rintro a' w' q1 ⟨j0,jz,r1,r2⟩;exact⟨q1,j0,jz,r1,hT.ff r2⟩
 rw[if_neg h7]at j1;let⟨d1,d2,d3⟩:=o_ (t:={t with g:=t.g-co}) hI hx hy I5 Z Z h5 hk U ⟨ht.r,ht.M,ht.s,by show 0<=t.g-co;omega,by show t.g-co<=100000;omega,by show(t.C.length:Int)+(t.g-co)<=1000000;omega⟩ SN C9 SL;apply alR ok u hR hP n U hn hr co ta pu Z g0 g1 k Z Z h5 C9 oG hd hF hI ht.s hx hy ht.r SN (n9 F c k {t with g:=t.g-co}) U b1 SG uE hk oH;rintro a' w' q1 ⟨j0,jz,r1,r2⟩;exact MP q1 vB r1 r2 d1 d2 j1
end
section
variable{E:iT}{c:RC}{F:mf}{lv:Ç}{s:St}{b:List (Nat×Int)}
def oa(F:mf)(c:RC)(s:St)(b:List (Nat×Int)):Int×Bool×RT:=s6 F c (s c.y).r (c.g.toNat+1) 0 ⟨[],s,b,c.g⟩
def r_(ok:E.Ok)(h:R E i c v lv [] s b w)(l:0<=c.d)(o:c.d<=4)(hF:c.d<4->sZ F (c.d+1))(p:qj F)(q:iJ w)(f:gF s)(r:c.x<8)(j:c.y<8)(t:fY c.k)(z:0<=c.g)(B:c.g<=100000)(C:(b.length:Int)+c.g<=1000000): Ò À 191 #[Å<|Ã ⟨i,0,Ä⟩] w λe a=>e=È (ç #[Â Æ (oa F c s b).1,Ñ (oa F c s b).2.1])/\kN E i v lv b.length w (oN c (oa F c s b).2.2.g) (oa F c s b).2.2.r (oa F c s b).2.2.s (oa F c s b).2.2.C a:=by
 have G:=h.r.r 0 _ U;have I:=h.r.r 2 _ U;have J:=h.C.MI j;have K:=h.r.M;have M:=fg.M h.C;have e:=(f.I c.y).1;have L:∀m,∀a,Da i (s c.y).r 0 a->Î À (á uF) (QQ<|SX E i c (s c.y).r v lv b.length w<|oa F c s b) a (w.drewN m):=λm a D=>by refine Č (SI E i c (s c.y).r F v lv b.length w<|oa F c s b) (λ_ w=>Db i w) ?_ (alZ ok e (λn u=>SK f c.y u) l o hF p r j t);have k:=e9.iN (λ_=>False) w m;exact⟨0,⟨[],s,b,c.g⟩,c.g.toNat+1,D,uG,⟨v,lv,h.fK k,Tr.fK k⟩,⟨fj,fj,f,z,B,C⟩,q.r k id,fj,U⟩
 have H:=fe L;generalize oa F c s b=res at*;generalize N:(s c.y).r=P at*;go_enter Tryz.func191,Tryz.ntmps191;go_wp2_with fail;go_step3;go_wp2_with fail;go_quiet (fail);go_wp2_with fail;go_step3;go_wp2_with fail;refine Þ ?_ (H.out _ _ (gi _));rintro(_|(_|_)|_|_|_|_) a v hq;all_goals first|exact absurd hq id|skip
 let⟨n,O⟩:=hq;obtain⟨u,rfl⟩:=n;unfold h';go_wp2_with fail;(try rw[Exit.noGoto_ret]);go_ret2;simp_all
end
def SO(a:o.op=br T)(b:P.info? T=Ã zJ)(c:zJ.zero=Ã z): (Ī xX o).run P w=ag (.value<|Å<|Ã ⟨w.heap.size,0,Ä⟩) (w.alloc<|Ð z.cells T):=by unfold Ī;simp[a,Instr.alloc,zeroValue,typeInfo,b,c,newVar,newRow]
def MQ:∀(e a d:List Ç) (w:É) (c:List Ç),c.length=e.length->fg b (a++c++d) T w->fg b (a++e++d) T (w.setCells b a.length e)
 |[],a,d,w,c,hl,h=>by have:c=[]:=à (by simpa using hl);subst this;exact h
 |v::r,a,d,w,c,hl,h=>by
  match c,hl,h with
  |x::c,hl,h=>
   have f:=h.fW a.length v;rw[show(a++x::c++d).set a.length v=(a++[v])++c++d by simp]at f;have:=MQ r (a++[v]) d _ c (by simpa using hl) f;rw[show(a++[v]).length=a.length+1 by simp]at this;rw[show a++v::r++d=a++[v]++r++d by simp];exact this
def NF.qz(h:NF b w)(p:ć)(v:Ç):NF b (w.setCell p v):=λc T d q=>by
 by_cases e:b=p.block
 .subst e;unfold ĉ at q;simp only[Ý,if_true]at q;cases a:w.heap[p.block]? with
  |none=>rw[a]at q;cases q
  |some f=>
   rw[a]at q;cases f with
   |cells g t z=>
    simp only[ó,é,ĩ]at q;rw[<-q.2.1];exact h _ _ _ a
   |_=>cases q
 .rw[Ĝ _ _ _ _ (by simpa using e)]at q;exact h c T d q
def I7:∀(vs:List Ç) (o:Nat) (w:É),NF b w->e9 (λk=>k=b) w (w.setCells b o vs)
 |[],_,w,_=>e9.fT _ w
 |v::r,o,w,h=>(e9.I (X:=λk=>k=b) (p:=⟨b,o,Ä⟩) U v<|Ú h).ff<|I7 r (o+1) _<|h.qz _ _
def fg.SQ{vs:List Ç}(h:fg j vs T w)(a:n<=vs.length):w.there j 0 n:=λi b=>by refine⟨?_,h.C _⟩;rw[h.r (0+i) (vs[0+i]'Z)<|Ô Z];rfl
def fg.Y{vs tl:List Ç}(h:fg j (vs++tl) T w):w.rangeAt j 0 vs:=λi v a=>by apply h.r (0+i) v;rwa[Ň,è (Û.1 a).1]
def SR{P:Program}{ops:Array Oper}{rest:List Oper}{o1 o2:Oper}{a:Act}{w:World}{Q:Exit->Act->World->Prop}(g1:o1.guard=none)(g2:o2.guard=none)(T:TypeId)(h1:o1.op=.alloc T)(d:Tmp)(hd:o1.dst=some d)(x y:Operand)(h2:o2.op=.store T x y)(mT:o2.dst=none) {i:TypeInfo} {z:Value} (hi:P.info? T=some i) (hz:i.zero=some z) (cs:List Value) (jr:i.size=cs.length) (rK:z.cells.size=cs.length) (hx:(a.put (some d)<|.pointer<|some ⟨w.heap.size,0,none⟩).eval x=.pointer (some ⟨w.heap.size,0,none⟩)) (hy:(a.put (some d)<|.pointer<|some ⟨w.heap.size,0,none⟩).eval y=.agg cs.toArray) (MR:∀v∈cs,v.oneCell'=true) (h:∀w',fg w.heap.size cs T w'->e9 (λ_=>False) w w'->w'.heap.size=w.heap.size+1->wpList P ops Q rest (a.put (some d)<|.pointer<|some ⟨w.heap.size,0,none⟩) w') (hT:mb T=false:=by decide):wpList P ops Q (o1::o2::rest) a w:=by
 apply Ċ g1 (Ã d) hd _ _ (SO h1 hi hz);have hB:fg w.heap.size z.cells.toList T (w.alloc<|Ð z.cells T):=by have:=fg.N w z.cells.toList T;simpa using this
 refine Ń g2 T x y h2 w.heap.size 0 cs.toArray hx hy (hB.SQ<|by simp[rK]) (by rw[hi];simp[jr]) (į MR) ?_;rw[mT];have hB2:=MQ cs [] [] (w.alloc<|Ð z.cells T) z.cells.toList (by simpa using rK) (by simpa using hB);refine h _ (by simpa using hB2) ?_ ?_
 .refine(e9.gG (λ_=>False) w _ _<|Ù hT).C (I7 _ _ _<|hB.G hT) λk hk e=> ?_;omega
 .have:∀(vs:List Ç) (o:Nat) (w:É) (b:Nat),(w.setCells b o vs).heap.size=w.heap.size:=by
   intro vs
   induction vs with
   |nil=>intro o w b;rfl
   |cons v r ih=>intro o w b;rw[World.setCells,ih];simp
  simp[this]
section
variable{c:RC}{F:mf}
structure zp(t:RT)(r:Int×Bool×RT):Prop where
 M:fY r.1
 s:gF r.2.2.s
 g0:0<=r.2.2.g
 C:r.2.2.g<=t.g
 I:(r.2.2.C.length:Int)+r.2.2.g<=t.C.length+t.g
def zp.r{t a:RT}{r:Int×Bool×RT}(h:zp a r)(b:a.g<=t.g)(c:(a.C.length:Int)+a.g<=t.C.length+t.g):zp t r:= ⟨h.M,h.s,h.g0,ż h.C b,ż h.I c⟩
def FA{J:St->List (Nat×Int)->Prop}(u:B.size<=40)(d:∀n,n<B.size->1<=lI B (n:Int))(h:qj F)(i:c.x<8)(j:c.y<8)(m:fY c.k)(o:∀(k:Nat) (t:RT),k<=20->nY t->J t.s t.C->J (n9 F c k t).s (n9 F c k t).C):∀(p:Nat) (b:Int) (t:RT),fY b->nY t->J t.s t.C->zp t (s6 F c B p b t)/\J (s6 F c B p b t).2.2.s (s6 F c B p b t).2.2.C
 |0,_,t,_,ht,hj=>⟨⟨uG,ht.s,ht.g0,Ø _,Ø _⟩,hj⟩
 |f+1,b,t,rz,ht,hj=>by
  have S:=ht.g0;have g1:=ht.C;have T:=ht.M;have V:=ht.I;have L:zp t (0,Ï,{t with g:=0})/\J t.s t.C:=⟨⟨uG,ht.s,Ø _,S,by show(t.C.length:Int)+0<=_;omega⟩,hj⟩;unfold s6;by_cases M:b=B.size
  .rw[if_pos M];exact⟨⟨uG,ht.s,ht.g0,Ø _,Ø _⟩,hj⟩
  rw[if_neg M];by_cases N:(B.size:Int)<b
  .rwa[if_pos N]
  rw[if_neg N];have g_:=rz.1;obtain⟨n,rfl⟩:∃n:Nat,b=n:=⟨b.toNat,Z⟩;have W:n<B.size:=Z
  have k1:=d n W;have X:lI B (n:Int)<=22:=j_ _;have v:=k_ X;let⟨Y,b2,b3,b4,b5,b6⟩:=ML _ _ v;have al4:lI B (n:Int)=1->48<=Fz B (n:Int)/\Fz B (n:Int)<=57:=q_;generalize lI B (n:Int)=k at*;generalize hro:qn k=ro at*;let⟨a,w,z⟩:=ro;simp only at v Y b2 b3 b4 b5 b6|-;by_cases C:me t.g t.r.length a w z=Ï
  .rwa[if_pos C]
  rw[if_neg C];have oH:me t.g t.r.length a w z=Ü:=by cases e:me t.g t.r.length a w z with
   |true=>rfl
   |false=>exact absurd e C
  let⟨SG,C9,SL⟩:=p_ oH;have D:fY ((n:Int)+1):=⟨Z,Z⟩;have E:∀{l:List Int},(∀p∈l,fY p)->l.length<=32->nY {t with r:=l,g:=t.g-a}:=λG H=>⟨G,H,ht.s,by show 0<=t.g-a;omega,by show t.g-a<=100000;omega,by show(t.C.length:Int)+(t.g-a)<=1000000;omega⟩;have I:∀{l:List Int} {r:Int×Bool×RT},zp {t with r:=l,g:=t.g-a} r/\J r.2.2.s r.2.2.C->zp t r/\J r.2.2.s r.2.2.C:=λq=>⟨q.1.r (by show t.g-a<=t.g;omega) (by show(t.C.length:Int)+(t.g-a)<=_;omega),q.2⟩;by_cases p:k=1
  .rw[if_pos p];have:=al4 p;subst p;refine I<|FA u d h i j m o f _ _ D (E (s7 ht.r<|xB ⟨Z,Z⟩) ?_) hj;simp[iY]at v;simp;omega
  rw[if_neg p];by_cases K:k=17
  .rw[if_pos K];have O:=E (po<|po ht.r) (by rw[qk,qk];omega);split
   .exact I<|FA u d h i j m o f _ _ D O hj
   .exact I<|FA u d h i j m o f _ _ (s5 ht.r) O hj
  rw[if_neg K];by_cases O:k=21
  .rw[if_pos O];exact⟨⟨s5 ht.r,ht.s,by show 0<=t.g-a;omega,by show t.g-a<=t.g;omega,by show(t.C.length:Int)+(t.g-a)<=_;omega⟩,hj⟩
  rw[if_neg O];by_cases P:k=22
  .rw[if_pos P];exact⟨⟨uG,ht.s,by show 0<=t.g-a;omega,by show t.g-a<=t.g;omega,by show(t.C.length:Int)+(t.g-a)<=_;omega⟩,hj⟩
  rw[if_neg P];have Q:=E ht.r T;let⟨d1,d2,d3⟩:=o_ (t:={t with g:=t.g-a}) h i j m Z Z K v U Q V C9 SL;let⟨G,H⟩:=FA u d h i j m o f _ _ D d1<|o k _ Z Q hj;exact⟨G.r (ż d2<|by show t.g-a<=t.g;omega) d3,H⟩
def t_{s:St}{a:List (Nat×Int)}(d:qj F)(b:gF s)(e:c.x<8)(f:c.y<8)(h:fY c.k)(i:0<=c.g)(j:c.g<=100000)(l:(a.length:Int)+c.g<=1000000):zp ⟨[],s,a,c.g⟩ (oa F c s a):= (FA (J:=λ_ _=>True) (b.I c.y).1 (λn m=>SK b c.y m) d e f h (λ_ _ _ _ _=>trivial) _ _ _ uG ⟨fj,fj,b,i,j,l⟩ trivial).1
end
def al5:(À.underlying 144).map Ķ=Ã Ü:=ft
def u_:(À.info? 144).map (λi=>(i.size,i.zero.map (·.cells.size)))=Ã (145,Ã 145):=ft
def w_(h:(P.info? e).map (λi=>(i.size,i.zero.map (·.cells.size)))=Ã (n,Ã m)):∃i z,P.info? e=Ã i/\i.size=n/\i.zero=Ã z/\z.cells.size=m:=by let⟨i,a,h⟩:=Ì.1 h;simp only[Prod.mk.injEq,Ì]at h;let⟨b,z,c,d⟩:=h;exact⟨i,z,a,b,c,d⟩
def SS(s:St){lv:Ç}(b:lv.oneCell'=Ü):∀v∈iZ s lv,v.oneCell'=Ü:=λv c=>by
 obtain⟨i,a,rfl⟩:=List.getElem_of_mem c;rw[mD]at a;have:=IW s lv a;rw[Ô (by rwa[mD])]at this;injection this with this;rw[this];unfold rO qh;repeat' split
 all_goals first|exact b|rfl
def SU{t:Tmp}{d:TypeDesc}(h:s.results=#[.cell t T])(a:q.getD t Ą=Å (Ã ⟨b,0,Ä⟩))(c:w.rangeAt b 0 l)(e:P.underlying T=Ã d)(f:d.isRow=Ü)(g:(P.info? T).map (·.size)=Ã l.length): (ay s q).run P w=ag (Ė l.toArray) w:=by rw[ı]at a;simp only[ay,h];simp[a,asAddr,Υ w b 0 T l d c e f g]
def SV:(À.underlying 252).map Ķ=Ã Ü:=ft
def SY:(À.info? 252).map (·.size)=Ã 3:=ft
def al6{e:Array Ŧ}{f:List Ŧ}{a:ê}(i:o.guard=Ä)(d:õ)(x y:Ŵ)(j:o.op=.store d x y) (b:Nat) (c:List Ç) (k:a.eval x=Å (Ã ⟨b,0,Ä⟩)) (l:a.eval y=Ė c.toArray) (m:w.there b 0 c.toArray.size) (n:(P.info? d).map (·.size)=Ã c.toArray.size) (p:c.toArray.all (·.oneCell')=Ü) (h:∀g,g=w.setCells b 0 c->aX P e vJ f (a.put o.dst Ą) g):aX P e vJ (o::f) a w:= Ń i d x y j b 0 c.toArray k l m n p<|h _ U
def rP(F:mf)(c:RC)(s:St)(a:List (Nat×Int)):C8:=
 ⟨c.g-(oa F c s a).2.2.g,(oa F c s a).2.1,(oa F c s a).1,if(oa F c s a).2.1 then(oa F c s a).2.2.s else s,if(oa F c s a).2.1 then(oa F c s a).2.2.C else a⟩
section
variable{E:iT}{c:RC}{lv:Ç}{s:St}{f:List (Nat×Int)}{F:mf}
def y_(k:e9 (λ_=>False) w u)(t:Tr E i (Ê Ä 0 0) lv n u x v f.length W)(o:w.heap.size<=i)(r:R E i c x v zQ s f W):il E lv n w s f W v:=by
 refine⟨r.C,r.M,?_,λj q=>(t.l j q).imp id λe=>í k.M e,λb d g h m=>t.C b d g (ia h k λ_ _=>id) m⟩;refine(k.S λ_ _=>Ġ).C t.r ?_;rintro a p (e|e|e|e)
 .exact Ù e
 .omega
 .cases e
 .exact Ú e
def il.N{Y:Nat->Prop}(r:il E lv n w s f W v)(k:e9 Y W jX)(m:∀i,Y i->w.heap.size<=i)(o:∀i d,Y i->W.heap[i]?≠Ã (Ð d 257 (0,0)))(p:¬Y E.r):il E lv n w s f jX v:=by
 have e:∀{a b c},W.ownsRow 0 257 2 a b c->jX.ownsRow 0 257 2 a b c:=λ{a b c} q=>ia q k λj t y=>by let⟨d,u⟩:=lG q t;exact o j d y u
 exact⟨r.r.I k p,e r.I,r.C.C k λi x y=>absurd (m i y) Z,r.l,λa b c g h=>⟨e (r.M a b c g h).1,(r.M a b c g h).2⟩⟩
def il.qK{a:St}{c:List (Nat×Int)}(ok:E.Ok)(m:w.ownsRow 0 257 2 lv c.length (kl c))(r:il E lv c.length w s f W v):il E lv c.length w a c (W.setCells E.r 0<|iZ a lv) lv:=by have k:=I7 (b:=E.r) (iZ a lv) 0 W<|fg.G r.r ok.C;have l:∀{d e g},W.ownsRow 0 257 2 d e g->(W.setCells E.r 0<|iZ a lv).ownsRow 0 257 2 d e g:=λ{d e g} q=>ia q k λj n y=>jA q r.r ok.r.symm (by rw[n,y]);have o:=MQ (T:=E.T) (b:=E.r) (iZ a lv) [] E.C W (iZ s v) (by rw[mD,mD]) (by have h:=r.r;unfold iz at h;simpa using h);refine⟨by unfold iz;simpa using o,l (r.M _ _ _ m λ_=>ß _).1,r.C.C k λi _ q=>Ù q,λj q=>Ù q,λd e g p h=>⟨l (r.M d e g p h).1,h⟩⟩
def z_(ok:E.Ok)(oG:0<=c.d)(hd:c.d<=4)(hF:c.d<4->sZ F (c.d+1))(hI:qj F)(V:iz E.r E.T E.C s lv w)(SZ:w.ownsRow 0 257 2 lv f.length (kl f))(hr:iJ w)(hs:gF s)(hx:c.x<8)(hy:c.y<8)(I5:fY c.k)(vm:0<=c.g)(uD:c.g<=100000)(hlen:(f.length:Int)+c.g<=1000000): Ò À 173 #[Å<|Ã ⟨E.r,0,Ä⟩,Â Ë c.x,Â Ë c.y,Â Æ c.g,Â Æ c.k,Â Ë c.d] w λe a=>
  e=È (Ė #[Â Æ (rP F c s f).r,Ñ (rP F c s f).C,Â Æ (rP F c s f).M])/\∃v,il E lv f.length w (rP F c s f).s (rP F c s f).I a v:=by
 let⟨dd,A_,A'⟩:=Ì.1 al5;let⟨i0,z0,I8,jr,I9,rK⟩:=w_ u_;have MR:=SS s (lv:=lv) (by obtain⟨a,u,rfl⟩:=jh SZ;rfl);have gJ:=fg.M V;have B_:(À.info? 144).map (·.size)=Ã (iZ s lv).length:=by rw[I8,mD];simp[jr]
 have k0:=e9.gG (λ_=>False) w #[Â Æ 0,Ñ Ï,Â Æ 0] 252;have QI:(w.alloc<|Ð #[Â Æ 0,Ñ Ï,Â Æ 0] 252).rangeAt E.r 0 (iZ s lv):=fg.Y<|V.I k0 id;have h:=fe<|Á A_<|Á A'<|Á B_<|Á QI<|Á I8<|Á I9<|Á (jr.trans (mD s lv).symm)<|Á (rK.trans (mD s lv).symm) MR;have H:=fe<|Á V<|Á SZ<|Á hr<|Á hF<|Á hI hs;clear A_ A' I8 jr I9 rK MR B_ QI V SZ hr hF hI hs k0;obtain⟨a,b,t,j1⟩:∃a b t,oa F c s f=(a,b,t):=⟨_,_,_,U⟩;have iH:rP F c s f=⟨c.g-t.g,b,a,if b then t.s else s,if b then t.C else f⟩:=by unfold rP;rw[j1]
 rw[iH];have MS:=t_ H.out.2.2.2.2.1 H.out.2.2.2.2.2 hx hy I5 vm uD hlen;rw[j1]at MS;have tg0:0<=t.g:=MS.g0;have tg1:t.g<=c.g:=MS.C;clear MS;cases b with
 |true=>
  go_enter az,π;go_wp2_with (first
   |(with_reducible refine ě U 144 _ U E.r 0 U (iZ s lv) dd h.out.2.2.2.1 h.out.1 h.out.2.1 h.out.2.2.1 ?_)
   |(with_reducible refine SR U U 144 U 13 U _ _ U U h.out.2.2.2.2.1 h.out.2.2.2.2.2.1 (iZ s lv) h.out.2.2.2.2.2.2.1 h.out.2.2.2.2.2.2.2.1 U U h.out.2.2.2.2.2.2.2.2 ?_;intro l G z I))
  have J:l.heap.size=w.heap.size+1+1:=by simpa using I
  have K:fg (w.heap.size+1) (iZ s lv) 144 l:=by simpa using G
  have n:e9 (λ_=>False) w (l.alloc<|Ð #[Å<|Ã ⟨E.r,0,Ä⟩,Â Ë c.x,Â Ë c.y,Â Æ c.k,Â Ë c.d,Â Æ c.g,Ê Ä 0 0] 282):=((e9.gG _ _ _ _).ff z).ff<|e9.gG _ _ _ _;have L:=e9.gG (λ_=>False) l #[Å<|Ã ⟨E.r,0,Ä⟩,Â Ë c.x,Â Ë c.y,Â Æ c.k,Â Ë c.d,Â Æ c.g,Ê Ä 0 0] 282;have M:R E (w.heap.size+1+1) c (Ê Ä 0 0) lv [] s f (l.alloc<|Ð #[Å<|Ã ⟨E.r,0,Ä⟩,Â Ë c.x,Â Ë c.y,Â Æ c.k,Â Ë c.d,Â Æ c.g,Ê Ä 0 0] 282):= ⟨by rw[<-J];exact fg.N l (qV E.r c<|Ê Ä 0 0) 282,ă _ _ _ _,H.out.1.I n id,ia H.out.2.1 n λ_ _=>id⟩;have N:fg w.heap.size [Â Æ 0,Ñ Ï,Â Æ 0] 252 l:=(fg.N w [Â Æ 0,Ñ Ï,Â Æ 0] 252).I z id;have S:=r_ (F:=F) ok M oG hd H.out.2.2.2.1 H.out.2.2.2.2.1 (H.out.2.2.1.r n id) H.out.2.2.2.2.2 hx hy I5 vm uD hlen;rw[j1]at S;go_at_call 191;apply S.mono;clear S;rintro e W ⟨rfl,MO,MU,o,B⟩;have O:=y_ n B Z o;have C:∀{j:Nat} {D:List Ç} {T:õ},fg j D T l->w.heap.size<=j->fg j D T W:=λ{j D T} hB hj=>by
   refine(hB.I L id).I B.r ?_;have:=hB.M;rintro(q|q|q|q)
   .omega
   .omega
   .cases q
   .have:=(H.out.2.1.lt j q).2;omega
  have m:=C N<|ß _;have P:=C K Z;have e0:=m.r 0 _ U;have e1:=m.r 1 _ U;have e2:=m.r 2 _ U;have f0:=m.C 0;have f1:=m.C 1;have f2:=m.C 2;have g5:W.cell? ⟨w.heap.size+1+1,5,Ä⟩=Ã (Â Æ t.g):=o.r.r 5 _ U;have Y9:=o.r.M;have r:=fe<|Á O<|Á o<|Á m P;clear O o B m P C M N K n L G z I J;go_wp2_with fail;let⟨d2,mT,rJ⟩:=Ì.1 SV;have u:=((r.out.2.2.1.fW 0<|Â Æ<|c.g-t.g).fW 1<|Ñ Ü).fW 2<|Â Æ a;apply ò (SU U U (fg.Y (tl:=[]) (vs:=[Â Æ<|c.g-t.g,Ñ Ü,Â Æ a]) u) mT rJ SY) U;refine⟨U,MU,r.out.1.N (Y:=λk=>k=w.heap.size) (((e9.I (X:=λk=>k=w.heap.size) (p:=⟨w.heap.size,0,Ä⟩) U _).ff<|e9.I (X:=λk=>k=w.heap.size) (p:=⟨w.heap.size,1,Ä⟩) U _).ff<|e9.I (X:=λk=>k=w.heap.size) (p:=⟨w.heap.size,2,Ä⟩) U _) (λi q=>by omega) (λi cur q Q=> ?_) Z⟩;have h0:W.heap[w.heap.size]?=_:=r.out.2.2.1;rw[q,h0]at Q;cases Q
 |false=>
  go_enter az,π;go_wp2_with (first
   |(with_reducible refine ě U 144 _ U E.r 0 U (iZ s lv) dd h.out.2.2.2.1 h.out.1 h.out.2.1 h.out.2.2.1 ?_)
   |(with_reducible refine SR U U 144 U 13 U _ _ U U h.out.2.2.2.2.1 h.out.2.2.2.2.2.1 (iZ s lv) h.out.2.2.2.2.2.2.1 h.out.2.2.2.2.2.2.2.1 U U h.out.2.2.2.2.2.2.2.2 ?_;intro l G z I))
  have J:l.heap.size=w.heap.size+1+1:=by simpa using I
  have K:fg (w.heap.size+1) (iZ s lv) 144 l:=by simpa using G
  have n:e9 (λ_=>False) w (l.alloc<|Ð #[Å<|Ã ⟨E.r,0,Ä⟩,Â Ë c.x,Â Ë c.y,Â Æ c.k,Â Ë c.d,Â Æ c.g,Ê Ä 0 0] 282):=((e9.gG _ _ _ _).ff z).ff<|e9.gG _ _ _ _;have L:=e9.gG (λ_=>False) l #[Å<|Ã ⟨E.r,0,Ä⟩,Â Ë c.x,Â Ë c.y,Â Æ c.k,Â Ë c.d,Â Æ c.g,Ê Ä 0 0] 282;have M:R E (w.heap.size+1+1) c (Ê Ä 0 0) lv [] s f (l.alloc<|Ð #[Å<|Ã ⟨E.r,0,Ä⟩,Â Ë c.x,Â Ë c.y,Â Æ c.k,Â Ë c.d,Â Æ c.g,Ê Ä 0 0] 282):= ⟨by rw[<-J];exact fg.N l (qV E.r c<|Ê Ä 0 0) 282,ă _ _ _ _,H.out.1.I n id,ia H.out.2.1 n λ_ _=>id⟩;have N:fg w.heap.size [Â Æ 0,Ñ Ï,Â Æ 0] 252 l:=(fg.N w [Â Æ 0,Ñ Ï,Â Æ 0] 252).I z id;have S:=r_ (F:=F) ok M oG hd H.out.2.2.2.1 H.out.2.2.2.2.1 (H.out.2.2.1.r n id) H.out.2.2.2.2.2 hx hy I5 vm uD hlen;rw[j1]at S;go_at_call 191;apply S.mono;clear S;rintro e W ⟨rfl,MO,MU,o,B⟩;have O:=y_ n B Z o;have C:∀{j:Nat} {D:List Ç} {T:õ},fg j D T l->w.heap.size<=j->fg j D T W:=λ{j D T} hB hj=>by
   refine(hB.I L id).I B.r ?_;have:=hB.M;rintro(q|q|q|q)
   .omega
   .omega
   .cases q
   .have:=(H.out.2.1.lt j q).2;omega
  have m:=C N<|ß _;have P:=C K Z;have e0:=m.r 0 _ U;have e1:=m.r 1 _ U;have e2:=m.r 2 _ U;have f0:=m.C 0;have f1:=m.C 1;have f2:=m.C 2;have g5:W.cell? ⟨w.heap.size+1+1,5,Ä⟩=Ã (Â Æ t.g):=o.r.r 5 _ U;have Y9:=o.r.M;have r:=fe<|Á O<|Á o<|Á m P;clear O o B m P C M N K n L G z I J;have rg:W.rangeAt (w.heap.size+1) 0 (iZ s lv):=fg.Y (tl:=[]) (by simpa using r.out.2.2.2);have th:W.there E.r 0 (iZ s lv).toArray.size:=by have:=r.out.1.r;unfold iz at this;exact this.SQ<|by simp only[ċ,Ó,mD];omega
  have B':(À.info? 144).map (·.size)=Ã (iZ s lv).toArray.size:=by rw[h.out.2.2.1];simp
  have qd:=į h.out.2.2.2.2.2.2.2.2;have HNF:=fe<|fg.G r.out.2.1.C ok.C;have HG:=fe<|Á rg<|Á th<|Á B' qd;clear rg th B' qd;go_wp2_with (first
   |(with_reducible refine ě U 144 _ U (w.heap.size+1) 0 U (iZ s lv) dd HG.out.1 h.out.1 h.out.2.1 h.out.2.2.1 ?_)
   |(with_reducible refine al6 U 144 _ _ U E.r (iZ s lv) U U HG.out.2.1 HG.out.2.2.1 HG.out.2.2.2 ?_;intro jX xC;have kb:e9 (λk=>k=E.r) W jX:=(by rw[xC];exact I7 _ _ _ HNF.out);have u:=r.out.2.2.1.I kb Z;have p0:=u.r 0 _ U;have p1:=u.r 1 _ U;have p2:=u.r 2 _ U;have y0:=u.C 0;have y1:=u.C 1;have y2:=u.C 2;have S0:=r.out.2.1.r.I kb Z;have p5:jX.cell? ⟨w.heap.size+1+1,5,Ä⟩=Ã (Â Æ t.g):=S0.r 5 _ U;have hl4:=S0.M;have C_:=fe u;clear kb u S0;have HW:=fe xC;clear xC))
  let⟨d2,mT,rJ⟩:=Ì.1 SV;apply ò (SU U U (fg.Y (tl:=[]) (vs:=[Â Æ<|c.g-t.g,Ñ Ï,Â Æ a])<|((C_.out.fW 0<|Â Æ<|c.g-t.g).fW 1<|Ñ Ï).fW 2<|Â Æ a) mT rJ SY) U;have u:il E lv f.length w s f jX lv:=by rw[HW.out];exact r.out.1.qK ok H.out.2.1
  refine⟨U,lv,u.N (Y:=λk=>k=w.heap.size) (((e9.I (X:=λk=>k=w.heap.size) (p:=⟨w.heap.size,0,Ä⟩) U _).ff<|e9.I (X:=λk=>k=w.heap.size) (p:=⟨w.heap.size,1,Ä⟩) U _).ff<|e9.I (X:=λk=>k=w.heap.size) (p:=⟨w.heap.size,2,Ä⟩) U _) (λi q=>by omega) (λi cur q Q=> ?_) Z⟩;rw[q,C_.out]at Q;cases Q
end
def zq:Nat->mf
 |0=>λs a _ _ _ _=>⟨0,Ï,0,s,a⟩
 |n+1=>λs a x y g k=>rP (zq n) ⟨x,y,k,4-(n:Int),g⟩ s a
theorem al7{F:mf}(d:qj F){c:RC}{s:St}{a:List (Nat×Int)}(b:gF s)(e:c.x<8)(f:c.y<8)(i:fY c.k)(j:0<=c.g)(l:c.g<=100000)(m:(a.length:Int)+c.g<=1000000):f_ a c.g (rP F c s a):=by
 have h:=t_ d b e f i j l m;have p:=h.g0;have n:=h.C;have o:=h.I;simp only at n o;unfold rP;refine⟨by simp only;omega,by simp only;omega,?_,h.M,?_⟩
 .simp only;split
  .exact h.s
  .exact b
 .grind
def Ja:∀n,qj<|zq n
 |0=>λs a x y g k b _ _ _ d _ _=>⟨Ø _,d,b,uG,by show(a.length:Int)<=a.length+0;omega⟩
 |n+1=>λs a x y g k b d e f h i j=>al7 (c:=⟨x,y,k,4-(n:Int),g⟩) (Ja n) b d e f h i j
def C':∀n,n<=3->sZ (zq<|n+1) (4-(n:Int))
 |0,_=>λE a s t u x y g k w b d f i j l m o p r=>z_ (c:=⟨x,y,k,4-((0:Nat):Int),g⟩) (F:=zq 0) a (show(0:Int)<=4-((0:Nat):Int) by decide) (show(4:Int)-((0:Nat):Int)<=4 by decide) (λq=>absurd q<|show¬(4:Int)-((0:Nat):Int)<4 by decide) (Ja 0) b d f i j l p m o r
 |n+1,h=>λE a s t u x y g k w b d f i j l m o p r=>by
  have e:(4:Int)-((n+1:Nat):Int)+1=4-(n:Int):=Z
  exact z_ a (by show 0<=4-((n+1:Nat):Int);omega) (by show 4-((n+1:Nat):Int)<=4;omega) (λ_=>by show sZ _ (4-((n+1:Nat):Int)+1);rw[e];exact(C' n Z)) (Ja<|n+1) b d f i j l p m o r
def gk:mf:=zq 4
def Jb:qj gk:=Ja 4
def D_:sZ gk 1:=C' 3 A
def iz.nP{tl:List Ç}{s:St}(h:iz b T tl s v w)(k:e9 X w u)(a:¬X b):iz b T tl s v u:=fg.I h k a
section
variable{E:iT}{lv:Ç}{w1:É}{s B d:St}{ls f r:List (Nat×Int)}
def il.fT(a:iz E.r E.T E.C s lv w)(b:w.ownsRow 0 257 2 lv ls.length (kl ls)):il E lv ls.length w s ls w lv:= ⟨a,b,e9.fT _ _,λ_ q=>Ù q,λ_ _ _ c d=>⟨c,d⟩⟩
def il.ff(h:il E lv n w B f w1 v)(k:il E v f.length w1 d r u jQ):il E lv n w d r u jQ:=by
 refine⟨k.r,k.I,h.C.C k.C ?_,λj q=> ?_,λa b c g m=> ?_⟩
 .rintro i o (e|e)
  .exact Ù e
  .exact Ú<|(h.l i e).resolve_right Z
 .rcases k.l j q with e|e
  .exact h.l j e
  .exact Ú<|í h.C.M e
 .let⟨e,i⟩:=h.M a b c g m;exact k.M a b c e i
def il.fK(h:il E lv n w s ls w1 v)(k:e9 (λ_=>False) w1 u):il E lv n w s ls u v:= h.N k (λ_=>Ġ) (λ_ _=>Ġ) id
def il.Y(ok:E.Ok)(h:il E lv n w s ls w1 v)(i:Nat)(k:iz E.r E.T E.C d v (w1.setCell ⟨E.r,i,Ä⟩ x)):il E lv n w d ls (w1.setCell ⟨E.r,i,Ä⟩ x) v:=by have e:=e9.I (X:=λk=>k=E.r) (p:=⟨E.r,i,Ä⟩) U x<|Ú<|fg.G h.r ok.C;have f:∀{a b c},w1.ownsRow 0 257 2 a b c->(w1.setCell ⟨E.r,i,Ä⟩ x).ownsRow 0 257 2 a b c:=λ{a b c} q=>ia q e λj o y=>jA q h.r ok.r.symm (by rw[o,y]);exact⟨k,f h.I,h.C.C e λi _ q=>Ù q,h.l,λa b c g m=>⟨f (h.M a b c g m).1,(h.M a b c g m).2⟩⟩
def il.fl(ok:E.Ok)(h:il E lv n w s ls w1 v)(a:i<8)(x:Int):il E lv n w (s.fl i x) ls (w1.setCell ⟨E.r,i*18,Ä⟩<|Â Æ x) v:=h.Y ok _<|h.r.zm a x
def il.MI(ok:E.Ok)(h:il E lv n w s ls w1 v)(a:i<8)(x:ByteArray):il E lv n w (s.C i x) ls (w1.setCell ⟨E.r,i*18+1,Ä⟩<|Í x) v:=h.Y ok _<|h.r.akZ a x
end
def vG(s:St)(x y:Nat)(n:Int):Bool×St:=
 if(s x).fl<n+10 then(Ï,s)else(Ü,(s.fl x<|(s x).fl-(n+10)).fl y<|wu<|(s.fl x ((s x).fl-(n+10)) y).fl+n)
section
variable{E:iT}{lv:Ç}{s:St}{ls:List (Nat×Int)}
def al8(ok:E.Ok)(c:iz E.r E.T E.C s lv w)(g:w.ownsRow 0 257 2 lv ls.length (kl ls))(f:gF s)(x y:Nat)(n:Int)(a:x<8)(d:y<8)(h:0<=n)(i:n<=1000000): Ò À 168 #[Å<|Ã ⟨E.r,0,Ä⟩,Â Ë x,Â Ë y,Â Æ n] w λe m=>e=È (Ñ (vG s x y n).1)/\il E lv ls.length w (vG s x y n).2 ls m lv:=by
 have j:=c.fl a;have k:=fg.C c<|x*18;have l:=(f.fl x).1;have o:=(f.fl x).2;have p:∀m,((w.drewN m).setCell ⟨E.r,x*18,Ä⟩<|Â Æ<|(s x).fl-(n+10)).cell? ⟨E.r,y*18,Ä⟩=Ã (Â Æ (s.fl x ((s x).fl-(n+10)) y).fl):=λm=>((c.nP (e9.iN (λ_=>False) w m) id).zm a _).fl d;have q:∀m,((w.drewN m).setCell ⟨E.r,x*18,Ä⟩<|Â Æ<|(s x).fl-(n+10)).frozen? ⟨E.r,y*18,Ä⟩=Ï:=λm=>fg.C ((c.nP (e9.iN (λ_=>False) w m) id).zm a _) _;have r:=(c.zm a<|(s x).fl-(n+10)).fl d;have t:=fg.C (c.zm a<|(s x).fl-(n+10))<|y*18;have H:=fe<|il.fT c g;unfold vG;by_cases e:(s x).fl<n+10
 .rw[if_pos e];generalize(s x).fl=b at*;go_enter aA,ρ;go_wp2_with fail;go_ret;exact⟨U,H.out⟩
 .rw[if_neg e];generalize(s.fl x ((s x).fl-(n+10)) y).fl=b2 at*;generalize(s x).fl=b at*;go_enter aA,ρ;go_wp2_with fail;go_region;go_wp2_with fail;go_region;go_wp2_with fail;go_ret;refine⟨U,?_⟩;first
   |exact((H.out.fl ok a _).fl ok d _).fK<|e9.iN _ _ _
   |exact(((H.out.fK<|e9.iN _ _ _).fl ok a _).fl ok d _)
   |exact(((H.out.fK<|e9.fR _ _).fl ok a _).fK<|e9.fR _ _).fl ok d _
   |exact((H.out.fl ok a _).fl ok d _).still<|(Keep.drew _ _).trans<|Keep.drew _ _
end
def al9(a:kh w)(p:ć)(n:Nat):kh (w.freeze p n):=by
 unfold Ĕ;split
 .exact a
 .intro i o h;simp only[Ý]at h;split at h
  .cases b:w.heap[i]? with
   |none=>rw[b]at h;cases h
   |some d=>
    have:=a _ _ b;rw[b]at h;cases d with
    |cells c t z=>simp only[ó,é]at h;subst h;exact λx=>x
    |_=>exact absurd trivial this
  .exact a i o h
def D'(a:rN m w)(p:ć)(n:Nat):rN m (w.freeze p n):=by
 unfold Ĕ;split
 .exact a
 .intro i c T f e h b;simp only[Ý]at h;split at h
  .cases d:w.heap[i]? with
   |none=>rw[d]at h;cases h
   |some g=>
    rw[d]at h;cases g with
    |cells j t z=>
     simp only[ó,é,ĩ]at h;rw[<-h.1];rw[<-h.2.1]at b;exact a _ _ _ _ e d b
    |_=>cases h
  .exact a i c T f e h b
theorem ama{w w1:World}{g:Nat}{cur Y:Array Value}{e:TypeId}{z:Nat×Nat}(hw:e9 (λ_=>False) w w1)(hg:w1.heap[g]?=some (.cells cur e z))(auq:w.heap.size<=g)(he:mb e=false:=by decide):e9 (λ_=>False) w (w1.setRow g Y):=by
 refine⟨by simpa using hw.M,λk hk _=>(ĝ w1 g k Y Z).trans<|hw.N k hk id,λal i o ho=> ?_,λm a i c T fr hm h hT=> ?_⟩;rotate_left
 .by_cases hi:i=g
  .subst hi;rw[Ĥ w1 i cur Y e z hg]at h;grind
  .rw[ĝ w1 g i Y hi]at h;exact hw.Y m a i c T fr hm h hT
 by_cases hi:i=g
 .subst hi;rw[Ĥ w1 i cur Y e z hg]at ho;cases ho;exact λx=>x
 .rw[ĝ w1 g i Y hi]at ho;exact hw.gS al i o ho
def amb(b:e9 (λ_=>False) w u)(e:w.heap.size<=p.block):e9 (λ_=>False) w (u.freeze p n):=by
 refine⟨?_,λk c _=> ?_,λd=>al9 (b.gS d) p n,λm a=>D' (b.Y m a) p n⟩
 .unfold Ĕ;split
  .exact b.M
  .simpa using b.M
 .unfold Ĕ;split
  .exact b.N k c id
  .simp only[Ý];rw[if_neg Z];exact b.N k c id
def S2:(À.info? 5).map (λi=>(i.zero,i.size,i.bytes))=Ã (Ã<|Â bb 0,1,1):=ft
def amc(n:Nat)(e:n<=1000000):∃M:Array Ç,M.size=n/\∀W:É,(Instr.makeSlice 107 (Â Ë (n:Int))<|Â Ë (n:Int)).run À W=ag (Ê (Ã ⟨W.heap.size,0,Ä⟩) n n) (W.alloc<|Ð M 5):=by let⟨i,a,b,c,d⟩:=ï S2;refine⟨madeCells (Â bb 0).cells<|(n:Int).toNat*i.size,by rw[size_madeCells,c];simp,λW=> ?_⟩;simpa using run_make W 107 5 i (Â bb 0) þ a b Ë Ë n n Z Z (by rw[d];omega) Z
def amd{M:Array Ç}(b:M.size=B.size)(c:W.heap[i]?=Ã (Ð M 5 (0,0))): (ς #[107,9] 3 #[Ê (Ã ⟨i,0,Ä⟩) B.size B.size,Í B]).run À W=ag (goInt B.size) (W.setRow i (ö B.data.toList).toArray):=by let⟨a,d,_,e,_⟩:=ï S2;have h:=Lib.run_copy_row_string W 107 9 3 5 i 0 B.size B.size B M 5 þ (by rw[d];simp[e]) c (ß _) Z;simpa[List.drop_of_length_le,b]using h
def ame(d:B.size≠0)(m:B.size<=1000000)(c:W.heap[i]?=Ã (Ð (ö B.data.toList).toArray 5 (0,0))): (ŗ #[177,3] 9 #[Å<|Ã ⟨i,0,Ä⟩,Â Ë (B.size:Int)]).run À W=ag (Í B) (W.freeze ⟨i,0,Ä⟩ B.size):=by
 let⟨a,f,_,k,_⟩:=ï S2;have b:=Lib.size_eq B;have l:(ö B.data.toList).toArray.size=B.size:=by rw[ċ,ş,<-b]
 have h:=Ŀ W 177 3 9 5 Ű (by simp[Program.cellsOf,f,k]) i B.size (by unfold Ž;rw[c];simp only[l]) B.data.toList (by intro e;rw[e]at b;exact d b) Z Z (λj x e=>Lib.cells_of_row c _ j _<|by rw[List.take_of_length_le<|ß _];simp[ö,e]);rwa[<-b]at h
def amf(s:ByteArray)(a:s.size<=1000000)(w:É):Ò À 196 #[Í s] w λe c=>e=È (Í s)/\e9 (λ_=>False) w c:=by
 by_cases b:s.size=0
 .have d:=bB<|Array.eq_empty_of_size_eq_zero b;subst d;go_enter aB,σ;go_wp2;go_ret;exact⟨U,e9.fT _ _⟩
 .let⟨M,d,mk⟩:=amc s.size a;have g:=amd d<|î w<|Ð M 5;have h:=ame b a<|Ĥ (w.alloc<|Ð M 5) w.heap.size M (ö s.data.toList).toArray 5 (0,0)<|î w _;have f:=fe (amb (p:=⟨w.heap.size,0,Ä⟩) (n:=s.size) (ama (Y:=(ö s.data.toList).toArray) (e9.gG (λ_=>False) w M 5) (î w _)<|ß _)<|ß _);generalize(ö s.data.toList).toArray=Y at*;go_enter aB,σ;go_wp2;go_ret;exact⟨U,f.out⟩
def amg(s:ByteArray)(a:s.size<=1000000)(w:É):Ò À 186 #[Í s] w λe b=>e=È (Í s)/\e9 (λ_=>False) w b:=by go_enter Tryz.func186,Tryz.ntmps186;go_wp2_with (go_at_call 196;refine(amf s a _).mono ?_;rintro e d ⟨rfl,c⟩);go_ret;exact⟨U,c⟩
def vH(s:St)(x:Nat)(p:ByteArray):Bool×St:=
 if(s x).fl<20 then(Ï,s)else(Ü,(s.fl x<|(s x).fl-20).C x p)
def zr{t u:Tmp}{cs:List Ç}{d:TypeDesc}(h:s.results=#[.cell t T,.tmp u])(a:q.getD t Ą=Å (Ã ⟨b,0,Ä⟩))(c:w.rangeAt b 0 cs)(e:P.underlying T=Ã d)(f:d.isRow=Ü)(g:(P.info? T).map (·.size)=Ã cs.length): (ay s q).run P w=ag (ç #[Ė cs.toArray,q.getD u Ą]) w:=by have i:=Υ w b 0 T cs d c e f g;rw[ı]at a;simp only[ay,h];simp[a,asAddr,i]
def Jc:(À.underlying 246).map Ķ=Ã Ü:=ft
def Dc:(À.info? 246).map (·.size)=Ã 2:=ft
section
variable{E:iT}{lv:Ç}{s:St}{ls:List (Nat×Int)}
def amh(ok:E.Ok)(a:iz E.r E.T E.C s lv w)(h:w.ownsRow 0 257 2 lv ls.length (kl ls))(f:gF s)(x:Nat)(p:ByteArray)(c:x<8)(i:p.size<=1000000): Ò À 169 #[Å<|Ã ⟨E.r,0,Ä⟩,Â Ë x,Í p] w λe d=>e=È (Ñ (vH s x p).1)/\il E lv ls.length w (vH s x p).2 ls d lv:=by
 have k:=fg.M a;have l:=a.fl c;have m:=fg.C a<|x*18;have n:=(f.fl x).1;have o:=(f.fl x).2;have q:(0:Int)<=(x:Int):=Z
 have r:(x:Int)<8:=Z
 have H:=fe<|il.fT a h;unfold vH;by_cases g:(s x).fl<20
 .rw[if_pos g];generalize(s x).fl=b at*;go_enter aC,υ;go_wp2_with fail;go_ret;exact⟨U,H.out⟩
 .rw[if_neg g];generalize(s x).fl=b at*;go_enter aC,υ;go_wp2_with fail;go_region;go_wp2_with fail;go_region_held3 (λ_=>True) (trivial) (first
    |(go_at_call 186;refine(amg p i _).mono ?_;rintro e t ⟨rfl,j⟩;dsimp only;have d:=((H.out.fl ok c (b-20)).fK (e9.iN (λ_=>False) _ 2)).fK j;have u:=d.r.MI c;have v:=fg.C d.r (x*18+1)))
  go_wp2_with fail
  go_ret;exact⟨U,d.MI ok c p⟩
def xD(s:St)(ls:List (Nat×Int))(x y:Nat)(n k:Int):(Int×Bool)×Bool×St×List (Nat×Int):=
 if n<10\/400<n\/(s x).fl<n then((0,Ï),Ï,s,ls)
 else(((gk (s.fl x<|(s x).fl-n) ls x y (n-10) k).r+10,(gk (s.fl x<|(s x).fl-n) ls x y (n-10) k).C),Ü,
  (gk (s.fl x ((s x).fl-n)) ls x y (n-10) k).s.fl x (wu (((gk (s.fl x ((s x).fl-n)) ls x y (n-10) k).s x).fl+(n-((gk (s.fl x ((s x).fl-n)) ls x y (n-10) k).r+10)))),(gk (s.fl x ((s x).fl-n)) ls x y (n-10) k).I)
def ami(a:iz E.r E.T E.C s lv w)(c:w.ownsRow 0 257 2 lv ls.length (kl ls))(x y:Nat)(n k:Int)(d:x<8)(j:0<=n)(l:n<10\/400<n\/(s x).fl<n): Ò À 170 #[Å<|Ã ⟨E.r,0,Ä⟩,Â Ë x,Â Ë y,Â Æ n,Â Æ k] w λe H=>e=È (ç #[Ė #[Â Æ 0,Ñ Ï],Ñ Ï])/\il E lv ls.length w s ls H lv:=by
 have m:=fg.M a;have o:=a.fl d;have p:(0:Int)<=(x:Int):=Z
 have q:(x:Int)<8:=Z
 let⟨r,f,g⟩:=Ì.1 Jc;have H:=fe<|Á (il.fT a c)<|Á f g;generalize(s x).fl=b at*;by_cases h:n<10
 .go_enter ŋ,ŀ;go_wp2_with fail;have e:=e9.gG (λ_=>False) w #[Â Æ 0,Ñ Ï] 246;apply ò (zr U U (fg.Y (vs:=[Â Æ 0,Ñ Ï])<|fg.N w [Â Æ 0,Ñ Ï] 246) H.out.2.1 H.out.2.2 Dc) U;exact⟨U,H.out.1.fK e⟩
 .have t:=decide_eq_false h;by_cases i:400<n
  .go_enter ŋ,ŀ;go_wp2_with fail;have e:=e9.gG (λ_=>False) w #[Â Æ 0,Ñ Ï] 246;apply ò (zr U U (fg.Y (vs:=[Â Æ 0,Ñ Ï])<|fg.N w [Â Æ 0,Ñ Ï] 246) H.out.2.1 H.out.2.2 Dc) U;exact⟨U,H.out.1.fK e⟩
  .have u:=decide_eq_false i;have v:b<n:=Z
   go_enter ŋ,ŀ;go_wp2_with fail;have e:=e9.gG (λ_=>False) w #[Â Æ 0,Ñ Ï] 246;apply ò (zr U U (fg.Y (vs:=[Â Æ 0,Ñ Ï])<|fg.N w [Â Æ 0,Ñ Ï] 246) H.out.2.1 H.out.2.2 Dc) U;exact⟨U,H.out.1.fK e⟩
def amj(ok:E.Ok)(a:iz E.r E.T E.C s lv w)(l:w.ownsRow 0 257 2 lv ls.length (kl ls))(m:iJ w)(g:gF s)(x y:Nat)(n k:Int)(c:x<8)(B:y<8)(D:fY k)(IB:10<=n)(vB:n<=400)(aur:n<=(s x).fl)(hlen:(ls.length:Int)+n<=1000000)(r:C8)(o:r=gk (s.fl x<|(s x).fl-n) ls x y (n-10) k): Ò À 170 #[Å<|Ã ⟨E.r,0,Ä⟩,Â Ë x,Â Ë y,Â Æ n,Â Æ k] w λe t=>e=È (ç #[Ė #[Â Æ<|r.r+10,Ñ r.C],Ñ Ü])/\∃u,il E lv ls.length w (r.s.fl x<|wu<|(r.s x).fl+(n-(r.r+10))) r.I t u:=by
 have gJ:=fg.M a;have d1:=a.fl c;have f1:=fg.C a<|x*18;have XF:(0:Int)<=(x:Int):=Z
 have AF:(x:Int)<8:=Z
 have b0:=(g.fl x).1;have b1:=(g.fl x).2;have v:gF (s.fl x<|(s x).fl-n):=g.r x ⟨Z,Z⟩;have h:=Jb _ ls x y (n-10) k v c B D Z Z Z;have F:=il.fT a l;have C:∀W j,il E lv ls.length w (s.fl x<|(s x).fl-n) ls W j->iJ W->Ò À 173 #[Å<|Ã ⟨E.r,0,Ä⟩,Â Ë x,Â Ë y,Â Æ<|n-10,Â Æ k,Â Ë 1] W λe t=>e=È (Ė #[Â Æ r.r,Ñ r.C,Â Æ r.M])/\∃u,il E j ls.length W r.s r.I t u:=λW j G P=>by rw[o];exact D_ E ok _ j ls x y (n-10) k W G.r G.I P v c B Z Z D Z
 rw[<-o]at h;have u0:=h.C;have u1:=h.r;let⟨d2,I,J⟩:=Ì.1 Jc;have K:∀i,iJ (w.setCell ⟨E.r,i,Ä⟩<|Â Æ<|(s x).fl-n):=λi=>m.r (e9.I (X:=λk=>k=E.r) U _) λq=>m.C a ok.N q.symm;have H:=fe<|Á F<|Á C<|Á K<|Á I<|Á J l;clear a l m g v h F C K I J o;generalize(s x).fl=b at*;have e1:decide (n<10)=Ï:=decide_eq_false Z;have e2:decide (400<n)=Ï:=decide_eq_false Z;have e3:decide (b<n)=Ï:=decide_eq_false Z;generalize Q:(r.s x).fl=b2;go_enter ŋ,ŀ;go_wp2_with fail;have L:=(H.out.1.fl ok c<|b-n).fK (e9.gG (λ_=>False) _ #[Â Æ 0,Ñ Ï] 246);go_at_call 173;refine(H.out.2.1 _ _ L<|(H.out.2.2.1 _).r (e9.gG (λ_=>False) _ _ _) id).mono ?_;rintro e S ⟨rfl,V,f⟩;have d:fg w.heap.size [Â Æ 0,Ñ Ï] 246 S:=by
  have z:fg w.heap.size [Â Æ 0,Ñ Ï] 246 ((w.setCell ⟨E.r,x*18,Ä⟩<|Â Æ<|b-n).alloc<|Ð #[Â Æ 0,Ñ Ï] 246):=by have:=fg.N (w.setCell ⟨E.r,x*18,Ä⟩<|Â Æ<|b-n) [Â Æ 0,Ñ Ï] 246;simpa using this
  refine z.I f.C ?_;rintro(q|q)
  .omega
  .have:=(H.out.2.2.2.2.2.lt _ q).2;omega
 have Y:=f.r.fl c;have z1:=fg.C f.r<|x*18;have Ct:=fg.M f.r;have hl2:=d.M;have c0:=d.r 0 _ U;have c1:=d.r 1 _ U;have y0:=d.C 0;have y1:=d.C 1;have M:=fe<|Á (L.ff f) d;rw[Q]at Y;go_wp2_with fail;go_region;go_wp2_with fail;have q1:=M.out.1.fl ok c<|wu<|b2+(n-(r.r+10));have N:=M.out.2.I (e9.I (X:=λk=>k=E.r) (p:=⟨E.r,x*18,Ä⟩) U<|Â Æ<|wu<|b2+(n-(r.r+10))) Z;have q2:=q1.N ((e9.I (X:=λk=>k=w.heap.size) (p:=⟨w.heap.size,0,Ä⟩) U<|Â Æ<|r.r+10).ff<|e9.I (X:=λk=>k=w.heap.size) (p:=⟨w.heap.size,1,Ä⟩) U<|Ñ r.C) (λi q=>by omega) (λi cur q O=>by have z:=N;rw[q,z]at O;cases O) Z;have z:∀W:É,∀O,e9 (λ_=>False) W ((W.alloc<|Ð O 252).drew):=λW O=>(e9.gG _ _ _ _).ff<|e9.fR _ _;have hb:=(((N.fW 0<|Â Æ<|r.r+10).fW 1<|Ñ r.C)).I (z _ #[Â Æ<|r.r+10,Ñ r.C,Â Æ r.M]) id;apply ò (zr U U (fg.Y (vs:=[Â Æ<|r.r+10,Ñ r.C]) hb) H.out.2.2.2.1 H.out.2.2.2.2.1 Dc) U;exact⟨U,V,q2.fK<|z _ _⟩
end
structure Tx where
 x:Nat
 y:Nat
 n:Int
 k:Int
 r:Int
 C:ByteArray
structure lT(a:Nat)(t:Tx)(w:É):Prop where
 b:∃cs fz,w.heap[a]?=Ã (Ð cs 200 fz)
 r:w.cell? ⟨a,0,Ä⟩=Ã (Â Ë t.x)
 C:w.cell? ⟨a,1,Ä⟩=Ã (Â Ë t.y)
 I:w.cell? ⟨a,2,Ä⟩=Ã (Â Ë t.n)
 M:w.cell? ⟨a,3,Ä⟩=Ã (Â Ë t.k)
 Y:w.cell? ⟨a,4,Ä⟩=Ã (Â Ë t.r)
 N:w.cell? ⟨a,5,Ä⟩=Ã (Í t.C)
structure Tx.Ok(t:Tx):Prop where
 x:t.x<8
 y:t.y<8
 I:0<=t.n
 M:t.n<1000000
 r:0<=t.k
 C:t.k<1000000
 N:t.C.size<=40/\∀c∈t.C.data.toList,xw c=Ü
def lT.G{t:Tx}(h:lT i t w):i<w.heap.size:=â w _ h.r
def lT.S{t:Tx}(h:lT i t w)(k:e9 X w u)(b:¬X i):lT i t u:=by let⟨c,d,e⟩:=h.b;exact⟨⟨c,d,by rwa[k.N i h.G b]⟩,k.r h.r b,k.r h.C b,k.r h.I b,k.r h.M b,k.r h.Y b,k.r h.N b⟩
def lT.iQ{t:Tx}(h:lT i t w)(c:w.heap[j]?=Ã (Ð d T xJ))(e:T≠200):i≠j:=by rintro rfl;let⟨f,g,b⟩:=h.b;rw[c]at b;cases b;exact e U
def lT.xx{E:iT}{t:Tx}{s c:St}{ls b:List (Nat×Int)}(d:E.T≠200)(h:lT i t w)(e:iz E.r E.T E.C c v w)(f:w.ownsRow 0 257 2 v b.length (kl b))(r:il E v n w s ls u x):lT i t u:=by
 refine h.S r.C ?_;rintro(q|q)
 .exact h.iQ e d q
 .let⟨j,g⟩:=lG f q;exact h.iQ g A U
def lb(s:St)(ls:List (Nat×Int))(t:Tx):(Int×Bool)×Bool×St×List (Nat×Int):=
 if t.r=1 then((10,Ü),(vG s t.x t.y t.n).1,(vG s t.x t.y t.n).2,ls)
 else if t.r=2 then((20,Ü),(vH s t.x t.C).1,(vH s t.x t.C).2,ls)
 else xD s ls t.x t.y t.n t.k
def FB(a:0<=h)(b:h<1000000):Æ.wrap h=h:=by show wu h=h;exact Z6 a Z
def Je(E:iT)(a:Ç)(n:Nat)(w:É)(o:(Int×Bool)×Bool×St×List (Nat×Int))(e:aD)(b:É):Prop:=
 e=È (ç #[Ė #[Â Æ o.1.1,Ñ o.1.2],Ñ o.2.1])/\∃c,il E a n w o.2.2.1 o.2.2.2 b c
def amk{E:iT}{s:St}{ls:List (Nat×Int)}(ok:E.Ok)(b:iz E.r E.T E.C s v w)(c:w.ownsRow 0 257 2 v ls.length (kl ls))(f:iJ w)(g:gF s)(x y:Nat)(n k:Int)(d:x<8)(i:y<8)(j:fY k)(l:0<=n)(m:(ls.length:Int)+400<=1000000): Ò À 170 #[Å<|Ã ⟨E.r,0,Ä⟩,Â Ë x,Â Ë y,Â Æ n,Â Æ k] w (Je E v ls.length w<|xD s ls x y n k):=by
 unfold xD;by_cases a:n<10\/400<n\/(s x).fl<n
 .rw[if_pos a];exact(ami b c x y n k d l a).mono λe o h=>⟨h.1,v,h.2⟩
 .rw[if_neg a];exact amj ok b c f g x y n k d i j Z Z Z Z _ U
def il.S{E:iT}{s:St}{ls:List (Nat×Int)}(k:e9 (λ_=>False) w W)(r:il E v n W s ls u x):il E v n w s ls u x:= ⟨r.r,r.I,(k.S λ_ _=>Ġ).C r.C λ_ _ q=>q,λj q=>(r.l j q).imp id λe=>í k.M e,λa b c d f=>r.M a b c (ia d k λ_ _=>id) f⟩
section
variable{E:iT}{lv:Ç}{s:St}{ls:List (Nat×Int)}{a:Nat}{t:Tx}
def S3{zg:Value}{w1:World}{n:Nat}{s1:St}{E_:List (Nat×Int)}(r:il E lv n w s1 E_ w1 zg)(hB:fg w.heap.size [.int .u64 0,.bool false] 246 w1)(hlb:E.r<w.heap.size)(v0 v1:Value)(hf0:kj v0=true:=by rfl)(hf1:kj v1=true:=by rfl): il E lv n w s1 E_ ((w1.setCell ⟨w.heap.size,0,none⟩ v0).setCell ⟨w.heap.size,1,none⟩ v1) zg/\fg w.heap.size [v0,v1] 246 ((w1.setCell ⟨w.heap.size,0,none⟩ v0).setCell ⟨w.heap.size,1,none⟩ v1):=by refine⟨r.N (Y:=λk=>k=w.heap.size) ((e9.I (X:=λk=>k=w.heap.size) (p:=⟨w.heap.size,0,Ä⟩) U v0<|Ù hf0).ff<|e9.I (X:=λk=>k=w.heap.size) (p:=⟨w.heap.size,1,Ä⟩) U v1<|Ù hf1) (λi q=>by omega) (λi cur q hc=> ?_) Z,(hB.fW 0 v0).fW 1 v1⟩;rw[q,hB]at hc;cases hc
def S4{W:É}{a:St}{b:List (Nat×Int)}{cs:List Ç}(c:jX=(w.alloc<|Ð cs.toArray T).drewN 1\/jX=w.alloc (Ð cs.toArray T))(d:w.ownsRow 0 257 2 lv ls.length (kl ls))(f:E.r<w.heap.size)(r:il E lv n jX a b u v):fg w.heap.size cs T u:=by
 have e:fg w.heap.size cs T jX:=by
  rcases c with rfl|rfl
  .exact fg.N w cs T
  .exact fg.N w cs T
 refine e.I r.C ?_;rintro(q|q)
 .omega
 .have:=(d.lt _ q).2;omega
def aml(ok:E.Ok)(S:E.T≠200)(m:iz E.r E.T E.C s lv w)(o:w.ownsRow 0 257 2 lv ls.length (kl ls))(B:iJ w)(D:gF s)(d:lT a t w)(f:t.Ok)(hlen:(ls.length:Int)+400<=1000000)(F:t.r=1): Ò À 154 #[Å<|Ã ⟨E.r,0,Ä⟩,Å<|Ã ⟨a,0,Ä⟩] w (Je E lv ls.length w<|lb s ls t):=by
 have G:=fg.M m;have F_:=d.G;have V:=d.r;have Y:=d.C;have c2:=d.I;have c3:=d.M;have c4:=d.Y;have c5:=d.N;have hn:=FB f.I f.M;have hk:=FB f.r f.C;let⟨d2,I,J⟩:=Ì.1 Jc;have L:=fe<|Á I J;clear I J;have h:=(e9.gG (λ_=>False) w #[Â Æ 0,Ñ Ï] 246).ff<|e9.fR _ _;have u:=m.nP h id;have v:=ia o h λ_ _=>id;have c:=d.S h id;have RA:=B.r h id;rw[F]at c4;have M:lb s ls t=((10,Ü),(vG s t.x t.y t.n).1,(vG s t.x t.y t.n).2,ls):=by unfold lb;rw[if_pos F]
 rw[M];have C:=al8 (ls:=ls) ok u v D t.x t.y t.n f.x f.y f.I (by have:=f.M;omega);have N:∀(l:É) (O:St) (P:List (Nat×Int)) (Q:Ç),il E lv ls.length _ O P l Q->lT a t l:=λl O P Q r=>lT.xx S c u v r;have H:=fe<|Á C<|Á o N;clear C N m o B D d f u v RA M;go_enter ž,ū;go_wp2_with fail;have b:=fe<|Á c.r<|Á c.C<|Á c.I<|Á c.M c.N;clear V Y c2 c3 c5 c;refine mg (λe=>e.cell? ⟨a,0,Ä⟩=Ã (Â Ë t.x)/\e.cell? ⟨a,1,Ä⟩=Ã (Â Ë t.y)/\e.cell? ⟨a,2,Ä⟩=Ã (Â Ë t.n)/\e.cell? ⟨a,3,Ä⟩=Ã (Â Ë t.k)/\e.cell? ⟨a,5,Ä⟩=Ã (Í t.C)) [22] ft ?_;apply tk 0 b.out;apply tk 1 b.out;apply tk 2 b.out;apply tk 3 b.out;apply tk 4 b.out;apply tk 5 b.out;apply tk 6 b.out;apply tk 7 b.out;apply tk 8 b.out;apply tk 9 b.out;apply tk 10 b.out;apply tk 11 b.out;apply tk 12 b.out;apply tk 13 b.out;apply tk 14 b.out;apply tk 15 b.out;apply tk 16 b.out;apply tk 17 b.out;apply tk 18 b.out;apply tk 19 b.out;apply gD 20;intro K g;go_simp;go_at_call 168;apply H.out.1.mono;rintro e l ⟨rfl,z⟩;dsimp only;have c:=H.out.2.2 _ _ _ _ z;apply g.out _ _ λ_=>⟨c.r,c.C,c.I,c.M,c.N⟩;clear g K;have i:=S4 (W:=w) (cs:=[Â Æ 0,Ñ Ï]) (Ù U) H.out.2.1 G z;have e0:=i.r 0 _ U;have e1:=i.r 1 _ U;have y0:=i.C 0;have y1:=i.C 1;have j:=c.S ((e9.I (X:=λk=>k=w.heap.size) (p:=⟨w.heap.size,0,Ä⟩) U<|Â Æ 10).ff<|e9.I (X:=λk=>k=w.heap.size) (p:=⟨w.heap.size,1,Ä⟩) U<|Ñ Ü) Z;apply gD 21;intro K g;go_simp;apply g.out _ _ λ_=>⟨j.r,j.C,j.I,j.M,j.N⟩;clear g K;apply gD 22;intro K g;go_simp;apply g.out _ _ λq=>absurd fj q;clear g K;try simp only[ĺ,Ö,ä,å]
 refine lS ft ?_ _;go_wp2_with fail;let⟨q,q2⟩:=S3 (il.S h z) i G (Â Æ 10)<|Ñ Ü;apply ò (zr U U (fg.Y (tl:=[]) (vs:=[Â Æ 10,Ñ Ü]) q2) L.out.1 L.out.2 Dc) U;exact⟨U,lv,q⟩
def amm(ok:E.Ok)(S:E.T≠200)(m:iz E.r E.T E.C s lv w)(o:w.ownsRow 0 257 2 lv ls.length (kl ls))(B:iJ w)(D:gF s)(d:lT a t w)(g:t.Ok)(hlen:(ls.length:Int)+400<=1000000)(F:t.r=2): Ò À 154 #[Å<|Ã ⟨E.r,0,Ä⟩,Å<|Ã ⟨a,0,Ä⟩] w (Je E lv ls.length w<|lb s ls t):=by
 have G:=fg.M m;have F_:=d.G;have V:=d.r;have Y:=d.C;have c2:=d.I;have c3:=d.M;have c4:=d.Y;have c5:=d.N;have hn:=FB g.I g.M;have hk:=FB g.r g.C;let⟨d2,I,J⟩:=Ì.1 Jc;have L:=fe<|Á I J;clear I J;have h:=(e9.gG (λ_=>False) w #[Â Æ 0,Ñ Ï] 246).ff<|e9.fR _ _;have u:=m.nP h id;have v:=ia o h λ_ _=>id;have b:=d.S h id;have RA:=B.r h id;rw[F]at c4;have M:lb s ls t=((20,Ü),(vH s t.x t.C).1,(vH s t.x t.C).2,ls):=by unfold lb;rw[if_neg Z,if_pos F]
 rw[M];have C:=amh (ls:=ls) ok u v D t.x t.C g.x (by have:=g.N.1;omega);have N:∀(l:É) (O:St) (P:List (Nat×Int)) (Q:Ç),il E lv ls.length _ O P l Q->lT a t l:=λl O P Q r=>lT.xx S b u v r;have H:=fe<|Á C<|Á o N;clear C N m o B D d g u v RA M;go_enter ž,ū;go_wp2_with fail;have c:=fe<|Á b.r<|Á b.C<|Á b.I<|Á b.M b.N;clear V Y c2 c3 c5 b;refine mg (λe=>e.cell? ⟨a,0,Ä⟩=Ã (Â Ë t.x)/\e.cell? ⟨a,1,Ä⟩=Ã (Â Ë t.y)/\e.cell? ⟨a,2,Ä⟩=Ã (Â Ë t.n)/\e.cell? ⟨a,3,Ä⟩=Ã (Â Ë t.k)/\e.cell? ⟨a,5,Ä⟩=Ã (Í t.C)) [15] ft ?_;apply tk 0 c.out;apply tk 1 c.out;apply tk 2 c.out;apply tk 3 c.out;apply tk 4 c.out;apply tk 5 c.out;apply tk 6 c.out;apply tk 7 c.out;apply tk 8 c.out;apply tk 9 c.out;apply tk 10 c.out;apply tk 11 c.out;apply tk 12 c.out;apply gD 13;intro K f;go_simp;go_at_call 169;apply H.out.1.mono;rintro e l ⟨rfl,z⟩;dsimp only;have b:=H.out.2.2 _ _ _ _ z;apply f.out _ _ λ_=>⟨b.r,b.C,b.I,b.M,b.N⟩;clear f K;have i:=S4 (W:=w) (cs:=[Â Æ 0,Ñ Ï]) (Ù U) H.out.2.1 G z;have e0:=i.r 0 _ U;have e1:=i.r 1 _ U;have y0:=i.C 0;have y1:=i.C 1;have j:=b.S ((e9.I (X:=λk=>k=w.heap.size) (p:=⟨w.heap.size,0,Ä⟩) U<|Â Æ 20).ff<|e9.I (X:=λk=>k=w.heap.size) (p:=⟨w.heap.size,1,Ä⟩) U<|Ñ Ü) Z;apply gD 14;intro K f;go_simp;apply f.out _ _ λ_=>⟨j.r,j.C,j.I,j.M,j.N⟩;clear f K;apply gD 15;intro K f;go_simp;apply f.out _ _ λq=>absurd fj q;clear f K;try simp only[ĺ,Ö,ä,å]
 refine lS ft ?_ _;go_wp2_with fail;let⟨q,q2⟩:=S3 (il.S h z) i G (Â Æ 20)<|Ñ Ü;apply ò (zr U U (fg.Y (tl:=[]) (vs:=[Â Æ 20,Ñ Ü]) q2) L.out.1 L.out.2 Dc) U;exact⟨U,lv,q⟩
def amn(ok:E.Ok)(X:E.T≠200)(m:iz E.r E.T E.C s lv w)(p:w.ownsRow 0 257 2 lv ls.length (kl ls))(B:iJ w)(D:gF s)(f:lT a t w)(d:t.Ok)(Y:(ls.length:Int)+400<=1000000)(F:t.r≠1)(G:t.r≠2): Ò À 154 #[Å<|Ã ⟨E.r,0,Ä⟩,Å<|Ã ⟨a,0,Ä⟩] w (Je E lv ls.length w<|lb s ls t):=by
 have I:=fg.M m;have F_:=f.G;have c0:=f.r;have c1:=f.C;have c2:=f.I;have c3:=f.M;have c4:=f.Y;have c5:=f.N;have hn:=FB d.I d.M;have hk:=FB d.r d.C;let⟨d2,J,L⟩:=Ì.1 Jc;have M:=fe<|Á J L;clear J L;have h:=(e9.gG (λ_=>False) w #[Â Æ 0,Ñ Ï] 246).ff<|e9.fR _ _;have u:=m.nP h id;have v:=ia p h λ_ _=>id;have c:=f.S h id;have N:=B.r h id;have z1:(t.r==1)=Ï:=by rwa[beq_eq_false_iff_ne]
 have z2:(t.r==2)=Ï:=by rwa[beq_eq_false_iff_ne]
 have O:lb s ls t=xD s ls t.x t.y t.n t.k:=by unfold lb;rw[if_neg F,if_neg G]
 rw[O];have C:=amk (ls:=ls) ok u v N D t.x t.y t.n t.k d.x d.y ⟨d.r,by have:=d.C;omega⟩ d.I Y;have P:∀(j:É) (Q:St) (S:List (Nat×Int)) (l:Ç),il E lv ls.length _ Q S j l->lT a t j:=λj Q S l r=>lT.xx X c u v r;have H:=fe<|Á C<|Á p P;clear C P m p B D f d u v N O;generalize xD s ls t.x t.y t.n t.k=o at*;go_enter ž,ū;go_wp2_with fail;have b:=fe<|Á c.r<|Á c.C<|Á c.I<|Á c.M c.N;clear c0 c1 c2 c3 c5 c;refine mg (λe=>e.cell? ⟨a,0,Ä⟩=Ã (Â Ë t.x)/\e.cell? ⟨a,1,Ä⟩=Ã (Â Ë t.y)/\e.cell? ⟨a,2,Ä⟩=Ã (Â Ë t.n)/\e.cell? ⟨a,3,Ä⟩=Ã (Â Ë t.k)/\e.cell? ⟨a,5,Ä⟩=Ã (Í t.C)) [26,27] ft ?_;apply tk 0 b.out;apply tk 1 b.out;apply tk 2 b.out;apply tk 3 b.out;apply tk 4 b.out;apply tk 5 b.out;apply tk 6 b.out;apply tk 7 b.out;apply tk 8 b.out;apply tk 9 b.out;apply tk 10 b.out;apply tk 11 b.out;apply tk 12 b.out;apply tk 13 b.out;apply tk 14 b.out;apply tk 15 b.out;apply tk 16 b.out;apply tk 17 b.out;apply tk 18 b.out;apply tk 19 b.out;apply tk 20 b.out;apply tk 21 b.out;apply tk 22 b.out;apply gD 23;intro K g;go_simp;go_at_call 170;apply H.out.1.mono;rintro e j ⟨rfl,l,z⟩;dsimp only;have c:=H.out.2.2 _ _ _ _ z;apply g.out _ _ λ_=>⟨c.r,c.C,c.I,c.M,c.N⟩;clear g K;have i:=S4 (W:=w) (cs:=[Â Æ 0,Ñ Ï]) (Ù U) H.out.2.1 I z;have e0:=i.r 0 _ U;have e1:=i.r 1 _ U;have y0:=i.C 0;have y1:=i.C 1;have V:=Á c.r<|Á c.C<|Á c.I<|Á c.M c.N;have b:=fe V;clear V c;apply tk 24 b.out;apply tk 25 b.out;apply gD 26;intro K g;go_simp;apply g.out _ _ λq=>absurd fj q;clear g K;apply gD 27;intro K g;go_simp;apply g.out _ _ λq=>absurd fj q;clear g K;try simp only[ĺ,Ö,ä,å]
 refine lS ft ?_ _;go_wp2_with fail;let⟨q,q2⟩:=S3 (il.S h z) i I (Â Æ o.1.1)<|Ñ o.1.2;apply ò (zr U U (fg.Y (tl:=[]) (vs:=[Â Æ o.1.1,Ñ o.1.2]) q2) M.out.1 M.out.2 Dc) U;exact⟨U,l,q⟩
def F'(ok:E.Ok)(b:E.T≠200)(c:iz E.r E.T E.C s lv w)(d:w.ownsRow 0 257 2 lv ls.length (kl ls))(e:iJ w)(f:gF s)(g:lT a t w)(h:t.Ok)(i:(ls.length:Int)+400<=1000000): Ò À 154 #[Å<|Ã ⟨E.r,0,Ä⟩,Å<|Ã ⟨a,0,Ä⟩] w (Je E lv ls.length w<|lb s ls t):=by
 by_cases j:t.r=1
 .exact aml ok b c d e f g h i j
 .by_cases k:t.r=2
  .exact amm ok b c d e f g h i k
  .exact amn ok b c d e f g h i j k
end
def G_:∀(d a b c:List Ç) (k:Nat),b.length=d.length->(d.zipIdx k).foldl (λ(q:Array Ç) (p:Value×Nat)=>q.setIfInBounds (a.length-k+p.2) p.1) (a++b++c).toArray=(a++d++c).toArray\/a.length<k
 |[],a,b,c,k,h=>by have:b=[]:=à (by simpa using h);subst this;exact Ù U
 |v::r,a,b,c,k,h=>by
  rcases ŵ a.length k with q|q
  .exact Ú q
  .match b,h with
   |x::b,h=>
    apply Ù;have p:=(G_ r (a++[v]) b c (k+1)<|by simpa using h).resolve_right (by simp;omega);simp only[List.zipIdx_cons,List.foldl_cons];rw[show a.length-k+k=a.length by omega,Ö,show(a++x::b++c).set a.length v=a++[v]++b++c by simp];rw[show(a++[v]).length-(k+1)=a.length-k by simp]at p;rw[p];simp
def MV{place:Nat->Option (Nat×Nat)}{pre old suf:List Ç}{rest:List (Nat×Value)}(a:place i=Ã (pre.length,n))(b:v.cells.size=n)(c:old.length=n): ķ place (pre++old++suf).toArray ((i,v)::rest)=ķ place (pre++v.cells.toList++suf).toArray rest:=by rw[Instr.fill.eq_2];simp only[a];rw[if_neg (by simp only[ċ,Ó,Bool.or_eq_true,decide_eq_true_eq,not_or];omega)];have:=(G_ v.cells.toList pre old suf 0<|by rw[c,Ũ,b]).resolve_right Z;simp only[Nat.sub_zero]at this;rw[<-this,<-Array.foldl_toList,Array.toList_zipIdx]
def amo:((À.info? 144).bind (·.zero)).map (λz=>z.cells.toList.drop 144)=Ã [Ê Ä 0 0]:=ft
def amq:((À.info? 144).bind (·.zero)).map (λz=>z.cells.size)=Ã 145:=ft
def H_:((À.info? 147).bind (·.zero)).map (λz=>z.cells.toList.drop 145)=Ã [Â Ë 0,Ê Ä 0 0]:=ft
def I_:((À.info? 147).bind (·.zero)).map (λz=>z.cells.size)=Ã 147:=ft
def MW(P:aL)(t:õ):Option (List<|Nat×Nat):=match P.underlying t with
 |some (.struct fs)=>fs.toList.mapM λf=>(P.info? f.type).map λi=>(f.offset,i.size)
 |_=>Ä
def amr:MW À 144=Ã [(0,144),(144,1)]:=ft
def I':MW À 147=Ã [(0,145),(145,1),(146,1)]:=ft
def S5{c:List (Nat×Nat)}(a:MW P t=Ã c)(b:(P.info? t).bind (·.zero)=Ã z)(e:List (Nat×Value)):P.built t e=ķ (c.toArray[·]?) z.cells e:=by
 unfold MW at a;unfold Program.built;cases f:P.info? t with
 |none=>rw[f]at b;cases b
 |some h=>
  rw[f]at b;have b:h.zero=Ã z:=b;cases g:P.underlying t with
  |none=>rw[g]at a;cases a
  |some d=>
   rw[g]at a;cases d<;>first|(cases a;done)|skip
   simp only at a;simp only[b,a]
theorem S6{suf:List Ç}(h:((P.info? t).bind (·.zero)).map (λz=>z.cells.toList.drop n)=Ã suf)(a:((P.info? t).bind (·.zero)).map (λz=>z.cells.size)=Ã m)(c:n<=m):∃z old,(P.info? t).bind (·.zero)=Ã z/\old.length=n/\z.cells=(old++suf).toArray:=by
 let⟨z,b,d⟩:=Ì.1 h;rw[b]at a;have a:z.cells.size=m:=by injection a
 refine⟨z,z.cells.toList.take n,b,by rw[List.length_take,Ũ,a];omega,?_⟩;grind
def ams(h:l.length=144):À.built 144 [(0,Ė l.toArray)]=Ã (l++[Ê Ä 0 0]).toArray:=by let⟨z,d,a,b,c⟩:=S6 amo amq A;rw[S5 amr a,c];have:=MV (place:=λi=>[(0,144),(144,1)].toArray[i]?) (pre:=[]) (suf:=[Ê Ä 0 0]) (i:=0) (v:=Ė l.toArray) (rest:=[]) U (by show l.toArray.size=144;simp[h]) b;simpa[ķ,Ħ]using this
def amt(h:l.length=145)(a:v.cells=#[v]):À.built 147 [(0,Ė l.toArray),(1,v)]=Ã (l++[v,Ê Ä 0 0]).toArray:=by let⟨z,g,c,d,f⟩:=S6 H_ I_ A;rw[S5 I' c,f];have b:=MV (place:=λi=>[(0,145),(145,1),(146,1)].toArray[i]?) (pre:=[]) (suf:=[Â Ë 0,Ê Ä 0 0]) (i:=0) (v:=Ė l.toArray) (rest:=[(1,v)]) U (by show l.toArray.size=145;simp[h]) d;simp only[Χ]at b;rw[b];have e:(Ė l.toArray).cells.toList=l:=rfl;rw[e];rw[show(l++[Â Ë 0,Ê Ä 0 0])=l++[Â Ë 0]++[Ê Ä 0 0] by simp,(MV (place:=λi=>[(0,145),(145,1),(146,1)].toArray[i]?) (old:=[Â Ë 0]) (suf:=[Ê Ä 0 0]) (i:=1) (rest:=[]) (by show Ã (145,1)=Ã (l.length,1);rw[h]) (by rw[a];rfl) U)];simp[ķ,a]
def im(s:St):List Ç:=(Ď 144).map<|qh s
def rQ(s:St):(im s).length=144:=by simp[im]
def zt(s:St)(lv:Ç):iZ s lv=im s++[lv]:=by unfold iZ im;rw[œ,Ŕ];rw[(List.map_congr_left λi a=>qi s lv<|by simpa using a)];simp[IY]
def J_(a:o.op=.box T qQ)(b:xX qQ=Ė d):(Ī xX o).run P w=ag (.value<|Å<|Ã ⟨w.heap.size,0,Ä⟩) (w.alloc<|Ð d T):=by unfold Ī;simp[a,b,Instr.box,newVar,newRow,Ħ]
def S7{a:Array (Nat×Operand)}(b:o.op=η T a)(h:P.built T (a.map λ(i,x)=>(i,xX x)).toList=Ã d):(Ī xX o).run P w=ag (.value<|Ė d) w:=by have:=run_build w T (a.map λ(i,x)=>(i,xX x)) d h;unfold Ī;simp_all
def S8(a:o.op=η 144 #[(0,qQ)])(b:xX qQ=Ė l.toArray)(c:l.length=144):(Ī xX o).run À w=ag (.value<|Ė (l++[Ê Ä 0 0]).toArray) w:=by apply S7 a;simp only[ą,ę,Ğ,b];exact ams c
def amu{y:Ŵ}(a:o.op=η 147 #[(0,qQ),(1,y)])(b:xX qQ=Ė l.toArray)(c:xX y=v)(d:l.length=145)(e:v.cells=#[v]):(Ī xX o).run À w=ag (.value<|Ė (l++[v,Ê Ä 0 0]).toArray) w:=by apply S7 a;simp only[ą,ę,Ğ,b,c];exact amt d e
def S9:(À.underlying 140).map Ķ=Ã Ü:=ft
def J':(À.info? 140).map (·.size)=Ã 144:=ft
structure mh(vb:Nat)(s:St)(h:Int)(w:É):Prop where
 C:w.rangeAt vb 0 (im s)
 h:w.cell? ⟨vb,145,Ä⟩=Ã (Â Ë h)
def mh.r{s:St}(a:mh i s h w)(k:e9 X w u)(b:¬X i):mh i s h u:= ⟨λj v c=>k.r (a.C j v c) b,k.r a.h b⟩
def uH(l:List (Int×Bool)):List Ç:=l.flatMap λp=>[Â Æ p.1,Ñ p.2]
structure NX(B:Nat)(h:Int)(lv uv:Ç)(s:St)(ls:List (Nat×Int))(us:List (Int×Bool))(w0 w:É):Prop where
 r:iz B 147 [Â Ë h,uv] s lv w
 C:w.ownsRow 0 257 2 lv ls.length (kl ls)
 I:w.ownsRow 0 246 2 uv us.length (uH us)
 M:e9 (λ_=>False) w0 w
 N:w0.heap.size<=B
 S:∀j,lv.ownBlock=Ã j->w0.heap.size<=j
 Y:∀j,uv.ownBlock=Ã j->w0.heap.size<=j
def NX.iW(w:É)(s:St)(h:Int):NX w.heap.size h (Ê Ä 0 0) (Ê Ä 0 0) s [] [] w ((Ć w<|Ð (im s++[Ê Ä 0 0,Â Ë h,Ê Ä 0 0]).toArray 147).drew):=by refine⟨?_,ă _ _ _ _,ă _ _ _ _,(e9.gG _ _ _ _).ff<|e9.fR _ _,ß _,(λj q=>nomatch q),(λj q=>nomatch q)⟩;unfold iz;rw[zt,show im s++[Ê Ä 0 0]++[Â Ë h,Ê Ä 0 0]=im s++[Ê Ä 0 0,Â Ë h,Ê Ä 0 0] by simp];exact fg.N w _ 147
noncomputable def Jf:Ŗ:=(Tryz.f115.body.bind km).getD Ļ
def zu(c m B:Nat)(a:Option ć)(n b:Nat)(i:Int)(u:Nat->Ç):ê:=⟨#[Å<|Ã ⟨c,0,Ä⟩,Â Ë m,Ê a n b,Ą,Ą,Ą,Å Ä,Å<|Ã ⟨B,0,Ä⟩,u 8,u 9,u 10,u 11,u 12,u 13,u 14,u 15,u 16,u 17,u 18,u 19,u 20,u 21,u 22,u 23,u 24,Ê a n b,Â Ë n,Â Ë i,u 28,u 29,u 30,u 31,u 32,u 33,u 34,u 35,u 36,u 37,u 38,u 39,u 40,u 41,u 42,u 43,u 44,u 45,u 46,u 47,u 48,u 49,u 50,u 51,u 52,u 53,u 54,u 55,u 56,u 57,u 58,u 59,u 60,u 61,u 62,u 63,u 64,u 65,u 66,u 67,u 68,u 69,u 70,u 71,u 72,u 73,u 74,u 75,u 76,u 77,u 78,u 79,u 80,u 81,u 82],[]⟩
def Jg(b m B:Nat)(c:Option ć)(n d:Nat)(i:Int)(a:ê):Prop:=∃u,a=zu b m B c n d i u
def QN(X Y:ê->É->Prop):aZ->ê->É->Prop
 |.exit 0,a,w=>X a w
 |.ret,a,w=>Y a w
 |_,_,_=>False
section
variable{lv:Ç}{s d:St}{ls f:List (Nat×Int)}{c:List (Int×Bool)}
def Ta(j:Nat)(h:Int)(x:Ç):iT:=⟨j,147,[Â Ë h,x]⟩
def Tb(j:Nat)(h:Int)(x:Ç):(Ta j h x).Ok:=⟨by show(147:Nat)≠36;decide,by show(147:Nat)≠257;decide,by show(147:Nat)≠282;decide,by show(147:Nat)≠300;decide,by show(147:Nat)≠252;decide,by show(147:Nat)≠246;decide⟩
def NX.fK(a:NX j h lv x s ls c u w)(k:e9 (λ_=>False) w W):NX j h lv x s ls c u W:= ⟨a.r.nP k id,ia a.C k λ_ _=>id,ia a.I k λ_ _=>id,a.M.ff k,a.N,a.S,a.Y⟩
def NX.xx(a:NX j h lv x s ls c u w)(r:il (Ta j h x) lv ls.length w d f W v):NX j h v x d f c u W:=by
 have k:=a.r;refine⟨r.r,r.I,ia a.I r.C ?_,a.M.C r.C ?_,a.N,λb q=> ?_,a.Y⟩
 .rintro b i (q|q)
  .let⟨m,g⟩:=lG a.I i;have e:b=j:=q;rw[e,k]at g;cases g
  .exact akS a.I a.C A i q
 .rintro i g (q|q)
  .have:=a.N;have e:i=j:=q;omega
  .have:=a.S i q;omega
 .rcases r.l b q with e|e
  .exact a.S b e
  .exact í a.M.M e
def NX.fl(a:NX j h lv x s ls c u w)(b:i<8)(v:Int):NX j h lv x (s.fl i v) ls c u (w.setCell ⟨j,i*18,Ä⟩<|Â Æ v):= a.xx<|(il.fT (E:=Ta j h x) a.r a.C).fl (Tb _ _ _) b v
def K_(c:List (Int×Bool)):∀u∈uH c,kj u=Ü:=λu a=>by unfold uH at a;let⟨e,_,h⟩:=Η.1 a;simp at h;rcases h with rfl|rfl<;>rfl
def amv:(À.info? 246).map (λi=>(i.zero,i.size,i.bytes))=Ã (Ã<|Ė #[Â Æ 0,Ñ Ï],2,16):=ft
def NX.G(a:NX j h lv x s ls c u w):w.cell? ⟨j,146,Ä⟩=Ã x:= fg.r a.r 146 _<|by rw[ý (by rw[mD];omega),mD];rfl
def NX.amw{g:Int}(b:NX j h lv x s ls c u w)(a:qf w 0 246 2 x c.length (uH c) 1 [Â Æ g,Ñ yQ] v W): NX j h lv x s ls c u W/\NX j h lv v s ls (c++[(g,yQ)]) u (W.setCell ⟨j,146,Ä⟩ v):=by
 have m:∀{i:Nat} {n:Array Ç} {T:õ},x.ownBlock=Ã i->w.heap[i]?=Ã (Ð n T (0,0))->T=246:=λ{i n T} q hc=>by let⟨k,e⟩:=lG b.I q;rw[hc]at e;cases e;rfl
 have o:=b.M.C a.r λi y q=>by have:=b.Y i q;omega
 have f:NX j h lv x s ls c u W:=⟨b.r.nP a.r λq=>absurd (m q b.r) A,ia b.C a.r (λd q r=>by let⟨k,e⟩:=lG b.C q;exact absurd (m r e) A),a.I _ _ _ b.I λ_=>ß _,o,b.N,b.S,b.Y⟩;have t:W.ownsRow 0 246 2 v (c++[(g,yQ)]).length (uH<|c++[(g,yQ)]):=by have:=a.fp;rwa[show uH c++[Â Æ g,Ñ yQ]=uH (c++[(g,yQ)]) by simp[uH],show c.length+1=(c++[(g,yQ)]).length by simp]at this
 have l:e9 (λk=>k=j) W (W.setCell ⟨j,146,Ä⟩ v):=e9.I (X:=λk=>k=j) (p:=⟨j,146,Ä⟩) U v<|Ú<|fg.G f.r;have k:=fg.fW f.r 146 v;rw[List.set_append_right _ _ (by rw[mD];omega),mD]at k;refine⟨f,k,ia f.C l λd q r=>jA f.C f.r A (by rw[q,r]),ia t l λd q r=>jA t f.r A (by rw[q,r]),o.C l λi y q=>by have:=b.N;omega,b.N,b.S,λd q=> ?_⟩;rcases a.C with e|e
 .exact b.Y d<|by rwa[<-e]
 .rw[e]at q;cases q;exact b.M.M
end
section
variable{X:ê->É->Prop}{cp:Nat}{lv:Ç}{s:St}{ls:List (Nat×Int)}{c:List (Int×Bool)}
def amx(d:Nat->Ç)(e:NX j h lv x s ls c u w)(i:Int)(f:i=n) (g:∀a,Jg b m j O n cp i a->X a w): Î À Jf (Exit.then K<|QN X H) (zu b m j O n cp i d) w:=by
 unfold zu;conv=>arg 2;whnf
 subst f;go_wp2_with fail;exact g _ (gi _)
def amy(d:Nat->Ç)(f:NX j h lv x s ls c u w)(i:Int)(k:Nat)(q:i=k)(P:k<n)(Q:n<=1000)(tb o a:Nat)(r:O=Ã ⟨tb,o,Ä⟩)(S:w.cell? ⟨tb,o+k,Ä⟩=Ã (Å<|Ã ⟨a,0,Ä⟩))(t:Tx)(v:lT a t w)(y:t.Ok)(z:iJ w)(B:gF s)(D:(ls.length:Int)+400<=1000000)(g:Int)(E:Bool)(F:St)(G:List (Nat×Int))(I:lb s ls t=((g,E),Ï,F,G)) (J:∀a p,a.tmps.getD 6 Ą=Å Ä->a.defers=[]->e9 (λ_=>False) u p->H a p): Î À Jf (Exit.then K<|QN X H) (zu b m j O n cp i d) w:=by
 unfold zu;conv=>arg 2;whnf
 subst q r;have C:=F' (Tb _ _ _) (by show(147:Nat)≠200;decide) f.r f.C z B v y D;rw[I]at C;have T:(0:Int)<=(k:Int):=Z
 have V:(k:Int)<(n:Int):=Z
 have W:=fg.M f.r;have l:=fe<|Á f C;go_wp2_with fail;go_at_call 154;apply l.out.2.mono;rintro e Y ⟨rfl,zg,L⟩;have M:=l.out.1.xx L;have N:=fe M;go_wp2_with fail;exact J _ _ U U<|N.out.M.ff<|e9.gG _ _ _ _
def amz(d:Nat->Ç)(f:NX j h lv x s ls c u w)(i:Int)(k:Nat)(W:i=k)(hj:k<n)(hn:n<=1000)(tb N a:Nat)(Y:O=Ã ⟨tb,N,Ä⟩)(hc:w.cell? ⟨tb,N+k,Ä⟩=Ã (Å<|Ã ⟨a,0,Ä⟩))(t:Tx)(ht:lT a t w)(Mh:t.Ok)(hr:iJ w)(hs:gF s)(hlen:(ls.length:Int)+400<=1000000)(g:Int)(o:Bool)(B:St)(P:List (Nat×Int))(ho:lb s ls t=((g,o),Ü,B,P))(Q:m<8)(F:gF B)(vm:0<=g)(uD:g<=1000)(LJ:c.length<=1000) (p:∀a v jz Td,Jg b m j O n cp (i+1) a->NX j h jz Td (B.fl m<|wu<|(B m).fl+g) P (c++[(g,o)]) u v->K a v): Î À Jf (Exit.then K<|QN X H) (zu b m j O n cp i d) w:=by
 unfold zu;conv=>arg 2;whnf
 subst W Y;have C:=F' (Tb _ _ _) (by show(147:Nat)≠200;decide) f.r f.C hr hs ht Mh hlen;rw[ho]at C;have e1:(0:Int)<=(k:Int):=Z
 have e2:(k:Int)<(n:Int):=Z
 have aus:=fg.M f.r;have l:=fe<|Á f C;go_wp2_with fail;go_at_call 154;apply l.out.2.mono;rintro e r ⟨rfl,zg,r1⟩;have D:=l.out.1.xx r1;have m1:=D.r.fl Q;have z1:=fg.C D.r<|m*18;have Ct:=fg.M D.r;have b0:=(F.fl m).1;have b1:=(F.fl m).2;have hub:x.ownBlock≠Ã r.heap.size:=λq=>by have:=(D.I.lt _ q).2;omega
 have HX:=fe<|Á D F;generalize hb:(B m).fl=b at*;have hm0:(0:Int)<=(m:Int):=Z
 have hm1:(m:Int)<8:=Z
 go_wp2_with fail
 go_region
 have hx8:=(HX.out.1.fl Q<|wu<|b+g).fK ((e9.gG (λ_=>False) _ #[Â Æ g,Ñ o] 246).ff<|e9.fR _ _);have hU:fg r.heap.size [Â Æ g,Ñ o] 246 (ď<|Ć (r.setCell ⟨j,m*18,Ä⟩<|Â Æ<|wu<|b+g)<|Ð #[Â Æ g,Ñ o] 246):=by
  have:=fg.N (r.setCell ⟨j,m*18,Ä⟩<|Â Æ<|wu<|b+g) [Â Æ g,Ñ o] 246;have z:fg r.heap.size [Â Æ g,Ñ o] 246 (Ć (r.setCell ⟨j,m*18,Ä⟩<|Â Æ<|wu<|b+g)<|Ð #[Â Æ g,Ñ o] 246):=by simpa using this
  exact z
 go_wp2_with fail
 change Î À _ _ _ (ď<|Ć (r.setCell ⟨j,m*18,Ä⟩<|Â Æ<|wu<|b+g)<|Ð #[Â Æ g,Ñ o] 246);generalize ď (Ć (r.setCell ⟨j,m*18,Ä⟩<|Â Æ<|wu<|b+g)<|Ð #[Â Æ g,Ñ o] 246)=w8 at*;generalize r.heap.size=ub at*;have S:=hx8.fK (e9.fR (λ_=>False) w8);have G:=hU.I (e9.fR (λ_=>False) w8) id;let⟨i0,I8,I9,amA,amB⟩:=ï amv;have E:=fe<|Á I8<|Á I9<|Á amA amB;have y:=fe<|Á S.G<|Á (G.r 0 _ rfl)<|G.r 1 _ rfl;have T:=fe<|Á S G;refine mg (λv=>v.cell? ⟨j,146,Ä⟩=Ã x/\v.cell? ⟨ub,0,Ä⟩=Ã (Â Æ g)/\v.cell? ⟨ub,1,Ä⟩=Ã (Ñ o)) [10] ft ?_;refine tk 0 y.out ?_;refine tk 1 y.out ?_;refine tk 2 y.out ?_;refine tk 3 y.out ?_;refine tk 4 y.out ?_;refine tk 5 y.out ?_;have I:=T.out.1.fK (e9.gG (λ_=>False) _ #[Â Æ g,Ñ o] 246);have J:=T.out.2.I (e9.gG (λ_=>False) _ #[Â Æ g,Ñ o] 246) id;refine gD 6 ?_;intro K p;go_simp;refine p.out _ _ (λ_=>⟨I.G,J.r 0 _ U,J.r 1 _ U⟩) ?_;refine gD 7 ?_;intro K p;refine MN (hfl:=Ú ⟨fj,λd z=>(û.1 z).elim (K_ c d) (λq=>by simp at q;rcases q with rfl|rfl<;>rfl),by simp[kj,Ħ]⟩) fO _ _ 145 fO Tryz.underlying145 E.out.1 E.out.2.1 E.out.2.2.1 E.out.2.2.2 U fO I.I ⟨_,0,Ä⟩ [Â Æ g,Ñ o] fO Z U (ź _ _ _ _) (λd z=>by simp at z;rcases z with rfl|rfl<;>rfl) (by unfold Ĉ;omega) Z (ã _) ?_;intro uv1 w9 L;obtain⟨a2,L_,rfl⟩:=jh L.fp;let⟨M,n2⟩:=I.amw L;have z:=J.I L.r hub;refine p.out _ _ (λ_=>⟨M.G,z.r 0 _ U,z.r 1 _ U⟩) ?_;have V:=M.G;have fz:=fg.C M.r 146;refine gD 8 ?_;intro K p;go_simp;refine p.out _ _ (λ_=>⟨V,z.r 0 _ U,z.r 1 _ U⟩) ?_;refine gD 9 ?_;intro K p;go_simp;refine p.out _ _ (λ_=>⟨V,z.r 0 _ U,z.r 1 _ U⟩) ?_;refine gD 10 ?_;intro K p;go_simp;refine p.out _ _ (λq=>absurd fj q) ?_;refine lS ft ?_ _;go_wp2_with fail;subst hb;exact p _ _ _ _ (gi _) n2
end
def rR(m:Nat):St->List (Nat×Int)->List (Int×Bool)->List Tx->Option (St×List (Nat×Int)×List (Int×Bool))
 |s,ls,us,[]=>Ã (s,ls,us)
 |s,ls,us,t::r=>if(lb s ls t).2.1 then rR m ((lb s ls t).2.2.1.fl m<|wu<|((lb s ls t).2.2.1 m).fl+(lb s ls t).1.1) (lb s ls t).2.2.2 (us++[(lb s ls t).1]) r else Ä
def amC{s:St}(b:gF s)(x y:Nat)(c:0<=h):gF (vG s x y h).2:=by
 unfold vG;split
 .exact b
 .rename_i a;have:=(b.fl x).2;exact(b.r x ⟨Z,Z⟩).r y<|xA _
def amD{s:St}(a:gF s)(x:Nat)(e:B.size<=40/\∀c∈B.data.toList,xw c=Ü):gF (vH s x B).2:=by
 unfold vH;split
 .exact a
 .rename_i h;have:=(a.fl x).2;have d:=a.r x (b:=(s x).fl-20) ⟨Z,Z⟩;exact d.fW (d.fl x) (d.C x) e
structure M_(r:List (Nat×Int))(o:(Int×Bool)×Bool×St×List (Nat×Int)):Prop where
 g0:0<=o.1.1
 C:o.1.1<=400
 s:gF o.2.2.1
 r:o.2.2.2.length<=r.length+400
def amE{s:St}(f:gF s){d:List (Nat×Int)}(g:i<8)(l:j<8)(m:fY c)(p:(d.length:Int)+400<=1000000):M_ d (xD s d i j h c):=by
 unfold xD;split
 .exact⟨Ø _,by show(0:Int)<=400;decide,f,ń _ _⟩
 .rename_i a;have q:=(f.fl i).2;have o:=f.r i (b:=(s i).fl-h) ⟨Z,Z⟩;have e:=Jb _ d i j (h-10) c o g l m Z Z Z;have r:=e.C;have t:=e.r;have u:=e.I;exact⟨by show 0<=_+10;omega,by show _+10<=400;omega,e.N.r i<|xA _,by show(gk _ _ _ _ _ _).I.length<=_;omega⟩
def Te{s:St}(b:gF s){ls:List (Nat×Int)}{t:Tx}(a:t.Ok)(c:(ls.length:Int)+400<=1000000):M_ ls (lb s ls t):=by
 unfold lb;split
 .exact⟨by show(0:Int)<=10;decide,by show(10:Int)<=400;decide,amC b _ _ a.I,ń _ _⟩
 .split
  .exact⟨by show(0:Int)<=20;decide,by show(20:Int)<=400;decide,amD b _ a.N,ń _ _⟩
  .exact amE b a.x a.y ⟨a.r,by have:=a.C;omega⟩ c
structure Dd(bp:Option ć)(n:Nat)(lU:List (Nat×Tx))(w:É):Prop where
 r:n=lU.length
 C:∀(j a:Nat) (t:Tx),lU[j]?=Ã (a,t)->∃tb te,bp=Ã ⟨tb,te,Ä⟩/\w.cell? ⟨tb,te+j,Ä⟩=Ã (Å<|Ã ⟨a,0,Ä⟩)/\lT a t w/\t.Ok
def Dd.I{b:List (Nat×Tx)}(h:Dd O n b w)(k:e9 (λ_=>False) w u):Dd O n b u:= ⟨h.r,λj a t q=>by let⟨tb,c,d,e,f,g⟩:=h.C j a t q;exact⟨tb,c,d,k.r e id,f.S k id,g⟩⟩
def lJ(a:List (Nat×Tx)):List Tx:=a.map (·.2)
section
variable{bp:Option ć}{cp:Nat}{lU:List (Nat×Tx)}{d:Option (St×List (Nat×Int)×List (Int×Bool))}
def Tf(n:Nat)(a:ê)(_:É):Nat:=match a.tmps.getD 27 Ą with
 |Â _ i=>n-i.toNat
 |_=>0
def NI(b m i:Nat)(bp:Option ć)(n cp:Nat)(h:Int)(u:É)(lU:List (Nat×Tx))(d:Option (St×List (Nat×Int)×List (Int×Bool)))(a:ê)(w:É):Prop:=
 ∃(j:Nat) (s:St) (c:List (Nat×Int)) (e:List (Int×Bool)) (f g:Ç),Jg b m i bp n cp j a/\j<=n/\NX i h f g s c e u w/\gF s/\c.length<=400*j/\e.length=j/\rR m s c e ((lJ lU).drop j)=d
def NE(b m i:Nat)(bp:Option ć)(n cp:Nat)(h:Int)(u:É)(d:Option (St×List (Nat×Int)×List (Int×Bool)))(a:ê)(w:É):Prop:=
 ∃(s:St) (c:List (Nat×Int)) (e:List (Int×Bool)) (f g:Ç),Jg b m i bp n cp n a/\NX i h f g s c e u w/\gF s/\d=Ã (s,c,e)
def NR(u:É)(d:Option (St×List (Nat×Int)×List (Int×Bool)))(a:ê)(w:É):Prop:=
 a.tmps.getD 6 Ą=Å Ä/\a.defers=[]/\e9 (λ_=>False) u w/\d=Ä
theorem amF(C:Dd bp n lU u)(K:iJ u)(L:n<=1000)(V:m<8)(a:ê)(w:É)(W:NI b m i bp n cp h u lU d a w): Î À Jf (Exit.then (λo q=>NI b m i bp n cp h u lU d o q/\Tf n o q<Tf n a w)<|QN (NE b m i bp n cp h u d)<|NR u d) a w:=by
 let⟨j,s,r,M,X,Y,hfr,hj,x,y,SN,LJ,f⟩:=W;obtain⟨c,rfl⟩:=hfr;by_cases vl:j=n
 .have D:(lJ lU).drop j=[]:=ğ (by unfold lJ;rw[Ω,<-C.r];omega);rw[D]at f;refine amx c x j (by rw[vl]) λa e=>⟨s,r,M,X,Y,?_,x,y,f.symm⟩;grind
 .have E:j<n:=Z
  obtain⟨⟨a,t⟩,N⟩:∃p,lU[j]?=Ã p:=⟨_,Ô<|by rwa[<-C.r]⟩;have D:(lJ lU).drop j=t::(lJ lU).drop (j+1):=by
   have g:(lJ lU)[j]?=Ã t:=by unfold lJ;rw[ļ,N];rfl
   let⟨k,e⟩:=Û.1 g;rw[ė k,e]
  let⟨tb,O,P,Q,S,F⟩:=(C.I x.M).C j a t N;have G:(r.length:Int)+400<=1000000:=Z
  have k:=Te y F G;rw[D]at f;unfold rR at f;obtain⟨g,l,H,z,e,I⟩:∃g l H z e,lb s r t=((g,l),H,z,e):=⟨_,_,_,_,_,U⟩;rw[I]at f k;have g0:=k.g0;have g1:g<=400:=k.C;have T:=k.s;have Ct:e.length<=r.length+400:=k.r;cases H with
  |false=>
   simp only[ĳ,if_false]at f;exact amy c x j j U E L tb O a P Q t S F (K.r x.M id) y G g l z e I λo q B J v=>⟨B,J,v,f.symm⟩
  |true=>
   simp only[if_true]at f;refine amz c x j j U E L tb O a P Q t S F (K.r x.M id) y G g l z e I V T g0 Z Z λo q jz Td B J=>⟨⟨j+1,_,e,M++[(g,l)],jz,Td,by simpa using B,Z,J,T.r m<|xA _,Z,by simp[LJ],f⟩,?_⟩;obtain⟨v,rfl⟩:=B;show n-((j:Int)+1).toNat<n-((j:Int)).toNat;omega
def s8(m:Nat)(s:St)(lU:List Tx):Option (St×List (Nat×Int)×List (Int×Bool)):=
 (rR m s [] [] lU).map λr=>(r.1.fl m<|wu<|(r.1 m).fl+50,r.2)
def FC(h:Int)(w:É)(r:Option (St×List (Nat×Int)×List (Int×Bool)))(e:aD)(a:É):Prop:=
 (r=Ä/\e=È (Å Ä)/\e9 (λ_=>False) w a)\/
 ∃s b c i d f,r=Ã (s,b,c)/\e=È (Å<|Ã ⟨i,0,Ä⟩)/\NX i (h+1) d f s b c w a/\gF s
def amG{s:St}(e:mh b s h w)(Y:0<=h)(hh1:h<=1000)(y:gF s)(z:Dd bp n lU w)(B:iJ w)(J:n<=1000)(f:m<8): Ò À 115 #[Å<|Ã ⟨b,0,Ä⟩,Â Ë m,Ê bp n cp] w (FC h w<|s8 m s<|lJ lU):=by
 let⟨M,C,D⟩:=Ì.1 S9;have E:(À.info? 140).map (·.size)=Ã (im s).length:=by rw[rQ];exact J'
 have k:=fe<|Á C<|Á D E;have F:=(e.r (e9.fR (λ_=>False) w) id).C;have G:=(e.r (e9.fR (λ_=>False) w) id).h;have oF:Ë.wrap (h+1)=h+1:=I3 Z Z;have c:=fe<|Á F G;have gJ:=â w _ e.h;have L:∀l a,NX w.heap.size (h+1) (Ê Ä 0 0) (Ê Ä 0 0) s [] [] w l->Jg b m w.heap.size bp n cp 0 a->Î À (á Jf) (QN (NE b m w.heap.size bp n cp (h+1) w<|rR m s [] []<|lJ lU)<|NR w<|rR m s [] []<|lJ lU) a l:=λl a x N=>
  Č (NI b m w.heap.size bp n cp (h+1) w lU<|rR m s [] []<|lJ lU) (Tf n) ⟨0,s,[],[],_,_,N,ã _,x,y,fj,U,U⟩<|amF z B J f
 have H:=fe<|Á e L;have I:s8 m s (lJ lU)=(rR m s [] []<|lJ lU).map λr=>(r.1.fl m<|wu<|(r.1 m).fl+50,r.2):=U;rw[I];clear C D F G e E L y z B I;generalize rR m s [] [] (lJ lU)=d at*;go_enter Tryz.func115,Tryz.ntmps115;go_wp2_with fail;refine mg (λg=>g.rangeAt b 0 (im s)/\g.cell? ⟨b,145,Ä⟩=Ã (Â Ë h)) [] ft ?_;refine tk 0 c.out ?_;refine tk 1 c.out ?_;refine tk 2 c.out ?_;refine tk 3 c.out ?_;refine I2 (i:=4) (oi:={dst:=Ã 16,op:=Go.Op.load 140<|ð 15,type:=140,pos:= "block.go:30",after:=#[{on:=3,ground:=ñ}],guard:=Ä}) U ft ft ft ft (λ_ _ _ h=>h) c.out (yieldsIf_load_mid fO 140 _ U b 0 U (im s) M (λw h=>h.1) k.out.1 k.out.2.1 k.out.2.2) ?_;refine I2 (i:=5) (oi:={dst:=Ã 17,op:=η 144 #[(0,ð 16)],type:=144,pos:= "block.go:30",after:=#[{on:=4,ground:=ñ}],guard:=Ä}) U ft ft ft ft (λ_ _ _ h=>h) c.out (Ù ⟨fO,λ_ _=>S8 U U<|rQ s⟩) ?_;refine tk 6 c.out ?_;refine tk 7 c.out ?_;refine tk 8 c.out ?_;refine tk 9 c.out ?_;refine tk 10 c.out ?_;refine I2 (i:=11) U ft ft ft ft (λ_ _ _ h=>h) c.out (Ù ⟨fO,λ_ _=>amu U U U (by simp[rQ]) U⟩) ?_;have g:=fe ((H.out.1.r (e9.fR (λ_=>False) w) id).r (e9.gG (λ_=>False) _ ((im s++[Ê Ä 0 0])++[Â Ë<|h+1,Ê Ä 0 0]).toArray 147) id);refine gD 12 ?_;intro K o;rw[if_pos fO];unfold ň;rw[J_ U U,ī];refine o.out _ _ (λ_=>⟨g.out.C,g.out.h⟩) ?_;refine gD 13 ?_;intro K o;go_simp;refine o.out _ _ (λ_=>⟨g.out.C,g.out.h⟩) ?_;refine lS ft ?_ _;go_wp2_with fail;have O:=NX.iW w s<|h+1;refine Þ ?_ (H.out.2 _ _ O (gi _));rintro(_|(_|_)|_|_|_|_) a v hq;all_goals first|exact absurd hq id|skip
 .let⟨p,P,Q,S,T,V,j,q,W⟩:=hq;subst W;have d1:=j.r.fl f;have f1:=fg.C j.r<|m*18;have Ct:=fg.M j.r;have b0:=(q.fl m).1;have b1:=(q.fl m).2;have hm0:(0:Int)<=(m:Int):=Z
  have hm1:(m:Int)<8:=Z
  have t:=fe<|Á j q;generalize X:(p m).fl=b at*;obtain⟨u,rfl⟩:=V;unfold zu;go_wp2_with fail;go_region;go_wp2_with fail;go_ret;refine Ú ⟨p.fl m<|wu<|(p m).fl+50,P,Q,w.heap.size,S,T,U,U,?_,t.out.2.r m<|xA _⟩;rw[X];first
   |exact(t.out.1.fl f<|wu<|b+50).fK<|e9.fR _ _
   |exact(t.out.1.still<|Keep.drew _ _).fl f<|wu<|b+50
 .let⟨j,p,q,t⟩:=hq;simp only[Exit.inBlock,Exit.then];apply ò (results_tmp U _ _ _) p;exact Ù ⟨by rw[t];rfl,by rw[j],q⟩
end
def nu(i:Nat):ByteArray:=if i<10 then⟨#[(48+i).toUInt8]⟩else⟨#[(48+i/10).toUInt8,(48+i%10).toUInt8]⟩
def amH:∀k:Fin 10,(⟨#[48,49,50,51,52,53,54,55,56,57,97,98,99,100,101,102,103,104,105,106,107,108,109,110,111,112,113,114,115,116,117,118,119,120,121,122]⟩:ByteArray).extract k.val (k.val+1)=nu k.val:=by decide+kernel
def amI:∀k:Fin 100,k.val<10\/(⟨#[48,48,48,49,48,50,48,51,48,52,48,53,48,54,48,55,48,56,48,57,49,48,49,49,49,50,49,51,49,52,49,53,49,54,49,55,49,56,49,57,50,48,50,49,50,50,50,51,50,52,50,53,50,54,50,55,50,56,50,57,51,48,51,49,51,50,51,51,51,52,51,53,51,54,51,55,51,56,51,57,52,48,52,49,52,50,52,51,52,52,52,53,52,54,52,55,52,56,52,57,53,48,53,49,53,50,53,51,53,52,53,53,53,54,53,55,53,56,53,57,54,48,54,49,54,50,54,51,54,52,54,53,54,54,54,55,54,56,54,57,55,48,55,49,55,50,55,51,55,52,55,53,55,54,55,55,55,56,55,57,56,48,56,49,56,50,56,51,56,52,56,53,56,54,56,55,56,56,56,57,57,48,57,49,57,50,57,51,57,52,57,53,57,54,57,55,57,56,57,57]⟩:ByteArray).extract (k.val*2) (k.val*2+2)=nu k.val:=by decide+kernel
def amJ(i:Nat)(h:i<10)(w:É):Ò À 187 #[Â Ë i] w λe a=>e=È (Í<|nu i)/\a=w:=by
 go_enter ſ,φ;go_wp2;all_goals go_ret
 refine⟨Z1<|amH ⟨i,h⟩,U⟩
def amK(i:Nat)(h:i<100)(b:10<=i)(w:É):Ò À 187 #[Â Ë i] w λe a=>e=È (Í<|nu i)/\a=w:=by
 go_enter ſ,φ;go_wp2;all_goals go_ret
 refine⟨Z1 ((amI ⟨i,h⟩).resolve_left<|by show¬i<10;omega),U⟩
def amL(i:Nat)(h:i<100)(w:É):Ò À 187 #[Â Ë i] w λe a=>e=È (Í<|nu i)/\a=w:=by
 by_cases b:i<10
 .exact amJ i b w
 .exact amK i h Z w
def amM(i:Nat)(h:i<100)(w:É):Ò À 171 #[Â Ë i,Â Ë 10] w λe a=>e=È (Í<|nu i)/\a=w:=by go_enter Tryz.func171,Tryz.ntmps171;go_wp2_with (go_at_call 187;refine(amL i h _).mono ?_;rintro e a ⟨rfl,rfl⟩);go_ret;exact⟨U,U⟩
def N_(i:Nat)(h:i<100)(w:É):Ò À 117 #[Â Ë i] w λe a=>e=È (Í<|nu i)/\a=w:=by
 go_enter Tryz.func117,Tryz.ntmps117;go_wp2_with (first
  |(go_at_call 171;refine(amM i h _).mono ?_;rintro e a ⟨rfl,rfl⟩)
  |go_in)
 go_ret;exact⟨U,U⟩
def nL(i:Nat):ByteArray:=⟨#[33]⟩++nu i
def FD(i:Nat)(h:i<10)(w:É):Ò À 114 #[Â Ë i] w λe a=>e=È (Í<|nL i)/\a=w:=by
 have b:(nu i).size=1:=by unfold nu;rw[if_pos h];rfl
 go_enter Tryz.func114,Tryz.ntmps114;go_wp2_with (go_at_call 117;refine(N_ i Z _).mono ?_;rintro e a ⟨rfl,rfl⟩);go_ret;exact⟨U,U⟩
def tb(n c:Nat):Nat:=(n^^^c)*1099511628211%18446744073709551616
def MX(n c:Nat):tb n c<18446744073709551616:=aU _ Z
def N'(n c:Nat)(a:n<18446744073709551616)(f:c<256)(w:É):Ò À 178 #[Â Æ n,Â bb c] w λe b=>e=È (Â Æ<|tb n c)/\b=w:=by
 go_enter Tryz.func178,Tryz.ntmps178;go_wp2_with fail;go_ret;refine⟨?_,U⟩;have d:Æ.wrap (((n^^^c:Nat):Int)*1099511628211)=((tb n c:Nat):Int):=by rw[bk];unfold tb;omega
 rw[bits_xor_u64_nat n c a Z,d];rfl
def tn(m:Nat):Nat->Nat->Nat
 |n,0=>n
 |n,j+1=>tn m (tb n<|m/2^(8*j)%256) j
def O_(m:Nat):∀(j n:Nat),n<18446744073709551616->tn m n j<18446744073709551616
 |0,_,h=>h
 |j+1,_,_=>O_ m j _<|MX _ _
noncomputable def MY:Ŗ:=(Tryz.f177.body.bind km).getD Ļ
def FE(m n:Nat)(i:Int)(u:Nat->Ç):ê:=⟨#[Â Æ n,Â Æ m,u 2,u 3,u 4,Â Ë i,u 6,u 7,u 8,u 9,u 10,u 11,u 12,u 13,u 14,u 15,u 16],[]⟩
def FF(m n:Nat)(i:Int)(a:ê):Prop:=∃u,a=FE m n i u
section
variable{X:ê->É->Prop}
def amN(m n j:Nat)(f:j<8)(d:n<18446744073709551616)(g:m<18446744073709551616)(u:Nat->Ç)(b:∀a,FF m (tb n<|m/2^(8*j)%256) (((8*j:Nat):Int)-8) a->K a w): Î À MY (Exit.then K<|QQ X) (FE m n (8*j:Nat) u) w:=by
 unfold FE;conv=>arg 2;whnf
 have h:(0:Int)<=((8*j:Nat):Int):=Z
 have i:((8*j:Nat):Int)<64:=Z
 have T:=N' n (m/2^(8*j)%256) d Z w;generalize 8*j=j8 at*;have c:((m/2^j8%256:Nat):Int)=(m:Int)/2^j8%256:=fj
 rw[c]at T;have H:=fe<|Á T b;clear T b c;go_wp2_with (go_at_call 178;apply H.out.1.mono;rintro e k ⟨rfl,rfl⟩);exact H.out.2 _ (gi _)
def amO(m n:Nat)(u:Nat->Ç)(b:∀a,FF m n (-8) a->X a w): Î À MY (Exit.then K<|QQ X) (FE m n (-8) u) w:=by
 unfold FE;conv=>arg 2;whnf
 go_wp2_with fail
 exact b _ (gi _)
def TI(m:Nat)(b:É)(c:Nat)(a:ê)(w:É):Prop:=∃n j:Nat,FF m n (((8*j:Nat):Int)-8) a/\j<=8/\n<18446744073709551616/\w=b/\tn m n j=c
def TE(m:Nat)(b:É)(c:Nat)(a:ê)(w:É):Prop:=FF m c (-8) a/\w=b
def xE(a:ê)(_:É):Nat:=match a.tmps.getD 5 Ą with
 |Â _ i=>(i+8).toNat
 |_=>0
def Jh(b:FF m n h y):xE y w=(h+8).toNat:=by obtain⟨u,rfl⟩:=b;rfl
def amP(f:m<18446744073709551616)(a:ê)(w:É)(g:TI m u i a w): Î À MY (Exit.then (λb e=>TI m u i b e/\xE b e<xE a w)<|QQ<|TE m u i) a w:=by
 obtain⟨n,j,c,k,h,rfl,d⟩:=g;rw[Jh (w:=w) c];obtain⟨b,rfl⟩:=c;cases j with
 |zero=>
  subst d;exact amO m n b λa q=>⟨q,U⟩
 |succ j=>
  have e:(((8*(j+1):Nat):Int)-8)=((8*j:Nat):Int):=Z
  rw[e];refine amN m n j Z h f b λa q=>⟨⟨_,j,q,Z,MX _ _,U,d⟩,?_⟩;rw[Jh q];omega
end
def oc(n m:Nat):Nat:=tn m n 8
def FG(n m:Nat)(a:n<18446744073709551616):oc n m<18446744073709551616:=O_ m 8 n a
def Ji(n m:Nat)(b:n<18446744073709551616)(c:m<18446744073709551616)(w:É):Ò À 177 #[Â Æ n,Â Æ m] w λe d=>e=È (Â Æ<|oc n m)/\d=w:=by
 have L:∀a,FF m n 56 a->Î À (á MY) (QQ<|TE m w<|oc n m) a w:=λa f=>
  Č (TI m w<|oc n m) xE ⟨n,8,f,ß _,b,U,U⟩<|amP c
 generalize oc n m=r at*;go_enter Tryz.func177,Tryz.ntmps177;go_wp2_with fail;refine Þ ?_ ((fe L).out _ (gi _));rintro(_|(_|_)|_|_|_|_) a v hq;all_goals first|exact absurd hq id|skip
 obtain⟨g,rfl⟩:=hq;obtain⟨u,rfl⟩:=g;unfold FE;go_wp2_with fail;go_ret;exact⟨U,U⟩
def Jj(p q:Nat):Nat:=oc (oc 14695981039346656037 p) q
def amQ(p q:Nat):Jj p q<18446744073709551616:=FG _ _<|FG _ _ Z
noncomputable def Jk:Ŗ:=(Tryz.f162.body.bind km).getD Ļ
noncomputable def Jl:Ŗ:=(km Jk).getD Ļ
def Q2(X:ê->É->Prop):aZ->ê->É->Prop
 |.exit 2,a,w=>X a w
 |_,_,_=>False
def vw(b c d:Nat)(a:Nat)(i:Int)(u:Nat->Ç):ê:=⟨#[Ê (Ã ⟨b,0,Ä⟩) c d,u 1,u 2,Â Ë a,u 4,u 5,u 6,u 7,u 8,u 9,u 10,Â Ë a,Â Ë i,u 13,u 14,u 15,u 16,u 17,u 18,u 19,u 20,u 21,u 22,u 23,u 24,u 25,u 26,u 27,u 28,u 29,u 30,u 31,u 32,u 33,u 34,u 35,u 36,u 37],[]⟩
def De(b c d:Nat)(e:Nat)(i:Int)(a:ê):Prop:=∃u,a=vw b c d e i u
section
variable{X:ê->É->Prop}{cp:Nat}
def amR(u:Nat->Ç)(c:∀a,De b n cp i i a->X a w): Î À Jl (Exit.then K<|Q2 X) (vw b n cp i i u) w:=by
 unfold vw;conv=>arg 2;whnf
 go_wp2_with fail
 exact c _ (gi _)
def amS(c p q z:Nat)(k:Jj p q=z)(t:c<i)(x:2*i<=n)(y:n<=16)(l:p<18446744073709551616)(m:q<18446744073709551616)(u:Nat->Ç) (o:w.cell? ⟨b,2*c,Ä⟩=Ã (Â Æ p)) (r:w.cell? ⟨b,2*c+1,Ä⟩=Ã (Â Æ q)) (h:∃v,w.cell? ⟨b,c,Ä⟩=Ã v) (B:w.frozen? ⟨b,c,Ä⟩=Ï) (f:∀a,De b n cp i ((c+1:Nat):Int) a->K a (w.setCell ⟨b,c,Ä⟩<|Â Æ z).drew): Î À Jl (Exit.then K<|Q2 X) (vw b n cp i c u) w:=by
 unfold vw;conv=>arg 2;whnf
 subst k;unfold Jj at f;let⟨C,h⟩:=h;have D:(0:Int)<=(c:Int):=Z
 have E:(c:Int)<(i:Int):=Z
 have F:(2:Int)*(c:Int)+1<(n:Int):=Z
 have G:((2:Int)*(c:Int)).toNat=2*c:=Z
 have H:((2:Int)*(c:Int)+1).toNat=2*c+1:=Z
 have I:Ë.wrap (2*(c:Int))=2*(c:Int):=I3 Z Z;have j:Ë.wrap (2*(c:Int)+1)=2*(c:Int)+1:=I3 Z Z;have J:(0:Int)<=2*(c:Int):=Z
 have L:2*(c:Int)<(n:Int):=Z
 have M:(0:Int)<=2*(c:Int)+1:=Z
 have N:(c:Int)<(n:Int):=Z
 have s:=fe f;clear f;go_wp2_with fail;have d:=fe<|Á o r;refine mg (λe=>e.cell? ⟨b,2*c,Ä⟩=Ã (Â Æ p)/\e.cell? ⟨b,2*c+1,Ä⟩=Ã (Â Æ q)) [16] ft ?_;refine tk 0 d.out ?_;refine tk 1 d.out ?_;refine tk 2 d.out ?_;refine tk 3 d.out ?_;refine tk 4 d.out ?_;refine tk 5 d.out ?_;refine tk 6 d.out ?_;refine tk 8 d.out ?_;refine tk 9 d.out ?_;refine tk 10 d.out ?_;refine tk 11 d.out ?_;refine tk 12 d.out ?_;refine tk 13 d.out ?_;refine gD 7 ?_;intro K f;go_simp;go_at_call 177;refine(Ji 14695981039346656037 p Z l _).mono ?_;rintro e g ⟨rfl,j⟩;subst g;refine f.out _ _ (λ_=>d.out) ?_;refine gD 14 ?_;intro K f;go_simp;go_at_call 177;refine(Ji (oc 14695981039346656037 p) q (FG _ _ Z) m _).mono ?_;rintro e g ⟨rfl,j⟩;subst g;refine f.out _ _ (λ_=>d.out) ?_;refine gD 15 ?_;intro K f;go_simp;refine f.out _ _ (λ_=>d.out) ?_;refine gD 16 ?_;intro K f;go_simp;refine f.out _ _ (λq=>absurd fj q) ?_;refine lS ft ?_ _;go_wp2_with fail;exact s.out _ (gi _)
end
def pr(l:List Nat)(t:Nat):Nat:=Jj (l.getD (2*t) 0)<|l.getD (2*t+1) 0
def P_(l:List Nat)(t:Nat):Jj (l.getD (2*t) 0) (l.getD (2*t+1) 0)=pr l t:=by unfold pr;exact Eq.refl _
def jM(l:List Nat)(i:Nat):List Nat:=(Ď l.length).map λt=>if t<i then pr l t else l.getD t 0
def uI(l:List Nat):List Nat:=(Ď<|l.length/2).map<|pr l
def ku(l:List Nat):List Ç:=l.map λ(x:Nat)=>Â Æ x
def rS(l:List Nat):Prop:=∀t,l.getD t 0<18446744073709551616
def Df(l:List Nat)(i:Nat):(jM l i).length=l.length:=by simp[jM]
def Jm(l:List Nat)(i t:Nat)(h:t<l.length):(jM l i)[t]?=Ã (if t<i then pr l t else l.getD t 0):=by simp[jM,ü h]
def amT(l:List Nat):jM l 0=l:=by
 refine Ā λt=> ?_;by_cases h:t<l.length
 .rw[Jm l 0 t h,if_neg Z,ÿ,Ô h];rfl
 .rw[Õ (by rw[Df];omega),Õ Z]
theorem amU(l:List Nat)(i:Nat)(h:i<l.length):(jM l i).set i (pr l i)=jM l (i+1):=by
 refine Ā λt=> ?_;by_cases a:t<l.length
 .rw[Jm l (i+1) t a,Ľ];by_cases e:i=t
  .subst e;rw[if_pos U,if_pos (by rwa[Df]),if_pos Z]
  .rw[if_neg e,Jm l i t a];grind
 .rw[Õ (by rw[Ě,Df];omega),Õ (by rw[Df];omega)]
theorem amV(l:List Nat):jM l (l.length/2)=uI l++l.drop (l.length/2):=by
 refine Ā λt=> ?_;have a:(uI l).length=l.length/2:=by simp[uI]
 by_cases b:t<l.length
 .rw[Jm _ _ t b];by_cases q:t<l.length/2
  .rw[if_pos q,è Z];simp[uI,ü q]
  .grind
 .rw[Õ (by rw[Df];omega),Õ (by rw[Ó,a,List.length_drop];omega)]
def amW(l:List Nat)(t:Nat):pr l t<18446744073709551616:=by rw[<-P_];exact amQ _ _
def MZ{N:Nat}(a:0<N)(h:∀x∈jJ,x<N)(t:Nat):jJ.getD t 0<N:=by
 rw[ÿ];cases e:jJ[t]? with
 |none=>exact a
 |some x=>exact h x<|Đ e
def P'(l:List Nat):rS (uI l):=MZ Z λx a=>by unfold uI at a;obtain⟨t,_,rfl⟩:=İ.1 a;exact amW l t
def rT:Nat->List Nat->Nat
 |0,l=>l.getD 0 0
 |k+1,l=>rT k<|uI l
def Tg(l:List Nat)(i x:Nat):ku (l.set i x)=(ku l).set i (Â Æ x):=by simp[ku,List.map_set]
def Jn(l:List Nat)(i x:Nat)(h:l[i]?=Ã x):(ku l)[i]?=Ã (Â Æ x):=by simp[ku,h]
section
variable{cp:Nat}{l:List Nat}{junk:List Ç}
def II(b n cp i:Nat)(T:õ)(l:List Nat)(junk:List Ç)(d:É)(a:ê)(w:É):Prop:=
 ∃c:Nat,De b n cp i c a/\c<=i/\e9 (λk=>k=b) d w/\fg b (ku (jM l c)++junk) T w
def IE(b n cp i:Nat)(T:õ)(l:List Nat)(junk:List Ç)(c:É)(a:ê)(w:É):Prop:=
 De b n cp i i a/\e9 (λk=>k=b) c w/\fg b (ku (jM l i)++junk) T w
def M0(i:Nat)(a:ê)(_:É):Nat:=match a.tmps.getD 12 Ą with
 |Â _ b=>i-b.toNat
 |_=>0
def Q_(c:De b n cp i j y):M0 i y w=i-j:=by obtain⟨u,rfl⟩:=c;show i-(j:Int).toNat=_;simp
def amX(g:rS l)(r:l.length=n)(s:2*i=n)(m:n<=16)(a:ê)(w:É)(o:II b n cp i T l junk u a w): Î À Jl (Exit.then (λc d=>II b n cp i T l junk u c d/\M0 i c d<M0 i a w)<|Q2<|IE b n cp i T l junk u) a w:=by
 let⟨c,h,v,j,e⟩:=o;rw[Q_ h];obtain⟨d,rfl⟩:=h;by_cases p:c=i
 .subst p;exact amR d λa q=>⟨q,j,e⟩
 .have f:=λt x y=>
   e.r t _<|by rw[è (by simp[ku,Df];omega)];exact Jn _ _ _<|by rw[Jm l c t Z,if_neg Z]
  refine amS c (l.getD (2*c) 0) (l.getD (2*c+1) 0) (pr l c) (P_ l c) Z Z m (g _) (g _) d (f _ Z Z) (f _ Z Z) ⟨_,f c Z Z⟩ (e.C c) λa q=>⟨⟨c+1,q,Z,(j.ff<|e9.I (X:=λk=>k=b) U _).ff<|e9.fR _ _,?_⟩,by rw[Q_ q];omega⟩;rw[<-amU l c Z,Tg,<-ĥ _ _ (by simp[ku,Df];omega)];exact((e.fW c<|Â Æ<|pr l c).I (e9.fR (λ_=>False) _) id)
def amY(c:rS l)(d:l.length=n)(e:2*i=n)(f:n<=16)(g:fg b (ku l++junk) T w)(h:De b n cp i (0:Nat) y): Î À (á Jl) (Q2<|IE b n cp i T l junk w) y w:= Č (II b n cp i T l junk w) (M0 i) ⟨0,h,ã _,e9.fT _ _,by rwa[amT]⟩<|amX c d e f
end
def FH(b a c:Nat)(u:Nat->Ç):ê:=⟨#[Ê (Ã ⟨b,0,Ä⟩) a c,u 1,u 2,u 3,u 4,u 5,u 6,u 7,u 8,u 9,u 10,u 11,u 12,u 13,u 14,u 15,u 16,u 17,u 18,u 19,u 20,u 21,u 22,u 23,u 24,u 25,u 26,u 27,u 28,u 29,u 30,u 31,u 32,u 33,u 34,u 35,u 36,u 37],[]⟩
def FI(b c d:Nat)(a:ê):Prop:=∃u,a=FH b c d u
section
variable{cp:Nat}{l:List Nat}{junk:List Ç}
def amZ(c:n=1)(u:Nat->Ç)(d:∀a,FI b n cp a->H a w): Î À Jk (Exit.then K<|QQ H) (FH b n cp u) w:=by
 unfold FH;conv=>arg 2;whnf
 subst c;go_wp2_with fail;exact d _ (gi _)
def am0(u:Nat->Ç)(g:rS l)(h:l.length=n)(j:2*i=n)(s:0<i)(m:n<=16)(t:n<=cp)(d:fg b (ku l++junk) T w) (o:∀a e,FI b i cp a->e9 (λk=>k=b) w e->fg b (ku (jM l i)++junk) T e->K a e): Î À Jk (Exit.then K<|QQ H) (FH b n cp u) w:=by
 have L:∀a,De b n cp i (0:Nat) a->Î À (á Jl) (Q2<|IE b n cp i T l junk w) a w:=λa p=>amY g h j m d p;unfold FH;conv=>arg 2;whnf
 have x:(n:Int).tdiv 2=(i:Int):=by rw[Int.tdiv_eq_ediv_of_nonneg Z];omega
 have y:(0:Int)<=(i:Int):=Z
 have z:(i:Int)<=(cp:Int):=Z
 have c:=fe<|Á L o;go_wp2_with fail;refine Þ ?_ (c.out.1 _ (gi _));rintro(_|(_|_|_|_)|_|_|_|_) a v hq;all_goals first|exact absurd hq id|skip
 let⟨q,r,d⟩:=hq;obtain⟨u,rfl⟩:=q;unfold vw;have f:=fe<|Á r d;go_wp2_with fail;exact c.out.2 _ _ (gi _) f.out.1 f.out.2
def OI(b cp:Nat)(T:õ)(c:É)(d:Nat)(a:ê)(w:É):Prop:=
 ∃(k:Nat) (l:List Nat) (junk:List Ç),FI b l.length cp a/\l.length=2^k/\l.length<=16/\l.length<=cp/\rS l/\e9 (λk=>k=b) c w/\fg b (ku l++junk) T w/\rT k l=d
def OE(b cp:Nat)(c:É)(d:Nat)(a:ê)(w:É):Prop:=FI b 1 cp a/\1<=cp/\e9 (λk=>k=b) c w/\w.cell? ⟨b,0,Ä⟩=Ã (Â Æ d)
def xF(a:ê)(_:É):Nat:=match a.tmps.getD 0 Ą with
 |Ê _ n _=>n
 |_=>0
def Jo(c:FI b n cp y):xF y w=n:=by obtain⟨u,rfl⟩:=c;rfl
def am1(a:ê)(w:É)(r:OI b cp T u i a w): Î À Jk (Exit.then (λc d=>OI b cp T u i c d/\xF c d<xF a w)<|QQ<|OE b cp u i) a w:=by
 let⟨k,l,junk,g,h,s,t,v,j,m,n⟩:=r;rw[Jo g];obtain⟨c,rfl⟩:=g;cases k with
 |zero=>
  have e:=h;have f:w.cell? ⟨b,0,Ä⟩=Ã (Â Æ<|l.getD 0 0):=m.r 0 _ (by rw[è (by simp[ku];omega)];exact Jn _ _ _<|by rw[ÿ,Ô Z];rfl);have o:l.getD 0 0=i:=n;rw[o]at f;refine amZ e c λa q=>⟨by rwa[e]at q,Z,j,f⟩
 |succ k=>
  have x:2*2^k=l.length:=by rw[h,Nat.pow_succ];omega
  have y:0<2^k:=Nat.pow_pos Z;have f:l.length/2=2^k:=Z
  have o:(uI l).length=2^k:=by simp[uI,f]
  refine am0 c v U x y s t m λa d q z p=>⟨⟨k,uI l,ku (l.drop<|l.length/2)++junk,by rwa[o],o,Z,Z,P' l,j.ff z,?_,n⟩,by rw[Jo q];omega⟩;have e:=amV l;rw[f]at e;rw[e]at p;rw[f,<-č];simpa[ku]using p
end
def Q'{cp:Nat}{l:List Nat}{junk:List Ç}(c:l.length=2^k)(d:l.length<=16)(f:l.length<=cp)(g:rS l)(h:fg b (ku l++junk) T w): Ò À 162 #[Ê (Ã ⟨b,0,Ä⟩) l.length cp] w λe a=>e=È (Â Æ<|rT k l)/\e9 (λi=>i=b) w a:=by
 have L:∀a,FI b l.length cp a->Î À (á Jk) (QQ<|OE b cp w<|rT k l) a w:=λa e=>
  Č (OI b cp T w<|rT k l) xF ⟨k,l,junk,e,c,d,f,g,e9.fT _ _,h,U⟩ am1
 generalize rT k l=r at*;generalize l.length=n at*;go_enter Tryz.func162,Tryz.ntmps162;go_wp2_with fail;refine Þ ?_ ((fe L).out _ (gi _));rintro(_|(_|_)|_|_|_|_) a v hq;all_goals first|exact absurd hq id|skip
 let⟨i,j,m,o⟩:=hq;obtain⟨u,rfl⟩:=i;unfold FH;go_wp2_with fail;go_ret;simp_all
def am2:À.underlying 118=Ã (.array 16 36):=ft
def am3(w:É)(c:i<16)(e:d[i]?=Ã (Â Æ h)):(Ο 118 (Ė d)<|Â Ë (i:Int)).run À w=ag (Â Æ h) w:=by
 have a:(0:Int)<=(i:Int):=Z
 have b:(i:Int)<16:=Z
 simp[Ο,Š am2,asIntOf,go_sem,a,b];go_simp
noncomputable def Jp:Ŗ:=(bl.body.bind km).getD Ļ
def FJ(c o b:Nat)(a:Array Ç)(i:Int)(u:Nat->Ç):ê:=⟨#[Å<|Ã ⟨c,o,Ä⟩,u 1,u 2,Å<|Ã ⟨b,0,Ä⟩,u 4,u 5,u 6,u 7,u 8,u 9,u 10,Ė a,Â Ë i,u 13,u 14,u 15,u 16,u 17,u 18,u 19,u 20,u 21,u 22,u 23,u 24,u 25,u 26,u 27,u 28,u 29,u 30,u 31,u 32,u 33,u 34,u 35,u 36,u 37,u 38,u 39,u 40,u 41,u 42,u 43,u 44,u 45,u 46,u 47],[]⟩
def Dg(d o b:Nat)(c:Array Ç)(i:Int)(a:ê):Prop:=∃u,a=FJ d o b c i u
section
variable{X:ê->É->Prop}
def am4(u:Nat->Ç)(c:∀a,Dg n i b d 16 a->X a w): Î À Jp (Exit.then K<|QQ X) (FJ n i b d 16 u) w:=by
 unfold FJ;conv=>arg 2;whnf
 go_wp2_with fail
 exact c _ (gi _)
def am5(c p z:Nat)(j:oc 14695981039346656037 p=z)(k:c<16)(l:p<18446744073709551616)(f:d[c]?=Ã (Â Æ p))(g:∃v,w.cell? ⟨b,c,Ä⟩=Ã v)(o:w.frozen? ⟨b,c,Ä⟩=Ï)(u:Nat->Ç) (h:∀a,Dg n i b d ((c+1:Nat):Int) a->K a (w.setCell ⟨b,c,Ä⟩<|Â Æ z)): Î À Jp (Exit.then K<|QQ X) (FJ n i b d c u) w:=by
 unfold FJ;conv=>arg 2;whnf
 let⟨q,g⟩:=g;have r:=λW=>am3 W k f;have m:=fe h;clear h f;go_wp2_with (go_at_call 177;refine(Ji 14695981039346656037 p Z l _).mono ?_;rintro e s ⟨rfl,rfl⟩;rw[j]);exact m.out _ (gi _)
def lf(x:Nat):Nat:=oc 14695981039346656037 x
def M1(x:Nat):lf x<18446744073709551616:=FG _ _ Z
def R_(x:Nat):oc 14695981039346656037 x=lf x:=by unfold lf;exact Eq.refl _
def oe(l:List Nat)(i:Nat):List Nat:=(Ď 16).map λt=>if t<i then lf (l.getD t 0)else 0
def Dh(l:List Nat)(i:Nat):(oe l i).length=16:=by simp[oe]
def Ti(l:List Nat)(i t:Nat)(h:t<16):(oe l i)[t]?=Ã (if t<i then lf (l.getD t 0)else 0):=by simp[oe,ü h]
theorem am6(l:List Nat)(i:Nat)(h:i<16):(oe l i).set i (lf<|l.getD i 0)=oe l (i+1):=by
 refine Ā λt=> ?_;by_cases a:t<16
 .rw[Ti l (i+1) t a,Ľ];by_cases e:i=t
  .subst e;rw[if_pos U,if_pos (by rwa[Dh]),if_pos Z]
  .rw[if_neg e,Ti l i t a];grind
 .rw[Õ (by rw[Ě,Dh];omega),Õ (by rw[Dh];omega)]
def R'(l:List Nat):rS (oe l 16):=MZ Z λx a=>by
 unfold oe at a;obtain⟨t,_,rfl⟩:=İ.1 a;split
 .exact M1 _
 .omega
def AI(n i b:Nat)(l:List Nat)(d:É)(a:ê)(w:É):Prop:=
 ∃c:Nat,Dg n i b (ku l).toArray c a/\c<=16/\e9 (λk=>k=b) d w/\fg b (ku<|oe l c) 118 w
def AE(n i b:Nat)(l:List Nat)(c:É)(a:ê)(w:É):Prop:=
 Dg n i b (ku l).toArray 16 a/\e9 (λk=>k=b) c w/\fg b (ku<|oe l 16) 118 w
def M3(a:ê)(_:É):Nat:=match a.tmps.getD 12 Ą with
 |Â _ i=>16-i.toNat
 |_=>0
def S_(c:Dg n i b d j y):M3 y w=16-j:=by obtain⟨u,rfl⟩:=c;show 16-(j:Int).toNat=_;simp
def am7(h:rS jJ)(p:jJ.length=16)(a:ê)(w:É)(j:AI n i b jJ u a w): Î À Jp (Exit.then (λc d=>AI n i b jJ u c d/\M3 c d<M3 a w)<|QQ<|AE n i b jJ u) a w:=by
 let⟨c,f,r,g,e⟩:=j;rw[S_ f];obtain⟨d,rfl⟩:=f;by_cases m:c=16
 .subst m;exact am4 d λa q=>⟨q,g,e⟩
 .have o:(ku jJ).toArray[c]?=Ã (Â Æ<|jJ.getD c 0):=by
   rw[ŕ];exact Jn _ _ _<|by rw[ÿ,Ô Z];rfl
  refine am5 c (jJ.getD c 0) (lf<|jJ.getD c 0) (R_ _) Z (h _) o ⟨_,(e.r c _<|Jn _ _ _<|by rw[Ti jJ c c Z,if_neg Z])⟩ (e.C c) d λa q=>⟨⟨c+1,q,Z,g.ff (e9.I (X:=λk=>k=b) U _),?_⟩,by rw[S_ q];omega⟩;rw[<-am6 jJ c Z,Tg];exact e.fW c<|Â Æ<|lf<|jJ.getD c 0
def am8{l:List Nat}(c:rS l)(d:l.length=16)(e:fg b (ku<|oe l 0) 118 w)(f:Dg n i b (ku l).toArray (0:Nat) y): Î À (á Jp) (QQ<|AE n i b l w) y w:= Č (AI n i b l w) M3 ⟨0,f,ã _,e9.fT _ _,e⟩<|am7 c d
end
def Di:Ŗ->List Ŗ
 |á c=>[c]
 |.seq a b=>Di a++Di b
 |.block _ c=>Di c
 |.scope c=>Di c
 |.cond _ a b=>Di a++Di b
 |_=>[]
noncomputable def Jq:Ŗ:=((bl.body.map Di).getD []).getD 1 Ļ
def FK(a o:Nat)(P:ByteArray)(n:Nat)(i:Int)(u:Nat->Ç):ê:=⟨#[Å<|Ã ⟨a,o,Ä⟩,u 1,u 2,u 3,u 4,u 5,Â Æ n,u 7,u 8,u 9,u 10,u 11,u 12,u 13,u 14,u 15,u 16,u 17,u 18,u 19,u 20,u 21,u 22,u 23,u 24,u 25,u 26,u 27,u 28,u 29,u 30,u 31,u 32,u 33,Â Ë P.size,Â Ë i,u 36,u 37,u 38,u 39,u 40,u 41,u 42,u 43,u 44,u 45,u 46,u 47],[]⟩
def Dj(b o:Nat)(P:ByteArray)(n:Nat)(i:Int)(a:ê):Prop:=∃u,a=FK b o P n i u
def zv(n:Nat)(l:List UInt8):Nat:=l.foldl (λn c=>tb n c.toNat) n
def am9(b:Nat)(c:Int)(d:c=B.size)(u:Nat->Ç)(e:∀a,Dj n i B b c a->H a w): Î À Jq (Exit.then K<|Q2 H) (FK n i B b c u) w:=by
 unfold FK;conv=>arg 2;whnf
 subst d;go_wp2_with fail;exact e _ (gi _)
def ana{B:ByteArray}{c:UInt8}(w:É)(a:B.data.toList[i]?=Ã c):(Ο 9 (Í B)<|Â Ë (i:Int)).run À w=ag (Â bb (c.toNat:Nat)) w:=by
 have e:(0:Int)<=(i:Int):=Z
 let⟨b,d⟩:=Û.1 a;have f:i<B.size:=by simpa using b
 have g:B[i]=c:=by rw[<-d];exact(Array.getElem_toList _).symm
 go_simp
def anb(b d z:Nat)(c:UInt8)(g:tb b c.toNat=z)(l:d<B.size)(m:B.size<=1000000)(k:b<18446744073709551616)(h:B.data.toList[d]?=Ã c)(o:w.cell? ⟨n,i+1,Ä⟩=Ã (Í B))(u:Nat->Ç) (j:∀a,Dj n i B z ((d+1:Nat):Int) a->K a w): Î À Jq (Exit.then K<|Q2 H) (FK n i B b d u) w:=by
 unfold FK;conv=>arg 2;whnf
 have p:(0:Int)<=(d:Int):=Z
 have q:(d:Int)<(B.size:Int):=Z
 have r:(B.size:Int)<=1000000:=Z
 have s:=λW=>ana W h;have t:=c.toNat_lt;have T:=N' b c.toNat k Z w;rw[g]at T;generalize c.toNat=cn at*;have f:=fe<|Á T j;clear j T h g;go_wp2_with (go_at_call 178;apply f.out.1.mono;rintro e v ⟨rfl,rfl⟩);exact f.out.2 _ (gi _)
def BI(n i:Nat)(B:ByteArray)(d:É)(e:Nat)(a:ê)(w:É):Prop:=
 ∃b c:Nat,Dj n i B b c a/\c<=B.size/\b<18446744073709551616/\w=d/\zv b (B.data.toList.drop c)=e
def BE(n i:Nat)(B:ByteArray)(b:É)(c:Nat)(a:ê)(w:É):Prop:=Dj n i B c B.size a/\w=b
def M4(m:Nat)(a:ê)(_:É):Nat:=match a.tmps.getD 35 Ą with
 |Â _ i=>m-i.toNat
 |_=>0
def S'(c:Dj n i B j b y):M4 m y w=m-b:=by obtain⟨u,rfl⟩:=c;show m-(b:Int).toNat=_;simp
def anc(h:B.size<=1000000)(k:u.cell? ⟨n,i+1,Ä⟩=Ã (Í B))(a:ê)(w:É)(l:BI n i B u j a w): Î À Jq (Exit.then (λb c=>BI n i B u j b c/\M4 B.size b c<M4 B.size a w)<|Q2<|BE n i B u j) a w:=by
 obtain⟨b,c,f,p,m,rfl,e⟩:=l;rw[S' f];obtain⟨d,rfl⟩:=f;have r:B.data.toList.length=B.size:=fj
 by_cases o:c=B.size
 .rw[ğ Z]at e;subst e;exact am9 b c Z d λa q=>⟨by rwa[o]at q,U⟩
 .have g:c<B.data.toList.length:=Z
  rw[ė g]at e;refine anb b c (tb b (B.data.toList[c]).toNat) (B.data.toList[c]) (Eq.refl _) Z h m (Ô g) k d λa q=>⟨⟨_,c+1,q,Z,MX _ _,U,e⟩,by rw[S' q];omega⟩
def ane(b:B.size<=1000000)(c:j<18446744073709551616)(d:w.cell? ⟨n,i+1,Ä⟩=Ã (Í B))(e:Dj n i B j (0:Nat) y): Î À (á Jq) (Q2<|BE n i B w<|zv j B.data.toList) y w:= Č (BI n i B w<|zv j B.data.toList) (M4 B.size) ⟨j,0,e,ã _,c,U,U⟩<|anc b d
abbrev zA:List Ç:=[Â Æ 0,Â Æ 0,Â Æ 0,Â Æ 0,Â Æ 0,Â Æ 0,Â Æ 0,Â Æ 0,Â Æ 0,Â Æ 0,Â Æ 0,Â Æ 0,Â Æ 0,Â Æ 0,Â Æ 0,Â Æ 0]
def Dk(B:Nat)(P:ByteArray)(a:List Nat):Nat:=zv (oc (lf B)<|rT 4<|oe a 16) P.data.toList
def Tk:∀(k:Nat) (l:List Nat),rS l->rT k l<18446744073709551616
 |0,_,h=>h 0
 |k+1,l,_=>Tk k (uI l)<|P' l
def anf(l:List Nat):ku (oe l 0)=zA:=by rfl
def ang{P:ByteArray}(d f g p r s x y z C D E F G I J:Nat)(Y:(ku jJ).toArray=#[Â Æ d,Â Æ f,Â Æ g,Â Æ p,Â Æ r,Â Æ s,Â Æ x,Â Æ y,Â Æ z,Â Æ C,Â Æ D,Â Æ E,Â Æ F,Â Æ G,Â Æ I,Â Æ J])(hl:jJ.length=16)(hB:m<18446744073709551616)(hP:P.size<=1000000)(hs:rS jJ) (K:w.cell? ⟨n,j,Ä⟩=Ã (Â Æ m)) (c1:w.cell? ⟨n,j+1,Ä⟩=Ã (Í P)) (r0:w.cell? ⟨n,j+2,Ä⟩=Ã (Â Æ d)) (r1:w.cell? ⟨n,j+2+1,Ä⟩=Ã (Â Æ f)) (r2:w.cell? ⟨n,j+2+2,Ä⟩=Ã (Â Æ g)) (r3:w.cell? ⟨n,j+2+3,Ä⟩=Ã (Â Æ p)) (r4:w.cell? ⟨n,j+2+4,Ä⟩=Ã (Â Æ r)) (r5:w.cell? ⟨n,j+2+5,Ä⟩=Ã (Â Æ s)) (r6:w.cell? ⟨n,j+2+6,Ä⟩=Ã (Â Æ x)) (r7:w.cell? ⟨n,j+2+7,Ä⟩=Ã (Â Æ y)) (r8:w.cell? ⟨n,j+2+8,Ä⟩=Ã (Â Æ z)) (r9:w.cell? ⟨n,j+2+9,Ä⟩=Ã (Â Æ C)) (r10:w.cell? ⟨n,j+2+10,Ä⟩=Ã (Â Æ D)) (r11:w.cell? ⟨n,j+2+11,Ä⟩=Ã (Â Æ E)) (r12:w.cell? ⟨n,j+2+12,Ä⟩=Ã (Â Æ F)) (r13:w.cell? ⟨n,j+2+13,Ä⟩=Ã (Â Æ G)) (r14:w.cell? ⟨n,j+2+14,Ä⟩=Ã (Â Æ I)) (r15:w.cell? ⟨n,j+2+15,Ä⟩=Ã (Â Æ J)): Ò À 161 #[Å<|Ã ⟨n,j,Ä⟩] w λe c=>e=È (Â Æ<|Dk m P jJ)/\e9 (λ_=>False) w c:=by
 have gJ:=â w _ K;have L1:∀a,Dg n j w.heap.size #[Â Æ d,Â Æ f,Â Æ g,Â Æ p,Â Æ r,Â Æ s,Â Æ x,Â Æ y,Â Æ z,Â Æ C,Â Æ D,Â Æ E,Â Æ F,Â Æ G,Â Æ I,Â Æ J] (0:Nat) a->Î À (á Jp) (QQ<|AE n j w.heap.size jJ<|w.alloc<|Ð zA.toArray 118) a (w.alloc<|Ð zA.toArray 118):=λa L=>
  am8 hs hl (by rw[anf];exact fg.N w zA 118)<|by rwa[Y]
 have M:∀W,fg w.heap.size (ku<|oe jJ 16) 118 W->Ò À 162 #[Ê (Ã ⟨w.heap.size,0,Ä⟩) 16 16] W λe c=>e=È (Â Æ<|rT 4<|oe jJ 16)/\e9 (λi=>i=w.heap.size) W c:=λW hW=>by have t:=Q' (w:=W) (b:=w.heap.size) (cp:=16) (k:=4) (T:=118) (l:=oe jJ 16) (junk:=[]) (by rw[Dh]) (by rw[Dh];omega) (by rw[Dh];omega) (R' jJ) (by rwa[ô]);rwa[Dh]at t
 have N:=Tk 4 (oe jJ 16)<|R' jJ;obtain⟨t,O⟩:∃t,rT 4 (oe jJ 16)=t:=⟨_,U⟩;have T_:Dk m P jJ=zv (oc (lf m) t) P.data.toList:=by unfold Dk;rw[O]
 rw[T_];rw[O]at M N;have L2:∀W a,W.cell? ⟨n,j+1,Ä⟩=Ã (Í P)->Dj n j P (oc (lf m) t) (0:Nat) a->Î À (á Jq) (Q2<|BE n j P W<|zv (oc (lf m) t) P.data.toList) a W:=λW a h L=>
  ane hP (FG _ _<|M1 m) h L
 have C1:∀W,Ò À 177 #[Â Æ 14695981039346656037,Â Æ m] W λe c=>e=È (Â Æ<|lf m)/\c=W:=λW=>by rw[<-R_];exact Ji 14695981039346656037 m Z hB W
 have C2:∀W,Ò À 177 #[Â Æ<|lf m,Â Æ t] W λe c=>e=È (Â Æ<|oc (lf m) t)/\c=W:=λW=>Ji (lf m) t (M1 m) N W;have H:=fe<|Á K<|Á c1<|Á L1<|Á M<|Á L2<|Á C1 C2;clear L1 M L2 C1 C2 T_ O N hs K c1 Y;generalize zv (oc (lf m) t) P.data.toList=res at*;generalize oc (lf m) t=n2 at*;generalize lf m=n1 at*;go_enter Tryz.func161,Tryz.ntmps161;go_wp2_with fail;refine Þ (Q:=QQ<|AE n j w.heap.size jJ<|w.alloc<|Ð zA.toArray 118) ?_ (H.out.2.2.1 _ (gi _));rintro(_|(_|_)|_|_|_|_) a v hq;all_goals first|exact absurd hq id|skip
 let⟨S,hk,U_⟩:=hq;have V:e9 (λ_=>False) w v:=(e9.gG (λ_=>False) w zA.toArray 118).C hk λi hi q=>by omega
 have g0:=V.r H.out.1 id;obtain⟨u,rfl⟩:=S;unfold FJ;have HV:=fe<|Á V U_;clear V U_ hk r0 r1 r2 r3 r4 r5 r6 r7 r8 r9 r10 r11 r12 r13 r14 r15;go_wp2_with (first
  |(go_at_call 162;refine(H.out.2.2.2.1 _ HV.out.2).mono ?_;rintro e w2 ⟨rfl,yL⟩;have X:=HV.out.1.C yL (λi hi q=>by omega);have g1:=X.r H.out.2.1 id;have HK:=fe X;clear yL X)
  |(go_at_call 177;with_reducible refine(H.out.2.2.2.2.2.2 _).mono ?_;rintro e X ⟨rfl,rfl⟩)
  |(go_at_call 177;refine(H.out.2.2.2.2.2.1 _).mono ?_;rintro e X ⟨rfl,rfl⟩))
 refine Þ (Q:=Q2<|BE n j P _ res) ?_ (H.out.2.2.2.2.1 _ _ g1 (gi _));rintro(_|(_|_|_|_)|_|_|_|_) a v2 hq;all_goals first|exact absurd hq id|skip
 obtain⟨S,rfl⟩:=hq;obtain⟨u,rfl⟩:=S;unfold FK;go_wp2_with fail;go_ret;exact⟨U,HK.out⟩
def anh{P:ByteArray}(c:j<18446744073709551616)(d:P.size<=1000000)(f:jJ.length=16)(g:rS jJ) (h:w.cell? ⟨i,n,Ä⟩=Ã (Â Æ j)) (k:w.cell? ⟨i,n+1,Ä⟩=Ã (Í P)) (b:∀(a x:Nat),jJ[a]?=Ã x->w.cell? ⟨i,n+2+a,Ä⟩=Ã (Â Æ x)): Ò À 161 #[Å<|Ã ⟨i,n,Ä⟩] w λe l=>e=È (Â Æ<|Dk j P jJ)/\e9 (λ_=>False) w l:=by
 match jJ,f with
 |[a0,a1,a2,a3,a4,a5,a6,a7,a8,a9,U',V_,a12,W_,X_,X'],_=>exact ang a0 a1 a2 a3 a4 a5 a6 a7 a8 a9 U' V_ a12 W_ X_ X' fO fO c d g h k (b 0 a0 U) (b 1 a1 U) (b 2 a2 U) (b 3 a3 U) (b 4 a4 U) (b 5 a5 U) (b 6 a6 U) (b 7 a7 U) (b 8 a8 U) (b 9 a9 U) (b 10 U' U) (b 11 V_ U) (b 12 a12 U) (b 13 W_ U) (b 14 X_ U)<|b 15 X' U
abbrev zB:List Ç:=[Â Æ 0,Â Æ 0,Â Æ 0,Â Æ 0,Â Æ 0,Â Æ 0,Â Æ 0,Â Æ 0]
noncomputable def M5:Ŗ:=(Tryz.f122.body.bind km).getD Ļ
def FL(a b:Nat)(i:Int)(u:Nat->Ç):ê:=⟨#[Å<|Ã ⟨a,0,Ä⟩,u 1,u 2,Å<|Ã ⟨b,0,Ä⟩,u 4,Â Ë i,u 6,u 7,u 8,u 9,u 10,u 11,u 12,u 13,u 14,u 15,u 16,u 17],[]⟩
def FM(c b:Nat)(i:Int)(a:ê):Prop:=∃u,a=FL c b i u
section
variable{X:ê->É->Prop}
def ani(u:Nat->Ç)(c:∀a,FM i b 8 a->X a w): Î À M5 (Exit.then K<|QQ X) (FL i b 8 u) w:=by
 unfold FL;conv=>arg 2;whnf
 go_wp2_with fail
 exact c _ (gi _)
def anj(c z:Nat)(o:c<8)(T:Ò À 161 #[Å<|Ã ⟨i,c*18,Ä⟩] w λe j=>e=È (Â Æ z)/\e9 (λ_=>False) w j)(g:List Ç)(h:Ç)(k:g[c]?=Ã h)(l:fg b g 116 w)(u:Nat->Ç) (m:∀a f,FM i b ((c+1:Nat):Int) a->e9 (λ_=>False) w f->K a (f.setCell ⟨b,c,Ä⟩<|Â Æ z)): Î À M5 (Exit.then K<|QQ X) (FL i b c u) w:=by
 unfold FL;conv=>arg 2;whnf
 have H:=fe<|Á T<|Á m l;go_wp2_with (go_at_call 161;apply H.out.1.mono;rintro e f ⟨rfl,d⟩;have p:=(H.out.2.2.I d id).r c h k;have q:=(H.out.2.2.I d id).C c;have n:=fe d;clear d);exact H.out.2.1 _ _ (gi _) n.out
def qo(D:Nat->Nat)(i:Nat):List Nat:=(Ď 8).map λt=>if t<i then D t else 0
def Dl(D:Nat->Nat)(i:Nat):(qo D i).length=8:=by simp[qo]
def Tl(D:Nat->Nat)(i t:Nat)(h:t<8):(qo D i)[t]?=Ã (if t<i then D t else 0):=by simp[qo,ü h]
theorem ank(D:Nat->Nat)(i:Nat)(h:i<8):(qo D i).set i (D i)=qo D (i+1):=by
 refine Ā λt=> ?_;by_cases a:t<8
 .rw[Tl D (i+1) t a,Ľ];by_cases e:i=t
  .subst e;rw[if_pos U,if_pos (by rwa[Dl]),if_pos Z]
  .rw[if_neg e,Tl D i t a];grind
 .rw[Õ (by rw[Ě,Dl];omega),Õ (by rw[Dl];omega)]
def Y_(b:∀i,D i<18446744073709551616):rS (qo D 8):=MZ Z λx a=>by
 unfold qo at a;obtain⟨t,_,rfl⟩:=İ.1 a;split
 .exact b _
 .omega
def anl(D:Nat->Nat):ku (qo D 0)=zB:=by rfl
def DI(i b:Nat)(D:Nat->Nat)(d:É)(a:ê)(w:É):Prop:=
 ∃c:Nat,FM i b c a/\c<=8/\e9 (λk=>k=b) d w/\fg b (ku<|qo D c) 116 w
def DE(i b:Nat)(D:Nat->Nat)(c:É)(a:ê)(w:É):Prop:=
 FM i b 8 a/\e9 (λk=>k=b) c w/\fg b (ku<|qo D 8) 116 w
def M6(a:ê)(_:É):Nat:=match a.tmps.getD 5 Ą with
 |Â _ i=>8-i.toNat
 |_=>0
def Z_(c:FM i b n y):M6 y w=8-n:=by obtain⟨u,rfl⟩:=c;show 8-(n:Int).toNat=_;simp
def anm(C:∀c,c<8->∀W,e9 (λk=>k=b) u W->Ò À 161 #[Å<|Ã ⟨i,c*18,Ä⟩] W λe f=>e=È (Â Æ<|D c)/\e9 (λ_=>False) W f)(a:ê)(w:É)(m:DI i b D u a w): Î À M5 (Exit.then (λd f=>DI i b D u d f/\M6 d f<M6 a w)<|QQ<|DE i b D u) a w:=by
 let⟨c,j,o,g,h⟩:=m;rw[Z_ j];obtain⟨d,rfl⟩:=j;by_cases n:c=8
 .subst n;exact ani d λa q=>⟨q,g,h⟩
 .refine anj c (D c) Z (C c Z w g) _ _ (Jn _ _ _<|by rw[Tl D c c Z,if_neg Z]) h d λa p q l=>⟨⟨c+1,q,Z,(g.ff<|l.S λ_ _=>Ġ).ff (e9.I (X:=λk=>k=b) U _),?_⟩,by rw[Z_ q];omega⟩;rw[<-ank D c Z,Tg];exact(h.I l id).fW c<|Â Æ<|D c
end
def M7(D:Nat->Nat):Nat:=rT 3<|qo D 8
def ano(h:∀b,D b<18446744073709551616)(C:∀b,b<8->∀W,e9 (λk=>k=w.heap.size) (w.alloc<|Ð zB.toArray 116) W->Ò À 161 #[Å<|Ã ⟨i,b*18,Ä⟩] W λe c=>e=È (Â Æ<|D b)/\e9 (λ_=>False) W c): Ò À 122 #[Å<|Ã ⟨i,0,Ä⟩] w λe c=>e=È (Â Æ<|M7 D)/\e9 (λ_=>False) w c:=by
 have L:∀a,FM i w.heap.size (0:Nat) a->Î À (á M5) (QQ<|DE i w.heap.size D<|w.alloc<|Ð zB.toArray 116) a (w.alloc<|Ð zB.toArray 116):=λa j=>
  Č (DI i w.heap.size D<|w.alloc<|Ð zB.toArray 116) M6 ⟨0,j,ã _,e9.fT _ _,by rw[anl];exact fg.N w zB 116⟩<|anm C
 have T:∀W,fg w.heap.size (ku<|qo D 8) 116 W->Ò À 162 #[Ê (Ã ⟨w.heap.size,0,Ä⟩) 8 8] W λe c=>e=È (Â Æ<|rT 3<|qo D 8)/\e9 (λb=>b=w.heap.size) W c:=λW l=>by have t:=Q' (cp:=8) (k:=3) (by rw[Dl]) (by rw[Dl];omega) (by rw[Dl];omega) (Y_ h) (by rwa[ô]);rwa[Dl]at t
 unfold M7;have H:=fe<|Á L T;generalize rT 3 (qo D 8)=t at*;go_enter Tryz.func122,Tryz.ntmps122;go_wp2_with fail;refine Þ (Q:=QQ<|DE i w.heap.size D<|w.alloc<|Ð zB.toArray 116) ?_ (H.out.1 _ (gi _));rintro(_|(_|_)|_|_|_|_) a v hq;all_goals first|exact absurd hq id|skip
 let⟨m,n,o⟩:=hq;have p:=(e9.gG (λ_=>False) w zB.toArray 116).C n λb r q=>by omega
 obtain⟨u,rfl⟩:=m;unfold FL;have d:=fe<|Á p o;go_wp2_with (go_at_call 162;refine(H.out.2 _ d.out.2).mono ?_;rintro e x ⟨rfl,f⟩;have g:=d.out.1.C f (λb r q=>by omega);have s:=fe g;clear f g);go_ret;exact⟨U,s.out⟩
def Jr(a:Fw):List Nat:=(Ď 16).map λj=>(a.C j).toNat
def Z'(a:Fw):Nat:=Dk a.fl.toNat a.r<|Jr a
def FN(s:St):Nat:=M7 λi=>Z'<|s i
def anp(l:List UInt8):∀n,n<18446744073709551616->zv n l<18446744073709551616:=by
 induction l with
 |nil=>exact λn h=>h
 |cons c r h=>exact λn _=>h _<|MX _ _
def aac(B:Nat)(P:ByteArray)(a:List Nat):Dk B P a<18446744073709551616:=by unfold Dk;exact anp _ _<|FG _ _<|M1 B
def Tm(s:St)(h:i<144):(im s)[i]?=Ã (qh s i):=by simp[im,ü h]
def mh.anq{s:St}(m:mh n s h W)(a:gF s)(i:Nat)(f:i<8): Ò À 161 #[Å<|Ã ⟨n,i*18,Ä⟩] W λe b=>e=È (Â Æ<|Z'<|s i)/\e9 (λ_=>False) W b:=by
 have g:=λj d=>by have:=m.C j _<|Tm s d;simpa using this
 have b:=a.fl i;have k:=g (i*18) Z;have l:=g (i*18+1) Z;rw[<-qi s (Ê Ä 0 0) Z,IX _ _ f]at k;rw[<-qi s (Ê Ä 0 0) Z,MG _ _ f]at l;refine anh (by have e:=b.1;have c:=b.2;omega) (by have:=(a.I i).1;omega) (by simp[Jr]) ?_ ?_ l ?_
 .refine MZ Z λx e=> ?_;unfold Jr at e;obtain⟨t,_,rfl⟩:=İ.1 e;have c:=(a.C i t).2;omega
 .rw[k];unfold qg;rw[Ę b.1]
 .intro j x e;have d:j<16:=by have:=(Û.1 e).1;simpa[Jr]using this
  have c:=g (i*18+2+j) Z;rw[<-qi s (Ê Ä 0 0) Z,MH _ _ f d]at c;have t:((s i).C j).toNat=x:=by simpa[Jr,ü d]using e
  rw[c,<-t];unfold qg;rw[Ę (a.C i j).1]
def anr{s:St}(b:mh i s h w)(c:gF s): Ò À 122 #[Å<|Ã ⟨i,0,Ä⟩] w λe d=>e=È (Â Æ<|FN s)/\e9 (λ_=>False) w d:=ano (λa=>aac _ _ _) λa f W k=>((b.r (e9.gG (λ_=>False) w _ _) id).r k<|by show i≠w.heap.size;exact Nat.ne_of_lt<|â w _ b.h).anq c a f
def j2(i:Nat):St:=λj=>⟨if j<i then 1000 else 0,⟨#[]⟩,λ_=>0⟩
theorem ant(i:Nat):j2 (i+1)=(j2 i).fl i 1000:=by funext j;unfold j2 St.fl St.fW;grind
def anu(s:St)(a:i<8)(x:Int):(im s).set (i*18) (Â Æ x)=im (s.fl i x):=by have h:=Z3 s (Ê Ä 0 0) a x;rw[zt,zt,ĥ _ _ (by rw[rQ];omega)]at h;exact List.append_cancel_right h
def anv(s:St)(a:i<8):(im s)[i*18]?=Ã (Â Æ (s i).fl):=by rw[Tm s Z,<-qi s (Ê Ä 0 0) Z,IX _ _ a];rfl
noncomputable def M8:Ŗ:=(Tryz.f60.body.bind km).getD Ļ
def FO(r b:Nat)(i:Int)(u:Nat->Ç):ê:=⟨#[Å<|Ã ⟨r,0,Ä⟩,Å<|Ã ⟨b,0,Ä⟩,u 2,Â Ë i,u 4,u 5,u 6,u 7,u 8,u 9,u 10],[]⟩
def FP(r b:Nat)(i:Int)(a:ê):Prop:=∃u,a=FO r b i u
section
variable{X:ê->É->Prop}
def anw(u:Nat->Ç)(c:∀a,FP i b 8 a->X a w): Î À M8 (Exit.then K<|QQ X) (FO i b 8 u) w:=by
 unfold FO;conv=>arg 2;whnf
 go_wp2_with fail
 exact c _ (gi _)
def anx(c:Nat)(g:c<8)(e:Ç)(h:w.cell? ⟨b,c*18,Ä⟩=Ã e)(j:w.frozen? ⟨b,c*18,Ä⟩=Ï)(u:Nat->Ç) (d:∀a,FP i b ((c+1:Nat):Int) a->K a (w.setCell ⟨b,c*18,Ä⟩<|Â Æ 1000)): Î À M8 (Exit.then K<|QQ X) (FO i b c u) w:=by
 unfold FO;conv=>arg 2;whnf
 have f:=fe d;clear d;go_wp2_with fail;exact f.out _ (gi _)
def Tn(i b:Nat)(d:É)(a:ê)(w:É):Prop:=∃c:Nat,FP i b c a/\c<=8/\e9 (λk=>k=b) d w/\fg b (im<|j2 c) 140 w
def FE0(i b:Nat)(c:É)(a:ê)(w:É):Prop:=FP i b 8 a/\e9 (λk=>k=b) c w/\fg b (im<|j2 8) 140 w
def M9(a:ê)(_:É):Nat:=match a.tmps.getD 3 Ą with
 |Â _ i=>8-i.toNat
 |_=>0
def aad(c:FP i b n y):M9 y w=8-n:=by obtain⟨u,rfl⟩:=c;show 8-(n:Int).toNat=_;simp
def anz(a:ê)(w:É)(h:Tn i b u a w): Î À M8 (Exit.then (λc d=>Tn i b u c d/\M9 c d<M9 a w)<|QQ<|FE0 i b u) a w:=by
 let⟨c,f,l,g,e⟩:=h;rw[aad f];obtain⟨d,rfl⟩:=f;by_cases j:c=8
 .subst j;exact anw d λa q=>⟨q,g,e⟩
 .refine anx c Z _ (e.r _ _<|anv _ Z) (e.C _) d λa q=>⟨⟨c+1,q,Z,g.ff (e9.I (X:=λk=>k=b) U _),?_⟩,by rw[aad q];omega⟩;have k:=e.fW (c*18)<|Â Æ 1000;rwa[anu _ Z,<-ant]at k
end
def anB:(À.info? 140).map (λi=>(i.size,i.zero.map λz=>z.cells.toList))=Ã (144,Ã<|im<|j2 0):=ft
def anC(s:St):∀v∈im s,v.oneCell'=Ü:=λv a=>SS s (lv:=Ê Ä 0 0) U v<|by rw[zt];exact Ś _ a
def anD(w:É):Ò À 60 #[] w λe l=>e=È (Ė (im<|j2 8).toArray)/\e9 (λ_=>False) w l:=by
 let⟨m,n,o⟩:=Ì.1 S9;let⟨O,h,c⟩:=Ì.1 anB;simp only[Prod.mk.injEq]at c;let⟨p,r⟩:=c;let⟨t,x,y⟩:=Ì.1 r;have z:t.cells=(im<|j2 0).toArray:=by rw[<-y]
 have B:∀s,(À.info? 140).map (·.size)=Ã (im s).length:=λs=>by rw[h,rQ];simp[p]
 have L:∀W a,fg (w.heap.size+1) (im<|j2 0) 140 W->FP w.heap.size (w.heap.size+1) (0:Nat) a->Î À (á M8) (QQ<|FE0 w.heap.size (w.heap.size+1) W) a W:=λW a f C=>
  Č (Tn w.heap.size (w.heap.size+1) W) M9 ⟨0,C,ã _,e9.fT _ _,f⟩ anz
 have j:=e9.gG (λ_=>False) (w.alloc<|Ð (im<|j2 0).toArray 140) (im<|j2 0).toArray 140;have D:=(fg.N w (im<|j2 0) 140).I j id;have E:fg (w.heap.size+1) (im<|j2 0) 140 ((w.alloc<|Ð (im<|j2 0).toArray 140).alloc<|Ð (im<|j2 0).toArray 140):=by have:=fg.N (w.alloc<|Ð (im<|j2 0).toArray 140) (im<|j2 0) 140;simpa using this
 have b:=fe<|Á n<|Á o<|Á h<|Á x<|Á z B;have H:=fe (Á L<|Á ((e9.gG (λ_=>False) w (im<|j2 0).toArray 140).ff j)<|Á D E);go_enter Tryz.func60,Tryz.ntmps60;go_wp2_with (first
  |(with_reducible refine Ċ U (Ã 0) U _ _ (SO U b.out.2.2.1 b.out.2.2.2.1) ?_;rw[b.out.2.2.2.2.1])
  |(with_reducible refine Ċ U (Ã 1) U _ _ (SO U b.out.2.2.1 b.out.2.2.2.1) ?_;rw[b.out.2.2.2.2.1]))
 refine Þ ?_ (H.out.1 _ _ H.out.2.2.2 (gi _));rintro(_|(_|_)|_|_|_|_) a v c;all_goals first|exact absurd c id|skip
 let⟨F,k,f⟩:=c;have g:=H.out.2.2.1.I k Z;obtain⟨u,rfl⟩:=F;unfold FO;have G:=fg.Y (by rw[ô];exact f);have I:v.there w.heap.size 0 (im<|j2 8).toArray.size:=g.SQ (by simp[rQ]);have J:=MQ (im<|j2 8) [] [] v (im<|j2 0) (by rw[rQ,rQ]) (by simpa using g);have K:=(H.out.2.1.C k λi M q=>by omega).C (I7 (im<|j2 8) 0 v g.G) λi M q=>by omega
 have d:=fe<|Á K<|Á J<|Á G I;go_wp2_with (first
  |(with_reducible refine ě U 140 _ U (w.heap.size+1) 0 U (im<|j2 8) m d.out.2.2.1 b.out.1 b.out.2.1 (b.out.2.2.2.2.2 _) ?_)
  |(with_reducible refine Ń U 140 _ _ U w.heap.size 0 (im (j2 8)).toArray U U d.out.2.2.2 (by rw[b.out.2.2.2.2.2 (j2 8)];simp) (į (anC _)) ?_))
 have N:fg w.heap.size (im (j2 8)++[]) 140 (v.setCells w.heap.size 0<|im<|j2 8):=by simpa using d.out.2.1
 refine ò (SU U U (fg.Y N) b.out.1 b.out.2.1<|b.out.2.2.2.2.2 _) U<|⟨U,d.out.1⟩
structure fG where
 s:St
 r:List (Nat×Int)
 C:List (Int×Bool)
 h:Int
def zw(a:ć)(k:Nat)(d:List Ç)(w:É):Prop:=
 ∃p c,w.cell? a=Ã (Ê p k c)/\∀(j:Nat) (x:Ç),d[j]?=Ã x->∃b o,p=Ã ⟨b,o,Ä⟩/\w.cell? ⟨b,o+j,Ä⟩=Ã x
def zw.r(h:zw a k l w)(q:e9 (λ_=>False) w u):zw a k l u:=by let⟨p,c,d,e⟩:=h;exact⟨p,c,q.r d id,λj x f=>by let⟨b,o,g,i⟩:=e j x f;exact⟨b,o,g,q.r i id⟩⟩
structure rU(b:Nat)(v:fG)(w:É):Prop where
 r:mh b v.s v.h w
 C:gF v.s
 I:0<=v.h
 M:v.h<=40
 N:zw ⟨b,144,Ä⟩ v.r.length (kl v.r) w
 S:zw ⟨b,146,Ä⟩ v.C.length (uH v.C) w
def rU.Y{v:fG}(h:rU b v w)(q:e9 (λ_=>False) w u):rU b v u:= ⟨h.r.r q id,h.C,h.I,h.M,h.N.r q,h.S.r q⟩
structure qp(bp:Option ć)(n:Nat)(vs:List (Nat×fG))(w:É):Prop where
 r:n=vs.length
 C:∀(j b:Nat) (v:fG),vs[j]?=Ã (b,v)->∃sb so,bp=Ã ⟨sb,so,Ä⟩/\w.cell? ⟨sb,so+j,Ä⟩=Ã (Å<|Ã ⟨b,0,Ä⟩)/\rU b v w
def qp.I{a:List (Nat×fG)}(h:qp O n a w)(q:e9 (λ_=>False) w u):qp O n a u:= ⟨h.r,λj b v e=>by let⟨c,d,f,g,i⟩:=h.C j b v e;exact⟨c,d,f,q.r g id,i.Y q⟩⟩
def oh(a b:Nat×fG):Nat×fG:=if a.2.h<b.2.h then b else a
def s9(d:Nat×fG)(a:List (Nat×fG)):Nat×fG:=a.foldl oh d
noncomputable def Na:Ŗ:=(Tryz.f153.body.bind km).getD Ļ
def FQ(a:Option ć)(n b:Nat)(c:Nat)(i:Int)(u:Nat->Ç):ê:=⟨#[Ê a n b,Ą,Å Ä,Å<|Ã ⟨c,0,Ä⟩,u 4,u 5,u 6,u 7,u 8,Ê a n b,Â Ë n,Â Ë i,u 12,u 13,u 14,u 15,u 16,u 17,u 18,u 19,u 20,u 21,u 22,u 23,u 24,u 25,u 26],[]⟩
def Js(b:Option ć)(n c:Nat)(d:Nat)(i:Int)(a:ê):Prop:=∃u,a=FQ b n c d i u
section
variable{X:ê->É->Prop}{bp:Option ć}{cp:Nat}
def anE(u:Nat->Ç)(b:Int)(c:b=n)(d:∀a,Js bp n cp i b a->X a w): Î À Na (Exit.then K<|QQ X) (FQ bp n cp i b u) w:=by
 unfold FQ;conv=>arg 2;whnf
 subst c;go_wp2_with fail;exact d _ (gi _)
def anF(u:Nat->Ç)(c:Int)(j:Nat)(o:c=j)(q:j<n)(r:n<=1000)(h k b:Nat)(p:bp=Ã ⟨h,k,Ä⟩)(s:w.cell? ⟨h,k+j,Ä⟩=Ã (Å<|Ã ⟨b,0,Ä⟩))(e f:Int)(t:w.cell? ⟨b,145,Ä⟩=Ã (Â Ë e))(v:w.cell? ⟨i,145,Ä⟩=Ã (Â Ë f)) (d:∀a m,Js bp n cp (if f<e then b else i) (c+1) a->K a (w.drewN m)): Î À Na (Exit.then K<|QQ X) (FQ bp n cp i c u) w:=by
 unfold FQ;conv=>arg 2;whnf
 subst o p;by_cases l:f<e
 .rw[if_pos l]at d;have g:=fe d;clear d;go_wp2_with fail;go_quiet (fail);go_wp2_with fail;exact g.out _ _ (gi _)
 .rw[if_neg l]at d;have g:=fe d;clear d;go_wp2_with fail;go_quiet (fail);go_wp2_with fail;exact g.out _ _ (gi _)
def HI(bp:Option ć)(n cp:Nat)(vs:List (Nat×fG))(b:É)(c:Nat×fG)(a:ê)(w:É):Prop:=
 ∃(j:Nat) (d:Nat×fG),Js bp n cp d.1 j a/\j<=n/\e9 (λ_=>False) b w/\rU d.1 d.2 b/\s9 d (vs.drop j)=c
def HE(bp:Option ć)(n cp:Nat)(b:É)(c:Nat×fG)(a:ê)(w:É):Prop:=Js bp n cp c.1 n a/\e9 (λ_=>False) b w
def To(n:Nat)(a:ê)(_:É):Nat:=match a.tmps.getD 11 Ą with
 |Â _ i=>n-i.toNat
 |_=>0
theorem anG{f:List (Nat×fG)}{i:Nat×fG}(k:qp bp n f W)(t:n<=1000)(a:ê)(w:É)(x:HI bp n cp f W i a w): Î À Na (Exit.then (λl b=>HI bp n cp f W i l b/\To n l b<To n a w)<|QQ<|HE bp n cp W i) a w:=by
 let⟨j,d,y,H,c,z,g⟩:=x;obtain⟨u,rfl⟩:=y;by_cases o:j=n
 .rw[(ğ<|by rw[<-k.r];omega)]at g;subst g;refine anE u j (by rw[o]) λa b=>⟨?_,c⟩;rwa[o]at b
 .have r:j<n:=Z
  obtain⟨⟨b,v⟩,s⟩:∃p,f[j]?=Ã p:=⟨_,Ô<|by rwa[<-k.r]⟩;let⟨B,C,D,E,F⟩:=k.C j b v s;let⟨G,e⟩:=Û.1 s;rw[ė G,e]at g;refine anF u j j U r t B C b D (c.r E id) v.h d.2.h (c.r F.r.h id) (c.r z.r.h id) λl m q=> ?_;have I:oh d (b,v)=(if d.2.h<v.h then b else d.1,if d.2.h<v.h then v else d.2):=by unfold oh;split<;>rfl
  refine⟨⟨j+1,oh d (b,v),?_,Z,c.ff<|e9.iN _ _ _,?_,g⟩,?_⟩
  .grind
  .grind
  .obtain⟨v,rfl⟩:=q;show n-((j:Int)+1).toNat<n-((j:Int)).toNat;omega
def anH{b:List (Nat×fG)}{d:Nat×fG}(c:qp bp n b w)(g:n<=1000)(f:b[0]?=Ã d): Ò À 153 #[Ê bp n cp] w λe a=>e=È (Å<|Ã ⟨(s9 d b).1,0,Ä⟩)/\e9 (λ_=>False) w a:=by
 let⟨l,m,e,h,i⟩:=c.C 0 d.1 d.2 f;have o:0<n:=by rw[c.r];exact(Û.1 f).1
 have L:∀a,Js bp n cp d.1 0 a->Î À (á Na) (QQ<|HE bp n cp w<|s9 d b) a w:=λa j=>
  Č (HI bp n cp b w<|s9 d b) (To n) ⟨0,d,j,ã _,e9.fT _ _,i,U⟩<|anG c g
 subst e;generalize s9 d b=r at*;simp only[Nat.add_zero]at h;go_enter Tryz.func153,Tryz.ntmps153;go_wp2_with fail;refine Þ ?_ ((fe L).out _ (gi _));rintro(_|(_|_)|_|_|_|_) a v hq;all_goals first|exact absurd hq id|skip
 let⟨k,p⟩:=hq;obtain⟨u,rfl⟩:=k;unfold FQ;go_wp2_with fail;go_ret;simp_all
end
def lr(a:List (Nat×fG))(b:Int):Option (Nat×fG):=
 if b=-1 then(a[0]?).map λd=>s9 d a else a[b.toNat]?
def jP(b:Option Nat):Ç:=Å<|b.map λb=>⟨b,0,Ä⟩
section
variable{cp:Nat}{a:List (Nat×fG)}
def Nb(f:qp O n a w)(i:n<=1000)(j:0<n)(c:Int)(m:-1<=c): Ò À 113 #[Ê O n cp,Â Ë c] w λe b=>e=È (jP ((lr a c).map (·.1)))/\e9 (λ_=>False) w b:=by
 by_cases h:c=-1
 .subst h;obtain⟨d,b⟩:∃d,a[0]?=Ã d:=⟨_,Ô<|by rwa[<-f.r]⟩;have e:lr a (-1)=Ã (s9 d a):=by unfold lr;rw[if_pos U,b];rfl
  rw[e];go_enter Α,Ŭ;go_wp2_with (go_at_call 153;refine(fe<|anH (cp:=cp) f i b).out.mono ?_;rintro e k ⟨rfl,g⟩);go_ret;exact⟨U,g⟩
 .obtain⟨k,rfl⟩:∃k:Nat,c=k:=⟨c.toNat,Z⟩;have e:lr a (k:Int)=a[k]?:=by unfold lr;rw[if_neg h,Ż]
  rw[e];by_cases g:k<n
  .obtain⟨⟨b,v⟩,d⟩:∃p,a[k]?=Ã p:=⟨_,Ô<|by rwa[<-f.r]⟩;let⟨o,q,l,r,s⟩:=f.C k b v d;rw[d];subst l;go_enter Α,Ŭ;go_wp2_with fail;go_ret;exact⟨U,e9.fT _ _⟩
  .rw[(Õ<|by rw[<-f.r];omega)];go_enter Α,Ŭ;go_wp2_with fail;go_ret;exact⟨U,e9.fT _ _⟩
end
def aae(a:List (Nat×fG)):∀(l:List (Nat×fG)) (d:Nat×fG),d∈a->(∀x∈l,x∈a)->s9 d l∈a
 |[],d,hd,_=>hd
 |x::l,d,hd,hl=>by
  show s9 (oh d x) l∈a;refine aae a l _ ?_ λy b=>hl y<|š _ b;unfold oh;split
  .exact hl x List.mem_cons_self
  .exact hd
theorem Jt{a:List (Nat×fG)}{p:Nat×fG}(h:lr a c=Ã p):p∈a:=by
 unfold lr at h;split at h
 .obtain⟨d,b,rfl⟩:=Ì.1 h;exact aae a a d (Đ b) λx e=>e
 .grind
def qp.M{a:List (Nat×fG)}(h:qp O n a w){p:Nat×fG}(b:p∈a):rU p.1 p.2 w:=by let⟨j,c⟩:=List.getElem?_of_mem b;let⟨_,_,_,_,d⟩:=h.C j p.1 p.2 c;exact d
def aaf(c:w.cell? ⟨b,i,Ä⟩=Ã v)(h:w.ownsRow 0 e j v n l):zw ⟨b,i,Ä⟩ n l w:=by
 rcases h.2 with⟨rfl,rfl⟩|⟨g,f,k,rfl,_,m,_,_,_,o⟩
 .have d:=à (by simpa using h.1);subst d;exact⟨Ä,0,c,λa x q=>by simp at q⟩
 .refine⟨_,_,c,λa x q=>⟨g,0,U,?_⟩⟩;have:=h.cells U a x q;rwa[Addr.add_mid]at this
def NX.anI{s:St}{b:List (Nat×Int)}{c:List (Int×Bool)}(x:NX i h v z s b c u w)(d:gF s)(e:0<=h)(f:h<=40):rU i ⟨s,b,c,h⟩ w:=by have a:fg i (iZ s v++[Â Ë h,z]) 147 w:=x.r;refine⟨⟨?_,a.r 145 _<|by rw[ý (by rw[mD];omega),mD];rfl⟩,d,e,f,aaf x.r.C6 x.C,aaf x.G x.I⟩;rw[zt,č]at a;exact a.Y
def anJ:(À.info? 136).map (λi=>(i.zero,i.size,i.bytes))=Ã (Ã<|Å Ä,1,8):=ft
def anK{p:Array Ŧ}{r:List Ŧ}(C:o.guard=Ä)(s x:Ŵ)(t:õ) (D:o.op=aK {callee:=.builtin .append,args:=#[s,x],argTypes:=#[t,t]}) (E:P.underlying t=Ã (bz e)) (F:P.info? e=Ã zJ) (G:zJ.zero=Ã z) (B:zJ.size=1) (H:zJ.bytes=8) (g k n:Nat) (b:List Ç) (I:b.length=n) (J:∀j v,b[j]?=Ã v->w.cell? ((⟨g,k,Ä⟩:ć).add j)=Ã v) (L:y.eval s=Ê (Ã ⟨g,k,Ä⟩) n n) (l:Nat) (v:Ç) (M:y.eval x=Ê (Ã ⟨l,0,Ä⟩) 1 1) (N:∀j u,[v][j]?=Ã u->w.cell? ((⟨l,0,Ä⟩:ć).add j)=Ã u) (X:n<=1000) (O:mb e=Ï) (h:∀c f,n+1<=c->e9 (λ_=>False) w f->(∃m:Array Ç,f.heap[w.heap.size]?=Ã (Ð m e (0,0))/\0<m.size/\∀u∈m.toList,u∈b\/u=v\/u∈z.cells.toList)->(∀j u,(b++[v])[j]?=Ã u->f.cell? ⟨w.heap.size,0+j,Ä⟩=Ã u)->aX P p vJ r (y.put o.dst<|Ê (Ã ⟨w.heap.size,0,Ä⟩) (n+1) c) f):aX P p vJ (o::r) y w:=by refine ŷ C λK S=> ?_;have T:=Ρ w t o.type e zJ z E F G ⟨g,k,Ä⟩ n n b (by rw[I,B];omega) J ⟨l,0,Ä⟩ 1 1 [v] (by rw[B];rfl) N Z Z (Ŝ Z<|by rw[H];omega);unfold ň Ī;simp only[D,ak,aV,ar,Ÿ,Ź,Ĺ,ą,ę,Ğ,L,M,T];refine S _ _ (h _ _ (Ν w (n+1) n e) ((e9.fR _ _).ff<|e9.gG _ _ _ _<|Ù O) ⟨_,î w.drew _,by simp;omega,λu d=>by simp only[ŧ,û]at d;rcases d with(q|q)|q;exact Ù q;exact Ú (Ù<|by simpa using q);exact Ú<|Ú<|Sp q⟩ λj u d=> ?_);have V:(w.drew.alloc<|Ð (b.toArray++[v].toArray++ø z.cells (ř w (n+1) n e-(n+1))) e).heap[w.heap.size]?=_:=î w.drew _;simp only[Μ,V,ů,ĳ,if_false,Ň];have W:=(Û.1 d).1;rw[Array.getElem?_append_left (by simpa using W)];simpa using d
def td(v:Ç)(T:õ)(w:É):Prop:=v=Ê Ä 0 0\/∃g n c a,v=Ê (Ã ⟨g,0,Ä⟩) n c/\w.heap[g]?=Ã (Ð a T (0,0))
def td.I(h:w.ownsRow 0 T i v n l):td v T w:=by
 rcases h.2 with⟨q,_⟩|⟨g,a,b,c,_,d,_⟩
 .exact Ù q
 .exact Ú ⟨g,_,a,b,c,d⟩
def td.C(h:td v T w)(k:e9 (λ_=>False) w u):td v T u:=by
 rcases h with q|⟨g,n,c,b,d,a⟩
 .exact Ù q
 .refine Ú ⟨g,n,c,b,d,?_⟩;rwa[k.N g (Array.getElem?_eq_some_iff.1 a).1 id]
def rV(a:List (Nat×fG)):List Ç:=a.map λp=>Å<|Ã ⟨p.1,0,Ä⟩
structure Tp(vs:List (Nat×fG))(B:Nat)(w w':É)(g:Nat):Prop where
 C:w.heap.size<=g
 r:∃cur:Array Ç,w'.heap[g]?=Ã (Ð cur 136 (0,0))/\0<cur.size/\∀u∈cur.toList,u∈rV vs\/u=Å (Ã ⟨B,0,Ä⟩)\/u=Å Ä
structure Tq(B:Nat)(s:St)(h:Int)(w w':É):Prop where
 C:w.heap.size<=B
 r:∃lv uv,fg B (iZ s lv++[Â Ë h,uv]) 147 w'/\td lv 257 w'/\td uv 246 w'/\(∀j,lv.ownBlock=Ã j->w.heap.size<=j)/\∀j,uv.ownBlock=Ã j->w.heap.size<=j
section
variable{bp:Option ć}{cp:Nat}{vs:List (Nat×fG)}
def anL(a b:Nat)(d:n<=1000)(f:n<=cp):Ò À 155 #[Ê (Ã ⟨a,b,Ä⟩) n cp] w λe c=>e=È (Ê (Ã ⟨a,b,Ä⟩) n n)/\c=w:=by go_enter Tryz.func155,Tryz.ntmps155;go_wp2;go_ret;exact⟨U,U⟩
def anM(b:qp bp n vs w)(h:n<=1000)(l:0<n)(m:n<=cp)(B:Nat): Ò À 116 #[Ê bp n cp,Å<|Ã ⟨B,0,Ä⟩] w λe a=>∃g c,e=È (Ê (Ã ⟨g,0,Ä⟩) (n+1) c)/\n+1<=c/\e9 (λ_=>False) w a/\Tp vs B w a g/\∀j u,(rV vs++[Å<|Ã ⟨B,0,Ä⟩])[j]?=Ã u->a.cell? ⟨g,0+j,Ä⟩=Ã u:=by
 let⟨G,r,s,t,x⟩:=ï anJ;obtain⟨d,y⟩:∃d,vs[0]?=Ã d:=⟨_,Ô<|by rwa[<-b.r]⟩;let⟨g,f,i,_,_⟩:=b.C 0 d.1 d.2 y;have z:∀(o:Obj) (j:Nat) (v:Ç),(rV vs)[j]?=Ã v->(w.alloc o).cell? ((⟨g,f,Ä⟩:ć).add j)=Ã v:=λo j v q=>by unfold rV at q;rw[ļ]at q;obtain⟨p,C,rfl⟩:=Ì.1 q;let⟨D,E,H,k,_⟩:=b.C j p.1 p.2 C;rw[i]at H;cases H;rwa[Addr.add_mid,World.cell?_alloc_lt _ _ _<|â w _ k]
 have H:=fe (Á z<|Á r<|Á s<|Á t<|Á x<|show(rV vs).length=n by unfold rV;rw[Ω];exact b.r.symm);subst i;go_enter Tryz.func116,Tryz.ntmps116;go_wp2_with (first
  |(go_at_call 155;refine(anL g f h m).mono ?_;rintro e a ⟨rfl,k⟩;subst a)
  |(at_builtin;refine anK U _ _ 65 U Tryz.underlying65 H.out.2.1 H.out.2.2.1 H.out.2.2.2.1 H.out.2.2.2.2.1 g f n (rV vs) H.out.2.2.2.2.2 (H.out.1 _) U w.heap.size (Å (Ã ⟨B,0,Ä⟩)) U (ā _ _ _) h A ?_;intro c C a e k p))
 go_ret;refine⟨_,_,U,a,(e9.gG _ _ _ _).ff e,⟨fj,by let⟨c,C,D,E⟩:=k;exact⟨c,by simpa using C,D,λu F=>(E u F).elim Ù λq=>q.elim (λq=>Ú<|Ù q) λq=>Ú<|Ú<|by simpa[Ħ]using q⟩⟩,λj u q=>by have:=p j u q;simpa using this⟩
end
structure Dm(r:Nat)(v:Int)(x:Nat)(bp:Option ć)(n cp:Nat)(w:É):Prop where
 M:w.cell? ⟨r,0,Ä⟩=Ã (Â Ë x)
 N:w.cell? ⟨r,5,Ä⟩=Ã (Â Ë v)
 I:w.cell? ⟨r,8,Ä⟩=Ã (Ê bp n cp)
def Dm.C{r:Nat}(h:Dm r c i O n j w)(k:e9 (λ_=>False) w u):Dm r c i O n j u:=⟨k.r h.M id,k.r h.N id,k.r h.I id⟩
def pv(a:List (Nat×fG))(v:Int)(x:Nat)(b:List Tx):Option fG×ByteArray:=
 match lr a v with
 |none=>(Ä,nL 3)
 |some p=>if a.length=40 then(Ä,nL 4)else match s8 x p.2.s b with
  |none=>(Ä,nL 5)
  |some r=>(Ã ⟨r.1,r.2.1,r.2.2,p.2.h+1⟩,nu a.length)
def Nc(c:Ç)(d:List (Nat×fG))(w:É):Prop:=∃a n b,c=Ê a n b/\n<=b/\qp a n d w
def Ts(f:List (Nat×fG))(i:Ç)(w:É)(o:Option fG×ByteArray)(e:aD)(a:É):Prop:=
 e9 (λ_=>False) w a/\((o.1=Ä/\e=È (ç #[i,Í o.2]))\/∃v b d,o.1=Ã v/\e=È (ç #[d,Í o.2])/\Nc d (f++[(b,v)]) a/\Tq b v.s v.h w a/\∃g n c,d=Ê (Ã ⟨g,0,Ä⟩) n c/\Tp f b w a g)
def anN{c:List (Nat×fG)}{v:fG}(e:qp O n c w)(f:rU j v w)(h:∀a u,(rV c++[Å<|Ã ⟨j,0,Ä⟩])[a]?=Ã u->w.cell? ⟨i,0+a,Ä⟩=Ã u):qp (Ã ⟨i,0,Ä⟩) (n+1) (c++[(j,v)]) w:=by
 refine⟨by rw[e.r];simp,λa b u q=>⟨i,0,U,?_,?_⟩⟩
 .apply h a _;have:rV c++[Å<|Ã ⟨j,0,Ä⟩]=rV (c++[(j,v)]):=by simp[rV]
  rw[this];unfold rV;rw[ļ,q];rfl
 .rcases ŵ a c.length with d|d
  .rw[è d]at q;let⟨_,_,_,_,k⟩:=e.C a b u q;exact k
  .rw[ý d]at q;have k:a-c.length=0:=by
    have:=(Û.1 q).1;simp at this;omega
   rw[k]at q;cases q;exact f
def anO{e:aD}(a:FC h W Ä e u)(k:e9 (λ_=>False) w W):e=È (Å Ä)/\e9 (λ_=>False) w u:=by
 rcases a with⟨_,b,c⟩|⟨_,_,_,_,_,_,q,_⟩
 .exact⟨b,k.ff c⟩
 .cases q
def anP{e:aD}{s:St}{a:List (Nat×Int)}{b:List (Int×Bool)}(c:FC h W (Ã (s,a,b)) e u)(l:0<=h)(m:h<40)(k:e9 (λ_=>False) w W):∃B,e=È (Å<|Ã ⟨B,0,Ä⟩)/\e9 (λ_=>False) w u/\rU B ⟨s,a,b,h+1⟩ u/\Tq B s (h+1) w u:=by
 rcases c with⟨q,_⟩|⟨n,o,p,B,d,f,q,g,x,i⟩
 .cases q
 .cases q;exact⟨B,g,k.ff x.M,x.anI i Z Z,í k.M x.N,d,f,x.r,td.I x.C,td.I x.I,λj q=>í k.M<|x.S j q,λj q=>í k.M<|x.Y j q⟩
section
variable{bp:Option ć}{cp r x:Nat}{v:Int}{vs:List (Nat×fG)}{f:List (Nat×Tx)}
def anQ{p:Nat×fG}(F:Ò À 113 #[Ê bp n cp,Â Ë v] w λe a=>e=È (jP<|Ã p.1)/\e9 (λ_=>False) w a)(f:Dm r v x O b i w)(m:((n:Int)==40)=Ï)(N:∀W,e9 (λ_=>False) w W->Ò À 115 #[Å<|Ã ⟨p.1,0,Ä⟩,Â Ë x,Ê O b i] W (FC p.2.h W Ä)): Ò À 66 #[Ê bp n cp,Å<|Ã ⟨r,0,Ä⟩] w (Ts vs (Ê bp n cp) w (Ä,nL 5)):=by
 have o:=f.N;have H:=fe<|Á F<|Á N f;go_enter Ţ,Ō;go_wp2_with (go_at_call 113;refine H.out.1.mono ?_;rintro e d ⟨rfl,c⟩;dsimp only[jP,ű]);have g:=fe (Á ((H.out.2.2.C c).C<|e9.fR (λ_=>False) _).M ((H.out.2.2.C c).C<|e9.fR (λ_=>False) _).I);go_region_held3 (λa=>a.cell? ⟨r,0,Ä⟩=Ã (Â Ë x)/\a.cell? ⟨r,8,Ä⟩=Ã (Ê O b i)) (first|exact g.out|exact j.out) (first
   |(go_at_call 115;refine(H.out.2.1 _ (c.ff kp)).mono ?_;rintro e k l;obtain⟨rfl,d⟩:e=È (Å Ä)/\e9 (λ_=>False) w k:=anO l (c.ff kp);dsimp only;have j:=fe (Á (H.out.2.2.C d).M (H.out.2.2.C d).I)))
 go_wp2_with (first
  |(go_at_call 114;refine(FD 5 A _).mono ?_;rintro e a ⟨rfl,c⟩;subst a))
 go_ret2;exact⟨d,Ù ⟨U,U⟩⟩
def anR{p:Nat×fG}{f:St}{g:List (Nat×Int)}{j:List (Int×Bool)}(k:qp bp n vs w)(Q:n<=40)(q:0<n)(s:n<=cp)(t:0<=p.2.h)(u:p.2.h<40)(F:Ò À 113 #[Ê bp n cp,Â Ë v] w λe a=>e=È (jP<|Ã p.1)/\e9 (λ_=>False) w a)(l:Dm r v x O b i w)(S:((n:Int)==40)=Ï)(N:∀W,e9 (λ_=>False) w W->Ò À 115 #[Å<|Ã ⟨p.1,0,Ä⟩,Â Ë x,Ê O b i] W (FC p.2.h W<|Ã (f,g,j))): Ò À 66 #[Ê bp n cp,Å<|Ã ⟨r,0,Ä⟩] w (Ts vs (Ê bp n cp) w (Ã ⟨f,g,j,p.2.h+1⟩,nu vs.length)):=by
 have T:=l.N;rw[<-k.r];have H:=fe<|Á F<|Á N<|Á l k;go_enter Ţ,Ō;go_wp2_with (go_at_call 113;refine H.out.1.mono ?_;rintro e o ⟨rfl,d⟩;dsimp only[jP,ű]);have y:=fe (Á ((H.out.2.2.1.C d).C<|e9.fR (λ_=>False) _).M ((H.out.2.2.1.C d).C<|e9.fR (λ_=>False) _).I);go_region_held3 (λa=>a.cell? ⟨r,0,Ä⟩=Ã (Â Ë x)/\a.cell? ⟨r,8,Ä⟩=Ã (Ê O b i)) (first|exact y.out|exact o.out) (first
   |(go_at_call 115;refine(H.out.2.1 _ (d.ff kp)).mono ?_;rintro e D z;obtain⟨B,rfl,c,C,m⟩:=anP (w:=w) z t u (d.ff kp);dsimp only;have o:=fe (Á (H.out.2.2.1.C c).M (H.out.2.2.1.C c).I)))
 have W:=anM (H.out.2.2.2.I c) Z q s B;have z:=fe W;go_wp2_with (first
  |(go_at_call 116;refine z.out.mono ?_;rintro e G ⟨I,J,rfl,D,d,o,E⟩)
  |(go_at_call 117;refine(N_ n Z _).mono ?_;rintro e a ⟨rfl,G⟩;subst a))
 go_ret2;refine⟨c.ff d,Ú ⟨_,B,_,U,U,⟨_,_,_,U,D,?_⟩,⟨m.C,by let⟨G,I,J,K,L,M,P⟩:=m.r;exact⟨G,I,J.I d id,K.C d,L.C d,M,P⟩⟩,_,_,_,U,í c.M o.C,o.r⟩⟩;exact anN ((H.out.2.2.2.I c).I d) (C.Y d) E
def anS(a:qp bp n vs w)(C:n<=40)(j:0<n)(D:n<=cp)(t:∀p∈vs,p.2.h<40)(d:Dm r v x O b i w)(u:Dd O b f w)(E:b<=1000)(y:iJ w)(G:x<8)(z:-1<=v): Ò À 66 #[Ê bp n cp,Å<|Ã ⟨r,0,Ä⟩] w (Ts vs (Ê bp n cp) w<|pv vs v x<|lJ f):=by
 have L:=d.N;unfold pv;cases g:lr vs v with
 |none=>
  have F:=Nb (cp:=cp) a Z j v z;rw[g]at F;have H:=fe F;go_enter Ţ,Ō;go_wp2_with (first
   |(go_at_call 113;refine H.out.mono ?_;rintro e I ⟨rfl,q⟩;dsimp only[jP,ű])
   |(go_at_call 114;refine(FD 3 A _).mono ?_;rintro e l ⟨rfl,J⟩;subst l))
  go_ret2;exact⟨q,Ù ⟨U,U⟩⟩
 |some p=>
  have m:=Jt g;have c:=a.M m;have F:=Nb (cp:=cp) a Z j v z;rw[g]at F;have N:∀W,e9 (λ_=>False) w W->Ò À 115 #[Å<|Ã ⟨p.1,0,Ä⟩,Â Ë x,Ê O b i] W (FC p.2.h W<|s8 x p.2.s<|lJ f):=λW k=>
   amG (c.r.r k id) c.I (by have:=c.M;omega) c.C (u.I k) (y.r k id) E G
  have K:=a.r;by_cases B:n=40
  .simp only;rw[if_pos Z];have H:=fe F;clear F N a d u y t c g m K;have o:((n:Int)==40)=Ü:=by rw[B];rfl
   clear B;go_enter Ţ,Ō;go_wp2_with (first
    |(go_at_call 113;refine H.out.mono ?_;rintro e I ⟨rfl,q⟩;dsimp only[jP,ű])
    |(go_at_call 114;refine(FD 4 A _).mono ?_;rintro e l ⟨rfl,J⟩;subst l))
   go_ret2;exact⟨q,Ù ⟨U,U⟩⟩
  .simp only;rw[if_neg Z];have o:((n:Int)==40)=Ï:=by rw[beq_eq_false_iff_ne];omega
   have l:=t p m;have H:=c.I;cases e:s8 x p.2.s (lJ f)with
   |none=>
    rw[e]at N;exact anQ F d o N
   |some q=>
    let⟨I,J,M⟩:=q;rw[e]at N;exact anR a C j D H l F d o N
end
def anT(h:l.length=145):À.built 147 [(0,Ė l.toArray)]=Ã (l++[Â Ë 0,Ê Ä 0 0]).toArray:=by let⟨z,d,a,b,c⟩:=S6 H_ I_ A;rw[S5 I' a,c];have:=MV (place:=λi=>[(0,145),(145,1),(146,1)].toArray[i]?) (pre:=[]) (suf:=[Â Ë 0,Ê Ä 0 0]) (i:=0) (v:=Ė l.toArray) (rest:=[]) U (by show l.toArray.size=145;simp[h]) b;simpa[ķ,Ħ]using this
def anU(a:o.op=η 147 #[(0,qQ)])(b:xX qQ=Ė l.toArray)(c:l.length=145):(Ī xX o).run À w=ag (.value<|Ė (l++[Â Ë 0,Ê Ä 0 0]).toArray) w:=by apply S7 a;simp only[ą,ę,Ğ,b];exact anT c
def mE:fG:=⟨j2 8,[],[],0⟩
def aag:gF (j2 8):=by refine⟨λi=> ?_,λi j=>⟨Ø _,show(0:Int)<18446744073709551616 by decide⟩,λi=>⟨show(0:Nat)<=40 by decide,λc a=>by cases a⟩⟩;show fY (if i<8 then 1000 else 0);split<;>exact⟨A,A⟩
theorem anV{s:St}(b:gF s)(h:fg i (im s++[Ê Ä 0 0]++[Â Ë 0,Ê Ä 0 0]) 147 w):rU i ⟨s,[],[],0⟩ w:=by
 have c:=rQ s;refine⟨⟨λj v d=> ?_,?_⟩,b,Ø _,show(0:Int)<=40 by decide,?_,?_⟩
 .rw[Ň];apply h.r j v;grind
 .apply h.r 145 _;simp_all
 .refine⟨Ä,0,h.r 144 _ ?_,λj x a=>by cases a⟩;grind
 .refine⟨Ä,0,h.r 146 _ ?_,λj x a=>by cases a⟩;simp_all
def xG(ls:List (Nat×Int)):Prop:=∀e∈ls,e.1<8/\fY e.2
def Nd(J:St->List (Nat×Int)->Prop)(F:mf):Prop:=∀s a x y g k,gF s->x<8->y<8->fY k->0<=g->g<=100000->(a.length:Int)+g<=1000000->J s a->J (F s a x y g k).s (F s a x y g k).I
structure aah(J:St->List (Nat×Int)->Prop):Prop where
 st:∀{s ls} (y j:Nat) (v:Int),J s ls->J (s.r y j v) ls
 mv:∀{s ls y} (q:Int) {p:Int},gF s->y<8->fY p->J s ls->J (pn s y q p).2 ls
 lg:∀{s ls y p},y<8->fY p->J s ls->J s (ls++[(y,p)])
section
variable{c:RC}{F:mf}{J:St->List (Nat×Int)->Prop}
theorem anW(b:aah J)(i:Nd J F)(d:c.y<8)(k:Nat)(t:RT)(o:k<=20)(a:nY t)(h:J t.s t.C):J (n9 F c k t).s (n9 F c k t).C:=by
 have f:=s5 a.r;have g:=s5<|po a.r;by_cases j:k=16
 .subst j;exact b.st _ _ _ h
 by_cases l:k=18
 .subst l;exact b.mv _ a.s d g h
 by_cases m:k=19
 .subst m;exact b.lg d f h
 by_cases n:k=20
 .subst n;show J (iU F c t _ _ _).2.2.s (iU F c t _ _ _).2.2.C;unfold iU;split
  .exact h
  .have e:=s5<|po<|po a.r;have p:=a.g0;have q:=a.C;have r:=a.I;have u:=f.1;have v:=g.1;exact i _ _ _ _ _ _ a.s d Z e Z Z Z h
 have e:(n9 F c k t).s=t.s/\(n9 F c k t).C=t.C:=by unfold n9;grind
 grind
def Tt(b:aah J):∀n,Nd J<|zq n
 |0=>λ_ _ _ _ _ _ _ _ _ _ _ _ _ h=>h
 |n+1=>λs d x y g k a f e i j l m h=>by
  show J (rP (zq n) ⟨x,y,k,4-(n:Int),g⟩ s d).s (rP (zq n) ⟨x,y,k,4-(n:Int),g⟩ s d).I;unfold rP;simp only;split
  .exact(FA (c:=⟨x,y,k,4-(n:Int),g⟩) (a.I y).1 (λn o=>SK a y o) (Ja n) f e i (anW b (Tt b n) e) _ _ _ uG ⟨fj,fj,a,j,l,m⟩ h).2
  .exact h
end
def Tv:Nd (λ_ e=>xG e) gk:=Tt ⟨λ_ _ _ h=>h,λ_ _ _ _ _ h=>h,λa b h e c=>by
 rcases û.1 c with q|q
 .exact h e q
 .simp at q;subst q;exact⟨a,b⟩⟩ 4
def anX{s:St}(b:gF s){ls:List (Nat×Int)}{t:Tx}(a:t.Ok)(c:(ls.length:Int)+400<=1000000)(h:xG ls):xG (lb s ls t).2.2.2:=by
 unfold lb;split
 .exact h
 .split
  .exact h
  .unfold xD;split
   .exact h
   .rename_i d;have e:=(b.fl t.x).2;exact Tv _ ls t.x t.y (t.n-10) t.k (b.r t.x ⟨Z,Z⟩) a.x a.y ⟨a.r,by have:=a.C;omega⟩ Z Z Z h
def zx(a:List (Int×Bool)):Prop:=∀e∈a,0<=e.1/\e.1<=400
def zx.PV{a:List (Int×Bool)}(h:zx a){e:Int×Bool}(b:0<=e.1)(c:e.1<=400):zx (a++[e]):=λx d=>by
 rcases û.1 d with q|q
 .exact h x q
 .simp at q;subst q;exact⟨b,c⟩
structure Tw(v:fG):Prop where
 C:xG v.r
 r:zx v.C
 I:v.r.length<=400000
 M:v.C.length<=1000
def Ty:∀(b:List Tx) {s:St} {ls:List (Nat×Int)} {a:List (Int×Bool)} {r:St×List (Nat×Int)×List (Int×Bool)},(∀t∈b,t.Ok)->gF s->xG ls->zx a->ls.length+400*b.length<=400000->a.length+b.length<=1000->rR m s ls a b=Ã r->gF r.1/\xG r.2.1/\zx r.2.2/\r.2.1.length<=400000/\r.2.2.length<=1000
 |[],s,ls,a,r,_,hs,hl,hu,n1,n2,h=>by cases h;exact⟨hs,hl,hu,by simpa using n1,by simpa using n2⟩
 |t::q,s,ls,a,r,ht,hs,hl,hu,n1,n2,h=>by
  unfold rR at h;simp only[ł]at n1 n2;split at h
  .have d:=Te (ls:=ls) hs (ht t fj) Z;have f:=d.r;exact Ty q (λc e=>ht c<|š _ e) (d.s.r m<|xA _) (anX hs (ht t fj) Z hl) (hu.PV d.g0 d.C) Z (by simp;omega) h
  .cases h
def anY{s:St}{a:List Tx}{r:St×List (Nat×Int)×List (Int×Bool)}(b:∀t∈a,t.Ok)(c:gF s)(k:a.length<=1000)(e:s8 m s a=Ã r):Tw ⟨r.1,r.2.1,r.2.2,h⟩:=by unfold s8 at e;obtain⟨l,d,rfl⟩:=Ì.1 e;let⟨_,f,g,i,j⟩:=Ty a b c (λ_ q=>by cases q) (λ_ q=>by cases q) (by simp;omega) (by simp;omega) d;exact⟨f,g,i,j⟩
end Go.Proofs.Y.gO
namespace Go.Proofs
open Go.Shelf
def Tryz.lays283_ren:Ĳ:=⟨fun|283=>187|n=>n,fun|3=>3|9=>9|4=>4|n=>n,fun|n=>n⟩
def Tryz.lays283:aR À Tryz.lays283_ren:={
 mixed:=ft
 f283:=ſ.trans<|congrArg Ã ft
 t3:=ġ
 a3:=ţ
 z3:=ō
 v3:=Ĭ
 t4:=Ģ
 a4:=Ť
 z4:=Ŏ
 v4:=ĭ
 t9:=ĕ
 a9:=ť
 z9:=ŏ
 v9:=Į}
open Go.Lib in
def Tryz.internal_strconv_small(i:Nat)(h:i<100)(w:É):
 Ò À 187 #[Â Ë i] w λe a=>e=È (Í ⟨(Ł i).toArray⟩)/\a=w:=Any.internal_strconv_small Tryz.lays283 i h w
def Tryz.laysM284_ren:Ĳ:=⟨fun|284=>188|129=>198|317=>197|318=>199|n=>n,fun|53=>36|3=>3|212=>291|0=>0|4=>4|46=>168|5=>5|9=>9|n=>n,fun|17=>1|n=>n⟩
def Tryz.laysM284:Go.Proofs.LaysM.n284 À Tryz.laysM284_ren:={
 mixed:=ft
 f129:=Tryz.func198.trans<|congrArg Ã ft
 f284:=Tryz.func188.trans<|congrArg Ã ft
 f317:=Tryz.func197.trans<|congrArg Ã ft
 f318:=Tryz.func199.trans<|congrArg Ã ft
 t0:=Ι
 a0:=aO
 z0:=aE
 v0:=ε
 t3:=ġ
 a3:=ţ
 z3:=ō
 v3:=Ĭ
 t4:=Ģ
 a4:=Ť
 z4:=Ŏ
 v4:=ĭ
 t5:=Κ
 a5:=aP
 z5:=aF
 v5:=ζ
 t9:=ĕ
 a9:=ť
 z9:=ŏ
 v9:=Į
 t46:=Ų
 a46:=χ
 z46:=ι
 v46:=Γ
 t53:=ľ
 a53:=Δ
 z53:=ŭ
 v53:=Ņ
 t212:=Tryz.underlying291
 a212:=Tryz.isAgg291
 z212:=Tryz.sizeOf291
 v212:=Tryz.zeroValue291
 g17:=ft
 i0:=ft
 i3:=ft
 i4:=ft
 i5:=ft
 i9:=ft
 i46:=ft
 i53:=ft
 i212:=ft
 m17:=by kernel_rfl}
open Go.Lib in
def Tryz.internal_strconv_numDigits(u:Nat)(a:1<=u)(b:u<18446744073709551616)(w:É)(c:aj À w "internal/strconv.uint64pow10" Æ aG):
 Ò À 188 #[Â Æ u] w λe d=>e=È (Â Ë<|đ u)/\d=w:=Any.internal_strconv_numDigits Tryz.laysM284 u a b w c
def Tryz.lays285_ren:Ĳ:=⟨fun|285=>189|n=>n,fun|37=>107|53=>36|3=>3|4=>4|51=>95|9=>9|5=>5|0=>0|n=>n,fun|n=>n⟩
def Tryz.lays285:aS À Tryz.lays285_ren:={
 mixed:=ft
 f285:=Tryz.func189.trans<|congrArg Ã ft
 t0:=Ι
 a0:=aO
 z0:=aE
 v0:=ε
 t3:=ġ
 a3:=ţ
 z3:=ō
 v3:=Ĭ
 t4:=Ģ
 a4:=Ť
 z4:=Ŏ
 v4:=ĭ
 t5:=Κ
 a5:=aP
 z5:=aF
 v5:=ζ
 t9:=ĕ
 a9:=ť
 z9:=ŏ
 v9:=Į
 t37:=þ
 a37:=Tryz.isAgg107
 z37:=Tryz.sizeOf107
 v37:=Tryz.zeroValue107
 t51:=Ε
 a51:=aH
 z51:=ψ
 v51:=Λ
 t53:=ľ
 a53:=Δ
 z53:=ŭ
 v53:=Ņ}
open Go.RowKit Go.Sort Go.Lib in
def Tryz.internal_strconv_formatBase10(a c f:Nat)(u:Nat)(d:Array UInt8)(w:É)(h:Holds (λ(b:UInt8)=>Â bb (b.toNat:Int)) w a c d)(i:u<10^d.size)(j:u<18446744073709551616)(k:d.size<4611686018427387904):
 Ò À 189 #[Ê (Ã ⟨a,c,Ä⟩) d.size f,Â Æ u] w λe l=>
  e=È (ç #[])/\∃(n m:Nat) (g:Array UInt8),l=(κ (λ(b:UInt8)=>Â bb (b.toNat:Int)) w a c g).drewN n/\FmtInv d.size u 0 m g:=Any.internal_strconv_formatBase10 Tryz.lays285 a c f u d w h i j k
def Tryz.lays99_ren:Ĳ:=⟨fun|99=>175|206=>194|n=>n,fun|9=>9|4=>4|3=>3|n=>n,fun|n=>n⟩
def Tryz.lays99:aY À Tryz.lays99_ren:={
 mixed:=ft
 f99:=Tryz.func175.trans<|congrArg Ã ft
 f206:=Tryz.func194.trans<|congrArg Ã ft
 t3:=ġ
 a3:=ţ
 z3:=ō
 v3:=Ĭ
 t4:=Ģ
 a4:=Ť
 z4:=Ŏ
 v4:=ĭ
 t9:=ĕ
 a9:=ť
 z9:=ŏ
 v9:=Į}
open Go.RowKit Go.Lib in
def Tryz.strings_HasPrefix(s p:ByteArray)(w:É):
 Ò À 175 #[Í s,Í p] w λe a=>e=È (Ñ<|Lib.hasPrefix s.data.toList p.data.toList)/\a=w:=Any.strings_HasPrefix Tryz.lays99 s p w
def Tryz.lays212_ren:Ĳ:=⟨fun|212=>174|263=>192|264=>193|n=>n,fun|46=>168|51=>95|146=>285|53=>36|148=>287|n=>n,fun|n=>n⟩
def Tryz.lays212:aT À Tryz.lays212_ren:={
 mixed:=ft
 f212:=Tryz.func174.trans<|congrArg Ã ft
 f263:=Tryz.func192.trans<|congrArg Ã ft
 f264:=Tryz.func193.trans<|congrArg Ã ft
 t46:=Ų
 a46:=χ
 z46:=ι
 v46:=Γ
 t51:=Ε
 a51:=aH
 z51:=ψ
 v51:=Λ
 t53:=ľ
 a53:=Δ
 z53:=ŭ
 v53:=Ņ
 t146:=Tryz.underlying285
 a146:=Tryz.isAgg285
 z146:=Tryz.sizeOf285
 v146:=Tryz.zeroValue285
 t148:=Tryz.underlying287
 a148:=Tryz.isAgg287
 z148:=Tryz.sizeOf287
 v148:=Tryz.zeroValue287}
open Go.RowKit Go.Lib in
def Tryz.bits_Mul(x y:Nat)(a:x<18446744073709551616)(b:y<18446744073709551616)(w:É):
 Ò À 174 #[Â Æ x,Â Æ y] w λe c=>e=È (ç #[Â Æ ((x*y/18446744073709551616:Nat):Int),Â Æ ((x*y%18446744073709551616:Nat):Int)])/\c=w:=Any.bits_Mul Tryz.lays212 x y a b w
end Go.Proofs
namespace Go.Proofs.Y.gO
open Go Go.Proofs Go.RowKit Go.Sort Go.Proofs.Y.Lift
def zy:UInt8->Ç:=λb=>Â bb (b.toNat:Int)
def lL(w:É):Prop:=aj À w "internal/strconv.uint64pow10" Æ aG
def anZ(a:kh w)(b:Nat)(f:Array Ç->Array Ç):kh (ņ w b f):=by
 intro i o h;unfold ņ at h;simp only[Ý]at h;split at h
 .cases d:w.heap[i]? with
  |none=>rw[d]at h;cases h
  |some e=>
   have:=a _ _ d;rw[d]at h;cases e with
   |cells c t z=>simp only[ó,é]at h;subst h;exact λx=>x
   |_=>exact absurd trivial this
 .exact a i o h
def an0(a:rN m w)(b:Nat)(f:Array Ç->Array Ç)(j:NF b w):rN m (ņ w b f):=by
 intro i c T k l h g;unfold ņ at h;simp only[Ý]at h;split at h
 .rename_i e;subst e;cases d:w.heap[b]? with
  |none=>rw[d]at h;cases h
  |some n=>
   rw[d]at h;cases n with
   |cells o t z=>
    simp only[ó,é,onCells,ĩ]at h;have:=j _ _ _ d;rw[h.2.1,g]at this;cases this
   |_=>simp only[ó,é,onCells]at h;cases h
 .exact a i c T k l h g
def e9.fW(w:World)(T:TypeId)(cs:Array Value)(off:Nat)(d:Array UInt8)(n:Nat)(hT:mb T=false:=by decide):e9 (λ_=>False) w ((putRow zy (w.alloc<|.cells cs T) w.heap.size off d).drewN n):= ⟨by simp[κ,ņ,World.drewN],λk hk _=>by show(ņ (w.alloc<|Ð cs T) w.heap.size _).heap[k]?=_;unfold ņ;simp only[Ý];rw[if_neg Z];exact ē _ _ _ hk,λa=>anZ (IT a cs T (0,0)) _ _,λ_ a=>an0 (IU a cs T (0,0)<|Ù hT) _ _<|fg.G (fg.N w cs.toList T) hT⟩
def an1(w:É)(T:õ)(a:Nat)(c:a<=24):Holds zy (w.alloc<|Ð ħ T) w.heap.size 0 (Œ a (0:UInt8)):=λj b=>by
 have d:j<a:=by simpa using b
 refine⟨?_,World.frozen?_alloc_new _ _ _ _⟩;rw[World.cell?_alloc_new,Lib.zeros24_at _ Z,getElem!_pos _ j b];simp[zy]
def gf(u:Nat):ByteArray:=⟨(Ł u).toArray⟩
def an2(u:Nat)(h:u<100)(w:É):Ò À 172 #[Â Æ u,Â Ë 10] w λe a=>e=È (Í<|gf u)/\a=w:=by go_enter aI,ω;go_wp2_with (go_at_call 187;refine(Tryz.internal_strconv_small u h _).mono ?_;rintro e a ⟨rfl,rfl⟩);go_ret;exact⟨U,U⟩
def an3(u:Nat)(h:¬u<100)(c:u<18446744073709551616)(w:É)(m:lL w):Ò À 172 #[Â Æ u,Â Ë 10] w λe b=>e=È (Í<|gf u)/\e9 (λ_=>False) w b:=by
 have g:1<=u:=Z
 have o:đ u<=20:=by have:=Lib.numDigits_eq u g c;split at this<;>omega
 have n:À.arrayLen 276=24:=ft
 have p:∀W,(Instr.sliceAt 276 (Å<|Ã ⟨w.heap.size,0,Ä⟩) Ä (Ã<|Â Ë (đ u:Int)) Ä).run À W=ag (Ê (Ã ⟨w.heap.size,0,Ä⟩) (đ u) 24) W:=λW=>by rw[run_sliceAt_array_h W 276 ⟨w.heap.size,0,Ä⟩ (by simp[Program.arrayLen,Program.elem,Tryz.type276]) Ë (đ u:Int) Z (by rw[n];omega)];go_simp
 have i:=an1 w 276 (đ u) Z;have l:=Tryz.internal_strconv_formatBase10 w.heap.size 0 24 u (Œ (đ u) 0) (w.alloc<|Ð ħ 276) i (by rw[Ē];exact Lib.lt_pow_nDigits u) c (by rw[Ē];omega);rw[Ē]at l;go_enter aI,ω;go_wp2_with (go_at_call 188;refine(Tryz.internal_strconv_numDigits u g c _<|Lib.tabIs_alloc m _).mono ?_;rintro e b ⟨rfl,rfl⟩);go_at_call 189;apply l.mono;rintro e b ⟨rfl,k,q,a,d,hF⟩;replace d:b=(κ zy (w.alloc<|Ð ħ 276) w.heap.size 0 a).drewN k:=d;subst d;have r:(convert 107 9<|Ê (Ã ⟨w.heap.size,0,Ä⟩) (đ u) 24).run À ((κ zy (w.alloc<|Ð ħ 276) w.heap.size 0 a).drewN k)=ag (Í<|gf u) ((κ zy (w.alloc<|Ð ħ 276) w.heap.size 0 a).drewN k):=by have h:=run_convert_bytes_back (P:=À) ((κ zy (w.alloc<|Ð ħ 276) w.heap.size 0 a).drewN k) 107 9 5 ⟨w.heap.size,0,Ä⟩ 24 (Ł u) ft ft ft (λj f=>by rw[Lib.row_is_numeral hF j f,Lib.add_plain,World.cell?_drewN];exact cell?_putRow zy _ w.heap.size 0 _ a (Lib.hid i).out (by rw[hF.size,Ē]) j<|by rw[hF.size];rwa[Ĩ]at f);rwa[Ĩ]at h
 go_wp2;go_ret;exact⟨U,e9.fW w 276 _ _ a k⟩
def an4(u:Nat)(d:u<18446744073709551616)(w:É)(f:lL w):Ò À 172 #[Â Æ u,Â Ë 10] w λe c=>e=È (Í<|gf u)/\e9 (λ_=>False) w c:=by
 by_cases h:u<100
 .exact(an2 u h w).mono λe c ⟨a,b⟩=>⟨a,b▸e9.fT _ _⟩
 .exact an3 u h d w f
def an5(u:Nat)(b:u<18446744073709551616)(w:É)(c:lL w):Ò À 157 #[Â Æ u,Â Ë 10] w λe a=>e=È (Í<|gf u)/\e9 (λ_=>False) w a:=by go_enter Tryz.func157,Tryz.ntmps157;go_wp2_with (go_at_call 172;refine(an4 u b _ c).mono ?_;rintro e a ⟨rfl,d⟩);go_ret;exact⟨U,d⟩
def xH(u:Nat)(b:u<18446744073709551616)(w:É)(c:lL w):Ò À 118 #[Â Æ u] w λe a=>e=È (Í<|gf u)/\e9 (λ_=>False) w a:=by go_enter Tryz.func118,Tryz.ntmps118;go_wp2_with (go_at_call 157;refine(an5 u b _ c).mono ?_;rintro e a ⟨rfl,d⟩);go_ret;exact⟨U,d⟩
end Go.Proofs.Y.gO
namespace Go.Proofs.Y.gO
open Go Go.Proofs Go.RowKit Go.Proofs.Y.Lift
def Tz(B:Nat):iT:=⟨B,144,[]⟩
def an6(B:Nat):(Tz B).Ok:=⟨show(144:Nat)≠36 by decide,show(144:Nat)≠257 by decide,show(144:Nat)≠282 by decide,show(144:Nat)≠300 by decide,show(144:Nat)≠252 by decide,show(144:Nat)≠246 by decide⟩
def aai{s:St}(l:mh n s h w)(z:gF s)(B:iJ w)(x y:Nat)(g k:Int)(T:x<8)(V:y<8)(Y:0<=g)(uD:g<=100000)(hk:fY k)(r:C8)(D:r=gk s [] x y g k): Ò À 158 #[Å<|Ã ⟨n,0,Ä⟩,Â Ë x,Â Ë y,Â Æ g,Â Æ k] w λe f=>
  ∃lv,e=È (ç #[Ė #[Â Æ r.r,Ñ r.C,Â Æ r.M],lv])/\f.ownsRow 0 257 2 lv r.I.length (kl r.I)/\e9 (λ_=>False) w f:=by
 let⟨dd,E,F⟩:=Ì.1 S9;have G:(À.info? 140).map (·.size)=Ã (im s).length:=by rw[rQ];exact J'
 let⟨i0,z0,I,J,K,L⟩:=w_ u_;have m:=SS s (lv:=Ê Ä 0 0) U;rw[zt]at m;have o:(im s++[Ê Ä 0 0]).length=145:=by rw[Ó,rQ];rfl
 have M:=e9.gG (λ_=>False) w #[Â Æ 0,Ñ Ï,Â Æ 0] 252;have N:=(l.r M id).C;have gJ:=â w _ l.h;have C:∀W,iz (w.heap.size+1) 144 [] s (Ê Ä 0 0) W->iJ W->Ò À 173 #[Å<|Ã ⟨w.heap.size+1,0,Ä⟩,Â Ë x,Â Ë y,Â Æ g,Â Æ k,Â Ë 1] W λe f=>e=È (Ė #[Â Æ r.r,Ñ r.C,Â Æ r.M])/\∃jz,il (Tz<|w.heap.size+1) (Ê Ä 0 0) 0 W r.s r.I f jz:=λW hW hrW=>by rw[D];exact D_ (Tz<|w.heap.size+1) (an6 _) s _ [] x y g k W hW (ă _ _ _ _) hrW z T V Y uD hk<|by simp;omega
 have a:=fe<|Á E<|Á F<|Á G<|Á N<|Á I<|Á K<|Á (J.trans o.symm)<|Á (L.trans o.symm) m;have H:=fe<|Á B C;clear E F G I J K L m o N l C B z M D;go_enter Tryz.func158,Tryz.ntmps158;go_wp2_with (first
  |(with_reducible refine ě U 140 _ U n 0 U (im s) dd a.out.2.2.2.1 a.out.1 a.out.2.1 a.out.2.2.1 ?_)
  |(with_reducible refine Ċ U (Ã 19) U _ _ (S8 U U<|rQ s) ?_)
  |(with_reducible refine SR U U 144 U 12 U _ _ U U a.out.2.2.2.2.1 a.out.2.2.2.2.2.1 (im s++[Ê Ä 0 0]) a.out.2.2.2.2.2.2.1 a.out.2.2.2.2.2.2.2.1 U U a.out.2.2.2.2.2.2.2.2 ?_;intro t hB1 O Sk))
 have CN:t.heap.size=w.heap.size+1+1:=by simpa using Sk
 have P:iz (w.heap.size+1) 144 [] s (Ê Ä 0 0) t:=by unfold iz;rw[ô,zt];simpa using hB1
 have Q:=(e9.gG _ _ _ _).ff O;have Ld:=(fg.N w [Â Æ 0,Ñ Ï,Â Æ 0] 252).I O id;go_at_call 173;refine(H.out.2 t P<|H.out.1.r Q id).mono ?_;rintro e u ⟨rfl,lv,d⟩;have b:=Ld.I d.C (λq=>q.elim (λq=>absurd q<|by show w.heap.size≠w.heap.size+1;omega) λq=>by cases q);have sK:=d.C.M;have hlv:u.cell? ⟨w.heap.size+1,144,Ä⟩=Ã lv:=d.r.IZ Z;obtain⟨la,lc,rfl⟩:=jh d.I;have l0:=b.M;have y0:=b.C 0;have y1:=b.C 1;have y2:=b.C 2;have c0:=b.r 0 _ U;have c1:=b.r 1 _ U;have c2:=b.r 2 _ U;have hl2:w.heap.size+1<u.heap.size:=Z
 have c:=fe<|Á d<|Á b<|Á Q P;go_wp2_with fail;go_region;go_wp2_with fail;let⟨d2,mT,rJ⟩:=Ì.1 SV;have S:=((e9.I (X:=λk=>k=w.heap.size) (w:=u) (p:=⟨w.heap.size,0,Ä⟩) U<|Â Æ r.r).ff<|e9.I (X:=λk=>k=w.heap.size) (p:=⟨w.heap.size,1,Ä⟩) U<|Ñ r.C).ff (e9.I (X:=λk=>k=w.heap.size) (p:=⟨w.heap.size,2,Ä⟩) U<|Â Æ r.M);have v:=λW=>(e9.gG (λ_=>False) W #[Â Æ r.r,Ñ r.C,Â Æ r.M] 252).ff<|e9.fR _ _;apply ò (zr U U (fg.Y (vs:=[Â Æ r.r,Ñ r.C,Â Æ r.M])<|(((c.out.2.1.fW 0<|Â Æ r.r).fW 1<|Ñ r.C).fW 2<|Â Æ r.M).I (v _) id) mT rJ SY) U;refine⟨_,U,ia (ia c.out.1.I S λj hj y=> ?_) (v _) λ_ _=>id,?_⟩
 .let⟨j,i⟩:=lG c.out.1.I hj;rw[y,c.out.2.1]at i;cases i
 .refine((c.out.2.2.1.C c.out.1.C λi j q=> ?_).C S λi j q=> ?_).ff<|v _
  .rcases q with q|q
   .exact absurd q<|by show i≠w.heap.size+1;omega
   .cases q
  .omega
def tf(s:St)(x y:Nat)(k:Int):Nat->Nat->ByteArray
 |_,0=>⟨#[45]⟩
 |i,n+1=>if(gk s [] x y i k).C then gf i else tf s x y k (i+1) n
noncomputable def Nf:Ŗ:=(Tryz.f120.body.bind km).getD Ļ
def Dn(a x y:Nat)(k:Int)(r:Ç)(i:Int)(u:Nat->Ç):ê:=⟨#[Å<|Ã ⟨a,0,Ä⟩,Â Ë x,Â Ë y,Â Æ k,u 4,u 5,u 6,u 7,r,u 9,u 10,u 11,Â Æ i,u 13,u 14,u 15,u 16,u 17,u 18,u 19,u 20,u 21,u 22,u 23,u 24,u 25,u 26,u 27,u 28,u 29],[]⟩
def zz(b x y:Nat)(k:Int)(r:Ç)(i:Int)(a:ê):Prop:=∃u,a=Dn b x y k r i u
theorem lL.r(h:lL w)(q:e9 (λ_=>False) w u):lL u:=by
 unfold lL aj World.var? at*;cases a:À.globalNamed "internal/strconv.uint64pow10" with
 |none=>rw[a]at h;cases h
 |some g=>
  rw[a]at h;simp only[Option.bind_some]at h|-;have b:g<w.heap.size:=by grind
  rwa[q.N g b id]
section
variable{Y:ê->É->Prop}{s:St}
def an7(b:Ç)(u:Nat->Ç)(d:∀a,zz j i n c b 401 a->H a w): Î À Nf (Exit.then K<|QN H Y) (Dn j i n c b 401 u) w:=by
 unfold Dn;conv=>arg 2;whnf
 go_wp2_with fail
 exact d _ (gi _)
def an8(p:Ç)(u:Nat->Ç)(b:Nat)(P:b<401)(B:mh j s h w)(C:gF s)(D:iJ w)(E:lL w)(F:i<8)(G:n<8)(I:fY c) (q:(gk s [] i n b c).C=Ï->∀a g,zz j i n c p ((b+1:Nat):Int) a->e9 (λ_=>False) w g->K a g) (r:(gk s [] i n b c).C=Ü->∀a g,zz j i n c (Í<|gf b) b a->e9 (λ_=>False) w g->Y a g): Î À Nf (Exit.then K<|QN H Y) (Dn j i n c p b u) w:=by
 unfold Dn;conv=>arg 2;whnf
 have T:=aai B C D i n b c F G Z Z I _ U;obtain⟨t,o,v,x,y,J⟩:∃t o v x y,gk s [] i n b c=⟨t,o,v,x,y⟩:=⟨_,_,_,_,_,U⟩;rw[J]at T q r;have d:=fe<|Á T<|Á q<|Á r E;cases o with
 |true=>
  go_wp2_with (first
   |(go_at_call 158;refine d.out.1.mono ?_;rintro e l ⟨L,rfl,f,k⟩;obtain⟨M,N,rfl⟩:=jh f;have m:=fe<|Á k f;clear k f)
   |(go_at_call 118;refine(xH b Z _ (d.out.2.2.2.r (m.out.1.ff (e9.gG (λ_=>False) l _ _)))).mono ?_;rintro e Q ⟨rfl,z⟩;have O:=fe z;clear z))
  exact d.out.2.2.1 trivial _ _ (gi _)<|(m.out.1.ff<|e9.gG (λ_=>False) l _ _).ff O.out
 |false=>
  go_wp2_with (first
   |(go_at_call 158;refine d.out.1.mono ?_;rintro e l ⟨L,rfl,f,k⟩;obtain⟨M,N,rfl⟩:=jh f;have m:=fe (Á k f);clear k f))
  exact d.out.2.1 trivial _ _ (gi _)<|m.out.1.ff<|e9.gG (λ_=>False) l _ _
def LI(j i n:Nat)(c:Int)(d:Ç)(s:St)(e:É)(f:ByteArray)(a:ê)(w:É):Prop:=
 ∃b:Nat,zz j i n c d b a/\b<=401/\e9 (λ_=>False) e w/\tf s i n c b (401-b)=f
def LE(j i n:Nat)(c:Int)(b:Ç)(d:É)(e:ByteArray)(a:ê)(w:É):Prop:=zz j i n c b 401 a/\e9 (λ_=>False) d w/\e=⟨#[45]⟩
def LR(j i n:Nat)(c:Int)(d:É)(e:ByteArray)(a:ê)(w:É):Prop:=∃b,zz j i n c (Í e) b a/\e9 (λ_=>False) d w
def Ng(a:ê)(_:É):Nat:=match a.tmps.getD 12 Ą with
 |Â _ i=>401-i.toNat
 |_=>0
def aaj(d:zz j i n c v b y):Ng y w=401-b:=by obtain⟨u,rfl⟩:=d;show 401-(b:Int).toNat=_;simp
def an9(p:mh j s h u)(r:gF s)(t:iJ u)(x:lL u)(y:i<8)(z:n<8)(C:fY c)(a:ê)(w:É)(D:LI j i n c v s u B a w): Î À Nf (Exit.then (λg k=>LI j i n c v s u B g k/\Ng g k<Ng a w)<|QN (LE j i n c v u B)<|LR j i n c u B) a w:=by
 let⟨b,o,H,e,f⟩:=D;rw[aaj (w:=w) o];obtain⟨d,rfl⟩:=o;by_cases E:b=401
 .subst E;exact an7 v d λa q=>⟨q,e,f.symm⟩
 .have F:401-b=(401-(b+1))+1:=Z
  rw[F,tf]at f;refine an8 v d b Z (p.r e id) r (t.r e id) (x.r e) y z C ?_ ?_
  .intro l g k q m;rw[l]at f;exact⟨⟨b+1,q,Z,e.ff m,f⟩,by rw[aaj q];omega⟩
  .intro l g k q m;rw[l]at f;have G:gf b=B:=f;rw[G]at q;exact⟨b,q,e.ff m⟩
def aoa(d:mh j s h w)(f:gF s)(g:iJ w)(k:lL w)(l:i<8)(m:n<8)(o:fY c): Ò À 120 #[Å<|Ã ⟨j,0,Ä⟩,Â Ë i,Â Ë n,Â Æ c] w λe a=>e=È (Í<|tf s i n c 0 401)/\e9 (λ_=>False) w a:=by
 have L:∀a,zz j i n c (Í ⟨#[]⟩) 0 a->Î À (á Nf) (QN (LE j i n c (Í ⟨#[]⟩) w<|tf s i n c 0 401)<|LR j i n c w<|tf s i n c 0 401) a w:=λa p=>
  Č (LI j i n c (Í ⟨#[]⟩) s w<|tf s i n c 0 401) Ng ⟨0,p,ã _,e9.fT _ _,U⟩<|an9 d f g k l m o
 generalize tf s i n c 0 401=r at*;go_enter Tryz.func120,Tryz.ntmps120;go_wp2_with fail;refine Þ ?_ ((fe L).out _ (gi _));rintro(_|(_|_)|_|_|_|_) a v hq;all_goals first|exact absurd hq id|skip
 .obtain⟨b,q,rfl⟩:=hq;obtain⟨u,rfl⟩:=b;unfold Dn;go_wp2_with fail;go_ret;simp_all
 .let⟨e,b,q⟩:=hq;obtain⟨u,rfl⟩:=b;unfold Dn;go_wp2_with fail;go_ret;simp_all
end
def zC:(À.info? 9).map (λi=>(i.zero,i.size,i.bytes))=Ã (Ã<|Í ⟨#[]⟩,1,16):=ft
def jl(xs:List ByteArray):List Ç:=xs.map Í
structure ic(w0:É)(tv:Ç)(xs:List ByteArray)(w:É):Prop where
 fp:w.ownsRow w0.heap.size 9 1 tv xs.length (jl xs)
 r:e9 (λ_=>False) w0 w
section
variable{w0:É}{tv:Ç}{xs:List ByteArray}
def ic.M(w0:É){w:É}(k:e9 (λ_=>False) w0 w):ic w0 (Ê Ä 0 0) [] w:=⟨ă _ _ _ _,k⟩
def ic.fK(h:ic w0 tv xs w)(k:e9 (λ_=>False) w u):ic w0 tv xs u:=⟨ia h.fp k λ_ _=>id,h.r.ff k⟩
def ic.C(h:ic w0 tv xs w)(a:qf w w0.heap.size 9 1 tv xs.length (jl xs) 1 [Í B] v u):ic w0 v (xs++[B]) u:=by
 refine⟨?_,h.r.C a.r λi b q=> ?_⟩
 .have:=a.fp;rwa[show jl xs++[Í B]=jl (xs++[B]) by simp[jl],show xs.length+1=(xs++[B]).length by simp]at this
 .have:=(h.fp.lt i q).1;omega
end
def pw(u:Nat)(h:u<18446744073709551616):(gf u).size<=20:=by have:=Lib.nDigits_le20 u h;unfold gf;show(Ł u).toArray.size<=20;simp[Ĩ];omega
def ny(p:Option ć)(a:List Ç)(w:É):Prop:=∀(j:Nat) (x:Ç),a[j]?=Ã x->∃b o,p=Ã ⟨b,o,Ä⟩/\w.cell? ⟨b,o+j,Ä⟩=Ã x
def ny.C(h:ny O l w)(q:e9 (λ_=>False) w u):ny O l u:=λj x a=>by let⟨b,o,c,d⟩:=h j x a;exact⟨b,o,c,q.r d id⟩
def ny.r{base:Nat}(h:w.ownsRow base e i (Ê O n j) n l):ny O l w:=λb x d=>by
 rcases h.2 with⟨f,k⟩|⟨g,m,o,f,_⟩
 .have:=h.1;rw[k,Nat.zero_mul]at this;rw[à this]at d;cases d
 .cases f;refine⟨g,0,U,?_⟩;have:=h.cells (g:=g) U b x d;rwa[Addr.add_mid]at this
def TA{α:Type}(f g:α->Ç):∀(l:List α) (j:Nat) (x:α),l[j]?=Ã x->(l.flatMap λp=>[f p,g p])[j*2]?=Ã (f x)/\(l.flatMap λp=>[f p,g p])[j*2+1]?=Ã (g x)
 |[],j,x,h=>by cases h
 |a::l,0,x,h=>by cases h;exact⟨U,U⟩
 |a::l,j+1,x,h=>by rw[show(j+1)*2=j*2+1+1 by omega];exact TA f g l j x h
def iG(y:Nat):ByteArray:=ù ⟨#[97,98,99,100,101,102,103,104]⟩ y<|y+1
def rW(e:Nat×Int):ByteArray:=iG e.1++gf e.2.toNat
noncomputable def Nh:Ŗ:=(Tryz.f124.body.bind km).getD Ļ
def FR(a:Option ć)(n b:Nat)(c:Ç)(i:Int)(u:Nat->Ç):ê:=⟨#[Ê a n b,u 1,u 2,c,u 4,u 5,Ê a n b,Â Ë n,Â Ë i,u 9,u 10,u 11,u 12,u 13,u 14,u 15,u 16,u 17,u 18,u 19,u 20,u 21,u 22,u 23,u 24,u 25,u 26],[]⟩
def FT(b:Option ć)(n c:Nat)(d:Ç)(i:Int)(a:ê):Prop:=∃u,a=FR b n c d i u
section
variable{X:ê->É->Prop}{w0:É}{cp:Nat}{tv:Ç}{xs:List ByteArray}
def aob(u:Nat->Ç)(i:Int)(b:i=n)(c:∀a,FT O n cp tv n a->X a w): Î À Nh (Exit.then K<|QQ X) (FR O n cp tv i u) w:=by
 unfold FR;conv=>arg 2;whnf
 subst b;go_wp2_with fail;exact c _ (gi _)
def aoc(u:Nat->Ç)(r:ic w0 tv xs w)(j:Nat)(N:j<n)(P:n<=400000)(Q:xs.length<=400000)(y p:Nat)(S:y<8)(s:p<18446744073709551616)(B:lL w)(l m:Nat)(C:O=Ã ⟨l,m,Ä⟩)(T:w.cell? ⟨l,m+j*2,Ä⟩=Ã (Â Ë y))(V:w.cell? ⟨l,m+j*2+1,Ä⟩=Ã (Â Æ p)) (b:∀a d t,FT O n cp t ((j+1:Nat):Int) a->ic w0 t (xs++[iG y++gf p]) d->K a d): Î À Nh (Exit.then K<|QQ X) (FR O n cp tv j u) w:=by
 unfold FR;conv=>arg 2;whnf
 subst C;have W:(0:Int)<=(j:Int):=Z
 have Y:(j:Int)<(n:Int):=Z
 have y0:(0:Int)<=(y:Int):=Z
 have y1:(y:Int)<8:=Z
 have jr:=pw p s;have oF:Ë.wrap ((y:Int)+1)=(y:Int)+1:=by rw[ì];omega
 have E8:(0:Int)<=(y:Int)+1:=Z
 have yN:(y:Int)+1<=8:=Z
 have qP:(y:Int)<=(y:Int)+1:=Z
 have uw:((y:Int)+1).toNat=y+1:=Z
 have xC:¬9223372036854775807<min (y+1) 8-y+(gf p).size:=Z
 obtain⟨ta,tc,rfl⟩:=jh r.fp;have H:=fe<|Á r<|Á B b;go_wp2_with fail;change Î À _ _ _ (w.alloc<|Ð #[Â Ë y,Â Æ p] 257);have v:=e9.gG (λ_=>False) w #[Â Ë y,Â Æ p] 257;have D:=(H.out.1.fK v).fK<|e9.fR _ _;have E:=(H.out.2.1.r v).r<|e9.fR _ _;have o:=(fg.N w [Â Ë y,Â Æ p] 257).I (e9.fR (λ_=>False) _) id;let⟨i0,F,G,I,J⟩:=ï zC;have g:=fe<|Á F<|Á G<|Á I J;refine mg (λd=>d.cell? ⟨w.heap.size,0,Ä⟩=Ã (Â Ë y)/\d.cell? ⟨w.heap.size,1,Ä⟩=Ã (Â Æ p)) [] ft ?_;have c:=fe<|Á (o.r 0 _ rfl)<|o.r 1 _ rfl;generalize w.heap.size=ub at*;generalize ď (w.alloc<|Ð #[Â Ë y,Â Æ p] 257)=w1 at*;apply tk 0 c.out;apply tk 1 c.out;apply tk 2 c.out;apply tk 3 c.out;apply tk 4 c.out;apply tk 5 c.out;apply tk 6 c.out;apply tk 7 c.out;apply tk 8 c.out;apply gD 9;intro K b;go_simp;go_at_call 118;refine(xH p s _ E).mono ?_;rintro e L ⟨rfl,x⟩;have M:=D.fK x;have f:=o.I x id;apply b.out _ _ λ_=>⟨f.r 0 _ U,f.r 1 _ U⟩;apply gD 10;intro K b;go_simp;apply b.out _ _ λ_=>⟨f.r 0 _ U,f.r 1 _ U⟩;have z:=e9.gG (λ_=>False) L #[Í<|iG y++gf p] 9;have h:=M.fK z;have i:=f.I z id;apply gD 11;intro K b;go_simp;apply b.out _ _ λ_=>⟨i.r 0 _ U,i.r 1 _ U⟩;apply gD 12;intro K b;refine MN fO _ _ 25 fO ú g.out.1 g.out.2.1 g.out.2.2.1 g.out.2.2.2 U fO h.fp ⟨_,0,Ä⟩ [Í<|iG y++gf p] fO Z U (ā _ _ _) (λu k=>by simp at k;subst k;rfl) (by unfold Ĉ;omega) Z h.r.M ?_;intro tv1 w9 q;obtain⟨a2,L_,rfl⟩:=jh q.fp;have k:=i.I q.r<|jA h.fp i A;apply b.out _ _ λ_=>⟨k.r 0 _ U,k.r 1 _ U⟩;apply gD 13;intro K b;go_simp;apply b.out _ _ λ_=>⟨k.r 0 _ U,k.r 1 _ U⟩;refine lS ft ?_ _;go_wp2_with fail;exact H.out.2.2 _ _ _ (gi _)<|h.C q
def TB(O:Option ć)(n cp:Nat)(w0:É)(l:List (Nat×Int))(a:ê)(w:É):Prop:=
 ∃(j:Nat) (tv:Ç),FT O n cp tv j a/\j<=n/\ic w0 tv ((l.take j).map rW) w
def ltE(O:Option ć)(n cp:Nat)(w0:É)(l:List (Nat×Int))(a:ê)(w:É):Prop:=
 ∃tv,FT O n cp tv n a/\ic w0 tv (l.map rW) w
def Ni(n:Nat)(a:ê)(_:É):Nat:=match a.tmps.getD 8 Ą with
 |Â _ i=>n-i.toNat
 |_=>0
def aak(b:FT O n cp tv i y):Ni n y w=n-i:=by obtain⟨u,rfl⟩:=b;show n-(i:Int).toNat=_;simp
theorem aod{l:List (Nat×Int)}(D:n=l.length)(k:n<=400000)(m:xG l)(o:lL w0)(f:ny O (kl l) w0)(a:ê)(w:É)(p:TB O n cp w0 l a w): Î À Nh (Exit.then (λb d=>TB O n cp w0 l b d/\Ni n b d<Ni n a w)<|QQ<|ltE O n cp w0 l) a w:=by
 let⟨j,tv,g,E,b⟩:=p;rw[aak g];obtain⟨u,rfl⟩:=g;by_cases r:j=n
 .subst r;refine aob u _ U λa q=>⟨tv,q,?_⟩;grind
 .obtain⟨x,e⟩:∃x,l[j]?=Ã x:=⟨_,Ô Z⟩;obtain⟨g0,s⟩:=TA _ _ l j x e;let⟨t,v,h,y⟩:=f (j*2) _ g0;let⟨F,G,i,z⟩:=f (j*2+1) _ s;rw[h]at i;cases i;have c:=m x<|Đ e;refine aoc u b j Z k (by simp;omega) x.1 x.2.toNat c.1 (by have:=c.2.1;have:=c.2.2;omega) (o.r b.r) t v h (b.r.r y id) (by rw[Ę c.2.1];exact b.r.r z id) λa d B q C=>⟨⟨j+1,B,q,Z,?_⟩,by rw[aak q];omega⟩;rwa[Ζ,e,Ŕ]
def aal{l:List (Nat×Int)}(b:n=l.length)(g:n<=400000)(c:xG l)(d:lL w)(f:ny O (kl l) w): Ò À 124 #[Ê O n cp] w λe a=>∃tv,e=È tv/\ic w tv (l.map rW) a:=by
 have L:∀a,FT O n cp (Ê Ä 0 0) (0:Nat) a->Î À (á Nh) (QQ<|ltE O n cp w l) a w:=λa e=>
  Č (TB O n cp w l) (Ni n) ⟨0,_,e,ã _,ic.M w<|e9.fT _ _⟩<|aod b g c d f
 have H:=fe L;clear L c d f b;go_enter Tryz.func124,Tryz.ntmps124;go_wp2_with fail;refine Þ ?_ (H.out _ (gi _));rintro(_|(_|_)|_|_|_|_) a v hq;all_goals first|exact absurd hq id|skip
 let⟨tv,h,i⟩:=hq;obtain⟨u,rfl⟩:=h;unfold FR;go_wp2_with fail;go_ret;simp_all
end
def aam(b:Bool):xu b=((b.toNat:Nat):Int):=by cases b<;>rfl
def FU(e:Int×Bool):ByteArray:=gf e.2.toNat++⟨#[58]⟩++gf e.1.toNat
noncomputable def Nj:Ŗ:=(Tryz.f125.body.bind km).getD Ļ
def FV(a:Option ć)(n b:Nat)(c:Ç)(i:Int)(u:Nat->Ç):ê:=⟨#[Ê a n b,u 1,u 2,c,u 4,u 5,Ê a n b,Â Ë n,Â Ë i,u 9,u 10,u 11,u 12,u 13,u 14,u 15,u 16,u 17,u 18,u 19,u 20,u 21,u 22,u 23,u 24,u 25],[]⟩
def FW(b:Option ć)(n c:Nat)(d:Ç)(i:Int)(a:ê):Prop:=∃u,a=FV b n c d i u
section
variable{cp:Nat}{xs:List ByteArray}
def aoe(u:Nat->Ç)(i:Int)(b:i=n)(c:∀a,FW O n cp v n a->H a w): Î À Nj (Exit.then K<|QQ H) (FV O n cp v i u) w:=by
 unfold FV;conv=>arg 2;whnf
 subst b;go_wp2_with fail;exact c _ (gi _)
def aof(c:Nat->Ç)(r:ic u v xs w)(j:Nat)(hj:j<n)(hn:n<=1000)(tX:xs.length<=1000)(p:Nat)(b:Bool)(C:p<18446744073709551616)(D:lL w)(s t:Nat)(V:O=Ã ⟨s,t,Ä⟩)(W:w.cell? ⟨s,t+j*2,Ä⟩=Ã (Â Æ p))(X:w.cell? ⟨s,t+j*2+1,Ä⟩=Ã (Ñ b)) (f:∀a h E,FW O n cp E ((j+1:Nat):Int) a->ic u E (xs++[gf b.toNat++⟨#[58]⟩++gf p]) h->K a h): Î À Nj (Exit.then K<|QQ H) (FV O n cp v j c) w:=by
 unfold FV;conv=>arg 2;whnf
 subst V;have jr:=pw p C;have F:b.toNat<18446744073709551616:=by cases b<;>decide
 have hsb:=pw b.toNat F;have xC:¬9223372036854775807<(gf b.toNat).size+1:=Z
 have hw5:¬9223372036854775807<(gf b.toNat).size+1+(gf p).size:=Z
 obtain⟨ta,tc,rfl⟩:=jh r.fp;have d:=fe<|Á r<|Á D f;clear r D f;go_wp2_with fail;change Î À _ _ _ (w.alloc<|Ð #[Â Æ p,Ñ b] 246);have G:=e9.gG (λ_=>False) w #[Â Æ p,Ñ b] 246;have Y:=(d.out.1.fK G).fK<|e9.fR _ _;have I:=(d.out.2.1.r G).r<|e9.fR _ _;have x:fg w.heap.size [Â Æ p,Ñ b] 246 (ď<|w.alloc<|Ð #[Â Æ p,Ñ b] 246):=(fg.N w [Â Æ p,Ñ b] 246).I (e9.fR (λ_=>False) _) id;let⟨i0,J,L,M,N⟩:=ï zC;have k:=fe<|Á J<|Á L<|Á M N;clear J L M N W X;refine mg (λh=>h.cell? ⟨w.heap.size,0,Ä⟩=Ã (Â Æ p)/\h.cell? ⟨w.heap.size,1,Ä⟩=Ã (Ñ b)) [] ft ?_;have g:=fe<|Á (x.r 0 _ rfl)<|x.r 1 _ rfl;generalize w.heap.size=ub at*;generalize ď (w.alloc<|Ð #[Â Æ p,Ñ b] 246)=w1 at*;apply tk 0 g.out;apply tk 1 g.out;apply tk 2 g.out;apply tk 6 g.out;apply tk 7 g.out;apply gD 3;intro K f;go_simp;go_at_call 159;refine(I1 _ _).mono ?_;rintro e P ⟨rfl,qP⟩;subst P;dsimp only;rw[aam];apply f.out _ _ λ_=>g.out;clear f K;apply gD 4;intro K f;go_simp;go_at_call 118;refine(xH b.toNat F _ I).mono ?_;rintro e P ⟨rfl,y⟩;have T2:=Y.fK y;have z:=x.I y id;have P2:=I.r y;have Q:=fe<|Á (z.r 0 _ rfl)<|z.r 1 _ rfl;dsimp only;apply f.out _ _ λ_=>Q.out;clear f K;apply tk 5 Q.out;apply gD 8;intro K f;go_simp;go_at_call 118;refine(xH p C _ P2).mono ?_;rintro e w3 ⟨rfl,S⟩;have i:=z.I S id;dsimp only;apply f.out _ _ λ_=>⟨i.r 0 _ U,i.r 1 _ U⟩;clear f K;apply gD 9;intro K f;go_simp;apply f.out _ _ λ_=>⟨i.r 0 _ U,i.r 1 _ U⟩;clear f K;have T:=e9.gG (λ_=>False) w3 #[Í<|gf b.toNat++⟨#[58]⟩++gf p] 9;have l:=(T2.fK S).fK T;have o:=i.I T id;apply gD 10;intro K f;go_simp;apply f.out _ _ λ_=>⟨o.r 0 _ U,o.r 1 _ U⟩;clear f K;apply gD 11;intro K f;refine MN (base:=u.heap.size) (n:=xs.length) (xs:=jl xs) (m:=1) fO _ _ 25 fO ú k.out.1 k.out.2.1 k.out.2.2.1 k.out.2.2.2 U fO l.fp ⟨_,0,Ä⟩ [Í<|gf b.toNat++⟨#[58]⟩++gf p] fO Z U (ā _ _ _) (λc q=>by simp at q;subst q;rfl) (by unfold Ĉ;omega) Z l.r.M ?_;intro tv1 w9 B;obtain⟨a2,L_,rfl⟩:=jh B.fp;have q:=o.I B.r<|jA l.fp o A;apply f.out _ _ λ_=>⟨q.r 0 _ U,q.r 1 _ U⟩;clear f K;apply gD 12;intro K f;go_simp;apply f.out _ _ λ_=>⟨q.r 0 _ U,q.r 1 _ U⟩;clear f K;try simp only[ĺ,Ö,ä,å]
 refine lS ft ?_ _;go_wp2_with fail;exact d.out.2.2 _ _ _ (gi _)<|l.C B
def TC(O:Option ć)(n cp:Nat)(u:É)(l:List (Int×Bool))(a:ê)(w:É):Prop:=
 ∃(j:Nat) (v:Ç),FW O n cp v j a/\j<=n/\ic u v ((l.take j).map FU) w
def TD(O:Option ć)(n cp:Nat)(u:É)(l:List (Int×Bool))(a:ê)(w:É):Prop:=
 ∃v,FW O n cp v n a/\ic u v (l.map FU) w
def Nk(n:Nat)(a:ê)(_:É):Nat:=match a.tmps.getD 8 Ą with
 |Â _ i=>n-i.toNat
 |_=>0
def aan(b:FW O n cp v i y):Nk n y w=n-i:=by obtain⟨u,rfl⟩:=b;show n-(i:Int).toNat=_;simp
def aog{l:List (Int×Bool)}(m:n=l.length)(o:n<=1000)(p:zx l)(r:lL u)(g:ny O (uH l) u)(a:ê)(w:É)(s:TC O n cp u l a w): Î À Nj (Exit.then (λb d=>TC O n cp u l b d/\Nk n b d<Nk n a w)<|QQ<|TD O n cp u l) a w:=by
 let⟨j,v,h,G,c⟩:=s;rw[aan h];obtain⟨b,rfl⟩:=h;by_cases t:j=n
 .subst t;refine aoe b _ U λa q=>⟨v,q,?_⟩;rwa[m,List.take_length]at c
 .obtain⟨x,e⟩:∃x,l[j]?=Ã x:=⟨_,Ô Z⟩;obtain⟨g0,y⟩:=TA _ _ l j x e;let⟨z,B,i,C⟩:=g (j*2) _ g0;let⟨H,I,k,D⟩:=g (j*2+1) _ y;rw[i]at k;cases k;have f:=p x<|Đ e;refine aof b c j Z o (by simp;omega) x.1.toNat x.2 (by have:=f.1;have:=f.2;omega) (r.r c.r) z B i (by rw[Ę f.1];exact c.r.r C id) (c.r.r D id) λa d E q F=>⟨⟨j+1,E,q,Z,?_⟩,by rw[aan q];omega⟩;rwa[Ζ,e,Ŕ]
def aoh{l:List (Int×Bool)}(b:n=l.length)(g:n<=1000)(c:zx l)(d:lL w)(f:ny O (uH l) w): Ò À 125 #[Ê O n cp] w λe a=>∃v,e=È v/\ic w v (l.map FU) a:=by
 have L:∀a,FW O n cp (Ê Ä 0 0) (0:Nat) a->Î À (á Nj) (QQ<|TD O n cp w l) a w:=λa h=>
  Č (TC O n cp w l) (Nk n) ⟨0,_,h,ã _,ic.M w<|e9.fT _ _⟩<|aog b g c d f
 have H:=fe L;clear L c d f b;go_enter Tryz.func125,Tryz.ntmps125;go_wp2_with fail;refine Þ (Q:=QQ<|TD O n cp w l) ?_ (H.out _ (gi _));rintro(_|(_|_)|_|_|_|_) a v hq;all_goals first|exact absurd hq id|skip
 let⟨v,i,e⟩:=hq;obtain⟨u,rfl⟩:=i;unfold FV;have j:=fe e;clear e;go_wp2_with fail;go_ret;exact⟨_,U,j.out⟩
end
def Dp(j:Nat):ByteArray:=ù ⟨#[48,49,50,51,52,53,54,55,56,57,97,98,99,100,101,102]⟩ j<|j+1
def Dq(s t:St)(i j:Nat):List ByteArray:=if(s i).C j=(t i).C j then[]else[iG i++Dp j]
def qW(s t:St)(i j:Nat):List ByteArray:=(Ď j).flatMap<|Dq s t i
def xI(b a:Int)(p c:ByteArray)(i:Nat):List ByteArray:=(if b=a then[]else[iG i++⟨#[36]⟩])++(if p.toList=c.toList then[]else[iG i++⟨#[123]⟩])
def zD(s t:St)(i:Nat):List ByteArray:=xI (s i).fl (t i).fl (s i).r (t i).r i++qW s t i 16
def qY(s t:St)(n:Nat):List ByteArray:=(Ď n).flatMap<|zD s t
def aoi(s t:St)(i j:Nat):(Dq s t i j).length<=1:=by unfold Dq;split<;>simp
def TF(s t:St)(i j:Nat):qW s t i (j+1)=qW s t i j++Dq s t i j:=by unfold qW;rw[œ,ũ];simp
def Nl(s t:St)(i:Nat):∀j,(qW s t i j).length<=j
 |0=>by simp[qW]
 |j+1=>by rw[TF,Ó];have:=Nl s t i j;have:=aoi s t i j;omega
def aao(b a:Int)(p c:ByteArray)(i:Nat):(xI b a p c i).length<=2:=by unfold xI;rw[Ó];split<;>split<;>simp
def aap(s t:St)(n:Nat):qY s t (n+1)=qY s t n++zD s t n:=by unfold qY;rw[œ,ũ];simp
def TG(s t:St):∀n,(qY s t n).length<=18*n
 |0=>by simp[qY]
 |n+1=>by rw[aap,Ó];have:=TG s t n;unfold zD;rw[Ó];have:=Nl s t n 16;have:=aao (s n).fl (t n).fl (s n).r (t n).r n;omega
def xK(i:Nat):(iG i).size<=1:=by unfold iG;rw[Ő];omega
def aaq(i:Nat):(Dp i).size<=1:=by unfold Dp;rw[Ő];omega
def mh.gS{s:St}(c:mh n s h W)(a:i<8):W.cell? ⟨n,i*18,Ä⟩=Ã (Â Æ (s i).fl)/\W.cell? ⟨n,i*18+1,Ä⟩=Ã (Í (s i).r)/\∀j,j<16->W.cell? ⟨n,i*18+2+j,Ä⟩=Ã (Â Æ<|(s i).C j):=by
 have g:∀j,j<144->W.cell? ⟨n,j,Ä⟩=Ã (qh s j):=λj b=>by have:=c.C j _<|Tm s b;simpa using this
 refine⟨?_,?_,λj b=> ?_⟩
 .rw[g _ Z,<-qi s (Ê Ä 0 0) Z,IX _ _ a];rfl
 .rw[g _ Z,<-qi s (Ê Ä 0 0) Z,MG _ _ a]
 .rw[g _ Z,<-qi s (Ê Ä 0 0) Z,MH _ _ a b];rfl
noncomputable def zE:Ŗ:=(Tryz.f126.body.bind km).getD Ļ
noncomputable def xL:Ŗ:=(km zE).getD Ļ
def uJ(a b i:Nat)(c:Ç)(j:Int)(u:Nat->Ç):ê:=⟨#[Å<|Ã ⟨a,0,Ä⟩,Å<|Ã ⟨b,0,Ä⟩,u 2,u 3,u 4,c,Â Ë i,Í<|iG i,Å<|Ã ⟨a,i*18,Ä⟩,Å<|Ã ⟨b,i*18,Ä⟩,u 10,Â Ë i,u 12,u 13,u 14,u 15,u 16,u 17,u 18,u 19,u 20,u 21,u 22,u 23,u 24,u 25,u 26,u 27,u 28,u 29,u 30,u 31,u 32,u 33,u 34,u 35,u 36,u 37,u 38,u 39,u 40,u 41,u 42,u 43,u 44,u 45,u 46,u 47,u 48,u 49,u 50,u 51,u 52,u 53,Â Ë j,u 55,u 56,u 57,u 58,u 59,u 60,u 61,u 62,u 63,u 64,u 65,u 66,u 67,u 68,u 69,u 70,u 71,u 72,u 73,u 74,u 75,u 76,u 77,u 78,u 79,u 80,u 81],[]⟩
def uK(b c i:Nat)(d:Ç)(j:Int)(a:ê):Prop:=∃u,a=uJ b c i d j u
def tg(a b:Nat)(c:Ç)(i:Int)(u:Nat->Ç):ê:=⟨#[Å<|Ã ⟨a,0,Ä⟩,Å<|Ã ⟨b,0,Ä⟩,u 2,u 3,u 4,c,u 6,u 7,u 8,u 9,u 10,Â Ë i,u 12,u 13,u 14,u 15,u 16,u 17,u 18,u 19,u 20,u 21,u 22,u 23,u 24,u 25,u 26,u 27,u 28,u 29,u 30,u 31,u 32,u 33,u 34,u 35,u 36,u 37,u 38,u 39,u 40,u 41,u 42,u 43,u 44,u 45,u 46,u 47,u 48,u 49,u 50,u 51,u 52,u 53,u 54,u 55,u 56,u 57,u 58,u 59,u 60,u 61,u 62,u 63,u 64,u 65,u 66,u 67,u 68,u 69,u 70,u 71,u 72,u 73,u 74,u 75,u 76,u 77,u 78,u 79,u 80,u 81],[]⟩
def vI(b c:Nat)(d:Ç)(i:Int)(a:ê):Prop:=∃u,a=tg b c d i u
section
variable{X:ê->É->Prop}{w0:É}{xs:List ByteArray}{s t:St}
def aoj(u:Nat->Ç)(b:∀a,uK n j i v (16:Nat) a->X a w): Î À xL (Exit.then K<|Q2 X) (uJ n j i v (16:Nat) u) w:=by
 unfold uJ;conv=>arg 2;whnf
 go_wp2_with fail
 exact b _ (gi _)
def aol(u:Nat->Ç)(b:Nat)(d:i<8)(e:b<16)(p:Int)(f:w.cell? ⟨n,i*18+2+b,Ä⟩=Ã (Â Æ p))(g:w.cell? ⟨j,i*18+2+b,Ä⟩=Ã (Â Æ p)) (c:∀a,uK n j i v ((b+1:Nat):Int) a->K a w.drew): Î À xL (Exit.then K<|Q2 X) (uJ n j i v b u) w:=by
 unfold uJ;conv=>arg 2;whnf
 have h:(0:Int)<=(b:Int):=Z
 have k:(b:Int)<16:=Z
 have H:=fe c;clear c;go_wp2_with fail;go_region;go_wp2_with fail;exact H.out _ (gi _)
def aom(u:Nat->Ç)(d:ic w0 v xs w)(t:xs.length<=1000)(b:Nat)(x:i<8)(y:b<16)(p q:Int)(z:(p==q)=Ï)(B:w.cell? ⟨n,i*18+2+b,Ä⟩=Ã (Â Æ p))(C:w.cell? ⟨j,i*18+2+b,Ä⟩=Ã (Â Æ q)) (f:∀a g h,uK n j i g ((b+1:Nat):Int) a->ic w0 g (xs++[iG i++Dp b]) h->K a h): Î À xL (Exit.then K<|Q2 X) (uJ n j i v b u) w:=by
 unfold uJ;conv=>arg 2;whnf
 have D:(0:Int)<=(b:Int):=Z
 have E:(b:Int)<16:=Z
 have F:Ë.wrap ((b:Int)+1)=(b:Int)+1:=by rw[ì];omega
 have G:(0:Int)<=(b:Int)+1:=Z
 have I:(b:Int)+1<=16:=Z
 have J:(b:Int)<=(b:Int)+1:=Z
 have L:((b:Int)+1).toNat=b+1:=Z
 have M:¬9223372036854775807<(iG i).size+(Dp b).size:=by have:=xK i;have:=aaq b;omega
 have N:ù ⟨#[48,49,50,51,52,53,54,55,56,57,97,98,99,100,101,102]⟩ b (b+1)=Dp b:=U;obtain⟨O,P,rfl⟩:=jh d.fp;let⟨Q,k,l,o,r⟩:=ï zC;have c:=fe<|Á k<|Á l<|Á o r;have H:=fe<|Á d f;clear d f k l o r;go_wp2_with fail;go_region;go_wp2_with (at_builtin;refine C3 (base:=w0.heap.size) (n:=xs.length) (xs:=jl xs) (m:=1) U _ _ 25 U ú c.out.1 c.out.2.1 c.out.2.2.1 c.out.2.2.2 U U ((H.out.1).fK kp).fp ⟨_,0,Ä⟩ [Í<|iG i++Dp b] U Z U (ā _ _ _) (λu e=>by simp at e;subst e;rfl) (by unfold Ĉ;omega) Z ((H.out.1).fK kp).r.M ?_;intro S T e;obtain⟨V,W,rfl⟩:=jh e.fp;have s:=fe<|((H.out.1).fK kp).C e;clear e);exact H.out.2 _ _ _ (gi _) s.out
def DJ(n j i:Nat)(w0:É)(xs:List ByteArray)(s t:St)(a:ê)(w:É):Prop:=
 ∃(b:Nat) (v:Ç),uK n j i v b a/\b<=16/\ic w0 v (xs++qW s t i b) w
def vK(n j i:Nat)(w0:É)(xs:List ByteArray)(s t:St)(a:ê)(w:É):Prop:=
 ∃(v:Ç),uK n j i v (16:Nat) a/\ic w0 v (xs++qW s t i 16) w
def Nn(a:ê)(_:É):Nat:=match a.tmps.getD 54 Ą with
 |Â _ i=>16-i.toNat
 |_=>0
def TH(c:uK n j i v b y):Nn y w=16-b:=by obtain⟨u,rfl⟩:=c;show 16-(b:Int).toNat=_;simp
def aon(o:mh n s h w0)(p:mh j t c w0)(e:i<8)(B:xs.length<=900)(a:ê)(w:É)(r:DJ n j i w0 xs s t a w): Î À xL (Exit.then (λb g=>DJ n j i w0 xs s t b g/\Nn b g<Nn a w)<|Q2<|vK n j i w0 xs s t) a w:=by
 let⟨b,v,l,C,d⟩:=r;rw[TH l];obtain⟨u,rfl⟩:=l;by_cases x:b=16
 .subst x;exact aoj u λa q=>⟨v,q,d⟩
 .have m:=d.r.r ((o.gS e).2.2 b Z) id;have k:=d.r.r ((p.gS e).2.2 b Z) id;by_cases q:(s i).C b=(t i).C b
  .rw[<-q]at k;refine aol u b e Z _ m k λa f=>⟨⟨b+1,v,f,Z,?_⟩,by rw[TH f];omega⟩;rw[TF,Dq,if_pos q,ô];exact d.fK<|e9.fR _ _
  .refine aom u d (by rw[Ó];have:=Nl s t i b;omega) b e Z _ _ (by simpa using q) m k λa y g f z=>⟨⟨b+1,y,f,Z,?_⟩,by rw[TH f];omega⟩;rwa[TF,Dq,if_neg q,<-č]
def aoo(u:Nat->Ç)(b:∀a,vI n j v (8:Nat) a->X a w): Î À zE (Exit.then K<|QQ X) (tg n j v (8:Nat) u) w:=by
 unfold tg;conv=>arg 2;whnf
 go_wp2_with fail
 exact b _ (gi _)
def aop(u:Nat->Ç)(d:ic w0 v xs w)(E:xs.length<=800)(F:i<8)(b h:Int)(p k:ByteArray)(G:(b==h)=Ü)(I:(p.toList==k.toList)=Ü)(l:w0.cell? ⟨n,i*18,Ä⟩=Ã (Â Æ b))(m:w0.cell? ⟨j,i*18,Ä⟩=Ã (Â Æ h))(f:w0.cell? ⟨n,i*18+1,Ä⟩=Ã (Í p))(g:w0.cell? ⟨j,i*18+1,Ä⟩=Ã (Í k)) (L:∀a e W,uK n j i e (0:Nat) a->ic w0 e xs W->Î À (á xL) (Q2<|vK n j i w0 xs s t) a W) (o:∀a e q,vI n j e ((i+1:Nat):Int) a->ic w0 e (xs++qW s t i 16) q->K a q): Î À zE (Exit.then K<|QQ X) (tg n j v i u) w:=by
 unfold tg;conv=>arg 2;whnf
 have J:=d.r.r l id;have M:=d.r.r m id;have N:=d.r.r f id;have O:=d.r.r g id;have P:(0:Int)<=(i:Int):=Z
 have S:(i:Int)<8:=Z
 have T:Ë.wrap ((i:Int)+1)=(i:Int)+1:=by rw[ì];omega
 have V:(0:Int)<=(i:Int)+1:=Z
 have Y:(i:Int)+1<=8:=Z
 have qP:(i:Int)<=(i:Int)+1:=Z
 have uw:((i:Int)+1).toNat=i+1:=Z
 have xC:¬9223372036854775807<(iG i).size+1:=by have:=xK i;omega
 have TJ:ù ⟨#[97,98,99,100,101,102,103,104]⟩ i (i+1)=iG i:=U;obtain⟨ta,tc,rfl⟩:=jh d.fp;let⟨i0,r,x,y,z⟩:=ï zC;have HI:=fe<|Á r<|Á x<|Á y z;have H:=fe<|Á d<|Á f<|Á g<|Á L o;clear d r x y z L o l m f g;go_wp2_with fail;go_region;go_wp2_with fail;go_region;go_wp2_with fail;go_region;go_wp2_with fail;refine Þ (Q:=Q2<|vK n j i w0 xs s t) ?_ (H.out.2.2.2.1 _ _ _ (gi _)<|(H.out.1).fK kp);rintro(_|(_|_|_|_)|_|_|_|_) a c hq;all_goals first|exact absurd hq id|skip
 let⟨TK,C,B⟩:=hq;obtain⟨c,rfl⟩:=C;unfold uJ;have D:=fe B;clear B;go_wp2_with fail;exact H.out.2.2.2.2 _ _ _ (gi _) D.out
def aoq(u:Nat->Ç)(d:ic w0 v xs w)(G:xs.length<=800)(I:i<8)(b l:Int)(p o:ByteArray)(J:(b==l)=Ü)(M:(p.toList==o.toList)=Ï)(q:w0.cell? ⟨n,i*18,Ä⟩=Ã (Â Æ b))(r:w0.cell? ⟨j,i*18,Ä⟩=Ã (Â Æ l))(h:w0.cell? ⟨n,i*18+1,Ä⟩=Ã (Í p))(k:w0.cell? ⟨j,i*18+1,Ä⟩=Ã (Í o)) (L:∀a e W,uK n j i e (0:Nat) a->ic w0 e (xs++[iG i++⟨#[123]⟩]) W->Î À (á xL) (Q2<|vK n j i w0 (xs++[iG i++⟨#[123]⟩]) s t) a W) (x:∀a e y,vI n j e ((i+1:Nat):Int) a->ic w0 e ((xs++[iG i++⟨#[123]⟩])++qW s t i 16) y->K a y): Î À zE (Exit.then K<|QQ X) (tg n j v i u) w:=by
 unfold tg;conv=>arg 2;whnf
 have N:=d.r.r q id;have O:=d.r.r r id;have P:=d.r.r h id;have S:=d.r.r k id;have T:(0:Int)<=(i:Int):=Z
 have V:(i:Int)<8:=Z
 have Y:Ë.wrap ((i:Int)+1)=(i:Int)+1:=by rw[ì];omega
 have E8:(0:Int)<=(i:Int)+1:=Z
 have yN:(i:Int)+1<=8:=Z
 have qP:(i:Int)<=(i:Int)+1:=Z
 have uw:((i:Int)+1).toNat=i+1:=Z
 have xC:¬9223372036854775807<(iG i).size+1:=by have:=xK i;omega
 have TJ:ù ⟨#[97,98,99,100,101,102,103,104]⟩ i (i+1)=iG i:=U;obtain⟨ta,tc,rfl⟩:=jh d.fp;let⟨i0,z,B,C,D⟩:=ï zC;have f:=fe<|Á z<|Á B<|Á C D;have H:=fe<|Á d<|Á h<|Á k<|Á L x;clear d z B C D L x q r h k;go_wp2_with fail;go_region;go_wp2_with fail;go_region;go_wp2_with fail;go_region;go_wp2_with (at_builtin;refine C3 (base:=w0.heap.size) (n:=xs.length) (xs:=jl xs) (m:=1) U _ _ 25 U ú f.out.1 f.out.2.1 f.out.2.2.1 f.out.2.2.2 U U ((H.out.1).fK kp).fp ⟨_,0,Ä⟩ [Í<|iG i++⟨#[123]⟩] U Z U (λc u g=>e9.r (X:=λ_=>False) kp (ā w (Í<|iG i++⟨#[123]⟩) 9 c u g) id) (λu g=>by simp at g;subst g;rfl) (by unfold Ĉ;omega) Z ((H.out.1).fK kp).r.M ?_;intro E F c;obtain⟨ta2,tc2,rfl⟩:=jh c.fp;have g:=fe<|((H.out.1).fK kp).C c;clear c);refine Þ (Q:=Q2<|vK n j i w0 (xs++[iG i++⟨#[123]⟩]) s t) ?_ (H.out.2.2.2.1 _ _ _ (gi _)<|(g.out).fK kp);rintro(_|(_|_|_|_)|_|_|_|_) a c hq;all_goals first|exact absurd hq id|skip
 let⟨TK,E,g⟩:=hq;obtain⟨c,rfl⟩:=E;unfold uJ;have F:=fe g;clear g;go_wp2_with fail;exact H.out.2.2.2.2 _ _ _ (gi _) F.out
def aor(u:Nat->Ç)(d:ic w0 v xs w)(I:xs.length<=800)(J:i<8)(b l:Int)(p o:ByteArray)(M:(b==l)=Ï)(N:(p.toList==o.toList)=Ü)(q:w0.cell? ⟨n,i*18,Ä⟩=Ã (Â Æ b))(r:w0.cell? ⟨j,i*18,Ä⟩=Ã (Â Æ l))(h:w0.cell? ⟨n,i*18+1,Ä⟩=Ã (Í p))(k:w0.cell? ⟨j,i*18+1,Ä⟩=Ã (Í o)) (L:∀a e W,uK n j i e (0:Nat) a->ic w0 e (xs++[iG i++⟨#[36]⟩]) W->Î À (á xL) (Q2<|vK n j i w0 (xs++[iG i++⟨#[36]⟩]) s t) a W) (x:∀a e y,vI n j e ((i+1:Nat):Int) a->ic w0 e ((xs++[iG i++⟨#[36]⟩])++qW s t i 16) y->K a y): Î À zE (Exit.then K<|QQ X) (tg n j v i u) w:=by
 unfold tg;conv=>arg 2;whnf
 have O:=d.r.r q id;have P:=d.r.r r id;have S:=d.r.r h id;have T:=d.r.r k id;have V:(0:Int)<=(i:Int):=Z
 have Y:(i:Int)<8:=Z
 have oF:Ë.wrap ((i:Int)+1)=(i:Int)+1:=by rw[ì];omega
 have E8:(0:Int)<=(i:Int)+1:=Z
 have yN:(i:Int)+1<=8:=Z
 have qP:(i:Int)<=(i:Int)+1:=Z
 have uw:((i:Int)+1).toNat=i+1:=Z
 have xC:¬9223372036854775807<(iG i).size+1:=by have:=xK i;omega
 have TJ:ù ⟨#[97,98,99,100,101,102,103,104]⟩ i (i+1)=iG i:=U;have Ct:(xs++[iG i++⟨#[36]⟩]).length=xs.length+1:=fj
 obtain⟨ta,tc,rfl⟩:=jh d.fp;let⟨i0,z,B,C,D⟩:=ï zC;have f:=fe<|Á z<|Á B<|Á C D;have H:=fe<|Á d<|Á h<|Á k<|Á L x;clear d z B C D L x q r h k;go_wp2_with fail;go_region;go_wp2_with fail;go_region;go_wp2_with (at_builtin;refine C3 (base:=w0.heap.size) (n:=xs.length) (xs:=jl xs) (m:=1) U _ _ 25 U ú f.out.1 f.out.2.1 f.out.2.2.1 f.out.2.2.2 U U ((H.out.1).fK kp).fp ⟨_,0,Ä⟩ [Í<|iG i++⟨#[36]⟩] U Z U (λc u g=>e9.r (X:=λ_=>False) kp (ā w (Í<|iG i++⟨#[36]⟩) 9 c u g) id) (λu g=>by simp at g;subst g;rfl) (by unfold Ĉ;omega) Z ((H.out.1).fK kp).r.M ?_;intro E F c;obtain⟨G,tc1,rfl⟩:=jh c.fp;have g:=fe<|((H.out.1).fK kp).C c;clear c);have d3:=g.out.r.r H.out.2.1 id;have d4:=g.out.r.r H.out.2.2.1 id;go_region;go_wp2_with fail;refine Þ (Q:=Q2<|vK n j i w0 (xs++[iG i++⟨#[36]⟩]) s t) ?_ (H.out.2.2.2.1 _ _ _ (gi _)<|(g.out).fK kp);rintro(_|(_|_|_|_)|_|_|_|_) a c hq;all_goals first|exact absurd hq id|skip
 let⟨TK,F,E⟩:=hq;obtain⟨c,rfl⟩:=F;unfold uJ;have G:=fe E;clear E;go_wp2_with fail;exact H.out.2.2.2.2 _ _ _ (gi _) G.out
def aos(u:Nat->Ç)(f:ic w0 v xs w)(N:xs.length<=800)(O:i<8)(b q:Int)(p r:ByteArray)(P:(b==q)=Ï)(S:(p.toList==r.toList)=Ï)(x:w0.cell? ⟨n,i*18,Ä⟩=Ã (Â Æ b))(y:w0.cell? ⟨j,i*18,Ä⟩=Ã (Â Æ q))(k:w0.cell? ⟨n,i*18+1,Ä⟩=Ã (Í p))(l:w0.cell? ⟨j,i*18+1,Ä⟩=Ã (Í r)) (L:∀a g W,uK n j i g (0:Nat) a->ic w0 g ((xs++[iG i++⟨#[36]⟩])++[iG i++⟨#[123]⟩]) W->Î À (á xL) (Q2<|vK n j i w0 ((xs++[iG i++⟨#[36]⟩])++[iG i++⟨#[123]⟩]) s t) a W) (z:∀a g B,vI n j g ((i+1:Nat):Int) a->ic w0 g (((xs++[iG i++⟨#[36]⟩])++[iG i++⟨#[123]⟩])++qW s t i 16) B->K a B): Î À zE (Exit.then K<|QQ X) (tg n j v i u) w:=by
 unfold tg;conv=>arg 2;whnf
 have T:=f.r.r x id;have V:=f.r.r y id;have Y:=f.r.r k id;have c4:=f.r.r l id;have e0:(0:Int)<=(i:Int):=Z
 have e1:(i:Int)<8:=Z
 have oF:Ë.wrap ((i:Int)+1)=(i:Int)+1:=by rw[ì];omega
 have E8:(0:Int)<=(i:Int)+1:=Z
 have yN:(i:Int)+1<=8:=Z
 have qP:(i:Int)<=(i:Int)+1:=Z
 have uw:((i:Int)+1).toNat=i+1:=Z
 have xC:¬9223372036854775807<(iG i).size+1:=by have:=xK i;omega
 have TJ:ù ⟨#[97,98,99,100,101,102,103,104]⟩ i (i+1)=iG i:=U;have G:(xs++[iG i++⟨#[36]⟩]).length=xs.length+1:=fj
 obtain⟨ta,tc,rfl⟩:=jh f.fp;let⟨i0,C,D,E,F⟩:=ï zC;have e:=fe<|Á C<|Á D<|Á E F;have H:=fe<|Á f<|Á k<|Á l<|Á L z;clear f C D E F L z x y k l;go_wp2_with fail;go_region;go_wp2_with fail;go_region;go_wp2_with (at_builtin;refine C3 (base:=w0.heap.size) (n:=xs.length) (xs:=jl xs) (m:=1) U _ _ 25 U ú e.out.1 e.out.2.1 e.out.2.2.1 e.out.2.2.2 U U ((H.out.1).fK kp).fp ⟨_,0,Ä⟩ [Í<|iG i++⟨#[36]⟩] U Z U (λc u d=>e9.r (X:=λ_=>False) kp (ā w (Í<|iG i++⟨#[36]⟩) 9 c u d) id) (λu d=>by simp at d;subst d;rfl) (by unfold Ĉ;omega) Z ((H.out.1).fK kp).r.M ?_;intro J I o;obtain⟨M,tc1,rfl⟩:=jh o.fp;have h:=fe<|((H.out.1).fK kp).C o;clear o);have d3:=h.out.r.r H.out.2.1 id;have d4:=h.out.r.r H.out.2.2.1 id;go_region;go_wp2_with (at_builtin;refine C3 (base:=w0.heap.size) (n:=(xs++[iG i++⟨#[36]⟩]).length) (xs:=jl<|xs++[iG i++⟨#[36]⟩]) (m:=1) U _ _ 25 U ú e.out.1 e.out.2.1 e.out.2.2.1 e.out.2.2.2 U U ((h.out).fK kp).fp ⟨_,0,Ä⟩ [Í<|iG i++⟨#[123]⟩] U Z U (λc u d=>e9.r (X:=λ_=>False) kp (ā I (Í<|iG i++⟨#[123]⟩) 9 c u d) id) (λu d=>by simp at d;subst d;rfl) (by unfold Ĉ;omega) Z ((h.out).fK kp).r.M ?_;intro d o c;obtain⟨J,M,rfl⟩:=jh c.fp;have I:=fe<|((h.out).fK kp).C c;clear c);have d:=I.out;rw[G]at d;refine Þ (Q:=Q2<|vK n j i w0 ((xs++[iG i++⟨#[36]⟩])++[iG i++⟨#[123]⟩]) s t) ?_ (H.out.2.2.2.1 _ _ _ (gi _)<|(d).fK kp);rintro(_|(_|_|_|_)|_|_|_|_) a c hq;all_goals first|exact absurd hq id|skip
 let⟨TK,J,o⟩:=hq;obtain⟨c,rfl⟩:=J;unfold uJ;have M:=fe o;clear o;go_wp2_with fail;exact H.out.2.2.2.2 _ _ _ (gi _) M.out
def DO(n j:Nat)(w0:É)(s t:St)(a:ê)(w:É):Prop:=
 ∃(i:Nat) (v:Ç),vI n j v i a/\i<=8/\ic w0 v (qY s t i) w
def TL(n j:Nat)(w0:É)(s t:St)(a:ê)(w:É):Prop:=
 ∃(v:Ç),vI n j v (8:Nat) a/\ic w0 v (qY s t 8) w
def Ju(a:ê)(_:É):Nat:=match a.tmps.getD 11 Ą with
 |Â _ i=>8-i.toNat
 |_=>0
def aar(b:vI n j v i y):Ju y w=8-i:=by obtain⟨u,rfl⟩:=b;show 8-(i:Int).toNat=_;simp
def aot(B:mh n s h w0)(C:mh j t c w0)(a:ê)(w:É)(E:DO n j w0 s t a w): Î À zE (Exit.then (λq g=>DO n j w0 s t q g/\Ju q g<Ju a w)<|QQ<|TL n j w0 s t) a w:=by
 let⟨i,v,D,H,l⟩:=E;rw[aar D];obtain⟨u,rfl⟩:=D;by_cases F:i=8
 .subst F;exact aoo u λa q=>⟨v,q,l⟩
 have k:i<8:=Z
 have I:=TG s t i;let⟨m,o,_⟩:=B.gS k;let⟨p,r,_⟩:=C.gS k;have L:∀q:List ByteArray,q.length<=900->∀a b W,uK n j i b (0:Nat) a->ic w0 b q W->Î À (á xL) (Q2<|vK n j i w0 q s t) a W:=λq y a b W G z=>
  Č (DJ n j i w0 q s t) Nn ⟨0,b,G,Z,by show ic w0 b (q++[]) W;rwa[ô]⟩<|aon B C k y
 have x:∀q:List ByteArray,qY s t i++xI (s i).fl (t i).fl (s i).r (t i).r i=q->∀a b g,vI n j b ((i+1:Nat):Int) a->ic w0 b (q++qW s t i 16) g->DO n j w0 s t a g/\Ju a g<8-i:=λq y a b g f z=>⟨⟨i+1,b,f,Z,by rwa[aap,zD,<-č,y]⟩,by rw[aar f];omega⟩;by_cases d:(s i).fl=(t i).fl<;>by_cases e:(s i).r.toList=(t i).r.toList
 .exact aop u l Z k _ _ _ _ (by simpa using d) (by simpa using e) m p o r (L _ Z)<|x _<|by unfold xI;rw[if_pos d,if_pos e,ô,ô]
 .exact aoq u l Z k _ _ _ _ (by simpa using d) (by simpa using e) m p o r (L _<|by rw[Ó];simp;omega)<|x _<|by unfold xI;rw[if_pos d,if_neg e,Χ]
 .exact aor u l Z k _ _ _ _ (by simpa using d) (by simpa using e) m p o r (L _<|by rw[Ó];simp;omega)<|x _<|by unfold xI;rw[if_neg d,if_pos e,ô]
 .exact aos u l Z k _ _ _ _ (by simpa using d) (by simpa using e) m p o r (L _<|by rw[Ó,Ó];simp;omega)<|x _<|by unfold xI;rw[if_neg d,if_neg e,č]
def aou(b:mh n s h w)(d:mh j t c w): Ò À 126 #[Å<|Ã ⟨n,0,Ä⟩,Å<|Ã ⟨j,0,Ä⟩] w λe a=>∃v,e=È v/\ic w v (qY s t 8) a:=by
 have L:∀a,vI n j (Ê Ä 0 0) (0:Nat) a->Î À (á zE) (QQ<|TL n j w s t) a w:=λa f=>
  Č (DO n j w s t) Ju ⟨0,_,f,ã _,ic.M w<|e9.fT _ _⟩<|aot b d
 have H:=fe L;clear L b d;go_enter Tryz.func126,Tryz.ntmps126;go_wp2_with fail;refine Þ (Q:=QQ<|TL n j w s t) ?_ (H.out _ (gi _));rintro(_|(_|_)|_|_|_|_) a v hq;all_goals first|exact absurd hq id|skip
 let⟨k,g,e⟩:=hq;obtain⟨u,rfl⟩:=g;unfold tg;have i:=fe e;clear e;go_wp2_with fail;go_ret;exact⟨_,U,i.out⟩
end
def aov:(À.info? 5).map (λi=>(i.zero,i.size,i.bytes))=Ã (Ã<|Â bb 0,1,1):=ft
theorem e9.G(f:X p.block)(n:Nat):e9 X w (w.freeze p n):=by
 by_cases b:n=0
 .rw[Ĕ,if_pos b];exact e9.fT _ _
 rw[Ĕ,if_neg b];refine⟨fj,λk _ g=> ?_,λa i o h=> ?_,λ_ a=>by have:=D' a p n;rwa[Ĕ,if_neg b]at this⟩
 .grind
 .simp only[Ý]at h;split at h
  .cases d:w.heap[i]? with
   |none=>rw[d]at h;cases h
   |some e=>
    have:=a _ _ d;rw[d]at h;cases e with
    |cells c t z=>simp only[ó,é]at h;subst h;exact λx=>x
    |_=>exact absurd trivial this
  .exact a i o h
def aas:(À.info? 109).map (·.size)=Ã 2:=ft
def aow:liesAt À À.depth 109 (2/À.cellsOf 109) 0 109 1=Ü:=ft
def aox(b:Nat)(w:É)(d:w.cell? ⟨b,0,Ä⟩=Ã (Å<|Ã ⟨b,0,Ä⟩)):Ò À 78 #[Å<|Ã ⟨b,0,Ä⟩] w λe a=>e=È (ç #[])/\a=w:=by let⟨j,c,_⟩:=Ì.1 aas;go_enter aQ,aJ;go_wp2;rw[Lib.run_neq_ptr_same w _ ĸ c];go_wp2;go_end0;exact⟨U,U⟩
def aoy(b:Nat)(w:É)(g:w.cell? ⟨b,0,Ä⟩=Ã (Å Ä))(a:w.shape? b=Ã (109,2))(h:w.frozen? ⟨b,0,Ä⟩=Ï):Ò À 78 #[Å<|Ã ⟨b,0,Ä⟩] w λe d=>e=È (ç #[])/\d=w.setCell ⟨b,0,Ä⟩ (Å<|Ã ⟨b,0,Ä⟩):=by let⟨j,c,f⟩:=Ì.1 aas;go_enter aQ,aJ;go_wp2;rw[Lib.run_to_unsafe w ⟨b,0,Ä⟩ ĸ ų c (by rw[f];decide) a<|Nat.zero_lt_succ 1];simp only[ĵ];rw[ī];go_wp2;rw[Ū Tryz.func129 ft ft ft ft];rw[Lib.run_noEscape];simp only[ĵ];rw[ī];go_wp2;rw[Lib.run_from_unsafe w ⟨b,0,Ä⟩ ų ĸ c a aow];simp only[ĵ];rw[ī];go_wp2;go_end0;exact⟨U,U⟩
theorem aat{base:Nat}{u h:õ}(j:P.underlying t=Ã (bz e))(k:P.underlying u=Ã .string)(p:P.info? e=Ã zJ)(G:zJ.zero=Ã (Â bb 0)) (D:zJ.size=1) (H:zJ.bytes=1) (E:w.ownsRow base e 1 v n l) (s:ByteArray) (J:n+s.size<=Ĉ) (Q:n+s.size<=140737488355328) (r:(ő #[t,u] h #[v,Í s]).run P w=ag z W) (I:mb e=Ï):(kh w->kh W)/\(∀m,rN m w->rN m W):=by
 have S:n+s.size<=9223372036854775807:=by simp only[Ĉ]at J;omega
 have K:l.length=n:=by simpa using E.1
 rcases E.2 with⟨rfl,rfl⟩|⟨g,y,B,rfl,V,F,X,Y,L,htake⟩
 .by_cases C:s.size=0
  .have a:=Lib.run_firstCells_string (P:=P) w 1 s;rw[C]at a;simp[ő,Š j,Š k,sizeOf,typeInfo,p,D,bD,C,a]at r;grind
  .have b:=run_append_nil_string w t u h e zJ (Â bb 0) j k p G s Z Z (by rw[H];omega);rw[r]at b;cases b;exact⟨λa=>IT a _ _ _,λ_ a=>IU a _ _ _<|Ù I⟩
 .by_cases M:n+s.size<=y
  .have aut:B.size=y:=by simpa using L
   have b:=Lib.run_append_room_string w t u h e zJ j k p D g n y B F s M Z;rw[r]at b;cases b;refine⟨λa q o d=> ?_,λm a q c T N C d O=> ?_⟩
   .by_cases f:q=g
    .subst f;rw[Ĥ w q B _ e _ F]at d;cases d;exact λx=>x
    .rw[ĝ w g q _ f]at d;exact a q o d
   .by_cases f:q=g
    .subst f;rw[Ĥ w q B _ e _ F]at d;grind
    .rw[ĝ w g q _ f]at d;exact a q c T N C d O
  .have c:=E.cells U;have b:=Lib.run_append_grow_string w t u h e zJ (Â bb 0) j k p G ⟨g,0,Ä⟩ n y l (by rw[D];simpa using K) c s Z Z (by rw[H];exact Ŝ Z Z);rw[r]at b;cases b;exact⟨λa=>IT a _ _ _,λ_ a=>IU a _ _ _<|Ù I⟩
def aoz{P:Program}{ops:Array Oper}{rest:List Oper}{o:Oper}{a:Act}{Q:Exit->Act->World->Prop}{w:World}(Ss:o.guard=none)(sl x:Operand)(t u:TypeId) (ho:o.op=.call {callee:=.builtin .append,args:=#[sl,x],argTypes:=#[t,u]}) {base:Nat} {e:TypeId} {i:TypeInfo} (ht:P.underlying t=some (.slice e)) (hu:P.underlying u=some .string) (hi:P.info? e=some i) (hz:i.zero=some (.int .u8 0)) (xr:i.size=1) (xt:i.bytes=1) {v:Value} {n:Nat} {xs:List Value} (hs:a.eval sl=v) (lE:w.ownsRow base e 1 v n xs) (s:ByteArray) (hx:a.eval x=.string s) (C4:n+s.size<=maxLen) (C5:n+s.size<=140737488355328) (C0:base<=w.heap.size) (h:∀v' w',w'.ownsRow base e 1 v' (n+s.size) (xs++Lib.strCells s)->e9 (λk=>v.ownBlock=some k) w w'->wpList P ops Q rest (a.put o.dst v') w') (hT:mb e=false:=by decide):wpList P ops Q (o::rest) a w:=by refine ŷ Ss λK hK=> ?_;let⟨v',w',hr,h2,h3,_⟩:=Lib.run_append_own_string w base t u o.type e i ht hu hi hz xr xt v n xs lE s C4 C5 C0;have kp:e9 (λk=>v.ownBlock=Ã k) w w':=⟨h3.size,λk hk q=>h3.block k hk λe=>q e.symm,(aat ht hu hi hz xr xt lE s C4 C5 hr hT).1,(aat ht hu hi hz xr xt lE s C4 C5 hr hT).2⟩;unfold ň Ī;simp only[ho,ak,aV,ar,Ÿ,Ź,Ĺ,ą,ę,Ğ,hs,hx,hr];exact hK _ _<|h v' w' h2 kp
structure oO(w0:É)(b:Nat)(bs:List Ç)(w:É):Prop where
 I:w0.heap.size<=b
 r:e9 (λ_=>False) w0 w
 C:∃v,fg b [Å<|Ã ⟨b,0,Ä⟩,v] 109 w/\w.ownsRow w0.heap.size 5 1 v bs.length bs
def oO.fK(h:oO u b l w)(k:e9 (λ_=>False) w W):oO u b l W:=by let⟨v,a,c⟩:=h.C;exact⟨h.I,h.r.ff k,v,a.I k id,ia c k λ_ _=>id⟩
def TM(h:oO u b l w)(s:ByteArray)(m:l.length+s.size<=140737488355328): Ò À 55 #[Å<|Ã ⟨b,0,Ä⟩,Í s] w λe i=>e=È (ç #[Â Ë s.size,.nilIface])/\oO u b (l++Lib.strCells s) i:=by
 let⟨B,c,n,o,p⟩:=ï aov;let⟨v,a,d⟩:=h.C;obtain⟨C,D,rfl⟩:=jh d;have t:=a.r 0 _ U;have E:=a.r 1 _ U;have x:=h.r.M;have y:=jA d a A;have H:=fe<|Á h<|Á c<|Á n<|Á o<|Á p<|Á a d;go_enter Tryz.func55,Tryz.ntmps55;go_wp2_with (first
  |(go_at_call 78;refine(aox b _ t).mono ?_;rintro e i ⟨rfl,j⟩;subst i)
  |(at_builtin;refine aoz U _ _ 107 9 U þ ĕ H.out.2.1 H.out.2.2.1 H.out.2.2.2.1 H.out.2.2.2.2.1 U H.out.2.2.2.2.2.2 s U (by unfold Ĉ;omega) m x ?_;intro g f j k;obtain⟨q,r,rfl⟩:=jh j;have i:=H.out.2.2.2.2.2.1.I k y;have z:=i.r 0 _ U;have F:=i.r 1 _ U;have G:=i.C 1;have e:=fe (Á k (Á i j));clear k i j))
 go_ret2;have z:=e.out.2.1.fW 1<|Ê q (l.length+s.size) r;have g:e9 (λk=>k=b) f (f.setCell ⟨b,1,Ä⟩<|Ê q (l.length+s.size) r):=e9.I (X:=λk=>k=b) U _<|Ú e.out.2.1.G;refine⟨U,H.out.1.I,(H.out.1.r.C e.out.1 λi c q=> ?_).C g λi c q=> ?_,_,z,?_⟩
 .have:=(H.out.2.2.2.2.2.2.lt i q).1;omega
 .have:=H.out.1.I;omega
 .have:=ia e.out.2.2 g λj q r=>jA e.out.2.2 e.out.2.1 A (by rw[q,r]);rw[Ó,Lib.strCells_length];exact this
def aoA:(À.info? 5).map (·.size)=Ã 1:=ft
def aoB:À.cellsOf 5=1:=ft
structure Jv(w0:É)(b:Nat)(p:Ç)(w:É):Prop where
 C:w0.heap.size<=b
 I:e9 (λ_=>False) w0 w
 r:fg b [p,Ê Ä 0 0] 109 w
section
variable{w0:É}{p:Ç}
def Jv.EB(h:Jv w0 b (Å<|Ã ⟨b,0,Ä⟩) w)(f:d.size<=Ĉ):oO w0 b [] ((w.alloc<|Ð d 5).setCell ⟨b,1,Ä⟩<|Ê (Ã ⟨w.heap.size,0,Ä⟩) 0 d.size).drew.drew.drew:=by have a:=e9.gG (λ_=>False) w d 5;have c:e9 (λk=>k=b) (w.alloc<|Ð d 5) ((w.alloc<|Ð d 5).setCell ⟨b,1,Ä⟩<|Ê (Ã ⟨w.heap.size,0,Ä⟩) 0 d.size):=e9.I (X:=λk=>k=b) U _<|Ú (h.r.I a id).G;have k:=(h.r.I a id).fW 1<|Ê (Ã ⟨w.heap.size,0,Ä⟩) 0 d.size;have m:=h.r.M;have g:(w.alloc<|Ð d 5).ownsRow w0.heap.size 5 1 (Ê (Ã ⟨w.heap.size,0,Ä⟩) 0 d.size) 0 []:= ⟨U,Ú ⟨w.heap.size,d.size,d,U,h.I.M,î w _,ã _,f,fj,fj⟩⟩;have l:oO w0 b [] ((w.alloc<|Ð d 5).setCell ⟨b,1,Ä⟩<|Ê (Ã ⟨w.heap.size,0,Ä⟩) 0 d.size):= ⟨h.C,(h.I.ff a).C c λi n q=>by have:=h.C;omega,_,k,ia g c λj q r=>by cases q;have e:w.heap.size=b:=r;omega⟩;exact((l.fK<|e9.fR _ _).fK<|e9.fR _ _).fK<|e9.fR _ _
def aoC(h:Jv w0 b (Å<|Ã ⟨b,0,Ä⟩) w)(n:Nat)(j:n<=281474976710656): Ò À 79 #[Å<|Ã ⟨b,0,Ä⟩,Â Ë n] w λe c=>e=È (ç #[])/\oO w0 b [] c:=by
 let⟨a,g,o,k⟩:=Lib.run_makeNoZero w.drew #[3] 107 5 þ n j;have i:Ë.wrap (Ë.wrap 0+(n:Int))=n:=by rw[ì,ì];omega
 have p:(callFunc 130 #[Â Ë<|Ë.wrap<|Ë.wrap 0+(n:Int)]).run À w.drew=ag (.value<|Ê (Ã ⟨w.drew.heap.size,0,Ä⟩) n a.size) (w.drew.drew.drew.alloc<|Ð a 5):=by rw[i,Ū Tryz.func130 ft ft ft ft,g];rfl
 have e:=fe (Á (show w.drew.cell? ⟨b,1,Ä⟩=Ã (Ê Ä 0 0)from h.r.r 1 _ rfl) trivial);have d:=h.r.I (e9.gG (λ_=>False) w a 5) id;have l:=d.r 1 _ U;have f:=l;have q:=d.C 1;have r:∀W:É,(ς #[107,107] 3 #[Ê (Ã ⟨w.heap.size,0,Ä⟩) 0 a.size,Ê Ä 0 0]).run À W=ag (goInt 0) W:= λW=>run_copy_none W 107 107 3 5 _ _ 0 a.size 0 0 þ aoA U;have m:=fe (h.EB<|k<|by unfold Ĉ;omega);clear i h d g;go_enter Tryz.func79,Tryz.ntmps79;go_wp2;refine mg (λc=>c.cell? ⟨b,1,Ä⟩=Ã (Ê Ä 0 0)/\True) [] ft ?_;refine tk 0 e.out ?_;refine tk 1 e.out ?_;refine tk 2 e.out ?_;refine tk 3 e.out ?_;refine tk 4 e.out ?_;refine tk 5 e.out ?_;refine tk 6 e.out ?_;refine tk 7 e.out ?_;refine tk 9 e.out ?_;refine tk 10 e.out ?_;refine tk 11 e.out ?_;refine tk 12 e.out ?_;refine tk 13 e.out ?_;refine gD 8 ?_;intro K c;go_simp;refine c.out _ _ (λ_=>⟨f,trivial⟩) ?_;refine gD 14 ?_;intro K c;go_simp;refine c.out _ _ (λ_=>⟨f,trivial⟩) ?_;refine gD 15 ?_;intro K c;go_simp;refine c.out _ _ (λ_=>⟨f,trivial⟩) ?_;refine lS ft ?_ _;go_wp2;go_end0;exact⟨U,m.out⟩
def aoD(h:Jv w0 b (Å Ä) w)(n:Nat)(l:0<n)(d:n<=281474976710656): Ò À 54 #[Å<|Ã ⟨b,0,Ä⟩,Â Ë n] w λe a=>e=È (ç #[])/\oO w0 b [] a:=by
 have f:w.shape? b=Ã (109,2):=by have i:w.heap[b]?=_:=h.r;simp[Ž,i]
 have c:=fe (show Jv w0 b (Å<|Ã ⟨b,0,Ä⟩) (w.setCell ⟨b,0,Ä⟩<|Å<|Ã ⟨b,0,Ä⟩).drew from⟨h.C,(h.I.C (e9.I (X:=λk=>k=b) U _<|Ú h.r.G) λi k q=>by have:=h.C;omega).ff<|e9.fR _ _,(h.r.fW 0 _).I (e9.fR (λ_=>False) _) id⟩);have i:=fe<|Á (c.out.r.r 1 _ rfl) trivial;have q:=h.r.r 0 _ U;have g:=h.r.C 0;have m:¬((n:Int)<0):=Z
 have o:(0:Int)<(n:Int):=Z
 have p:Ë.wrap 0<(n:Int):=by rw[ì];omega
 go_enter Tryz.func54,Tryz.ntmps54;go_wp2_with (go_at_call 78;refine(aoy b w q f g).mono ?_;rintro e a ⟨rfl,k⟩;subst a);refine mg (λa=>a.cell? ⟨b,1,Ä⟩=Ã (Ê Ä 0 0)/\True) [] ft ?_;apply tk 0 i.out;apply tk 1 i.out;apply tk 2 i.out;apply tk 3 i.out;apply tk 4 i.out;apply tk 5 i.out;apply tk 6 i.out;apply tk 7 i.out;apply tk 8 i.out;apply tk 9 i.out;apply tk 10 i.out;apply tk 11 i.out;apply tk 12 i.out;refine lS ft ?_ _;go_wp2_with (go_at_call 79;refine(aoC c.out n d).mono ?_;rintro e a ⟨rfl,k⟩;have j:=fe k;clear k);go_end0;exact⟨U,j.out⟩
def aoE{l:List UInt8}(h:oO w0 b (ö l) w)(f:l≠[]): Ò À 56 #[Å<|Ã ⟨b,0,Ä⟩] w λe K=>e=È (Í ⟨l.toArray⟩)/\e9 (λ_=>False) w0 K:=by
 let⟨v,m,d⟩:=h.C;have n:l.length≠0:=by simpa using f
 rw[ş]at d;obtain⟨g,a,c,rfl,t,o,u,s,y,z⟩:∃g a c,v=Ê (Ã ⟨g,0,Ä⟩) l.length a/\w0.heap.size<=g/\w.heap[g]?=Ã (Ð c 5 (0,0))/\l.length<=a/\a<=Ĉ/\c.size=a*1/\c.toList.take (l.length*1)=ö l:=by
  rcases d.2 with⟨_,e⟩|⟨g,a,c,i,r⟩
  .exact absurd e n
  .exact⟨g,a,c,i,r⟩
 have e:=fe (Á (show w.drew.cell? ⟨b,1,Ä⟩=Ã (Ê (Ã ⟨g,0,Ä⟩) l.length a)from m.r 1 _ rfl) trivial);have B:∀W:É,(ae #[107] 177 #[Ê (Ã ⟨g,0,Ä⟩) l.length a]).run À W=ag (Å<|Ã ⟨g,0,Ä⟩) W:=λW=>
  Lib.run_unsafeSliceData_row _ _ _ _ _ _ Z
 have C:(ŗ #[177,3] 9 #[Å<|Ã ⟨g,0,Ä⟩,Â Ë l.length]).run À w.drew=ag (Í ⟨l.toArray⟩) (w.drew.freeze ⟨g,0,Ä⟩ l.length):=by refine Ŀ w.drew 177 3 9 5 Ű aoB g c.size (by have i:w.drew.heap[g]?=Ã (Ð c 5 (0,0)):=o;simp[Ž,i]) l f Z (by unfold Ĉ at s;omega) ?_;intro j x i;have:=d.cells U j (Â bb x.toNat) (by simp[ö,i]);exact this
 have x:=fe ((h.r.ff<|e9.fR _ _).C (e9.G (X:=λk=>k=g) (p:=⟨g,0,Ä⟩) U l.length) λi j q=>by omega);have j:=fe (Á ((e9.G (X:=λk=>k=g) (p:=⟨g,0,Ä⟩) rfl l.length).r e.out.1 λq=>jA d m A<|by show Ã g=Ã b;rw[show g=b from(show b=g from q).symm]) trivial);go_enter Tryz.func56,Tryz.ntmps56;go_wp2;refine mg (λK=>K.cell? ⟨b,1,Ä⟩=Ã (Ê (Ã ⟨g,0,Ä⟩) l.length a)/\True) [] ft ?_;apply tk 0 e.out;apply tk 1 e.out;apply tk 2 e.out;apply tk 3 e.out;apply tk 4 e.out;apply tk 5 e.out;apply tk 6 e.out;apply tk 7 e.out;apply tk 8 e.out;apply tk 9 e.out;apply gD 10;intro K i;go_simp;apply i.out _ _ λ_=>j.out;apply gD 11;intro K i;go_simp;apply i.out _ _ λ_=>j.out;refine lS ft ?_ _;go_wp2;go_ret;exact⟨U,x.out⟩
end
end Go.Proofs.Y.gO
