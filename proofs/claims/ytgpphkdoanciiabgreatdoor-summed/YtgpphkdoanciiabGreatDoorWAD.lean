import Derived.Test.YtgpphkdoanciiabGreatDoorWAC
import Derived.Test.YtgpphkdoanciiabGreatDoorChecked
import Derived.WalkKit
import Derived.WalkSpells
import Derived.WalkLawsBesides
import Derived.Deep.Light
import Derived.Maps.AppendAt
import Derived.RegionTactic
import Derived.Deep.RegionWith
import Derived.Deep.QuietTactic
import Derived.BigQuiet
import Derived.Deep.RegionHeld3
import Derived.WalkMore
import Derived.Deep.MidRow
import Derived.Great.Walk
import Derived.Lib.UnsafeStr
import Derived.Lib.BufferWrite
import Derived.Laws.Tables
import Derived.Laws.Bits64
import Derived.Shelf.Strconv.Itoa0
import Derived.Shelf.Strconv.Itoa1
import Derived.Shelf.LaysM
import Derived.Shelf.Strconv.Itoa2
import Derived.Shelf.Strconv.Itoa3
import Derived.Shelf.Strings.Repeat
import Derived.Shelf.Strings.OnBuilder
import Derived.Shelf.Strconv.Clone
import Derived.Shelf.Strings.Prefix
import Derived.Shelf.Bits.Mul64
import Derived.Test.YtgpphkdoanciiabGreatDoorProg
import Derived.Lib.ItoaLen
set_option linter.all false
set_option maxRecDepth 1000000
set_option maxHeartbeats 8000000
open Go.Proofs.Tryz renaming prog->À,ntmps189->å,func189->ê,underlying54->ù,underlying98->Ā,underlying9->đ,underlying3->Ě,underlying4->ě,zeroValue3->ħ,zeroValue4->Ĩ,zeroValue9->ĩ,underlying23->ķ,underlying97->ĸ,ntmps154->ĺ,zeroValue23->ŀ,func154->Ņ,ntmps50->Ň,sizeOf3->ň,sizeOf4->ŉ,sizeOf9->Ŋ,func50->ś,isAgg3->Ŝ,isAgg4->ŝ,isAgg9->Ş,ntmps138->ť,sizeOf23->Ŧ,underlying170->ũ,underlying161->ū,underlying163->Ŭ,func138->Ÿ,func171->Ź,ntmps97->ź,zeroValue161->ż,isAgg23->Ž,underlying86->ž,underlying0->Γ,underlying5->Δ,zeroValue86->Ε,func97->Κ,zeroValue0->Ρ,zeroValue5->Τ,sizeOf161->ε,ntmps193->η,ntmps194->θ,ntmps152->κ,ntmps180->ξ,ntmps153->ο,ntmps171->π,isAgg161->ρ,sizeOf86->ς,ntmps156->σ,func193->ah,func194->aj,func152->ar,func180->au,func153->av,sizeOf0->ay,sizeOf5->az,isAgg86->aB,func156->aC,ntmps62->aD,isAgg0->aH,isAgg5->aI,func62->aJ,f145->aZ
open And renaming intro->Á
open Go.Value renaming int->Â,pointer->Å,slice->Ê,string->Í,bool->Ñ,tuple->æ,agg->Ē,cells->ğ,ownBlock->Į
open Option renaming some->Ã,none->Ä,map_eq_some_iff->Ì,map_some->ñ,isSome_none->Ũ,map->Ū
open Go.IntKind renaming u64->Æ,i64->Ë,wrap_i64->ó,u8->aU,wrap_u64->aY
open Go.Ending renaming returned->Ç
open Go renaming Value->È,World->É,Calls->Ò,Act->é,heap_alloc_new->ì,info_parts->í,bodyPost_ret->ð,TypeId->õ,cell_one_new->þ,undef->ā,Addr->ă,maxLen->Ą,wp_loop->Ĉ,setRow_other->ė,setRow_heap->ĝ,execOp->Ĥ,wpList_load_mid->ĥ,all_oneCell_toArray->Ī,wpList_store_mid->ľ,Code->ŏ,grownCap->Œ,growslice_fits->ŕ,run_underlying->ř,Oper->ş,run_callFunc_extern->ţ,Operand->ŭ,wpList_plain->Ű,cell_two_new->Ŵ,grownCap_ge->Η,run_append_grow->Λ,run_loadVar_mid->Ν,ready_mono->Ω,wpOp_step->χ,resolve->ae,builtin->ag,yielded->ai,results->ak,Ending->ax,Program->aF,invoke->aP,wpList->aR,Exit->aT
open Go.Code renaming wp->Î,wp_mono->Ý,loop->à,skip->ĵ
open Bool renaming false->Ï,true->Ú,false_eq_true->ĭ
open Go.Obj renaming cells->Ð
open List renaming length_append->Ó,getElem?_eq_getElem->Ô,setIfInBounds_toArray->Õ,getElem?_eq_some_iff->Ü,eq_nil_of_length_eq_zero->ß,set_cons_zero->ã,set_cons_succ->ä,getElem?_append_left->ç,append_nil->ò,mem_append->ú,getElem?_range->û,getElem?_append_right->ü,ext_getElem?->ý,size_toArray->ć,append_assoc->Ċ,range->ċ,drop_eq_getElem_cons->ē,length_set->ĕ,drop_eq_nil_of_le->Ę,set_append_left->Ğ,mem_of_getElem?->Ġ,getD_eq_getElem?_getD->Ĳ,getElem?_map->Ķ,map_toArray->ļ,length_cons->Ľ,mem_map->ņ,range_succ->Ŏ,mem_append_left->œ,getElem?_set_ne->Ŗ,mem_cons_of_mem->Ś,flatMap_append->Ţ,map_cons->Ť,map_nil->ų,take_add_one->ſ,mem_flatMap->Α,length_nil->Μ,nil_append->Ξ,length_map->Ο,map_append->Υ
open Int renaming le_refl->Ö,toNat_of_nonneg->Ĕ,toNat_natCast->ŵ,le_trans->Ŷ
open Or renaming inl->Ø,inr->Ù
open Array renaming getElem?_modify->Û,size_replicate->Ď,getD_eq_getD_getElem?->ī,replicate->ō,toList_append->Š,length_toList->š,size_append->ů
open Nat renaming le_refl->Þ,zero_le->â,le_trans->ë,le_add_right->Ŀ,zero_add->ł,add_mul->ő,mul_le_mul_right->Ŕ,mul_one->ŗ,lt_of_lt_of_le->ŧ,lt_or_ge->Ů,mod_lt->aO
open Go.World renaming block_lt_of_cell?->á,alloc->Ă,setCell->ą,ownsRow_nil->ĉ,drew->Č,freeze->Đ,shape?->ŷ,cell?->Ζ
open Option.some renaming injEq->è
open Go.Operand renaming tmp->î,func->bh
open Go.Ground renaming data->ï
open Go.Lib renaming byteCells->ô,nDigits->č,zeros24->ġ,decDigits_length->Ģ,run_unsafeString_row->Ĺ,decDigits->Ļ,byteCells_length->Ř,TabIs->ω,pow10Tab->aA
open Go.Builtin renaming zeroCells->ö,append_->Ō,unsafeString_->Ő,copy_->ν,unsafeSliceData_->υ,min->bn,lenOf->bu
open ByteArray renaming extract->ø,size_extract->ŋ,ext->bq
open Go.Region renaming ready->ÿ,wanted->Ĝ,binds->ń,Mode->Θ
open Go.Great renaming wpList_runTo->Ć
open Go.RowKit.Below renaming heap_alloc->ď,heap_setCell->Ė
open False renaming elim->ę
open Go.Obj.cells renaming injEq->ģ
open Go.Oper renaming upon_value->Ħ,wp->Ń
open Go.Shelf renaming Ren->Ĭ
open Go.Result renaming andThen->į,andThen_ok->ĳ,ok->φ
open Go.TypeDesc renaming isRow->İ,slice->bm
open Go.Instr renaming fill->ı,index->Ι
open Go.Act renaming put->Ĵ
open Go.Sort renaming mapBlock->Ł,putRow->ζ
open Go.Sem renaming run_bind->ű,run_pure->Ų
open Go.Op renaming build->Χ,call->aE,alloc->bj
open Go.Proofs.Lays renaming n283->aK,n285->aL,n212->aN,n99->aS
variable{i n j b k m J j9 j7 j6:Nat}{w u W jX:É}{v x z jQ:È}{a p:ă}{h c:Int}{e t T:õ}{d q:Array È}{P:aF}{y:é}{B:ByteArray}{X:Nat->Prop}{O:Option ă}{l:List È}{yQ:Bool}{K H:é->É->Prop}{o:ş}{D:Nat->Nat}{jJ:List Nat}{qQ:ŭ}{zQ:List Int}{zJ:Go.TypeInfo}{xX:ŭ->È}{xJ:Nat×Nat}{vX:List ByteArray}{vJ:aT->é->É->Prop}{s:Go.Func}
namespace Go.Proofs.Y.fV
open Go Go.Proofs Go.RowKit Go.Proofs.Y.Lift
def fi{p:Prop}(h:p):Hid p:=h
def y_{b:Bool}(h:yQ=b):Ç (Ñ yQ)=Ç (Ñ b):=by rw[h]
def EK{k:IntKind}{b:Int}(h:c=b):Ç (Â k c)=Ç (Â k b):=by rw[h]
def z_{b:ByteArray}(h:B=b):Ç (Í B)=Ç (Í b):=by rw[h]
def kq:È->Bool
 |Â aU _=>Ï
 |Â _ _=>Ú
 |Ñ _=>Ú
 |_=>Ï
def mD(T:õ):Bool:=T==250||T==239
def rZ(m:Nat)(w:É):Prop:=∀(b:Nat) (c:Array È) (T:õ) (v:Nat×Nat),m<=b->w.heap[b]?=Ã (Ð c T v)->mD T=Ú->0<c.size/\∀v∈c.toList,kq v=Ú
def NF(b:Nat)(w:É):Prop:=∀(c:Array È) (T:õ) (a:Nat×Nat),w.heap[b]?=Ã (Ð c T a)->mD T=Ï
structure fg(X:Nat->Prop)(w w':É):Prop where
 M:w.heap.size<=w'.heap.size
 N:∀k,k<w.heap.size->¬X k->w'.heap[k]?=w.heap[k]?
 gX:ko w->ko w'
 Y:∀m,rZ m w->rZ m w'
section
variable{Y:Nat->Prop}{w' d:É}
theorem fg.gd(X:Nat->Prop)(w:É):fg X w w:=⟨Þ _,λ_ _ _=>rfl,id,λ_=>id⟩
def fg.fj(h:fg X W jX)(k:fg X jX d):fg X W d:= ⟨ë h.M k.M,λi b c=>(k.N i (ŧ b h.M) c).trans<|h.N i b c,λa=>k.gX<|h.gX a,λm a=>k.Y m<|h.Y m a⟩
def fg.S(h:fg X w w')(b:∀k,k<w.heap.size->X k->Y k):fg Y w w':= ⟨h.M,λk a c=>h.N k a λx=>c<|b k a x,h.gX,h.Y⟩
def fg.C(h:fg X W jX)(k:fg Y jX d)(e:∀i,i<W.heap.size->Y i->X i):fg X W d:= ⟨ë h.M k.M,λi b c=>(k.N i (ŧ b h.M) λy=>c<|e i b y).trans<|h.N i b c,λa=>k.gX<|h.gX a,λm a=>k.Y m<|h.Y m a⟩
def alq(a:ko w)(p:ă)(v:È):ko (w.setCell p v):=by
 intro i o h;by_cases e:i=p.block
 .subst e;unfold ą at h;simp only[Û,if_true]at h;cases b:w.heap[p.block]? with
  |none=>rw[b]at h;cases h
  |some d=>
   have:=a _ _ b;rw[b]at h;cases d with
   |cells c t z=>simp only[ñ,è]at h;subst h;exact λx=>x
   |_=>exact absurd trivial this
 .rw[Ė _ _ _ _ (by simpa using e)]at h;exact a i o h
theorem H2(a:ko w)(b:Array È)(t:õ)(z:Nat×Nat):ko (w.alloc<|Ð b t z):=by
 intro i o h;by_cases e:i<w.heap.size
 .rw[ď _ _ _ e]at h;exact a i o h
 .by_cases c:i=w.heap.size
  .subst c;rw[ì]at h;cases h;exact λx=>x
  .have:(w.alloc<|Ð b t z).heap.size<=i:=by simp;omega
   grind
def alr(a:rZ m w)(p:ă)(v:È)(f:kq v=Ú\/NF p.block w):rZ m (w.setCell p v):=by
 intro i c T k g h b;by_cases e:i=p.block
 .subst e;unfold ą at h;simp only[Û,if_true]at h;cases d:w.heap[p.block]? with
  |none=>rw[d]at h;cases h
  |some l=>
   rw[d]at h;cases l with
   |cells o t z=>
    simp only[ñ,è,ģ]at h;obtain⟨n,rfl,rfl⟩:=h;rcases f with f|f
    .subst n;split
     .exact a _ _ _ _ g d b
     .refine⟨by rw[Array.size_setIfInBounds];exact(a _ _ _ _ g d b).1,λu j=> ?_⟩;rw[Array.toList_setIfInBounds]at j;rcases List.mem_or_eq_of_mem_set j with q|q
      .exact(a _ _ _ _ g d b).2 u q
      .rwa[q]
    .rw[f _ _ _ d]at b;cases b
   |_=>cases h
 .rw[Ė _ _ _ _ (by simpa using e)]at h;exact a i c T k g h b
theorem H3(a:rZ m w)(b:Array È)(t:õ)(z:Nat×Nat)(j:mD t=Ï\/0<b.size/\∀v∈b.toList,kq v=Ú):rZ m (w.alloc<|Ð b t z):=by
 intro i c T d f h g;by_cases e:i<w.heap.size
 .rw[ď _ _ _ e]at h;exact a i c T d f h g
 .by_cases k:i=w.heap.size
  .grind [ì]
  .have:(w.alloc<|Ð b t z).heap.size<=i:=by simp;omega
   grind
def fg.I{p:Addr}(hx:X p.block)(v:Value)(hv:kq v=true\/NF p.block w:=by first|exact Or.inl (by rfl)|exact Or.inr<|by assumption):fg X w (w.setCell p v):= ⟨ft,λk _ hk=>Ė _ _ _ _ (by intro e;subst e;exact hk hx),λa=>alq a p v,λ_ a=>alr a p v hv⟩
def fg.gL(X:Nat->Prop)(w:World)(cs:Array Value)(t:TypeId)(hf:mD t=false\/0<cs.size/\∀v∈cs.toList,kq v=true:=by first|exact Or.inl (by decide)|exact Or.inr ⟨by simp,by simp[kq]⟩):fg X w (w.alloc<|.cells cs t):= ⟨ft,λk hk _=>ď _ _ _ hk,λa=>H2 a cs t (0,0),λ_ a=>H3 a cs t (0,0) hf⟩
def fg.iW(X:Nat->Prop)(w:É)(n:Nat):fg X w (w.drewN n):=⟨Þ _,λ_ _ _=>rfl,id,λ_=>id⟩
def fg.fY(X:Nat->Prop)(w:É):fg X w w.drew:=⟨Þ _,λ_ _ _=>rfl,id,λ_=>id⟩
def kp{X:Nat->Prop}{w w':World}(h:fg X w w':=by repeat' (first|(with_reducible exact fg.gd _ _)|(with_reducible refine fg.fj ?_<|fg.iW _ _ _)|(with_reducible refine fg.fj ?_<|fg.fY _ _)|(with_reducible refine fg.fj ?_<|fg.gL _ _ _ _))):fg X w w':=h
def fg.r(h:fg X w w')(b:w.cell? a=Ã v)(c:¬X a.block):w'.cell? a=Ã v:=by rwa[World.cell?_of_block<|h.N _ (á w a b) c]
end
def H4{u:È}(h:j≠b):(w.setCell ⟨j,i,Ä⟩ u).cell? ⟨b,n,Ä⟩=w.cell? ⟨b,n,Ä⟩:= World.cell?_setCell_other _ _ _ _<|by intro e;injection e with e1 e2;exact h e1
def fp(j:Nat)(vs:List È)(T:õ)(w:É):Prop:=w.heap[j]?=Ã (Ð vs.toArray T (0,0))
section
variable{vs:List È}{w':É}
def fp.N(w:É)(vs:List È)(T:õ):fp w.heap.size vs T (w.alloc<|Ð vs.toArray T):=ì w _
def fp.M(h:fp j vs T w):j<w.heap.size:=by
 rcases Ů j w.heap.size with a|a
 .exact a
 .unfold fp at h;rw[Array.getElem?_eq_none a]at h;cases h
def fp.r(h:fp j vs T w)(i:Nat)(v:È)(a:vs[i]?=Ã v):w.cell? ⟨j,i,Ä⟩=Ã v:=by unfold fp at h;simp only[Ζ,h,Ũ,ĭ,if_false,List.getElem?_toArray];exact a
def fp.C(h:fp j vs T w)(i:Nat):w.frozen? ⟨j,i,Ä⟩=Ï:=by unfold fp at h;simp[World.frozen?,h]
def fp.AR(h:fp j vs T w)(e:w'.heap[j]?=w.heap[j]?):fp j vs T w':=by unfold fp;rwa[e]
def fp.I(h:fp j vs T w)(k:fg X w w')(a:¬X j):fp j vs T w':=h.AR<|k.N j h.M a
theorem fp.fR(h:fp j vs T w)(i:Nat)(u:È):fp j (vs.set i u) T (w.setCell ⟨j,i,Ä⟩ u):=by unfold fp at h|-;unfold ą;grind
def fp.G(h:fp j vs T w)(hT:mD T=false:=by decide):NF j w:=λc T' fr q=>by unfold fp at h;rw[h]at q;cases q;exact hT
theorem fp.S(h:fp j vs T w)(k:fp i l e w)(a:T≠e):j≠i:=by rintro rfl;unfold fp at h k;grind
end
section
variable{w':É}{base:Nat}{size:Nat}{xs:List È}
def als(h:w.ownsRow base e size v n xs)(k:∀j,v.ownBlock=Ã j->w'.heap[j]?=w.heap[j]?):w'.ownsRow base e size v n xs:=by
 let⟨c,a⟩:=h;refine⟨c,?_⟩;rcases a with a|⟨g,d,f,b,i,l,r⟩
 .exact Ø a
 .refine Ù ⟨g,d,f,b,i,?_,r⟩;rw[k g (by rw[b];rfl)];exact l
def im(h:w.ownsRow base e size v n xs)(k:fg X w w')(b:∀j,v.ownBlock=Ã j->¬X j):w'.ownsRow base e size v n xs:= als h λj a=>k.N j (h.lt j a).2<|b j a
theorem jN(h:w.ownsRow base e size v n xs):∃a c,v=Ê a n c:=by rcases h.2 with⟨b,d⟩|⟨g,f,i,b,_⟩;all_goals grind
theorem me(h:w.ownsRow base e size v n xs)(a:v.ownBlock=Ã j):∃b,w.heap[j]?=Ã (Ð b e (0,0)):=by
 rcases h.2 with⟨c,_⟩|⟨g,f,b,c,_,d,_⟩
 .rw[c]at a;cases a
 .rw[c]at a;cases a;exact⟨b,d⟩
theorem jE(h:w.ownsRow base e size v n xs)(k:fp j l T w)(a:e≠T):v.ownBlock≠Ã j:=by intro q;let⟨b,c⟩:=me h q;unfold fp at k;grind
theorem alu(h:w.ownsRow base e size v n xs)(k:w.ownsRow i t b x m l)(a:e≠t)(c:v.ownBlock=Ã j):x.ownBlock≠Ã j:=by grind [me]
theorem SS{n:Nat}(h:v∈(ö d n).toList):v∈d.toList:=by unfold ö at h;grind [Array.toList_map,getElem,aO]
structure qn(w:É)(base:Nat)(e:õ)(size:Nat)(v:È)(n:Nat)(xs:List È)(m:Nat)(news:List È)(v':È)(w':É):Prop where
 fx:w'.ownsRow base e size v' (n+m) (xs++news)
 r:fg (λk=>v.ownBlock=Ã k) w w'
 C:v'.ownBlock=v.ownBlock\/v'.ownBlock=Ã w.heap.size
 I:∀v0 n0 xV,w.ownsRow base e size v0 n0 xV->(v0.ownBlock=v.ownBlock->n0<=n)->w'.ownsRow base e size v0 n0 xV
def qn.alv(c:w.ownsRow base e size v n xs)(f:l.length=m*size)(g:base<=w.heap.size)(j:n+m<=i)(o:i<=Ą)(p:d.size=i*size)(q:d.toList.take ((n+m)*size)=xs++l)(r:mD e=Ï\/0<d.size/\∀v∈d.toList,kq v=Ú): qn w base e size v n xs m l (Ê (Ã ⟨w.heap.size,0,Ä⟩) (n+m) i) (w.drew.alloc<|Ð d e):=by have b:∀X,fg X w (w.drew.alloc<|Ð d e):=λX=>⟨ft,λk s _=>ď _ _ _ s,λa=>H2 a d e (0,0),λ_ a=>H3 a d e (0,0) r⟩;refine⟨⟨by rw[Ó,c.1,f,ő],Ù ⟨w.heap.size,i,d,U,g,ì w.drew _,j,o,p,q⟩⟩,b _,Ù U,λt u x h _=>im h (b λ_=>False) λ_ _=>id⟩
theorem SU{ty:õ}{bytes:Nat}(F:P.underlying t=Ã (bm e))(G:P.info? e=Ã zJ)(Q:zJ.zero=Ã z) (xW:zJ.size=size) (xY:zJ.bytes=bytes) (rW:z.cells.size=size) (p:w.ownsRow base e size v n xs) (a:ă) (c:Nat) (b:List È) (hm:0<m) (r:b.length=m*size) (H:∀j u,b[j]?=Ã u->w.cell? (a.add j)=Ã u) (h1:∀u∈b,u.oneCell'=Ú) (S:n+m<=Ą) (V:(n+m)*bytes<=140737488355328) (Cj:base<=w.heap.size) (W:mD e=Ï\/(0<b.length/\(∀u∈xs++b,kq u=Ú)/\∀u∈z.cells.toList,kq u=Ú)): ∃x w',(Ō #[t,t] ty #[v,Ê (Ã a) m c]).run P w=φ x w'/\qn w base e size v n xs m b x w':=by
 subst xW;subst xY;have alx:n+m<=9223372036854775807:=by simp only[Ą]at S;omega
 have hlen:(xs++b).length=(n+m)*zJ.size:=by rw[Ó,p.1,r,ő]
 have avk:=p;have tk:∀d,((xs.toArray++b.toArray++ö z.cells (Œ w (n+m) d e-(n+m))).toList.take ((n+m)*zJ.size)=xs++b):=λd=>by grind
 have sz:∀d,(xs.toArray++b.toArray++ö z.cells (Œ w (n+m) d e-(n+m))).size=Œ w (n+m) d e*zJ.size:=λd=>by have x:=Η w (n+m) d e;simp only[ů,ć,size_zeroCells,rW,p.1,r,<-ő];congr 1;omega
 have aly:∀d,mD e=Ï\/0<(xs.toArray++b.toArray++ö z.cells (Œ w (n+m) d e-(n+m))).size/\∀v∈(xs.toArray++b.toArray++ö z.cells (Œ w (n+m) d e-(n+m))).toList,kq v=Ú:=λd=>by
  cases s:mD e with
  |false=>exact Ø U
  |true=>
   rcases W with q|⟨x,B,I⟩
   .rw[q]at s;cases s
   .refine Ù ⟨by simp only[ů,ć];omega,λv f=> ?_⟩;simp only[Š,ú]at f;rcases f with(f|f)|f
    .exact B v<|œ _ f
    .exact B v<|List.mem_append_right _ f
    .exact I v<|SS f
 have gr:=λd=>qn.alv p r Cj (Η w (n+m) d e) (grownCap_le_maxLen w (n+m) d e S) (sz d) (tk d)<|aly d;rcases p.2 with⟨rfl,rfl⟩|⟨g,y,h,rfl,hbg,C,hnc,hcm,X,htake⟩
 .have J:=ß (by simpa using p.1);subst J;have Y:=run_append_nil w t ty e zJ z F G Q a m c b r H hm Z (by have x:=V;simp only[ł]at x;omega);grind
 .by_cases K:n+m<=y
  .have SV:n*zJ.size+b.length<=h.size:=by rw[r,X,<-ő];exact Ŕ _ K
   have Y:=run_append_room w t ty e zJ F G g n y h C a m c b r H h1 K SV;have E:=ĝ w g h (h.toList.take (n*zJ.size)++b++h.toList.drop (n*zJ.size+b.length)).toArray e _ C;have L:=λk (M:k≠g)=>ė w g k (h.toList.take (n*zJ.size)++b++h.toList.drop (n*zJ.size+b.length)).toArray M;have N:(h.toList.take (n*zJ.size)++b++h.toList.drop (n*zJ.size+b.length)).toArray.size=h.size:=by grind
   have kp:fg (λk=>Į (Ê (Ã ⟨g,0,Ä⟩) n y)=Ã k) w (w.setRow g (h.toList.take (n*zJ.size)++b++h.toList.drop (n*zJ.size+b.length)).toArray):=by
    refine⟨ft,λk _ M=>L k λe=>M (by simp[Į,e]),λal q o l=> ?_,λm' hF q c T fr O l s=> ?_⟩;rotate_left
    .by_cases D:q=g
     .subst D;rw[E]at l;cases l;rcases W with qq|⟨_,B,_⟩
      .grind
      .refine⟨by rw[N];exact(hF _ _ _ _ O C s).1,λu x=> ?_⟩;simp only[ú]at x;rcases x with(x|x)|x
       .grind
       .grind
       .exact(hF _ _ _ _ O C s).2 u<|List.mem_of_mem_drop x
     .rw[L q D]at l;exact hF q c T fr O l s
    by_cases D:q=g
    .subst D;rw[E]at l;cases l;exact λx=>x
    .rw[L q D]at l;exact al q o l
   refine⟨_,_,Y,⟨hlen,Ù ⟨g,y,_,U,hbg,E,K,hcm,by rw[N,X],?_⟩⟩,kp,Ø U,λo q xV x s=> ?_⟩
   .grind
   .by_cases f:o.ownBlock=Ã g
    .let⟨B,I⟩:=x;refine⟨B,?_⟩;rcases I with⟨rfl,_⟩|⟨g0,D,avl,rfl,O,l,T,b4,b5,b6⟩
     .cases f
     .have:g0=g:=by simpa[Į]using f
      subst this;rw[C]at l;cases l;refine Ù ⟨g0,D,_,U,O,E,T,b4,by rw[N,b5],?_⟩;rw[htake];have avm:q*zJ.size<=n*zJ.size:=Ŕ _<|s f;grind
    .exact im x kp λj l J=>f<|by rw[l];simpa[Į]using J.symm
  .exact⟨_,_,(Λ w t ty e zJ z F G Q ⟨g,0,Ä⟩ n y xs p.1 (p.cells U) a m c b r H Z Z<|ŕ Z V),gr y⟩
def Ck{P:Program}{ops:Array Oper}{rest:List Oper}{o:Oper}{a:Act}{Q:Exit->Act->World->Prop}(H5:o.guard=none)(s x:Operand)(t:TypeId) (ho:o.op=.call {callee:=.builtin .append,args:=#[s,x],argTypes:=#[t,t]}) {i:TypeInfo} {z:Value} {bytes:Nat} (ht:P.underlying t=some (.slice e)) (hi:P.info? e=some i) (hz:i.zero=some z) (xW:i.size=size) (xY:i.bytes=bytes) (rW:z.cells.size=size) (hs:a.eval s=v) (lQ:w.ownsRow base e size v n xs) (ad:Addr) {m c:Nat} (news:List Value) (hx:a.eval x=.slice (some ad) m c) (hm:0<m) (hl:news.length=m*size) (SY:∀j u,news[j]?=some u->w.cell? (ad.add j)=some u) (h1:∀u∈news,u.oneCell'=true) (Cl:n+m<=maxLen) (Cm:(n+m)*bytes<=140737488355328) (Cj:base<=w.heap.size) (h:∀v' w',qn w base e size v n xs m news v' w'->wpList P ops Q rest (a.put o.dst v') w') (hfl:mD e=false\/(0<news.length/\(∀u∈xs++news,kq u=true)/\∀u∈z.cells.toList,kq u=true):=by first|exact Or.inl (by decide)|exact Or.inr ⟨by simp,by simp[kq],by simp[kq,Value.cells]⟩): wpList P ops Q (o::rest) a w:=by refine Ű H5 λK hK=> ?_;let⟨v',w',hr,h2⟩:=SU (ty:=o.type) ht hi hz xW xY rW lQ ad c news hm hl SY h1 Cl Cm Cj hfl;unfold Ń Ĥ;simp only[ho,ae,aP,ag,ű,Ų,ĳ,ļ,Ť,ų,hs,hx,hr];exact hK _ _<|h v' w' h2
end
structure H6 where
 fw:Int
 r:ByteArray
 C:Nat->Int
abbrev St:=Nat->H6
def St.fR(s:St)(i:Nat)(a:H6):St:=λj=>if j=i then a else s j
def St.fw(s:St)(i:Nat)(b:Int):St:=s.fR i {s i with fw:=b}
def St.C(s:St)(i:Nat)(p:ByteArray):St:=s.fR i {s i with r:=p}
def St.r(s:St)(i j:Nat)(v:Int):St:=s.fR i {s i with C:=λk=>if k=j then v else(s i).C k}
def qo(n:Int):È:=Â Æ n
def SZ(n:Int):È:=Â Ë n
def qp(s:St)(i:Nat):È:=if i%18=0 then qo (s<|i/18).fw else if i%18=1 then Í (s<|i/18).r else qo ((s<|i/18).C<|i%18-2)
def sd(s:St)(a:È)(i:Nat):È:=if 144<=i then a else qp s i
theorem rf(s:St)(a:È)(h:i<144):sd s a i=qp s i:=by unfold sd;rw[if_neg Z]
def jo(s:St)(lv:È):List È:=(ċ 145).map<|sd s lv
theorem mQ(s:St)(lv:È):(jo s lv).length=145:=by simp[jo]
theorem H7(s:St)(a:È)(h:i<145):(jo s a)[i]?=Ã (sd s a i):=by unfold jo;grind
theorem A_{s:St}(h:l.length=145)(a:∀i,i<145->l[i]?=Ã (sd s v i)):l=jo s v:=by apply ý;grind [H7,mQ]
section
variable(s:St)(lv:È)
def H8(h:i<8):sd s lv (i*18)=qo (s i).fw:=by rw[rf _ _ Z,qp,if_pos Z,show i*18/18=i from by omega]
def LU(h:i<8):sd s lv (i*18+1)=Í (s i).r:=by rw[rf _ _ Z,qp,if_neg Z,if_pos Z,show(i*18+1)/18=i from by omega]
def LV(h:i<8)(a:j<16):sd s lv (i*18+2+j)=qo ((s i).C j):=by rw[rf _ _ Z,qp,if_neg Z,if_neg Z,show(i*18+2+j)/18=i from by omega,show(i*18+2+j)%18-2=j from by omega]
theorem LW:sd s lv 144=lv:=by unfold sd;grind
theorem alz(v:È):(jo s lv).set 144 v=jo s v:=by
 refine A_ (by rw[ĕ,mQ]) λi a=> ?_;by_cases e:i=144
 .grind [mQ,LW]
 .rw[Ŗ<|Ne.symm e,H7 _ _ a,rf _ _ Z,rf _ _ Z]
theorem S0(f:i<144){c:St}(g:sd c lv i=v)(h:∀b,b<144->b≠i->qp c b=qp s b):(jo s lv).set i v=jo c lv:=by
 refine A_ (by rw[ĕ,mQ]) λb d=> ?_;by_cases e:b=i
 .grind [mQ]
 .rw[Ŗ<|Ne.symm e,H7 _ _ d];grind [rf,LW]
def A'(h:i<8)(b:Int):(jo s lv).set (i*18) (qo b)=jo (s.fw i b) lv:=by
 refine S0 s lv Z ?_ λk a c=> ?_
 .rw[H8 _ _ h];simp[St.fw,St.fR]
 .unfold qp;by_cases e:k/18=i
  .have:k%18≠0:=Z
   simp[St.fw,St.fR,e,this]
  .simp[St.fw,St.fR,e]
def alA(h:i<8)(p:ByteArray):(jo s lv).set (i*18+1) (Í p)=jo (s.C i p) lv:=by
 refine S0 s lv Z ?_ λk a b=> ?_
 .rw[LU _ _ h];simp[St.C,St.fR]
 .unfold qp;by_cases e:k/18=i
  .have:k%18≠1:=Z
   simp[St.C,St.fR,e,this]
  .simp[St.C,St.fR,e]
def alB(h:i<8)(c:j<16)(v:Int):(jo s lv).set (i*18+2+j) (qo v)=jo (s.r i j v) lv:=by
 refine S0 s lv Z ?_ λk d f=> ?_
 .rw[LV _ _ h c];simp[St.r,St.fR]
 .unfold qp;by_cases e:k/18=i
  .by_cases a:k%18=0
   .simp[St.r,St.fR,e,a]
   .by_cases b:k%18=1
    .simp[St.r,St.fR,e,b]
    .have:k%18-2≠j:=Z
     simp[St.r,St.fR,e,a,b,this]
  .simp[St.r,St.fR,e]
end
def iF(b:Nat)(T:õ)(tl:List È)(s:St)(lv:È)(w:É):Prop:=fp b (jo s lv++tl) T w
section
variable{tl:List È}{s:St}{lv:È}
def iF.H9(h:iF b T tl s lv w)(a:i<145):w.cell? ⟨b,i,Ä⟩=Ã (sd s lv i):= fp.r h i _<|by rw[ç (by rwa[mQ]),H7 _ _ a]
def iF.qE(h:iF b T tl s lv w)(c:i<145){a:St}(e:(jo s lv).set i v=jo a x):iF b T tl a x (w.setCell ⟨b,i,Ä⟩ v):=by have:=fp.fR h i v;rw[Ğ _ _ (show i<(jo s lv).length by rwa[mQ]),e]at this;exact this
def iF.fw(h:iF b T tl s lv w)(a:i<8):w.cell? ⟨b,i*18,Ä⟩=Ã (Â Æ (s i).fw):=by rw[h.H9 Z,H8 _ _ a];rfl
def iF.LX(h:iF b T tl s lv w)(a:i<8):w.cell? ⟨b,i*18+1,Ä⟩=Ã (Í (s i).r):=by rw[h.H9 Z,LU _ _ a]
def iF.B_(h:iF b T tl s lv w)(a:i<8)(c:j<16):w.cell? ⟨b,i*18+2+j,Ä⟩=Ã (Â Æ<|(s i).C j):=by rw[h.H9 Z,LV _ _ a c];rfl
def iF.Cn(h:iF b T tl s lv w):w.cell? ⟨b,144,Ä⟩=Ã lv:=by rw[h.H9 Z,LW]
def iF.zS(h:iF b T tl s lv w)(a:i<8)(x:Int):iF b T tl (s.fw i x) lv (w.setCell ⟨b,i*18,Ä⟩<|Â Æ x):=h.qE Z<|A' s lv a x
def iF.alC(h:iF b T tl s lv w)(a:i<8)(x:ByteArray):iF b T tl (s.C i x) lv (w.setCell ⟨b,i*18+1,Ä⟩<|Í x):=h.qE Z<|alA s lv a x
def iF.S2(h:iF b T tl s lv w)(a:i<8)(c:j<16)(x:Int):iF b T tl (s.r i j x) lv (w.setCell ⟨b,i*18+2+j,Ä⟩<|Â Æ x):=h.qE Z<|alB s lv a c x
def iF.alD(h:iF b T tl s lv w)(v:È):iF b T tl s v (w.setCell ⟨b,144,Ä⟩ v):=h.qE Z<|alz s lv v
end
def xZ(b:Bool):Int:=if b then 1 else 0
def Ia(b:Bool)(w:É):Ò À 143 #[Ñ b] w λe a=>e=Ç (Â Æ<|xZ b)/\a=w:=by
 go_enter Tryz.func143,Tryz.ntmps143;go_wp2;all_goals go_ret
 all_goals refine⟨EK ?_,U⟩
 all_goals simp[xZ, *]
def B'(b o:Nat)(s:Int)(c:0<=s)(d:s<18446744073709551616)(w:É):Ò À 192 #[Å<|Ã ⟨b,o,Ä⟩,Â Æ s] w λe a=>e=Ç (Å<|Ã ⟨b,o+2+(s%16).toNat,Ä⟩)/\a=w:=by
 go_enter Tryz.func192,Tryz.ntmps192;go_wp2;all_goals go_ret
 exact⟨U,U⟩
def wu(n:Int):Int:=Æ.wrap n
def S3(a:0<=h)(b:h<18446744073709551616):wu h=h:=by show h%18446744073709551616=h;omega
def C_(n:Int):wu n=n%18446744073709551616:=rfl
def alE(n:Int):0<=wu n:=by rw[C_];omega
def alF(n:Int):wu n<18446744073709551616:=by rw[C_];omega
def ya(k p q:Int):Int:=
 if k=2 then wu (p+q)else if k=3 then wu (p-q)else if k=4 then wu (p*q)
 else if k=5 then(if q=0 then 0 else p/q)else if k=6 then xZ (decide<|p<q)else xZ (decide<|p=q)
def alG(k p q:Int)(b:0<=p)(c:p<18446744073709551616)(d:0<=q)(f:q<18446744073709551616)(w:É):Ò À 195 #[Â Ë k,Â Æ p,Â Æ q] w λe a=>e=Ç (Â Æ<|ya k p q)/\a=w:=by
 go_enter Tryz.func195,Tryz.ntmps195;go_wp2_with (go_at_call 143;refine(Ia _ _).mono ?_;rintro e a ⟨rfl,rfl⟩);all_goals simp only[beq_iff_eq,beq_eq_false_iff_ne,ne_eq]at*
 all_goals first
  |(exfalso;simp_all;done)
  |(go_ret;refine⟨EK ?_,U⟩;unfold ya;simp[wu, *];done)
  |(go_ret;refine⟨EK ?_,U⟩;unfold ya;simp[wu, *];rfl)
structure RC where
 x:Nat
 y:Nat
 k:Int
 d:Int
 g:Int
def pJ(a:Nat)(c:RC)(b:È):List È:=[Å<|Ã ⟨a,0,Ä⟩,Â Ë c.x,Â Ë c.y,Â Æ c.k,Â Ë c.d,Â Æ c.g,b]
def pK(l:List Int):List È:=l.map qo
theorem alH{base:Nat}(h:w.ownsRow base e 1 (Ê O (n+1) i) (n+1) (l++[x])):w.ownsRow base e 1 (Ê O n i) n l:=by
 let⟨d,b⟩:=h;simp only[Ó,Ľ,Μ,ŗ]at d;refine⟨Z,?_⟩;rcases b with⟨b,_⟩|⟨g,q,f,b,j,k,r,m,o,p⟩
 .cases b
 .cases b;refine Ù ⟨g,i,f,U,j,k,Z,m,o,?_⟩;have:=congrArg (List.take n) p;grind
def LY{base:Nat}(h:w.ownsRow base e 1 (Ê O (n+1) i) (n+1) (l++[x])):∃g,O=Ã ⟨g,0,Ä⟩/\w.cell? ⟨g,n,Ä⟩=Ã x/\n+1<=i:=by
 let⟨f,d⟩:=h;simp only[Ó,Ľ,Μ,ŗ]at f;rcases d with⟨d,_⟩|⟨g,o,p,d,q,j,k,r,s,m⟩
 .cases d
 .cases d;refine⟨g,U,?_,k⟩;have:=congrArg (λb=>b[n]?) m;simp only[ŗ]at this;rw[List.getElem?_take_of_lt Z,ü Z,show n-l.length=0 by omega]at this;simp only[Ζ,j];simpa using this
def LZ(j d:Nat)(c:RC)(f:È)(base:Nat)(b:List Int)(p:Int)(w:É)(i:fp d (pJ j c f) 276 w)(h:w.ownsRow base 23 1 f (b.length+1) (pK b++[qo p]))(k:b.length<=1000): Ò À 188 #[Å<|Ã ⟨d,0,Ä⟩] w λe g=>e=Ç (Â Æ p)/\∃a,g=w.setCell ⟨d,6,Ä⟩ a/\w.ownsRow base 23 1 a b.length (pK b)/\a.ownBlock=f.ownBlock:=by obtain⟨a,l,rfl⟩:=jN h;obtain⟨g,rfl,m,o⟩:=LY h;have e:=alH h;have q:=i.r 6 _ U;have r:=i.C 6;have H:=fi e;generalize b.length=n at*;go_enter Tryz.func188,Tryz.ntmps188;go_wp2;go_ret;refine⟨U,_,U,?_,U⟩;simpa using H.out
def alI:(À.info? 23).map (λi=>(i.zero,i.size,i.bytes))=Ã (Ã<|Â Æ 0,1,8):=fv
def C'(q b:Nat)(c:RC)(d:È)(base:Nat)(l:List È)(n:Nat)(f m:Nat)(r:Nat)(a:List È)(w:É)(g:fp b (pJ q c d) 276 w)(o:w.ownsRow base 23 1 d n l)(F:n+m<=1000) (s:0<m) (t:a.length=m) (v:∀j u,a[j]?=Ã u->w.cell? ((⟨f,0,Ä⟩:ă).add j)=Ã u) (x:∀u∈a,u.oneCell'=Ú) (y:base<=w.heap.size): Ò À 187 #[Å<|Ã ⟨b,0,Ä⟩,Ê (Ã ⟨f,0,Ä⟩) m r] w λe p=>e=Ç (æ #[])/\∃i k,qn w base 23 1 d n l m a i k/\p=k.setCell ⟨b,6,Ä⟩ i:=by let⟨G,z,B,C,D⟩:=í alI;have E:=g.r 6 _ U;have p:=jE o g A;have H:=fi g;go_enter Tryz.func187,Tryz.ntmps187;go_wp2_with (at_builtin;refine Ck U _ _ 224 U Tryz.underlying224 z B C D U U o ⟨f,0,Ä⟩ a U s (by rw[t,ŗ]) v x (by unfold Ą;omega) Z y ?_;intro i k e;obtain⟨I,J,rfl⟩:=jN e.fx;have K:=e.r.r E p;have L:=(H.out.I e.r p).C 6);go_end0;exact⟨U,_,_,e,U⟩
def kr(l:List (Nat×Int)):List È:=l.flatMap λp=>[SZ p.1,qo p.2]
structure ja where
 r:Nat
 T:õ
 C:List È
structure ja.Ok(E:ja):Prop where
 M:E.T≠23
 r:E.T≠250
 I:E.T≠276
 N:E.T≠294
 alJ:E.T≠245
 alK:E.T≠239
def ja.Ok.C{E:ja}(h:E.Ok):mD E.T=Ï:=by unfold mD;rw[beq_eq_false_iff_ne.2 h.r,beq_eq_false_iff_ne.2 h.alK];rfl
structure R(E:ja)(rb:Nat)(c:RC)(sv lv:È)(ss:List Int)(s:St)(ls:List (Nat×Int))(w:É):Prop where
 r:fp rb (pJ E.r c sv) 276 w
 I:w.ownsRow 0 23 1 sv ss.length (pK ss)
 C:iF E.r E.T E.C s lv w
 M:w.ownsRow 0 250 2 lv ls.length (kr ls)
structure Tr(E:ja)(rb:Nat)(sv lv:È)(n:Nat)(w:É)(kj jD:È)(n':Nat)(w':É):Prop where
 r:fg (λk=>k=E.r\/k=rb\/sv.ownBlock=Ã k\/lv.ownBlock=Ã k) w w'
 s:∀j,kj.ownBlock=Ã j->sv.ownBlock=Ã j\/w.heap.size<=j
 l:∀j,jD.ownBlock=Ã j->lv.ownBlock=Ã j\/w.heap.size<=j
 C:∀v0 n0 xV,w.ownsRow 0 250 2 v0 n0 xV->(v0.ownBlock=lv.ownBlock->n0<=n)->w'.ownsRow 0 250 2 v0 n0 xV/\(v0.ownBlock=jD.ownBlock->n0<=n')
section
variable{E:ja}{rb:Nat}{c:RC}{sv lv f o:È}{ss:List Int}{s:St}{ls:List (Nat×Int)}
theorem Tr.gd(E:ja)(rb:Nat)(sv lv:È)(n:Nat)(w:É):Tr E rb sv lv n w sv lv n w:= ⟨fg.gd _ _,λ_ h=>Ø h,λ_ h=>Ø h,λ_ _ _ h k=>⟨h,k⟩⟩
theorem Tr.fj(h:Tr E rb sv lv n w f z b u)(k:Tr E rb f z b u o jQ m W):Tr E rb sv lv n w o jQ m W:=by
 refine⟨h.r.C k.r ?_,λj a=> ?_,λj a=> ?_,λc d g p q=> ?_⟩
 .rintro i r (e|e|e|e)
  .exact Ø e
  .grind
  .exact Ù<|Ù<|Ø<|(h.s i e).resolve_right Z
  .exact Ù<|Ù<|Ù<|(h.l i e).resolve_right Z
 .rcases k.s j a with e|e
  .exact h.s j e
  .exact Ù<|ë h.r.M e
 .rcases k.l j a with e|e
  .exact h.l j e
  .exact Ù<|ë h.r.M e
 .let⟨e,i⟩:=h.C c d g p q;exact k.C c d g e i
def Tr.I(k:fg X w u)(c:∀i,i<w.heap.size->X i->i=E.r\/i=rb\/sv.ownBlock=Ã i)(d:∀j,f.ownBlock=Ã j->sv.ownBlock=Ã j\/w.heap.size<=j)(g:∀i a,X i->w.heap[i]?≠Ã (Ð a 250 (0,0))):Tr E rb sv lv n w f lv n u:= ⟨k.S λi h q=>(c i h q).elim Ø λe=>Ù (e.elim Ø λe=>Ù<|Ø e),d,λj q=>Ø q,λp r s b l=>⟨im b k λj m q=>by let⟨a,o⟩:=me b m;exact g j a q o,l⟩⟩
def Tr.alL{Y:Nat->Prop}(t:Tr E rb sv lv n w f z b u)(k:fg Y u W)(m:∀i,Y i->w.heap.size<=i)(o:∀i a,Y i->u.heap[i]?≠Ã (Ð a 250 (0,0))):Tr E rb sv lv n w f z b W:= ⟨t.r.C k λi v q=>absurd (m i q) Z,t.s,t.l,λc d e g h=>⟨im (t.C c d e g h).1 k λj p q=>by let⟨a,r⟩:=me (t.C c d e g h).1 p;exact o j a q r,(t.C c d e g h).2⟩⟩
def R.alM(ok:E.Ok)(h:R E rb c sv lv ss s ls w)(a:fp j l 245 w)(k:fg (λi=>i=j) w u):R E rb c sv lv ss s ls u:= ⟨h.r.I k<|fp.S h.r a A,im h.I k λi q r=>jE h.I a A (by rw[q,r]),h.C.I k<|fp.S h.C a ok.alJ,im h.M k λi q r=>jE h.M a A<|by rw[q,r]⟩
theorem R.N(ok:E.Ok)(h:R E rb c sv lv ss s ls w)(i:Nat){c':RC}{kj:È}{ss':List Int}(e:(pJ E.r c sv).set i v=pJ E.r c' kj)(b:w.ownsRow 0 23 1 kj ss'.length (pK ss'))(d:∀j,kj.ownBlock=Ã j->sv.ownBlock=Ã j): R E rb c' kj lv ss' s ls (w.setCell ⟨rb,i,Ä⟩ v)/\Tr E rb sv lv ls.length w kj lv ls.length (w.setCell ⟨rb,i,Ä⟩ v):=by have a:=fg.I (X:=λk=>k=rb) (p:=⟨rb,i,Ä⟩) U v<|Ù h.r.G;refine⟨⟨by have:=h.r.fR i v;rwa[e]at this,im b a λj q r=>jE b h.r A (by rw[q,r]),h.C.I a<|fp.S h.C h.r ok.I,im h.M a λj q r=>jE h.M h.r A<|by rw[q,r]⟩,Tr.I a (λi _ q=>Ù<|Ø q) (λj q=>Ø<|d j q) λi f q g=> ?_⟩;have k:=h.r;unfold fp at k;grind
def R.S(ok:E.Ok)(h:R E rb c sv lv ss s ls w)(i:Nat){d:St}(k:iF E.r E.T E.C d lv (w.setCell ⟨E.r,i,Ä⟩ v)): R E rb c sv lv ss d ls (w.setCell ⟨E.r,i,Ä⟩ v)/\Tr E rb sv lv ls.length w sv lv ls.length (w.setCell ⟨E.r,i,Ä⟩ v):=by have b:=fg.I (X:=λk=>k=E.r) (p:=⟨E.r,i,Ä⟩) U v<|Ù<|fp.G h.C ok.C;refine⟨⟨h.r.I b (fp.S h.C h.r ok.I).symm,im h.I b λj q r=>jE h.I h.C ok.M.symm (by rw[q,r]),k,im h.M b λj q r=>jE h.M h.C ok.r.symm<|by rw[q,r]⟩,Tr.I b (λi _ q=>Ø q) (λj q=>Ø q) λi e q a=> ?_⟩;rw[q,h.C]at a;injection a with a;injection a with _ a;exact ok.r a
theorem R.Y(ok:E.Ok)(h:R E rb c sv lv ss s ls w){ns:List Int}{u:É}(o:ns.length=m)(a:qn w 0 23 1 sv ss.length (pK ss) m (pK ns) v u): R E rb c v lv (ss++ns) s ls (u.setCell ⟨rb,6,Ä⟩ v)/\Tr E rb sv lv ls.length w v lv ls.length (u.setCell ⟨rb,6,Ä⟩ v):=by
 subst o;have d:∀{i:Nat} {f:Array È} {T:õ},sv.ownBlock=Ã i->w.heap[i]?=Ã (Ð f T (0,0))->T=23:=λ{i f T} q l=>by let⟨g,e⟩:=me h.I q;grind
 have b:R E rb c sv lv ss s ls u:=⟨h.r.I a.r λq=>absurd (d q h.r) A,a.I _ _ _ h.I λ_=>Þ _,h.C.I a.r λq=>ok.M<|d q h.C,im h.M a.r λj q r=>by let⟨g,e⟩:=me h.M q;exact absurd (d r e) A⟩;have n:u.ownsRow 0 23 1 v (ss++ns).length (pK<|ss++ns):=by have:=a.fx;rwa[show pK ss++pK ns=pK (ss++ns) by simp[pK],show ss.length+ns.length=(ss++ns).length by simp]at this
 have g:=fg.I (X:=λk=>k=rb) (p:=⟨rb,6,Ä⟩) U v<|Ù b.r.G;refine⟨⟨b.r.fR 6 v,im n g λj q r=>jE n b.r A (by rw[q,r]),b.C.I g<|fp.S b.C b.r ok.I,im b.M g λj q r=>jE b.M b.r A<|by rw[q,r]⟩,(Tr.I a.r (λi _ q=>Ù<|Ù q) (λj q=>a.C.elim (λe=>Ø<|by rwa[<-e]) λe=>Ù<|by rw[e]at q;cases q;exact Þ _) λi f q l=>absurd (d q l) A).fj<|Tr.I g (λi _ q=>Ù<|Ø q) (λj q=>Ø q) λi f q l=> ?_⟩;have e:=b.r;unfold fp at e;grind
end
section
variable{E:ja}{rb:Nat}{c:RC}{sv lv:È}{s:St}{ls:List (Nat×Int)}
def R.fP(h:R E rb c sv lv zQ s ls w)(k:fg fl w W):R E rb c sv lv zQ s ls W:= ⟨h.r.I k id,im h.I k λ_ _=>id,h.C.I k id,im h.M k λ_ _=>id⟩
def Tr.fP(k:fg fl w W):Tr E rb sv lv n w sv lv n W:=Tr.I k (λ_ _=>ę) (λ_ q=>Ø q) λ_ _=>ę
end
def je:List (Int×Int×Int):=[(0,0,0),(1,0,1),(1,2,1),(1,2,1),(2,2,1),(2,2,1),(1,2,1),(1,2,1),(1,1,2),(1,2,2),(1,1,0),(1,0,1),(1,0,1),(1,0,1),(1,0,1),(3,1,1),(6,2,0),(2,2,0),(8,2,1),(4,1,0),(8,3,2),(1,1,0),(1,0,0)]
structure iP(w:É):Prop where
 M:∃cs fz,w.heap[2]?=Ã (Ð cs 294 fz)
 I:∀(k:Nat) (r:Int×Int×Int),je[k]?=Ã r->w.cell? ⟨2,k*3,Ä⟩=Ã (Â Æ r.1)/\w.cell? ⟨2,k*3+1,Ä⟩=Ã (Â Ë r.2.1)/\w.cell? ⟨2,k*3+2,Ä⟩=Ã (Â Ë r.2.2)
theorem iP.r(h:iP w)(k:fg X w u)(a:¬X 2):iP u:=by
 let⟨b,c,d⟩:=h.M;have e:2<w.heap.size:=by grind
 refine⟨⟨b,c,by rwa[k.N 2 e a]⟩,λi r f=> ?_⟩;let⟨g,j,l⟩:=h.I i r f;exact⟨k.r g a,k.r j a,k.r l a⟩
theorem iP.C(h:iP w)(a:w.heap[j]?=Ã (Ð d T xJ))(b:T≠294):j≠2:=by rintro rfl;let⟨c,e,f⟩:=h.M;grind
def iP.N{E:ja}(ok:E.Ok){rb:Nat}{c:RC}{sv lv:È}{s:St}{a:List (Nat×Int)}(h:iP w)(r:R E rb c sv lv zQ s a w)(t:Tr E rb sv lv n w v x i u):iP u:=by
 refine h.r t.r ?_;rintro(e|e|e|e)
 .exact h.C r.C ok.N e.symm
 .exact h.C r.r A e.symm
 .let⟨b,q⟩:=me r.I e;exact h.C q A U
 .let⟨b,q⟩:=me r.M e;exact h.C q A U
theorem L0:∀(k:Nat) (r:Int×Int×Int),je[k]?=Ã r->0<=r.1/\r.1<=8/\0<=r.2.1/\r.2.1<=3/\0<=r.2.2/\r.2.2<=2:=by
 have h:∀r∈je,0<=r.1/\r.1<=8/\0<=r.2.1/\r.2.1<=3/\0<=r.2.2/\r.2.2<=2:=A
 grind
def kt(g:Int)(n:Nat)(b a c:Int):Bool:= !(decide (g<b)||(decide ((n:Int)-a<0)||decide (32<(n:Int)-a+c)))
def S4(E:ja)(f:Nat)(c:RC)(a d:È)(i:List Int)(s:St)(e:List (Nat×Int))(w:É)(j:Int)(b:Bool)(h:É):Prop:=
 R E f (if b then{c with g:=c.g-j}else c) a d i s e h/\Tr E f a d e.length w a d e.length h
section
variable{E:ja}{rb:Nat}{c:RC}{sv lv:È}{s:St}{ls:List (Nat×Int)}
def S5(a:R E rb c sv lv zQ s ls w)(k:fg fl w u):S4 E rb c sv lv zQ s ls w h Ï u:=⟨a.fP k,Tr.fP k⟩
def alN(ok:E.Ok)(a:R E rb c sv lv zQ s ls w){g:Int}(d:c.g=g)(e:u=W.setCell ⟨rb,5,Ä⟩ (Â Æ<|g-h))(k:fg fl w W):S4 E rb c sv lv zQ s ls w h Ú u:=by subst d e;have b:=a.fP k;let⟨f,i⟩:=b.N ok 5 (c':={c with g:=c.g-h}) U b.I λ_ q=>q;exact⟨f,(Tr.fP k).fj i⟩
end
def Co(E:ja)(ok:E.Ok)(m:Nat)(c:RC)(q r:È)(d:List Int)(s:St)(t:List (Nat×Int))(w:É)(h:R E m c q r d s t w)(u:iP w)(k:Nat)(f b i:Int)(o:je[k]?=Ã (f,b,i))(y:d.length<=1000)(P:0<=c.g)(Q:c.g<18446744073709551616): Ò À 186 #[Å<|Ã ⟨m,0,Ä⟩,Â Ë k] w λe a=>e=Ç (Ñ<|kt c.g d.length f b i)/\S4 E m c q r d s t w f (kt c.g d.length f b i) a:=by
 let⟨z,B,C⟩:=u.I k _ o;obtain⟨a,S,rfl⟩:=jN h.I;have D:=h.r.r 6 _ U;have T:=h.r.r 5 _ U;have V:=h.r.C 5;have W:=h.r.M;have X:k<23:=(Ü.1 o).1;let⟨F,G,I,J,K,L⟩:=L0 k _ o;simp only at F G I J K L z B C;obtain⟨n,j⟩:∃n,d.length=n:=⟨_,U⟩;rw[j]at D y;have e:kt c.g d.length f b i= !(decide (c.g<f)||(decide ((n:Int)-b<0)||decide (32<(n:Int)-b+i))):=by rw[j];rfl
 have H:=fi<|Á h<|Á j e;clear u h j e;generalize M:c.g=g at*;go_enter Tryz.func186,Tryz.ntmps186;go_wp2;go_quiet (fail);go_wp2;by_cases v:g<f
 .go_quiet (fail)
  go_wp2;let⟨h,j,e⟩:=H.out;have l:kt g d.length f b i=Ï:=by rw[e];simp[v]
  go_ret;rw[l];refine⟨U,S5 h ?_⟩;exact kp
 .have N:=decide_eq_false v;by_cases x:(n:Int)-b<0
  .go_quiet (fail)
   go_wp2;let⟨h,j,e⟩:=H.out;have l:kt g d.length f b i=Ï:=by rw[e];simp[x]
   go_ret;rw[l];refine⟨U,S5 h ?_⟩;exact kp
  .have O:=decide_eq_false x;go_quiet (fail);go_wp2
   .have p:32<(n:Int)-b+i:=by assumption
    let⟨h,j,e⟩:=H.out;have l:kt g d.length f b i=Ï:=by rw[e];simp[p]
    go_ret;rw[l];refine⟨U,S5 h ?_⟩;exact kp
   .go_region
    go_wp2;have p:(n:Int)-b+i<=32:=by assumption
    let⟨h,j,e⟩:=H.out;have l:kt g d.length f b i=Ú:=by rw[e];simp[N,O,p]
    go_ret;rw[l];refine⟨U,alN ok h M U ?_⟩;exact kp
def rh(s:St)(y:Nat)(q p:Int):Int×St:=
 if(s y).fw<p then(0,s)else(1,(s.fw y<|(s y).fw-p).fw (q%8).toNat<|wu<|(s.fw y ((s y).fw-p) (q%8).toNat).fw+p)
def zU(E:ja)(e:Nat)(c:RC)(a b:È)(g:List Int)(s:St)(d:List (Nat×Int))(w:É)(h:St)(f:É):Prop:=
 R E e c a b g h d f/\Tr E e a b d.length w a b d.length f
section
variable{E:ja}{rb:Nat}{c:RC}{sv lv:È}{s a d:St}{ls:List (Nat×Int)}
def zU.fP(h:R E rb c sv lv zQ s ls w)(k:fg fl w u):zU E rb c sv lv zQ s ls w s u:=⟨h.fP k,Tr.fP k⟩
def zU.fw(ok:E.Ok)(h:zU E rb c sv lv zQ s ls w a W)(d:i<8)(x:Int):zU E rb c sv lv zQ s ls w (a.fw i x) (W.setCell ⟨E.r,i*18,Ä⟩<|Â Æ x):=by let⟨b,e⟩:=h;let⟨f,g⟩:=b.S ok (i*18)<|b.C.zS d x;exact⟨f,e.fj g⟩
end
def alO(E:ja)(ok:E.Ok)(d:Nat)(c:RC)(f g:È)(i:List Int)(s:St)(j:List (Nat×Int))(w:É)(h:R E d c f g i s j w)(q p:Int)(n:0<=q)(o:q<18446744073709551616)(r:0<=p)(t:p<18446744073709551616)(a:c.y<8)(u:0<=(s c.y).fw)(v:(s c.y).fw<18446744073709551616): Ò À 193 #[Å<|Ã ⟨d,0,Ä⟩,Â Æ q,Â Æ p] w λe k=>e=Ç (Â Æ (rh s c.y q p).1)/\zU E d c f g i s j w (rh s c.y q p).2 k:=by
 have x:=h.r.r 0 _ U;have z:=h.r.r 2 _ U;have B:=h.r.M;have C:=fp.M h.C;have D:=h.C.fw a;have F:=fp.C h.C<|c.y*18;have k:(q%8).toNat<8:=Z
 have H:=fi h;by_cases l:(s c.y).fw<p
 .have e:rh s c.y q p=(0,s):=by unfold rh;rw[if_pos l]
  rw[e];generalize(s c.y).fw=b at*;generalize c.y=y at*;go_enter ah,η;go_wp2;go_quiet (fail);go_wp2;go_ret;refine⟨U,zU.fP H.out ?_⟩;exact kp
 .have e:rh s c.y q p=(1,(s.fw c.y<|(s c.y).fw-p).fw (q%8).toNat<|wu<|(s.fw c.y ((s c.y).fw-p) (q%8).toNat).fw+p):=by unfold rh;rw[if_neg l]
  rw[e];have G:=λm=>((h.fP<|fg.iW _ w m).C.zS a<|(s c.y).fw-p).fw k;have I:∀m,((w.drewN m).setCell ⟨E.r,c.y*18,Ä⟩<|Â Æ<|(s c.y).fw-p).frozen? ⟨E.r,(q%8).toNat*18,Ä⟩=Ï:=λm=>fp.C ((h.fP<|fg.iW _ w m).C.zS a<|(s c.y).fw-p) _;generalize(s.fw c.y ((s c.y).fw-p) (q%8).toNat).fw=b2 at*;generalize(s c.y).fw=b at*;go_enter ah,η;go_wp2;go_quiet (fail);go_wp2;go_ret;refine⟨U,((zU.fP H.out ?_).fw ok a _).fw ok k _⟩;exact kp
def kY(E:ja)(rb:Nat)(sv lv:È)(n:Nat)(w:É)(c:RC)(f:List Int)(s:St)(a:List (Nat×Int))(b:É):Prop:=
 ∃d e,R E rb c d e f s a b/\Tr E rb sv lv n w d e a.length b
section
variable{E:ja}{rb:Nat}{c a:RC}{sv lv:È}{w':É}{b:List Int}{s d:St}{ls f:List (Nat×Int)}{p:Int}
def R.jY(h:R E rb c sv lv zQ s ls w):kY E rb sv lv ls.length w c zQ s ls w:=⟨sv,lv,h,Tr.gd _ _ _ _ _ _⟩
def nH(ok:E.Ok)(h:R E rb c sv lv (zQ++[p]) s ls w)(g:zQ.length<=900):Ò À 188 #[Å<|Ã ⟨rb,0,Ä⟩] w λe w'=>e=Ç (Â Æ p)/\ ∃a,R E rb c a lv zQ s ls w'/\Tr E rb sv lv ls.length w a lv ls.length w':=by have b:=h.I;rw[show pK (zQ++[p])=pK zQ++[qo p] by simp[pK],show(zQ++[p]).length=zQ.length+1 by simp]at b;refine(LZ E.r rb c sv 0 zQ p w h.r b Z).mono ?_;rintro e w' ⟨rfl,a,rfl,d,f⟩;exact⟨U,a,h.N ok 6 U d λj q=>by rwa[<-f]⟩
def zV(ok:E.Ok)(h:R E rb c sv lv zQ s ls w)(i:zQ.length<=900)(x:Int):Ò À 187 #[Å<|Ã ⟨rb,0,Ä⟩,Ê (Ã ⟨w.heap.size,0,Ä⟩) 1 1] (w.alloc<|Ð #[Â Æ x] 23) λe w'=>e=Ç (æ #[])/\ ∃b,R E rb c b lv (zQ++[x]) s ls w'/\Tr E rb sv lv ls.length w b lv ls.length w':=by have k:=fg.gL fl w #[Â Æ x] 23;have d:=h.fP k;refine(C' E.r rb c sv 0 (pK zQ) zQ.length w.heap.size 1 1 [Â Æ x] _ d.r d.I Z Z U (þ _ _ _) (λa f=>by simp at f;subst f;rfl)<|â _).mono ?_;rintro e w' ⟨rfl,b,u,a,rfl⟩;let⟨f,g⟩:=d.Y ok (ns:=[x]) U a;exact⟨U,b,f,(Tr.fP k).fj g⟩
def S6(ok:E.Ok)(h:R E rb c sv lv zQ s ls w)(i:zQ.length<=900)(x y:Int):Ò À 187 #[Å<|Ã ⟨rb,0,Ä⟩,Ê (Ã ⟨w.heap.size,0,Ä⟩) 2 2] (w.alloc<|Ð #[Â Æ x,Â Æ y] 23) λe w'=>e=Ç (æ #[])/\ ∃b,R E rb c b lv (zQ++[x,y]) s ls w'/\Tr E rb sv lv ls.length w b lv ls.length w':=by have k:=fg.gL fl w #[Â Æ x,Â Æ y] 23;have d:=h.fP k;refine(C' E.r rb c sv 0 (pK zQ) zQ.length w.heap.size 2 2 [Â Æ x,Â Æ y] _ d.r d.I Z Z U (Ŵ _ _ _ _) (λa f=>by simp at f;rcases f with rfl|rfl<;>rfl)<|â _).mono ?_;rintro e w' ⟨rfl,b,u,a,rfl⟩;let⟨f,g⟩:=d.Y ok (ns:=[x,y]) U a;exact⟨U,b,f,(Tr.fP k).fj g⟩
end
structure iz(E:ja)(lv:È)(n:Nat)(w:É)(s:St)(ls:List (Nat×Int))(w':É)(jD:È):Prop where
 r:iF E.r E.T E.C s jD w'
 I:w'.ownsRow 0 250 2 jD ls.length (kr ls)
 C:fg (λk=>k=E.r\/lv.ownBlock=Ã k) w w'
 l:∀j,jD.ownBlock=Ã j->lv.ownBlock=Ã j\/w.heap.size<=j
 M:∀v0 n0 xV,w.ownsRow 0 250 2 v0 n0 xV->(v0.ownBlock=lv.ownBlock->n0<=n)->w'.ownsRow 0 250 2 v0 n0 xV/\(v0.ownBlock=jD.ownBlock->n0<=ls.length)
structure zW where
 r:Int
 C:Bool
 M:Int
 s:St
 I:List (Nat×Int)
abbrev lS:=St->List (Nat×Int)->Nat->Nat->Int->Int->zW
def gq(n:Int):Prop:=0<=n/\n<18446744073709551616
def mf(c:Int):Nat:=
 if 48<=c/\c<=57 then 1 else if c=43 then 2 else if c=45 then 3 else if c=42 then 4 else if c=47 then 5 else if c=60 then 6 else if c=61 then 7
 else if c=100 then 8 else if c=120 then 9 else if c=112 then 10 else if c=107 then 11 else if c=99 then 12 else if c=121 then 13 else if c=98 then 14
 else if c=108 then 15 else if c=116 then 16 else if c=106 then 17 else if c=118 then 18 else if c=101 then 19 else if c=111 then 20 else if c=114 then 21 else if c=102 then 22 else 0
def yb(c:UInt8):Bool:=decide<|mf (c.toNat:Int)≠0
structure gM(s:St):Prop where
 fw:∀i,gq (s i).fw
 C:∀i j,gq<|(s i).C j
 I:∀i,(s i).r.size<=40/\∀c∈(s i).r.data.toList,yb c=Ú
def gi(l:List Int):Int:=l.getLastD 0
theorem D_(l:List Int)(h:0<l.length):l=l.dropLast++[gi l]:=by
 have a:l≠[]:=by intro e;subst e;simp at h
 unfold gi;grind [List.dropLast_concat_getLast]
section
variable{E:ja}{c:RC}{s:St}{a:List (Nat×Int)}{q r:Int}
def alP(ok:E.Ok)(b:R E i c x v (zQ++[h]) s a w)(k:zQ.length<=800)(l:c.y<8): Ò À 189 #[Å<|Ã ⟨i,0,Ä⟩,Â Ë 8] w λe H=>e=Ç (æ #[])/\kY E i x v a.length w c (zQ++[h,h]) s a H:=by have m:=b.r.r 0 _ U;have n:=b.r.r 2 _ U;have o:=b.r.M;have p:=fp.M b.C;have H:=fi b;go_enter ê,å;go_wp2_with fail;go_quiet (fail);go_wp2_with fail;go_at_call 188;refine(nH ok (H.out.fP<|fg.iW _ _ _) (by first|omega|(simp;omega))).mono ?_;rintro e q ⟨rfl,r,d,f⟩;go_wp2_with fail;go_at_call 187;refine(S6 ok d (by first|omega|(simp;omega)) _ _).mono ?_;rintro e t ⟨rfl,u,g,j⟩;go_wp2_with fail;go_end0;exact⟨U,_,_,g,(((Tr.fP<|fg.iW _ _ _).fj f).fj j)⟩
def alQ(ok:E.Ok)(b:R E i c x v ((zQ++[h])++[q]) s a w)(m:zQ.length<=800)(n:c.y<8): Ò À 189 #[Å<|Ã ⟨i,0,Ä⟩,Â Ë 9] w λe H=>e=Ç (æ #[])/\kY E i x v a.length w c (zQ++[q,h]) s a H:=by have o:=b.r.r 0 _ U;have p:=b.r.r 2 _ U;have r:=b.r.M;have t:=fp.M b.C;have H:=fi b;go_enter ê,å;go_wp2_with fail;go_quiet (fail);go_wp2_with fail;go_at_call 188;refine(nH ok (H.out.fP<|fg.iW _ _ _) (by first|omega|(simp;omega))).mono ?_;rintro e u ⟨rfl,z,d,f⟩;go_wp2_with fail;go_at_call 188;refine(nH ok d (by first|omega|(simp;omega))).mono ?_;rintro e B ⟨rfl,C,g,j⟩;go_wp2_with fail;go_at_call 187;refine(S6 ok g (by first|omega|(simp;omega)) _ _).mono ?_;rintro e D ⟨rfl,F,k,l⟩;go_wp2_with fail;go_end0;exact⟨U,_,_,k,((((Tr.fP<|fg.iW _ _ _).fj f).fj j).fj l)⟩
def alR(ok:E.Ok)(b:R E i c x v (zQ++[h]) s a w)(g:zQ.length<=800)(j:c.y<8): Ò À 189 #[Å<|Ã ⟨i,0,Ä⟩,Â Ë 10] w λe H=>e=Ç (æ #[])/\kY E i x v a.length w c zQ s a H:=by have k:=b.r.r 0 _ U;have l:=b.r.r 2 _ U;have m:=b.r.M;have n:=fp.M b.C;have H:=fi b;go_enter ê,å;go_wp2_with fail;go_quiet (fail);go_wp2_with fail;go_at_call 188;refine(nH ok (H.out.fP<|fg.iW _ _ _) (by first|omega|(simp;omega))).mono ?_;rintro e o ⟨rfl,p,d,f⟩;go_wp2_with fail;go_end0;exact⟨U,_,_,d,((Tr.fP<|fg.iW _ _ _).fj f)⟩
def alS(ok:E.Ok)(h:R E i c x v zQ s a w)(f:zQ.length<=800)(g:c.y<8): Ò À 189 #[Å<|Ã ⟨i,0,Ä⟩,Â Ë 11] w λe H=>e=Ç (æ #[])/\kY E i x v a.length w c (zQ++[c.k]) s a H:=by have j:=h.r.r 0 _ U;have l:=h.r.r 2 _ U;have m:=h.r.M;have n:=fp.M h.C;have o:=h.r.r 3 _ U;have H:=fi h;go_enter ê,å;go_wp2_with fail;go_quiet (fail);go_wp2_with fail;go_at_call 187;refine(zV ok (H.out.fP<|fg.iW _ _ _) (by first|omega|(simp;omega)) _).mono ?_;rintro e p ⟨rfl,q,b,d⟩;go_wp2_with fail;go_end0;exact⟨U,_,_,b,((Tr.fP<|fg.iW _ _ _).fj d)⟩
def alT(ok:E.Ok)(h:R E i c x v zQ s a w)(f:zQ.length<=800)(g:c.y<8)(j:c.x<8): Ò À 189 #[Å<|Ã ⟨i,0,Ä⟩,Â Ë 12] w λe H=>e=Ç (æ #[])/\kY E i x v a.length w c (zQ++[(c.x:Int)]) s a H:=by have k:=h.r.r 0 _ U;have l:=h.r.r 2 _ U;have m:=h.r.M;have n:=fp.M h.C;have o:=h.r.r 1 _ U;have H:=fi h;go_enter ê,å;go_wp2_with fail;go_quiet (fail);go_wp2_with fail;go_at_call 187;refine(zV ok (H.out.fP<|fg.iW _ _ _) (by first|omega|(simp;omega)) _).mono ?_;rintro e p ⟨rfl,q,b,d⟩;go_wp2_with fail;go_end0;exact⟨U,_,_,b,((Tr.fP<|fg.iW _ _ _).fj d)⟩
def alU(ok:E.Ok)(h:R E i c x v zQ s a w)(f:zQ.length<=800)(g:c.y<8): Ò À 189 #[Å<|Ã ⟨i,0,Ä⟩,Â Ë 13] w λe H=>e=Ç (æ #[])/\kY E i x v a.length w c (zQ++[(c.y:Int)]) s a H:=by have j:=h.r.r 0 _ U;have k:=h.r.r 2 _ U;have l:=h.r.M;have m:=fp.M h.C;have H:=fi h;go_enter ê,å;go_wp2_with fail;go_quiet (fail);go_wp2_with fail;go_at_call 187;refine(zV ok (H.out.fP<|fg.iW _ _ _) (by first|omega|(simp;omega)) _).mono ?_;rintro e n ⟨rfl,o,b,d⟩;go_wp2_with fail;go_end0;exact⟨U,_,_,b,((Tr.fP<|fg.iW _ _ _).fj d)⟩
def alV(ok:E.Ok)(h:R E i c x v zQ s a w)(g:zQ.length<=800)(b:c.y<8): Ò À 189 #[Å<|Ã ⟨i,0,Ä⟩,Â Ë 14] w λe H=>e=Ç (æ #[])/\kY E i x v a.length w c (zQ++[(s c.y).fw]) s a H:=by have j:=h.r.r 0 _ U;have k:=h.r.r 2 _ U;have l:=h.r.M;have m:=fp.M h.C;have n:=h.C.fw b;have H:=fi h;go_enter ê,å;go_wp2_with fail;go_quiet (fail);go_wp2_with fail;go_at_call 187;refine(zV ok (H.out.fP<|fg.iW _ _ _) (by first|omega|(simp;omega)) _).mono ?_;rintro e o ⟨rfl,p,d,f⟩;go_wp2_with fail;go_end0;exact⟨U,_,_,d,((Tr.fP<|fg.iW _ _ _).fj f)⟩
def alW(ok:E.Ok)(b:R E i c x v (zQ++[h]) s a w)(o:zQ.length<=800)(g:c.y<8)(d:gq h): Ò À 189 #[Å<|Ã ⟨i,0,Ä⟩,Â Ë 15] w λe f=>e=Ç (æ #[])/\kY E i x v a.length w c (zQ++[(s c.y).C (h%16).toNat]) s a f:=by have p:=b.r.r 0 _ U;have q:=b.r.r 2 _ U;have r:=b.r.M;have t:=fp.M b.C;have H:=fi b;go_enter ê,å;go_wp2_with fail;go_quiet (fail);go_wp2_with fail;go_at_call 188;refine(nH ok (H.out.fP<|fg.iW _ _ _) (by first|omega|(simp;omega))).mono ?_;rintro e u ⟨rfl,z,f,k⟩;have B:=f.C.B_ g (j:=(h%16).toNat) Z;have C:=d.1;have D:=d.2;go_wp2_with fail;go_at_call 192;refine(B' E.r (c.y*18) h d.1 d.2 _).mono ?_;rintro e l ⟨rfl,F⟩;subst l;go_wp2_with fail;go_at_call 187;refine(zV ok f (by first|omega|(simp;omega)) _).mono ?_;rintro e G ⟨rfl,I,m,n⟩;go_wp2_with fail;go_end0;exact⟨U,_,_,m,(((Tr.fP<|fg.iW _ _ _).fj k).fj n)⟩
def alX(ok:E.Ok)(b:R E i c x v ((zQ++[h])++[q]) s a w)(r:zQ.length<=800)(g:c.y<8)(d:gq q): Ò À 189 #[Å<|Ã ⟨i,0,Ä⟩,Â Ë 16] w λe f=>e=Ç (æ #[])/\kY E i x v a.length w c zQ (s.r c.y (q%16).toNat h) a f:=by have t:=b.r.r 0 _ U;have u:=b.r.r 2 _ U;have z:=b.r.M;have B:=fp.M b.C;have H:=fi b;go_enter ê,å;go_wp2_with fail;go_quiet (fail);go_wp2_with fail;go_at_call 188;refine(nH ok (H.out.fP<|fg.iW _ _ _) (by first|omega|(simp;omega))).mono ?_;rintro e C ⟨rfl,D,k,l⟩;go_wp2_with fail;go_at_call 188;refine(nH ok k (by first|omega|(simp;omega))).mono ?_;rintro e F ⟨rfl,G,f,m⟩;have I:=f.C.B_ g (j:=(q%16).toNat) (by have:=d.1;omega);have J:=fp.C f.C<|c.y*18+2+(q%16).toNat;go_wp2_with fail;go_at_call 192;refine(B' E.r (c.y*18) q d.1 d.2 _).mono ?_;rintro e n ⟨rfl,K⟩;subst n;go_wp2_with fail;go_end0;let⟨o,p⟩:=f.S ok (c.y*18+2+(q%16).toNat) (f.C.S2 g (by have:=d.1;omega) h);exact⟨U,_,_,o,(((Tr.fP<|fg.iW _ _ _).fj l).fj m).fj p⟩
def alY(ok:E.Ok)(b:R E i c x v ((zQ++[h])++[q]) s a w)(u:zQ.length<=800)(j:c.y<8)(d:gq h)(f:gq q)(g:gM s): Ò À 189 #[Å<|Ã ⟨i,0,Ä⟩,Â Ë 18] w λe H=>e=Ç (æ #[])/\kY E i x v a.length w c (zQ++[(rh s c.y q h).1]) (rh s c.y q h).2 a H:=by have z:=b.r.r 0 _ U;have B:=b.r.r 2 _ U;have C:=b.r.M;have D:=fp.M b.C;have H:=fi b;go_enter ê,å;go_wp2_with fail;go_quiet (fail);go_wp2_with fail;go_at_call 188;refine(nH ok (H.out.fP<|fg.iW _ _ _) (by first|omega|(simp;omega))).mono ?_;rintro e F ⟨rfl,G,k,l⟩;go_wp2_with fail;go_at_call 188;refine(nH ok k (by first|omega|(simp;omega))).mono ?_;rintro e I ⟨rfl,J,m,n⟩;go_wp2_with fail;go_at_call 193;refine(alO E ok i c _ v _ s a _ m q h f.1 f.2 d.1 d.2 j (g.fw _).1 (g.fw _).2).mono ?_;rintro e K ⟨rfl,o,p⟩;go_wp2_with fail;go_at_call 187;refine(zV ok o (by first|omega|(simp;omega)) _).mono ?_;rintro e L ⟨rfl,M,r,t⟩;go_wp2_with fail;go_end0;exact⟨U,_,_,r,(((((Tr.fP<|fg.iW _ _ _).fj l).fj n).fj p).fj t)⟩
def alZ{k:Int}(ok:E.Ok)(b:R E i c x v ((zQ++[h])++[q]) s a w)(r:zQ.length<=800)(t:c.y<8)(d:gq h)(f:gq q)(u:2<=k)(z:k<=7): Ò À 189 #[Å<|Ã ⟨i,0,Ä⟩,Â Ë k] w λe H=>e=Ç (æ #[])/\kY E i x v a.length w c (zQ++[ya k h q]) s a H:=by
 have B:=b.r.r 0 _ U;have C:=b.r.r 2 _ U;have D:=b.r.M;have F:=fp.M b.C;have G:(k==8)=Ï:=by rw[beq_eq_false_iff_ne];omega
 have I:(k==9)=Ï:=by rw[beq_eq_false_iff_ne];omega
 have J:(k==10)=Ï:=by rw[beq_eq_false_iff_ne];omega
 have K:(k==11)=Ï:=by rw[beq_eq_false_iff_ne];omega
 have L:(k==12)=Ï:=by rw[beq_eq_false_iff_ne];omega
 have M:(k==13)=Ï:=by rw[beq_eq_false_iff_ne];omega
 have N:(k==14)=Ï:=by rw[beq_eq_false_iff_ne];omega
 have O:(k==15)=Ï:=by rw[beq_eq_false_iff_ne];omega
 have P:(k==16)=Ï:=by rw[beq_eq_false_iff_ne];omega
 have Q:(k==18)=Ï:=by rw[beq_eq_false_iff_ne];omega
 have S:(k==19)=Ï:=by rw[beq_eq_false_iff_ne];omega
 have T:(k==20)=Ï:=by rw[beq_eq_false_iff_ne];omega
 have H:=fi b;go_enter ê,å;go_wp2_with fail;go_quiet (fail);go_wp2_with fail;go_at_call 188;refine(nH ok (H.out.fP<|fg.iW _ _ _) (by first|omega|(simp;omega))).mono ?_;rintro e V ⟨rfl,W,g,j⟩;go_wp2_with fail;go_at_call 188;refine(nH ok g (by first|omega|(simp;omega))).mono ?_;rintro e X ⟨rfl,Y,l,m⟩;go_wp2_with fail;go_at_call 195;refine(alG k h q d.1 d.2 f.1 f.2 _).mono ?_;rintro e n ⟨rfl,uN⟩;subst n;go_wp2_with fail;go_at_call 187;refine(zV ok l (by first|omega|(simp;omega)) _).mono ?_;rintro e w4 ⟨rfl,sv4,o,p⟩;go_wp2_with fail;go_end0;exact⟨U,_,_,o,((((Tr.fP<|fg.iW _ _ _).fj j).fj m).fj p)⟩
end
def L3{P:Program}{ops:Array Oper}{o:Oper}{a:Act}{w:World}{K:Act->World->Prop}{Q:Exit->Act->World->Prop}{E:Prop}{base:Nat}{e:TypeId}{size n:Nat}{v:Value}{xs:List Value} (hg:o.guard=none) (s x:Operand) (t:TypeId) (py:o.op=Op.call {callee:=Callee.builtin Builtin.append,args:=#[s,x],argTypes:=#[t,t]}) {i:TypeInfo} {z:Value} {bytes:Nat} (ht:P.underlying t=some (.slice e)) (hi:P.info? e=some i) (hz:i.zero=some z) (xW:i.size=size) (xY:i.bytes=bytes) (rW:z.cells.size=size) (hs:a.eval s=v) (lQ:w.ownsRow base e size v n xs) (ad:Addr) {m c:Nat} (news:List Value) (hx:a.eval x=.slice (some ad) m c) (hm:0<m) (hl:news.length=m*size) (SY:∀j u,news[j]?=some u->w.cell? (ad.add j)=some u) (h1:∀u∈news,u.oneCell'=true) (Cl:n+m<=maxLen) (Cm:(n+m)*bytes<=140737488355328) (Cj:base<=w.heap.size) (h:∀v' w',qn w base e size v n xs m news v' w'->K (a.put o.dst v') w') (hfl:mD e=false\/(0<news.length/\(∀u∈xs++news,kq u=true)/\∀u∈z.cells.toList,kq u=true):=by first|exact Or.inl (by decide)|exact Or.inr ⟨by simp,by simp[kq],by simp[kq,Value.cells]⟩): if Region.wanted o (yielded ops a.tmps)=true then Oper.wp P o a w K Q else E:=by
 have hw:Ĝ o (ai ops a.tmps)=Ú:=by simp[Ĝ,hg]
 rw[if_pos hw];let⟨v',w',hr,h2⟩:=SU (ty:=o.type) ht hi hz xW xY rW lQ ad c news hm hl SY h1 Cl Cm Cj hfl;unfold Ń;simp[Ĥ,py,ae,aP,ag,hs,hx,hr,į];exact h v' w' h2
def al0:(À.info? 250).map (λi=>(i.zero,i.size,i.bytes))=Ã (Ã<|Ē #[Â Ë 0,Â Æ 0],2,16):=fv
def D'(b:List (Nat×Int)):∀u∈kr b,kq u=Ú:=λu a=>by unfold kr at a;let⟨e,_,h⟩:=Α.1 a;simp[SZ,qo]at h;rcases h with rfl|rfl<;>rfl
section
variable{E:ja}{c:RC}{g d:È}{s:St}{ls:List (Nat×Int)}{p:Int}
theorem R.al1(ok:E.Ok)(h:R E k c g jQ zQ s ls w)(a:qn w 0 250 2 jQ ls.length (kr ls) 1 [Â Ë b,Â Æ p] d W): (R E k c g jQ zQ s ls W/\W.ownsRow 0 250 2 d (ls++[(b,p)]).length (kr<|ls++[(b,p)]))/\ R E k c g d zQ s (ls++[(b,p)]) (W.setCell ⟨E.r,144,Ä⟩ d)/\Tr E k g jQ ls.length w g d (ls++[(b,p)]).length (W.setCell ⟨E.r,144,Ä⟩ d):=by
 have m:∀{i:Nat} {o:Array È} {T:õ},jQ.ownBlock=Ã i->w.heap[i]?=Ã (Ð o T (0,0))->T=250:=λ{i o T} q hc=>by let⟨l,e⟩:=me h.M q;grind
 have f:R E k c g jQ zQ s ls W:=⟨h.r.I a.r λq=>absurd (m q h.r) A,im h.I a.r (λj q r=>by let⟨l,e⟩:=me h.I q;exact absurd (m r e) A),h.C.I a.r λq=>ok.r<|m q h.C,a.I _ _ _ h.M λ_=>Þ _⟩;have n:W.ownsRow 0 250 2 d (ls++[(b,p)]).length (kr<|ls++[(b,p)]):=by have:=a.fx;rwa[show kr ls++[Â Ë b,Â Æ p]=kr (ls++[(b,p)]) by simp[kr,SZ,qo],show ls.length+1=(ls++[(b,p)]).length by simp]at this
 have l:=fg.I (X:=λe=>e=E.r) (p:=⟨E.r,144,Ä⟩) U d<|Ù<|fp.G f.C ok.C;refine⟨⟨f,n⟩,⟨f.r.I l (fp.S f.C f.r ok.I).symm,im f.I l λj q r=>jE f.I f.C ok.M.symm (by rw[q,r]),f.C.alD d,im n l λj q r=>jE n f.C ok.r.symm<|by rw[q,r]⟩,?_,λj q=>Ø q,λj q=> ?_,λv x y t z=> ?_⟩
 .refine(a.r.S λe _ q=>Ù<|Ù<|Ù q).C l λi _ q=>Ø q
 .rcases a.C with e|e;all_goals grind
 .have u:=a.I v x y t z;refine⟨im u l λj q r=>jE u f.C ok.r.symm (by rw[q,r]),λq=> ?_⟩;rcases a.C with e|e
  .grind
  .rw[e]at q;have:=(t.lt _ q).2;omega
end
def gy{f:(Nat->Value)->Act}(a:Act)(h:a=f (λn=>a.tmps.getD n undef):=by rfl):∃u,a=f u:=⟨_,h⟩
section
variable{md:Θ}{ops:Array ş}{Q:aT->é->É->Prop}{S:É->Prop}{X:List Nat}
def oY(P:aF)(md:Θ)(ops:Array ş)(Q:aT->é->É->Prop)(S:É->Prop)(X:List Nat):Nat->Array Bool->é->É->Prop
 |0,listed,a,w=>ÿ md ops listed=[]/\Q .normal a w
 |fuel+1,listed,a,w=>(ÿ md ops listed=[]->Q .normal a w)/\
  ∀i∈ÿ md ops listed,wpOp P ops Q i (λc b=>(i∉X->S b)/\oY P md ops Q S X fuel (listed.setIfInBounds i Ú) c b) a w
def E_:∀(b:Nat) (listed:Array Bool) (a:é) (w:É),oY P md ops Q S X b listed a w->wpAny P md ops Q b listed a w
 |0,_,_,_,h=>h
 |b+1,_,_,_,h=>⟨h.1,λi c=>wpOp_mono (λd e q=>E_ b _ d e q.2)<|h.2 i c⟩
def sU(md:Θ)(ops:Array ş)(X:List Nat)(i:Nat):Bool:=X.all λx=>match ops[x]? with
 |some o=>o.after.toList.any λe=>ń md e&&e.on==i
 |none=>Ú
theorem al2{listed:Array Bool}(a:sU md ops X i=Ú)(c:ops[j]?=Ã o)(d:listed.getD i Ï=Ï)(f:∀e∈o.after,ń md e=Ú->listed.getD e.on Ï=Ú):j∉X:=by intro b;have g:=List.all_eq_true.1 a j b;grind
theorem al3{m:ş}(x:ops[i]?=Ã m)(y:∀(j:Nat) (o:ş) n b,ops[j]?=Ã o->o.op≠.select n b)(E:sU md ops X i=Ú) (F:∀c a w,Q (.panic c) (a.put m.dst v) w->Q (.panic c) a w): ∀(p:Nat) (d:Array Bool) (a:é) (w:É),(∀j g,ops[j]?=Ã g->j≠i->d.getD j Ú=Ï->(∀e∈g.after,ń md e=Ú->e.on≠i)->m.apart ops g=Ú)-> i∈ÿ md ops d->YieldsIf P ops S m v a->S w->oY P md ops Q S X p (d.setIfInBounds i Ú) (a.put m.dst v) w->oY P md ops Q S X (p+1) d a w:=by
 have G:∀{d:Array Bool},i∈ÿ md ops d->d.getD i Ï=Ï:=λ{d} l=>by have D:=(mem_ready.1 l).1;grind
 intro p
 induction p with
 |zero=>
  intro d a w _ l s r H;refine⟨λh=>absurd (h▸l) ft,λj t=> ?_⟩;by_cases f:j=i
  .subst f;exact s.wpOp x r ⟨λ_=>r,H⟩
  .exact absurd (H.1▸Ω t f) ft
 |succ p I=>
  intro d a w z l s r H;refine⟨λh=>absurd (h▸l) ft,λj t=> ?_⟩;by_cases f:j=i
  .subst f;exact s.wpOp x r ⟨λ_=>r,H⟩
  .let⟨B,g,u,J⟩:=mem_ready.1 t;have K:∀e∈g.after,ń md e=Ú->e.on≠i:=λe V W Y=>by
    grind
   refine wpOp_mono (λD L q=>⟨q.2.1,I (d.setIfInBounds j Ú) D L (λk M N O C T=>z k M N O ?_ T) (Ω l<|Ne.symm f) q.1 (q.2.1<|al2 E u (G l) J) ?_⟩)<|wpOp_putIf u (z j g u f B K) (λn b=>y i m n b x) (λn b=>y j g n b u) F s<|H.2 j<|Ω t f
   .by_cases D:j=k
    .subst D;exact B
    .rwa[getD_set_ne Ú D]at C
   .rw[Array.setIfInBounds_comm _ _ f];exact q.2.2
def Ib{oi:ş}{listed:Array Bool}(b:ops[i]?=Ã oi) (d:Region.noSelect ops=Ú) (e:Region.free md ops listed i=Ú) (f:(ÿ md ops listed).contains i=Ú) (g:sU md ops X i=Ú) (j:∀c y w,Q (.panic c) (y.put oi.dst v) w->Q (.panic c) y w) (k:S w) (l:YieldsIf P ops S oi v y) (h:oY P md ops Q S X n (listed.setIfInBounds i Ú) (y.put oi.dst v) w):oY P md ops Q S X (n+1) listed y w:= al3 b (Region.noSelect_spec d) g j n listed y w (Region.free_spec b e) (by simpa using f) l k h
def al4{listed:Array Bool}(c:ÿ md ops listed=[i])(e:ops[i]?=Ã o) (h:∀b:é->É->Prop,Shut (∀y w,(i∉X->S w)->oY P md ops Q S X n (listed.setIfInBounds i Ú) y w->b y w)->if Ĝ o (ai ops y.tmps)=Ú then Ń P o y w b Q else b (y.put o.dst ā) w):oY P md ops Q S X (n+1) listed y w:=by
 refine⟨λq=>absurd (c▸q) ft,λj d=> ?_⟩;rw[c]at d;have:j=i:=by simpa using d
 subst this;exact χ e λb f=>h b λy w g k=>f y w ⟨g,k⟩
def ix:List ş->Nat->Option ş
 |[],_=>Ä
 |o::_,0=>Ã o
 |_::l,n+1=>ix l n
def F_:∀{l:List ş} {i:Nat} {o:ş},ix l i=Ã o->l.toArray[i]?=Ã o
 |[],_,_,h=>by cases h
 |o::l,0,_,h=>by simpa[ix]using h
 |o::l,n+1,_,h=>by simpa using F_ (l:=l) h
def F'(h:ix ops.toList i=Ã o):ops[i]?=Ã o:=by simpa using F_ h
def tk{oi:Oper}{v:Value}{fuel:Nat}{listed:Array Bool}{a0 a a':Act}{w:World}(hS:S w)(i:Nat:=ops.size-1-fuel)(h:oY P md ops Q S X fuel (listed.setIfInBounds i true) a' w) (h0:a0=a:=by(try simp only[Act.put,List.setIfInBounds_toArray,List.set_cons_zero,List.set_cons_succ]);rfl) (hi:ix ops.toList i=some oi:=by rfl) (hs:Region.noSelect ops=true:=by kernel_rfl) (hf:Region.free md ops listed i=true:=by kernel_rfl) (hr:(Region.ready md ops listed).contains i=true:=by kernel_rfl) (hw:sU md ops X i=true:=by kernel_rfl) (hQ:∀v c a w,Q (.panic c) (a.put oi.dst v) w->Q (.panic c) a w:=by exact λ_ _ _ _ h=>h) (hn:Region.wanted oi (yielded ops a.tmps)=true:=by rfl) (hy:∀w,S w->(execOp a.eval oi).run P w=.ok (.value v) w:=by intro w h;revert h;simp only[and_imp];intros;go_simp;try(with_reducible rfl)) (ha:a.put oi.dst v=a':=by(try simp only[Act.put,List.setIfInBounds_toArray,List.set_cons_zero,List.set_cons_succ]);rfl):oY P md ops Q S X (fuel+1) listed a0 w:= h0▸Ib (F' hi) hs hf hr hw (hQ v) hS (Ø ⟨hn,hy⟩) (ha▸h)
def gG(i:Nat){o:Oper}{fuel:Nat}{listed:Array Bool}{a0 a:Act}{w:World} (h:∀K':Act->World->Prop,Shut (∀a w,(i∉X->S w)->oY P md ops Q S X fuel (listed.setIfInBounds i true) a w->K' a w)->if Region.wanted o (yielded ops a.tmps)=true then Oper.wp P o a w K' Q else K' (a.put o.dst undef) w) (h0:a0=a:=by(try simp only[Act.put,List.setIfInBounds_toArray,List.set_cons_zero,List.set_cons_succ]);rfl) (hr:Region.ready md ops listed=[i]:=by kernel_rfl) (ho:ix ops.toList i=some o:=by rfl):oY P md ops Q S X (fuel+1) listed a0 w:=h0▸al4 hr (F' ho) h
def al5{oi oj:ş}{listed:Array Bool}(g:ÿ md ops listed=[i,j])(h:ops[i]?=Ã oi)(l:ops[j]?=Ã oj) (m:∀b:é->É->Prop,Shut (∀y w,(i∉X->S w)->oY P md ops Q S X n (listed.setIfInBounds i Ú) y w->b y w)->if Ĝ oi (ai ops y.tmps)=Ú then Ń P oi y w b Q else b (y.put oi.dst ā) w) (o:∀b:é->É->Prop,Shut (∀y w,(j∉X->S w)->oY P md ops Q S X n (listed.setIfInBounds j Ú) y w->b y w)->if Ĝ oj (ai ops y.tmps)=Ú then Ń P oj y w b Q else b (y.put oj.dst ā) w):oY P md ops Q S X (n+1) listed y w:=by
 refine⟨λq=>absurd (g▸q) ft,λk c=> ?_⟩;rw[g]at c;rcases List.mem_cons.1 c with rfl|c
 .exact χ h λb d=>m b λy w e f=>d y w ⟨e,f⟩
 .have:k=j:=by simpa using c
  subst this;exact χ l λb d=>o b λy w e f=>d y w ⟨e,f⟩
def mg{listed:Array Bool}(b:ÿ md ops listed=[])(h:Q .normal y w):∀c,oY P md ops Q S X c listed y w
 |0=>⟨b,h⟩
 |_+1=>⟨λ_=>h,by rw[b];simp⟩
def mE{id:Nat}(S:É->Prop)(X:List Nat)(b:P.follows .mixedOrders=Ú) (h:oY P .any ops Q S X ops.size (ō ops.size Ï) y w.drew):(Code.region id ops Ú).wp P Q y w:= wp_region_any b<|E_ _ _ _ _ h
end
section
variable{E:ja}{c:RC}{s:St}{a:List (Nat×Int)}
def al6(ok:E.Ok)(b:R E i c x v (zQ++[h]) s a w)(G:zQ.length<=800)(I:c.y<8)(J:a.length<=1000000): Ò À 189 #[Å<|Ã ⟨i,0,Ä⟩,Â Ë 19] w λe u=>e=Ç (æ #[])/\kY E i x v a.length w c zQ s (a++[(c.y,h)]) u:=by
 have L:w.cell? ⟨i,0,Ä⟩=Ã (Å<|Ã ⟨E.r,0,Ä⟩):=b.r.r 0 _ U;have M:w.cell? ⟨i,2,Ä⟩=Ã (Â Ë c.y):=b.r.r 2 _ U;have N:=b.r.M;have O:=fp.M b.C;let⟨P,l,o,p,r⟩:=í al0;have j:=fi<|Á l<|Á o<|Á p r;have H:=fi b;clear b l o p r;go_enter ê,å;go_wp2_with fail;go_quiet (fail);go_wp2_with fail;have B:=fi<|Á ((H.out.fP<|(fg.iW _ _ nq).fj<|fg.fY _ _).r.r 0 _ rfl)<|Á ((H.out.fP<|(fg.iW _ _ nq).fj<|fg.fY _ _).r.r 2 _ rfl) (H.out.fP<|(fg.iW _ _ nq).fj<|fg.fY _ _).C.Cn;refine mE (λu=>u.cell? ⟨i,0,Ä⟩=Ã (Å<|Ã ⟨E.r,0,Ä⟩)/\u.cell? ⟨i,2,Ä⟩=Ã (Â Ë c.y)/\u.cell? ⟨E.r,144,Ä⟩=Ã v) [22] fv ?_;iterate 16 apply tk B.out
 refine gG 16 ?_;intro K d;go_simp;go_at_call 188;refine(nH ok (H.out.fP<|fg.iW _ _ _) Z).mono ?_;rintro e t ⟨rfl,Q,f,C⟩;dsimp only;refine d.out _ _ (λ_=>⟨f.r.r 0 _ U,f.r.r 2 _ U,f.C.Cn⟩) ?_;clear d K;refine gG 17 ?_;intro K d;go_simp;refine d.out _ _ (λ_=>⟨f.r.r 0 _ U,f.r.r 2 _ U,f.C.Cn⟩) ?_;clear d K;have g:=f.fP<|fg.gL fl t #[Â Ë c.y,Â Æ h] 250;refine gG 18 ?_;intro K d;go_simp;refine d.out _ _ (λ_=>⟨g.r.r 0 _ U,g.r.r 2 _ U,g.C.Cn⟩) ?_;clear d K;refine gG 19 ?_;intro K d;refine L3 (hfl:=Ù ⟨ft,λu k=>(ú.1 k).elim (D' a u) (λq=>by simp at q;rcases q with rfl|rfl<;>rfl),by simp[kq,ğ]⟩) (base:=0) (n:=a.length) (xs:=kr a) (m:=1) gh _ _ 134 gh Tryz.underlying134 j.out.1 j.out.2.1 j.out.2.2.1 j.out.2.2.2 U gh g.M ⟨t.heap.size,0,Ä⟩ [Â Ë c.y,Â Æ h] gh Z U (Ŵ _ _ _ _) (λu k=>by simp at k;rcases k with rfl|rfl<;>rfl) (by unfold Ą;omega) Z (â _) ?_;intro S T k;obtain⟨V,W,rfl⟩:=jN k.fx;let⟨⟨u,_⟩,D,F⟩:=g.al1 ok k;refine d.out _ _ (λ_=>⟨u.r.r 0 _ U,u.r.r 2 _ U,u.C.Cn⟩) ?_;clear d K;have z:=u.C.Cn;have X:=fp.C u.C 144;refine gG 20 ?_;intro K d;go_simp;refine d.out _ _ (λ_=>⟨u.r.r 0 _ U,u.r.r 2 _ U,z⟩) ?_;clear d K;refine gG 21 ?_;intro K d;go_simp;refine d.out _ _ (λ_=>⟨u.r.r 0 _ U,u.r.r 2 _ U,z⟩) ?_;clear d K;refine gG 22 ?_;intro K d;go_simp;refine d.out _ _ (λq=>absurd ft q) ?_;clear d K;try simp only[Ĵ,Õ,ã,ä]
 refine mg fv ?_ _;go_wp2_with fail;go_end0;exact⟨U,_,_,D,(((Tr.fP<|(fg.iW _ _ _).fj<|fg.fY _ _).fj C).fj<|Tr.fP<|fg.gL _ _ _ _).fj F⟩
end
structure RT where
 r:List Int
 s:St
 C:List (Nat×Int)
 g:Int
def jb(F:lS)(c:RC)(t:RT)(q p k:Int):Int×Int×RT:=
 if c.d=4 then(0,0,t)else
  ((F t.s t.C c.y (q%8).toNat (min p t.g) k).M,xZ (F t.s t.C c.y (q%8).toNat (min p t.g) k).C,
    {t with s:=(F t.s t.C c.y (q%8).toNat (min p t.g) k).s,C:=(F t.s t.C c.y (q%8).toNat (min p t.g) k).I,g:=t.g-(F t.s t.C c.y (q%8).toNat (min p t.g) k).r})
def fW(l:List Int):List Int:=l.dropLast
def lH(F:lS)(c:RC)(a:Nat)(t:RT):RT:=
 if a=8 then{t with r:=fW t.r++[gi t.r,gi t.r]}
 else if a=9 then{t with r:=fW (fW t.r)++[gi t.r,gi<|fW t.r]}
 else if a=10 then{t with r:=fW t.r}
 else if a=11 then{t with r:=t.r++[c.k]}
 else if a=12 then{t with r:=t.r++[(c.x:Int)]}
 else if a=13 then{t with r:=t.r++[(c.y:Int)]}
 else if a=14 then{t with r:=t.r++[(t.s c.y).fw]}
 else if a=15 then{t with r:=fW t.r++[(t.s c.y).C (gi t.r%16).toNat]}
 else if a=16 then{t with r:=fW<|fW t.r,s:=t.s.r c.y (gi t.r%16).toNat (gi<|fW t.r)}
 else if a=18 then{t with r:=fW (fW t.r)++[(rh t.s c.y (gi t.r)<|gi<|fW t.r).1],s:=(rh t.s c.y (gi t.r)<|gi<|fW t.r).2}
 else if a=19 then{t with r:=fW t.r,C:=t.C++[(c.y,gi t.r)]}
 else if a=20 then
  {(jb F c t (gi t.r) (gi<|fW t.r)<|gi<|fW<|fW t.r).2.2 with r:=fW (fW<|fW t.r)++[(jb F c t (gi t.r) (gi<|fW t.r)<|gi<|fW<|fW t.r).1,(jb F c t (gi t.r) (gi<|fW t.r)<|gi<|fW<|fW t.r).2.1]}
 else{t with r:=fW (fW t.r)++[ya a (gi<|fW t.r)<|gi t.r]}
structure G_(ls:List (Nat×Int))(g:Int)(e:zW):Prop where
 C:0<=e.r
 r:e.r<=g
 N:gM e.s
 M:gq e.M
 I:(e.I.length:Int)<=ls.length+e.r
def qt(F:lS):Prop:=∀s a x y g k,gM s->x<8->y<8->gq k->0<=g->g<=100000->(a.length:Int)+g<=1000000->G_ a g (F s a x y g k)
def tw(F:lS)(d:Int):Prop:=∀(E:ja),E.Ok->∀(s:St) (b:È) (a:List (Nat×Int)) (x y:Nat) (g k:Int) (w:É),iF E.r E.T E.C s b w->w.ownsRow 0 250 2 b a.length (kr a)->iP w->gM s->x<8->y<8->0<=g->g<=100000->gq k->(a.length:Int)+g<=1000000->
 Ò À 157 #[Å<|Ã ⟨E.r,0,Ä⟩,Â Ë x,Â Ë y,Â Æ g,Â Æ k,Â Ë d] w λe c=>
  e=Ç (Ē #[Â Æ (F s a x y g k).r,Ñ (F s a x y g k).C,Â Æ (F s a x y g k).M])/\∃f,iz E b a.length w (F s a x y g k).s (F s a x y g k).I c f
section
variable{E:ja}{rb:Nat}{c:RC}{sv lv:È}{s b:St}{ls a:List (Nat×Int)}{q p:Int}
theorem R.yc(ok:E.Ok)(d:R E rb c sv lv zQ s ls w)(r:iz E lv ls.length w b a u v):R E rb c sv v zQ b a u/\Tr E rb sv lv ls.length w sv v a.length u:=by
 have g:∀{j:Nat} {i:Array È} {T:õ},w.heap[j]?=Ã (Ð i T (0,0))->T≠E.T->T≠250->¬(j=E.r\/lv.ownBlock=Ã j):=λ{j i T} f h1 h2=>by
  rintro(e|e)
  .rw[e,d.C]at f;grind
  .let⟨m,k⟩:=me d.M e;grind
 refine⟨⟨d.r.I r.C<|g d.r ok.I.symm A,im d.I r.C λj f=> ?_,r.r,r.I⟩,r.C.S λh _ q=>q.elim Ø λq=>Ù<|Ù<|Ù q,λj q=>Ø q,r.l,r.M⟩;let⟨m,k⟩:=me d.I f;exact g k ok.M.symm A
def al7(ok:E.Ok)(a:R E rb c sv lv zQ s ls w)(b:c.d=4): Ò À 194 #[Å<|Ã ⟨rb,0,Ä⟩,Â Æ q,Â Æ p,Â Æ h] w λe u=>e=Ç (æ #[Â Æ 0,Â Æ 0])/\u=w:=by
 have e:w.cell? ⟨rb,4,Ä⟩=Ã (Â Ë 4):=by have:=a.r.r 4 (Â Ë c.d) U;rwa[b]at this
 go_enter aj,θ;go_wp2_with fail;go_ret2;exact⟨U,U⟩
end
section
variable{E:ja}{c:RC}{w':É}{s f:St}{a l:List (Nat×Int)}{q p:Int}{F:lS}
def al8(E:ja)(n:Nat)(c:RC)(jQ x:È)(zQ:List Int)(a:List (Nat×Int))(w W:É)(r:zW)(w':É):Prop:=
 ∃z,iz E x a.length W r.s r.I w' z/\R E n c jQ z zQ r.s r.I w'/\Tr E n jQ x a.length w jQ z r.I.length w'
def al9(p g:Int):(if g<p then g else p)=min p g:=by rw[Int.min_def];split<;>split<;>omega
def Ic(a:0<=h)(b:h<9223372036854775808):Ë.wrap h=h:=by show(if(Ë.signed&&decide (h%(2^64:Int)≥(2^63:Int)))=Ú then h%(2^64:Int)-2^64 else h%(2^64:Int))=h;rw[(Int.emod_eq_of_lt a Z),if_neg];simp;omega
def ama{q:Int}(h:gq q):Ë.wrap (q.tmod 8)=((q%8).toNat:Int):=by
 rw[Int.tmod_eq_emod_of_nonneg h.1];have:Ë.wrap (q%8)=q%8:=by exact Ic Z Z
 rw[this];omega
def amb(a:0<=h)(b:h<4):Ë.wrap (h+1)=h+1:=by exact Ic Z Z
def vS(ok:E.Ok)(b:R E n c jQ x zQ s a w)(j:0<=c.d)(k:c.d<4)(hF:tw F (c.d+1))(l:iP w)(m:gM s)(o:c.y<8)(i:gq q)(t:gq p)(u:gq h)(C:0<=c.g)(D:c.g<=100000)(G:(a.length:Int)+c.g<=1000000)(W:É)(kW:fg fl w W): Ò À 157 #[Å<|Ã ⟨E.r,0,Ä⟩,Â Ë c.y,Â Ë<|Ë.wrap<|q.tmod 8,Â Æ<|min p c.g,Â Æ h,Â Ë<|Ë.wrap<|c.d+1] W λe w'=>
  e=Ç (Ē #[Â Æ (F s a c.y (q%8).toNat (min p c.g) h).r,Ñ (F s a c.y (q%8).toNat (min p c.g) h).C,Â Æ (F s a c.y (q%8).toNat (min p c.g) h).M])/\al8 E n c jQ x zQ a w W (F s a c.y (q%8).toNat (min p c.g) h) w':=by
 have f:=b.fP kW;rw[ama i,amb j k];have H:=t.1;have I:=i.1;refine(hF E ok s x a c.y (q%8).toNat (min p c.g) h W f.C f.M (l.r kW id) m o Z Z Z u Z).mono ?_;rintro e w' ⟨rfl,z,r⟩;let⟨v,B⟩:=f.yc ok r;exact⟨U,z,r,v,(Tr.fP kW).fj B⟩
def amc{b:List È}(h:R E n c jQ x zQ s a w)(r:iz E x i (Č<|Ă w<|Ð b.toArray T) f l u z):fp w.heap.size b T u:=by
 refine fp.I (w:=Č<|Ă w<|Ð b.toArray T) (fp.N w b T) r.C ?_;rintro(e|e)
 .have:=fp.M h.C;omega
 .have:=(h.M.lt _ e).2;omega
def S7{f:List È}{kj:È}(ok:E.Ok)(d:R E n c jQ x zQ s a u)(t:Tr E n kj z b w jQ x k u)(m:w.heap.size<=j)(e:fp j f 245 u)(i:Nat)(v:È): R E n c jQ x zQ s a (u.setCell ⟨j,i,Ä⟩ v)/\Tr E n kj z b w jQ x k (u.setCell ⟨j,i,Ä⟩ v)/\fp j (f.set i v) 245 (u.setCell ⟨j,i,Ä⟩ v):=by have g:fg (λh=>h=j) u (u.setCell ⟨j,i,Ä⟩ v):=fg.I (X:=λh=>h=j) (p:=⟨j,i,Ä⟩) U v<|Ù e.G;refine⟨d.alM ok e g,t.alL g (λi q=>by omega) λi o q l=> ?_,e.fR i v⟩;unfold fp at e;rw[q,e]at l;cases l
def amd(ok:E.Ok)(f:R E n c jQ x zQ s a w)(pC:0<=c.d)(hd:c.d<4)(hF:tw F (c.d+1))(hI:qt F)(hr:iP w)(P:gM s)(hx:c.x<8)(hy:c.y<8)(Q:gq q)(S:gq p)(hk:gq h)(xt:0<=c.g)(wv:c.g<=100000)(hlen:(a.length:Int)+c.g<=1000000): Ò À 194 #[Å<|Ã ⟨n,0,Ä⟩,Â Æ q,Â Æ p,Â Æ h] w λe w'=>e=Ç (æ #[Â Æ (F s a c.y (q%8).toNat (min p c.g) h).M,Â Æ<|xZ (F s a c.y (q%8).toNat (min p c.g) h).C])/\kY E n jQ x a.length w {c with g:=c.g-(F s a c.y (q%8).toNat (min p c.g) h).r} zQ (F s a c.y (q%8).toNat (min p c.g) h).s (F s a c.y (q%8).toNat (min p c.g) h).I w':=by
 have c0:w.cell? ⟨n,0,Ä⟩=Ã (Å<|Ã ⟨E.r,0,Ä⟩):=f.r.r 0 _ U;have c2:w.cell? ⟨n,2,Ä⟩=Ã (Â Ë c.y):=f.r.r 2 _ U;have c4:w.cell? ⟨n,4,Ä⟩=Ã (Â Ë c.d):=f.r.r 4 _ U;have c5:w.cell? ⟨n,5,Ä⟩=Ã (Â Æ c.g):=f.r.r 5 _ U;have gP:=f.r.M;have Lf:=fp.M f.C;have hq0:=Q.1;have BU:=Q.2;have H_:=S.1;have hp1:=S.2;have call:=vS ok f pC hd hF hr P hy Q S hk xt wv hlen;have T:=hI s a c.y (q%8).toNat (min p c.g) h P hy Z hk Z Z Z;have M:=T.C;have N:=T.r;clear T;generalize F s a c.y (q%8).toNat (min p c.g) h=r at*;have H:=fi<|Á f<|Á call<|Á M N;have S8:(c.d==4)=Ï:=by rw[beq_eq_false_iff_ne];omega
 clear f hr P hlen call M N;go_enter aj,θ;go_wp2_with fail;have l:=fi<|Á ((H.out.1.fP<|fg.fY _ _).r.r 0 _ rfl)<|Á ((H.out.1.fP<|fg.fY _ _).r.r 2 _ rfl)<|Á ((H.out.1.fP<|fg.fY _ _).r.r 4 _ rfl)<|(H.out.1.fP<|fg.fY _ _).r.r 5 _ rfl;refine mE (λw'=>w'.cell? ⟨n,0,Ä⟩=Ã (Å<|Ã ⟨E.r,0,Ä⟩)/\w'.cell? ⟨n,2,Ä⟩=Ã (Â Ë c.y)/\w'.cell? ⟨n,4,Ä⟩=Ã (Â Ë c.d)/\w'.cell? ⟨n,5,Ä⟩=Ã (Â Æ c.g)) [25] fv ?_;iterate 16 apply tk l.out
 refine Ib (i:=16) (oi:={dst:=Ã 32,op:=aE {callee:=Go.Callee.builtin bn,args:=#[î 27,î 31],argTypes:=#[23,23]},type:=23,pos:= "run.go:186",after:=#[{on:=11,ground:=ï},{on:=15,ground:=ï}],guard:=Ä}) (v:=Â Æ<|min p c.g) U fv fv fv fv (λ_ _ _ f=>f) l.out (Ø ⟨gh,?ame⟩) ?avn
 case ame=>(intro w hSw;let⟨q0,q2,q4,q5⟩:=hSw;go_simp<;>rw[al9])
 apply tk l.out 17;apply tk l.out 18;apply tk l.out 19;apply tk l.out 20;apply tk l.out 21;apply tk l.out 22;refine al5 (i:=23) (j:=24) (oi:={dst:=Ã 39,op:=aE {callee:=Go.Callee.value<|bh 157,args:=#[î 19,î 23,î 26,î 32,î 33,î 38],argTypes:=#[260,3,3,23,23,3]},type:=245,pos:= "run.go:186",after:=#[{on:=3,ground:=ï},{on:=7,ground:=ï},{on:=10,ground:=ï},{on:=16,ground:=ï},{on:=17,ground:=ï},{on:=22,ground:=ï}],guard:=Ä}) (oj:={dst:=Ã 10,op:=bj 245,type:=0,pos:= "run.go:186",after:=#[],guard:=Ä}) fv U U ?_ ?_
 .intro K k;go_simp;go_at_call 157;refine(H.out.2.1 _ kp).mono ?_;rintro e z ⟨rfl,zM,O,o,D⟩;dsimp only;refine k.out _ _ (λ_=>⟨o.r.r 0 _ U,o.r.r 2 _ U,o.r.r 4 _ U,o.r.r 5 _ U⟩) ?_;clear k K;have G:=o.fP<|fg.gL fl z #[Â Æ 0,Ñ Ï,Â Æ 0] 245;refine gG 24 ?_;intro K k;go_simp;refine k.out _ _ (λ_=>⟨G.r.r 0 _ U,G.r.r 2 _ U,G.r.r 4 _ U,G.r.r 5 _ U⟩) ?_;clear k K;refine gG 25 ?_;intro K k;go_simp;refine k.out _ _ (λq=>absurd ft q) ?_;clear k K;try simp only[Ĵ,Õ,ã,ä]
  refine mg fv ?_ _;have V:=fg.gL fl z #[Â Æ r.r,Ñ r.C,Â Æ r.M] 245;have t:=o.fP V;have I:=D.fj<|Tr.fP V;have m:fp z.heap.size [Â Æ r.r,Ñ r.C,Â Æ r.M] 245 _:=fp.N z _ 245;generalize Ă z (Ð #[Â Æ r.r,Ñ r.C,Â Æ r.M] 245)=W at*;generalize z.heap.size=b at*;clear G V o D O;have v0:=m.r 0 _ U;have X:=m.r 1 _ U;have Y:=m.r 2 _ U;have z5:W.cell? ⟨n,5,Ä⟩=Ã (Â Æ c.g):=t.r.r 5 _ U;have y5:=t.r.C 5;have zl:=t.r.M;have zb:=m.M;have M:=H.out.2.2.1;have N:=H.out.2.2.2;have J:=fp.S t.r m A;have y1:=(H4 (w:=W) (i:=5) (u:=Â Æ<|c.g-r.r) J).trans X;have y2:=(H4 (w:=W) (i:=5) (u:=Â Æ<|c.g-r.r) J).trans Y;have C:=fi<|Á t I;clear t I m l;go_wp2_with fail;go_region;go_wp2_with fail;have l:=fi<|Á y1 y2;refine mE (λw'=>w'.cell? ⟨b,1,Ä⟩=Ã (Ñ r.C)/\w'.cell? ⟨b,2,Ä⟩=Ã (Â Æ r.M)) [] fv ?_;iterate 5 apply tk l.out
  refine gG 5 ?_;intro K k;go_simp;go_at_call 143;refine(Ia _ _).mono ?_;rintro e w2 ⟨rfl,qU⟩;subst w2;dsimp only;refine k.out _ _ (λ_=>l.out) ?_;clear k K;refine gG 6 ?_;intro K k;go_simp;refine k.out _ _ (λ_=>l.out) ?_;clear k K;refine gG 7 ?_;intro K k;go_simp;refine k.out _ _ (λ_=>l.out) ?_;clear k K;try simp only[Ĵ,Õ,ã,ä]
  refine mg fv ?_ _;go_wp2_with fail;go_ret2;let⟨n1,n2⟩:=C.out.1.N ok 5 (v:=Â Æ<|c.g-r.r) (c':={c with g:=c.g-r.r}) (kj:=jQ) (ss':=zQ) U C.out.1.I λ_ q=>q;have L:=(fg.fY fl<|W.setCell ⟨n,5,Ä⟩<|Â Æ<|c.g-r.r).fj<|fg.fY fl _;exact⟨U,_,_,n1.fP L,(C.out.2.fj n2).fj<|Tr.fP L⟩
 .intro K k;go_simp;refine k.out _ _ (λ_=>⟨(H.out.1.fP<|((fg.fY _ _).fj<|fg.gL _ _ _ _)).r.r 0 _ U,(H.out.1.fP<|((fg.fY _ _).fj<|fg.gL _ _ _ _)).r.r 2 _ U,(H.out.1.fP<|((fg.fY _ _).fj<|fg.gL _ _ _ _)).r.r 4 _ U,(H.out.1.fP<|((fg.fY _ _).fj<|fg.gL _ _ _ _)).r.r 5 _ U⟩) ?_;clear k K;refine gG 23 ?_;intro K k;go_simp;go_at_call 157;refine(H.out.2.1 (Č<|Ă w<|Ð #[Â Æ 0,Ñ Ï,Â Æ 0] 245) kp).mono ?_;rintro e z ⟨rfl,zM,O,o,D⟩;dsimp only;refine k.out _ _ (λ_=>⟨o.r.r 0 _ U,o.r.r 2 _ U,o.r.r 4 _ U,o.r.r 5 _ U⟩) ?_;clear k K;have B:=amc H.out.1 O;have k0:=B.r 0 _ U;have k1:=B.r 1 _ U;have k2:=B.r 2 _ U;have f0:=B.C 0;have f1:=B.C 1;have f2:=B.C 2;refine gG 25 ?_;intro K k;go_simp;refine k.out _ _ (λq=>absurd ft q) ?_;clear k K;try simp only[Ĵ,Õ,ã,ä]
  refine mg fv ?_ _;let⟨a1,a2,a3⟩:=S7 ok o D (Þ _) B 0<|Â Æ r.r;let⟨b1,b2,b3⟩:=S7 ok a1 a2 (Þ _) a3 1<|Ñ r.C;let⟨t,I,m⟩:=S7 ok b1 b2 (Þ _) b3 2<|Â Æ r.M;generalize ą (ą (ą z ⟨w.heap.size,0,Ä⟩<|Â Æ r.r) ⟨w.heap.size,1,Ä⟩<|Ñ r.C) ⟨w.heap.size,2,Ä⟩ (Â Æ r.M)=W at*;replace m:fp w.heap.size [Â Æ r.r,Ñ r.C,Â Æ r.M] 245 W:=m;clear a1 a2 a3 b1 b2 b3 B k0 k1 k2 f0 f1 f2 o D O;have v0:=m.r 0 _ U;have X:=m.r 1 _ U;have Y:=m.r 2 _ U;have z5:W.cell? ⟨n,5,Ä⟩=Ã (Â Æ c.g):=t.r.r 5 _ U;have y5:=t.r.C 5;have zl:=t.r.M;have zb:=m.M;have M:=H.out.2.2.1;have N:=H.out.2.2.2;have J:=fp.S t.r m A;have y1:=(H4 (w:=W) (i:=5) (u:=Â Æ<|c.g-r.r) J).trans X;have y2:=(H4 (w:=W) (i:=5) (u:=Â Æ<|c.g-r.r) J).trans Y;have C:=fi<|Á t I;clear t I m l;go_wp2_with fail;go_region;go_wp2_with fail;have l:=fi<|Á y1 y2;refine mE (λw'=>w'.cell? ⟨w.heap.size,1,Ä⟩=Ã (Ñ r.C)/\w'.cell? ⟨w.heap.size,2,Ä⟩=Ã (Â Æ r.M)) [] fv ?_;iterate 5 apply tk l.out
  refine gG 5 ?_;intro K k;go_simp;go_at_call 143;refine(Ia _ _).mono ?_;rintro e w2 ⟨rfl,qU⟩;subst w2;dsimp only;refine k.out _ _ (λ_=>l.out) ?_;clear k K;refine gG 6 ?_;intro K k;go_simp;refine k.out _ _ (λ_=>l.out) ?_;clear k K;refine gG 7 ?_;intro K k;go_simp;refine k.out _ _ (λ_=>l.out) ?_;clear k K;try simp only[Ĵ,Õ,ã,ä]
  refine mg fv ?_ _;go_wp2_with fail;go_ret2;let⟨n1,n2⟩:=C.out.1.N ok 5 (v:=Â Æ<|c.g-r.r) (c':={c with g:=c.g-r.r}) (kj:=jQ) (ss':=zQ) U C.out.1.I λ_ q=>q;have L:=(fg.fY fl<|W.setCell ⟨n,5,Ä⟩<|Â Æ<|c.g-r.r).fj<|fg.fY fl _;exact⟨U,_,_,n1.fP L,(C.out.2.fj n2).fj<|Tr.fP L⟩
end
section
variable{E:ja}{rb:Nat}{c:RC}{sv lv:È}{s i:St}{f j:List (Nat×Int)}{q p:Int}{F:lS}
def oZ(c:RC)(g:Int):RC:={c with g:=g}
def amf(ok:E.Ok)(a:R E rb c sv lv zQ s f w)(i:0<=c.d)(G:c.d<=4)(hF:c.d<4->tw F (c.d+1))(j:qt F)(k:iP w)(l:gM s)(m:c.x<8)(n:c.y<8)(o:gq q)(r:gq p)(v:gq h)(z:0<=c.g)(B:c.g<=100000)(C:(f.length:Int)+c.g<=1000000)(t:RT)(D:t=(jb F c ⟨zQ,s,f,c.g⟩ q p h).2.2): Ò À 194 #[Å<|Ã ⟨rb,0,Ä⟩,Â Æ q,Â Æ p,Â Æ h] w λe u=>e=Ç (æ #[Â Æ (jb F c ⟨zQ,s,f,c.g⟩ q p h).1,Â Æ (jb F c ⟨zQ,s,f,c.g⟩ q p h).2.1])/\kY E rb sv lv f.length w (oZ c t.g) zQ t.s t.C u:=by
 subst D;by_cases b:c.d=4
 .have e:jb F c ⟨zQ,s,f,c.g⟩ q p h=(0,0,⟨zQ,s,f,c.g⟩):=by unfold jb;rw[if_pos b]
  rw[e];refine(al7 ok a b).mono ?_;rintro e u ⟨rfl,rfl⟩;exact⟨U,a.jY⟩
 .have e:jb F c ⟨zQ,s,f,c.g⟩ q p h=((F s f c.y (q%8).toNat (min p c.g) h).M,xZ (F s f c.y (q%8).toNat (min p c.g) h).C,⟨zQ,(F s f c.y (q%8).toNat (min p c.g) h).s,(F s f c.y (q%8).toNat (min p c.g) h).I,c.g-(F s f c.y (q%8).toNat (min p c.g) h).r⟩):=by unfold jb;rw[if_neg b]
  rw[e];exact amd ok a i Z (hF Z) j k l m n o r v z B C
def amg(ok:E.Ok)(i:R E rb c sv lv (((zQ++[h])++[p])++[q]) s f w)(hn:zQ.length<=800)(o:0<=c.d)(r:c.d<=4)(hF:c.d<4->tw F (c.d+1))(v:qt F)(z:iP w)(B:gM s)(C:c.x<8)(D:c.y<8)(G:gq q)(I:gq p)(J:gq h)(K:0<=c.g)(L:c.g<=100000)(M:(f.length:Int)+c.g<=1000000)(t:RT)(N:t=(jb F c ⟨zQ,s,f,c.g⟩ q p h).2.2)(a b:Int)(j:a=(jb F c ⟨zQ,s,f,c.g⟩ q p h).1)(k:b=(jb F c ⟨zQ,s,f,c.g⟩ q p h).2.1): Ò À 189 #[Å<|Ã ⟨rb,0,Ä⟩,Â Ë 20] w λe u=>e=Ç (æ #[])/\kY E rb sv lv f.length w (oZ c t.g) (zQ++[a,b]) t.s t.C u:=by have c0:=i.r.r 0 _ U;have c2:=i.r.r 2 _ U;have gP:=i.r.M;have Lf:=fp.M i.C;have H:=fi<|Á i<|Á z<|Á hF v;go_enter ê,å;go_wp2_with fail;go_quiet (fail);go_wp2_with fail;have O:=Tr.fP (E:=E) (rb:=rb) (sv:=sv) (lv:=lv) (n:=f.length)<|fg.iW fl w nq;have P:=H.out.1.fP<|fg.iW fl w nq;go_at_call 188;refine(nH ok P (by first|omega|(simp;omega))).mono ?_;rintro e w1 ⟨rfl,sv1,Q,S⟩;go_wp2_with fail;go_at_call 188;refine(nH ok Q (by first|omega|(simp;omega))).mono ?_;rintro e w2 ⟨rfl,Ie,T,V⟩;go_wp2_with fail;go_at_call 188;refine(nH ok T (by first|omega|(simp;omega))).mono ?_;rintro e w3 ⟨rfl,S9,W,X⟩;have l:=((O.fj S).fj V).fj X;go_wp2_with fail;go_at_call 194;refine(amf ok W o r H.out.2.2.1 H.out.2.2.2 (H.out.2.1.N ok H.out.1 l) B C D G I J K L M t N).mono ?_;rintro e w4 ⟨rfl,sv4,lv4,Y,t4⟩;rw[<-j,<-k];go_wp2_with fail;go_at_call 187;refine(S6 ok Y (by first|omega|(simp;omega)) _ _).mono ?_;rintro e w5 ⟨rfl,sv5,m,t5⟩;go_wp2_with fail;go_end0;rw[<-j,<-k]at m;exact⟨U,_,_,m,(l.fj t4).fj t5⟩
end
def tx(h:∀p∈zQ,gq p):gq (gi zQ):=by
 by_cases a:0<zQ.length
 .apply h _;rw[D_ zQ a];simp[gi]
 .have:zQ=[]:=ß Z;subst this;exact⟨A,A⟩
def pL(h:∀p∈zQ,gq p):∀p∈fW zQ,gq p:=λp a=>h p<|List.dropLast_subset zQ a
def qu(l:List Int):(fW l).length=l.length-1:=by simp[fW]
def yd(h:0<zQ.length):fW zQ++[gi zQ]=zQ:=(D_ zQ h).symm
theorem amh(F:lS)(c:RC)(l b:List Int)(s:St)(a:List (Nat×Int))(g q p k:Int): (jb F c ⟨l,s,a,g⟩ q p k).1=(jb F c ⟨b,s,a,g⟩ q p k).1/\(jb F c ⟨l,s,a,g⟩ q p k).2.1=(jb F c ⟨b,s,a,g⟩ q p k).2.1/\(jb F c ⟨l,s,a,g⟩ q p k).2.2.s=(jb F c ⟨b,s,a,g⟩ q p k).2.2.s/\ (jb F c ⟨l,s,a,g⟩ q p k).2.2.C=(jb F c ⟨b,s,a,g⟩ q p k).2.2.C/\(jb F c ⟨l,s,a,g⟩ q p k).2.2.g=(jb F c ⟨b,s,a,g⟩ q p k).2.2.g:=by unfold jb;grind
section
variable{E:ja}{rb:Nat}{c:RC}{sv lv:È}{s:St}{f:List (Nat×Int)}{F:lS}
def ami(ok:E.Ok)(h:R E rb c sv lv zQ s f w)(Y:zQ.length<=700)(C:0<=c.d)(D:c.d<=4)(hF:c.d<4->tw F (c.d+1))(G:qt F)(H:iP w)(v:gM s)(z:c.x<8)(a:c.y<8)(r:∀p∈zQ,gq p)(I:0<=c.g)(J:c.g<=100000)(K:(f.length:Int)+c.g<=1000000) (k:Nat) (uT:2<=k) (uk:k<=20) (I_:k≠17) (L B M:Int) (b:je[k]?=Ã (L,B,M)) (Cp:B<=zQ.length) (t:RT) (N:t=lH F c k ⟨zQ,s,f,c.g⟩): Ò À 189 #[Å<|Ã ⟨rb,0,Ä⟩,Â Ë k] w λe i=>e=Ç (æ #[])/\kY E rb sv lv f.length w (oZ c t.g) t.r t.s t.C i:=by
 subst N;have i:=tx r;have u:=tx<|pL r;have O:=tx<|pL<|pL r;have j:1<=zQ.length->R E rb c sv lv (fW zQ++[gi zQ]) s f w:=λq=>by rwa[yd Z]
 have l:2<=zQ.length->R E rb c sv lv ((fW (fW zQ)++[gi<|fW zQ])++[gi zQ]) s f w:=λq=>by rw[yd (by rw[qu];omega),yd Z];exact h
 have P:3<=zQ.length->R E rb c sv lv (((fW (fW<|fW zQ)++[gi<|fW<|fW zQ])++[gi<|fW zQ])++[gi zQ]) s f w:=λq=>by rw[yd (by rw[qu,qu];omega),yd (by rw[qu];omega),yd Z];exact h
 have m:zQ.length<=800:=Z
 have n:(fW zQ).length<=800:=by rw[qu];omega
 have o:(fW<|fW zQ).length<=800:=by rw[qu];omega
 have Q:(fW<|fW<|fW zQ).length<=800:=by rw[qu];omega
 have cases:(k=2\/k=3\/k=4\/k=5\/k=6\/k=7)\/k=8\/k=9\/k=10\/k=11\/k=12\/k=13\/k=14\/k=15\/k=16\/k=18\/k=19\/k=20:=Z
 rcases cases with hq|rfl|rfl|rfl|rfl|rfl|rfl|rfl|rfl|rfl|rfl|rfl|rfl
 .have S:2<=zQ.length:=by
   rcases hq with rfl|rfl|rfl|rfl|rfl|rfl<;>(simp[je]at b;omega)
  have e:lH F c k ⟨zQ,s,f,c.g⟩=⟨fW (fW zQ)++[ya k (gi<|fW zQ)<|gi zQ],s,f,c.g⟩:=by rcases hq with rfl|rfl|rfl|rfl|rfl|rfl<;>rfl
  rw[e];exact alZ ok (l S) o a u i Z Z
 .exact alP ok (j<|by simp[je]at b;omega) n a
 .exact alQ ok (l<|by simp[je]at b;omega) o a
 .exact alR ok (j<|by simp[je]at b;omega) n a
 .exact alS ok h m a
 .exact alT ok h m a z
 .exact alU ok h m a
 .exact alV ok h m a
 .exact alW ok (j<|by simp[je]at b;omega) n a i
 .exact alX ok (l<|by simp[je]at b;omega) o a i
 .exact alY ok (l<|by simp[je]at b;omega) o a u i v
 .exact al6 ok (j<|by simp[je]at b;omega) n a Z
 .let⟨S,T,V,W,X⟩:=amh F c zQ (fW<|fW<|fW zQ) s f c.g (gi zQ) (gi<|fW zQ)<|gi<|fW<|fW zQ;have e:lH F c 20 ⟨zQ,s,f,c.g⟩=⟨fW (fW<|fW zQ)++[(jb F c ⟨zQ,s,f,c.g⟩ (gi zQ) (gi<|fW zQ)<|gi<|fW<|fW zQ).1,(jb F c ⟨zQ,s,f,c.g⟩ (gi zQ) (gi<|fW zQ)<|gi<|fW<|fW zQ).2.1],(jb F c ⟨zQ,s,f,c.g⟩ (gi zQ) (gi<|fW zQ)<|gi<|fW<|fW zQ).2.2.s,(jb F c ⟨zQ,s,f,c.g⟩ (gi zQ) (gi<|fW zQ)<|gi<|fW<|fW zQ).2.2.C,(jb F c ⟨zQ,s,f,c.g⟩ (gi zQ) (gi<|fW zQ)<|gi<|fW<|fW zQ).2.2.g⟩:=U;rw[e,S,T,V,W,X];exact amg ok (P<|by simp[je]at b;omega) Q C D hF G H v z a i u O I J K _ U _ _ U U
end
def qw(c:Int)(w:É):Ò À 87 #[Â aU c] w λe a=>e=Ç (Â Ë<|mf c)/\a=w:=by
 go_enter Tryz.func87,Tryz.ntmps87;go_wp2;all_goals go_ret
 all_goals refine⟨EK ?_,U⟩
 all_goals simp only[beq_iff_eq,beq_eq_false_iff_ne,ne_eq]at*
 all_goals(try subst c)
 all_goals first|rfl|(unfold mf;simp[*];done)|(unfold mf;rw[if_neg Z];simp[*])
def kB:ŏ->Option ŏ
 |à c=>Ã c
 |.seq a b=>match kB a with
  |some c=>Ã c
  |none=>kB b
 |.block _ c=>kB c
 |.scope c=>kB c
 |.cond _ a b=>match kB a with
  |some c=>Ã c
  |none=>kB b
 |_=>Ä
noncomputable def uU:ŏ:=(Tryz.f175.body.bind kB).getD ĵ
def oc(a:Nat)(P:ByteArray)(b:Int)(u:Nat->È):é:=⟨#[Å<|Ã ⟨a,0,Ä⟩,ā,Â Æ 0,Ñ Ï,Í P,Â Æ P.size,Â Æ b,u 7,u 8,u 9,u 10,u 11,u 12,u 13,u 14,u 15,u 16,u 17,u 18,u 19,u 20,u 21,u 22,u 23,u 24,u 25,u 26,u 27,u 28,u 29,u 30,u 31,u 32,u 33,u 34,u 35,u 36,u 37,u 38,u 39,u 40,u 41,u 42,u 43,u 44,u 45,u 46,u 47,u 48,u 49,u 50,u 51,u 52,u 53,u 54,u 55,u 56,u 57,u 58,u 59,u 60,u 61,u 62,u 63,u 64,u 65,u 66,u 67,u 68,u 69,u 70,u 71,u 72,u 73,u 74,u 75,u 76,u 77,u 78,u 79,u 80],[]⟩
def Cq(b:Nat)(P:ByteArray)(c:Int)(a:é):Prop:=∃u,a=oc b P c u
def I'(a:Nat)(P:ByteArray)(v:Int)(b:Bool)(u:Nat->È):é:=⟨#[Å<|Ã ⟨a,0,Ä⟩,ā,Â Æ v,Ñ b,Í P,Â Æ P.size,u 6,u 7,u 8,u 9,u 10,u 11,u 12,u 13,u 14,u 15,u 16,u 17,u 18,u 19,u 20,u 21,u 22,u 23,u 24,u 25,u 26,u 27,u 28,u 29,u 30,u 31,u 32,u 33,u 34,u 35,u 36,u 37,u 38,u 39,u 40,u 41,u 42,u 43,u 44,u 45,u 46,u 47,u 48,u 49,u 50,u 51,u 52,u 53,u 54,u 55,u 56,u 57,u 58,u 59,u 60,u 61,u 62,u 63,u 64,u 65,u 66,u 67,u 68,u 69,u 70,u 71,u 72,u 73,u 74,u 75,u 76,u 77,u 78,u 79,u 80],[]⟩
def EL(c:Nat)(P:ByteArray)(v:Int)(b:Bool)(a:é):Prop:=∃u,a=I' c P v b u
def QQ(X:é->É->Prop):aT->é->É->Prop
 |.exit 0,a,w=>X a w
 |_,_,_=>False
section
variable{X:é->É->Prop}{E:ja}{c:RC}{s:St}{f:List (Nat×Int)}{F:lS}
def amj(ok:E.Ok)(u:Nat->È)(b:R E i c z x zQ s f w)(j:B.size<=40)(e:h=B.size) (g:∀a d,EL i B 0 Ú a->kY E i z x f.length w c zQ s f d->X a d): Î À uU (Exit.then K<|QQ X) (oc i B h u) w:=by
 unfold oc;conv=>arg 2;whnf
 subst e;go_wp2_with fail;exact g _ _ (gy _) b.jY
def amk(ok:E.Ok)(u:Nat->È)(b:R E i c z x zQ s f w)(l:B.size<=40)(m:(B.size:Int)<h) (e:∀a d,EL i B 0 Ï a->kY E i z x f.length w (oZ c 0) zQ s f d->X a d): Î À uU (Exit.then K<|QQ X) (oc i B h u) w:=by
 unfold oc;conv=>arg 2;whnf
 have n:w.cell? ⟨i,5,Ä⟩=Ã (Â Æ c.g):=b.r.r 5 _ U;have o:=b.r.C 5;have p:(h==(B.size:Int))=Ï:=by rw[beq_eq_false_iff_ne];omega
 have H:=fi b;clear b;go_wp2_with fail;let⟨j,k⟩:=H.out.N ok 5 (v:=Â Æ 0) (c':=oZ c 0) (kj:=z) (ss':=zQ) U H.out.I λ_ q=>q;exact e _ _ (gy _) ⟨_,_,j,k⟩
def aml(ok:E.Ok)(u:Nat->È)(b:R E i c z x zQ s f w)(P:B.size<=40)(n:Nat)(G:h=n)(I:n<B.size)(y:iP w)(m o p:Int)(Q:zQ.length<=700)(J:0<=c.g)(S:c.g<=100000)(k:Nat)(C:mf ((B[n]'I).toNat:Int)=k)(r:je[k]?=Ã (m,o,p))(D:kt c.g zQ.length m o p=Ï) (L:∀a j,EL i B 0 Ï a->kY E i z x f.length w (oZ c 0) zQ s f j->X a j): Î À uU (Exit.then K<|QQ X) (oc i B h u) w:=by
 unfold oc;conv=>arg 2;whnf
 subst G;have T:((n:Int)==(B.size:Int))=Ï:=by rw[beq_eq_false_iff_ne];omega
 have V:decide ((B.size:Int)<(n:Int))=Ï:=decide_eq_false Z;have W:(0:Int)<=(n:Int):=Z
 have Y:(n:Int)<(B.size:Int):=Z
 have d:=Co E ok i c z x zQ s f w b y k m o p r Z J Z;rw[D]at d;have H:=fi<|Á b<|Á d<|Á r C;clear b d y r D C;go_wp2_with (go_at_call 87;refine(qw _ _).mono ?_;rintro e j ⟨rfl,l⟩;subst j;rw[H.out.2.2.2]);go_at_call 186;apply H.out.2.1.mono;rintro e M ⟨rfl,l,F⟩;have k5:M.cell? ⟨i,5,Ä⟩=Ã (Â Æ c.g):=l.r.r 5 _ U;have g5:=l.r.C 5;have t:=fi<|Á l F;clear l F;go_wp2_with fail;let⟨N,O⟩:=R.N ok t.out.1 5 (v:=Â Æ 0) (c':=oZ c 0) (kj:=z) (ss':=zQ) U t.out.1.I λ_ q=>q;exact L _ _ (gy _) ⟨_,_,N,t.out.2.fj O⟩
def amm(ok:E.Ok)(u:Nat->È)(b:R E i c z x zQ s f w)(J:B.size<=40)(n:Nat)(C:h=n)(D:n<B.size)(q:iP w)(k l m:Int)(L:zQ.length<=700)(F:0<=c.g)(M:c.g<=100000)(r:mf ((B[n]'D).toNat:Int)=22)(o:je[(22:Nat)]?=Ã (k,l,m))(t:kt c.g zQ.length k l m=Ú) (G:∀a j,EL i B 0 Ï a->kY E i z x f.length w (oZ c<|c.g-k) zQ s f j->X a j): Î À uU (Exit.then K<|QQ X) (oc i B h u) w:=by
 unfold oc;conv=>arg 2;whnf
 subst C;have N:((n:Int)==(B.size:Int))=Ï:=by rw[beq_eq_false_iff_ne];omega
 have O:decide ((B.size:Int)<(n:Int))=Ï:=decide_eq_false Z;have P:(0:Int)<=(n:Int):=Z
 have Q:(n:Int)<(B.size:Int):=Z
 have d:=Co E ok i c z x zQ s f w b q 22 k l m o Z F Z;rw[t]at d;have H:=fi<|Á b<|Á d<|Á o r;clear b d q o t r;go_wp2_with (go_at_call 87;refine(qw _ _).mono ?_;rintro e j ⟨rfl,I⟩;subst j;rw[H.out.2.2.2]);go_at_call 186;apply H.out.2.1.mono;rintro e S ⟨rfl,p,v⟩;rw[if_pos U]at p;have y:=fi<|Á p v;clear p v;go_wp2_with (go_at_call 87;refine(qw _ _).mono ?_;rintro e j ⟨rfl,I⟩;subst j;rw[H.out.2.2.2]);exact G _ _ (gy _) ⟨_,_,y.out.1,y.out.2⟩
def amn(ok:E.Ok)(u:Nat->È)(b:R E i c z x zQ s f w)(P:B.size<=40)(n:Nat)(F:h=n)(G:n<B.size)(r:iP w)(k l m:Int)(I:zQ.length<=700)(J:0<=c.g)(Q:c.g<=100000)(p:Int)(t:List Int)(L:zQ=t++[p])(v:mf ((B[n]'G).toNat:Int)=21)(o:je[(21:Nat)]?=Ã (k,l,m))(y:kt c.g zQ.length k l m=Ú) (M:∀a j,EL i B p Ú a->kY E i z x f.length w (oZ c<|c.g-k) t s f j->X a j): Î À uU (Exit.then K<|QQ X) (oc i B h u) w:=by
 unfold oc;conv=>arg 2;whnf
 subst F;have S:((n:Int)==(B.size:Int))=Ï:=by rw[beq_eq_false_iff_ne];omega
 have T:decide ((B.size:Int)<(n:Int))=Ï:=decide_eq_false Z;have V:(0:Int)<=(n:Int):=Z
 have W:(n:Int)<(B.size:Int):=Z
 have d:=Co E ok i c z x zQ s f w b r 21 k l m o Z J Z;rw[y]at d;have H:=fi<|Á b<|Á d<|Á o v;clear b d r o y v;go_wp2_with (go_at_call 87;refine(qw _ _).mono ?_;rintro e j ⟨rfl,N⟩;subst j;rw[H.out.2.2.2]);go_at_call 186;apply H.out.2.1.mono;rintro e Y ⟨rfl,q,C⟩;rw[if_pos U]at q;have D:=fi<|Á q C;clear q C;subst L;go_wp2_with (go_at_call 87;refine(qw _ _).mono ?_;rintro e j ⟨rfl,N⟩;subst j;rw[H.out.2.2.2]);go_at_call 188;refine(nH ok D.out.1<|by simp at I;omega).mono ?_;rintro e w2 ⟨rfl,Ie,N,O⟩;go_wp2_with fail;exact M _ _ (gy _) ⟨_,_,N,D.out.2.fj O⟩
def amo(ok:E.Ok)(u:Nat->È)(b:R E i c z x zQ s f w)(L:B.size<=40)(n:Nat)(D:h=n)(k:n<B.size)(r:iP w)(l m o:Int)(M:zQ.length<=700)(F:0<=c.g)(N:c.g<=100000)(O:(48:Int)<=((B[n]'k).toNat:Int))(P:((B[n]'k).toNat:Int)<=57)(t:mf ((B[n]'k).toNat:Int)=1)(p:je[(1:Nat)]?=Ã (l,m,o))(v:kt c.g zQ.length l m o=Ú) (G:∀a j,Cq i B ((n:Int)+1) a->kY E i z x f.length w (oZ c<|c.g-l) (zQ++[((B[n]'k).toNat:Int)-48]) s f j->K a j): Î À uU (Exit.then K<|QQ X) (oc i B h u) w:=by
 unfold oc;conv=>arg 2;whnf
 subst D;have Q:((n:Int)==(B.size:Int))=Ï:=by rw[beq_eq_false_iff_ne];omega
 have S:decide ((B.size:Int)<(n:Int))=Ï:=decide_eq_false Z;have T:(0:Int)<=(n:Int):=Z
 have V:(n:Int)<(B.size:Int):=Z
 have d:=Co E ok i c z x zQ s f w b r 1 l m o p Z F Z;rw[v]at d;have H:=fi<|Á b<|Á d<|Á p t;clear b d r p v t;go_wp2_with (go_at_call 87;refine(qw _ _).mono ?_;rintro e j ⟨rfl,I⟩;subst j;rw[H.out.2.2.2]);go_at_call 186;apply H.out.2.1.mono;rintro e W ⟨rfl,q,y⟩;rw[if_pos U]at q;have C:=fi<|Á q y;clear q y;go_wp2_with (go_at_call 87;refine(qw _ _).mono ?_;rintro e j ⟨rfl,I⟩;subst j;rw[H.out.2.2.2]);go_at_call 187;refine(zV ok C.out.1 Z _).mono ?_;rintro e Y ⟨rfl,Ie,I,J⟩;go_wp2_with fail;exact G _ _ (gy _) ⟨_,_,I,C.out.2.fj J⟩
def amq(ok:E.Ok)(u:Nat->È)(b:R E i c z x zQ s f w)(W:B.size<=40)(n:Nat)(M:h=n)(N:n<B.size)(t:iP w)(k l m:Int)(v:zQ.length<=700)(O:0<=c.g)(Y:c.g<=100000)(p q:Int)(y:List Int)(P:zQ=(y++[p])++[q])(Q:¬p=0)(C:mf ((B[n]'N).toNat:Int)=17)(o:je[(17:Nat)]?=Ã (k,l,m))(D:kt c.g zQ.length k l m=Ú) (S:∀a j,Cq i B q a->kY E i z x f.length w (oZ c<|c.g-k) y s f j->K a j): Î À uU (Exit.then K<|QQ X) (oc i B h u) w:=by
 unfold oc;conv=>arg 2;whnf
 subst M;have e1:((n:Int)==(B.size:Int))=Ï:=by rw[beq_eq_false_iff_ne];omega
 have e2:decide ((B.size:Int)<(n:Int))=Ï:=decide_eq_false Z;have HM:(0:Int)<=(n:Int):=Z
 have wi:(n:Int)<(B.size:Int):=Z
 have d:=Co E ok i c z x zQ s f w b t 17 k l m o Z O Z;rw[D]at d;have H:=fi<|Á b<|Á d<|Á o C;clear b d t o D C;go_wp2_with (go_at_call 87;refine(qw _ _).mono ?_;rintro e j ⟨rfl,I⟩;subst j;rw[H.out.2.2.2]);go_at_call 186;apply H.out.2.1.mono;rintro e w1 ⟨rfl,r,F⟩;rw[if_pos U]at r;have G:=fi<|Á r F;clear r F;subst P;have e3:(p !=0)=Ú:=by rwa[bne_iff_ne]
 go_wp2_with (go_at_call 87;refine(qw _ _).mono ?_;rintro e j ⟨rfl,I⟩;subst j;rw[H.out.2.2.2])
 go_at_call 188;refine(nH ok G.out.1<|by simp at v|-;omega).mono ?_;rintro e w2 ⟨rfl,Ie,I,J⟩;go_wp2_with fail;go_at_call 188;refine(nH ok I<|by simp at v;omega).mono ?_;rintro e w3 ⟨rfl,S9,V,L⟩;have T:=(G.out.2.fj J).fj L;clear I J L;go_wp2_with fail;exact S _ _ (gy _) ⟨_,_,V,T⟩
def amr(ok:E.Ok)(u:Nat->È)(b:R E i c z x zQ s f w)(W:B.size<=40)(n:Nat)(M:h=n)(N:n<B.size)(t:iP w)(k l m:Int)(v:zQ.length<=700)(O:0<=c.g)(Y:c.g<=100000)(p q:Int)(y:List Int)(P:zQ=(y++[p])++[q])(Q:p=0)(C:mf ((B[n]'N).toNat:Int)=17)(o:je[(17:Nat)]?=Ã (k,l,m))(D:kt c.g zQ.length k l m=Ú) (S:∀a j,Cq i B ((n:Int)+1) a->kY E i z x f.length w (oZ c<|c.g-k) y s f j->K a j): Î À uU (Exit.then K<|QQ X) (oc i B h u) w:=by
 unfold oc;conv=>arg 2;whnf
 subst M;have e1:((n:Int)==(B.size:Int))=Ï:=by rw[beq_eq_false_iff_ne];omega
 have e2:decide ((B.size:Int)<(n:Int))=Ï:=decide_eq_false Z;have HM:(0:Int)<=(n:Int):=Z
 have wi:(n:Int)<(B.size:Int):=Z
 have d:=Co E ok i c z x zQ s f w b t 17 k l m o Z O Z;rw[D]at d;have H:=fi<|Á b<|Á d<|Á o C;clear b d t o D C;go_wp2_with (go_at_call 87;refine(qw _ _).mono ?_;rintro e j ⟨rfl,I⟩;subst j;rw[H.out.2.2.2]);go_at_call 186;apply H.out.2.1.mono;rintro e w1 ⟨rfl,r,F⟩;rw[if_pos U]at r;have G:=fi<|Á r F;clear r F;subst P;subst Q;go_wp2_with (go_at_call 87;refine(qw _ _).mono ?_;rintro e j ⟨rfl,I⟩;subst j;rw[H.out.2.2.2]);go_at_call 188;refine(nH ok G.out.1<|by simp at v|-;omega).mono ?_;rintro e w2 ⟨rfl,Ie,I,J⟩;go_wp2_with fail;go_at_call 188;refine(nH ok I<|by simp at v;omega).mono ?_;rintro e w3 ⟨rfl,S9,V,L⟩;have T:=(G.out.2.fj J).fj L;clear I J L;go_wp2_with fail;exact S _ _ (gy _) ⟨_,_,V,T⟩
def ams(ok:E.Ok)(u:Nat->È)(b:R E i c z x zQ s f w)(hP:B.size<=40)(n:Nat)(Q:h=n)(S:n<B.size)(r:iP w)(l o q:Int)(T:zQ.length<=700)(V:0<=c.g)(wv:c.g<=100000)(k:Nat)(W:2<=k)(Y:k<=20)(I_:k≠17)(Cp:o<=zQ.length)(pC:0<=c.d)(hd:c.d<=4)(hF:c.d<4->tw F (c.d+1))(I:qt F)(J:gM s)(hx:c.x<8)(hy:c.y<8)(L:∀p∈zQ,gq p)(hlen:(f.length:Int)+c.g<=1000000)(t:RT)(M:t=lH F c k ⟨zQ,s,f,c.g-l⟩)(J_:0<=l)(Ta:l<=c.g)(N:mf ((B[n]'S).toNat:Int)=k)(v:je[(k:Nat)]?=Ã (l,o,q))(O:kt c.g zQ.length l o q=Ú) (hK:∀a m,Cq i B ((n:Int)+1) a->kY E i z x f.length w (oZ c t.g) t.r t.s t.C m->K a m): Î À uU (Exit.then K<|QQ X) (oc i B h u) w:=by
 unfold oc;conv=>arg 2;whnf
 subst Q;have e1:((n:Int)==(B.size:Int))=Ï:=by rw[beq_eq_false_iff_ne];omega
 have e2:decide ((B.size:Int)<(n:Int))=Ï:=decide_eq_false Z;have HM:(0:Int)<=(n:Int):=Z
 have wi:(n:Int)<(B.size:Int):=Z
 have j:=Co E ok i c z x zQ s f w b r k l o q v Z V Z;rw[O]at j;have H:=fi<|Á b<|Á j<|Á r<|Á v N;clear b j r v O N;go_wp2_with (go_at_call 87;refine(qw _ _).mono ?_;rintro e m ⟨rfl,hw⟩;subst m;rw[H.out.2.2.2.2]);go_at_call 186;apply H.out.2.1.mono;rintro e w1 ⟨rfl,C,P⟩;rw[if_pos U]at C;have G:=fi<|Á C P;clear C P;have e11:((k:Int)==1)=Ï:=by rw[beq_eq_false_iff_ne];omega
 have e27:((k:Int)==17)=Ï:=by rw[beq_eq_false_iff_ne];omega
 have e31:((k:Int)==21)=Ï:=by rw[beq_eq_false_iff_ne];omega
 have e32:((k:Int)==22)=Ï:=by rw[beq_eq_false_iff_ne];omega
 have D:=ami (t:=t) ok G.out.1 T pC hd hF I (H.out.2.2.1.N ok H.out.1 G.out.2) J hx hy L (by show 0<=c.g-l;omega) (by show c.g-l<=100000;omega) (by show(f.length:Int)+(c.g-l)<=1000000;omega) k W Y I_ l o q H.out.2.2.2.1 Cp M;have HD:=fi D;clear D hF I J L hlen M;go_wp2_with (go_at_call 87;refine(qw _ _).mono ?_;rintro e m ⟨rfl,hw⟩;subst m;rw[H.out.2.2.2.2]);go_at_call 189;apply HD.out.mono;rintro e w2 ⟨rfl,Ie,LB,h2,t2⟩;go_wp2_with fail;exact hK _ _ (gy _) ⟨_,_,h2,G.out.2.fj t2⟩
end
def lI(k:Nat):Int×Int×Int:=(je[k]?).getD (0,0,0)
def uV(P:ByteArray)(a:Int):Int:=((P.data.getD a.toNat 0).toNat:Int)
def kZ(P:ByteArray)(a:Int):Nat:=mf<|uV P a
def kC(F:lS)(c:RC)(P:ByteArray):Nat->Int->RT->Int×Bool×RT
 |0,_,t=>(0,Ï,t)
 |f+1,pl,t=>
  if pl=P.size then(0,Ú,t)
  else if(P.size:Int)<pl then(0,Ï,{t with g:=0})
  else if kt t.g t.r.length (lI<|kZ P pl).1 (lI<|kZ P pl).2.1 (lI<|kZ P pl).2.2=Ï then(0,Ï,{t with g:=0})
  else if kZ P pl=1 then kC F c P f (pl+1) {t with r:=t.r++[uV P pl-48],g:=t.g-(lI<|kZ P pl).1}
  else if kZ P pl=17 then
   if gi (fW t.r)=0 then kC F c P f (pl+1) {t with r:=fW<|fW t.r,g:=t.g-(lI<|kZ P pl).1}else kC F c P f (gi t.r) {t with r:=fW<|fW t.r,g:=t.g-(lI<|kZ P pl).1}
  else if kZ P pl=21 then(gi t.r,Ú,{t with r:=fW t.r,g:=t.g-(lI<|kZ P pl).1})
  else if kZ P pl=22 then(0,Ï,{t with g:=t.g-(lI<|kZ P pl).1})
  else kC F c P f (pl+1) (lH F c (kZ P pl) {t with g:=t.g-(lI<|kZ P pl).1})
structure oe(t:RT):Prop where
 r:∀p∈t.r,gq p
 M:t.r.length<=32
 s:gM t.s
 g0:0<=t.g
 C:t.g<=100000
 I:(t.C.length:Int)+t.g<=1000000
def amt{p:Prop}[Decidable p](c:i<=m)(d:b<=m):(if p then i else b)<=m:=by split;exact c;exact d
def J'(c:Int):mf c<=22:=by unfold mf;repeat' (first|refine amt A ?_|decide)
def uW:gq 0:=⟨A,A⟩
def amu:gq 1:=⟨A,A⟩
theorem K_(h:k<=22):je[k]?=Ã (lI k):=by
 unfold lI;have:k<je.length:=by show k<23;omega
 grind
def zY(n:Int):gq (wu n):=⟨alE n,alF n⟩
def L_(b:Bool):gq (xZ b):=by cases b<;>exact⟨A,A⟩
def amv{q:Int}(a:gq c)(d:gq q):gq (ya h c q):=by
 unfold ya;repeat' split
 all_goals first|exact zY _|exact L_ _|exact⟨A,A⟩|skip
 rename_i e;have b:=a.1;exact⟨Int.ediv_nonneg b d.1,Int.lt_of_le_of_lt (Int.ediv_le_self _ b) a.2⟩
def gM.fR{s:St}(h:gM s){a:H6}(b:gq a.fw)(d:∀j,gq<|a.C j)(e:a.r.size<=40/\∀c∈a.r.data.toList,yb c=Ú):gM (s.fR i a):=by
 refine⟨λj=> ?_,λj k=> ?_,λj=> ?_⟩<;>unfold St.fR<;>split
 .exact b
 .exact h.fw j
 .exact d k
 .exact h.C j k
 .exact e
 .exact h.I j
def gM.r{s:St}(h:gM s)(i:Nat){b:Int}(a:gq b):gM (s.fw i b):=h.fR a (h.C i)<|h.I i
def gM.S2{s:St}(h:gM s)(i j:Nat)(a:gq c):gM (s.r i j c):=by
 refine h.fR (h.fw i) (λk=> ?_)<|h.I i;show gq (if k=j then c else(s i).C k);split
 .exact a
 .exact h.C i k
def amw{s:St}(h:gM s)(y:Nat){p:Int}(a:gq p):gq (rh s y c p).1/\gM (rh s y c p).2:=by
 unfold rh;split
 .exact⟨uW,h⟩
 .rename_i d;have b:=h.fw y;have e:=a.1;refine⟨amu,gM.r (gM.r h y ⟨Z,by have:=b.2;omega⟩) _<|zY _⟩
def M_(h:n<8):gq (n:Int):=⟨Z,Z⟩
section
variable{F:lS}{c:RC}{t:RT}
def tA{m:List Int}(h:∀p∈zQ,gq p)(k:∀p∈m,gq p):∀p∈zQ++m,gq p:=λp a=>(ú.1 a).elim (h p)<|k p
def ye{a:Int}(h:gq a):∀p∈[a],gq p:=λp b=>by simp at b;subst b;exact h
def Tb{a b:Int}(h:gq a)(k:gq b):∀p∈[a,b],gq p:=λp c=>by simp at c;rcases c with rfl|rfl;exact h;exact k
def amx(b:qt F)(a:oe t)(d:c.y<8){p k:Int}(f:gq h)(i:gq p)(j:gq k): gq (jb F c t h p k).1/\gq (jb F c t h p k).2.1/\gM (jb F c t h p k).2.2.s/\0<=(jb F c t h p k).2.2.g/\(jb F c t h p k).2.2.g<=t.g/\((jb F c t h p k).2.2.C.length:Int)+(jb F c t h p k).2.2.g<=(t.C.length:Int)+t.g:=by
 unfold jb;split
 .exact⟨uW,uW,a.s,a.g0,Ö _,Ö _⟩
 .have l:0<=min p t.g:=by have:=i.1;have:=a.g0;omega
  have m:=a.C;have n:=a.I;have o:=f.1;have e:=b t.s t.C c.y (h%8).toNat (min p t.g) k a.s d Z j l Z Z;have r:=e.C;have u:=e.r;have v:=e.I;refine⟨e.M,L_ _,e.N,?_,?_,?_⟩;all_goals simp only
  all_goals have:=a.g0
  all_goals omega
theorem M'(v:qt F)(w:c.x<8)(r:c.y<8)(z:gq c.k)(P:2<=k)(Q:k<=20)(S:k≠17){o u:Int}(d:je[k]?=Ã (h,o,u)){g:Int}(T:t.g=g-h)(a:oe t)(V:(t.C.length:Int)+g<=1000000)(W:o<=t.r.length)(X:(t.r.length:Int)-o+u<=32): oe (lH F c k t)/\(lH F c k t).g<=t.g/\((lH F c k t).C.length:Int)+(lH F c k t).g<=t.C.length+g:=by
 have i:=tx a.r;have j:=tx<|pL a.r;have B:=tx<|pL<|pL a.r;have m:=pL a.r;have n:=pL m;have C:=pL n;have f:=qu t.r;have q:=qu<|fW t.r;have Y:=qu<|fW<|fW t.r;have g1:=a.C;obtain⟨D,E,G,H,I,J⟩:=L0 k _ d;simp only at D E G H I J;have len:=a.M;have b:∀{l:List Int},(∀p∈l,gq p)->l.length<=32->oe {t with r:=l}:=λp K=>⟨p,K,a.s,a.g0,a.C,a.I⟩;have cases:(k=2\/k=3\/k=4\/k=5\/k=6\/k=7)\/k=8\/k=9\/k=10\/k=11\/k=12\/k=13\/k=14\/k=15\/k=16\/k=18\/k=19\/k=20:=Z
 rcases cases with hq|rfl|rfl|rfl|rfl|rfl|rfl|rfl|rfl|rfl|rfl|rfl|rfl
 .have e:lH F c k t={t with r:=fW (fW t.r)++[ya k (gi<|fW t.r)<|gi t.r]}:=by
   rcases hq with rfl|rfl|rfl|rfl|rfl|rfl<;>rfl
  rw[e];exact⟨b (tA n<|ye<|amv j i) (by simp[f,q];omega),Ö _,by simp only;omega⟩
 .exact⟨b (tA m<|Tb i i) (by simp[f];simp[je]at d;omega),Ö _,by show(t.C.length:Int)+t.g<=_;omega⟩
 .exact⟨b (tA n<|Tb i j) (by simp[f,q];omega),Ö _,by show(t.C.length:Int)+t.g<=_;omega⟩
 .exact⟨b m (by rw[f];omega),Ö _,by show(t.C.length:Int)+t.g<=_;omega⟩
 .exact⟨b (tA a.r<|ye z) (by simp;simp[je]at d;omega),Ö _,by show(t.C.length:Int)+t.g<=_;omega⟩
 .exact⟨b (tA a.r<|ye<|M_ w) (by simp;simp[je]at d;omega),Ö _,by show(t.C.length:Int)+t.g<=_;omega⟩
 .exact⟨b (tA a.r<|ye<|M_ r) (by simp;simp[je]at d;omega),Ö _,by show(t.C.length:Int)+t.g<=_;omega⟩
 .exact⟨b (tA a.r<|ye<|a.s.fw _) (by simp;simp[je]at d;omega),Ö _,by show(t.C.length:Int)+t.g<=_;omega⟩
 .exact⟨b (tA m<|ye<|a.s.C _ _) (by simp[f];omega),Ö _,by show(t.C.length:Int)+t.g<=_;omega⟩
 .exact⟨⟨n,by show(fW<|fW t.r).length<=32;omega,a.s.S2 _ _ j,a.g0,a.C,a.I⟩,Ö _,by show(t.C.length:Int)+t.g<=_;omega⟩
 .obtain⟨e,L⟩:=amw a.s c.y j;exact⟨⟨tA n<|ye e,by show(fW (fW t.r)++[_]).length<=32;simp[f,q];omega,L,a.g0,a.C,a.I⟩,Ö _,by show(t.C.length:Int)+t.g<=_;omega⟩
 .have e:h=4:=by simp[je]at d;omega
  refine⟨⟨m,by show(fW t.r).length<=32;omega,a.s,a.g0,a.C,?_⟩,Ö _,?_⟩
  .show((t.C++[_]).length:Int)+t.g<=_;simp;omega
  .show((t.C++[_]).length:Int)+t.g<=_;simp;omega
 .obtain⟨e,L,M,N,O,w6⟩:=amx v a r i j B;refine⟨⟨tA C<|Tb e L,?_,M,N,?_,?_⟩,O,?_⟩
  .show(fW (fW<|fW t.r)++[_,_]).length<=32;grind
  .show(jb F c t _ _ _).2.2.g<=_;omega
  .show((jb F c t _ _ _).2.2.C.length:Int)+(jb F c t _ _ _).2.2.g<=_;omega
  .show((jb F c t _ _ _).2.2.C.length:Int)+(jb F c t _ _ _).2.2.g<=_;omega
end
def Cr(a:Nat)(w:É):Nat:=match w.cell? ⟨a,5,Ä⟩with
 |some (Â _ n)=>n.toNat
 |_=>0
def R.G{E:ja}{c:RC}{s:St}{a:List (Nat×Int)}(h:R E i c v x zQ s a w):Cr i w=c.g.toNat:=by unfold Cr;rw[h.r.r 5 _ U]
def SI(E:ja)(d:Nat)(c:RC)(P:ByteArray)(F:lS)(f h:È)(i:Nat)(j:É)(k:Int×Bool×RT)(a:é)(w:É):Prop:=
 ∃(b:Int) (t:RT) (e:Nat),Cq d P b a/\gq b/\kY E d f h i j (oZ c t.g) t.r t.s t.C w/\oe t/\iP w/\t.g.toNat<e/\kC F c P e b t=k
def SX(E:ja)(d:Nat)(c:RC)(P:ByteArray)(e f:È)(h:Nat)(i:É)(b:Int×Bool×RT)(a:é)(w:É):Prop:=
 EL d P b.1 b.2.1 a/\kY E d e f h i (oZ c b.2.2.g) b.2.2.r b.2.2.s b.2.2.C w
def Td(a:n<B.size):uV B (n:Int)=((B[n]'a).toNat:Int):=by unfold uV;rw[ŵ];have b:n<B.data.size:=a;simp only[Array.getD,b,dif_pos];rfl
theorem Te{s:St}(b:gM s)(y:Nat)(a:n<(s y).r.size):1<=kZ (s y).r (n:Int):=by
 unfold kZ;rw[Td a];have c:((s y).r[n]'a)∈(s y).r.data.toList:=by have:(s y).r[n]'a=(s y).r.data[n]'a:=U;grind [Array.getElem_mem]
 have:=(b.I y).2 _ c;unfold yb at this;have:=of_decide_eq_true this;omega
def N_{b a d:Int}(h:kt c n b a d=Ú):b<=c/\a<=n/\(n:Int)-a+d<=32:=by unfold kt at h;simp at h;omega
def amy{p:Prop}[Decidable p](c:i≠m)(d:b≠m):(if p then i else b)≠m:=by split;exact c;exact d
def N'(h:mf c=1):48<=c/\c<=57:=by
 by_cases a:48<=c/\c<=57
 .exact a
 .exfalso;revert h;unfold mf;rw[if_neg a];repeat' (first|refine amy A ?_|decide)
def amz(a:1<=k)(b:k<=22):1<=(lI k).1:=by
 have h:∀k:Fin 23,1<=k.val->1<=(lI k.val).1:=A
 exact h ⟨k,Z⟩ a
section
variable{E:ja}{c:RC}{F:lS}{l:Int×Bool×RT}
def amA(ok:E.Ok)(hP:B.size<=40)(amB:∀n,n<B.size->1<=kZ B (n:Int))(pC:0<=c.d)(hd:c.d<=4)(hF:c.d<4->tw F (c.d+1))(hI:qt F)(hx:c.x<8)(hy:c.y<8)(L4:gq c.k)(a:é)(w:É)(h:SI E j c B F z v i W l a w): Î À uU (Exit.then (λa' w'=>SI E j c B F z v i W l a' w'/\Cr j w'<Cr j w)<|QQ<|SX E j c B z v i W l) a w:=by
 let⟨pl,t,fuel,hfr,rI,⟨sv,lv,hR,hT⟩,ht,hr,hfu,hres⟩:=h;have g0:=ht.g0;have g1:=ht.C;have hl:=ht.M;have amC:=hR.G;obtain⟨f,rfl⟩:∃f,fuel=f+1:=⟨fuel-1,Z⟩;unfold kC at hres;obtain⟨u,rfl⟩:=hfr;by_cases h1:pl=B.size
 .rw[if_pos h1]at hres;subst hres;apply amj ok u hR hP h1;rintro a' w' q1 ⟨kj,jD,r1,r2⟩;exact⟨q1,kj,jD,r1,hT.fj r2⟩
 rw[if_neg h1]at hres;by_cases h2:(B.size:Int)<pl
 .rw[if_pos h2]at hres;subst hres;apply amk ok u hR hP h2;rintro a' w' q1 ⟨kj,jD,r1,r2⟩;exact⟨q1,kj,jD,r1,hT.fj r2⟩
 rw[if_neg h2]at hres;have H_:=rI.1;obtain⟨n,rfl⟩:∃n:Nat,pl=n:=⟨pl.toNat,Z⟩;have hn:n<B.size:=Z
 have k1:=amB n hn;have uT:mf ((B[n]'hn).toNat:Int)=kZ B (n:Int):=by unfold kZ;rw[Td hn]
 have k2:kZ B (n:Int)<=22:=J' _;have hk:=K_ k2;have J_:=amz k1 k2;let⟨b1,b2,b3,b4,b5,b6⟩:=L0 _ _ hk;have amD:=Td hn;generalize kZ B (n:Int)=k at*;generalize hro:lI k=ro at*;let⟨co,ta,pu⟩:=ro;simp only at hres hk J_ b1 b2 b3 b4 b5 b6;by_cases h3:kt t.g t.r.length co ta pu=Ï
 .rw[if_pos h3]at hres;subst hres;apply aml ok u hR hP n U hn hr co ta pu Z g0 g1 k uT hk h3;rintro a' w' q1 ⟨kj,jD,r1,r2⟩;exact⟨q1,kj,jD,r1,hT.fj r2⟩
 rw[if_neg h3]at hres;have oU:kt t.g t.r.length co ta pu=Ú:=by cases e:kt t.g t.r.length co ta pu with
  |true=>rfl
  |false=>exact absurd e h3
 let⟨Ta,Cp,Tf⟩:=N_ oU;have Tg:=ht.I;have wi:gq ((n:Int)+1):=⟨Z,Z⟩;have L5:∀{a':é} {w':É} {Ig:Int} {t':RT} {kj jD:È},Cq j B Ig a'->gq Ig->R E j (oZ c t'.g) kj jD t'.r t'.s t'.C w'->Tr E j sv lv t.C.length w kj jD t'.C.length w'->oe t'->t'.g<=t.g-co->kC F c B f Ig t'=l->SI E j c B F z v i W l a' w'/\Cr j w'<Cr j w:=by intro a' w' Ig t' kj jD q1 q2 q3 q4 q5 q6 q7;refine⟨⟨Ig,t',f,q1,q2,⟨kj,jD,q3,hT.fj q4⟩,q5,hr.N ok hR q4,Z,q7⟩,?_⟩;rw[q3.G,amC];show t'.g.toNat<t.g.toNat;omega
 by_cases h4:k=1
 .rw[if_pos h4]at hres;subst h4;have O_:=N' uT;apply amo ok u hR hP n U hn hr co ta pu Z g0 g1 O_.1 O_.2 uT hk oU;rintro a' w' q1 ⟨kj,jD,r1,r2⟩;rw[amD]at hres;refine L5 (t':={t with r:=t.r++[((B[n]'hn).toNat:Int)-48],g:=t.g-co}) q1 wi r1 r2 ⟨tA ht.r<|ye ⟨Z,Z⟩,?_,ht.s,by show 0<=t.g-co;omega,by show t.g-co<=100000;omega,by show(t.C.length:Int)+(t.g-co)<=1000000;omega⟩ (Ö _) hres;simp[je]at hk;simp;omega
 rw[if_neg h4]at hres;by_cases h5:k=17
 .rw[if_pos h5]at hres;subst h5;have amE:ta=2:=by simp[je]at hk;omega
  have e2:t.r=(fW (fW t.r)++[gi<|fW t.r])++[gi t.r]:=by rw[yd (by rw[qu];omega),yd Z]
  have tok:oe {t with r:=fW<|fW t.r,g:=t.g-co}:=⟨pL<|pL ht.r,by show(fW<|fW t.r).length<=32;rw[qu,qu];omega,ht.s,by show 0<=t.g-co;omega,by show t.g-co<=100000;omega,by show(t.C.length:Int)+(t.g-co)<=1000000;omega⟩;by_cases h6:gi (fW t.r)=0
  .rw[if_pos h6]at hres;apply amr ok u hR hP n U hn hr co ta pu Z g0 g1 _ _ _ e2 h6 uT hk oU;rintro a' w' q1 ⟨kj,jD,r1,r2⟩;exact L5 (t':={t with r:=fW<|fW t.r,g:=t.g-co}) q1 wi r1 r2 tok (Ö _) hres
  .rw[if_neg h6]at hres;apply amq ok u hR hP n U hn hr co ta pu Z g0 g1 _ _ _ e2 h6 uT hk oU;rintro a' w' q1 ⟨kj,jD,r1,r2⟩;exact L5 (t':={t with r:=fW<|fW t.r,g:=t.g-co}) q1 (tx ht.r) r1 r2 tok (Ö _) hres
 rw[if_neg h5]at hres;by_cases h6:k=21
 .rw[if_pos h6]at hres;subst h6 hres;have amE:ta=1:=by simp[je]at hk;omega
  apply amn ok u hR hP n U hn hr co ta pu Z g0 g1 _ _ (yd Z).symm uT hk oU;rintro a' w' q1 ⟨kj,jD,r1,r2⟩;exact⟨q1,kj,jD,r1,hT.fj r2⟩
 rw[if_neg h6]at hres;by_cases h7:k=22
 .rw[if_pos h7]at hres;subst h7 hres;apply amm ok u hR hP n U hn hr co ta pu Z g0 g1 uT hk oU;rintro a' w' q1 ⟨kj,jD,r1,r2⟩;exact⟨q1,kj,jD,r1,hT.fj r2⟩
 rw[if_neg h7]at hres;let⟨d1,d2,d3⟩:=M' (t:={t with g:=t.g-co}) hI hx hy L4 Z Z h5 hk U ⟨ht.r,ht.M,ht.s,by show 0<=t.g-co;omega,by show t.g-co<=100000;omega,by show(t.C.length:Int)+(t.g-co)<=1000000;omega⟩ Tg Cp Tf;apply ams ok u hR hP n U hn hr co ta pu Z g0 g1 k Z Z h5 Cp pC hd hF hI ht.s hx hy ht.r Tg (lH F c k {t with g:=t.g-co}) U b1 Ta uT hk oU;rintro a' w' q1 ⟨kj,jD,r1,r2⟩;exact L5 q1 wi r1 r2 d1 d2 hres
end
section
variable{E:ja}{c:RC}{F:lS}{lv:È}{s:St}{b:List (Nat×Int)}
def nI(F:lS)(c:RC)(s:St)(b:List (Nat×Int)):Int×Bool×RT:=kC F c (s c.y).r (c.g.toNat+1) 0 ⟨[],s,b,c.g⟩
def amF(ok:E.Ok)(h:R E i c v lv [] s b w)(l:0<=c.d)(o:c.d<=4)(hF:c.d<4->tw F (c.d+1))(p:qt F)(q:iP w)(f:gM s)(r:c.x<8)(j:c.y<8)(t:gq c.k)(z:0<=c.g)(B:c.g<=100000)(C:(b.length:Int)+c.g<=1000000): Ò À 175 #[Å<|Ã ⟨i,0,Ä⟩] w λe a=>e=Ç (æ #[Â Æ (nI F c s b).1,Ñ (nI F c s b).2.1])/\kY E i v lv b.length w (oZ c (nI F c s b).2.2.g) (nI F c s b).2.2.r (nI F c s b).2.2.s (nI F c s b).2.2.C a:=by
 have G:=h.r.r 0 _ U;have I:=h.r.r 2 _ U;have J:=h.C.LX j;have K:=h.r.M;have M:=fp.M h.C;have e:=(f.I c.y).1;have L:∀m,∀a,Cq i (s c.y).r 0 a->Î À (à uU) (QQ<|SX E i c (s c.y).r v lv b.length w<|nI F c s b) a (w.drewN m):=λm a D=>by refine Ĉ (SI E i c (s c.y).r F v lv b.length w<|nI F c s b) (λ_ w=>Cr i w) ?_ (amA ok e (λn u=>Te f c.y u) l o hF p r j t);have k:=fg.iW fl w m;exact⟨0,⟨[],s,b,c.g⟩,c.g.toNat+1,D,uW,⟨v,lv,h.fP k,Tr.fP k⟩,⟨ft,ft,f,z,B,C⟩,q.r k id,ft,U⟩
 have H:=fi L;generalize nI F c s b=res at*;generalize N:(s c.y).r=P at*;go_enter Tryz.func175,Tryz.ntmps175;go_wp2_with fail;go_step3;go_wp2_with fail;go_quiet (fail);go_wp2_with fail;go_step3;go_wp2_with fail;refine Ý ?_ (H.out _ _ (gy _));rintro(_|(_|_)|_|_|_|_) a v hq;all_goals first|exact absurd hq id|skip
 let⟨n,O⟩:=hq;obtain⟨u,rfl⟩:=n;unfold I';go_wp2_with fail;(try rw[Exit.noGoto_ret]);go_ret2;simp_all
end
def Ti(a:o.op=bj T)(b:P.info? T=Ã zJ)(c:zJ.zero=Ã z): (Ĥ xX o).run P w=φ (.value<|Å<|Ã ⟨w.heap.size,0,Ä⟩) (w.alloc<|Ð z.cells T):=by unfold Ĥ;simp[a,Instr.alloc,zeroValue,typeInfo,b,c,newVar,newRow]
def L8:∀(e a d:List È) (w:É) (c:List È),c.length=e.length->fp b (a++c++d) T w->fp b (a++e++d) T (w.setCells b a.length e)
 |[],a,d,w,c,hl,h=>by have:c=[]:=ß (by simpa using hl);subst this;exact h
 |v::r,a,d,w,c,hl,h=>by
  match c,hl,h with
  |x::c,hl,h=>
   have f:=h.fR a.length v;rw[show(a++x::c++d).set a.length v=(a++[v])++c++d by simp]at f;have:=L8 r (a++[v]) d _ c (by simpa using hl) f;rw[show(a++[v]).length=a.length+1 by simp]at this;rw[show a++v::r++d=a++[v]++r++d by simp];exact this
def NF.qE(h:NF b w)(p:ă)(v:È):NF b (w.setCell p v):=λc T d q=>by
 by_cases e:b=p.block
 .subst e;unfold ą at q;simp only[Û,if_true]at q;cases a:w.heap[p.block]? with
  |none=>rw[a]at q;cases q
  |some f=>
   rw[a]at q;cases f with
   |cells g t z=>
    simp only[ñ,è,ģ]at q;rw[<-q.2.1];exact h _ _ _ a
   |_=>cases q
 .rw[Ė _ _ _ _ (by simpa using e)]at q;exact h c T d q
def Ih:∀(vs:List È) (o:Nat) (w:É),NF b w->fg (λk=>k=b) w (w.setCells b o vs)
 |[],_,w,_=>fg.gd _ w
 |v::r,o,w,h=>(fg.I (X:=λk=>k=b) (p:=⟨b,o,Ä⟩) U v<|Ù h).fj<|Ih r (o+1) _<|h.qE _ _
def fp.Tk{vs:List È}(h:fp j vs T w)(a:n<=vs.length):w.there j 0 n:=λi b=>by refine⟨?_,h.C _⟩;rw[h.r (0+i) (vs[0+i]'Z)<|Ô Z];rfl
def fp.Y{vs tl:List È}(h:fp j (vs++tl) T w):w.rangeAt j 0 vs:=λi v a=>by apply h.r (0+i) v;rwa[ł,ç (Ü.1 a).1]
def P_{P:Program}{ops:Array Oper}{rest:List Oper}{o1 o2:Oper}{a:Act}{w:World}{Q:Exit->Act->World->Prop}(g1:o1.guard=none)(g2:o2.guard=none)(T:TypeId)(h1:o1.op=.alloc T)(d:Tmp)(hd:o1.dst=some d)(x y:Operand)(h2:o2.op=.store T x y)(n9:o2.dst=none) {i:TypeInfo} {z:Value} (hi:P.info? T=some i) (hz:i.zero=some z) (cs:List Value) (kh:i.size=cs.length) (rW:z.cells.size=cs.length) (hx:(a.put (some d)<|.pointer<|some ⟨w.heap.size,0,none⟩).eval x=.pointer (some ⟨w.heap.size,0,none⟩)) (hy:(a.put (some d)<|.pointer<|some ⟨w.heap.size,0,none⟩).eval y=.agg cs.toArray) (L9:∀v∈cs,v.oneCell'=true) (h:∀w',fp w.heap.size cs T w'->fg fl w w'->w'.heap.size=w.heap.size+1->wpList P ops Q rest (a.put (some d)<|.pointer<|some ⟨w.heap.size,0,none⟩) w') (hT:mD T=false:=by decide):wpList P ops Q (o1::o2::rest) a w:=by
 apply Ć g1 (Ã d) hd _ _ (Ti h1 hi hz);have hB:fp w.heap.size z.cells.toList T (w.alloc<|Ð z.cells T):=by have:=fp.N w z.cells.toList T;simpa using this
 refine ľ g2 T x y h2 w.heap.size 0 cs.toArray hx hy (hB.Tk<|by simp[rW]) (by rw[hi];simp[kh]) (Ī L9) ?_;rw[n9];have hB2:=L8 cs [] [] (w.alloc<|Ð z.cells T) z.cells.toList (by simpa using rW) (by simpa using hB);refine h _ (by simpa using hB2) ?_ ?_
 .refine(fg.gL fl w _ _<|Ø hT).C (Ih _ _ _<|hB.G hT) λk hk e=> ?_;omega
 .have:∀(vs:List È) (o:Nat) (w:É) (b:Nat),(w.setCells b o vs).heap.size=w.heap.size:=by
   intro vs
   induction vs with
   |nil=>intro o w b;rfl
   |cons v r ih=>intro o w b;rw[World.setCells,ih];simp
  simp[this]
section
variable{c:RC}{F:lS}
structure zZ(t:RT)(r:Int×Bool×RT):Prop where
 M:gq r.1
 s:gM r.2.2.s
 g0:0<=r.2.2.g
 C:r.2.2.g<=t.g
 I:(r.2.2.C.length:Int)+r.2.2.g<=t.C.length+t.g
def zZ.r{t a:RT}{r:Int×Bool×RT}(h:zZ a r)(b:a.g<=t.g)(c:(a.C.length:Int)+a.g<=t.C.length+t.g):zZ t r:= ⟨h.M,h.s,h.g0,Ŷ h.C b,Ŷ h.I c⟩
def EM{J:St->List (Nat×Int)->Prop}(u:B.size<=40)(d:∀n,n<B.size->1<=kZ B (n:Int))(h:qt F)(i:c.x<8)(j:c.y<8)(m:gq c.k)(o:∀(k:Nat) (t:RT),k<=20->oe t->J t.s t.C->J (lH F c k t).s (lH F c k t).C):∀(p:Nat) (b:Int) (t:RT),gq b->oe t->J t.s t.C->zZ t (kC F c B p b t)/\J (kC F c B p b t).2.2.s (kC F c B p b t).2.2.C
 |0,_,t,_,ht,hj=>⟨⟨uW,ht.s,ht.g0,Ö _,Ö _⟩,hj⟩
 |f+1,b,t,rI,ht,hj=>by
  have S:=ht.g0;have g1:=ht.C;have T:=ht.M;have V:=ht.I;have L:zZ t (0,Ï,{t with g:=0})/\J t.s t.C:=⟨⟨uW,ht.s,Ö _,S,by show(t.C.length:Int)+0<=_;omega⟩,hj⟩;unfold kC;by_cases M:b=B.size
  .rw[if_pos M];exact⟨⟨uW,ht.s,ht.g0,Ö _,Ö _⟩,hj⟩
  rw[if_neg M];by_cases N:(B.size:Int)<b
  .rwa[if_pos N]
  rw[if_neg N];have H_:=rI.1;obtain⟨n,rfl⟩:∃n:Nat,b=n:=⟨b.toNat,Z⟩;have W:n<B.size:=Z
  have k1:=d n W;have X:kZ B (n:Int)<=22:=J' _;have v:=K_ X;let⟨Y,b2,b3,b4,b5,b6⟩:=L0 _ _ v;have amG:kZ B (n:Int)=1->48<=uV B (n:Int)/\uV B (n:Int)<=57:=N';generalize kZ B (n:Int)=k at*;generalize hro:lI k=ro at*;let⟨a,w,z⟩:=ro;simp only at v Y b2 b3 b4 b5 b6|-;by_cases C:kt t.g t.r.length a w z=Ï
  .rwa[if_pos C]
  rw[if_neg C];have oU:kt t.g t.r.length a w z=Ú:=by cases e:kt t.g t.r.length a w z with
   |true=>rfl
   |false=>exact absurd e C
  let⟨Ta,Cp,Tf⟩:=N_ oU;have D:gq ((n:Int)+1):=⟨Z,Z⟩;have E:∀{l:List Int},(∀p∈l,gq p)->l.length<=32->oe {t with r:=l,g:=t.g-a}:=λG H=>⟨G,H,ht.s,by show 0<=t.g-a;omega,by show t.g-a<=100000;omega,by show(t.C.length:Int)+(t.g-a)<=1000000;omega⟩;have I:∀{l:List Int} {r:Int×Bool×RT},zZ {t with r:=l,g:=t.g-a} r/\J r.2.2.s r.2.2.C->zZ t r/\J r.2.2.s r.2.2.C:=λq=>⟨q.1.r (by show t.g-a<=t.g;omega) (by show(t.C.length:Int)+(t.g-a)<=_;omega),q.2⟩;by_cases p:k=1
  .rw[if_pos p];have:=amG p;subst p;refine I<|EM u d h i j m o f _ _ D (E (tA ht.r<|ye ⟨Z,Z⟩) ?_) hj;simp[je]at v;simp;omega
  rw[if_neg p];by_cases K:k=17
  .rw[if_pos K];have O:=E (pL<|pL ht.r) (by rw[qu,qu];omega);split
   .exact I<|EM u d h i j m o f _ _ D O hj
   .exact I<|EM u d h i j m o f _ _ (tx ht.r) O hj
  rw[if_neg K];by_cases O:k=21
  .rw[if_pos O];exact⟨⟨tx ht.r,ht.s,by show 0<=t.g-a;omega,by show t.g-a<=t.g;omega,by show(t.C.length:Int)+(t.g-a)<=_;omega⟩,hj⟩
  rw[if_neg O];by_cases P:k=22
  .rw[if_pos P];exact⟨⟨uW,ht.s,by show 0<=t.g-a;omega,by show t.g-a<=t.g;omega,by show(t.C.length:Int)+(t.g-a)<=_;omega⟩,hj⟩
  rw[if_neg P];have Q:=E ht.r T;let⟨d1,d2,d3⟩:=M' (t:={t with g:=t.g-a}) h i j m Z Z K v U Q V Cp Tf;let⟨G,H⟩:=EM u d h i j m o f _ _ D d1<|o k _ Z Q hj;exact⟨G.r (Ŷ d2<|by show t.g-a<=t.g;omega) d3,H⟩
def P'{s:St}{a:List (Nat×Int)}(d:qt F)(b:gM s)(e:c.x<8)(f:c.y<8)(h:gq c.k)(i:0<=c.g)(j:c.g<=100000)(l:(a.length:Int)+c.g<=1000000):zZ ⟨[],s,a,c.g⟩ (nI F c s a):= (EM (J:=λ_ _=>True) (b.I c.y).1 (λn m=>Te b c.y m) d e f h (λ_ _ _ _ _=>trivial) _ _ _ uW ⟨ft,ft,b,i,j,l⟩ trivial).1
end
def amH:(À.underlying 136).map İ=Ã Ú:=fv
def Q_:(À.info? 136).map (λi=>(i.size,i.zero.map (·.cells.size)))=Ã (145,Ã 145):=fv
def Q'(h:(P.info? e).map (λi=>(i.size,i.zero.map (·.cells.size)))=Ã (n,Ã m)):∃i z,P.info? e=Ã i/\i.size=n/\i.zero=Ã z/\z.cells.size=m:=by let⟨i,a,h⟩:=Ì.1 h;simp only[Prod.mk.injEq,Ì]at h;let⟨b,z,c,d⟩:=h;exact⟨i,z,a,b,c,d⟩
def Tl(s:St){lv:È}(b:lv.oneCell'=Ú):∀v∈jo s lv,v.oneCell'=Ú:=λv c=>by
 obtain⟨i,a,rfl⟩:=List.getElem_of_mem c;rw[mQ]at a;have:=H7 s lv a;rw[Ô (by rwa[mQ])]at this;injection this with this;rw[this];unfold sd qp;repeat' split
 all_goals first|exact b|rfl
def Tm{t:Tmp}{d:TypeDesc}(h:s.results=#[.cell t T])(a:q.getD t ā=Å (Ã ⟨b,0,Ä⟩))(c:w.rangeAt b 0 l)(e:P.underlying T=Ã d)(f:d.isRow=Ú)(g:(P.info? T).map (·.size)=Ã l.length): (ak s q).run P w=φ (Ē l.toArray) w:=by rw[ī]at a;simp only[ak,h];simp[a,asAddr,Ν w b 0 T l d c e f g]
def Tn:(À.underlying 245).map İ=Ã Ú:=fv
def To:(À.info? 245).map (·.size)=Ã 3:=fv
def amI{e:Array ş}{f:List ş}{a:é}(i:o.guard=Ä)(d:õ)(x y:ŭ)(j:o.op=.store d x y) (b:Nat) (c:List È) (k:a.eval x=Å (Ã ⟨b,0,Ä⟩)) (l:a.eval y=Ē c.toArray) (m:w.there b 0 c.toArray.size) (n:(P.info? d).map (·.size)=Ã c.toArray.size) (p:c.toArray.all (·.oneCell')=Ú) (h:∀g,g=w.setCells b 0 c->aR P e vJ f (a.put o.dst ā) g):aR P e vJ (o::f) a w:= ľ i d x y j b 0 c.toArray k l m n p<|h _ U
def qx(F:lS)(c:RC)(s:St)(a:List (Nat×Int)):zW:=
 ⟨c.g-(nI F c s a).2.2.g,(nI F c s a).2.1,(nI F c s a).1,if(nI F c s a).2.1 then(nI F c s a).2.2.s else s,if(nI F c s a).2.1 then(nI F c s a).2.2.C else a⟩
section
variable{E:ja}{c:RC}{lv:È}{s:St}{f:List (Nat×Int)}{F:lS}
def amJ(k:fg fl w u)(t:Tr E i (Ê Ä 0 0) lv n u x v f.length W)(o:w.heap.size<=i)(r:R E i c x v zQ s f W):iz E lv n w s f W v:=by
 refine⟨r.C,r.M,?_,λj q=>(t.l j q).imp id λe=>ë k.M e,λb d g h m=>t.C b d g (im h k λ_ _=>id) m⟩;refine(k.S λ_ _=>ę).C t.r ?_;rintro a p (e|e|e|e)
 .exact Ø e
 .omega
 .cases e
 .exact Ù e
def iz.N{Y:Nat->Prop}(r:iz E lv n w s f W v)(k:fg Y W jX)(m:∀i,Y i->w.heap.size<=i)(o:∀i d,Y i->W.heap[i]?≠Ã (Ð d 250 (0,0)))(p:¬Y E.r):iz E lv n w s f jX v:=by
 have e:∀{a b c},W.ownsRow 0 250 2 a b c->jX.ownsRow 0 250 2 a b c:=λ{a b c} q=>im q k λj t y=>by let⟨d,u⟩:=me q t;exact o j d y u
 exact⟨r.r.I k p,e r.I,r.C.C k λi x y=>absurd (m i y) Z,r.l,λa b c g h=>⟨e (r.M a b c g h).1,(r.M a b c g h).2⟩⟩
def iz.qP{a:St}{c:List (Nat×Int)}(ok:E.Ok)(m:w.ownsRow 0 250 2 lv c.length (kr c))(r:iz E lv c.length w s f W v):iz E lv c.length w a c (W.setCells E.r 0<|jo a lv) lv:=by have k:=Ih (b:=E.r) (jo a lv) 0 W<|fp.G r.r ok.C;have l:∀{d e g},W.ownsRow 0 250 2 d e g->(W.setCells E.r 0<|jo a lv).ownsRow 0 250 2 d e g:=λ{d e g} q=>im q k λj n y=>jE q r.r ok.r.symm (by rw[n,y]);have o:=L8 (T:=E.T) (b:=E.r) (jo a lv) [] E.C W (jo s v) (by rw[mQ,mQ]) (by have h:=r.r;unfold iF at h;simpa using h);refine⟨by unfold iF;simpa using o,l (r.M _ _ _ m λ_=>Þ _).1,r.C.C k λi _ q=>Ø q,λj q=>Ø q,λd e g p h=>⟨l (r.M d e g p h).1,h⟩⟩
def R_(ok:E.Ok)(pC:0<=c.d)(hd:c.d<=4)(hF:c.d<4->tw F (c.d+1))(hI:qt F)(C:iF E.r E.T E.C s lv w)(I:w.ownsRow 0 250 2 lv f.length (kr f))(hr:iP w)(hs:gM s)(hx:c.x<8)(hy:c.y<8)(L4:gq c.k)(xt:0<=c.g)(wv:c.g<=100000)(hlen:(f.length:Int)+c.g<=1000000): Ò À 157 #[Å<|Ã ⟨E.r,0,Ä⟩,Â Ë c.x,Â Ë c.y,Â Æ c.g,Â Æ c.k,Â Ë c.d] w λe a=>
  e=Ç (Ē #[Â Æ (qx F c s f).r,Ñ (qx F c s f).C,Â Æ (qx F c s f).M])/\∃v,iz E lv f.length w (qx F c s f).s (qx F c s f).I a v:=by
 let⟨dd,R',S_⟩:=Ì.1 amH;let⟨i0,z0,J,K,Ii,rW⟩:=Q' Q_;have L9:=Tl s (lv:=lv) (by obtain⟨a,r,rfl⟩:=jN I;rfl);have gP:=fp.M C;have S':(À.info? 136).map (·.size)=Ã (jo s lv).length:=by rw[J,mQ];simp[K]
 have k0:=fg.gL fl w #[Â Æ 0,Ñ Ï,Â Æ 0] 245;have PY:(w.alloc<|Ð #[Â Æ 0,Ñ Ï,Â Æ 0] 245).rangeAt E.r 0 (jo s lv):=fp.Y<|C.I k0 id;have l:=fi<|Á R'<|Á S_<|Á S'<|Á PY<|Á J<|Á Ii<|Á (K.trans (mQ s lv).symm)<|Á (rW.trans (mQ s lv).symm) L9;have H:=fi<|Á C<|Á I<|Á hr<|Á hF<|Á hI hs;clear R' S_ J K Ii rW L9 S' PY C I hr hF hI hs k0;obtain⟨a,b,t,L⟩:∃a b t,nI F c s f=(a,b,t):=⟨_,_,_,U⟩;have iN:qx F c s f=⟨c.g-t.g,b,a,if b then t.s else s,if b then t.C else f⟩:=by unfold qx;rw[L]
 rw[iN];have D:=P' H.out.2.2.2.2.1 H.out.2.2.2.2.2 hx hy L4 xt wv hlen;rw[L]at D;have tg0:0<=t.g:=D.g0;have tg1:t.g<=c.g:=D.C;clear D;go_enter Tryz.func157,Tryz.ntmps157;go_wp2_with (first
  |(with_reducible refine ĥ U 136 _ U E.r 0 U (jo s lv) dd l.out.2.2.2.1 l.out.1 l.out.2.1 l.out.2.2.1 ?_)
  |(with_reducible refine P_ U U 136 U 13 U _ _ U U l.out.2.2.2.2.1 l.out.2.2.2.2.2.1 (jo s lv) l.out.2.2.2.2.2.2.1 l.out.2.2.2.2.2.2.2.1 U U l.out.2.2.2.2.2.2.2.2 ?_;intro n Ma M EB))
 have wh:n.heap.size=w.heap.size+1+1:=by simpa using EB
 have nG:fp (w.heap.size+1) (jo s lv) 136 n:=by simpa using Ma
 have u:fg fl w (n.alloc<|Ð #[Å<|Ã ⟨E.r,0,Ä⟩,Â Ë c.x,Â Ë c.y,Â Æ c.k,Â Ë c.d,Â Æ c.g,Ê Ä 0 0] 276):=((fg.gL _ _ _ _).fj M).fj<|fg.gL _ _ _ _;have k1:=fg.gL fl n #[Å<|Ã ⟨E.r,0,Ä⟩,Â Ë c.x,Â Ë c.y,Â Æ c.k,Â Ë c.d,Â Æ c.g,Ê Ä 0 0] 276;have hR:R E (w.heap.size+1+1) c (Ê Ä 0 0) lv [] s f (n.alloc<|Ð #[Å<|Ã ⟨E.r,0,Ä⟩,Â Ë c.x,Â Ë c.y,Â Æ c.k,Â Ë c.d,Â Æ c.g,Ê Ä 0 0] 276):= ⟨by rw[<-wh];exact fp.N n (pJ E.r c<|Ê Ä 0 0) 276,ĉ _ _ _ _,H.out.1.I u id,im H.out.2.1 u λ_ _=>id⟩;have Bf:fp w.heap.size [Â Æ 0,Ñ Ï,Â Æ 0] 245 n:=(fp.N w [Â Æ 0,Ñ Ï,Â Æ 0] 245).I M id;have S:=amF (F:=F) ok hR pC hd H.out.2.2.2.1 H.out.2.2.2.2.1 (H.out.2.2.1.r u id) H.out.2.2.2.2.2 hx hy L4 xt wv hlen;rw[L]at S;go_at_call 175;apply S.mono;clear S;rintro e W ⟨rfl,S9,Tp,z,N⟩;have T_:=amJ u N Z z;have O:∀{j:Nat} {P:List È} {T:õ},fp j P T n->w.heap.size<=j->fp j P T W:=λ{j P T} hB hj=>by
  refine(hB.I k1 id).I N.r ?_;have:=hB.M;rintro(q|q|q|q)
  .omega
  .omega
  .cases q
  .have:=(H.out.2.1.lt j q).2;omega
 have o:=O Bf<|Þ _;have U_:=O nG Z;have e0:=o.r 0 _ U;have e1:=o.r 1 _ U;have e2:=o.r 2 _ U;have f0:=o.C 0;have f1:=o.C 1;have f2:=o.C 2;have g5:W.cell? ⟨w.heap.size+1+1,5,Ä⟩=Ã (Â Æ t.g):=z.r.r 5 _ U;have ajy:=z.r.M;have m:=fi<|Á T_<|Á z<|Á o U_;clear T_ z N o U_ O hR Bf nG u k1 Ma M EB wh;cases b with
 |true=>
  go_wp2_with fail
  let⟨d2,Q,V⟩:=Ì.1 Tn;have r:=((m.out.2.2.1.fR 0<|Â Æ<|c.g-t.g).fR 1<|Ñ Ú).fR 2<|Â Æ a;apply ð (Tm U U (fp.Y (tl:=[]) (vs:=[Â Æ<|c.g-t.g,Ñ Ú,Â Æ a]) r) Q V To) U;refine⟨U,Tp,m.out.1.N (Y:=λk=>k=w.heap.size) (((fg.I (X:=λk=>k=w.heap.size) (p:=⟨w.heap.size,0,Ä⟩) U _).fj<|fg.I (X:=λk=>k=w.heap.size) (p:=⟨w.heap.size,1,Ä⟩) U _).fj<|fg.I (X:=λk=>k=w.heap.size) (p:=⟨w.heap.size,2,Ä⟩) U _) (λi q=>by omega) (λi cur q B=> ?_) Z⟩;have G:W.heap[w.heap.size]?=_:=m.out.2.2.1;rw[q,G]at B;cases B
 |false=>
  have rg:W.rangeAt (w.heap.size+1) 0 (jo s lv):=fp.Y (tl:=[]) (by simpa using m.out.2.2.2);have th:W.there E.r 0 (jo s lv).toArray.size:=by have:=m.out.1.r;unfold iF at this;exact this.Tk<|by simp only[ć,Ó,mQ];omega
  have U':(À.info? 136).map (·.size)=Ã (jo s lv).toArray.size:=by rw[l.out.2.2.1];simp
  have oX:=Ī l.out.2.2.2.2.2.2.2.2;have HNF:=fi<|fp.G m.out.2.1.C ok.C;have G:=fi<|Á rg<|Á th<|Á U' oX;clear rg th U' oX;go_wp2_with (first
   |(with_reducible refine ĥ U 136 _ U (w.heap.size+1) 0 U (jo s lv) dd G.out.1 l.out.1 l.out.2.1 l.out.2.2.1 ?_)
   |(with_reducible refine amI U 136 _ _ U E.r (jo s lv) U U G.out.2.1 G.out.2.2.1 G.out.2.2.2 ?_;intro jX yf;have kb:fg (λk=>k=E.r) W jX:=(by rw[yf];exact Ih _ _ _ HNF.out);have r:=m.out.2.2.1.I kb Z;have p0:=r.r 0 _ U;have p1:=r.r 1 _ U;have p2:=r.r 2 _ U;have y0:=r.C 0;have y1:=r.C 1;have y2:=r.C 2;have Tq:=m.out.2.1.r.I kb Z;have p5:jX.cell? ⟨w.heap.size+1+1,5,Ä⟩=Ã (Â Æ t.g):=Tq.r 5 _ U;have hl4:=Tq.M;have V_:=fi r;clear kb r Tq;have HW:=fi yf;clear yf))
  let⟨d2,Q,V⟩:=Ì.1 Tn;apply ð (Tm U U (fp.Y (tl:=[]) (vs:=[Â Æ<|c.g-t.g,Ñ Ï,Â Æ a])<|((V_.out.fR 0<|Â Æ<|c.g-t.g).fR 1<|Ñ Ï).fR 2<|Â Æ a) Q V To) U;have r:iz E lv f.length w s f jX lv:=by rw[HW.out];exact m.out.1.qP ok H.out.2.1
  refine⟨U,lv,r.N (Y:=λk=>k=w.heap.size) (((fg.I (X:=λk=>k=w.heap.size) (p:=⟨w.heap.size,0,Ä⟩) U _).fj<|fg.I (X:=λk=>k=w.heap.size) (p:=⟨w.heap.size,1,Ä⟩) U _).fj<|fg.I (X:=λk=>k=w.heap.size) (p:=⟨w.heap.size,2,Ä⟩) U _) (λi q=>by omega) (λi cur q B=> ?_) Z⟩;rw[q,V_.out]at B;cases B
end
def se:Nat->lS
 |0=>λs a _ _ _ _=>⟨0,Ï,0,s,a⟩
 |n+1=>λs a x y g k=>qx (se n) ⟨x,y,k,4-(n:Int),g⟩ s a
theorem amK{F:lS}(d:qt F){c:RC}{s:St}{a:List (Nat×Int)}(b:gM s)(e:c.x<8)(f:c.y<8)(i:gq c.k)(j:0<=c.g)(l:c.g<=100000)(m:(a.length:Int)+c.g<=1000000):G_ a c.g (qx F c s a):=by
 have h:=P' d b e f i j l m;have p:=h.g0;have n:=h.C;have o:=h.I;simp only at n o;unfold qx;refine⟨by simp only;omega,by simp only;omega,?_,h.M,?_⟩
 .simp only;split
  .exact h.s
  .exact b
 .grind
def Ij:∀n,qt<|se n
 |0=>λs a x y g k b _ _ _ d _ _=>⟨Ö _,d,b,uW,by show(a.length:Int)<=a.length+0;omega⟩
 |n+1=>λs a x y g k b d e f h i j=>amK (c:=⟨x,y,k,4-(n:Int),g⟩) (Ij n) b d e f h i j
def W_:∀n,n<=3->tw (se<|n+1) (4-(n:Int))
 |0,_=>λE a s t u x y g k w b d f i j l m o p r=>R_ (c:=⟨x,y,k,4-((0:Nat):Int),g⟩) (F:=se 0) a (show(0:Int)<=4-((0:Nat):Int) by decide) (show(4:Int)-((0:Nat):Int)<=4 by decide) (λq=>absurd q<|show¬(4:Int)-((0:Nat):Int)<4 by decide) (Ij 0) b d f i j l p m o r
 |n+1,h=>λE a s t u x y g k w b d f i j l m o p r=>by
  have e:(4:Int)-((n+1:Nat):Int)+1=4-(n:Int):=Z
  exact R_ a (by show 0<=4-((n+1:Nat):Int);omega) (by show 4-((n+1:Nat):Int)<=4;omega) (λ_=>by show tw _ (4-((n+1:Nat):Int)+1);rw[e];exact(W_ n Z)) (Ij<|n+1) b d f i j l p m o r
def gw:lS:=se 4
def Mb:qt gw:=Ij 4
def X_:tw gw 1:=W_ 3 A
def iF.nY{tl:List È}{s:St}(h:iF b T tl s v w)(k:fg X w u)(a:¬X b):iF b T tl s v u:=fp.I h k a
section
variable{E:ja}{lv:È}{w1:É}{s B d:St}{ls f r:List (Nat×Int)}
theorem iz.gd(a:iF E.r E.T E.C s lv w)(b:w.ownsRow 0 250 2 lv ls.length (kr ls)):iz E lv ls.length w s ls w lv:= ⟨a,b,fg.gd _ _,λ_ q=>Ø q,λ_ _ _ c d=>⟨c,d⟩⟩
def iz.fj(h:iz E lv n w B f w1 v)(k:iz E v f.length w1 d r u jQ):iz E lv n w d r u jQ:=by
 refine⟨k.r,k.I,h.C.C k.C ?_,λj q=> ?_,λa b c g m=> ?_⟩
 .rintro i o (e|e)
  .exact Ø e
  .exact Ù<|(h.l i e).resolve_right Z
 .rcases k.l j q with e|e
  .exact h.l j e
  .exact Ù<|ë h.C.M e
 .let⟨e,i⟩:=h.M a b c g m;exact k.M a b c e i
def iz.fP(h:iz E lv n w s ls w1 v)(k:fg fl w1 u):iz E lv n w s ls u v:= h.N k (λ_=>ę) (λ_ _=>ę) id
def iz.Y(ok:E.Ok)(h:iz E lv n w s ls w1 v)(i:Nat)(k:iF E.r E.T E.C d v (w1.setCell ⟨E.r,i,Ä⟩ x)):iz E lv n w d ls (w1.setCell ⟨E.r,i,Ä⟩ x) v:=by have e:=fg.I (X:=λk=>k=E.r) (p:=⟨E.r,i,Ä⟩) U x<|Ù<|fp.G h.r ok.C;have f:∀{a b c},w1.ownsRow 0 250 2 a b c->(w1.setCell ⟨E.r,i,Ä⟩ x).ownsRow 0 250 2 a b c:=λ{a b c} q=>im q e λj o y=>jE q h.r ok.r.symm (by rw[o,y]);exact⟨k,f h.I,h.C.C e λi _ q=>Ø q,h.l,λa b c g m=>⟨f (h.M a b c g m).1,(h.M a b c g m).2⟩⟩
def iz.fw(ok:E.Ok)(h:iz E lv n w s ls w1 v)(a:i<8)(x:Int):iz E lv n w (s.fw i x) ls (w1.setCell ⟨E.r,i*18,Ä⟩<|Â Æ x) v:=h.Y ok _<|h.r.zS a x
def iz.LX(ok:E.Ok)(h:iz E lv n w s ls w1 v)(a:i<8)(x:ByteArray):iz E lv n w (s.C i x) ls (w1.setCell ⟨E.r,i*18+1,Ä⟩<|Í x) v:=h.Y ok _<|h.r.alC a x
end
def yg(s:St)(x y:Nat)(n:Int):Bool×St:=
 if(s x).fw<n+10 then(Ï,s)else(Ú,(s.fw x<|(s x).fw-(n+10)).fw y<|wu<|(s.fw x ((s x).fw-(n+10)) y).fw+n)
section
variable{E:ja}{lv:È}{s:St}{ls:List (Nat×Int)}
def amL(ok:E.Ok)(c:iF E.r E.T E.C s lv w)(g:w.ownsRow 0 250 2 lv ls.length (kr ls))(f:gM s)(x y:Nat)(n:Int)(a:x<8)(d:y<8)(i:0<=n)(j:n<=1000000): Ò À 152 #[Å<|Ã ⟨E.r,0,Ä⟩,Â Ë x,Â Ë y,Â Æ n] w λe m=>e=Ç (Ñ (yg s x y n).1)/\iz E lv ls.length w (yg s x y n).2 ls m lv:=by
 have k:=c.fw a;have l:=fp.C c<|x*18;have o:=(f.fw x).1;have p:=(f.fw x).2;have q:∀m,((w.drewN m).setCell ⟨E.r,x*18,Ä⟩<|Â Æ<|(s x).fw-(n+10)).cell? ⟨E.r,y*18,Ä⟩=Ã (Â Æ (s.fw x ((s x).fw-(n+10)) y).fw):=λm=>((c.nY (fg.iW fl w m) id).zS a _).fw d;have r:∀m,((w.drewN m).setCell ⟨E.r,x*18,Ä⟩<|Â Æ<|(s x).fw-(n+10)).frozen? ⟨E.r,y*18,Ä⟩=Ï:=λm=>fp.C ((c.nY (fg.iW fl w m) id).zS a _) _;have t:=(c.zS a<|(s x).fw-(n+10)).fw d;have u:=fp.C (c.zS a<|(s x).fw-(n+10))<|y*18;have H:=fi<|iz.gd c g;unfold yg;by_cases e:(s x).fw<n+10
 .rw[if_pos e];generalize(s x).fw=b at*;go_enter ar,κ;go_wp2_with fail;go_ret;exact⟨U,H.out⟩
 .rw[if_neg e];generalize(s.fw x ((s x).fw-(n+10)) y).fw=b2 at*;generalize(s x).fw=b at*;go_enter ar,κ;go_wp2_with fail;go_region;go_wp2_with fail;go_region;go_wp2_with fail;go_ret;refine⟨U,?_⟩;first
   |exact((H.out.fw ok a _).fw ok d _).fP<|fg.iW _ _ _
   |exact(((H.out.fP<|fg.iW _ _ _).fw ok a _).fw ok d _)
   |exact(((H.out.fP<|fg.fY _ _).fw ok a _).fP<|fg.fY _ _).fw ok d _
   |exact((H.out.fw ok a _).fw ok d _).still<|(Keep.drew _ _).trans<|Keep.drew _ _
end
def amM(a:ko w)(p:ă)(n:Nat):ko (w.freeze p n):=by
 unfold Đ;split
 .exact a
 .intro i o h;simp only[Û]at h;split at h
  .cases b:w.heap[i]? with
   |none=>rw[b]at h;cases h
   |some d=>
    have:=a _ _ b;rw[b]at h;cases d with
    |cells c t z=>simp only[ñ,è]at h;subst h;exact λx=>x
    |_=>exact absurd trivial this
  .exact a i o h
def X'(a:rZ m w)(p:ă)(n:Nat):rZ m (w.freeze p n):=by
 unfold Đ;split
 .exact a
 .intro i c T f e h b;simp only[Û]at h;split at h
  .cases d:w.heap[i]? with
   |none=>rw[d]at h;cases h
   |some g=>
    rw[d]at h;cases g with
    |cells j t z=>
     simp only[ñ,è,ģ]at h;rw[<-h.1];rw[<-h.2.1]at b;exact a _ _ _ _ e d b
    |_=>cases h
  .exact a i c T f e h b
theorem amN{w w1:World}{g:Nat}{cur Y:Array Value}{e:TypeId}{z:Nat×Nat}(hw:fg fl w w1)(hg:w1.heap[g]?=some (.cells cur e z))(avo:w.heap.size<=g)(he:mD e=false:=by decide):fg fl w (w1.setRow g Y):=by
 refine⟨by simpa using hw.M,λk hk _=>(ė w1 g k Y Z).trans<|hw.N k hk id,λal i o ho=> ?_,λm a i c T fr hm h hT=> ?_⟩;rotate_left
 .by_cases hi:i=g
  .subst hi;rw[ĝ w1 i cur Y e z hg]at h;grind
  .rw[ė w1 g i Y hi]at h;exact hw.Y m a i c T fr hm h hT
 by_cases hi:i=g
 .subst hi;rw[ĝ w1 i cur Y e z hg]at ho;cases ho;exact λx=>x
 .rw[ė w1 g i Y hi]at ho;exact hw.gX al i o ho
def amO(b:fg fl w u)(e:w.heap.size<=p.block):fg fl w (u.freeze p n):=by
 refine⟨?_,λk c _=> ?_,λd=>amM (b.gX d) p n,λm a=>X' (b.Y m a) p n⟩
 .unfold Đ;split
  .exact b.M
  .simpa using b.M
 .unfold Đ;split
  .exact b.N k c id
  .simp only[Û];rw[if_neg Z];exact b.N k c id
def Ts:(À.info? 5).map (λi=>(i.zero,i.size,i.bytes))=Ã (Ã<|Â aU 0,1,1):=fv
def amP(n:Nat)(e:n<=1000000):∃M:Array È,M.size=n/\∀W:É,(Instr.makeSlice 98 (Â Ë (n:Int))<|Â Ë (n:Int)).run À W=φ (Ê (Ã ⟨W.heap.size,0,Ä⟩) n n) (W.alloc<|Ð M 5):=by let⟨i,a,b,c,d⟩:=í Ts;refine⟨madeCells (Â aU 0).cells<|(n:Int).toNat*i.size,by rw[size_madeCells,c];simp,λW=> ?_⟩;simpa using run_make W 98 5 i (Â aU 0) Ā a b Ë Ë n n Z Z (by rw[d];omega) Z
theorem amQ{M:Array È}(e:M.size=B.size)(b:W.heap[i]?=Ã (Ð M 5 (0,0))): (ν #[98,9] 3 #[Ê (Ã ⟨i,0,Ä⟩) B.size B.size,Í B]).run À W=φ (goInt B.size) (W.setRow i (ô B.data.toList).toArray):=by let⟨a,c,_,d,_⟩:=í Ts;have h:=Lib.run_copy_row_string W 98 9 3 5 i 0 B.size B.size B M 5 Ā (by rw[c];simp[d]) b (Þ _) Z;grind [List.drop_of_length_le]
def amR(d:B.size≠0)(m:B.size<=1000000)(c:W.heap[i]?=Ã (Ð (ô B.data.toList).toArray 5 (0,0))): (Ő #[170,3] 9 #[Å<|Ã ⟨i,0,Ä⟩,Â Ë (B.size:Int)]).run À W=φ (Í B) (W.freeze ⟨i,0,Ä⟩ B.size):=by
 let⟨a,f,_,k,_⟩:=í Ts;have b:=Lib.size_eq B;have l:(ô B.data.toList).toArray.size=B.size:=by rw[ć,Ř,<-b]
 have h:=Ĺ W 170 3 9 5 ũ (by simp[Program.cellsOf,f,k]) i B.size (by unfold ŷ;rw[c];simp only[l]) B.data.toList (by intro e;rw[e]at b;exact d b) Z Z (λj x e=>Lib.cells_of_row c _ j _<|by rw[List.take_of_length_le<|Þ _];simp[ô,e]);rwa[<-b]at h
def amS(s:ByteArray)(a:s.size<=1000000)(w:É):Ò À 180 #[Í s] w λe c=>e=Ç (Í s)/\fg fl w c:=by
 by_cases b:s.size=0
 .have d:=bq<|Array.eq_empty_of_size_eq_zero b;subst d;go_enter au,ξ;go_wp2;go_ret;exact⟨U,fg.gd _ _⟩
 .let⟨M,d,mk⟩:=amP s.size a;have g:=amQ d<|ì w<|Ð M 5;have h:=amR b a<|ĝ (w.alloc<|Ð M 5) w.heap.size M (ô s.data.toList).toArray 5 (0,0)<|ì w _;have f:=fi<|amO (p:=⟨w.heap.size,0,Ä⟩) (n:=s.size) (amN (Y:=(ô s.data.toList).toArray) (fg.gL fl w M 5) (ì w _)<|Þ _)<|Þ _;generalize(ô s.data.toList).toArray=Y at*;go_enter au,ξ;go_wp2;go_ret;exact⟨U,f.out⟩
def amT(s:ByteArray)(a:s.size<=1000000)(w:É):Ò À 170 #[Í s] w λe b=>e=Ç (Í s)/\fg fl w b:=by go_enter Tryz.func170,Tryz.ntmps170;go_wp2_with (go_at_call 180;refine(amS s a _).mono ?_;rintro e d ⟨rfl,c⟩);go_ret;exact⟨U,c⟩
def yh(s:St)(x:Nat)(p:ByteArray):Bool×St:=
 if(s x).fw<20 then(Ï,s)else(Ú,(s.fw x<|(s x).fw-20).C x p)
def z8{t u:Tmp}{cs:List È}{d:TypeDesc}(h:s.results=#[.cell t T,.tmp u])(a:q.getD t ā=Å (Ã ⟨b,0,Ä⟩))(c:w.rangeAt b 0 cs)(e:P.underlying T=Ã d)(f:d.isRow=Ú)(g:(P.info? T).map (·.size)=Ã cs.length): (ak s q).run P w=φ (æ #[Ē cs.toArray,q.getD u ā]) w:=by have i:=Ν w b 0 T cs d c e f g;rw[ī]at a;simp only[ak,h];simp[a,asAddr,i]
def Ik:(À.underlying 239).map İ=Ã Ú:=fv
def Cs:(À.info? 239).map (·.size)=Ã 2:=fv
section
variable{E:ja}{lv:È}{s:St}{ls:List (Nat×Int)}
def amU(ok:E.Ok)(a:iF E.r E.T E.C s lv w)(i:w.ownsRow 0 250 2 lv ls.length (kr ls))(f:gM s)(x:Nat)(p:ByteArray)(c:x<8)(j:p.size<=1000000): Ò À 153 #[Å<|Ã ⟨E.r,0,Ä⟩,Â Ë x,Í p] w λe d=>e=Ç (Ñ (yh s x p).1)/\iz E lv ls.length w (yh s x p).2 ls d lv:=by
 have l:=fp.M a;have m:=a.fw c;have n:=fp.C a<|x*18;have o:=(f.fw x).1;have q:=(f.fw x).2;have r:(0:Int)<=(x:Int):=Z
 have t:(x:Int)<8:=Z
 have H:=fi<|iz.gd a i;unfold yh;by_cases g:(s x).fw<20
 .rw[if_pos g];generalize(s x).fw=b at*;go_enter av,ο;go_wp2_with fail;go_ret;exact⟨U,H.out⟩
 .rw[if_neg g];generalize(s x).fw=b at*;go_enter av,ο;go_wp2_with fail;go_region;go_wp2_with fail;go_region_held3 (λ_=>True) (trivial) (first
    |(go_at_call 170;refine(amT p j _).mono ?_;rintro e u ⟨rfl,k⟩;dsimp only;have d:=((H.out.fw ok c (b-20)).fP (fg.iW fl _ 2)).fP k;have v:=d.r.LX c;have y:=fp.C d.r (x*18+1)))
  go_wp2_with fail
  go_ret;exact⟨U,d.LX ok c p⟩
def wx(s:St)(ls:List (Nat×Int))(x y:Nat)(n k:Int):(Int×Bool)×Bool×St×List (Nat×Int):=
 if n<10\/400<n\/(s x).fw<n then((0,Ï),Ï,s,ls)
 else(((gw (s.fw x<|(s x).fw-n) ls x y (n-10) k).r+10,(gw (s.fw x<|(s x).fw-n) ls x y (n-10) k).C),Ú,
  (gw (s.fw x ((s x).fw-n)) ls x y (n-10) k).s.fw x (wu (((gw (s.fw x ((s x).fw-n)) ls x y (n-10) k).s x).fw+(n-((gw (s.fw x ((s x).fw-n)) ls x y (n-10) k).r+10)))),(gw (s.fw x ((s x).fw-n)) ls x y (n-10) k).I)
def amV(a:iF E.r E.T E.C s lv w)(c:w.ownsRow 0 250 2 lv ls.length (kr ls))(x y:Nat)(n k:Int)(d:x<8)(l:0<=n)(m:n<10\/400<n\/(s x).fw<n): Ò À 154 #[Å<|Ã ⟨E.r,0,Ä⟩,Â Ë x,Â Ë y,Â Æ n,Â Æ k] w λe H=>e=Ç (æ #[Ē #[Â Æ 0,Ñ Ï],Ñ Ï])/\iz E lv ls.length w s ls H lv:=by
 have o:=fp.M a;have p:=a.fw d;have q:(0:Int)<=(x:Int):=Z
 have r:(x:Int)<8:=Z
 let⟨t,f,g⟩:=Ì.1 Ik;have H:=fi<|Á (iz.gd a c)<|Á f g;generalize(s x).fw=b at*;by_cases i:n<10
 .go_enter Ņ,ĺ;go_wp2_with fail;have e:=fg.gL fl w #[Â Æ 0,Ñ Ï] 239;apply ð (z8 U U (fp.Y (vs:=[Â Æ 0,Ñ Ï])<|fp.N w [Â Æ 0,Ñ Ï] 239) H.out.2.1 H.out.2.2 Cs) U;exact⟨U,H.out.1.fP e⟩
 .have u:=decide_eq_false i;by_cases j:400<n
  .go_enter Ņ,ĺ;go_wp2_with fail;have e:=fg.gL fl w #[Â Æ 0,Ñ Ï] 239;apply ð (z8 U U (fp.Y (vs:=[Â Æ 0,Ñ Ï])<|fp.N w [Â Æ 0,Ñ Ï] 239) H.out.2.1 H.out.2.2 Cs) U;exact⟨U,H.out.1.fP e⟩
  .have v:=decide_eq_false j;have z:b<n:=Z
   go_enter Ņ,ĺ;go_wp2_with fail;have e:=fg.gL fl w #[Â Æ 0,Ñ Ï] 239;apply ð (z8 U U (fp.Y (vs:=[Â Æ 0,Ñ Ï])<|fp.N w [Â Æ 0,Ñ Ï] 239) H.out.2.1 H.out.2.2 Cs) U;exact⟨U,H.out.1.fP e⟩
def amW(ok:E.Ok)(a:iF E.r E.T E.C s lv w)(m:w.ownsRow 0 250 2 lv ls.length (kr ls))(o:iP w)(g:gM s)(x y:Nat)(n k:Int)(c:x<8)(D:y<8)(F:gq k)(HM:10<=n)(wi:n<=400)(avp:n<=(s x).fw)(hlen:(ls.length:Int)+n<=1000000)(r:zW)(t:r=gw (s.fw x<|(s x).fw-n) ls x y (n-10) k): Ò À 154 #[Å<|Ã ⟨E.r,0,Ä⟩,Â Ë x,Â Ë y,Â Æ n,Â Æ k] w λe u=>e=Ç (æ #[Ē #[Â Æ<|r.r+10,Ñ r.C],Ñ Ú])/\∃v,iz E lv ls.length w (r.s.fw x<|wu<|(r.s x).fw+(n-(r.r+10))) r.I u v:=by
 have gP:=fp.M a;have d1:=a.fw c;have f1:=fp.C a<|x*18;have Yg:(0:Int)<=(x:Int):=Z
 have Bb:(x:Int)<8:=Z
 have b0:=(g.fw x).1;have b1:=(g.fw x).2;have z:gM (s.fw x<|(s x).fw-n):=g.r x ⟨Z,Z⟩;have j:=Mb _ ls x y (n-10) k z c D F Z Z Z;have G:=iz.gd a m;have C:∀W l,iz E lv ls.length w (s.fw x<|(s x).fw-n) ls W l->iP W->Ò À 157 #[Å<|Ã ⟨E.r,0,Ä⟩,Â Ë x,Â Ë y,Â Æ<|n-10,Â Æ k,Â Ë 1] W λe u=>e=Ç (Ē #[Â Æ r.r,Ñ r.C,Â Æ r.M])/\∃v,iz E l ls.length W r.s r.I u v:=λW l I Q=>by rw[t];exact X_ E ok _ l ls x y (n-10) k W I.r I.I Q z c D Z Z F Z
 rw[<-t]at j;have u0:=j.C;have u1:=j.r;let⟨d2,J,K⟩:=Ì.1 Ik;have L:∀i,iP (w.setCell ⟨E.r,i,Ä⟩<|Â Æ<|(s x).fw-n):=λi=>o.r (fg.I (X:=λk=>k=E.r) U _) λq=>o.C a ok.N q.symm;have H:=fi<|Á G<|Á C<|Á L<|Á J<|Á K m;clear a m o g z j G C L J K t;generalize(s x).fw=b at*;have e1:decide (n<10)=Ï:=decide_eq_false Z;have e2:decide (400<n)=Ï:=decide_eq_false Z;have e3:decide (b<n)=Ï:=decide_eq_false Z;generalize S:(r.s x).fw=b2;go_enter Ņ,ĺ;go_wp2_with fail;have M:=(H.out.1.fw ok c<|b-n).fP<|fg.gL fl _ #[Â Æ 0,Ñ Ï] 239;go_at_call 157;refine(H.out.2.1 _ _ M<|(H.out.2.2.1 _).r (fg.gL fl _ _ _) id).mono ?_;rintro e V ⟨rfl,Y,f⟩;have d:fp w.heap.size [Â Æ 0,Ñ Ï] 239 V:=by
  have B:fp w.heap.size [Â Æ 0,Ñ Ï] 239 ((w.setCell ⟨E.r,x*18,Ä⟩<|Â Æ<|b-n).alloc<|Ð #[Â Æ 0,Ñ Ï] 239):=by have:=fp.N (w.setCell ⟨E.r,x*18,Ä⟩<|Â Æ<|b-n) [Â Æ 0,Ñ Ï] 239;simpa using this
  refine B.I f.C ?_;rintro(q|q)
  .omega
  .have:=(H.out.2.2.2.2.2.lt _ q).2;omega
 have m1:=f.r.fw c;have z1:=fp.C f.r<|x*18;have EN:=fp.M f.r;have Tt:=d.M;have c0:=d.r 0 _ U;have c1:=d.r 1 _ U;have y0:=d.C 0;have y1:=d.C 1;have N:=fi<|Á (M.fj f) d;rw[S]at m1;go_wp2_with fail;go_region;go_wp2_with fail;have q1:=N.out.1.fw ok c<|wu<|b2+(n-(r.r+10));have O:=N.out.2.I (fg.I (X:=λk=>k=E.r) (p:=⟨E.r,x*18,Ä⟩) U<|Â Æ<|wu<|b2+(n-(r.r+10))) Z;have q2:=q1.N ((fg.I (X:=λk=>k=w.heap.size) (p:=⟨w.heap.size,0,Ä⟩) U<|Â Æ<|r.r+10).fj<|fg.I (X:=λk=>k=w.heap.size) (p:=⟨w.heap.size,1,Ä⟩) U<|Ñ r.C) (λi q=>by omega) (λi cur q P=>by have B:=O;rw[q,B]at P;cases P) Z;have B:∀W:É,∀P,fg fl W ((W.alloc<|Ð P 245).drew):=λW P=>(fg.gL _ _ _ _).fj<|fg.fY _ _;have hb:=(((O.fR 0<|Â Æ<|r.r+10).fR 1<|Ñ r.C)).I (B _ #[Â Æ<|r.r+10,Ñ r.C,Â Æ r.M]) id;apply ð (z8 U U (fp.Y (vs:=[Â Æ<|r.r+10,Ñ r.C]) hb) H.out.2.2.2.1 H.out.2.2.2.2.1 Cs) U;exact⟨U,Y,q2.fP<|B _ _⟩
end
structure Tx where
 x:Nat
 y:Nat
 n:Int
 k:Int
 r:Int
 C:ByteArray
structure mh(a:Nat)(t:Tx)(w:É):Prop where
 b:∃cs fz,w.heap[a]?=Ã (Ð cs 193 fz)
 r:w.cell? ⟨a,0,Ä⟩=Ã (Â Ë t.x)
 C:w.cell? ⟨a,1,Ä⟩=Ã (Â Ë t.y)
 I:w.cell? ⟨a,2,Ä⟩=Ã (Â Ë t.n)
 M:w.cell? ⟨a,3,Ä⟩=Ã (Â Ë t.k)
 Y:w.cell? ⟨a,4,Ä⟩=Ã (Â Ë t.r)
 N:w.cell? ⟨a,5,Ä⟩=Ã (Í t.C)
structure Tx.Ok(t:Tx):Prop where
 x:t.x<8
 y:t.y<8
 I:0<=t.n
 M:t.n<1000000
 r:0<=t.k
 C:t.k<1000000
 N:t.C.size<=40/\∀c∈t.C.data.toList,yb c=Ú
def mh.G{t:Tx}(h:mh i t w):i<w.heap.size:=á w _ h.r
def mh.S{t:Tx}(h:mh i t w)(k:fg X w u)(b:¬X i):mh i t u:=by let⟨c,d,e⟩:=h.b;exact⟨⟨c,d,by rwa[k.N i h.G b]⟩,k.r h.r b,k.r h.C b,k.r h.I b,k.r h.M b,k.r h.Y b,k.r h.N b⟩
def mh.iY{t:Tx}(h:mh i t w)(c:w.heap[j]?=Ã (Ð d T xJ))(e:T≠193):i≠j:=by rintro rfl;let⟨f,g,b⟩:=h.b;rw[c]at b;cases b;exact e U
def mh.yc{E:ja}{t:Tx}{s c:St}{ls b:List (Nat×Int)}(d:E.T≠193)(h:mh i t w)(e:iF E.r E.T E.C c v w)(f:w.ownsRow 0 250 2 v b.length (kr b))(r:iz E v n w s ls u x):mh i t u:=by
 refine h.S r.C ?_;rintro(q|q)
 .exact h.iY e d q
 .let⟨j,g⟩:=me f q;exact h.iY g A U
def lJ(s:St)(ls:List (Nat×Int))(t:Tx):(Int×Bool)×Bool×St×List (Nat×Int):=
 if t.r=1 then((10,Ú),(yg s t.x t.y t.n).1,(yg s t.x t.y t.n).2,ls)
 else if t.r=2 then((20,Ú),(yh s t.x t.C).1,(yh s t.x t.C).2,ls)
 else wx s ls t.x t.y t.n t.k
def EO(a:0<=h)(b:h<1000000):Æ.wrap h=h:=by show wu h=h;exact S3 a Z
def Il(E:ja)(a:È)(n:Nat)(w:É)(o:(Int×Bool)×Bool×St×List (Nat×Int))(e:ax)(b:É):Prop:=
 e=Ç (æ #[Ē #[Â Æ o.1.1,Ñ o.1.2],Ñ o.2.1])/\∃c,iz E a n w o.2.2.1 o.2.2.2 b c
def amX{E:ja}{s:St}{ls:List (Nat×Int)}(ok:E.Ok)(b:iF E.r E.T E.C s v w)(c:w.ownsRow 0 250 2 v ls.length (kr ls))(f:iP w)(g:gM s)(x y:Nat)(n k:Int)(d:x<8)(i:y<8)(j:gq k)(l:0<=n)(m:(ls.length:Int)+400<=1000000): Ò À 154 #[Å<|Ã ⟨E.r,0,Ä⟩,Â Ë x,Â Ë y,Â Æ n,Â Æ k] w (Il E v ls.length w<|wx s ls x y n k):=by
 unfold wx;by_cases a:n<10\/400<n\/(s x).fw<n
 .rw[if_pos a];exact(amV b c x y n k d l a).mono λe o h=>⟨h.1,v,h.2⟩
 .rw[if_neg a];exact amW ok b c f g x y n k d i j Z Z Z Z _ U
def iz.S{E:ja}{s:St}{ls:List (Nat×Int)}(k:fg fl w W)(r:iz E v n W s ls u x):iz E v n w s ls u x:= ⟨r.r,r.I,(k.S λ_ _=>ę).C r.C λ_ _ q=>q,λj q=>(r.l j q).imp id λe=>ë k.M e,λa b c d f=>r.M a b c (im d k λ_ _=>id) f⟩
section
variable{E:ja}{lv:È}{s:St}{ls:List (Nat×Int)}{a:Nat}{t:Tx}
def Tv{zM:Value}{w1:World}{n:Nat}{s1:St}{Y_:List (Nat×Int)}(r:iz E lv n w s1 Y_ w1 zM)(hB:fp w.heap.size [.int .u64 0,.bool false] 239 w1)(hlb:E.r<w.heap.size)(v0 v1:Value)(hf0:kq v0=true:=by rfl)(hf1:kq v1=true:=by rfl): iz E lv n w s1 Y_ ((w1.setCell ⟨w.heap.size,0,none⟩ v0).setCell ⟨w.heap.size,1,none⟩ v1) zM/\fp w.heap.size [v0,v1] 239 ((w1.setCell ⟨w.heap.size,0,none⟩ v0).setCell ⟨w.heap.size,1,none⟩ v1):=by refine⟨r.N (Y:=λk=>k=w.heap.size) ((fg.I (X:=λk=>k=w.heap.size) (p:=⟨w.heap.size,0,Ä⟩) U v0<|Ø hf0).fj<|fg.I (X:=λk=>k=w.heap.size) (p:=⟨w.heap.size,1,Ä⟩) U v1<|Ø hf1) (λi q=>by omega) (λi cur q hc=> ?_) Z,(hB.fR 0 v0).fR 1 v1⟩;rw[q,hB]at hc;cases hc
def Tw{W:É}{a:St}{b:List (Nat×Int)}{cs:List È}(c:jX=(w.alloc<|Ð cs.toArray T).drewN 1\/jX=w.alloc (Ð cs.toArray T))(d:w.ownsRow 0 250 2 lv ls.length (kr ls))(f:E.r<w.heap.size)(r:iz E lv n jX a b u v):fp w.heap.size cs T u:=by
 have e:fp w.heap.size cs T jX:=by
  rcases c with rfl|rfl
  .exact fp.N w cs T
  .exact fp.N w cs T
 refine e.I r.C ?_;rintro(q|q)
 .omega
 .have:=(d.lt _ q).2;omega
def amY(ok:E.Ok)(S:E.T≠193)(m:iF E.r E.T E.C s lv w)(o:w.ownsRow 0 250 2 lv ls.length (kr ls))(B:iP w)(D:gM s)(c:mh a t w)(d:t.Ok)(hlen:(ls.length:Int)+400<=1000000)(F:t.r=1): Ò À 138 #[Å<|Ã ⟨E.r,0,Ä⟩,Å<|Ã ⟨a,0,Ä⟩] w (Il E lv ls.length w<|lJ s ls t):=by
 have G:=fp.M m;have Z_:=c.G;have V:=c.r;have Y:=c.C;have c2:=c.I;have c3:=c.M;have c4:=c.Y;have c5:=c.N;have hn:=EO d.I d.M;have hk:=EO d.r d.C;let⟨d2,I,J⟩:=Ì.1 Ik;have L:=fi<|Á I J;clear I J;have g:=(fg.gL fl w #[Â Æ 0,Ñ Ï] 239).fj<|fg.fY _ _;have u:=m.nY g id;have v:=im o g λ_ _=>id;have b:=c.S g id;have RA:=B.r g id;rw[F]at c4;have M:lJ s ls t=((10,Ú),(yg s t.x t.y t.n).1,(yg s t.x t.y t.n).2,ls):=by unfold lJ;rw[if_pos F]
 rw[M];have C:=amL (ls:=ls) ok u v D t.x t.y t.n d.x d.y d.I (by have:=d.M;omega);have N:∀(l:É) (O:St) (P:List (Nat×Int)) (Q:È),iz E lv ls.length _ O P l Q->mh a t l:=λl O P Q r=>mh.yc S b u v r;have H:=fi<|Á C<|Á o N;clear C N m o B D c d u v RA M;go_enter Ÿ,ť;go_wp2_with fail;have HS:=fi<|Á b.r<|Á b.C<|Á b.I<|Á b.M b.N;clear V Y c2 c3 c5 b;refine mE (λe=>e.cell? ⟨a,0,Ä⟩=Ã (Â Ë t.x)/\e.cell? ⟨a,1,Ä⟩=Ã (Â Ë t.y)/\e.cell? ⟨a,2,Ä⟩=Ã (Â Ë t.n)/\e.cell? ⟨a,3,Ä⟩=Ã (Â Ë t.k)/\e.cell? ⟨a,5,Ä⟩=Ã (Í t.C)) [22] fv ?_;iterate 20 apply tk HS.out
 apply gG 20;intro K f;go_simp;go_at_call 152;apply H.out.1.mono;rintro e l ⟨rfl,z⟩;dsimp only;have b:=H.out.2.2 _ _ _ _ z;apply f.out _ _ λ_=>⟨b.r,b.C,b.I,b.M,b.N⟩;clear f K;have i:=Tw (W:=w) (cs:=[Â Æ 0,Ñ Ï]) (Ø U) H.out.2.1 G z;have e0:=i.r 0 _ U;have e1:=i.r 1 _ U;have y0:=i.C 0;have y1:=i.C 1;have j:=b.S ((fg.I (X:=λk=>k=w.heap.size) (p:=⟨w.heap.size,0,Ä⟩) U<|Â Æ 10).fj<|fg.I (X:=λk=>k=w.heap.size) (p:=⟨w.heap.size,1,Ä⟩) U<|Ñ Ú) Z;apply gG 21;intro K f;go_simp;apply f.out _ _ λ_=>⟨j.r,j.C,j.I,j.M,j.N⟩;clear f K;apply gG 22;intro K f;go_simp;apply f.out _ _ λq=>absurd ft q;clear f K;try simp only[Ĵ,Õ,ã,ä]
 refine mg fv ?_ _;go_wp2_with fail;let⟨q,q2⟩:=Tv (iz.S g z) i G (Â Æ 10)<|Ñ Ú;apply ð (z8 U U (fp.Y (tl:=[]) (vs:=[Â Æ 10,Ñ Ú]) q2) L.out.1 L.out.2 Cs) U;exact⟨U,lv,q⟩
def amZ(ok:E.Ok)(S:E.T≠193)(m:iF E.r E.T E.C s lv w)(o:w.ownsRow 0 250 2 lv ls.length (kr ls))(B:iP w)(D:gM s)(c:mh a t w)(f:t.Ok)(hlen:(ls.length:Int)+400<=1000000)(F:t.r=2): Ò À 138 #[Å<|Ã ⟨E.r,0,Ä⟩,Å<|Ã ⟨a,0,Ä⟩] w (Il E lv ls.length w<|lJ s ls t):=by
 have G:=fp.M m;have Z_:=c.G;have V:=c.r;have Y:=c.C;have c2:=c.I;have c3:=c.M;have c4:=c.Y;have c5:=c.N;have hn:=EO f.I f.M;have hk:=EO f.r f.C;let⟨d2,I,J⟩:=Ì.1 Ik;have L:=fi<|Á I J;clear I J;have g:=(fg.gL fl w #[Â Æ 0,Ñ Ï] 239).fj<|fg.fY _ _;have u:=m.nY g id;have v:=im o g λ_ _=>id;have b:=c.S g id;have RA:=B.r g id;rw[F]at c4;have M:lJ s ls t=((20,Ú),(yh s t.x t.C).1,(yh s t.x t.C).2,ls):=by unfold lJ;rw[if_neg Z,if_pos F]
 rw[M];have C:=amU (ls:=ls) ok u v D t.x t.C f.x (by have:=f.N.1;omega);have N:∀(l:É) (O:St) (P:List (Nat×Int)) (Q:È),iz E lv ls.length _ O P l Q->mh a t l:=λl O P Q r=>mh.yc S b u v r;have H:=fi<|Á C<|Á o N;clear C N m o B D c f u v RA M;go_enter Ÿ,ť;go_wp2_with fail;have HS:=fi<|Á b.r<|Á b.C<|Á b.I<|Á b.M b.N;clear V Y c2 c3 c5 b;refine mE (λd=>d.cell? ⟨a,0,Ä⟩=Ã (Â Ë t.x)/\d.cell? ⟨a,1,Ä⟩=Ã (Â Ë t.y)/\d.cell? ⟨a,2,Ä⟩=Ã (Â Ë t.n)/\d.cell? ⟨a,3,Ä⟩=Ã (Â Ë t.k)/\d.cell? ⟨a,5,Ä⟩=Ã (Í t.C)) [15] fv ?_;iterate 13 apply tk HS.out
 apply gG 13;intro K d;go_simp;go_at_call 153;apply H.out.1.mono;rintro e l ⟨rfl,z⟩;dsimp only;have b:=H.out.2.2 _ _ _ _ z;apply d.out _ _ λ_=>⟨b.r,b.C,b.I,b.M,b.N⟩;clear d K;have i:=Tw (W:=w) (cs:=[Â Æ 0,Ñ Ï]) (Ø U) H.out.2.1 G z;have e0:=i.r 0 _ U;have e1:=i.r 1 _ U;have y0:=i.C 0;have y1:=i.C 1;have j:=b.S ((fg.I (X:=λk=>k=w.heap.size) (p:=⟨w.heap.size,0,Ä⟩) U<|Â Æ 20).fj<|fg.I (X:=λk=>k=w.heap.size) (p:=⟨w.heap.size,1,Ä⟩) U<|Ñ Ú) Z;apply gG 14;intro K d;go_simp;apply d.out _ _ λ_=>⟨j.r,j.C,j.I,j.M,j.N⟩;clear d K;apply gG 15;intro K d;go_simp;apply d.out _ _ λq=>absurd ft q;clear d K;try simp only[Ĵ,Õ,ã,ä]
 refine mg fv ?_ _;go_wp2_with fail;let⟨q,q2⟩:=Tv (iz.S g z) i G (Â Æ 20)<|Ñ Ú;apply ð (z8 U U (fp.Y (tl:=[]) (vs:=[Â Æ 20,Ñ Ú]) q2) L.out.1 L.out.2 Cs) U;exact⟨U,lv,q⟩
def am0(ok:E.Ok)(Y:E.T≠193)(m:iF E.r E.T E.C s lv w)(p:w.ownsRow 0 250 2 lv ls.length (kr ls))(D:iP w)(F:gM s)(d:mh a t w)(c:t.Ok)(hlen:(ls.length:Int)+400<=1000000)(G:t.r≠1)(I:t.r≠2): Ò À 138 #[Å<|Ã ⟨E.r,0,Ä⟩,Å<|Ã ⟨a,0,Ä⟩] w (Il E lv ls.length w<|lJ s ls t):=by
 have J:=fp.M m;have Z_:=d.G;have c0:=d.r;have c1:=d.C;have c2:=d.I;have c3:=d.M;have c4:=d.Y;have c5:=d.N;have hn:=EO c.I c.M;have hk:=EO c.r c.C;let⟨d2,L,M⟩:=Ì.1 Ik;have N:=fi<|Á L M;clear L M;have g:=(fg.gL fl w #[Â Æ 0,Ñ Ï] 239).fj<|fg.fY _ _;have u:=m.nY g id;have v:=im p g λ_ _=>id;have b:=d.S g id;have O:=D.r g id;have z1:(t.r==1)=Ï:=by rwa[beq_eq_false_iff_ne]
 have z2:(t.r==2)=Ï:=by rwa[beq_eq_false_iff_ne]
 have P:lJ s ls t=wx s ls t.x t.y t.n t.k:=by unfold lJ;rw[if_neg G,if_neg I]
 rw[P];have C:=amX (ls:=ls) ok u v O F t.x t.y t.n t.k c.x c.y ⟨c.r,by have:=c.C;omega⟩ c.I hlen;have Q:∀(j:É) (S:St) (V:List (Nat×Int)) (l:È),iz E lv ls.length _ S V j l->mh a t j:=λj S V l r=>mh.yc Y b u v r;have H:=fi<|Á C<|Á p Q;clear C Q m p D F d c u v O P;generalize wx s ls t.x t.y t.n t.k=o at*;go_enter Ÿ,ť;go_wp2_with fail;have z:=fi<|Á b.r<|Á b.C<|Á b.I<|Á b.M b.N;clear c0 c1 c2 c3 c5 b;refine mE (λe=>e.cell? ⟨a,0,Ä⟩=Ã (Â Ë t.x)/\e.cell? ⟨a,1,Ä⟩=Ã (Â Ë t.y)/\e.cell? ⟨a,2,Ä⟩=Ã (Â Ë t.n)/\e.cell? ⟨a,3,Ä⟩=Ã (Â Ë t.k)/\e.cell? ⟨a,5,Ä⟩=Ã (Í t.C)) [26,27] fv ?_;iterate 23 apply tk z.out
 apply gG 23;intro K f;go_simp;go_at_call 154;apply H.out.1.mono;rintro e j ⟨rfl,l,B⟩;dsimp only;have b:=H.out.2.2 _ _ _ _ B;apply f.out _ _ λ_=>⟨b.r,b.C,b.I,b.M,b.N⟩;clear f K;have i:=Tw (W:=w) (cs:=[Â Æ 0,Ñ Ï]) (Ø U) H.out.2.1 J B;have e0:=i.r 0 _ U;have e1:=i.r 1 _ U;have y0:=i.C 0;have y1:=i.C 1;have X:=Á b.r<|Á b.C<|Á b.I<|Á b.M b.N;have z:=fi X;clear X b;iterate 2 apply tk z.out
 apply gG 26;intro K f;go_simp;apply f.out _ _ λq=>absurd ft q;clear f K;apply gG 27;intro K f;go_simp;apply f.out _ _ λq=>absurd ft q;clear f K;try simp only[Ĵ,Õ,ã,ä]
 refine mg fv ?_ _;go_wp2_with fail;let⟨q,q2⟩:=Tv (iz.S g B) i J (Â Æ o.1.1)<|Ñ o.1.2;apply ð (z8 U U (fp.Y (tl:=[]) (vs:=[Â Æ o.1.1,Ñ o.1.2]) q2) N.out.1 N.out.2 Cs) U;exact⟨U,l,q⟩
def Z'(ok:E.Ok)(b:E.T≠193)(c:iF E.r E.T E.C s lv w)(d:w.ownsRow 0 250 2 lv ls.length (kr ls))(e:iP w)(f:gM s)(g:mh a t w)(h:t.Ok)(i:(ls.length:Int)+400<=1000000): Ò À 138 #[Å<|Ã ⟨E.r,0,Ä⟩,Å<|Ã ⟨a,0,Ä⟩] w (Il E lv ls.length w<|lJ s ls t):=by
 by_cases j:t.r=1
 .exact amY ok b c d e f g h i j
 .by_cases k:t.r=2
  .exact amZ ok b c d e f g h i k
  .exact am0 ok b c d e f g h i j k
end
def aac:∀(d a b c:List È) (k:Nat),b.length=d.length->(d.zipIdx k).foldl (λ(q:Array È) (p:Value×Nat)=>q.setIfInBounds (a.length-k+p.2) p.1) (a++b++c).toArray=(a++d++c).toArray\/a.length<k
 |[],a,b,c,k,h=>by have:b=[]:=ß (by simpa using h);subst this;exact Ø U
 |v::r,a,b,c,k,h=>by
  rcases Ů a.length k with q|q
  .exact Ù q
  .match b,h with
   |x::b,h=>
    apply Ø;have p:=(aac r (a++[v]) b c (k+1)<|by simpa using h).resolve_right (by simp;omega);simp only[List.zipIdx_cons,List.foldl_cons];rw[show a.length-k+k=a.length by omega,Õ,show(a++x::b++c).set a.length v=a++[v]++b++c by simp];rw[show(a++[v]).length-(k+1)=a.length-k by simp]at p;rw[p];simp
theorem Mc{place:Nat->Option (Nat×Nat)}{pre old suf:List È}{rest:List (Nat×Value)}(a:place i=Ã (pre.length,n))(b:v.cells.size=n)(c:old.length=n): ı place (pre++old++suf).toArray ((i,v)::rest)=ı place (pre++v.cells.toList++suf).toArray rest:=by rw[Instr.fill.eq_2];simp only[a];rw[if_neg (by simp only[ć,Ó,Bool.or_eq_true,decide_eq_true_eq,not_or];omega)];have:=(aac v.cells.toList pre old suf 0<|by rw[c,š,b]).resolve_right Z;simp only[Nat.sub_zero]at this;grind [Array.toList_zipIdx]
def am1:((À.info? 136).bind (·.zero)).map (λz=>z.cells.toList.drop 144)=Ã [Ê Ä 0 0]:=fv
def am2:((À.info? 136).bind (·.zero)).map (λz=>z.cells.size)=Ã 145:=fv
def aad:((À.info? 139).bind (·.zero)).map (λz=>z.cells.toList.drop 145)=Ã [Â Ë 0,Ê Ä 0 0]:=fv
def aae:((À.info? 139).bind (·.zero)).map (λz=>z.cells.size)=Ã 147:=fv
def Md(P:aF)(t:õ):Option (List<|Nat×Nat):=match P.underlying t with
 |some (.struct fs)=>fs.toList.mapM λf=>(P.info? f.type).map λi=>(f.offset,i.size)
 |_=>Ä
def am3:Md À 136=Ã [(0,144),(144,1)]:=fv
def aaf:Md À 139=Ã [(0,145),(145,1),(146,1)]:=fv
def Ty{c:List (Nat×Nat)}(a:Md P t=Ã c)(b:(P.info? t).bind (·.zero)=Ã z)(e:List (Nat×Value)):P.built t e=ı (c.toArray[·]?) z.cells e:=by
 unfold Md at a;unfold Program.built;cases f:P.info? t with
 |none=>rw[f]at b;cases b
 |some h=>
  rw[f]at b;have b:h.zero=Ã z:=b;cases g:P.underlying t with
  |none=>rw[g]at a;cases a
  |some d=>
   rw[g]at a;cases d<;>first|(cases a;done)|skip
   simp only at a;simp only[b,a]
theorem Tz{suf:List È}(h:((P.info? t).bind (·.zero)).map (λz=>z.cells.toList.drop n)=Ã suf)(a:((P.info? t).bind (·.zero)).map (λz=>z.cells.size)=Ã m)(c:n<=m):∃z old,(P.info? t).bind (·.zero)=Ã z/\old.length=n/\z.cells=(old++suf).toArray:=by
 let⟨z,b,d⟩:=Ì.1 h;rw[b]at a;have a:z.cells.size=m:=by injection a
 refine⟨z,z.cells.toList.take n,b,by rw[List.length_take,š,a];omega,?_⟩;grind
theorem am4(h:l.length=144):À.built 136 [(0,Ē l.toArray)]=Ã (l++[Ê Ä 0 0]).toArray:=by let⟨z,d,a,b,c⟩:=Tz am1 am2 A;rw[Ty am3 a,c];have:=Mc (place:=λi=>[(0,144),(144,1)].toArray[i]?) (pre:=[]) (suf:=[Ê Ä 0 0]) (i:=0) (v:=Ē l.toArray) (rest:=[]) U (by show l.toArray.size=144;simp[h]) b;simpa[ı,ğ]using this
theorem am5(h:l.length=145)(a:v.cells=#[v]):À.built 139 [(0,Ē l.toArray),(1,v)]=Ã (l++[v,Ê Ä 0 0]).toArray:=by let⟨z,g,c,d,f⟩:=Tz aad aae A;rw[Ty aaf c,f];have b:=Mc (place:=λi=>[(0,145),(145,1),(146,1)].toArray[i]?) (pre:=[]) (suf:=[Â Ë 0,Ê Ä 0 0]) (i:=0) (v:=Ē l.toArray) (rest:=[(1,v)]) U (by show l.toArray.size=145;simp[h]) d;simp only[Ξ]at b;rw[b];have e:(Ē l.toArray).cells.toList=l:=rfl;rw[e];rw[show(l++[Â Ë 0,Ê Ä 0 0])=l++[Â Ë 0]++[Ê Ä 0 0] by simp,(Mc (place:=λi=>[(0,145),(145,1),(146,1)].toArray[i]?) (old:=[Â Ë 0]) (suf:=[Ê Ä 0 0]) (i:=1) (rest:=[]) (by show Ã (145,1)=Ã (l.length,1);rw[h]) (by rw[a];rfl) U)];simp[ı,a]
def iA(s:St):List È:=(ċ 144).map<|qp s
def sf(s:St):(iA s).length=144:=by simp[iA]
theorem Aa(s:St)(lv:È):jo s lv=iA s++[lv]:=by unfold jo iA;grind [Ŏ,List.map_congr_left,rf,LW]
def aag(a:o.op=.box T qQ)(b:xX qQ=Ē d):(Ĥ xX o).run P w=φ (.value<|Å<|Ã ⟨w.heap.size,0,Ä⟩) (w.alloc<|Ð d T):=by unfold Ĥ;simp[a,b,Instr.box,newVar,newRow,ğ]
theorem TA{a:Array (Nat×Operand)}(b:o.op=Χ T a)(h:P.built T (a.map λ(i,x)=>(i,xX x)).toList=Ã d):(Ĥ xX o).run P w=φ (.value<|Ē d) w:=by have:=run_build w T (a.map λ(i,x)=>(i,xX x)) d h;unfold Ĥ;simp_all
theorem TB(a:o.op=Χ 136 #[(0,qQ)])(b:xX qQ=Ē l.toArray)(c:l.length=144):(Ĥ xX o).run À w=φ (.value<|Ē (l++[Ê Ä 0 0]).toArray) w:=by grind [TA,am4]
theorem am6{y:ŭ}(a:o.op=Χ 139 #[(0,qQ),(1,y)])(b:xX qQ=Ē l.toArray)(c:xX y=v)(d:l.length=145)(e:v.cells=#[v]):(Ĥ xX o).run À w=φ (.value<|Ē (l++[v,Ê Ä 0 0]).toArray) w:=by apply TA a;grind [am5]
def TC:(À.underlying 132).map İ=Ã Ú:=fv
def aah:(À.info? 132).map (·.size)=Ã 144:=fv
structure mF(vb:Nat)(s:St)(h:Int)(w:É):Prop where
 C:w.rangeAt vb 0 (iA s)
 h:w.cell? ⟨vb,145,Ä⟩=Ã (Â Ë h)
def mF.r{s:St}(a:mF i s h w)(k:fg X w u)(b:¬X i):mF i s h u:= ⟨λj v c=>k.r (a.C j v c) b,k.r a.h b⟩
def uX(l:List (Int×Bool)):List È:=l.flatMap λp=>[Â Æ p.1,Ñ p.2]
structure NX(B:Nat)(h:Int)(lv uv:È)(s:St)(ls:List (Nat×Int))(us:List (Int×Bool))(w0 w:É):Prop where
 r:iF B 139 [Â Ë h,uv] s lv w
 C:w.ownsRow 0 250 2 lv ls.length (kr ls)
 I:w.ownsRow 0 239 2 uv us.length (uX us)
 M:fg fl w0 w
 N:w0.heap.size<=B
 S:∀j,lv.ownBlock=Ã j->w0.heap.size<=j
 Y:∀j,uv.ownBlock=Ã j->w0.heap.size<=j
def NX.jd(w:É)(s:St)(h:Int):NX w.heap.size h (Ê Ä 0 0) (Ê Ä 0 0) s [] [] w ((Ă w<|Ð (iA s++[Ê Ä 0 0,Â Ë h,Ê Ä 0 0]).toArray 139).drew):=by refine⟨?_,ĉ _ _ _ _,ĉ _ _ _ _,(fg.gL _ _ _ _).fj<|fg.fY _ _,Þ _,(λj q=>nomatch q),(λj q=>nomatch q)⟩;unfold iF;rw[Aa,show iA s++[Ê Ä 0 0]++[Â Ë h,Ê Ä 0 0]=iA s++[Ê Ä 0 0,Â Ë h,Ê Ä 0 0] by simp];exact fp.N w _ 139
noncomputable def Im:ŏ:=(Tryz.f99.body.bind kB).getD ĵ
def Ab(c m B:Nat)(a:Option ă)(n b:Nat)(i:Int)(u:Nat->È):é:=⟨#[Å<|Ã ⟨c,0,Ä⟩,Â Ë m,Ê a n b,ā,ā,ā,Å Ä,Å<|Ã ⟨B,0,Ä⟩,u 8,u 9,u 10,u 11,u 12,u 13,u 14,u 15,u 16,u 17,u 18,u 19,u 20,u 21,u 22,u 23,u 24,Ê a n b,Â Ë n,Â Ë i,u 28,u 29,u 30,u 31,u 32,u 33,u 34,u 35,u 36,u 37,u 38,u 39,u 40,u 41,u 42,u 43,u 44,u 45,u 46,u 47,u 48,u 49,u 50,u 51,u 52,u 53,u 54,u 55,u 56,u 57,u 58,u 59,u 60,u 61,u 62,u 63,u 64,u 65,u 66,u 67,u 68,u 69,u 70,u 71,u 72,u 73,u 74,u 75,u 76,u 77,u 78,u 79,u 80,u 81,u 82],[]⟩
def Io(b m B:Nat)(c:Option ă)(n d:Nat)(i:Int)(a:é):Prop:=∃u,a=Ab b m B c n d i u
def QN(X Y:é->É->Prop):aT->é->É->Prop
 |.exit 0,a,w=>X a w
 |.ret,a,w=>Y a w
 |_,_,_=>False
section
variable{lv:È}{s d:St}{ls f:List (Nat×Int)}{c:List (Int×Bool)}
def TD(j:Nat)(h:Int)(z:È):ja:=⟨j,139,[Â Ë h,z]⟩
def TF(j:Nat)(h:Int)(z:È):(TD j h z).Ok:=⟨by show(139:Nat)≠23;decide,by show(139:Nat)≠250;decide,by show(139:Nat)≠276;decide,by show(139:Nat)≠294;decide,by show(139:Nat)≠245;decide,by show(139:Nat)≠239;decide⟩
def NX.fP(x:NX j h lv z s ls c u w)(k:fg fl w W):NX j h lv z s ls c u W:= ⟨x.r.nY k id,im x.C k λ_ _=>id,im x.I k λ_ _=>id,x.M.fj k,x.N,x.S,x.Y⟩
def NX.yc(x:NX j h lv z s ls c u w)(r:iz (TD j h z) lv ls.length w d f W v):NX j h v z d f c u W:=by
 have g:=x.r;refine⟨r.r,r.I,im x.I r.C ?_,x.M.C r.C ?_,x.N,λa q=> ?_,x.Y⟩
 .rintro a i (q|q)
  .let⟨k,b⟩:=me x.I i;have e:a=j:=q;rw[e,g]at b;cases b
  .exact alu x.I x.C A i q
 .rintro i b (q|q)
  .have:=x.N;have e:i=j:=q;omega
  .have:=x.S i q;omega
 .rcases r.l a q with e|e
  .exact x.S a e
  .exact ë x.M.M e
def NX.fw(x:NX j h lv z s ls c u w)(a:i<8)(v:Int):NX j h lv z (s.fw i v) ls c u (w.setCell ⟨j,i*18,Ä⟩<|Â Æ v):= x.yc<|(iz.gd (E:=TD j h z) x.r x.C).fw (TF _ _ _) a v
def aai(c:List (Int×Bool)):∀u∈uX c,kq u=Ú:=λu a=>by unfold uX at a;let⟨e,_,h⟩:=Α.1 a;simp at h;rcases h with rfl|rfl<;>rfl
def am7:(À.info? 239).map (λi=>(i.zero,i.size,i.bytes))=Ã (Ã<|Ē #[Â Æ 0,Ñ Ï],2,16):=fv
def NX.G(x:NX j h lv z s ls c u w):w.cell? ⟨j,146,Ä⟩=Ã z:= fp.r x.r 146 _<|by rw[ü (by rw[mQ];omega),mQ];rfl
def NX.am8{g:Int}(x:NX j h lv z s ls c u w)(a:qn w 0 239 2 z c.length (uX c) 1 [Â Æ g,Ñ yQ] v W): NX j h lv z s ls c u W/\NX j h lv v s ls (c++[(g,yQ)]) u (W.setCell ⟨j,146,Ä⟩ v):=by
 have l:∀{i:Nat} {m:Array È} {T:õ},z.ownBlock=Ã i->w.heap[i]?=Ã (Ð m T (0,0))->T=239:=λ{i m T} q hc=>by let⟨k,e⟩:=me x.I q;rw[hc]at e;cases e;rfl
 have n:=x.M.C a.r λi t q=>by have:=x.Y i q;omega
 have d:NX j h lv z s ls c u W:=⟨x.r.nY a.r λq=>absurd (l q x.r) A,im x.C a.r (λb q r=>by let⟨k,e⟩:=me x.C q;exact absurd (l r e) A),a.I _ _ _ x.I λ_=>Þ _,n,x.N,x.S,x.Y⟩;have o:W.ownsRow 0 239 2 v (c++[(g,yQ)]).length (uX<|c++[(g,yQ)]):=by have:=a.fx;rwa[show uX c++[Â Æ g,Ñ yQ]=uX (c++[(g,yQ)]) by simp[uX],show c.length+1=(c++[(g,yQ)]).length by simp]at this
 have f:fg (λk=>k=j) W (W.setCell ⟨j,146,Ä⟩ v):=fg.I (X:=λk=>k=j) (p:=⟨j,146,Ä⟩) U v<|Ù<|fp.G d.r;have k:=fp.fR d.r 146 v;rw[List.set_append_right _ _ (by rw[mQ];omega),mQ]at k;refine⟨d,k,im d.C f λb q r=>jE d.C d.r A (by rw[q,r]),im o f λb q r=>jE o d.r A (by rw[q,r]),n.C f λi t q=>by have:=x.N;omega,x.N,x.S,λb q=> ?_⟩;rcases a.C with e|e
 .exact x.Y b<|by rwa[<-e]
 .rw[e]at q;cases q;exact x.M.M
end
section
variable{X:é->É->Prop}{cp:Nat}{lv:È}{s:St}{ls:List (Nat×Int)}{c:List (Int×Bool)}
def am9(d:Nat->È)(x:NX j h lv z s ls c u w)(i:Int)(e:i=n) (f:∀a,Io b m j O n cp i a->X a w): Î À Im (Exit.then K<|QN X H) (Ab b m j O n cp i d) w:=by
 unfold Ab;conv=>arg 2;whnf
 subst e;go_wp2_with fail;exact f _ (gy _)
def ana(d:Nat->È)(x:NX j h lv z s ls c u w)(i:Int)(f:Nat)(p:i=f)(P:f<n)(Q:n<=1000)(tb l a:Nat)(q:O=Ã ⟨tb,l,Ä⟩)(S:w.cell? ⟨tb,l+f,Ä⟩=Ã (Å<|Ã ⟨a,0,Ä⟩))(t:Tx)(r:mh a t w)(v:t.Ok)(y:iP w)(B:gM s)(D:(ls.length:Int)+400<=1000000)(g:Int)(E:Bool)(F:St)(G:List (Nat×Int))(I:lJ s ls t=((g,E),Ï,F,G)) (J:∀a o,a.tmps.getD 6 ā=Å Ä->a.defers=[]->fg fl u o->H a o): Î À Im (Exit.then K<|QN X H) (Ab b m j O n cp i d) w:=by
 unfold Ab;conv=>arg 2;whnf
 subst p q;have C:=Z' (TF _ _ _) (by show(139:Nat)≠193;decide) x.r x.C y B r v D;rw[I]at C;have T:(0:Int)<=(f:Int):=Z
 have V:(f:Int)<(n:Int):=Z
 have W:=fp.M x.r;have k:=fi<|Á x C;go_wp2_with fail;go_at_call 138;apply k.out.2.mono;rintro e Y ⟨rfl,zM,L⟩;have M:=k.out.1.yc L;have N:=fi M;go_wp2_with fail;exact J _ _ U U<|N.out.M.fj<|fg.gL _ _ _ _
def anb(d:Nat->È)(x:NX j h lv z s ls c u w)(i:Int)(f:Nat)(V:i=f)(hj:f<n)(hn:n<=1000)(tb M a:Nat)(W:O=Ã ⟨tb,M,Ä⟩)(hc:w.cell? ⟨tb,M+f,Ä⟩=Ã (Å<|Ã ⟨a,0,Ä⟩))(t:Tx)(Y:mh a t w)(Ls:t.Ok)(hr:iP w)(hs:gM s)(hlen:(ls.length:Int)+400<=1000000)(g:Int)(l:Bool)(y:St)(N:List (Nat×Int))(ho:lJ s ls t=((g,l),Ú,y,N))(P:m<8)(E:gM y)(xt:0<=g)(wv:g<=1000)(K0:c.length<=1000) (o:∀a r jD TG,Io b m j O n cp (i+1) a->NX j h jD TG (y.fw m<|wu<|(y m).fw+g) N (c++[(g,l)]) u r->K a r): Î À Im (Exit.then K<|QN X H) (Ab b m j O n cp i d) w:=by
 unfold Ab;conv=>arg 2;whnf
 subst V W;have C:=Z' (TF _ _ _) (by show(139:Nat)≠193;decide) x.r x.C hr hs Y Ls hlen;rw[ho]at C;have e1:(0:Int)<=(f:Int):=Z
 have e2:(f:Int)<(n:Int):=Z
 have avq:=fp.M x.r;have k:=fi<|Á x C;go_wp2_with fail;go_at_call 138;apply k.out.2.mono;rintro e p ⟨rfl,zM,r1⟩;have B:=k.out.1.yc r1;have m1:=B.r.fw P;have z1:=fp.C B.r<|m*18;have EN:=fp.M B.r;have b0:=(E.fw m).1;have b1:=(E.fw m).2;have hub:z.ownBlock≠Ã p.heap.size:=λq=>by have:=(B.I.lt _ q).2;omega
 have HX:=fi<|Á B E;generalize hb:(y m).fw=b at*;have hm0:(0:Int)<=(m:Int):=Z
 have hm1:(m:Int)<8:=Z
 go_wp2_with fail
 go_region
 have hx8:=(HX.out.1.fw P<|wu<|b+g).fP<|(fg.gL fl _ #[Â Æ g,Ñ l] 239).fj<|fg.fY _ _;have hU:fp p.heap.size [Â Æ g,Ñ l] 239 (Č<|Ă (p.setCell ⟨j,m*18,Ä⟩<|Â Æ<|wu<|b+g)<|Ð #[Â Æ g,Ñ l] 239):=by
  have:=fp.N (p.setCell ⟨j,m*18,Ä⟩<|Â Æ<|wu<|b+g) [Â Æ g,Ñ l] 239;have v:fp p.heap.size [Â Æ g,Ñ l] 239 (Ă (p.setCell ⟨j,m*18,Ä⟩<|Â Æ<|wu<|b+g)<|Ð #[Â Æ g,Ñ l] 239):=by simpa using this
  exact v
 go_wp2_with fail
 change Î À _ _ _ (Č<|Ă (p.setCell ⟨j,m*18,Ä⟩<|Â Æ<|wu<|b+g)<|Ð #[Â Æ g,Ñ l] 239);generalize Č (Ă (p.setCell ⟨j,m*18,Ä⟩<|Â Æ<|wu<|b+g)<|Ð #[Â Æ g,Ñ l] 239)=w8 at*;generalize p.heap.size=ub at*;have Q:=hx8.fP<|fg.fY fl w8;have F:=hU.I (fg.fY fl w8) id;let⟨i0,hi0,Ii,anc,ane⟩:=í am7;have D:=fi<|Á hi0<|Á Ii<|Á anc ane;have HS:=fi<|Á Q.G<|Á (F.r 0 _ rfl)<|F.r 1 _ rfl;have S:=fi<|Á Q F;refine mE (λr=>r.cell? ⟨j,146,Ä⟩=Ã z/\r.cell? ⟨ub,0,Ä⟩=Ã (Â Æ g)/\r.cell? ⟨ub,1,Ä⟩=Ã (Ñ l)) [10] fv ?_;iterate 6 apply tk HS.out
 have G:=S.out.1.fP<|fg.gL fl _ #[Â Æ g,Ñ l] 239;have I:=S.out.2.I (fg.gL fl _ #[Â Æ g,Ñ l] 239) id;refine gG 6 ?_;intro K o;go_simp;refine o.out _ _ (λ_=>⟨G.G,I.r 0 _ U,I.r 1 _ U⟩) ?_;refine gG 7 ?_;intro K o;refine L3 (hfl:=Ù ⟨ft,λd v=>(ú.1 v).elim (aai c d) (λq=>by simp at q;rcases q with rfl|rfl<;>rfl),by simp[kq,ğ]⟩) gh _ _ 137 gh Tryz.underlying137 D.out.1 D.out.2.1 D.out.2.2.1 D.out.2.2.2 U gh G.I ⟨_,0,Ä⟩ [Â Æ g,Ñ l] gh Z U (Ŵ _ _ _ _) (λd v=>by simp at v;rcases v with rfl|rfl<;>rfl) (by unfold Ą;omega) Z (â _) ?_;intro uv1 w9 J;obtain⟨a2,cp2,rfl⟩:=jN J.fx;let⟨L,n2⟩:=G.am8 J;have v:=I.I J.r hub;refine o.out _ _ (λ_=>⟨L.G,v.r 0 _ U,v.r 1 _ U⟩) ?_;have T:=L.G;have fz:=fp.C L.r 146;refine gG 8 ?_;intro K o;go_simp;refine o.out _ _ (λ_=>⟨T,v.r 0 _ U,v.r 1 _ U⟩) ?_;refine gG 9 ?_;intro K o;go_simp;refine o.out _ _ (λ_=>⟨T,v.r 0 _ U,v.r 1 _ U⟩) ?_;refine gG 10 ?_;intro K o;go_simp;refine o.out _ _ (λq=>absurd ft q) ?_;refine mg fv ?_ _;go_wp2_with fail;subst hb;exact o _ _ _ _ (gy _) n2
end
def ri(m:Nat):St->List (Nat×Int)->List (Int×Bool)->List Tx->Option (St×List (Nat×Int)×List (Int×Bool))
 |s,ls,us,[]=>Ã (s,ls,us)
 |s,ls,us,t::r=>if(lJ s ls t).2.1 then ri m ((lJ s ls t).2.2.1.fw m<|wu<|((lJ s ls t).2.2.1 m).fw+(lJ s ls t).1.1) (lJ s ls t).2.2.2 (us++[(lJ s ls t).1]) r else Ä
def anf{s:St}(b:gM s)(x y:Nat)(c:0<=h):gM (yg s x y h).2:=by
 unfold yg;split
 .exact b
 .rename_i a;have:=(b.fw x).2;exact(b.r x ⟨Z,Z⟩).r y<|zY _
def ang{s:St}(a:gM s)(x:Nat)(e:B.size<=40/\∀c∈B.data.toList,yb c=Ú):gM (yh s x B).2:=by
 unfold yh;split
 .exact a
 .rename_i h;have:=(a.fw x).2;have d:=a.r x (b:=(s x).fw-20) ⟨Z,Z⟩;exact d.fR (d.fw x) (d.C x) e
structure aaj(C:List (Nat×Int))(o:(Int×Bool)×Bool×St×List (Nat×Int)):Prop where
 g0:0<=o.1.1
 r:o.1.1<=400
 s:gM o.2.2.1
 C:o.2.2.2.length<=C.length+400
def anh{s:St}(f:gM s){d:List (Nat×Int)}(g:i<8)(l:j<8)(m:gq c)(p:(d.length:Int)+400<=1000000):aaj d (wx s d i j h c):=by
 unfold wx;split
 .exact⟨Ö _,by show(0:Int)<=400;decide,f,Ŀ _ _⟩
 .rename_i a;have q:=(f.fw i).2;have o:=f.r i (b:=(s i).fw-h) ⟨Z,Z⟩;have e:=Mb _ d i j (h-10) c o g l m Z Z Z;have r:=e.C;have t:=e.r;have u:=e.I;exact⟨by show 0<=_+10;omega,by show _+10<=400;omega,e.N.r i<|zY _,by show(gw _ _ _ _ _ _).I.length<=_;omega⟩
def aak{s:St}(b:gM s){ls:List (Nat×Int)}{t:Tx}(a:t.Ok)(c:(ls.length:Int)+400<=1000000):aaj ls (lJ s ls t):=by
 unfold lJ;split
 .exact⟨by show(0:Int)<=10;decide,by show(10:Int)<=400;decide,anf b _ _ a.I,Ŀ _ _⟩
 .split
  .exact⟨by show(0:Int)<=20;decide,by show(20:Int)<=400;decide,ang b _ a.N,Ŀ _ _⟩
  .exact anh b a.x a.y ⟨a.r,by have:=a.C;omega⟩ c
structure Ct(bp:Option ă)(n:Nat)(gN:List (Nat×Tx))(w:É):Prop where
 r:n=gN.length
 C:∀(j a:Nat) (t:Tx),gN[j]?=Ã (a,t)->∃tb te,bp=Ã ⟨tb,te,Ä⟩/\w.cell? ⟨tb,te+j,Ä⟩=Ã (Å<|Ã ⟨a,0,Ä⟩)/\mh a t w/\t.Ok
def Ct.I{gN:List (Nat×Tx)}(h:Ct O n gN w)(k:fg fl w u):Ct O n gN u:= ⟨h.r,λj a t q=>by let⟨tb,b,c,d,e,f⟩:=h.C j a t q;exact⟨tb,b,c,k.r d id,e.S k id,f⟩⟩
def lT(gN:List (Nat×Tx)):List Tx:=gN.map (·.2)
section
variable{bp:Option ă}{cp:Nat}{gN:List (Nat×Tx)}{d:Option (St×List (Nat×Int)×List (Int×Bool))}
def TH(n:Nat)(a:é)(_:É):Nat:=match a.tmps.getD 27 ā with
 |Â _ i=>n-i.toNat
 |_=>0
def NI(b m i:Nat)(bp:Option ă)(n cp:Nat)(h:Int)(u:É)(gN:List (Nat×Tx))(d:Option (St×List (Nat×Int)×List (Int×Bool)))(a:é)(w:É):Prop:=
 ∃(j:Nat) (s:St) (c:List (Nat×Int)) (e:List (Int×Bool)) (f g:È),Io b m i bp n cp j a/\j<=n/\NX i h f g s c e u w/\gM s/\c.length<=400*j/\e.length=j/\ri m s c e ((lT gN).drop j)=d
def NE(b m i:Nat)(bp:Option ă)(n cp:Nat)(h:Int)(u:É)(d:Option (St×List (Nat×Int)×List (Int×Bool)))(a:é)(w:É):Prop:=
 ∃(s:St) (c:List (Nat×Int)) (e:List (Int×Bool)) (f g:È),Io b m i bp n cp n a/\NX i h f g s c e u w/\gM s/\d=Ã (s,c,e)
def NR(u:É)(d:Option (St×List (Nat×Int)×List (Int×Bool)))(a:é)(w:É):Prop:=
 a.tmps.getD 6 ā=Å Ä/\a.defers=[]/\fg fl u w/\d=Ä
theorem ani(C:Ct bp n gN u)(K:iP u)(L:n<=1000)(V:m<8)(a:é)(w:É)(W:NI b m i bp n cp h u gN d a w): Î À Im (Exit.then (λo q=>NI b m i bp n cp h u gN d o q/\TH n o q<TH n a w)<|QN (NE b m i bp n cp h u d)<|NR u d) a w:=by
 let⟨j,s,r,M,X,Y,hfr,hj,x,y,Tg,K0,e⟩:=W;obtain⟨c,rfl⟩:=hfr;by_cases vI:j=n
 .have D:(lT gN).drop j=[]:=Ę (by unfold lT;rw[Ο,<-C.r];omega);rw[D]at e;refine am9 c x j (by rw[vI]) λa v=>⟨s,r,M,X,Y,?_,x,y,e.symm⟩;grind
 .have E:j<n:=Z
  obtain⟨⟨a,t⟩,N⟩:∃p,gN[j]?=Ã p:=⟨_,Ô<|by rwa[<-C.r]⟩;have D:(lT gN).drop j=t::(lT gN).drop (j+1):=by
   have v:(lT gN)[j]?=Ã t:=by unfold lT;rw[Ķ,N];rfl
   grind [ē]
  let⟨tb,O,P,Q,S,F⟩:=(C.I x.M).C j a t N;have G:(r.length:Int)+400<=1000000:=Z
  have k:=aak y F G;rw[D]at e;unfold ri at e;obtain⟨g,l,H,z,f,I⟩:∃g l H z f,lJ s r t=((g,l),H,z,f):=⟨_,_,_,_,_,U⟩;rw[I]at e k;have g0:=k.g0;have g1:g<=400:=k.r;have T:=k.s;have EN:f.length<=r.length+400:=k.C;cases H with
  |false=>
   simp only[ĭ,if_false]at e;exact ana c x j j U E L tb O a P Q t S F (K.r x.M id) y G g l z f I λo q B J v=>⟨B,J,v,e.symm⟩
  |true=>
   simp only[if_true]at e;refine anb c x j j U E L tb O a P Q t S F (K.r x.M id) y G g l z f I V T g0 Z Z λo q jD TG B J=>⟨⟨j+1,_,f,M++[(g,l)],jD,TG,by simpa using B,Z,J,T.r m<|zY _,Z,by simp[K0],e⟩,?_⟩;obtain⟨v,rfl⟩:=B;show n-((j:Int)+1).toNat<n-((j:Int)).toNat;omega
def uY(m:Nat)(s:St)(gN:List Tx):Option (St×List (Nat×Int)×List (Int×Bool)):=
 (ri m s [] [] gN).map λr=>(r.1.fw m<|wu<|(r.1 m).fw+50,r.2)
def EP(h:Int)(w:É)(r:Option (St×List (Nat×Int)×List (Int×Bool)))(e:ax)(a:É):Prop:=
 (r=Ä/\e=Ç (Å Ä)/\fg fl w a)\/
 ∃s b c i d f,r=Ã (s,b,c)/\e=Ç (Å<|Ã ⟨i,0,Ä⟩)/\NX i (h+1) d f s b c w a/\gM s
def anj{s:St}(e:mF b s h w)(Y:0<=h)(hh1:h<=1000)(y:gM s)(z:Ct bp n gN w)(B:iP w)(J:n<=1000)(f:m<8): Ò À 99 #[Å<|Ã ⟨b,0,Ä⟩,Â Ë m,Ê bp n cp] w (EP h w<|uY m s<|lT gN):=by
 let⟨M,C,D⟩:=Ì.1 TC;have E:(À.info? 132).map (·.size)=Ã (iA s).length:=by rw[sf];exact aah
 have k:=fi<|Á C<|Á D E;have F:=(e.r (fg.fY fl w) id).C;have G:=(e.r (fg.fY fl w) id).h;have ox:Ë.wrap (h+1)=h+1:=Ic Z Z;have c:=fi<|Á F G;have gP:=á w _ e.h;have L:∀l a,NX w.heap.size (h+1) (Ê Ä 0 0) (Ê Ä 0 0) s [] [] w l->Io b m w.heap.size bp n cp 0 a->Î À (à Im) (QN (NE b m w.heap.size bp n cp (h+1) w<|ri m s [] []<|lT gN)<|NR w<|ri m s [] []<|lT gN) a l:=λl a x N=>
  Ĉ (NI b m w.heap.size bp n cp (h+1) w gN<|ri m s [] []<|lT gN) (TH n) ⟨0,s,[],[],_,_,N,â _,x,y,ft,U,U⟩<|ani z B J f
 have H:=fi<|Á e L;have I:uY m s (lT gN)=(ri m s [] []<|lT gN).map λr=>(r.1.fw m<|wu<|(r.1 m).fw+50,r.2):=U;rw[I];clear C D F G e E L y z B I;generalize ri m s [] [] (lT gN)=d at*;go_enter Tryz.func99,Tryz.ntmps99;go_wp2_with fail;refine mE (λg=>g.rangeAt b 0 (iA s)/\g.cell? ⟨b,145,Ä⟩=Ã (Â Ë h)) [] fv ?_;iterate 4 apply tk c.out
 refine Ib (i:=4) (oi:={dst:=Ã 16,op:=Go.Op.load 132<|î 15,type:=132,pos:= "block.go:30",after:=#[{on:=3,ground:=ï}],guard:=Ä}) U fv fv fv fv (λ_ _ _ h=>h) c.out (yieldsIf_load_mid gh 132 _ U b 0 U (iA s) M (λw h=>h.1) k.out.1 k.out.2.1 k.out.2.2) ?_;refine Ib (i:=5) (oi:={dst:=Ã 17,op:=Χ 136 #[(0,î 16)],type:=136,pos:= "block.go:30",after:=#[{on:=4,ground:=ï}],guard:=Ä}) U fv fv fv fv (λ_ _ _ h=>h) c.out (Ø ⟨gh,λ_ _=>TB U U<|sf s⟩) ?_;apply tk c.out 6;apply tk c.out 7;apply tk c.out 8;apply tk c.out 9;apply tk c.out 10;refine Ib (i:=11) U fv fv fv fv (λ_ _ _ h=>h) c.out (Ø ⟨gh,λ_ _=>am6 U U U (by simp[sf]) U⟩) ?_;have g:=fi<|(H.out.1.r (fg.fY fl w) id).r (fg.gL fl _ ((iA s++[Ê Ä 0 0])++[Â Ë<|h+1,Ê Ä 0 0]).toArray 139) id;refine gG 12 ?_;intro K o;rw[if_pos gh];unfold Ń;rw[aag U U,Ħ];refine o.out _ _ (λ_=>⟨g.out.C,g.out.h⟩) ?_;refine gG 13 ?_;intro K o;go_simp;refine o.out _ _ (λ_=>⟨g.out.C,g.out.h⟩) ?_;refine mg fv ?_ _;go_wp2_with fail;have O:=NX.jd w s<|h+1;refine Ý ?_ (H.out.2 _ _ O (gy _));rintro(_|(_|_)|_|_|_|_) a v hq;all_goals first|exact absurd hq id|skip
 .let⟨p,P,Q,S,T,V,j,q,W⟩:=hq;subst W;have d1:=j.r.fw f;have f1:=fp.C j.r<|m*18;have EN:=fp.M j.r;have b0:=(q.fw m).1;have b1:=(q.fw m).2;have hm0:(0:Int)<=(m:Int):=Z
  have hm1:(m:Int)<8:=Z
  have t:=fi<|Á j q;generalize X:(p m).fw=b at*;obtain⟨u,rfl⟩:=V;unfold Ab;go_wp2_with fail;go_region;go_wp2_with fail;go_ret;refine Ù ⟨p.fw m<|wu<|(p m).fw+50,P,Q,w.heap.size,S,T,U,U,?_,t.out.2.r m<|zY _⟩;rw[X];first
   |exact(t.out.1.fw f<|wu<|b+50).fP<|fg.fY _ _
   |exact(t.out.1.still<|Keep.drew _ _).fw f<|wu<|b+50
 .let⟨j,p,q,t⟩:=hq;simp only[Exit.inBlock,Exit.then];apply ð (results_tmp U _ _ _) p;exact Ø ⟨by rw[t];rfl,by rw[j],q⟩
end
def oC(i:Nat):ByteArray:=if i<10 then⟨#[(48+i).toUInt8]⟩else⟨#[(48+i/10).toUInt8,(48+i%10).toUInt8]⟩
def ank:∀k:Fin 10,(⟨#[48,49,50,51,52,53,54,55,56,57,97,98,99,100,101,102,103,104,105,106,107,108,109,110,111,112,113,114,115,116,117,118,119,120,121,122]⟩:ByteArray).extract k.val (k.val+1)=oC k.val:=by decide+kernel
def anl:∀k:Fin 100,k.val<10\/(⟨#[48,48,48,49,48,50,48,51,48,52,48,53,48,54,48,55,48,56,48,57,49,48,49,49,49,50,49,51,49,52,49,53,49,54,49,55,49,56,49,57,50,48,50,49,50,50,50,51,50,52,50,53,50,54,50,55,50,56,50,57,51,48,51,49,51,50,51,51,51,52,51,53,51,54,51,55,51,56,51,57,52,48,52,49,52,50,52,51,52,52,52,53,52,54,52,55,52,56,52,57,53,48,53,49,53,50,53,51,53,52,53,53,53,54,53,55,53,56,53,57,54,48,54,49,54,50,54,51,54,52,54,53,54,54,54,55,54,56,54,57,55,48,55,49,55,50,55,51,55,52,55,53,55,54,55,55,55,56,55,57,56,48,56,49,56,50,56,51,56,52,56,53,56,54,56,55,56,56,56,57,57,48,57,49,57,50,57,51,57,52,57,53,57,54,57,55,57,56,57,57]⟩:ByteArray).extract (k.val*2) (k.val*2+2)=oC k.val:=by decide+kernel
theorem anm(i:Nat)(h:i<10)(w:É):Ò À 171 #[Â Ë i] w λe a=>e=Ç (Í<|oC i)/\a=w:=by
 go_enter Ź,π;go_wp2;all_goals go_ret
 refine⟨z_<|ank ⟨i,h⟩,U⟩
theorem ano(i:Nat)(h:i<100)(b:10<=i)(w:É):Ò À 171 #[Â Ë i] w λe a=>e=Ç (Í<|oC i)/\a=w:=by
 go_enter Ź,π;go_wp2;all_goals go_ret
 refine⟨z_ ((anl ⟨i,h⟩).resolve_left<|by show¬i<10;omega),U⟩
theorem anp(i:Nat)(h:i<100)(w:É):Ò À 171 #[Â Ë i] w λe a=>e=Ç (Í<|oC i)/\a=w:=by grind [anm,ano]
def anq(i:Nat)(h:i<100)(w:É):Ò À 155 #[Â Ë i,Â Ë 10] w λe a=>e=Ç (Í<|oC i)/\a=w:=by go_enter Tryz.func155,Tryz.ntmps155;go_wp2_with (go_at_call 171;refine(anp i h _).mono ?_;rintro e a ⟨rfl,rfl⟩);go_ret;exact⟨U,U⟩
def aal(i:Nat)(h:i<100)(w:É):Ò À 101 #[Â Ë i] w λe a=>e=Ç (Í<|oC i)/\a=w:=by
 go_enter Tryz.func101,Tryz.ntmps101;go_wp2_with (first
  |(go_at_call 155;refine(anq i h _).mono ?_;rintro e a ⟨rfl,rfl⟩)
  |go_in)
 go_ret;exact⟨U,U⟩
def nV(i:Nat):ByteArray:=⟨#[33]⟩++oC i
def ER(i:Nat)(h:i<10)(w:É):Ò À 98 #[Â Ë i] w λe a=>e=Ç (Í<|nV i)/\a=w:=by
 have b:(oC i).size=1:=by unfold oC;rw[if_pos h];rfl
 go_enter Tryz.func98,Tryz.ntmps98;go_wp2_with (go_at_call 101;refine(aal i Z _).mono ?_;rintro e a ⟨rfl,rfl⟩);go_ret;exact⟨U,U⟩
def tb(n c:Nat):Nat:=(n^^^c)*1099511628211%18446744073709551616
def Me(n c:Nat):tb n c<18446744073709551616:=aO _ Z
def aam(n c:Nat)(a:n<18446744073709551616)(f:c<256)(w:É):Ò À 162 #[Â Æ n,Â aU c] w λe b=>e=Ç (Â Æ<|tb n c)/\b=w:=by
 go_enter Tryz.func162,Tryz.ntmps162;go_wp2_with fail;go_ret;refine⟨?_,U⟩;have d:Æ.wrap (((n^^^c:Nat):Int)*1099511628211)=((tb n c:Nat):Int):=by rw[aY];unfold tb;omega
 rw[bits_xor_u64_nat n c a Z,d];rfl
def tn(m:Nat):Nat->Nat->Nat
 |n,0=>n
 |n,j+1=>tn m (tb n<|m/2^(8*j)%256) j
def aan(m:Nat):∀(j n:Nat),n<18446744073709551616->tn m n j<18446744073709551616
 |0,_,h=>h
 |j+1,_,_=>aan m j _<|Me _ _
noncomputable def Mf:ŏ:=(Tryz.f161.body.bind kB).getD ĵ
def ES(m n:Nat)(i:Int)(u:Nat->È):é:=⟨#[Â Æ n,Â Æ m,u 2,u 3,u 4,Â Ë i,u 6,u 7,u 8,u 9,u 10,u 11,u 12,u 13,u 14,u 15,u 16],[]⟩
def EU(m n:Nat)(i:Int)(a:é):Prop:=∃u,a=ES m n i u
section
variable{X:é->É->Prop}
def anr(m n j:Nat)(f:j<8)(d:n<18446744073709551616)(g:m<18446744073709551616)(u:Nat->È)(b:∀a,EU m (tb n<|m/2^(8*j)%256) (((8*j:Nat):Int)-8) a->K a w): Î À Mf (Exit.then K<|QQ X) (ES m n (8*j:Nat) u) w:=by
 unfold ES;conv=>arg 2;whnf
 have i:(0:Int)<=((8*j:Nat):Int):=Z
 have k:((8*j:Nat):Int)<64:=Z
 have T:=aam n (m/2^(8*j)%256) d Z w;generalize 8*j=j8 at*;have c:((m/2^j8%256:Nat):Int)=(m:Int)/2^j8%256:=ft
 rw[c]at T;have H:=fi<|Á T b;clear T b c;go_wp2_with (go_at_call 162;apply H.out.1.mono;rintro e l ⟨rfl,rfl⟩);exact H.out.2 _ (gy _)
def ant(m n:Nat)(u:Nat->È)(b:∀a,EU m n (-8) a->X a w): Î À Mf (Exit.then K<|QQ X) (ES m n (-8) u) w:=by
 unfold ES;conv=>arg 2;whnf
 go_wp2_with fail
 exact b _ (gy _)
def TI(m:Nat)(b:É)(c:Nat)(a:é)(w:É):Prop:=∃n j:Nat,EU m n (((8*j:Nat):Int)-8) a/\j<=8/\n<18446744073709551616/\w=b/\tn m n j=c
def TE(m:Nat)(b:É)(c:Nat)(a:é)(w:É):Prop:=EU m c (-8) a/\w=b
def Mg(a:é)(_:É):Nat:=match a.tmps.getD 5 ā with
 |Â _ i=>(i+8).toNat
 |_=>0
def aao(b:EU m n h y):Mg y w=(h+8).toNat:=by obtain⟨u,rfl⟩:=b;rfl
def anu(f:m<18446744073709551616)(a:é)(w:É)(g:TI m u i a w): Î À Mf (Exit.then (λb e=>TI m u i b e/\Mg b e<Mg a w)<|QQ<|TE m u i) a w:=by
 obtain⟨n,j,c,k,h,rfl,d⟩:=g;rw[aao (w:=w) c];obtain⟨b,rfl⟩:=c;cases j with
 |zero=>
  subst d;exact ant m n b λa q=>⟨q,U⟩
 |succ j=>
  have e:(((8*(j+1):Nat):Int)-8)=((8*j:Nat):Int):=Z
  rw[e];refine anr m n j Z h f b λa q=>⟨⟨_,j,q,Z,Me _ _,U,d⟩,?_⟩;rw[aao q];omega
end
def oD(n m:Nat):Nat:=tn m n 8
theorem EV(n m:Nat)(a:n<18446744073709551616):oD n m<18446744073709551616:=aan m 8 n a
def Ip(n m:Nat)(b:n<18446744073709551616)(c:m<18446744073709551616)(w:É):Ò À 161 #[Â Æ n,Â Æ m] w λe d=>e=Ç (Â Æ<|oD n m)/\d=w:=by
 have L:∀a,EU m n 56 a->Î À (à Mf) (QQ<|TE m w<|oD n m) a w:=λa f=>
  Ĉ (TI m w<|oD n m) Mg ⟨n,8,f,Þ _,b,U,U⟩<|anu c
 generalize oD n m=r at*;go_enter Tryz.func161,Tryz.ntmps161;go_wp2_with fail;refine Ý ?_ ((fi L).out _ (gy _));rintro(_|(_|_)|_|_|_|_) a v hq;all_goals first|exact absurd hq id|skip
 obtain⟨g,rfl⟩:=hq;obtain⟨u,rfl⟩:=g;unfold ES;go_wp2_with fail;go_ret;exact⟨U,U⟩
def Iq(p q:Nat):Nat:=oD (oD 14695981039346656037 p) q
def anv(p q:Nat):Iq p q<18446744073709551616:=EV _ _<|EV _ _ Z
noncomputable def Ir:ŏ:=(Tryz.f146.body.bind kB).getD ĵ
noncomputable def Is:ŏ:=(kB Ir).getD ĵ
def Q2(X:é->É->Prop):aT->é->É->Prop
 |.exit 2,a,w=>X a w
 |_,_,_=>False
def vW(b c d:Nat)(a:Nat)(i:Int)(u:Nat->È):é:=⟨#[Ê (Ã ⟨b,0,Ä⟩) c d,u 1,u 2,Â Ë a,u 4,u 5,u 6,u 7,u 8,u 9,u 10,Â Ë a,Â Ë i,u 13,u 14,u 15,u 16,u 17,u 18,u 19,u 20,u 21,u 22,u 23,u 24,u 25,u 26,u 27,u 28,u 29,u 30,u 31,u 32,u 33,u 34,u 35,u 36,u 37],[]⟩
def Cu(b c d:Nat)(e:Nat)(i:Int)(a:é):Prop:=∃u,a=vW b c d e i u
section
variable{X:é->É->Prop}{cp:Nat}
def anw(u:Nat->È)(c:∀a,Cu b n cp i i a->X a w): Î À Is (Exit.then K<|Q2 X) (vW b n cp i i u) w:=by
 unfold vW;conv=>arg 2;whnf
 go_wp2_with fail
 exact c _ (gy _)
def anx(c p q z:Nat)(l:Iq p q=z)(x:c<i)(y:2*i<=n)(B:n<=16)(m:p<18446744073709551616)(o:q<18446744073709551616)(u:Nat->È) (r:w.cell? ⟨b,2*c,Ä⟩=Ã (Â Æ p)) (s:w.cell? ⟨b,2*c+1,Ä⟩=Ã (Â Æ q)) (j:∃v,w.cell? ⟨b,c,Ä⟩=Ã v) (C:w.frozen? ⟨b,c,Ä⟩=Ï) (d:∀a,Cu b n cp i ((c+1:Nat):Int) a->K a (w.setCell ⟨b,c,Ä⟩<|Â Æ z).drew): Î À Is (Exit.then K<|Q2 X) (vW b n cp i c u) w:=by
 unfold vW;conv=>arg 2;whnf
 subst l;unfold Iq at d;let⟨D,j⟩:=j;have E:(0:Int)<=(c:Int):=Z
 have F:(c:Int)<(i:Int):=Z
 have G:(2:Int)*(c:Int)+1<(n:Int):=Z
 have H:((2:Int)*(c:Int)).toNat=2*c:=Z
 have I:((2:Int)*(c:Int)+1).toNat=2*c+1:=Z
 have J:Ë.wrap (2*(c:Int))=2*(c:Int):=Ic Z Z;have k:Ë.wrap (2*(c:Int)+1)=2*(c:Int)+1:=Ic Z Z;have L:(0:Int)<=2*(c:Int):=Z
 have M:2*(c:Int)<(n:Int):=Z
 have N:(0:Int)<=2*(c:Int)+1:=Z
 have O:(c:Int)<(n:Int):=Z
 have t:=fi d;clear d;go_wp2_with fail;have f:=fi<|Á r s;refine mE (λe=>e.cell? ⟨b,2*c,Ä⟩=Ã (Â Æ p)/\e.cell? ⟨b,2*c+1,Ä⟩=Ã (Â Æ q)) [16] fv ?_;iterate 7 apply tk f.out
 apply tk f.out 8;apply tk f.out 9;apply tk f.out 10;apply tk f.out 11;apply tk f.out 12;apply tk f.out 13;refine gG 7 ?_;intro K d;go_simp;go_at_call 161;refine(Ip 14695981039346656037 p Z m _).mono ?_;rintro e g ⟨rfl,k⟩;subst g;refine d.out _ _ (λ_=>f.out) ?_;refine gG 14 ?_;intro K d;go_simp;go_at_call 161;refine(Ip (oD 14695981039346656037 p) q (EV _ _ Z) o _).mono ?_;rintro e g ⟨rfl,k⟩;subst g;refine d.out _ _ (λ_=>f.out) ?_;refine gG 15 ?_;intro K d;go_simp;refine d.out _ _ (λ_=>f.out) ?_;refine gG 16 ?_;intro K d;go_simp;refine d.out _ _ (λq=>absurd ft q) ?_;refine mg fv ?_ _;go_wp2_with fail;exact t.out _ (gy _)
end
def pr(l:List Nat)(t:Nat):Nat:=Iq (l.getD (2*t) 0)<|l.getD (2*t+1) 0
def aap(l:List Nat)(t:Nat):Iq (l.getD (2*t) 0) (l.getD (2*t+1) 0)=pr l t:=by unfold pr;exact Eq.refl _
def jT(l:List Nat)(i:Nat):List Nat:=(ċ l.length).map λt=>if t<i then pr l t else l.getD t 0
def uZ(l:List Nat):List Nat:=(ċ<|l.length/2).map<|pr l
def kD(l:List Nat):List È:=l.map λ(x:Nat)=>Â Æ x
def si(l:List Nat):Prop:=∀t,l.getD t 0<18446744073709551616
theorem It(l:List Nat)(i:Nat):(jT l i).length=l.length:=by simp[jT]
theorem Mh(l:List Nat)(i t:Nat)(h:t<l.length):(jT l i)[t]?=Ã (if t<i then pr l t else l.getD t 0):=by simp[jT,û h]
theorem anz(l:List Nat):jT l 0=l:=by refine ý λt=> ?_;grind [Mh,It]
theorem anB(l:List Nat)(i:Nat)(h:i<l.length):(jT l i).set i (pr l i)=jT l (i+1):=by refine ý λt=> ?_;grind [Mh,It,ĕ]
theorem anC(l:List Nat):jT l (l.length/2)=uZ l++l.drop (l.length/2):=by
 refine ý λt=> ?_;have b:(uZ l).length=l.length/2:=by simp[uZ]
 by_cases a:t<l.length
 .rw[Mh _ _ t a];by_cases q:t<l.length/2
  .rw[if_pos q,ç Z];simp[uZ,û q]
  .grind
 .grind [It,Ó,List.length_drop]
def anD(l:List Nat)(t:Nat):pr l t<18446744073709551616:=by rw[<-aap];exact anv _ _
def Mi{N:Nat}(a:0<N)(h:∀x∈jJ,x<N)(t:Nat):jJ.getD t 0<N:=by
 rw[Ĳ];cases e:jJ[t]? with
 |none=>exact a
 |some x=>exact h x<|Ġ e
def aaq(l:List Nat):si (uZ l):=Mi Z λx a=>by unfold uZ at a;obtain⟨t,_,rfl⟩:=ņ.1 a;exact anD l t
def sj:Nat->List Nat->Nat
 |0,l=>l.getD 0 0
 |k+1,l=>sj k<|uZ l
def TJ(l:List Nat)(i x:Nat):kD (l.set i x)=(kD l).set i (Â Æ x):=by simp[kD,List.map_set]
theorem Iu(l:List Nat)(i x:Nat)(h:l[i]?=Ã x):(kD l)[i]?=Ã (Â Æ x):=by simp[kD,h]
section
variable{cp:Nat}{l:List Nat}{junk:List È}
def II(b n cp i:Nat)(T:õ)(l:List Nat)(junk:List È)(d:É)(a:é)(w:É):Prop:=
 ∃c:Nat,Cu b n cp i c a/\c<=i/\fg (λk=>k=b) d w/\fp b (kD (jT l c)++junk) T w
def IE(b n cp i:Nat)(T:õ)(l:List Nat)(junk:List È)(c:É)(a:é)(w:É):Prop:=
 Cu b n cp i i a/\fg (λk=>k=b) c w/\fp b (kD (jT l i)++junk) T w
def Mj(i:Nat)(a:é)(_:É):Nat:=match a.tmps.getD 12 ā with
 |Â _ b=>i-b.toNat
 |_=>0
def aar(c:Cu b n cp i j y):Mj i y w=i-j:=by obtain⟨u,rfl⟩:=c;show i-(j:Int).toNat=_;simp
def anE(g:si l)(r:l.length=n)(s:2*i=n)(m:n<=16)(a:é)(w:É)(o:II b n cp i T l junk u a w): Î À Is (Exit.then (λc d=>II b n cp i T l junk u c d/\Mj i c d<Mj i a w)<|Q2<|IE b n cp i T l junk u) a w:=by
 let⟨c,h,v,j,e⟩:=o;rw[aar h];obtain⟨d,rfl⟩:=h;by_cases p:c=i
 .subst p;exact anw d λa q=>⟨q,j,e⟩
 .have f:=λt x y=>
   e.r t _<|by rw[ç (by simp[kD,It];omega)];exact Iu _ _ _<|by rw[Mh l c t Z,if_neg Z]
  refine anx c (l.getD (2*c) 0) (l.getD (2*c+1) 0) (pr l c) (aap l c) Z Z m (g _) (g _) d (f _ Z Z) (f _ Z Z) ⟨_,f c Z Z⟩ (e.C c) λa q=>⟨⟨c+1,q,Z,(j.fj<|fg.I (X:=λk=>k=b) U _).fj<|fg.fY _ _,?_⟩,by rw[aar q];omega⟩;rw[<-anB l c Z,TJ,<-Ğ _ _ (by simp[kD,It];omega)];exact((e.fR c<|Â Æ<|pr l c).I (fg.fY fl _) id)
def anF(c:si l)(d:l.length=n)(e:2*i=n)(f:n<=16)(g:fp b (kD l++junk) T w)(h:Cu b n cp i (0:Nat) y): Î À (à Is) (Q2<|IE b n cp i T l junk w) y w:= Ĉ (II b n cp i T l junk w) (Mj i) ⟨0,h,â _,fg.gd _ _,by rwa[anz]⟩<|anE c d e f
end
def EW(b a c:Nat)(u:Nat->È):é:=⟨#[Ê (Ã ⟨b,0,Ä⟩) a c,u 1,u 2,u 3,u 4,u 5,u 6,u 7,u 8,u 9,u 10,u 11,u 12,u 13,u 14,u 15,u 16,u 17,u 18,u 19,u 20,u 21,u 22,u 23,u 24,u 25,u 26,u 27,u 28,u 29,u 30,u 31,u 32,u 33,u 34,u 35,u 36,u 37],[]⟩
def EX(b c d:Nat)(a:é):Prop:=∃u,a=EW b c d u
section
variable{cp:Nat}{l:List Nat}{junk:List È}
def anG(c:n=1)(u:Nat->È)(d:∀a,EX b n cp a->H a w): Î À Ir (Exit.then K<|QQ H) (EW b n cp u) w:=by
 unfold EW;conv=>arg 2;whnf
 subst c;go_wp2_with fail;exact d _ (gy _)
def anH(u:Nat->È)(g:si l)(j:l.length=n)(m:2*i=n)(t:0<i)(o:n<=16)(x:n<=cp)(d:fp b (kD l++junk) T w) (p:∀a e,EX b i cp a->fg (λk=>k=b) w e->fp b (kD (jT l i)++junk) T e->K a e): Î À Ir (Exit.then K<|QQ H) (EW b n cp u) w:=by
 have L:∀a,Cu b n cp i (0:Nat) a->Î À (à Is) (Q2<|IE b n cp i T l junk w) a w:=λa q=>anF g j m o d q;unfold EW;conv=>arg 2;whnf
 have y:(n:Int).tdiv 2=(i:Int):=by rw[Int.tdiv_eq_ediv_of_nonneg Z];omega
 have z:(0:Int)<=(i:Int):=Z
 have B:(i:Int)<=(cp:Int):=Z
 have c:=fi<|Á L p;go_wp2_with fail;refine Ý ?_ (c.out.1 _ (gy _));rintro(_|(_|_|_|_)|_|_|_|_) a v hq;all_goals first|exact absurd hq id|skip
 let⟨r,s,d⟩:=hq;obtain⟨u,rfl⟩:=r;unfold vW;have f:=fi<|Á s d;go_wp2_with fail;exact c.out.2 _ _ (gy _) f.out.1 f.out.2
def OI(b cp:Nat)(T:õ)(c:É)(d:Nat)(a:é)(w:É):Prop:=
 ∃(k:Nat) (l:List Nat) (junk:List È),EX b l.length cp a/\l.length=2^k/\l.length<=16/\l.length<=cp/\si l/\fg (λk=>k=b) c w/\fp b (kD l++junk) T w/\sj k l=d
def OE(b cp:Nat)(c:É)(d:Nat)(a:é)(w:É):Prop:=EX b 1 cp a/\1<=cp/\fg (λk=>k=b) c w/\w.cell? ⟨b,0,Ä⟩=Ã (Â Æ d)
def yi(a:é)(_:É):Nat:=match a.tmps.getD 0 ā with
 |Ê _ n _=>n
 |_=>0
def Iv(c:EX b n cp y):yi y w=n:=by obtain⟨u,rfl⟩:=c;rfl
def anI(a:é)(w:É)(r:OI b cp T u i a w): Î À Ir (Exit.then (λc d=>OI b cp T u i c d/\yi c d<yi a w)<|QQ<|OE b cp u i) a w:=by
 let⟨k,l,junk,g,h,s,t,v,j,m,n⟩:=r;rw[Iv g];obtain⟨c,rfl⟩:=g;cases k with
 |zero=>
  have e:=h;have f:w.cell? ⟨b,0,Ä⟩=Ã (Â Æ<|l.getD 0 0):=m.r 0 _ (by rw[ç (by simp[kD];omega)];exact Iu _ _ _<|by rw[Ĳ,Ô Z];rfl);have o:l.getD 0 0=i:=n;rw[o]at f;refine anG e c λa q=>⟨by rwa[e]at q,Z,j,f⟩
 |succ k=>
  have x:2*2^k=l.length:=by rw[h,Nat.pow_succ];omega
  have y:0<2^k:=Nat.pow_pos Z;have f:l.length/2=2^k:=Z
  have o:(uZ l).length=2^k:=by simp[uZ,f]
  refine anH c v U x y s t m λa d q z p=>⟨⟨k,uZ l,kD (l.drop<|l.length/2)++junk,by rwa[o],o,Z,Z,aaq l,j.fj z,?_,n⟩,by rw[Iv q];omega⟩;have e:=anC l;rw[f]at e;rw[e]at p;rw[f,<-Ċ];simpa[kD]using p
end
def aas{cp:Nat}{l:List Nat}{junk:List È}(c:l.length=2^k)(d:l.length<=16)(f:l.length<=cp)(g:si l)(j:fp b (kD l++junk) T w): Ò À 146 #[Ê (Ã ⟨b,0,Ä⟩) l.length cp] w λe a=>e=Ç (Â Æ<|sj k l)/\fg (λi=>i=b) w a:=by
 have L:∀a,EX b l.length cp a->Î À (à Ir) (QQ<|OE b cp w<|sj k l) a w:=λa e=>
  Ĉ (OI b cp T w<|sj k l) yi ⟨k,l,junk,e,c,d,f,g,fg.gd _ _,j,U⟩ anI
 generalize sj k l=r at*;generalize l.length=n at*;go_enter Tryz.func146,Tryz.ntmps146;go_wp2_with fail;refine Ý ?_ ((fi L).out _ (gy _));rintro(_|(_|_)|_|_|_|_) a v hq;all_goals first|exact absurd hq id|skip
 let⟨i,m,o,p⟩:=hq;obtain⟨u,rfl⟩:=i;unfold EW;go_wp2_with fail;go_ret;simp_all
def anJ:À.underlying 109=Ã (.array 16 23):=fv
def anK(w:É)(c:i<16)(e:d[i]?=Ã (Â Æ h)):(Ι 109 (Ē d)<|Â Ë (i:Int)).run À w=φ (Â Æ h) w:=by
 have a:(0:Int)<=(i:Int):=Z
 have b:(i:Int)<16:=Z
 simp[Ι,ř anJ,asIntOf,go_sem,a,b];go_simp
noncomputable def Iw:ŏ:=(aZ.body.bind kB).getD ĵ
def EY(c o b:Nat)(a:Array È)(i:Int)(u:Nat->È):é:=⟨#[Å<|Ã ⟨c,o,Ä⟩,u 1,u 2,Å<|Ã ⟨b,0,Ä⟩,u 4,u 5,u 6,u 7,u 8,u 9,u 10,Ē a,Â Ë i,u 13,u 14,u 15,u 16,u 17,u 18,u 19,u 20,u 21,u 22,u 23,u 24,u 25,u 26,u 27,u 28,u 29,u 30,u 31,u 32,u 33,u 34,u 35,u 36,u 37,u 38,u 39,u 40,u 41,u 42,u 43,u 44,u 45,u 46,u 47],[]⟩
def Cv(d o b:Nat)(c:Array È)(i:Int)(a:é):Prop:=∃u,a=EY d o b c i u
section
variable{X:é->É->Prop}
def anL(u:Nat->È)(c:∀a,Cv n i b d 16 a->X a w): Î À Iw (Exit.then K<|QQ X) (EY n i b d 16 u) w:=by
 unfold EY;conv=>arg 2;whnf
 go_wp2_with fail
 exact c _ (gy _)
def anM(c p z:Nat)(k:oD 14695981039346656037 p=z)(l:c<16)(m:p<18446744073709551616)(f:d[c]?=Ã (Â Æ p))(g:∃v,w.cell? ⟨b,c,Ä⟩=Ã v)(q:w.frozen? ⟨b,c,Ä⟩=Ï)(u:Nat->È) (j:∀a,Cv n i b d ((c+1:Nat):Int) a->K a (w.setCell ⟨b,c,Ä⟩<|Â Æ z)): Î À Iw (Exit.then K<|QQ X) (EY n i b d c u) w:=by
 unfold EY;conv=>arg 2;whnf
 let⟨r,g⟩:=g;have s:=λW=>anK W l f;have o:=fi j;clear j f;go_wp2_with (go_at_call 161;refine(Ip 14695981039346656037 p Z m _).mono ?_;rintro e t ⟨rfl,rfl⟩;rw[k]);exact o.out _ (gy _)
def lf(x:Nat):Nat:=oD 14695981039346656037 x
theorem Mk(x:Nat):lf x<18446744073709551616:=EV _ _ Z
def aat(x:Nat):oD 14695981039346656037 x=lf x:=by unfold lf;exact Eq.refl _
def oE(l:List Nat)(i:Nat):List Nat:=(ċ 16).map λt=>if t<i then lf (l.getD t 0)else 0
theorem Ix(l:List Nat)(i:Nat):(oE l i).length=16:=by simp[oE]
theorem aau(l:List Nat)(i t:Nat)(h:t<16):(oE l i)[t]?=Ã (if t<i then lf (l.getD t 0)else 0):=by simp[oE,û h]
theorem anN(l:List Nat)(i:Nat)(h:i<16):(oE l i).set i (lf<|l.getD i 0)=oE l (i+1):=by refine ý λt=> ?_;grind [aau,Ix,ĕ]
def aav(l:List Nat):si (oE l 16):=Mi Z λx a=>by
 unfold oE at a;obtain⟨t,_,rfl⟩:=ņ.1 a;split
 .exact Mk _
 .omega
def AI(n i b:Nat)(l:List Nat)(d:É)(a:é)(w:É):Prop:=
 ∃c:Nat,Cv n i b (kD l).toArray c a/\c<=16/\fg (λk=>k=b) d w/\fp b (kD<|oE l c) 109 w
def AE(n i b:Nat)(l:List Nat)(c:É)(a:é)(w:É):Prop:=
 Cv n i b (kD l).toArray 16 a/\fg (λk=>k=b) c w/\fp b (kD<|oE l 16) 109 w
def Ml(a:é)(_:É):Nat:=match a.tmps.getD 12 ā with
 |Â _ i=>16-i.toNat
 |_=>0
def aaw(c:Cv n i b d j y):Ml y w=16-j:=by obtain⟨u,rfl⟩:=c;show 16-(j:Int).toNat=_;simp
theorem anO(h:si jJ)(p:jJ.length=16)(a:é)(w:É)(j:AI n i b jJ u a w): Î À Iw (Exit.then (λc d=>AI n i b jJ u c d/\Ml c d<Ml a w)<|QQ<|AE n i b jJ u) a w:=by
 let⟨c,f,r,g,e⟩:=j;rw[aaw f];obtain⟨d,rfl⟩:=f;by_cases m:c=16
 .subst m;exact anL d λa q=>⟨q,g,e⟩
 .have o:(kD jJ).toArray[c]?=Ã (Â Æ<|jJ.getD c 0):=by
   grind [Iu]
  refine anM c (jJ.getD c 0) (lf<|jJ.getD c 0) (aat _) Z (h _) o ⟨_,(e.r c _<|Iu _ _ _<|by rw[aau jJ c c Z,if_neg Z])⟩ (e.C c) d λa q=>⟨⟨c+1,q,Z,g.fj (fg.I (X:=λk=>k=b) U _),?_⟩,by rw[aaw q];omega⟩;rw[<-anN jJ c Z,TJ];exact e.fR c<|Â Æ<|lf<|jJ.getD c 0
def anP{l:List Nat}(c:si l)(d:l.length=16)(e:fp b (kD<|oE l 0) 109 w)(f:Cv n i b (kD l).toArray (0:Nat) y): Î À (à Iw) (QQ<|AE n i b l w) y w:= Ĉ (AI n i b l w) Ml ⟨0,f,â _,fg.gd _ _,e⟩<|anO c d
end
def Cw:ŏ->List ŏ
 |à c=>[c]
 |.seq a b=>Cw a++Cw b
 |.block _ c=>Cw c
 |.scope c=>Cw c
 |.cond _ a b=>Cw a++Cw b
 |_=>[]
noncomputable def Iy:ŏ:=((aZ.body.map Cw).getD []).getD 1 ĵ
def EZ(a o:Nat)(P:ByteArray)(n:Nat)(i:Int)(u:Nat->È):é:=⟨#[Å<|Ã ⟨a,o,Ä⟩,u 1,u 2,u 3,u 4,u 5,Â Æ n,u 7,u 8,u 9,u 10,u 11,u 12,u 13,u 14,u 15,u 16,u 17,u 18,u 19,u 20,u 21,u 22,u 23,u 24,u 25,u 26,u 27,u 28,u 29,u 30,u 31,u 32,u 33,Â Ë P.size,Â Ë i,u 36,u 37,u 38,u 39,u 40,u 41,u 42,u 43,u 44,u 45,u 46,u 47],[]⟩
def Cx(b o:Nat)(P:ByteArray)(n:Nat)(i:Int)(a:é):Prop:=∃u,a=EZ b o P n i u
def Ac(n:Nat)(l:List UInt8):Nat:=l.foldl (λn c=>tb n c.toNat) n
def anQ(b:Nat)(c:Int)(d:c=B.size)(u:Nat->È)(e:∀a,Cx n i B b c a->H a w): Î À Iy (Exit.then K<|Q2 H) (EZ n i B b c u) w:=by
 unfold EZ;conv=>arg 2;whnf
 subst d;go_wp2_with fail;exact e _ (gy _)
def anR{B:ByteArray}{c:UInt8}(w:É)(a:B.data.toList[i]?=Ã c):(Ι 9 (Í B)<|Â Ë (i:Int)).run À w=φ (Â aU (c.toNat:Nat)) w:=by
 have e:(0:Int)<=(i:Int):=Z
 let⟨b,d⟩:=Ü.1 a;have f:i<B.size:=by simpa using b
 have g:B[i]=c:=by rw[<-d];exact(Array.getElem_toList _).symm
 go_simp
def anS(b d z:Nat)(c:UInt8)(g:tb b c.toNat=z)(m:d<B.size)(o:B.size<=1000000)(l:b<18446744073709551616)(j:B.data.toList[d]?=Ã c)(p:w.cell? ⟨n,i+1,Ä⟩=Ã (Í B))(u:Nat->È) (k:∀a,Cx n i B z ((d+1:Nat):Int) a->K a w): Î À Iy (Exit.then K<|Q2 H) (EZ n i B b d u) w:=by
 unfold EZ;conv=>arg 2;whnf
 have q:(0:Int)<=(d:Int):=Z
 have r:(d:Int)<(B.size:Int):=Z
 have s:(B.size:Int)<=1000000:=Z
 have t:=λW=>anR W j;have v:=c.toNat_lt;have T:=aam b c.toNat l Z w;rw[g]at T;generalize c.toNat=cn at*;have f:=fi<|Á T k;clear k T j g;go_wp2_with (go_at_call 162;apply f.out.1.mono;rintro e x ⟨rfl,rfl⟩);exact f.out.2 _ (gy _)
def BI(n i:Nat)(B:ByteArray)(d:É)(e:Nat)(a:é)(w:É):Prop:=
 ∃b c:Nat,Cx n i B b c a/\c<=B.size/\b<18446744073709551616/\w=d/\Ac b (B.data.toList.drop c)=e
def BE(n i:Nat)(B:ByteArray)(b:É)(c:Nat)(a:é)(w:É):Prop:=Cx n i B c B.size a/\w=b
def Mm(m:Nat)(a:é)(_:É):Nat:=match a.tmps.getD 35 ā with
 |Â _ i=>m-i.toNat
 |_=>0
def aax(c:Cx n i B j b y):Mm m y w=m-b:=by obtain⟨u,rfl⟩:=c;show m-(b:Int).toNat=_;simp
def anT(h:B.size<=1000000)(k:u.cell? ⟨n,i+1,Ä⟩=Ã (Í B))(a:é)(w:É)(l:BI n i B u j a w): Î À Iy (Exit.then (λb c=>BI n i B u j b c/\Mm B.size b c<Mm B.size a w)<|Q2<|BE n i B u j) a w:=by
 obtain⟨b,c,f,p,m,rfl,e⟩:=l;rw[aax f];obtain⟨d,rfl⟩:=f;have r:B.data.toList.length=B.size:=ft
 by_cases o:c=B.size
 .rw[Ę Z]at e;subst e;exact anQ b c Z d λa q=>⟨by rwa[o]at q,U⟩
 .have g:c<B.data.toList.length:=Z
  rw[ē g]at e;refine anS b c (tb b (B.data.toList[c]).toNat) (B.data.toList[c]) (Eq.refl _) Z h m (Ô g) k d λa q=>⟨⟨_,c+1,q,Z,Me _ _,U,e⟩,by rw[aax q];omega⟩
def anU(b:B.size<=1000000)(c:j<18446744073709551616)(d:w.cell? ⟨n,i+1,Ä⟩=Ã (Í B))(e:Cx n i B j (0:Nat) y): Î À (à Iy) (Q2<|BE n i B w<|Ac j B.data.toList) y w:= Ĉ (BI n i B w<|Ac j B.data.toList) (Mm B.size) ⟨j,0,e,â _,c,U,U⟩<|anT b d
abbrev zA:List È:=[Â Æ 0,Â Æ 0,Â Æ 0,Â Æ 0,Â Æ 0,Â Æ 0,Â Æ 0,Â Æ 0,Â Æ 0,Â Æ 0,Â Æ 0,Â Æ 0,Â Æ 0,Â Æ 0,Â Æ 0,Â Æ 0]
def Cy(B:Nat)(P:ByteArray)(a:List Nat):Nat:=Ac (oD (lf B)<|sj 4<|oE a 16) P.data.toList
def TK:∀(k:Nat) (l:List Nat),si l->sj k l<18446744073709551616
 |0,_,h=>h 0
 |k+1,l,_=>TK k (uZ l)<|aaq l
def anV(l:List Nat):kD (oE l 0)=zA:=by rfl
def anW{P:ByteArray}(d f g p r s x y z C D E F G I J:Nat)(Y:(kD jJ).toArray=#[Â Æ d,Â Æ f,Â Æ g,Â Æ p,Â Æ r,Â Æ s,Â Æ x,Â Æ y,Â Æ z,Â Æ C,Â Æ D,Â Æ E,Â Æ F,Â Æ G,Â Æ I,Â Æ J])(hl:jJ.length=16)(hB:m<18446744073709551616)(hP:P.size<=1000000)(hs:si jJ) (K:w.cell? ⟨n,j,Ä⟩=Ã (Â Æ m)) (c1:w.cell? ⟨n,j+1,Ä⟩=Ã (Í P)) (r0:w.cell? ⟨n,j+2,Ä⟩=Ã (Â Æ d)) (r1:w.cell? ⟨n,j+2+1,Ä⟩=Ã (Â Æ f)) (r2:w.cell? ⟨n,j+2+2,Ä⟩=Ã (Â Æ g)) (r3:w.cell? ⟨n,j+2+3,Ä⟩=Ã (Â Æ p)) (r4:w.cell? ⟨n,j+2+4,Ä⟩=Ã (Â Æ r)) (r5:w.cell? ⟨n,j+2+5,Ä⟩=Ã (Â Æ s)) (r6:w.cell? ⟨n,j+2+6,Ä⟩=Ã (Â Æ x)) (r7:w.cell? ⟨n,j+2+7,Ä⟩=Ã (Â Æ y)) (r8:w.cell? ⟨n,j+2+8,Ä⟩=Ã (Â Æ z)) (r9:w.cell? ⟨n,j+2+9,Ä⟩=Ã (Â Æ C)) (r10:w.cell? ⟨n,j+2+10,Ä⟩=Ã (Â Æ D)) (r11:w.cell? ⟨n,j+2+11,Ä⟩=Ã (Â Æ E)) (r12:w.cell? ⟨n,j+2+12,Ä⟩=Ã (Â Æ F)) (r13:w.cell? ⟨n,j+2+13,Ä⟩=Ã (Â Æ G)) (r14:w.cell? ⟨n,j+2+14,Ä⟩=Ã (Â Æ I)) (r15:w.cell? ⟨n,j+2+15,Ä⟩=Ã (Â Æ J)): Ò À 145 #[Å<|Ã ⟨n,j,Ä⟩] w λe c=>e=Ç (Â Æ<|Cy m P jJ)/\fg fl w c:=by
 have gP:=á w _ K;have L1:∀a,Cv n j w.heap.size #[Â Æ d,Â Æ f,Â Æ g,Â Æ p,Â Æ r,Â Æ s,Â Æ x,Â Æ y,Â Æ z,Â Æ C,Â Æ D,Â Æ E,Â Æ F,Â Æ G,Â Æ I,Â Æ J] (0:Nat) a->Î À (à Iw) (QQ<|AE n j w.heap.size jJ<|w.alloc<|Ð zA.toArray 109) a (w.alloc<|Ð zA.toArray 109):=λa L=>
  anP hs hl (by rw[anV];exact fp.N w zA 109)<|by rwa[Y]
 have M:∀W,fp w.heap.size (kD<|oE jJ 16) 109 W->Ò À 146 #[Ê (Ã ⟨w.heap.size,0,Ä⟩) 16 16] W λe c=>e=Ç (Â Æ<|sj 4<|oE jJ 16)/\fg (λi=>i=w.heap.size) W c:=λW hW=>by have t:=aas (w:=W) (b:=w.heap.size) (cp:=16) (k:=4) (T:=109) (l:=oE jJ 16) (junk:=[]) (by rw[Ix]) (by rw[Ix];omega) (by rw[Ix];omega) (aav jJ) (by rwa[ò]);rwa[Ix]at t
 have N:=TK 4 (oE jJ 16)<|aav jJ;obtain⟨t,O⟩:∃t,sj 4 (oE jJ 16)=t:=⟨_,U⟩;have hac:Cy m P jJ=Ac (oD (lf m) t) P.data.toList:=by unfold Cy;rw[O]
 rw[hac];rw[O]at M N;have L2:∀W a,W.cell? ⟨n,j+1,Ä⟩=Ã (Í P)->Cx n j P (oD (lf m) t) (0:Nat) a->Î À (à Iy) (Q2<|BE n j P W<|Ac (oD (lf m) t) P.data.toList) a W:=λW a h L=>
  anU hP (EV _ _<|Mk m) h L
 have C1:∀W,Ò À 161 #[Â Æ 14695981039346656037,Â Æ m] W λe c=>e=Ç (Â Æ<|lf m)/\c=W:=λW=>by rw[<-aat];exact Ip 14695981039346656037 m Z hB W
 have C2:∀W,Ò À 161 #[Â Æ<|lf m,Â Æ t] W λe c=>e=Ç (Â Æ<|oD (lf m) t)/\c=W:=λW=>Ip (lf m) t (Mk m) N W;have H:=fi<|Á K<|Á c1<|Á L1<|Á M<|Á L2<|Á C1 C2;clear L1 M L2 C1 C2 hac O N hs K c1 Y;generalize Ac (oD (lf m) t) P.data.toList=res at*;generalize oD (lf m) t=n2 at*;generalize lf m=n1 at*;go_enter Tryz.func145,Tryz.ntmps145;go_wp2_with fail;refine Ý (Q:=QQ<|AE n j w.heap.size jJ<|w.alloc<|Ð zA.toArray 109) ?_ (H.out.2.2.1 _ (gy _));rintro(_|(_|_)|_|_|_|_) a v hq;all_goals first|exact absurd hq id|skip
 let⟨S,hk,hBv⟩:=hq;have V:fg fl w v:=(fg.gL fl w zA.toArray 109).C hk λi hi q=>by omega
 have g0:=V.r H.out.1 id;obtain⟨u,rfl⟩:=S;unfold EY;have HV:=fi<|Á V hBv;clear V hBv hk r0 r1 r2 r3 r4 r5 r6 r7 r8 r9 r10 r11 r12 r13 r14 r15;go_wp2_with (first
  |(go_at_call 146;refine(H.out.2.2.2.1 _ HV.out.2).mono ?_;rintro e w2 ⟨rfl,zt⟩;have X:=HV.out.1.C zt (λi hi q=>by omega);have g1:=X.r H.out.2.1 id;have HK:=fi X;clear zt X)
  |(go_at_call 161;with_reducible refine(H.out.2.2.2.2.2.2 _).mono ?_;rintro e X ⟨rfl,rfl⟩)
  |(go_at_call 161;refine(H.out.2.2.2.2.2.1 _).mono ?_;rintro e X ⟨rfl,rfl⟩))
 refine Ý (Q:=Q2<|BE n j P _ res) ?_ (H.out.2.2.2.2.1 _ _ g1 (gy _));rintro(_|(_|_|_|_)|_|_|_|_) a v2 hq;all_goals first|exact absurd hq id|skip
 obtain⟨S,rfl⟩:=hq;obtain⟨u,rfl⟩:=S;unfold EZ;go_wp2_with fail;go_ret;exact⟨U,HK.out⟩
def anX{P:ByteArray}(c:j<18446744073709551616)(d:P.size<=1000000)(f:jJ.length=16)(g:si jJ) (h:w.cell? ⟨i,n,Ä⟩=Ã (Â Æ j)) (k:w.cell? ⟨i,n+1,Ä⟩=Ã (Í P)) (b:∀(a x:Nat),jJ[a]?=Ã x->w.cell? ⟨i,n+2+a,Ä⟩=Ã (Â Æ x)): Ò À 145 #[Å<|Ã ⟨i,n,Ä⟩] w λe l=>e=Ç (Â Æ<|Cy j P jJ)/\fg fl w l:=by
 match jJ,f with
 |[a0,a1,a2,a3,a4,a5,a6,a7,a8,a9,a10,a11,a12,a13,a14,a15],_=>exact anW a0 a1 a2 a3 a4 a5 a6 a7 a8 a9 a10 a11 a12 a13 a14 a15 gh gh c d g h k (b 0 a0 U) (b 1 a1 U) (b 2 a2 U) (b 3 a3 U) (b 4 a4 U) (b 5 a5 U) (b 6 a6 U) (b 7 a7 U) (b 8 a8 U) (b 9 a9 U) (b 10 a10 U) (b 11 a11 U) (b 12 a12 U) (b 13 a13 U) (b 14 a14 U)<|b 15 a15 U
abbrev zB:List È:=[Â Æ 0,Â Æ 0,Â Æ 0,Â Æ 0,Â Æ 0,Â Æ 0,Â Æ 0,Â Æ 0]
noncomputable def Mn:ŏ:=(Tryz.f106.body.bind kB).getD ĵ
def E0(a b:Nat)(i:Int)(u:Nat->È):é:=⟨#[Å<|Ã ⟨a,0,Ä⟩,u 1,u 2,Å<|Ã ⟨b,0,Ä⟩,u 4,Â Ë i,u 6,u 7,u 8,u 9,u 10,u 11,u 12,u 13,u 14,u 15,u 16,u 17],[]⟩
def E1(c b:Nat)(i:Int)(a:é):Prop:=∃u,a=E0 c b i u
section
variable{X:é->É->Prop}
def anY(u:Nat->È)(c:∀a,E1 i b 8 a->X a w): Î À Mn (Exit.then K<|QQ X) (E0 i b 8 u) w:=by
 unfold E0;conv=>arg 2;whnf
 go_wp2_with fail
 exact c _ (gy _)
def anZ(c z:Nat)(p:c<8)(T:Ò À 145 #[Å<|Ã ⟨i,c*18,Ä⟩] w λe k=>e=Ç (Â Æ z)/\fg fl w k)(g:List È)(j:È)(l:g[c]?=Ã j)(m:fp b g 107 w)(u:Nat->È) (n:∀a f,E1 i b ((c+1:Nat):Int) a->fg fl w f->K a (f.setCell ⟨b,c,Ä⟩<|Â Æ z)): Î À Mn (Exit.then K<|QQ X) (E0 i b c u) w:=by
 unfold E0;conv=>arg 2;whnf
 have H:=fi<|Á T<|Á n m;go_wp2_with (go_at_call 145;apply H.out.1.mono;rintro e f ⟨rfl,d⟩;have q:=(H.out.2.2.I d id).r c j l;have r:=(H.out.2.2.I d id).C c;have o:=fi d;clear d);exact H.out.2.1 _ _ (gy _) o.out
def qy(D:Nat->Nat)(i:Nat):List Nat:=(ċ 8).map λt=>if t<i then D t else 0
theorem Iz(D:Nat->Nat)(i:Nat):(qy D i).length=8:=by simp[qy]
theorem aay(D:Nat->Nat)(i t:Nat)(h:t<8):(qy D i)[t]?=Ã (if t<i then D t else 0):=by simp[qy,û h]
theorem an0(D:Nat->Nat)(i:Nat)(h:i<8):(qy D i).set i (D i)=qy D (i+1):=by refine ý λt=> ?_;grind [aay,Iz,ĕ]
def aaz(b:∀i,D i<18446744073709551616):si (qy D 8):=Mi Z λx a=>by
 unfold qy at a;obtain⟨t,_,rfl⟩:=ņ.1 a;split
 .exact b _
 .omega
def an1(D:Nat->Nat):kD (qy D 0)=zB:=by rfl
def DI(i b:Nat)(D:Nat->Nat)(d:É)(a:é)(w:É):Prop:=
 ∃c:Nat,E1 i b c a/\c<=8/\fg (λk=>k=b) d w/\fp b (kD<|qy D c) 107 w
def DE(i b:Nat)(D:Nat->Nat)(c:É)(a:é)(w:É):Prop:=
 E1 i b 8 a/\fg (λk=>k=b) c w/\fp b (kD<|qy D 8) 107 w
def Mp(a:é)(_:É):Nat:=match a.tmps.getD 5 ā with
 |Â _ i=>8-i.toNat
 |_=>0
def aaA(c:E1 i b n y):Mp y w=8-n:=by obtain⟨u,rfl⟩:=c;show 8-(n:Int).toNat=_;simp
def an2(C:∀c,c<8->∀W,fg (λk=>k=b) u W->Ò À 145 #[Å<|Ã ⟨i,c*18,Ä⟩] W λe f=>e=Ç (Â Æ<|D c)/\fg fl W f)(a:é)(w:É)(m:DI i b D u a w): Î À Mn (Exit.then (λd f=>DI i b D u d f/\Mp d f<Mp a w)<|QQ<|DE i b D u) a w:=by
 let⟨c,j,o,g,h⟩:=m;rw[aaA j];obtain⟨d,rfl⟩:=j;by_cases n:c=8
 .subst n;exact anY d λa q=>⟨q,g,h⟩
 .refine anZ c (D c) Z (C c Z w g) _ _ (Iu _ _ _<|by rw[aay D c c Z,if_neg Z]) h d λa p q l=>⟨⟨c+1,q,Z,(g.fj<|l.S λ_ _=>ę).fj (fg.I (X:=λk=>k=b) U _),?_⟩,by rw[aaA q];omega⟩;rw[<-an0 D c Z,TJ];exact(h.I l id).fR c<|Â Æ<|D c
end
def Mq(D:Nat->Nat):Nat:=sj 3<|qy D 8
def an3(j:∀b,D b<18446744073709551616)(C:∀b,b<8->∀W,fg (λk=>k=w.heap.size) (w.alloc<|Ð zB.toArray 107) W->Ò À 145 #[Å<|Ã ⟨i,b*18,Ä⟩] W λe c=>e=Ç (Â Æ<|D b)/\fg fl W c): Ò À 106 #[Å<|Ã ⟨i,0,Ä⟩] w λe c=>e=Ç (Â Æ<|Mq D)/\fg fl w c:=by
 have L:∀a,E1 i w.heap.size (0:Nat) a->Î À (à Mn) (QQ<|DE i w.heap.size D<|w.alloc<|Ð zB.toArray 107) a (w.alloc<|Ð zB.toArray 107):=λa l=>
  Ĉ (DI i w.heap.size D<|w.alloc<|Ð zB.toArray 107) Mp ⟨0,l,â _,fg.gd _ _,by rw[an1];exact fp.N w zB 107⟩<|an2 C
 have T:∀W,fp w.heap.size (kD<|qy D 8) 107 W->Ò À 146 #[Ê (Ã ⟨w.heap.size,0,Ä⟩) 8 8] W λe c=>e=Ç (Â Æ<|sj 3<|qy D 8)/\fg (λb=>b=w.heap.size) W c:=λW m=>by have t:=aas (cp:=8) (k:=3) (by rw[Iz]) (by rw[Iz];omega) (by rw[Iz];omega) (aaz j) (by rwa[ò]);rwa[Iz]at t
 unfold Mq;have H:=fi<|Á L T;generalize sj 3 (qy D 8)=t at*;go_enter Tryz.func106,Tryz.ntmps106;go_wp2_with fail;refine Ý (Q:=QQ<|DE i w.heap.size D<|w.alloc<|Ð zB.toArray 107) ?_ (H.out.1 _ (gy _));rintro(_|(_|_)|_|_|_|_) a v hq;all_goals first|exact absurd hq id|skip
 let⟨n,o,p⟩:=hq;have r:=(fg.gL fl w zB.toArray 107).C o λb s q=>by omega
 obtain⟨u,rfl⟩:=n;unfold E0;have d:=fi<|Á r p;go_wp2_with (go_at_call 146;refine(H.out.2 _ d.out.2).mono ?_;rintro e y ⟨rfl,f⟩;have g:=d.out.1.C f (λb s q=>by omega);have x:=fi g;clear f g);go_ret;exact⟨U,x.out⟩
def IA(a:H6):List Nat:=(ċ 16).map λj=>(a.C j).toNat
def aaB(a:H6):Nat:=Cy a.fw.toNat a.r<|IA a
def E2(s:St):Nat:=Mq λi=>aaB<|s i
theorem an4(l:List UInt8):∀n,n<18446744073709551616->Ac n l<18446744073709551616:=by
 induction l with
 |nil=>exact λn h=>h
 |cons c r h=>exact λn _=>h _<|Me _ _
theorem aaC(B:Nat)(P:ByteArray)(a:List Nat):Cy B P a<18446744073709551616:=by unfold Cy;grind [an4,EV,Mk]
def TL(s:St)(h:i<144):(iA s)[i]?=Ã (qp s i):=by simp[iA,û h]
def mF.an5{s:St}(m:mF n s h W)(a:gM s)(i:Nat)(f:i<8): Ò À 145 #[Å<|Ã ⟨n,i*18,Ä⟩] W λe b=>e=Ç (Â Æ<|aaB<|s i)/\fg fl W b:=by
 have g:=λj d=>by have:=m.C j _<|TL s d;simpa using this
 have b:=a.fw i;have k:=g (i*18) Z;have l:=g (i*18+1) Z;rw[<-rf s (Ê Ä 0 0) Z,H8 _ _ f]at k;rw[<-rf s (Ê Ä 0 0) Z,LU _ _ f]at l;refine anX (by have e:=b.1;have c:=b.2;omega) (by have:=(a.I i).1;omega) (by simp[IA]) ?_ ?_ l ?_
 .refine Mi Z λx e=> ?_;unfold IA at e;obtain⟨t,_,rfl⟩:=ņ.1 e;have c:=(a.C i t).2;omega
 .rw[k];unfold qo;rw[Ĕ b.1]
 .intro j x e;have d:j<16:=by have:=(Ü.1 e).1;simpa[IA]using this
  have c:=g (i*18+2+j) Z;rw[<-rf s (Ê Ä 0 0) Z,LV _ _ f d]at c;have t:((s i).C j).toNat=x:=by simpa[IA,û d]using e
  rw[c,<-t];unfold qo;rw[Ĕ (a.C i j).1]
def an6{s:St}(b:mF i s h w)(c:gM s): Ò À 106 #[Å<|Ã ⟨i,0,Ä⟩] w λe d=>e=Ç (Â Æ<|E2 s)/\fg fl w d:=an3 (λa=>aaC _ _ _) λa f W k=>((b.r (fg.gL fl w _ _) id).r k<|by show i≠w.heap.size;exact Nat.ne_of_lt<|á w _ b.h).an5 c a f
def kl(i:Nat):St:=λj=>⟨if j<i then 1000 else 0,⟨#[]⟩,λ_=>0⟩
theorem an7(i:Nat):kl (i+1)=(kl i).fw i 1000:=by funext j;unfold kl St.fw St.fR;grind
theorem an8(s:St)(a:i<8)(x:Int):(iA s).set (i*18) (Â Æ x)=iA (s.fw i x):=by have h:=A' s (Ê Ä 0 0) a x;rw[Aa,Aa,Ğ _ _ (by rw[sf];omega)]at h;exact List.append_cancel_right h
def an9(s:St)(a:i<8):(iA s)[i*18]?=Ã (Â Æ (s i).fw):=by rw[TL s Z,<-rf s (Ê Ä 0 0) Z,H8 _ _ a];rfl
noncomputable def Mr:ŏ:=(Tryz.f44.body.bind kB).getD ĵ
def E3(r b:Nat)(i:Int)(u:Nat->È):é:=⟨#[Å<|Ã ⟨r,0,Ä⟩,Å<|Ã ⟨b,0,Ä⟩,u 2,Â Ë i,u 4,u 5,u 6,u 7,u 8,u 9,u 10],[]⟩
def E4(r b:Nat)(i:Int)(a:é):Prop:=∃u,a=E3 r b i u
section
variable{X:é->É->Prop}
def aoa(u:Nat->È)(c:∀a,E4 i b 8 a->X a w): Î À Mr (Exit.then K<|QQ X) (E3 i b 8 u) w:=by
 unfold E3;conv=>arg 2;whnf
 go_wp2_with fail
 exact c _ (gy _)
def aob(c:Nat)(g:c<8)(e:È)(j:w.cell? ⟨b,c*18,Ä⟩=Ã e)(k:w.frozen? ⟨b,c*18,Ä⟩=Ï)(u:Nat->È) (d:∀a,E4 i b ((c+1:Nat):Int) a->K a (w.setCell ⟨b,c*18,Ä⟩<|Â Æ 1000)): Î À Mr (Exit.then K<|QQ X) (E3 i b c u) w:=by
 unfold E3;conv=>arg 2;whnf
 have f:=fi d;clear d;go_wp2_with fail;exact f.out _ (gy _)
def TM(i b:Nat)(d:É)(a:é)(w:É):Prop:=∃c:Nat,E4 i b c a/\c<=8/\fg (λk=>k=b) d w/\fp b (iA<|kl c) 132 w
def FE0(i b:Nat)(c:É)(a:é)(w:É):Prop:=E4 i b 8 a/\fg (λk=>k=b) c w/\fp b (iA<|kl 8) 132 w
def Ms(a:é)(_:É):Nat:=match a.tmps.getD 3 ā with
 |Â _ i=>8-i.toNat
 |_=>0
def aaD(c:E4 i b n y):Ms y w=8-n:=by obtain⟨u,rfl⟩:=c;show 8-(n:Int).toNat=_;simp
theorem aoc(a:é)(w:É)(h:TM i b u a w): Î À Mr (Exit.then (λc d=>TM i b u c d/\Ms c d<Ms a w)<|QQ<|FE0 i b u) a w:=by
 let⟨c,f,l,g,e⟩:=h;rw[aaD f];obtain⟨d,rfl⟩:=f;by_cases j:c=8
 .subst j;exact aoa d λa q=>⟨q,g,e⟩
 .refine aob c Z _ (e.r _ _<|an9 _ Z) (e.C _) d λa q=>⟨⟨c+1,q,Z,g.fj (fg.I (X:=λk=>k=b) U _),?_⟩,by rw[aaD q];omega⟩;have k:=e.fR (c*18)<|Â Æ 1000;grind [an8,an7]
end
def aod:(À.info? 132).map (λi=>(i.size,i.zero.map λz=>z.cells.toList))=Ã (144,Ã<|iA<|kl 0):=fv
def aoe(s:St):∀v∈iA s,v.oneCell'=Ú:=λv a=>Tl s (lv:=Ê Ä 0 0) U v<|by rw[Aa];exact œ _ a
def aof(w:É):Ò À 44 #[] w λe m=>e=Ç (Ē (iA<|kl 8).toArray)/\fg fl w m:=by
 let⟨n,o,p⟩:=Ì.1 TC;let⟨P,j,c⟩:=Ì.1 aod;simp only[Prod.mk.injEq]at c;let⟨r,t⟩:=c;let⟨x,y,z⟩:=Ì.1 t;have B:x.cells=(iA<|kl 0).toArray:=by rw[<-z]
 have C:∀s,(À.info? 132).map (·.size)=Ã (iA s).length:=λs=>by rw[j,sf];simp[r]
 have L:∀W a,fp (w.heap.size+1) (iA<|kl 0) 132 W->E4 w.heap.size (w.heap.size+1) (0:Nat) a->Î À (à Mr) (QQ<|FE0 w.heap.size (w.heap.size+1) W) a W:=λW a f D=>
  Ĉ (TM w.heap.size (w.heap.size+1) W) Ms ⟨0,D,â _,fg.gd _ _,f⟩ aoc
 have k:=fg.gL fl (w.alloc<|Ð (iA<|kl 0).toArray 132) (iA<|kl 0).toArray 132;have E:=(fp.N w (iA<|kl 0) 132).I k id;have F:fp (w.heap.size+1) (iA<|kl 0) 132 ((w.alloc<|Ð (iA<|kl 0).toArray 132).alloc<|Ð (iA<|kl 0).toArray 132):=by have:=fp.N (w.alloc<|Ð (iA<|kl 0).toArray 132) (iA<|kl 0) 132;simpa using this
 have b:=fi<|Á o<|Á p<|Á j<|Á y<|Á B C;have H:=fi<|Á L<|Á ((fg.gL fl w (iA<|kl 0).toArray 132).fj k)<|Á E F;go_enter Tryz.func44,Tryz.ntmps44;go_wp2_with (first
  |(with_reducible refine Ć U (Ã 0) U _ _ (Ti U b.out.2.2.1 b.out.2.2.2.1) ?_;rw[b.out.2.2.2.2.1])
  |(with_reducible refine Ć U (Ã 1) U _ _ (Ti U b.out.2.2.1 b.out.2.2.2.1) ?_;rw[b.out.2.2.2.2.1]))
 refine Ý ?_ (H.out.1 _ _ H.out.2.2.2 (gy _));rintro(_|(_|_)|_|_|_|_) a v c;all_goals first|exact absurd c id|skip
 let⟨G,l,f⟩:=c;have g:=H.out.2.2.1.I l Z;obtain⟨u,rfl⟩:=G;unfold E3;have I:=fp.Y (by rw[ò];exact f);have J:v.there w.heap.size 0 (iA<|kl 8).toArray.size:=g.Tk (by simp[sf]);have K:=L8 (iA<|kl 8) [] [] v (iA<|kl 0) (by rw[sf,sf]) (by simpa using g);have M:=(H.out.2.1.C l λi N q=>by omega).C (Ih (iA<|kl 8) 0 v g.G) λi N q=>by omega
 have d:=fi<|Á M<|Á K<|Á I J;go_wp2_with (first
  |(with_reducible refine ĥ U 132 _ U (w.heap.size+1) 0 U (iA<|kl 8) n d.out.2.2.1 b.out.1 b.out.2.1 (b.out.2.2.2.2.2 _) ?_)
  |(with_reducible refine ľ U 132 _ _ U w.heap.size 0 (iA (kl 8)).toArray U U d.out.2.2.2 (by rw[b.out.2.2.2.2.2 (kl 8)];simp) (Ī (aoe _)) ?_))
 have O:fp w.heap.size (iA (kl 8)++[]) 132 (v.setCells w.heap.size 0<|iA<|kl 8):=by simpa using d.out.2.1
 refine ð (Tm U U (fp.Y O) b.out.1 b.out.2.1<|b.out.2.2.2.2.2 _) U<|⟨U,d.out.1⟩
structure fO where
 s:St
 r:List (Nat×Int)
 C:List (Int×Bool)
 h:Int
def Ad(a:ă)(k:Nat)(d:List È)(w:É):Prop:=
 ∃p c,w.cell? a=Ã (Ê p k c)/\∀(j:Nat) (x:È),d[j]?=Ã x->∃b o,p=Ã ⟨b,o,Ä⟩/\w.cell? ⟨b,o+j,Ä⟩=Ã x
def Ad.r(h:Ad a k l w)(q:fg fl w u):Ad a k l u:=by let⟨p,c,d,e⟩:=h;exact⟨p,c,q.r d id,λj x f=>by let⟨b,o,g,i⟩:=e j x f;exact⟨b,o,g,q.r i id⟩⟩
structure sk(b:Nat)(v:fO)(w:É):Prop where
 r:mF b v.s v.h w
 C:gM v.s
 I:0<=v.h
 M:v.h<=40
 N:Ad ⟨b,144,Ä⟩ v.r.length (kr v.r) w
 S:Ad ⟨b,146,Ä⟩ v.C.length (uX v.C) w
def sk.Y{v:fO}(h:sk b v w)(q:fg fl w u):sk b v u:= ⟨h.r.r q id,h.C,h.I,h.M,h.N.r q,h.S.r q⟩
structure qz(bp:Option ă)(n:Nat)(vs:List (Nat×fO))(w:É):Prop where
 r:n=vs.length
 C:∀(j b:Nat) (v:fO),vs[j]?=Ã (b,v)->∃sb so,bp=Ã ⟨sb,so,Ä⟩/\w.cell? ⟨sb,so+j,Ä⟩=Ã (Å<|Ã ⟨b,0,Ä⟩)/\sk b v w
def qz.I{a:List (Nat×fO)}(h:qz O n a w)(q:fg fl w u):qz O n a u:= ⟨h.r,λj b v e=>by let⟨c,d,f,g,i⟩:=h.C j b v e;exact⟨c,d,f,q.r g id,i.Y q⟩⟩
def Ae(a b:Nat×fO):Nat×fO:=if a.2.h<b.2.h then b else a
def u5(d:Nat×fO)(a:List (Nat×fO)):Nat×fO:=a.foldl Ae d
noncomputable def Mt:ŏ:=(Tryz.f137.body.bind kB).getD ĵ
def E5(a:Option ă)(n b:Nat)(c:Nat)(i:Int)(u:Nat->È):é:=⟨#[Ê a n b,ā,Å Ä,Å<|Ã ⟨c,0,Ä⟩,u 4,u 5,u 6,u 7,u 8,Ê a n b,Â Ë n,Â Ë i,u 12,u 13,u 14,u 15,u 16,u 17,u 18,u 19,u 20,u 21,u 22,u 23,u 24,u 25,u 26],[]⟩
def IB(b:Option ă)(n c:Nat)(d:Nat)(i:Int)(a:é):Prop:=∃u,a=E5 b n c d i u
section
variable{X:é->É->Prop}{bp:Option ă}{cp:Nat}
def aog(u:Nat->È)(b:Int)(c:b=n)(d:∀a,IB bp n cp i b a->X a w): Î À Mt (Exit.then K<|QQ X) (E5 bp n cp i b u) w:=by
 unfold E5;conv=>arg 2;whnf
 subst c;go_wp2_with fail;exact d _ (gy _)
def aoh(u:Nat->È)(c:Int)(j:Nat)(p:c=j)(r:j<n)(s:n<=1000)(k l b:Nat)(q:bp=Ã ⟨k,l,Ä⟩)(t:w.cell? ⟨k,l+j,Ä⟩=Ã (Å<|Ã ⟨b,0,Ä⟩))(e f:Int)(v:w.cell? ⟨b,145,Ä⟩=Ã (Â Ë e))(x:w.cell? ⟨i,145,Ä⟩=Ã (Â Ë f)) (d:∀a m,IB bp n cp (if f<e then b else i) (c+1) a->K a (w.drewN m)): Î À Mt (Exit.then K<|QQ X) (E5 bp n cp i c u) w:=by
 unfold E5;conv=>arg 2;whnf
 subst p q;by_cases o:f<e
 .rw[if_pos o]at d;have g:=fi d;clear d;go_wp2_with fail;go_quiet (fail);go_wp2_with fail;exact g.out _ _ (gy _)
 .rw[if_neg o]at d;have g:=fi d;clear d;go_wp2_with fail;go_quiet (fail);go_wp2_with fail;exact g.out _ _ (gy _)
def HI(bp:Option ă)(n cp:Nat)(vs:List (Nat×fO))(b:É)(c:Nat×fO)(a:é)(w:É):Prop:=
 ∃(j:Nat) (d:Nat×fO),IB bp n cp d.1 j a/\j<=n/\fg fl b w/\sk d.1 d.2 b/\u5 d (vs.drop j)=c
def HE(bp:Option ă)(n cp:Nat)(b:É)(c:Nat×fO)(a:é)(w:É):Prop:=IB bp n cp c.1 n a/\fg fl b w
def TN(n:Nat)(a:é)(_:É):Nat:=match a.tmps.getD 11 ā with
 |Â _ i=>n-i.toNat
 |_=>0
theorem aoi{f:List (Nat×fO)}{i:Nat×fO}(k:qz bp n f W)(t:n<=1000)(a:é)(w:É)(x:HI bp n cp f W i a w): Î À Mt (Exit.then (λl b=>HI bp n cp f W i l b/\TN n l b<TN n a w)<|QQ<|HE bp n cp W i) a w:=by
 let⟨j,d,y,H,c,z,g⟩:=x;obtain⟨u,rfl⟩:=y;by_cases o:j=n
 .rw[(Ę<|by rw[<-k.r];omega)]at g;subst g;refine aog u j (by rw[o]) λa b=>⟨?_,c⟩;rwa[o]at b
 .have r:j<n:=Z
  obtain⟨⟨b,v⟩,s⟩:∃p,f[j]?=Ã p:=⟨_,Ô<|by rwa[<-k.r]⟩;let⟨B,C,D,E,F⟩:=k.C j b v s;let⟨G,e⟩:=Ü.1 s;rw[ē G,e]at g;refine aoh u j j U r t B C b D (c.r E id) v.h d.2.h (c.r F.r.h id) (c.r z.r.h id) λl m q=> ?_;have I:Ae d (b,v)=(if d.2.h<v.h then b else d.1,if d.2.h<v.h then v else d.2):=by unfold Ae;split<;>rfl
  refine⟨⟨j+1,Ae d (b,v),?_,Z,c.fj<|fg.iW _ _ _,?_,g⟩,?_⟩
  .grind
  .grind
  .obtain⟨v,rfl⟩:=q;show n-((j:Int)+1).toNat<n-((j:Int)).toNat;omega
def aoj{b:List (Nat×fO)}{d:Nat×fO}(c:qz bp n b w)(g:n<=1000)(f:b[0]?=Ã d): Ò À 137 #[Ê bp n cp] w λe a=>e=Ç (Å<|Ã ⟨(u5 d b).1,0,Ä⟩)/\fg fl w a:=by
 let⟨m,o,e,i,j⟩:=c.C 0 d.1 d.2 f;have p:0<n:=by rw[c.r];exact(Ü.1 f).1
 have L:∀a,IB bp n cp d.1 0 a->Î À (à Mt) (QQ<|HE bp n cp w<|u5 d b) a w:=λa k=>
  Ĉ (HI bp n cp b w<|u5 d b) (TN n) ⟨0,d,k,â _,fg.gd _ _,j,U⟩<|aoi c g
 subst e;generalize u5 d b=r at*;simp only[Nat.add_zero]at i;go_enter Tryz.func137,Tryz.ntmps137;go_wp2_with fail;refine Ý ?_ ((fi L).out _ (gy _));rintro(_|(_|_)|_|_|_|_) a v hq;all_goals first|exact absurd hq id|skip
 let⟨l,q⟩:=hq;obtain⟨u,rfl⟩:=l;unfold E5;go_wp2_with fail;go_ret;simp_all
end
def mG(a:List (Nat×fO))(b:Int):Option (Nat×fO):=
 if b=-1 then(a[0]?).map λd=>u5 d a else a[b.toNat]?
def j1(b:Option Nat):È:=Å<|b.map λb=>⟨b,0,Ä⟩
section
variable{cp:Nat}{a:List (Nat×fO)}
def Mv(f:qz O n a w)(j:n<=1000)(l:0<n)(c:Int)(o:-1<=c): Ò À 97 #[Ê O n cp,Â Ë c] w λe b=>e=Ç (j1 ((mG a c).map (·.1)))/\fg fl w b:=by
 by_cases i:c=-1
 .subst i;obtain⟨d,b⟩:∃d,a[0]?=Ã d:=⟨_,Ô<|by rwa[<-f.r]⟩;have e:mG a (-1)=Ã (u5 d a):=by unfold mG;rw[if_pos U,b];rfl
  rw[e];go_enter Κ,ź;go_wp2_with (go_at_call 137;refine(fi<|aoj (cp:=cp) f j b).out.mono ?_;rintro e k ⟨rfl,g⟩);go_ret;exact⟨U,g⟩
 .obtain⟨k,rfl⟩:∃k:Nat,c=k:=⟨c.toNat,Z⟩;have e:mG a (k:Int)=a[k]?:=by unfold mG;rw[if_neg i,ŵ]
  rw[e];by_cases g:k<n
  .obtain⟨⟨b,v⟩,d⟩:∃p,a[k]?=Ã p:=⟨_,Ô<|by rwa[<-f.r]⟩;let⟨q,r,m,s,t⟩:=f.C k b v d;rw[d];subst m;go_enter Κ,ź;go_wp2_with fail;go_ret;exact⟨U,fg.gd _ _⟩
  .rw[(List.getElem?_eq_none<|by rw[<-f.r];omega)];go_enter Κ,ź;go_wp2_with fail;go_ret;exact⟨U,fg.gd _ _⟩
end
theorem aaE(a:List (Nat×fO)):∀(l:List (Nat×fO)) (d:Nat×fO),d∈a->(∀x∈l,x∈a)->u5 d l∈a
 |[],d,hd,_=>hd
 |x::l,d,hd,hl=>by
  show u5 (Ae d x) l∈a;refine aaE a l _ ?_ λy b=>hl y<|Ś _ b;unfold Ae;split
  .exact hl x List.mem_cons_self
  .exact hd
theorem IC{a:List (Nat×fO)}{p:Nat×fO}(h:mG a c=Ã p):p∈a:=by unfold mG at h;grind [Ì,aaE,List.mem_of_getElem]
def qz.M{a:List (Nat×fO)}(h:qz O n a w){p:Nat×fO}(b:p∈a):sk p.1 p.2 w:=by let⟨j,c⟩:=List.getElem?_of_mem b;let⟨_,_,_,_,d⟩:=h.C j p.1 p.2 c;exact d
theorem aaF(c:w.cell? ⟨b,i,Ä⟩=Ã v)(h:w.ownsRow 0 e j v n l):Ad ⟨b,i,Ä⟩ n l w:=by
 rcases h.2 with⟨rfl,rfl⟩|⟨g,f,k,rfl,_,m,_,_,_,o⟩
 .have d:=ß (by simpa using h.1);subst d;exact⟨Ä,0,c,λa x q=>by simp at q⟩
 .refine⟨_,_,c,λa x q=>⟨g,0,U,?_⟩⟩;have:=h.cells U a x q;grind [Addr.add_mid]
def NX.aok{s:St}{b:List (Nat×Int)}{c:List (Int×Bool)}(x:NX i h v z s b c u w)(d:gM s)(e:0<=h)(f:h<=40):sk i ⟨s,b,c,h⟩ w:=by have a:fp i (jo s v++[Â Ë h,z]) 139 w:=x.r;refine⟨⟨?_,a.r 145 _<|by rw[ü (by rw[mQ];omega),mQ];rfl⟩,d,e,f,aaF x.r.Cn x.C,aaF x.G x.I⟩;rw[Aa,Ċ]at a;exact a.Y
def aol:(À.info? 128).map (λi=>(i.zero,i.size,i.bytes))=Ã (Ã<|Å Ä,1,8):=fv
def aom{p:Array ş}{r:List ş}(C:o.guard=Ä)(s x:ŭ)(t:õ) (D:o.op=aE {callee:=.builtin .append,args:=#[s,x],argTypes:=#[t,t]}) (E:P.underlying t=Ã (bm e)) (F:P.info? e=Ã zJ) (G:zJ.zero=Ã z) (B:zJ.size=1) (H:zJ.bytes=8) (g k n:Nat) (b:List È) (I:b.length=n) (J:∀j v,b[j]?=Ã v->w.cell? ((⟨g,k,Ä⟩:ă).add j)=Ã v) (L:y.eval s=Ê (Ã ⟨g,k,Ä⟩) n n) (l:Nat) (v:È) (M:y.eval x=Ê (Ã ⟨l,0,Ä⟩) 1 1) (N:∀j u,[v][j]?=Ã u->w.cell? ((⟨l,0,Ä⟩:ă).add j)=Ã u) (X:n<=1000) (O:mD e=Ï) (h:∀c f,n+1<=c->fg fl w f->(∃m:Array È,f.heap[w.heap.size]?=Ã (Ð m e (0,0))/\0<m.size/\∀u∈m.toList,u∈b\/u=v\/u∈z.cells.toList)->(∀j u,(b++[v])[j]?=Ã u->f.cell? ⟨w.heap.size,0+j,Ä⟩=Ã u)->aR P p vJ r (y.put o.dst<|Ê (Ã ⟨w.heap.size,0,Ä⟩) (n+1) c) f):aR P p vJ (o::r) y w:=by refine Ű C λK S=> ?_;have T:=Λ w t o.type e zJ z E F G ⟨g,k,Ä⟩ n n b (by rw[I,B];omega) J ⟨l,0,Ä⟩ 1 1 [v] (by rw[B];rfl) N Z Z (ŕ Z<|by rw[H];omega);unfold Ń Ĥ;simp only[D,ae,aP,ag,ű,Ų,ĳ,ļ,Ť,ų,L,M,T];refine S _ _ (h _ _ (Η w (n+1) n e) ((fg.fY _ _).fj<|fg.gL _ _ _ _<|Ø O) ⟨_,ì w.drew _,by simp;omega,λu d=>by simp only[Š,ú]at d;rcases d with(q|q)|q;exact Ø q;exact Ù (Ø<|by simpa using q);exact Ù<|Ù<|SS q⟩ λj u d=> ?_);have V:(w.drew.alloc<|Ð (b.toArray++[v].toArray++ö z.cells (Œ w (n+1) n e-(n+1))) e).heap[w.heap.size]?=_:=ì w.drew _;simp only[Ζ,V,Ũ,ĭ,if_false,ł];have W:=(Ü.1 d).1;rw[Array.getElem?_append_left (by simpa using W)];simpa using d
def tB(v:È)(T:õ)(w:É):Prop:=v=Ê Ä 0 0\/∃g n c a,v=Ê (Ã ⟨g,0,Ä⟩) n c/\w.heap[g]?=Ã (Ð a T (0,0))
def tB.I(h:w.ownsRow 0 T i v n l):tB v T w:=by
 rcases h.2 with⟨q,_⟩|⟨g,a,b,c,_,d,_⟩
 .exact Ø q
 .exact Ù ⟨g,_,a,b,c,d⟩
def tB.C(h:tB v T w)(k:fg fl w u):tB v T u:=by
 rcases h with q|⟨g,n,c,b,d,a⟩
 .exact Ø q
 .refine Ù ⟨g,n,c,b,d,?_⟩;rwa[k.N g (Array.getElem?_eq_some_iff.1 a).1 id]
def sr(a:List (Nat×fO)):List È:=a.map λp=>Å<|Ã ⟨p.1,0,Ä⟩
structure TO(vs:List (Nat×fO))(B:Nat)(w w':É)(g:Nat):Prop where
 C:w.heap.size<=g
 r:∃cur:Array È,w'.heap[g]?=Ã (Ð cur 128 (0,0))/\0<cur.size/\∀u∈cur.toList,u∈sr vs\/u=Å (Ã ⟨B,0,Ä⟩)\/u=Å Ä
structure TP(B:Nat)(s:St)(h:Int)(w w':É):Prop where
 C:w.heap.size<=B
 r:∃lv uv,fp B (jo s lv++[Â Ë h,uv]) 139 w'/\tB lv 250 w'/\tB uv 239 w'/\(∀j,lv.ownBlock=Ã j->w.heap.size<=j)/\∀j,uv.ownBlock=Ã j->w.heap.size<=j
section
variable{bp:Option ă}{cp:Nat}{vs:List (Nat×fO)}
def aon(a b:Nat)(d:n<=1000)(f:n<=cp):Ò À 139 #[Ê (Ã ⟨a,b,Ä⟩) n cp] w λe c=>e=Ç (Ê (Ã ⟨a,b,Ä⟩) n n)/\c=w:=by go_enter Tryz.func139,Tryz.ntmps139;go_wp2;go_ret;exact⟨U,U⟩
def aoo(b:qz bp n vs w)(i:n<=1000)(m:0<n)(r:n<=cp)(B:Nat): Ò À 100 #[Ê bp n cp,Å<|Ã ⟨B,0,Ä⟩] w λe a=>∃g c,e=Ç (Ê (Ã ⟨g,0,Ä⟩) (n+1) c)/\n+1<=c/\fg fl w a/\TO vs B w a g/\∀j u,(sr vs++[Å<|Ã ⟨B,0,Ä⟩])[j]?=Ã u->a.cell? ⟨g,0+j,Ä⟩=Ã u:=by
 let⟨I,s,t,x,y⟩:=í aol;obtain⟨d,z⟩:∃d,vs[0]?=Ã d:=⟨_,Ô<|by rwa[<-b.r]⟩;let⟨g,f,k,_,_⟩:=b.C 0 d.1 d.2 z;have C:∀(o:Obj) (j:Nat) (v:È),(sr vs)[j]?=Ã v->(w.alloc o).cell? ((⟨g,f,Ä⟩:ă).add j)=Ã v:=λo j v q=>by unfold sr at q;rw[Ķ]at q;obtain⟨p,D,rfl⟩:=Ì.1 q;let⟨E,F,H,l,_⟩:=b.C j p.1 p.2 D;rw[k]at H;cases H;rwa[Addr.add_mid,World.cell?_alloc_lt _ _ _<|á w _ l]
 have H:=fi (Á C<|Á s<|Á t<|Á x<|Á y<|show(sr vs).length=n by unfold sr;rw[Ο];exact b.r.symm);subst k;go_enter Tryz.func100,Tryz.ntmps100;go_wp2_with (first
  |(go_at_call 139;refine(aon g f i r).mono ?_;rintro e a ⟨rfl,l⟩;subst a)
  |(at_builtin;refine aom U _ _ 56 U Tryz.underlying56 H.out.2.1 H.out.2.2.1 H.out.2.2.2.1 H.out.2.2.2.2.1 g f n (sr vs) H.out.2.2.2.2.2 (H.out.1 _) U w.heap.size (Å (Ã ⟨B,0,Ä⟩)) U (þ _ _ _) i A ?_;intro c D a e l p))
 go_ret;refine⟨_,_,U,a,(fg.gL _ _ _ _).fj e,⟨ft,by let⟨c,D,E,F⟩:=l;exact⟨c,by simpa using D,E,λu G=>(F u G).elim Ø λq=>q.elim (λq=>Ù<|Ø q) λq=>Ù<|Ù<|by simpa[ğ]using q⟩⟩,λj u q=>by have:=p j u q;simpa using this⟩
end
structure Cz(r:Nat)(v:Int)(x:Nat)(bp:Option ă)(n cp:Nat)(w:É):Prop where
 M:w.cell? ⟨r,0,Ä⟩=Ã (Â Ë x)
 N:w.cell? ⟨r,5,Ä⟩=Ã (Â Ë v)
 I:w.cell? ⟨r,8,Ä⟩=Ã (Ê bp n cp)
def Cz.C{r:Nat}(h:Cz r c i O n j w)(k:fg fl w u):Cz r c i O n j u:=⟨k.r h.M id,k.r h.N id,k.r h.I id⟩
def rj(a:List (Nat×fO))(v:Int)(x:Nat)(gN:List Tx):Option fO×ByteArray:=
 match mG a v with
 |none=>(Ä,nV 3)
 |some p=>if a.length=40 then(Ä,nV 4)else match uY x p.2.s gN with
  |none=>(Ä,nV 5)
  |some r=>(Ã ⟨r.1,r.2.1,r.2.2,p.2.h+1⟩,oC a.length)
def Mw(c:È)(d:List (Nat×fO))(w:É):Prop:=∃a n b,c=Ê a n b/\n<=b/\qz a n d w
def TQ(f:List (Nat×fO))(i:È)(w:É)(o:Option fO×ByteArray)(e:ax)(a:É):Prop:=
 fg fl w a/\((o.1=Ä/\e=Ç (æ #[i,Í o.2]))\/∃v b d,o.1=Ã v/\e=Ç (æ #[d,Í o.2])/\Mw d (f++[(b,v)]) a/\TP b v.s v.h w a/\∃g n c,d=Ê (Ã ⟨g,0,Ä⟩) n c/\TO f b w a g)
def aop{c:List (Nat×fO)}{v:fO}(e:qz O n c w)(f:sk j v w)(h:∀a u,(sr c++[Å<|Ã ⟨j,0,Ä⟩])[a]?=Ã u->w.cell? ⟨i,0+a,Ä⟩=Ã u):qz (Ã ⟨i,0,Ä⟩) (n+1) (c++[(j,v)]) w:=by
 refine⟨by rw[e.r];simp,λa b u q=>⟨i,0,U,?_,?_⟩⟩
 .apply h a _;have:sr c++[Å<|Ã ⟨j,0,Ä⟩]=sr (c++[(j,v)]):=by simp[sr]
  rw[this];unfold sr;rw[Ķ,q];rfl
 .rcases Ů a c.length with d|d
  .rw[ç d]at q;let⟨_,_,_,_,k⟩:=e.C a b u q;exact k
  .rw[ü d]at q;have k:a-c.length=0:=by
    have:=(Ü.1 q).1;simp at this;omega
   rw[k]at q;cases q;exact f
def aoq{e:ax}(a:EP h W Ä e u)(k:fg fl w W):e=Ç (Å Ä)/\fg fl w u:=by
 rcases a with⟨_,b,c⟩|⟨_,_,_,_,_,_,q,_⟩
 .exact⟨b,k.fj c⟩
 .cases q
def aor{e:ax}{s:St}{a:List (Nat×Int)}{b:List (Int×Bool)}(c:EP h W (Ã (s,a,b)) e u)(l:0<=h)(m:h<40)(k:fg fl w W):∃B,e=Ç (Å<|Ã ⟨B,0,Ä⟩)/\fg fl w u/\sk B ⟨s,a,b,h+1⟩ u/\TP B s (h+1) w u:=by
 rcases c with⟨q,_⟩|⟨n,o,p,B,d,f,q,g,x,i⟩
 .cases q
 .cases q;exact⟨B,g,k.fj x.M,x.aok i Z Z,ë k.M x.N,d,f,x.r,tB.I x.C,tB.I x.I,λj q=>ë k.M<|x.S j q,λj q=>ë k.M<|x.Y j q⟩
section
variable{bp:Option ă}{cp r x:Nat}{v:Int}{vs:List (Nat×fO)}{f:List (Nat×Tx)}
def aos{p:Nat×fO}(F:Ò À 97 #[Ê bp n cp,Â Ë v] w λe a=>e=Ç (j1<|Ã p.1)/\fg fl w a)(f:Cz r v x O b i w)(m:((n:Int)==40)=Ï)(N:∀W,fg fl w W->Ò À 99 #[Å<|Ã ⟨p.1,0,Ä⟩,Â Ë x,Ê O b i] W (EP p.2.h W Ä)): Ò À 50 #[Ê bp n cp,Å<|Ã ⟨r,0,Ä⟩] w (TQ vs (Ê bp n cp) w (Ä,nV 5)):=by
 have o:=f.N;have H:=fi<|Á F<|Á N f;go_enter ś,Ň;go_wp2_with (go_at_call 97;refine H.out.1.mono ?_;rintro e d ⟨rfl,c⟩;dsimp only[j1,Ū]);have g:=fi<|Á ((H.out.2.2.C c).C<|fg.fY fl _).M ((H.out.2.2.C c).C<|fg.fY fl _).I;go_region_held3 (λa=>a.cell? ⟨r,0,Ä⟩=Ã (Â Ë x)/\a.cell? ⟨r,8,Ä⟩=Ã (Ê O b i)) (first|exact g.out|exact j.out) (first
   |(go_at_call 99;refine(H.out.2.1 _ (c.fj kp)).mono ?_;rintro e k l;obtain⟨rfl,d⟩:e=Ç (Å Ä)/\fg fl w k:=aoq l (c.fj kp);dsimp only;have j:=fi (Á (H.out.2.2.C d).M (H.out.2.2.C d).I)))
 go_wp2_with (first
  |(go_at_call 98;refine(ER 5 A _).mono ?_;rintro e a ⟨rfl,c⟩;subst a))
 go_ret2;exact⟨d,Ø ⟨U,U⟩⟩
def aot{p:Nat×fO}{f:St}{g:List (Nat×Int)}{j:List (Int×Bool)}(k:qz bp n vs w)(Q:n<=40)(q:0<n)(s:n<=cp)(t:0<=p.2.h)(u:p.2.h<40)(F:Ò À 97 #[Ê bp n cp,Â Ë v] w λe a=>e=Ç (j1<|Ã p.1)/\fg fl w a)(l:Cz r v x O b i w)(S:((n:Int)==40)=Ï)(N:∀W,fg fl w W->Ò À 99 #[Å<|Ã ⟨p.1,0,Ä⟩,Â Ë x,Ê O b i] W (EP p.2.h W<|Ã (f,g,j))): Ò À 50 #[Ê bp n cp,Å<|Ã ⟨r,0,Ä⟩] w (TQ vs (Ê bp n cp) w (Ã ⟨f,g,j,p.2.h+1⟩,oC vs.length)):=by
 have T:=l.N;rw[<-k.r];have H:=fi<|Á F<|Á N<|Á l k;go_enter ś,Ň;go_wp2_with (go_at_call 97;refine H.out.1.mono ?_;rintro e o ⟨rfl,d⟩;dsimp only[j1,Ū]);have y:=fi<|Á ((H.out.2.2.1.C d).C<|fg.fY fl _).M ((H.out.2.2.1.C d).C<|fg.fY fl _).I;go_region_held3 (λa=>a.cell? ⟨r,0,Ä⟩=Ã (Â Ë x)/\a.cell? ⟨r,8,Ä⟩=Ã (Ê O b i)) (first|exact y.out|exact o.out) (first
   |(go_at_call 99;refine(H.out.2.1 _ (d.fj kp)).mono ?_;rintro e D z;obtain⟨B,rfl,c,C,m⟩:=aor (w:=w) z t u (d.fj kp);dsimp only;have o:=fi (Á (H.out.2.2.1.C c).M (H.out.2.2.1.C c).I)))
 have W:=aoo (H.out.2.2.2.I c) Z q s B;have z:=fi W;go_wp2_with (first
  |(go_at_call 100;refine z.out.mono ?_;rintro e G ⟨I,J,rfl,D,d,o,E⟩)
  |(go_at_call 101;refine(aal n Z _).mono ?_;rintro e a ⟨rfl,G⟩;subst a))
 go_ret2;refine⟨c.fj d,Ù ⟨_,B,_,U,U,⟨_,_,_,U,D,?_⟩,⟨m.C,by let⟨G,I,J,K,L,M,P⟩:=m.r;exact⟨G,I,J.I d id,K.C d,L.C d,M,P⟩⟩,_,_,_,U,ë c.M o.C,o.r⟩⟩;exact aop ((H.out.2.2.2.I c).I d) (C.Y d) E
def aou(a:qz bp n vs w)(C:n<=40)(j:0<n)(D:n<=cp)(t:∀p∈vs,p.2.h<40)(d:Cz r v x O b i w)(u:Ct O b f w)(E:b<=1000)(y:iP w)(G:x<8)(z:-1<=v): Ò À 50 #[Ê bp n cp,Å<|Ã ⟨r,0,Ä⟩] w (TQ vs (Ê bp n cp) w<|rj vs v x<|lT f):=by
 have L:=d.N;unfold rj;cases g:mG vs v with
 |none=>
  have F:=Mv (cp:=cp) a Z j v z;rw[g]at F;have H:=fi F;go_enter ś,Ň;go_wp2_with (first
   |(go_at_call 97;refine H.out.mono ?_;rintro e I ⟨rfl,q⟩;dsimp only[j1,Ū])
   |(go_at_call 98;refine(ER 3 A _).mono ?_;rintro e l ⟨rfl,J⟩;subst l))
  go_ret2;exact⟨q,Ø ⟨U,U⟩⟩
 |some p=>
  have m:=IC g;have c:=a.M m;have F:=Mv (cp:=cp) a Z j v z;rw[g]at F;have N:∀W,fg fl w W->Ò À 99 #[Å<|Ã ⟨p.1,0,Ä⟩,Â Ë x,Ê O b i] W (EP p.2.h W<|uY x p.2.s<|lT f):=λW k=>
   anj (c.r.r k id) c.I (by have:=c.M;omega) c.C (u.I k) (y.r k id) E G
  have K:=a.r;by_cases B:n=40
  .simp only;rw[if_pos Z];have H:=fi F;clear F N a d u y t c g m K;have o:((n:Int)==40)=Ú:=by rw[B];rfl
   clear B;go_enter ś,Ň;go_wp2_with (first
    |(go_at_call 97;refine H.out.mono ?_;rintro e I ⟨rfl,q⟩;dsimp only[j1,Ū])
    |(go_at_call 98;refine(ER 4 A _).mono ?_;rintro e l ⟨rfl,J⟩;subst l))
   go_ret2;exact⟨q,Ø ⟨U,U⟩⟩
  .simp only;rw[if_neg Z];have o:((n:Int)==40)=Ï:=by rw[beq_eq_false_iff_ne];omega
   have l:=t p m;have H:=c.I;cases e:uY x p.2.s (lT f)with
   |none=>
    rw[e]at N;exact aos F d o N
   |some q=>
    let⟨I,J,M⟩:=q;rw[e]at N;exact aot a C j D H l F d o N
end
theorem aov(h:l.length=145):À.built 139 [(0,Ē l.toArray)]=Ã (l++[Â Ë 0,Ê Ä 0 0]).toArray:=by let⟨z,d,a,b,c⟩:=Tz aad aae A;rw[Ty aaf a,c];have:=Mc (place:=λi=>[(0,145),(145,1),(146,1)].toArray[i]?) (pre:=[]) (suf:=[Â Ë 0,Ê Ä 0 0]) (i:=0) (v:=Ē l.toArray) (rest:=[]) U (by show l.toArray.size=145;simp[h]) b;simpa[ı,ğ]using this
theorem aow(a:o.op=Χ 139 #[(0,qQ)])(b:xX qQ=Ē l.toArray)(c:l.length=145):(Ĥ xX o).run À w=φ (.value<|Ē (l++[Â Ë 0,Ê Ä 0 0]).toArray) w:=by grind [TA,aov]
def ku:fO:=⟨kl 8,[],[],0⟩
def aaG:gM (kl 8):=by refine⟨λi=> ?_,λi j=>⟨Ö _,show(0:Int)<18446744073709551616 by decide⟩,λi=>⟨show(0:Nat)<=40 by decide,λc a=>by cases a⟩⟩;show gq (if i<8 then 1000 else 0);split<;>exact⟨A,A⟩
theorem aox{s:St}(b:gM s)(h:fp i (iA s++[Ê Ä 0 0]++[Â Ë 0,Ê Ä 0 0]) 139 w):sk i ⟨s,[],[],0⟩ w:=by
 have c:=sf s;refine⟨⟨λj v d=> ?_,?_⟩,b,Ö _,show(0:Int)<=40 by decide,?_,?_⟩
 .rw[ł];apply h.r j v;grind
 .apply h.r 145 _;simp_all
 .refine⟨Ä,0,h.r 144 _ ?_,λj x a=>by cases a⟩;grind
 .refine⟨Ä,0,h.r 146 _ ?_,λj x a=>by cases a⟩;simp_all
def yj(ls:List (Nat×Int)):Prop:=∀e∈ls,e.1<8/\gq e.2
def TR(J:St->List (Nat×Int)->Prop)(F:lS):Prop:=∀s a x y g k,gM s->x<8->y<8->gq k->0<=g->g<=100000->(a.length:Int)+g<=1000000->J s a->J (F s a x y g k).s (F s a x y g k).I
structure aaH(J:St->List (Nat×Int)->Prop):Prop where
 st:∀{s ls} (y j:Nat) (v:Int),J s ls->J (s.r y j v) ls
 mv:∀{s ls y} (q:Int) {p:Int},gM s->y<8->gq p->J s ls->J (rh s y q p).2 ls
 lg:∀{s ls y p},y<8->gq p->J s ls->J s (ls++[(y,p)])
section
variable{c:RC}{F:lS}{J:St->List (Nat×Int)->Prop}
theorem aoy(b:aaH J)(i:TR J F)(d:c.y<8)(k:Nat)(t:RT)(o:k<=20)(a:oe t)(h:J t.s t.C):J (lH F c k t).s (lH F c k t).C:=by
 have f:=tx a.r;have g:=tx<|pL a.r;by_cases j:k=16
 .subst j;exact b.st _ _ _ h
 by_cases l:k=18
 .subst l;exact b.mv _ a.s d g h
 by_cases m:k=19
 .subst m;exact b.lg d f h
 by_cases n:k=20
 .subst n;show J (jb F c t _ _ _).2.2.s (jb F c t _ _ _).2.2.C;unfold jb;split
  .exact h
  .have e:=tx<|pL<|pL a.r;have p:=a.g0;have q:=a.C;have r:=a.I;have u:=f.1;have v:=g.1;exact i _ _ _ _ _ _ a.s d Z e Z Z Z h
 have e:(lH F c k t).s=t.s/\(lH F c k t).C=t.C:=by unfold lH;grind
 grind
def aaI(b:aaH J):∀n,TR J<|se n
 |0=>λ_ _ _ _ _ _ _ _ _ _ _ _ _ h=>h
 |n+1=>λs d x y g k a f e i j l m h=>by
  show J (qx (se n) ⟨x,y,k,4-(n:Int),g⟩ s d).s (qx (se n) ⟨x,y,k,4-(n:Int),g⟩ s d).I;unfold qx;simp only;split
  .exact(EM (c:=⟨x,y,k,4-(n:Int),g⟩) (a.I y).1 (λn o=>Te a y o) (Ij n) f e i (aoy b (aaI b n) e) _ _ _ uW ⟨ft,ft,a,j,l,m⟩ h).2
  .exact h
end
def TS:TR (λ_ e=>yj e) gw:=aaI ⟨λ_ _ _ h=>h,λ_ _ _ _ _ h=>h,λa b h e c=>by
 rcases ú.1 c with q|q
 .exact h e q
 .simp at q;subst q;exact⟨a,b⟩⟩ 4
def aoz{s:St}(b:gM s){ls:List (Nat×Int)}{t:Tx}(a:t.Ok)(c:(ls.length:Int)+400<=1000000)(h:yj ls):yj (lJ s ls t).2.2.2:=by
 unfold lJ;split
 .exact h
 .split
  .exact h
  .unfold wx;split
   .exact h
   .rename_i d;have e:=(b.fw t.x).2;exact TS _ ls t.x t.y (t.n-10) t.k (b.r t.x ⟨Z,Z⟩) a.x a.y ⟨a.r,by have:=a.C;omega⟩ Z Z Z h
def Af(a:List (Int×Bool)):Prop:=∀e∈a,0<=e.1/\e.1<=400
def Af.OY{a:List (Int×Bool)}(h:Af a){e:Int×Bool}(b:0<=e.1)(c:e.1<=400):Af (a++[e]):=λx d=>by
 rcases ú.1 d with q|q
 .exact h x q
 .simp at q;subst q;exact⟨b,c⟩
structure TT(v:fO):Prop where
 C:yj v.r
 r:Af v.C
 I:v.r.length<=400000
 M:v.C.length<=1000
def TU:∀(gN:List Tx) {s:St} {ls:List (Nat×Int)} {a:List (Int×Bool)} {r:St×List (Nat×Int)×List (Int×Bool)},(∀t∈gN,t.Ok)->gM s->yj ls->Af a->ls.length+400*gN.length<=400000->a.length+gN.length<=1000->ri m s ls a gN=Ã r->gM r.1/\yj r.2.1/\Af r.2.2/\r.2.1.length<=400000/\r.2.2.length<=1000
 |[],s,ls,a,r,_,hs,hl,hu,n1,n2,h=>by cases h;exact⟨hs,hl,hu,by simpa using n1,by simpa using n2⟩
 |t::q,s,ls,a,r,ht,hs,hl,hu,n1,n2,h=>by
  unfold ri at h;simp only[Ľ]at n1 n2;split at h
  .have d:=aak (ls:=ls) hs (ht t ft) Z;have e:=d.C;exact TU q (λb c=>ht b<|Ś _ c) (d.s.r m<|zY _) (aoz hs (ht t ft) Z hl) (hu.OY d.g0 d.r) Z (by simp;omega) h
  .cases h
def aoA{s:St}{gN:List Tx}{r:St×List (Nat×Int)×List (Int×Bool)}(a:∀t∈gN,t.Ok)(b:gM s)(j:gN.length<=1000)(e:uY m s gN=Ã r):TT ⟨r.1,r.2.1,r.2.2,h⟩:=by unfold uY at e;obtain⟨k,c,rfl⟩:=Ì.1 e;let⟨_,d,f,g,i⟩:=TU gN a b (λ_ q=>by cases q) (λ_ q=>by cases q) (by simp;omega) (by simp;omega) c;exact⟨d,f,g,i⟩
end Go.Proofs.Y.fV
namespace Go.Proofs
open Go.Shelf
def Tryz.lays283_ren:Ĭ:=⟨fun|283=>171|n=>n,fun|3=>3|9=>9|4=>4|n=>n,fun|n=>n⟩
def Tryz.lays283:aK À Tryz.lays283_ren:={
 mixed:=fv
 f283:=Ź.trans<|congrArg Ã fv
 t3:=Ě
 a3:=Ŝ
 z3:=ň
 v3:=ħ
 t4:=ě
 a4:=ŝ
 z4:=ŉ
 v4:=Ĩ
 t9:=đ
 a9:=Ş
 z9:=Ŋ
 v9:=ĩ}
open Go.Lib in
def Tryz.internal_strconv_small(i:Nat)(h:i<100)(w:É):
 Ò À 171 #[Â Ë i] w λe a=>e=Ç (Í ⟨(Ļ i).toArray⟩)/\a=w:=Any.internal_strconv_small Tryz.lays283 i h w
def Tryz.laysM284_ren:Ĭ:=⟨fun|284=>172|129=>182|317=>181|318=>183|n=>n,fun|53=>23|3=>3|212=>285|0=>0|4=>4|46=>161|5=>5|9=>9|n=>n,fun|17=>1|n=>n⟩
def Tryz.laysM284:Go.Proofs.LaysM.n284 À Tryz.laysM284_ren:={
 mixed:=fv
 f129:=Tryz.func182.trans<|congrArg Ã fv
 f284:=Tryz.func172.trans<|congrArg Ã fv
 f317:=Tryz.func181.trans<|congrArg Ã fv
 f318:=Tryz.func183.trans<|congrArg Ã fv
 t0:=Γ
 a0:=aH
 z0:=ay
 v0:=Ρ
 t3:=Ě
 a3:=Ŝ
 z3:=ň
 v3:=ħ
 t4:=ě
 a4:=ŝ
 z4:=ŉ
 v4:=Ĩ
 t5:=Δ
 a5:=aI
 z5:=az
 v5:=Τ
 t9:=đ
 a9:=Ş
 z9:=Ŋ
 v9:=ĩ
 t46:=ū
 a46:=ρ
 z46:=ε
 v46:=ż
 t53:=ķ
 a53:=Ž
 z53:=Ŧ
 v53:=ŀ
 t212:=Tryz.underlying285
 a212:=Tryz.isAgg285
 z212:=Tryz.sizeOf285
 v212:=Tryz.zeroValue285
 g17:=fv
 i0:=fv
 i3:=fv
 i4:=fv
 i5:=fv
 i9:=fv
 i46:=fv
 i53:=fv
 i212:=fv
 m17:=by kernel_rfl}
open Go.Lib in
def Tryz.internal_strconv_numDigits(u:Nat)(a:1<=u)(b:u<18446744073709551616)(w:É)(c:ω À w "internal/strconv.uint64pow10" Æ aA):
 Ò À 172 #[Â Æ u] w λe d=>e=Ç (Â Ë<|č u)/\d=w:=Any.internal_strconv_numDigits Tryz.laysM284 u a b w c
def Tryz.lays285_ren:Ĭ:=⟨fun|285=>173|n=>n,fun|37=>98|53=>23|3=>3|4=>4|51=>86|9=>9|5=>5|0=>0|n=>n,fun|n=>n⟩
def Tryz.lays285:aL À Tryz.lays285_ren:={
 mixed:=fv
 f285:=Tryz.func173.trans<|congrArg Ã fv
 t0:=Γ
 a0:=aH
 z0:=ay
 v0:=Ρ
 t3:=Ě
 a3:=Ŝ
 z3:=ň
 v3:=ħ
 t4:=ě
 a4:=ŝ
 z4:=ŉ
 v4:=Ĩ
 t5:=Δ
 a5:=aI
 z5:=az
 v5:=Τ
 t9:=đ
 a9:=Ş
 z9:=Ŋ
 v9:=ĩ
 t37:=Ā
 a37:=Tryz.isAgg98
 z37:=Tryz.sizeOf98
 v37:=Tryz.zeroValue98
 t51:=ž
 a51:=aB
 z51:=ς
 v51:=Ε
 t53:=ķ
 a53:=Ž
 z53:=Ŧ
 v53:=ŀ}
open Go.RowKit Go.Sort Go.Lib in
def Tryz.internal_strconv_formatBase10(a c f:Nat)(u:Nat)(d:Array UInt8)(w:É)(h:Holds (λ(b:UInt8)=>Â aU (b.toNat:Int)) w a c d)(i:u<10^d.size)(j:u<18446744073709551616)(k:d.size<4611686018427387904):
 Ò À 173 #[Ê (Ã ⟨a,c,Ä⟩) d.size f,Â Æ u] w λe l=>
  e=Ç (æ #[])/\∃(n m:Nat) (g:Array UInt8),l=(ζ (λ(b:UInt8)=>Â aU (b.toNat:Int)) w a c g).drewN n/\FmtInv d.size u 0 m g:=Any.internal_strconv_formatBase10 Tryz.lays285 a c f u d w h i j k
def Tryz.lays99_ren:Ĭ:=⟨fun|99=>159|206=>178|n=>n,fun|9=>9|4=>4|3=>3|n=>n,fun|n=>n⟩
def Tryz.lays99:aS À Tryz.lays99_ren:={
 mixed:=fv
 f99:=Tryz.func159.trans<|congrArg Ã fv
 f206:=Tryz.func178.trans<|congrArg Ã fv
 t3:=Ě
 a3:=Ŝ
 z3:=ň
 v3:=ħ
 t4:=ě
 a4:=ŝ
 z4:=ŉ
 v4:=Ĩ
 t9:=đ
 a9:=Ş
 z9:=Ŋ
 v9:=ĩ}
open Go.RowKit Go.Lib in
def Tryz.strings_HasPrefix(s p:ByteArray)(w:É):
 Ò À 159 #[Í s,Í p] w λe a=>e=Ç (Ñ<|Lib.hasPrefix s.data.toList p.data.toList)/\a=w:=Any.strings_HasPrefix Tryz.lays99 s p w
def Tryz.lays212_ren:Ĭ:=⟨fun|212=>158|263=>176|264=>177|n=>n,fun|46=>161|51=>86|146=>279|53=>23|148=>281|n=>n,fun|n=>n⟩
def Tryz.lays212:aN À Tryz.lays212_ren:={
 mixed:=fv
 f212:=Tryz.func158.trans<|congrArg Ã fv
 f263:=Tryz.func176.trans<|congrArg Ã fv
 f264:=Tryz.func177.trans<|congrArg Ã fv
 t46:=ū
 a46:=ρ
 z46:=ε
 v46:=ż
 t51:=ž
 a51:=aB
 z51:=ς
 v51:=Ε
 t53:=ķ
 a53:=Ž
 z53:=Ŧ
 v53:=ŀ
 t146:=Tryz.underlying279
 a146:=Tryz.isAgg279
 z146:=Tryz.sizeOf279
 v146:=Tryz.zeroValue279
 t148:=Tryz.underlying281
 a148:=Tryz.isAgg281
 z148:=Tryz.sizeOf281
 v148:=Tryz.zeroValue281}
open Go.RowKit Go.Lib in
def Tryz.bits_Mul(x y:Nat)(a:x<18446744073709551616)(b:y<18446744073709551616)(w:É):
 Ò À 158 #[Â Æ x,Â Æ y] w λe c=>e=Ç (æ #[Â Æ ((x*y/18446744073709551616:Nat):Int),Â Æ ((x*y%18446744073709551616:Nat):Int)])/\c=w:=Any.bits_Mul Tryz.lays212 x y a b w
end Go.Proofs
namespace Go.Proofs.Y.fV
open Go Go.Proofs Go.RowKit Go.Sort Go.Proofs.Y.Lift
def Ag:UInt8->È:=λb=>Â aU (b.toNat:Int)
def lU(w:É):Prop:=ω À w "internal/strconv.uint64pow10" Æ aA
def aoB(a:ko w)(b:Nat)(f:Array È->Array È):ko (Ł w b f):=by
 intro i o h;unfold Ł at h;simp only[Û]at h;split at h
 .cases d:w.heap[i]? with
  |none=>rw[d]at h;cases h
  |some e=>
   have:=a _ _ d;rw[d]at h;cases e with
   |cells c t z=>simp only[ñ,è]at h;subst h;exact λx=>x
   |_=>exact absurd trivial this
 .exact a i o h
def aoC(a:rZ m w)(b:Nat)(f:Array È->Array È)(j:NF b w):rZ m (Ł w b f):=by
 intro i c T k l h g;unfold Ł at h;simp only[Û]at h;split at h
 .rename_i e;subst e;cases d:w.heap[b]? with
  |none=>rw[d]at h;cases h
  |some n=>
   rw[d]at h;cases n with
   |cells o t z=>
    simp only[ñ,è,onCells,ģ]at h;have:=j _ _ _ d;rw[h.2.1,g]at this;cases this
   |_=>simp only[ñ,è,onCells]at h;cases h
 .exact a i c T k l h g
def fg.fR(w:World)(T:TypeId)(cs:Array Value)(off:Nat)(d:Array UInt8)(n:Nat)(hT:mD T=false:=by decide):fg fl w ((putRow Ag (w.alloc<|.cells cs T) w.heap.size off d).drewN n):= ⟨by simp[ζ,Ł,World.drewN],λk hk _=>by show(Ł (w.alloc<|Ð cs T) w.heap.size _).heap[k]?=_;unfold Ł;simp only[Û];rw[if_neg Z];exact ď _ _ _ hk,λa=>aoB (H2 a cs T (0,0)) _ _,λ_ a=>aoC (H3 a cs T (0,0)<|Ø hT) _ _<|fp.G (fp.N w cs.toList T) hT⟩
def aoD(w:É)(T:õ)(a:Nat)(c:a<=24):Holds Ag (w.alloc<|Ð ġ T) w.heap.size 0 (ō a (0:UInt8)):=λj b=>by
 have d:j<a:=by simpa using b
 refine⟨?_,World.frozen?_alloc_new _ _ _ _⟩;rw[World.cell?_alloc_new,Lib.zeros24_at _ Z,getElem!_pos _ j b];simp[Ag]
def fG(u:Nat):ByteArray:=⟨(Ļ u).toArray⟩
def aoE(u:Nat)(h:u<100)(w:É):Ò À 156 #[Â Æ u,Â Ë 10] w λe a=>e=Ç (Í<|fG u)/\a=w:=by go_enter aC,σ;go_wp2_with (go_at_call 171;refine(Tryz.internal_strconv_small u h _).mono ?_;rintro e a ⟨rfl,rfl⟩);go_ret;exact⟨U,U⟩
def aoF(u:Nat)(h:¬u<100)(c:u<18446744073709551616)(w:É)(m:lU w):Ò À 156 #[Â Æ u,Â Ë 10] w λe b=>e=Ç (Í<|fG u)/\fg fl w b:=by
 have g:1<=u:=Z
 have o:č u<=20:=by have:=Lib.numDigits_eq u g c;split at this<;>omega
 have n:À.arrayLen 270=24:=fv
 have p:∀W,(Instr.sliceAt 270 (Å<|Ã ⟨w.heap.size,0,Ä⟩) Ä (Ã<|Â Ë (č u:Int)) Ä).run À W=φ (Ê (Ã ⟨w.heap.size,0,Ä⟩) (č u) 24) W:=λW=>by rw[run_sliceAt_array_h W 270 ⟨w.heap.size,0,Ä⟩ (by simp[Program.arrayLen,Program.elem,Tryz.type270]) Ë (č u:Int) Z (by rw[n];omega)];go_simp
 have i:=aoD w 270 (č u) Z;have l:=Tryz.internal_strconv_formatBase10 w.heap.size 0 24 u (ō (č u) 0) (w.alloc<|Ð ġ 270) i (by rw[Ď];exact Lib.lt_pow_nDigits u) c (by rw[Ď];omega);rw[Ď]at l;go_enter aC,σ;go_wp2_with (go_at_call 172;refine(Tryz.internal_strconv_numDigits u g c _<|Lib.tabIs_alloc m _).mono ?_;rintro e b ⟨rfl,rfl⟩);go_at_call 173;apply l.mono;rintro e b ⟨rfl,k,q,a,d,hF⟩;replace d:b=(ζ Ag (w.alloc<|Ð ġ 270) w.heap.size 0 a).drewN k:=d;subst d;have r:(convert 98 9<|Ê (Ã ⟨w.heap.size,0,Ä⟩) (č u) 24).run À ((ζ Ag (w.alloc<|Ð ġ 270) w.heap.size 0 a).drewN k)=φ (Í<|fG u) ((ζ Ag (w.alloc<|Ð ġ 270) w.heap.size 0 a).drewN k):=by have h:=run_convert_bytes_back (P:=À) ((ζ Ag (w.alloc<|Ð ġ 270) w.heap.size 0 a).drewN k) 98 9 5 ⟨w.heap.size,0,Ä⟩ 24 (Ļ u) fv fv fv (λj f=>by rw[Lib.row_is_numeral hF j f,Lib.add_plain,World.cell?_drewN];exact cell?_putRow Ag _ w.heap.size 0 _ a (Lib.hid i).out (by rw[hF.size,Ď]) j<|by rw[hF.size];rwa[Ģ]at f);rwa[Ģ]at h
 go_wp2;go_ret;exact⟨U,fg.fR w 270 _ _ a k⟩
def aoG(u:Nat)(d:u<18446744073709551616)(w:É)(f:lU w):Ò À 156 #[Â Æ u,Â Ë 10] w λe c=>e=Ç (Í<|fG u)/\fg fl w c:=by
 by_cases h:u<100
 .exact(aoE u h w).mono λe c ⟨a,b⟩=>⟨a,b▸fg.gd _ _⟩
 .exact aoF u h d w f
def aoH(u:Nat)(b:u<18446744073709551616)(w:É)(c:lU w):Ò À 141 #[Â Æ u,Â Ë 10] w λe a=>e=Ç (Í<|fG u)/\fg fl w a:=by go_enter Tryz.func141,Tryz.ntmps141;go_wp2_with (go_at_call 156;refine(aoG u b _ c).mono ?_;rintro e a ⟨rfl,d⟩);go_ret;exact⟨U,d⟩
def yk(u:Nat)(b:u<18446744073709551616)(w:É)(c:lU w):Ò À 102 #[Â Æ u] w λe a=>e=Ç (Í<|fG u)/\fg fl w a:=by go_enter Tryz.func102,Tryz.ntmps102;go_wp2_with (go_at_call 141;refine(aoH u b _ c).mono ?_;rintro e a ⟨rfl,d⟩);go_ret;exact⟨U,d⟩
end Go.Proofs.Y.fV
namespace Go.Proofs.Y.fV
open Go Go.Proofs Go.RowKit Go.Proofs.Y.Lift
def TV(B:Nat):ja:=⟨B,136,[]⟩
def aoI(B:Nat):(TV B).Ok:=⟨show(136:Nat)≠23 by decide,show(136:Nat)≠250 by decide,show(136:Nat)≠276 by decide,show(136:Nat)≠294 by decide,show(136:Nat)≠245 by decide,show(136:Nat)≠239 by decide⟩
def aaJ{s:St}(l:mF n s h w)(z:gM s)(B:iP w)(x y:Nat)(g k:Int)(T:x<8)(V:y<8)(Y:0<=g)(wv:g<=100000)(hk:gq k)(r:zW)(D:r=gw s [] x y g k): Ò À 142 #[Å<|Ã ⟨n,0,Ä⟩,Â Ë x,Â Ë y,Â Æ g,Â Æ k] w λe f=>
  ∃lv,e=Ç (æ #[Ē #[Â Æ r.r,Ñ r.C,Â Æ r.M],lv])/\f.ownsRow 0 250 2 lv r.I.length (kr r.I)/\fg fl w f:=by
 let⟨dd,E,F⟩:=Ì.1 TC;have G:(À.info? 132).map (·.size)=Ã (iA s).length:=by rw[sf];exact aah
 let⟨i0,z0,I,J,K,L⟩:=Q' Q_;have m:=Tl s (lv:=Ê Ä 0 0) U;rw[Aa]at m;have o:(iA s++[Ê Ä 0 0]).length=145:=by rw[Ó,sf];rfl
 have M:=fg.gL fl w #[Â Æ 0,Ñ Ï,Â Æ 0] 245;have N:=(l.r M id).C;have gP:=á w _ l.h;have C:∀W,iF (w.heap.size+1) 136 [] s (Ê Ä 0 0) W->iP W->Ò À 157 #[Å<|Ã ⟨w.heap.size+1,0,Ä⟩,Â Ë x,Â Ë y,Â Æ g,Â Æ k,Â Ë 1] W λe f=>e=Ç (Ē #[Â Æ r.r,Ñ r.C,Â Æ r.M])/\∃jD,iz (TV<|w.heap.size+1) (Ê Ä 0 0) 0 W r.s r.I f jD:=λW hW hrW=>by rw[D];exact X_ (TV<|w.heap.size+1) (aoI _) s _ [] x y g k W hW (ĉ _ _ _ _) hrW z T V Y wv hk<|by simp;omega
 have a:=fi<|Á E<|Á F<|Á G<|Á N<|Á I<|Á K<|Á (J.trans o.symm)<|Á (L.trans o.symm) m;have H:=fi<|Á B C;clear E F G I J K L m o N l C B z M D;go_enter Tryz.func142,Tryz.ntmps142;go_wp2_with (first
  |(with_reducible refine ĥ U 132 _ U n 0 U (iA s) dd a.out.2.2.2.1 a.out.1 a.out.2.1 a.out.2.2.1 ?_)
  |(with_reducible refine Ć U (Ã 19) U _ _ (TB U U<|sf s) ?_)
  |(with_reducible refine P_ U U 136 U 12 U _ _ U U a.out.2.2.2.2.1 a.out.2.2.2.2.2.1 (iA s++[Ê Ä 0 0]) a.out.2.2.2.2.2.2.1 a.out.2.2.2.2.2.2.2.1 U U a.out.2.2.2.2.2.2.2.2 ?_;intro t Ma O EB))
 have wh:t.heap.size=w.heap.size+1+1:=by simpa using EB
 have P:iF (w.heap.size+1) 136 [] s (Ê Ä 0 0) t:=by unfold iF;rw[ò,Aa];simpa using Ma
 have Q:=(fg.gL _ _ _ _).fj O;have Bf:=(fp.N w [Â Æ 0,Ñ Ï,Â Æ 0] 245).I O id;go_at_call 157;refine(H.out.2 t P<|H.out.1.r Q id).mono ?_;rintro e u ⟨rfl,lv,d⟩;have b:=Bf.I d.C (λq=>q.elim (λq=>absurd q<|by show w.heap.size≠w.heap.size+1;omega) λq=>by cases q);have sW:=d.C.M;have hlv:u.cell? ⟨w.heap.size+1,144,Ä⟩=Ã lv:=d.r.H9 Z;obtain⟨la,lc,rfl⟩:=jN d.I;have l0:=b.M;have y0:=b.C 0;have y1:=b.C 1;have y2:=b.C 2;have c0:=b.r 0 _ U;have c1:=b.r 1 _ U;have c2:=b.r 2 _ U;have Tt:w.heap.size+1<u.heap.size:=Z
 have c:=fi<|Á d<|Á b<|Á Q P;go_wp2_with fail;go_region;go_wp2_with fail;let⟨d2,n9,xC⟩:=Ì.1 Tn;have S:=((fg.I (X:=λk=>k=w.heap.size) (w:=u) (p:=⟨w.heap.size,0,Ä⟩) U<|Â Æ r.r).fj<|fg.I (X:=λk=>k=w.heap.size) (p:=⟨w.heap.size,1,Ä⟩) U<|Ñ r.C).fj (fg.I (X:=λk=>k=w.heap.size) (p:=⟨w.heap.size,2,Ä⟩) U<|Â Æ r.M);have v:=λW=>(fg.gL fl W #[Â Æ r.r,Ñ r.C,Â Æ r.M] 245).fj<|fg.fY _ _;apply ð (z8 U U (fp.Y (vs:=[Â Æ r.r,Ñ r.C,Â Æ r.M])<|(((c.out.2.1.fR 0<|Â Æ r.r).fR 1<|Ñ r.C).fR 2<|Â Æ r.M).I (v _) id) n9 xC To) U;refine⟨_,U,im (im c.out.1.I S λj hj y=> ?_) (v _) λ_ _=>id,?_⟩
 .let⟨j,i⟩:=me c.out.1.I hj;rw[y,c.out.2.1]at i;cases i
 .refine((c.out.2.2.1.C c.out.1.C λi j q=> ?_).C S λi j q=> ?_).fj<|v _
  .rcases q with q|q
   .exact absurd q<|by show i≠w.heap.size+1;omega
   .cases q
  .omega
def tC(s:St)(x y:Nat)(k:Int):Nat->Nat->ByteArray
 |_,0=>⟨#[45]⟩
 |i,n+1=>if(gw s [] x y i k).C then fG i else tC s x y k (i+1) n
noncomputable def Mx:ŏ:=(Tryz.f104.body.bind kB).getD ĵ
def CB(a x y:Nat)(k:Int)(r:È)(i:Int)(u:Nat->È):é:=⟨#[Å<|Ã ⟨a,0,Ä⟩,Â Ë x,Â Ë y,Â Æ k,u 4,u 5,u 6,u 7,r,u 9,u 10,u 11,Â Æ i,u 13,u 14,u 15,u 16,u 17,u 18,u 19,u 20,u 21,u 22,u 23,u 24,u 25,u 26,u 27,u 28,u 29],[]⟩
def Ah(b x y:Nat)(k:Int)(r:È)(i:Int)(a:é):Prop:=∃u,a=CB b x y k r i u
theorem lU.r(h:lU w)(q:fg fl w u):lU u:=by
 unfold lU ω World.var? at*;cases a:À.globalNamed "internal/strconv.uint64pow10" with
 |none=>rw[a]at h;cases h
 |some g=>
  rw[a]at h;simp only[Option.bind_some]at h|-;have b:g<w.heap.size:=by grind
  rwa[q.N g b id]
section
variable{Y:é->É->Prop}{s:St}
def aoJ(b:È)(u:Nat->È)(d:∀a,Ah j i n c b 401 a->H a w): Î À Mx (Exit.then K<|QN H Y) (CB j i n c b 401 u) w:=by
 unfold CB;conv=>arg 2;whnf
 go_wp2_with fail
 exact d _ (gy _)
def aoK(p:È)(u:Nat->È)(b:Nat)(P:b<401)(B:mF j s h w)(C:gM s)(D:iP w)(E:lU w)(F:i<8)(G:n<8)(I:gq c) (q:(gw s [] i n b c).C=Ï->∀a g,Ah j i n c p ((b+1:Nat):Int) a->fg fl w g->K a g) (r:(gw s [] i n b c).C=Ú->∀a g,Ah j i n c (Í<|fG b) b a->fg fl w g->Y a g): Î À Mx (Exit.then K<|QN H Y) (CB j i n c p b u) w:=by
 unfold CB;conv=>arg 2;whnf
 have T:=aaJ B C D i n b c F G Z Z I _ U;obtain⟨t,o,v,x,y,J⟩:∃t o v x y,gw s [] i n b c=⟨t,o,v,x,y⟩:=⟨_,_,_,_,_,U⟩;rw[J]at T q r;have d:=fi<|Á T<|Á q<|Á r E;cases o with
 |true=>
  go_wp2_with (first
   |(go_at_call 142;refine d.out.1.mono ?_;rintro e l ⟨L,rfl,f,k⟩;obtain⟨M,N,rfl⟩:=jN f;have m:=fi<|Á k f;clear k f)
   |(go_at_call 102;refine(yk b Z _ (d.out.2.2.2.r (m.out.1.fj (fg.gL fl l _ _)))).mono ?_;rintro e Q ⟨rfl,z⟩;have O:=fi z;clear z))
  exact d.out.2.2.1 trivial _ _ (gy _)<|(m.out.1.fj<|fg.gL fl l _ _).fj O.out
 |false=>
  go_wp2_with (first
   |(go_at_call 142;refine d.out.1.mono ?_;rintro e l ⟨L,rfl,f,k⟩;obtain⟨M,N,rfl⟩:=jN f;have m:=fi (Á k f);clear k f))
  exact d.out.2.1 trivial _ _ (gy _)<|m.out.1.fj<|fg.gL fl l _ _
def LI(j i n:Nat)(c:Int)(d:È)(s:St)(e:É)(f:ByteArray)(a:é)(w:É):Prop:=
 ∃b:Nat,Ah j i n c d b a/\b<=401/\fg fl e w/\tC s i n c b (401-b)=f
def LE(j i n:Nat)(c:Int)(b:È)(d:É)(e:ByteArray)(a:é)(w:É):Prop:=Ah j i n c b 401 a/\fg fl d w/\e=⟨#[45]⟩
def LR(j i n:Nat)(c:Int)(d:É)(e:ByteArray)(a:é)(w:É):Prop:=∃b,Ah j i n c (Í e) b a/\fg fl d w
def My(a:é)(_:É):Nat:=match a.tmps.getD 12 ā with
 |Â _ i=>401-i.toNat
 |_=>0
def aaK(d:Ah j i n c v b y):My y w=401-b:=by obtain⟨u,rfl⟩:=d;show 401-(b:Int).toNat=_;simp
def aoL(p:mF j s h u)(r:gM s)(t:iP u)(x:lU u)(y:i<8)(z:n<8)(C:gq c)(a:é)(w:É)(D:LI j i n c v s u B a w): Î À Mx (Exit.then (λg k=>LI j i n c v s u B g k/\My g k<My a w)<|QN (LE j i n c v u B)<|LR j i n c u B) a w:=by
 let⟨b,o,H,e,f⟩:=D;rw[aaK (w:=w) o];obtain⟨d,rfl⟩:=o;by_cases E:b=401
 .subst E;exact aoJ v d λa q=>⟨q,e,f.symm⟩
 .have F:401-b=(401-(b+1))+1:=Z
  rw[F,tC]at f;refine aoK v d b Z (p.r e id) r (t.r e id) (x.r e) y z C ?_ ?_
  .intro l g k q m;rw[l]at f;exact⟨⟨b+1,q,Z,e.fj m,f⟩,by rw[aaK q];omega⟩
  .intro l g k q m;rw[l]at f;have G:fG b=B:=f;rw[G]at q;exact⟨b,q,e.fj m⟩
def aoM(d:mF j s h w)(f:gM s)(g:iP w)(k:lU w)(l:i<8)(m:n<8)(o:gq c): Ò À 104 #[Å<|Ã ⟨j,0,Ä⟩,Â Ë i,Â Ë n,Â Æ c] w λe a=>e=Ç (Í<|tC s i n c 0 401)/\fg fl w a:=by
 have L:∀a,Ah j i n c (Í ⟨#[]⟩) 0 a->Î À (à Mx) (QN (LE j i n c (Í ⟨#[]⟩) w<|tC s i n c 0 401)<|LR j i n c w<|tC s i n c 0 401) a w:=λa p=>
  Ĉ (LI j i n c (Í ⟨#[]⟩) s w<|tC s i n c 0 401) My ⟨0,p,â _,fg.gd _ _,U⟩<|aoL d f g k l m o
 generalize tC s i n c 0 401=r at*;go_enter Tryz.func104,Tryz.ntmps104;go_wp2_with fail;refine Ý ?_ ((fi L).out _ (gy _));rintro(_|(_|_)|_|_|_|_) a v hq;all_goals first|exact absurd hq id|skip
 .obtain⟨b,q,rfl⟩:=hq;obtain⟨u,rfl⟩:=b;unfold CB;go_wp2_with fail;go_ret;simp_all
 .let⟨e,b,q⟩:=hq;obtain⟨u,rfl⟩:=b;unfold CB;go_wp2_with fail;go_ret;simp_all
end
def Ai:(À.info? 9).map (λi=>(i.zero,i.size,i.bytes))=Ã (Ã<|Í ⟨#[]⟩,1,16):=fv
def kP(xs:List ByteArray):List È:=xs.map Í
structure iq(w0:É)(tv:È)(xs:List ByteArray)(w:É):Prop where
 fx:w.ownsRow w0.heap.size 9 1 tv xs.length (kP xs)
 r:fg fl w0 w
section
variable{w0:É}{tv:È}{xs:List ByteArray}
def iq.M(w0:É){w:É}(k:fg fl w0 w):iq w0 (Ê Ä 0 0) [] w:=⟨ĉ _ _ _ _,k⟩
def iq.fP(h:iq w0 tv xs w)(k:fg fl w u):iq w0 tv xs u:=⟨im h.fx k λ_ _=>id,h.r.fj k⟩
def iq.C(h:iq w0 tv xs w)(a:qn w w0.heap.size 9 1 tv xs.length (kP xs) 1 [Í B] v u):iq w0 v (xs++[B]) u:=by
 refine⟨?_,h.r.C a.r λi b q=> ?_⟩
 .have:=a.fx;rwa[show kP xs++[Í B]=kP (xs++[B]) by simp[kP],show xs.length+1=(xs++[B]).length by simp]at this
 .have:=(h.fx.lt i q).1;omega
end
theorem pM(u:Nat)(h:u<18446744073709551616):(fG u).size<=20:=by have:=Lib.nDigits_le20 u h;unfold fG;show(Ļ u).toArray.size<=20;grind [Ģ]
def nJ(p:Option ă)(a:List È)(w:É):Prop:=∀(j:Nat) (x:È),a[j]?=Ã x->∃b o,p=Ã ⟨b,o,Ä⟩/\w.cell? ⟨b,o+j,Ä⟩=Ã x
def nJ.C(h:nJ O l w)(q:fg fl w u):nJ O l u:=λj x a=>by let⟨b,o,c,d⟩:=h j x a;exact⟨b,o,c,q.r d id⟩
def nJ.r{base:Nat}(h:w.ownsRow base e i (Ê O n j) n l):nJ O l w:=λb x d=>by
 rcases h.2 with⟨f,k⟩|⟨g,m,o,f,_⟩
 .have:=h.1;rw[k,Nat.zero_mul]at this;rw[ß this]at d;cases d
 .cases f;refine⟨g,0,U,?_⟩;have:=h.cells (g:=g) U b x d;rwa[Addr.add_mid]at this
def TW{α:Type}(f g:α->È):∀(l:List α) (j:Nat) (x:α),l[j]?=Ã x->(l.flatMap λp=>[f p,g p])[j*2]?=Ã (f x)/\(l.flatMap λp=>[f p,g p])[j*2+1]?=Ã (g x)
 |[],j,x,h=>by cases h
 |a::l,0,x,h=>by cases h;exact⟨U,U⟩
 |a::l,j+1,x,h=>by rw[show(j+1)*2=j*2+1+1 by omega];exact TW f g l j x h
def iK(y:Nat):ByteArray:=ø ⟨#[97,98,99,100,101,102,103,104]⟩ y<|y+1
def su(e:Nat×Int):ByteArray:=iK e.1++fG e.2.toNat
noncomputable def Mz:ŏ:=(Tryz.f108.body.bind kB).getD ĵ
def E6(a:Option ă)(n b:Nat)(c:È)(i:Int)(u:Nat->È):é:=⟨#[Ê a n b,u 1,u 2,c,u 4,u 5,Ê a n b,Â Ë n,Â Ë i,u 9,u 10,u 11,u 12,u 13,u 14,u 15,u 16,u 17,u 18,u 19,u 20,u 21,u 22,u 23,u 24,u 25,u 26],[]⟩
def E7(b:Option ă)(n c:Nat)(d:È)(i:Int)(a:é):Prop:=∃u,a=E6 b n c d i u
section
variable{X:é->É->Prop}{w0:É}{cp:Nat}{tv:È}{xs:List ByteArray}
def aoN(u:Nat->È)(i:Int)(b:i=n)(c:∀a,E7 O n cp tv n a->X a w): Î À Mz (Exit.then K<|QQ X) (E6 O n cp tv i u) w:=by
 unfold E6;conv=>arg 2;whnf
 subst b;go_wp2_with fail;exact c _ (gy _)
def aoO(u:Nat->È)(r:iq w0 tv xs w)(j:Nat)(P:j<n)(Q:n<=400000)(S:xs.length<=400000)(y p:Nat)(T:y<8)(s:p<18446744073709551616)(B:lU w)(l m:Nat)(C:O=Ã ⟨l,m,Ä⟩)(V:w.cell? ⟨l,m+j*2,Ä⟩=Ã (Â Ë y))(W:w.cell? ⟨l,m+j*2+1,Ä⟩=Ã (Â Æ p)) (b:∀a c t,E7 O n cp t ((j+1:Nat):Int) a->iq w0 t (xs++[iK y++fG p]) c->K a c): Î À Mz (Exit.then K<|QQ X) (E6 O n cp tv j u) w:=by
 unfold E6;conv=>arg 2;whnf
 subst C;have Y:(0:Int)<=(j:Int):=Z
 have e1:(j:Int)<(n:Int):=Z
 have y0:(0:Int)<=(y:Int):=Z
 have y1:(y:Int)<8:=Z
 have kh:=pM p s;have ox:Ë.wrap ((y:Int)+1)=(y:Int)+1:=by rw[ó];omega
 have Ep:(0:Int)<=(y:Int)+1:=Z
 have xw:(y:Int)+1<=8:=Z
 have qU:(y:Int)<=(y:Int)+1:=Z
 have uN:((y:Int)+1).toNat=y+1:=Z
 have yf:¬9223372036854775807<min (y+1) 8-y+(fG p).size:=Z
 obtain⟨ta,tc,rfl⟩:=jN r.fx;have H:=fi<|Á r<|Á B b;go_wp2_with fail;change Î À _ _ _ (w.alloc<|Ð #[Â Ë y,Â Æ p] 250);have v:=fg.gL fl w #[Â Ë y,Â Æ p] 250;have D:=(H.out.1.fP v).fP<|fg.fY _ _;have E:=(H.out.2.1.r v).r<|fg.fY _ _;have o:=(fp.N w [Â Ë y,Â Æ p] 250).I (fg.fY fl _) id;let⟨i0,F,G,I,J⟩:=í Ai;have f:=fi<|Á F<|Á G<|Á I J;refine mE (λc=>c.cell? ⟨w.heap.size,0,Ä⟩=Ã (Â Ë y)/\c.cell? ⟨w.heap.size,1,Ä⟩=Ã (Â Æ p)) [] fv ?_;have L:=fi<|Á (o.r 0 _ rfl)<|o.r 1 _ rfl;generalize w.heap.size=ub at*;generalize Č (w.alloc<|Ð #[Â Ë y,Â Æ p] 250)=w1 at*;iterate 9 apply tk L.out
 apply gG 9;intro K b;go_simp;go_at_call 102;refine(yk p s _ E).mono ?_;rintro e M ⟨rfl,x⟩;have N:=D.fP x;have d:=o.I x id;apply b.out _ _ λ_=>⟨d.r 0 _ U,d.r 1 _ U⟩;apply gG 10;intro K b;go_simp;apply b.out _ _ λ_=>⟨d.r 0 _ U,d.r 1 _ U⟩;have z:=fg.gL fl M #[Í<|iK y++fG p] 9;have g:=N.fP z;have i:=d.I z id;apply gG 11;intro K b;go_simp;apply b.out _ _ λ_=>⟨i.r 0 _ U,i.r 1 _ U⟩;apply gG 12;intro K b;refine L3 gh _ _ 54 gh ù f.out.1 f.out.2.1 f.out.2.2.1 f.out.2.2.2 U gh g.fx ⟨_,0,Ä⟩ [Í<|iK y++fG p] gh Z U (þ _ _ _) (λu k=>by simp at k;subst k;rfl) (by unfold Ą;omega) Z g.r.M ?_;intro tv1 w9 q;obtain⟨a2,cp2,rfl⟩:=jN q.fx;have k:=i.I q.r<|jE g.fx i A;apply b.out _ _ λ_=>⟨k.r 0 _ U,k.r 1 _ U⟩;apply gG 13;intro K b;go_simp;apply b.out _ _ λ_=>⟨k.r 0 _ U,k.r 1 _ U⟩;refine mg fv ?_ _;go_wp2_with fail;exact H.out.2.2 _ _ _ (gy _)<|g.C q
def TX(O:Option ă)(n cp:Nat)(w0:É)(l:List (Nat×Int))(a:é)(w:É):Prop:=
 ∃(j:Nat) (tv:È),E7 O n cp tv j a/\j<=n/\iq w0 tv ((l.take j).map su) w
def ltE(O:Option ă)(n cp:Nat)(w0:É)(l:List (Nat×Int))(a:é)(w:É):Prop:=
 ∃tv,E7 O n cp tv n a/\iq w0 tv (l.map su) w
def MA(n:Nat)(a:é)(_:É):Nat:=match a.tmps.getD 8 ā with
 |Â _ i=>n-i.toNat
 |_=>0
def aaL(b:E7 O n cp tv i y):MA n y w=n-i:=by obtain⟨u,rfl⟩:=b;show n-(i:Int).toNat=_;simp
theorem aoP{l:List (Nat×Int)}(D:n=l.length)(k:n<=400000)(m:yj l)(o:lU w0)(f:nJ O (kr l) w0)(a:é)(w:É)(p:TX O n cp w0 l a w): Î À Mz (Exit.then (λb d=>TX O n cp w0 l b d/\MA n b d<MA n a w)<|QQ<|ltE O n cp w0 l) a w:=by
 let⟨j,tv,g,E,b⟩:=p;rw[aaL g];obtain⟨u,rfl⟩:=g;by_cases r:j=n
 .subst r;refine aoN u _ U λa q=>⟨tv,q,?_⟩;grind
 .obtain⟨x,e⟩:∃x,l[j]?=Ã x:=⟨_,Ô Z⟩;obtain⟨g0,s⟩:=TW _ _ l j x e;let⟨t,v,h,y⟩:=f (j*2) _ g0;let⟨F,G,i,z⟩:=f (j*2+1) _ s;rw[h]at i;cases i;have c:=m x<|Ġ e;refine aoO u b j Z k (by simp;omega) x.1 x.2.toNat c.1 (by have:=c.2.1;have:=c.2.2;omega) (o.r b.r) t v h (b.r.r y id) (by rw[Ĕ c.2.1];exact b.r.r z id) λa d B q C=>⟨⟨j+1,B,q,Z,?_⟩,by rw[aaL q];omega⟩;rwa[ſ,e,Υ]
def aaM{l:List (Nat×Int)}(b:n=l.length)(g:n<=400000)(c:yj l)(d:lU w)(f:nJ O (kr l) w): Ò À 108 #[Ê O n cp] w λe a=>∃tv,e=Ç tv/\iq w tv (l.map su) a:=by
 have L:∀a,E7 O n cp (Ê Ä 0 0) (0:Nat) a->Î À (à Mz) (QQ<|ltE O n cp w l) a w:=λa e=>
  Ĉ (TX O n cp w l) (MA n) ⟨0,_,e,â _,iq.M w<|fg.gd _ _⟩<|aoP b g c d f
 have H:=fi L;clear L c d f b;go_enter Tryz.func108,Tryz.ntmps108;go_wp2_with fail;refine Ý ?_ (H.out _ (gy _));rintro(_|(_|_)|_|_|_|_) a v hq;all_goals first|exact absurd hq id|skip
 let⟨tv,i,j⟩:=hq;obtain⟨u,rfl⟩:=i;unfold E6;go_wp2_with fail;go_ret;simp_all
end
def aaN(b:Bool):xZ b=((b.toNat:Nat):Int):=by cases b<;>rfl
def wy(e:Int×Bool):ByteArray:=fG e.2.toNat++⟨#[58]⟩++fG e.1.toNat
noncomputable def MB:ŏ:=(Tryz.f109.body.bind kB).getD ĵ
def E8(a:Option ă)(n b:Nat)(c:È)(i:Int)(u:Nat->È):é:=⟨#[Ê a n b,u 1,u 2,c,u 4,u 5,Ê a n b,Â Ë n,Â Ë i,u 9,u 10,u 11,u 12,u 13,u 14,u 15,u 16,u 17,u 18,u 19,u 20,u 21,u 22,u 23,u 24,u 25],[]⟩
def E9(b:Option ă)(n c:Nat)(d:È)(i:Int)(a:é):Prop:=∃u,a=E8 b n c d i u
section
variable{cp:Nat}{xs:List ByteArray}
def aoQ(u:Nat->È)(i:Int)(b:i=n)(c:∀a,E9 O n cp v n a->H a w): Î À MB (Exit.then K<|QQ H) (E8 O n cp v i u) w:=by
 unfold E8;conv=>arg 2;whnf
 subst b;go_wp2_with fail;exact c _ (gy _)
def aoR(c:Nat->È)(s:iq u v xs w)(j:Nat)(hj:j<n)(hn:n<=1000)(GQ:xs.length<=1000)(p:Nat)(b:Bool)(D:p<18446744073709551616)(E:lU w)(t x:Nat)(W:O=Ã ⟨t,x,Ä⟩)(X:w.cell? ⟨t,x+j*2,Ä⟩=Ã (Â Æ p))(Y:w.cell? ⟨t,x+j*2+1,Ä⟩=Ã (Ñ b)) (f:∀a g F,E9 O n cp F ((j+1:Nat):Int) a->iq u F (xs++[fG b.toNat++⟨#[58]⟩++fG p]) g->K a g): Î À MB (Exit.then K<|QQ H) (E8 O n cp v j c) w:=by
 unfold E8;conv=>arg 2;whnf
 subst W;have kh:=pM p D;have G:b.toNat<18446744073709551616:=by cases b<;>decide
 have hsb:=pM b.toNat G;have yf:¬9223372036854775807<(fG b.toNat).size+1:=Z
 have hw5:¬9223372036854775807<(fG b.toNat).size+1+(fG p).size:=Z
 obtain⟨ta,tc,rfl⟩:=jN s.fx;have d:=fi<|Á s<|Á E f;clear s E f;go_wp2_with fail;change Î À _ _ _ (w.alloc<|Ð #[Â Æ p,Ñ b] 239);have I:=fg.gL fl w #[Â Æ p,Ñ b] 239;have T1:=(d.out.1.fP I).fP<|fg.fY _ _;have J:=(d.out.2.1.r I).r<|fg.fY _ _;have y:fp w.heap.size [Â Æ p,Ñ b] 239 (Č<|w.alloc<|Ð #[Â Æ p,Ñ b] 239):=(fp.N w [Â Æ p,Ñ b] 239).I (fg.fY fl _) id;let⟨i0,L,M,N,P⟩:=í Ai;have k:=fi<|Á L<|Á M<|Á N P;clear L M N P X Y;refine mE (λg=>g.cell? ⟨w.heap.size,0,Ä⟩=Ã (Â Æ p)/\g.cell? ⟨w.heap.size,1,Ä⟩=Ã (Ñ b)) [] fv ?_;have l:=fi<|Á (y.r 0 _ rfl)<|y.r 1 _ rfl;generalize w.heap.size=ub at*;generalize Č (w.alloc<|Ð #[Â Æ p,Ñ b] 239)=w1 at*;iterate 3 apply tk l.out
 apply tk l.out 6;apply tk l.out 7;apply gG 3;intro K f;go_simp;go_at_call 143;refine(Ia _ _).mono ?_;rintro e Q ⟨rfl,qU⟩;subst Q;dsimp only;rw[aaN];apply f.out _ _ λ_=>l.out;clear f K;apply gG 4;intro K f;go_simp;go_at_call 102;refine(yk b.toNat G _ J).mono ?_;rintro e Q ⟨rfl,z⟩;have T2:=T1.fP z;have B:=y.I z id;have P2:=J.r z;have S:=fi<|Á (B.r 0 _ rfl)<|B.r 1 _ rfl;dsimp only;apply f.out _ _ λ_=>S.out;clear f K;apply tk S.out 5;apply gG 8;intro K f;go_simp;go_at_call 102;refine(yk p D _ P2).mono ?_;rintro e w3 ⟨rfl,T⟩;have i:=B.I T id;dsimp only;apply f.out _ _ λ_=>⟨i.r 0 _ U,i.r 1 _ U⟩;clear f K;apply gG 9;intro K f;go_simp;apply f.out _ _ λ_=>⟨i.r 0 _ U,i.r 1 _ U⟩;clear f K;have V:=fg.gL fl w3 #[Í<|fG b.toNat++⟨#[58]⟩++fG p] 9;have o:=(T2.fP T).fP V;have q:=i.I V id;apply gG 10;intro K f;go_simp;apply f.out _ _ λ_=>⟨q.r 0 _ U,q.r 1 _ U⟩;clear f K;apply gG 11;intro K f;refine L3 (base:=u.heap.size) (n:=xs.length) (xs:=kP xs) (m:=1) gh _ _ 54 gh ù k.out.1 k.out.2.1 k.out.2.2.1 k.out.2.2.2 U gh o.fx ⟨_,0,Ä⟩ [Í<|fG b.toNat++⟨#[58]⟩++fG p] gh Z U (þ _ _ _) (λc r=>by simp at r;subst r;rfl) (by unfold Ą;omega) Z o.r.M ?_;intro tv1 w9 C;obtain⟨a2,cp2,rfl⟩:=jN C.fx;have r:=q.I C.r<|jE o.fx q A;apply f.out _ _ λ_=>⟨r.r 0 _ U,r.r 1 _ U⟩;clear f K;apply gG 12;intro K f;go_simp;apply f.out _ _ λ_=>⟨r.r 0 _ U,r.r 1 _ U⟩;clear f K;try simp only[Ĵ,Õ,ã,ä]
 refine mg fv ?_ _;go_wp2_with fail;exact d.out.2.2 _ _ _ (gy _)<|o.C C
def TY(O:Option ă)(n cp:Nat)(u:É)(l:List (Int×Bool))(a:é)(w:É):Prop:=
 ∃(j:Nat) (v:È),E9 O n cp v j a/\j<=n/\iq u v ((l.take j).map wy) w
def T0(O:Option ă)(n cp:Nat)(u:É)(l:List (Int×Bool))(a:é)(w:É):Prop:=
 ∃v,E9 O n cp v n a/\iq u v (l.map wy) w
def MC(n:Nat)(a:é)(_:É):Nat:=match a.tmps.getD 8 ā with
 |Â _ i=>n-i.toNat
 |_=>0
def aaO(b:E9 O n cp v i y):MC n y w=n-i:=by obtain⟨u,rfl⟩:=b;show n-(i:Int).toNat=_;simp
def aoS{l:List (Int×Bool)}(m:n=l.length)(o:n<=1000)(p:Af l)(r:lU u)(g:nJ O (uX l) u)(a:é)(w:É)(s:TY O n cp u l a w): Î À MB (Exit.then (λb d=>TY O n cp u l b d/\MC n b d<MC n a w)<|QQ<|T0 O n cp u l) a w:=by
 let⟨j,v,h,G,c⟩:=s;rw[aaO h];obtain⟨b,rfl⟩:=h;by_cases t:j=n
 .subst t;refine aoQ b _ U λa q=>⟨v,q,?_⟩;rwa[m,List.take_length]at c
 .obtain⟨x,e⟩:∃x,l[j]?=Ã x:=⟨_,Ô Z⟩;obtain⟨g0,y⟩:=TW _ _ l j x e;let⟨z,B,i,C⟩:=g (j*2) _ g0;let⟨H,I,k,D⟩:=g (j*2+1) _ y;rw[i]at k;cases k;have f:=p x<|Ġ e;refine aoR b c j Z o (by simp;omega) x.1.toNat x.2 (by have:=f.1;have:=f.2;omega) (r.r c.r) z B i (by rw[Ĕ f.1];exact c.r.r C id) (c.r.r D id) λa d E q F=>⟨⟨j+1,E,q,Z,?_⟩,by rw[aaO q];omega⟩;rwa[ſ,e,Υ]
def aoT{l:List (Int×Bool)}(b:n=l.length)(g:n<=1000)(c:Af l)(d:lU w)(f:nJ O (uX l) w): Ò À 109 #[Ê O n cp] w λe a=>∃v,e=Ç v/\iq w v (l.map wy) a:=by
 have L:∀a,E9 O n cp (Ê Ä 0 0) (0:Nat) a->Î À (à MB) (QQ<|T0 O n cp w l) a w:=λa i=>
  Ĉ (TY O n cp w l) (MC n) ⟨0,_,i,â _,iq.M w<|fg.gd _ _⟩<|aoS b g c d f
 have H:=fi L;clear L c d f b;go_enter Tryz.func109,Tryz.ntmps109;go_wp2_with fail;refine Ý (Q:=QQ<|T0 O n cp w l) ?_ (H.out _ (gy _));rintro(_|(_|_)|_|_|_|_) a v hq;all_goals first|exact absurd hq id|skip
 let⟨v,j,e⟩:=hq;obtain⟨u,rfl⟩:=j;unfold E8;have k:=fi e;clear e;go_wp2_with fail;go_ret;exact⟨_,U,k.out⟩
end
def CC(j:Nat):ByteArray:=ø ⟨#[48,49,50,51,52,53,54,55,56,57,97,98,99,100,101,102]⟩ j<|j+1
def CF(s t:St)(i j:Nat):List ByteArray:=if(s i).C j=(t i).C j then[]else[iK i++CC j]
def rm(s t:St)(i j:Nat):List ByteArray:=(ċ j).flatMap<|CF s t i
def yl(b a:Int)(p c:ByteArray)(i:Nat):List ByteArray:=(if b=a then[]else[iK i++⟨#[36]⟩])++(if p.toList=c.toList then[]else[iK i++⟨#[123]⟩])
def Aj(s t:St)(i:Nat):List ByteArray:=yl (s i).fw (t i).fw (s i).r (t i).r i++rm s t i 16
def rn(s t:St)(n:Nat):List ByteArray:=(ċ n).flatMap<|Aj s t
def aoU(s t:St)(i j:Nat):(CF s t i j).length<=1:=by unfold CF;split<;>simp
def T3(s t:St)(i j:Nat):rm s t i (j+1)=rm s t i j++CF s t i j:=by unfold rm;rw[Ŏ,Ţ];simp
theorem MD(s t:St)(i:Nat):∀j,(rm s t i j).length<=j
 |0=>by simp[rm]
 |j+1=>by rw[T3,Ó];have:=MD s t i j;have:=aoU s t i j;omega
theorem aaP(b a:Int)(p c:ByteArray)(i:Nat):(yl b a p c i).length<=2:=by unfold yl;rw[Ó];split<;>split<;>simp
def aaQ(s t:St)(n:Nat):rn s t (n+1)=rn s t n++Aj s t n:=by unfold rn;rw[Ŏ,Ţ];simp
def T4(s t:St):∀n,(rn s t n).length<=18*n
 |0=>by simp[rn]
 |n+1=>by rw[aaQ,Ó];have:=T4 s t n;unfold Aj;rw[Ó];have:=MD s t n 16;have:=aaP (s n).fw (t n).fw (s n).r (t n).r n;omega
def ym(i:Nat):(iK i).size<=1:=by unfold iK;rw[ŋ];omega
def aaR(i:Nat):(CC i).size<=1:=by unfold CC;rw[ŋ];omega
def mF.gX{s:St}(c:mF n s h W)(a:i<8):W.cell? ⟨n,i*18,Ä⟩=Ã (Â Æ (s i).fw)/\W.cell? ⟨n,i*18+1,Ä⟩=Ã (Í (s i).r)/\∀j,j<16->W.cell? ⟨n,i*18+2+j,Ä⟩=Ã (Â Æ<|(s i).C j):=by
 have g:∀j,j<144->W.cell? ⟨n,j,Ä⟩=Ã (qp s j):=λj b=>by have:=c.C j _<|TL s b;simpa using this
 refine⟨?_,?_,λj b=> ?_⟩
 .rw[g _ Z,<-rf s (Ê Ä 0 0) Z,H8 _ _ a];rfl
 .rw[g _ Z,<-rf s (Ê Ä 0 0) Z,LU _ _ a]
 .rw[g _ Z,<-rf s (Ê Ä 0 0) Z,LV _ _ a b];rfl
noncomputable def Ak:ŏ:=(Tryz.f110.body.bind kB).getD ĵ
noncomputable def yn:ŏ:=(kB Ak).getD ĵ
def u9(a b i:Nat)(c:È)(j:Int)(u:Nat->È):é:=⟨#[Å<|Ã ⟨a,0,Ä⟩,Å<|Ã ⟨b,0,Ä⟩,u 2,u 3,u 4,c,Â Ë i,Í<|iK i,Å<|Ã ⟨a,i*18,Ä⟩,Å<|Ã ⟨b,i*18,Ä⟩,u 10,Â Ë i,u 12,u 13,u 14,u 15,u 16,u 17,u 18,u 19,u 20,u 21,u 22,u 23,u 24,u 25,u 26,u 27,u 28,u 29,u 30,u 31,u 32,u 33,u 34,u 35,u 36,u 37,u 38,u 39,u 40,u 41,u 42,u 43,u 44,u 45,u 46,u 47,u 48,u 49,u 50,u 51,u 52,u 53,Â Ë j,u 55,u 56,u 57,u 58,u 59,u 60,u 61,u 62,u 63,u 64,u 65,u 66,u 67,u 68,u 69,u 70,u 71,u 72,u 73,u 74,u 75,u 76,u 77,u 78,u 79,u 80,u 81],[]⟩
def va(b c i:Nat)(d:È)(j:Int)(a:é):Prop:=∃u,a=u9 b c i d j u
def tD(a b:Nat)(c:È)(i:Int)(u:Nat->È):é:=⟨#[Å<|Ã ⟨a,0,Ä⟩,Å<|Ã ⟨b,0,Ä⟩,u 2,u 3,u 4,c,u 6,u 7,u 8,u 9,u 10,Â Ë i,u 12,u 13,u 14,u 15,u 16,u 17,u 18,u 19,u 20,u 21,u 22,u 23,u 24,u 25,u 26,u 27,u 28,u 29,u 30,u 31,u 32,u 33,u 34,u 35,u 36,u 37,u 38,u 39,u 40,u 41,u 42,u 43,u 44,u 45,u 46,u 47,u 48,u 49,u 50,u 51,u 52,u 53,u 54,u 55,u 56,u 57,u 58,u 59,u 60,u 61,u 62,u 63,u 64,u 65,u 66,u 67,u 68,u 69,u 70,u 71,u 72,u 73,u 74,u 75,u 76,u 77,u 78,u 79,u 80,u 81],[]⟩
def wz(b c:Nat)(d:È)(i:Int)(a:é):Prop:=∃u,a=tD b c d i u
section
variable{X:é->É->Prop}{w0:É}{xs:List ByteArray}{s t:St}
def aoV(u:Nat->È)(b:∀a,va n j i v (16:Nat) a->X a w): Î À yn (Exit.then K<|Q2 X) (u9 n j i v (16:Nat) u) w:=by
 unfold u9;conv=>arg 2;whnf
 go_wp2_with fail
 exact b _ (gy _)
def aoW(u:Nat->È)(b:Nat)(d:i<8)(e:b<16)(p:Int)(f:w.cell? ⟨n,i*18+2+b,Ä⟩=Ã (Â Æ p))(g:w.cell? ⟨j,i*18+2+b,Ä⟩=Ã (Â Æ p)) (c:∀a,va n j i v ((b+1:Nat):Int) a->K a w.drew): Î À yn (Exit.then K<|Q2 X) (u9 n j i v b u) w:=by
 unfold u9;conv=>arg 2;whnf
 have k:(0:Int)<=(b:Int):=Z
 have l:(b:Int)<16:=Z
 have H:=fi c;clear c;go_wp2_with fail;go_region;go_wp2_with fail;exact H.out _ (gy _)
def aoX(u:Nat->È)(d:iq w0 v xs w)(x:xs.length<=1000)(b:Nat)(y:i<8)(z:b<16)(p q:Int)(B:(p==q)=Ï)(C:w.cell? ⟨n,i*18+2+b,Ä⟩=Ã (Â Æ p))(D:w.cell? ⟨j,i*18+2+b,Ä⟩=Ã (Â Æ q)) (f:∀a g k,va n j i g ((b+1:Nat):Int) a->iq w0 g (xs++[iK i++CC b]) k->K a k): Î À yn (Exit.then K<|Q2 X) (u9 n j i v b u) w:=by
 unfold u9;conv=>arg 2;whnf
 have E:(0:Int)<=(b:Int):=Z
 have F:(b:Int)<16:=Z
 have G:Ë.wrap ((b:Int)+1)=(b:Int)+1:=by rw[ó];omega
 have I:(0:Int)<=(b:Int)+1:=Z
 have J:(b:Int)+1<=16:=Z
 have L:(b:Int)<=(b:Int)+1:=Z
 have M:((b:Int)+1).toNat=b+1:=Z
 have N:¬9223372036854775807<(iK i).size+(CC b).size:=by have:=ym i;have:=aaR b;omega
 have O:ø ⟨#[48,49,50,51,52,53,54,55,56,57,97,98,99,100,101,102]⟩ b (b+1)=CC b:=U;obtain⟨P,Q,rfl⟩:=jN d.fx;let⟨S,l,o,r,s⟩:=í Ai;have c:=fi<|Á l<|Á o<|Á r s;have H:=fi<|Á d f;clear d f l o r s;go_wp2_with fail;go_region;go_wp2_with (at_builtin;refine Ck (base:=w0.heap.size) (n:=xs.length) (xs:=kP xs) (m:=1) U _ _ 54 U ù c.out.1 c.out.2.1 c.out.2.2.1 c.out.2.2.2 U U ((H.out.1).fP kp).fx ⟨_,0,Ä⟩ [Í<|iK i++CC b] U Z U (þ _ _ _) (λu e=>by simp at e;subst e;rfl) (by unfold Ą;omega) Z ((H.out.1).fP kp).r.M ?_;intro T V e;obtain⟨W,Y,rfl⟩:=jN e.fx;have t:=fi<|((H.out.1).fP kp).C e;clear e);exact H.out.2 _ _ _ (gy _) t.out
def DJ(n j i:Nat)(w0:É)(xs:List ByteArray)(s t:St)(a:é)(w:É):Prop:=
 ∃(b:Nat) (v:È),va n j i v b a/\b<=16/\iq w0 v (xs++rm s t i b) w
def wA(n j i:Nat)(w0:É)(xs:List ByteArray)(s t:St)(a:é)(w:É):Prop:=
 ∃(v:È),va n j i v (16:Nat) a/\iq w0 v (xs++rm s t i 16) w
def ME(a:é)(_:É):Nat:=match a.tmps.getD 54 ā with
 |Â _ i=>16-i.toNat
 |_=>0
def T5(c:va n j i v b y):ME y w=16-b:=by obtain⟨u,rfl⟩:=c;show 16-(b:Int).toNat=_;simp
def aoY(o:mF n s h w0)(p:mF j t c w0)(e:i<8)(B:xs.length<=900)(a:é)(w:É)(r:DJ n j i w0 xs s t a w): Î À yn (Exit.then (λb g=>DJ n j i w0 xs s t b g/\ME b g<ME a w)<|Q2<|wA n j i w0 xs s t) a w:=by
 let⟨b,v,l,C,d⟩:=r;rw[T5 l];obtain⟨u,rfl⟩:=l;by_cases x:b=16
 .subst x;exact aoV u λa q=>⟨v,q,d⟩
 .have m:=d.r.r ((o.gX e).2.2 b Z) id;have k:=d.r.r ((p.gX e).2.2 b Z) id;by_cases q:(s i).C b=(t i).C b
  .rw[<-q]at k;refine aoW u b e Z _ m k λa f=>⟨⟨b+1,v,f,Z,?_⟩,by rw[T5 f];omega⟩;rw[T3,CF,if_pos q,ò];exact d.fP<|fg.fY _ _
  .refine aoX u d (by rw[Ó];have:=MD s t i b;omega) b e Z _ _ (by simpa using q) m k λa y g f z=>⟨⟨b+1,y,f,Z,?_⟩,by rw[T5 f];omega⟩;rwa[T3,CF,if_neg q,<-Ċ]
def aoZ(u:Nat->È)(b:∀a,wz n j v (8:Nat) a->X a w): Î À Ak (Exit.then K<|QQ X) (tD n j v (8:Nat) u) w:=by
 unfold tD;conv=>arg 2;whnf
 go_wp2_with fail
 exact b _ (gy _)
def ao0(u:Nat->È)(d:iq w0 v xs w)(F:xs.length<=800)(G:i<8)(b k:Int)(p l:ByteArray)(I:(b==k)=Ú)(J:(p.toList==l.toList)=Ú)(m:w0.cell? ⟨n,i*18,Ä⟩=Ã (Â Æ b))(o:w0.cell? ⟨j,i*18,Ä⟩=Ã (Â Æ k))(f:w0.cell? ⟨n,i*18+1,Ä⟩=Ã (Í p))(g:w0.cell? ⟨j,i*18+1,Ä⟩=Ã (Í l)) (L:∀a e W,va n j i e (0:Nat) a->iq w0 e xs W->Î À (à yn) (Q2<|wA n j i w0 xs s t) a W) (q:∀a e r,wz n j e ((i+1:Nat):Int) a->iq w0 e (xs++rm s t i 16) r->K a r): Î À Ak (Exit.then K<|QQ X) (tD n j v i u) w:=by
 unfold tD;conv=>arg 2;whnf
 have M:=d.r.r m id;have N:=d.r.r o id;have O:=d.r.r f id;have P:=d.r.r g id;have S:(0:Int)<=(i:Int):=Z
 have T:(i:Int)<8:=Z
 have V:Ë.wrap ((i:Int)+1)=(i:Int)+1:=by rw[ó];omega
 have Y:(0:Int)<=(i:Int)+1:=Z
 have xw:(i:Int)+1<=8:=Z
 have qU:(i:Int)<=(i:Int)+1:=Z
 have uN:((i:Int)+1).toNat=i+1:=Z
 have yf:¬9223372036854775807<(iK i).size+1:=by have:=ym i;omega
 have T7:ø ⟨#[97,98,99,100,101,102,103,104]⟩ i (i+1)=iK i:=U;obtain⟨ta,tc,rfl⟩:=jN d.fx;let⟨i0,x,y,z,B⟩:=í Ai;have HI:=fi<|Á x<|Á y<|Á z B;have H:=fi<|Á d<|Á f<|Á g<|Á L q;clear d x y z B L q m o f g;go_wp2_with fail;go_region;go_wp2_with fail;go_region;go_wp2_with fail;go_region;go_wp2_with fail;refine Ý (Q:=Q2<|wA n j i w0 xs s t) ?_ (H.out.2.2.2.1 _ _ _ (gy _)<|(H.out.1).fP kp);rintro(_|(_|_|_|_)|_|_|_|_) a c hq;all_goals first|exact absurd hq id|skip
 let⟨T8,D,C⟩:=hq;obtain⟨c,rfl⟩:=D;unfold u9;have E:=fi C;clear C;go_wp2_with fail;exact H.out.2.2.2.2 _ _ _ (gy _) E.out
def ao1(u:Nat->È)(d:iq w0 v xs w)(I:xs.length<=800)(J:i<8)(b o:Int)(p q:ByteArray)(M:(b==o)=Ú)(N:(p.toList==q.toList)=Ï)(r:w0.cell? ⟨n,i*18,Ä⟩=Ã (Â Æ b))(x:w0.cell? ⟨j,i*18,Ä⟩=Ã (Â Æ o))(k:w0.cell? ⟨n,i*18+1,Ä⟩=Ã (Í p))(l:w0.cell? ⟨j,i*18+1,Ä⟩=Ã (Í q)) (L:∀a e W,va n j i e (0:Nat) a->iq w0 e (xs++[iK i++⟨#[123]⟩]) W->Î À (à yn) (Q2<|wA n j i w0 (xs++[iK i++⟨#[123]⟩]) s t) a W) (y:∀a e z,wz n j e ((i+1:Nat):Int) a->iq w0 e ((xs++[iK i++⟨#[123]⟩])++rm s t i 16) z->K a z): Î À Ak (Exit.then K<|QQ X) (tD n j v i u) w:=by
 unfold tD;conv=>arg 2;whnf
 have O:=d.r.r r id;have P:=d.r.r x id;have S:=d.r.r k id;have T:=d.r.r l id;have V:(0:Int)<=(i:Int):=Z
 have Y:(i:Int)<8:=Z
 have ox:Ë.wrap ((i:Int)+1)=(i:Int)+1:=by rw[ó];omega
 have Ep:(0:Int)<=(i:Int)+1:=Z
 have xw:(i:Int)+1<=8:=Z
 have qU:(i:Int)<=(i:Int)+1:=Z
 have uN:((i:Int)+1).toNat=i+1:=Z
 have yf:¬9223372036854775807<(iK i).size+1:=by have:=ym i;omega
 have T7:ø ⟨#[97,98,99,100,101,102,103,104]⟩ i (i+1)=iK i:=U;obtain⟨ta,tc,rfl⟩:=jN d.fx;let⟨i0,B,C,D,E⟩:=í Ai;have f:=fi<|Á B<|Á C<|Á D E;have H:=fi<|Á d<|Á k<|Á l<|Á L y;clear d B C D E L y r x k l;go_wp2_with fail;go_region;go_wp2_with fail;go_region;go_wp2_with fail;go_region;go_wp2_with (at_builtin;refine Ck (base:=w0.heap.size) (n:=xs.length) (xs:=kP xs) (m:=1) U _ _ 54 U ù f.out.1 f.out.2.1 f.out.2.2.1 f.out.2.2.2 U U ((H.out.1).fP kp).fx ⟨_,0,Ä⟩ [Í<|iK i++⟨#[123]⟩] U Z U (λc u g=>fg.r (X:=fl) kp (þ w (Í<|iK i++⟨#[123]⟩) 9 c u g) id) (λu g=>by simp at g;subst g;rfl) (by unfold Ą;omega) Z ((H.out.1).fP kp).r.M ?_;intro F G c;obtain⟨ta2,tc2,rfl⟩:=jN c.fx;have g:=fi<|((H.out.1).fP kp).C c;clear c);refine Ý (Q:=Q2<|wA n j i w0 (xs++[iK i++⟨#[123]⟩]) s t) ?_ (H.out.2.2.2.1 _ _ _ (gy _)<|(g.out).fP kp);rintro(_|(_|_|_|_)|_|_|_|_) a c hq;all_goals first|exact absurd hq id|skip
 let⟨T8,F,g⟩:=hq;obtain⟨c,rfl⟩:=F;unfold u9;have G:=fi g;clear g;go_wp2_with fail;exact H.out.2.2.2.2 _ _ _ (gy _) G.out
def ao2(u:Nat->È)(d:iq w0 v xs w)(J:xs.length<=800)(M:i<8)(b o:Int)(p q:ByteArray)(N:(b==o)=Ï)(O:(p.toList==q.toList)=Ú)(r:w0.cell? ⟨n,i*18,Ä⟩=Ã (Â Æ b))(x:w0.cell? ⟨j,i*18,Ä⟩=Ã (Â Æ o))(k:w0.cell? ⟨n,i*18+1,Ä⟩=Ã (Í p))(l:w0.cell? ⟨j,i*18+1,Ä⟩=Ã (Í q)) (L:∀a e W,va n j i e (0:Nat) a->iq w0 e (xs++[iK i++⟨#[36]⟩]) W->Î À (à yn) (Q2<|wA n j i w0 (xs++[iK i++⟨#[36]⟩]) s t) a W) (y:∀a e z,wz n j e ((i+1:Nat):Int) a->iq w0 e ((xs++[iK i++⟨#[36]⟩])++rm s t i 16) z->K a z): Î À Ak (Exit.then K<|QQ X) (tD n j v i u) w:=by
 unfold tD;conv=>arg 2;whnf
 have P:=d.r.r r id;have S:=d.r.r x id;have T:=d.r.r k id;have V:=d.r.r l id;have Y:(0:Int)<=(i:Int):=Z
 have e1:(i:Int)<8:=Z
 have ox:Ë.wrap ((i:Int)+1)=(i:Int)+1:=by rw[ó];omega
 have Ep:(0:Int)<=(i:Int)+1:=Z
 have xw:(i:Int)+1<=8:=Z
 have qU:(i:Int)<=(i:Int)+1:=Z
 have uN:((i:Int)+1).toNat=i+1:=Z
 have yf:¬9223372036854775807<(iK i).size+1:=by have:=ym i;omega
 have T7:ø ⟨#[97,98,99,100,101,102,103,104]⟩ i (i+1)=iK i:=U;have EN:(xs++[iK i++⟨#[36]⟩]).length=xs.length+1:=ft
 obtain⟨ta,tc,rfl⟩:=jN d.fx;let⟨i0,B,C,D,E⟩:=í Ai;have f:=fi<|Á B<|Á C<|Á D E;have H:=fi<|Á d<|Á k<|Á l<|Á L y;clear d B C D E L y r x k l;go_wp2_with fail;go_region;go_wp2_with fail;go_region;go_wp2_with (at_builtin;refine Ck (base:=w0.heap.size) (n:=xs.length) (xs:=kP xs) (m:=1) U _ _ 54 U ù f.out.1 f.out.2.1 f.out.2.2.1 f.out.2.2.2 U U ((H.out.1).fP kp).fx ⟨_,0,Ä⟩ [Í<|iK i++⟨#[36]⟩] U Z U (λc u g=>fg.r (X:=fl) kp (þ w (Í<|iK i++⟨#[36]⟩) 9 c u g) id) (λu g=>by simp at g;subst g;rfl) (by unfold Ą;omega) Z ((H.out.1).fP kp).r.M ?_;intro F G c;obtain⟨I,tc1,rfl⟩:=jN c.fx;have g:=fi<|((H.out.1).fP kp).C c;clear c);have d3:=g.out.r.r H.out.2.1 id;have d4:=g.out.r.r H.out.2.2.1 id;go_region;go_wp2_with fail;refine Ý (Q:=Q2<|wA n j i w0 (xs++[iK i++⟨#[36]⟩]) s t) ?_ (H.out.2.2.2.1 _ _ _ (gy _)<|(g.out).fP kp);rintro(_|(_|_|_|_)|_|_|_|_) a c hq;all_goals first|exact absurd hq id|skip
 let⟨T8,G,F⟩:=hq;obtain⟨c,rfl⟩:=G;unfold u9;have I:=fi F;clear F;go_wp2_with fail;exact H.out.2.2.2.2 _ _ _ (gy _) I.out
def ao3(u:Nat->È)(f:iq w0 v xs w)(O:xs.length<=800)(P:i<8)(b r:Int)(p x:ByteArray)(S:(b==r)=Ï)(T:(p.toList==x.toList)=Ï)(y:w0.cell? ⟨n,i*18,Ä⟩=Ã (Â Æ b))(z:w0.cell? ⟨j,i*18,Ä⟩=Ã (Â Æ r))(l:w0.cell? ⟨n,i*18+1,Ä⟩=Ã (Í p))(o:w0.cell? ⟨j,i*18+1,Ä⟩=Ã (Í x)) (L:∀a g W,va n j i g (0:Nat) a->iq w0 g ((xs++[iK i++⟨#[36]⟩])++[iK i++⟨#[123]⟩]) W->Î À (à yn) (Q2<|wA n j i w0 ((xs++[iK i++⟨#[36]⟩])++[iK i++⟨#[123]⟩]) s t) a W) (B:∀a g C,wz n j g ((i+1:Nat):Int) a->iq w0 g (((xs++[iK i++⟨#[36]⟩])++[iK i++⟨#[123]⟩])++rm s t i 16) C->K a C): Î À Ak (Exit.then K<|QQ X) (tD n j v i u) w:=by
 unfold tD;conv=>arg 2;whnf
 have V:=f.r.r y id;have Y:=f.r.r z id;have c3:=f.r.r l id;have c4:=f.r.r o id;have e0:(0:Int)<=(i:Int):=Z
 have e1:(i:Int)<8:=Z
 have ox:Ë.wrap ((i:Int)+1)=(i:Int)+1:=by rw[ó];omega
 have Ep:(0:Int)<=(i:Int)+1:=Z
 have xw:(i:Int)+1<=8:=Z
 have qU:(i:Int)<=(i:Int)+1:=Z
 have uN:((i:Int)+1).toNat=i+1:=Z
 have yf:¬9223372036854775807<(iK i).size+1:=by have:=ym i;omega
 have T7:ø ⟨#[97,98,99,100,101,102,103,104]⟩ i (i+1)=iK i:=U;have I:(xs++[iK i++⟨#[36]⟩]).length=xs.length+1:=ft
 obtain⟨ta,tc,rfl⟩:=jN f.fx;let⟨i0,D,E,F,G⟩:=í Ai;have e:=fi<|Á D<|Á E<|Á F G;have H:=fi<|Á f<|Á l<|Á o<|Á L B;clear f D E F G L B y z l o;go_wp2_with fail;go_region;go_wp2_with fail;go_region;go_wp2_with (at_builtin;refine Ck (base:=w0.heap.size) (n:=xs.length) (xs:=kP xs) (m:=1) U _ _ 54 U ù e.out.1 e.out.2.1 e.out.2.2.1 e.out.2.2.2 U U ((H.out.1).fP kp).fx ⟨_,0,Ä⟩ [Í<|iK i++⟨#[36]⟩] U Z U (λc u d=>fg.r (X:=fl) kp (þ w (Í<|iK i++⟨#[36]⟩) 9 c u d) id) (λu d=>by simp at d;subst d;rfl) (by unfold Ą;omega) Z ((H.out.1).fP kp).r.M ?_;intro M J q;obtain⟨N,tc1,rfl⟩:=jN q.fx;have k:=fi<|((H.out.1).fP kp).C q;clear q);have d3:=k.out.r.r H.out.2.1 id;have d4:=k.out.r.r H.out.2.2.1 id;go_region;go_wp2_with (at_builtin;refine Ck (base:=w0.heap.size) (n:=(xs++[iK i++⟨#[36]⟩]).length) (xs:=kP<|xs++[iK i++⟨#[36]⟩]) (m:=1) U _ _ 54 U ù e.out.1 e.out.2.1 e.out.2.2.1 e.out.2.2.2 U U ((k.out).fP kp).fx ⟨_,0,Ä⟩ [Í<|iK i++⟨#[123]⟩] U Z U (λc u d=>fg.r (X:=fl) kp (þ J (Í<|iK i++⟨#[123]⟩) 9 c u d) id) (λu d=>by simp at d;subst d;rfl) (by unfold Ą;omega) Z ((k.out).fP kp).r.M ?_;intro d q c;obtain⟨M,N,rfl⟩:=jN c.fx;have J:=fi<|((k.out).fP kp).C c;clear c);have d:=J.out;rw[I]at d;refine Ý (Q:=Q2<|wA n j i w0 ((xs++[iK i++⟨#[36]⟩])++[iK i++⟨#[123]⟩]) s t) ?_ (H.out.2.2.2.1 _ _ _ (gy _)<|(d).fP kp);rintro(_|(_|_|_|_)|_|_|_|_) a c hq;all_goals first|exact absurd hq id|skip
 let⟨T8,M,q⟩:=hq;obtain⟨c,rfl⟩:=M;unfold u9;have N:=fi q;clear q;go_wp2_with fail;exact H.out.2.2.2.2 _ _ _ (gy _) N.out
def DO(n j:Nat)(w0:É)(s t:St)(a:é)(w:É):Prop:=
 ∃(i:Nat) (v:È),wz n j v i a/\i<=8/\iq w0 v (rn s t i) w
def T9(n j:Nat)(w0:É)(s t:St)(a:é)(w:É):Prop:=
 ∃(v:È),wz n j v (8:Nat) a/\iq w0 v (rn s t 8) w
def IF(a:é)(_:É):Nat:=match a.tmps.getD 11 ā with
 |Â _ i=>8-i.toNat
 |_=>0
def aaS(b:wz n j v i y):IF y w=8-i:=by obtain⟨u,rfl⟩:=b;show 8-(i:Int).toNat=_;simp
def ao4(B:mF n s h w0)(C:mF j t c w0)(a:é)(w:É)(E:DO n j w0 s t a w): Î À Ak (Exit.then (λq g=>DO n j w0 s t q g/\IF q g<IF a w)<|QQ<|T9 n j w0 s t) a w:=by
 let⟨i,v,D,H,l⟩:=E;rw[aaS D];obtain⟨u,rfl⟩:=D;by_cases F:i=8
 .subst F;exact aoZ u λa q=>⟨v,q,l⟩
 have k:i<8:=Z
 have I:=T4 s t i;let⟨m,o,_⟩:=B.gX k;let⟨p,r,_⟩:=C.gX k;have L:∀q:List ByteArray,q.length<=900->∀a b W,va n j i b (0:Nat) a->iq w0 b q W->Î À (à yn) (Q2<|wA n j i w0 q s t) a W:=λq y a b W G z=>
  Ĉ (DJ n j i w0 q s t) ME ⟨0,b,G,Z,by show iq w0 b (q++[]) W;rwa[ò]⟩<|aoY B C k y
 have x:∀q:List ByteArray,rn s t i++yl (s i).fw (t i).fw (s i).r (t i).r i=q->∀a b g,wz n j b ((i+1:Nat):Int) a->iq w0 b (q++rm s t i 16) g->DO n j w0 s t a g/\IF a g<8-i:=λq y a b g f z=>⟨⟨i+1,b,f,Z,by rwa[aaQ,Aj,<-Ċ,y]⟩,by rw[aaS f];omega⟩;by_cases d:(s i).fw=(t i).fw<;>by_cases e:(s i).r.toList=(t i).r.toList
 .exact ao0 u l Z k _ _ _ _ (by simpa using d) (by simpa using e) m p o r (L _ Z)<|x _<|by unfold yl;rw[if_pos d,if_pos e,ò,ò]
 .exact ao1 u l Z k _ _ _ _ (by simpa using d) (by simpa using e) m p o r (L _<|by rw[Ó];simp;omega)<|x _<|by unfold yl;rw[if_pos d,if_neg e,Ξ]
 .exact ao2 u l Z k _ _ _ _ (by simpa using d) (by simpa using e) m p o r (L _<|by rw[Ó];simp;omega)<|x _<|by unfold yl;rw[if_neg d,if_pos e,ò]
 .exact ao3 u l Z k _ _ _ _ (by simpa using d) (by simpa using e) m p o r (L _<|by rw[Ó,Ó];simp;omega)<|x _<|by unfold yl;rw[if_neg d,if_neg e,Ċ]
def ao5(b:mF n s h w)(d:mF j t c w): Ò À 110 #[Å<|Ã ⟨n,0,Ä⟩,Å<|Ã ⟨j,0,Ä⟩] w λe a=>∃v,e=Ç v/\iq w v (rn s t 8) a:=by
 have L:∀a,wz n j (Ê Ä 0 0) (0:Nat) a->Î À (à Ak) (QQ<|T9 n j w s t) a w:=λa f=>
  Ĉ (DO n j w s t) IF ⟨0,_,f,â _,iq.M w<|fg.gd _ _⟩<|ao4 b d
 have H:=fi L;clear L b d;go_enter Tryz.func110,Tryz.ntmps110;go_wp2_with fail;refine Ý (Q:=QQ<|T9 n j w s t) ?_ (H.out _ (gy _));rintro(_|(_|_)|_|_|_|_) a v hq;all_goals first|exact absurd hq id|skip
 let⟨k,g,e⟩:=hq;obtain⟨u,rfl⟩:=g;unfold tD;have i:=fi e;clear e;go_wp2_with fail;go_ret;exact⟨_,U,i.out⟩
end
def ao6:(À.info? 5).map (λi=>(i.zero,i.size,i.bytes))=Ã (Ã<|Â aU 0,1,1):=fv
theorem fg.G(f:X p.block)(n:Nat):fg X w (w.freeze p n):=by
 by_cases b:n=0
 .rw[Đ,if_pos b];exact fg.gd _ _
 rw[Đ,if_neg b];refine⟨ft,λk _ g=> ?_,λa i o h=> ?_,λ_ a=>by have:=X' a p n;rwa[Đ,if_neg b]at this⟩
 .grind
 .simp only[Û]at h;split at h
  .cases d:w.heap[i]? with
   |none=>rw[d]at h;cases h
   |some e=>
    have:=a _ _ d;rw[d]at h;cases e with
    |cells c t z=>simp only[ñ,è]at h;subst h;exact λx=>x
    |_=>exact absurd trivial this
  .exact a i o h
def aaT:(À.info? 100).map (·.size)=Ã 2:=fv
def ao7:liesAt À À.depth 100 (2/À.cellsOf 100) 0 100 1=Ú:=fv
def ao8(b:Nat)(w:É)(d:w.cell? ⟨b,0,Ä⟩=Ã (Å<|Ã ⟨b,0,Ä⟩)):Ò À 62 #[Å<|Ã ⟨b,0,Ä⟩] w λe a=>e=Ç (æ #[])/\a=w:=by let⟨j,c,_⟩:=Ì.1 aaT;go_enter aJ,aD;go_wp2;rw[Lib.run_neq_ptr_same w _ ĸ c];go_wp2;go_end0;exact⟨U,U⟩
def ao9(b:Nat)(w:É)(g:w.cell? ⟨b,0,Ä⟩=Ã (Å Ä))(a:w.shape? b=Ã (100,2))(h:w.frozen? ⟨b,0,Ä⟩=Ï):Ò À 62 #[Å<|Ã ⟨b,0,Ä⟩] w λe d=>e=Ç (æ #[])/\d=w.setCell ⟨b,0,Ä⟩ (Å<|Ã ⟨b,0,Ä⟩):=by let⟨j,c,f⟩:=Ì.1 aaT;go_enter aJ,aD;go_wp2;rw[Lib.run_to_unsafe w ⟨b,0,Ä⟩ ĸ Ŭ c (by rw[f];decide) a<|Nat.zero_lt_succ 1];simp only[į];rw[Ħ];go_wp2;rw[ţ Tryz.func113 fv fv fv fv];rw[Lib.run_noEscape];simp only[į];rw[Ħ];go_wp2;rw[Lib.run_from_unsafe w ⟨b,0,Ä⟩ Ŭ ĸ c a ao7];simp only[į];rw[Ħ];go_wp2;go_end0;exact⟨U,U⟩
theorem aaU{base:Nat}{u h:õ}(j:P.underlying t=Ã (bm e))(k:P.underlying u=Ã .string)(p:P.info? e=Ã zJ)(G:zJ.zero=Ã (Â aU 0)) (D:zJ.size=1) (H:zJ.bytes=1) (E:w.ownsRow base e 1 v n l) (s:ByteArray) (J:n+s.size<=Ą) (Q:n+s.size<=140737488355328) (r:(Ō #[t,u] h #[v,Í s]).run P w=φ z W) (I:mD e=Ï):(ko w->ko W)/\(∀m,rZ m w->rZ m W):=by
 have S:n+s.size<=9223372036854775807:=by simp only[Ą]at J;omega
 have K:l.length=n:=by simpa using E.1
 rcases E.2 with⟨rfl,rfl⟩|⟨g,y,B,rfl,V,F,X,Y,L,htake⟩
 .by_cases C:s.size=0
  .have a:=Lib.run_firstCells_string (P:=P) w 1 s;rw[C]at a;simp[Ō,ř j,ř k,sizeOf,typeInfo,p,D,bu,C,a]at r;grind
  .have b:=run_append_nil_string w t u h e zJ (Â aU 0) j k p G s Z Z (by rw[H];omega);rw[r]at b;cases b;exact⟨λa=>H2 a _ _ _,λ_ a=>H3 a _ _ _<|Ø I⟩
 .by_cases M:n+s.size<=y
  .have avr:B.size=y:=by simpa using L
   have b:=Lib.run_append_room_string w t u h e zJ j k p D g n y B F s M Z;rw[r]at b;cases b;refine⟨λa q o d=> ?_,λm a q c T N C d O=> ?_⟩
   .by_cases f:q=g
    .subst f;rw[ĝ w q B _ e _ F]at d;cases d;exact λx=>x
    .rw[ė w g q _ f]at d;exact a q o d
   .by_cases f:q=g
    .subst f;rw[ĝ w q B _ e _ F]at d;grind
    .rw[ė w g q _ f]at d;exact a q c T N C d O
  .have c:=E.cells U;have b:=Lib.run_append_grow_string w t u h e zJ (Â aU 0) j k p G ⟨g,0,Ä⟩ n y l (by rw[D];simpa using K) c s Z Z (by rw[H];exact ŕ Z Z);rw[r]at b;cases b;exact⟨λa=>H2 a _ _ _,λ_ a=>H3 a _ _ _<|Ø I⟩
def apa{P:Program}{ops:Array Oper}{rest:List Oper}{o:Oper}{a:Act}{Q:Exit->Act->World->Prop}{w:World}(H5:o.guard=none)(sl x:Operand)(t u:TypeId) (ho:o.op=.call {callee:=.builtin .append,args:=#[sl,x],argTypes:=#[t,u]}) {base:Nat} {e:TypeId} {i:TypeInfo} (ht:P.underlying t=some (.slice e)) (hu:P.underlying u=some .string) (hi:P.info? e=some i) (hz:i.zero=some (.int .u8 0)) (xW:i.size=1) (xY:i.bytes=1) {v:Value} {n:Nat} {xs:List Value} (hs:a.eval sl=v) (lQ:w.ownsRow base e 1 v n xs) (s:ByteArray) (hx:a.eval x=.string s) (Cl:n+s.size<=maxLen) (Cm:n+s.size<=140737488355328) (Cj:base<=w.heap.size) (h:∀v' w',w'.ownsRow base e 1 v' (n+s.size) (xs++Lib.strCells s)->fg (λk=>v.ownBlock=some k) w w'->wpList P ops Q rest (a.put o.dst v') w') (hT:mD e=false:=by decide):wpList P ops Q (o::rest) a w:=by refine Ű H5 λK hK=> ?_;let⟨v',w',hr,h2,h3,_⟩:=Lib.run_append_own_string w base t u o.type e i ht hu hi hz xW xY v n xs lQ s Cl Cm Cj;have kp:fg (λk=>v.ownBlock=Ã k) w w':=⟨h3.size,λk hk q=>h3.block k hk λe=>q e.symm,(aaU ht hu hi hz xW xY lQ s Cl Cm hr hT).1,(aaU ht hu hi hz xW xY lQ s Cl Cm hr hT).2⟩;unfold Ń Ĥ;simp only[ho,ae,aP,ag,ű,Ų,ĳ,ļ,Ť,ų,hs,hx,hr];exact hK _ _<|h v' w' h2 kp
structure o0(w0:É)(b:Nat)(bs:List È)(w:É):Prop where
 I:w0.heap.size<=b
 r:fg fl w0 w
 C:∃v,fp b [Å<|Ã ⟨b,0,Ä⟩,v] 100 w/\w.ownsRow w0.heap.size 5 1 v bs.length bs
def o0.fP(h:o0 u b l w)(k:fg fl w W):o0 u b l W:=by let⟨v,a,c⟩:=h.C;exact⟨h.I,h.r.fj k,v,a.I k id,im c k λ_ _=>id⟩
theorem Ua(h:o0 u b l w)(s:ByteArray)(m:l.length+s.size<=140737488355328): Ò À 38 #[Å<|Ã ⟨b,0,Ä⟩,Í s] w λe i=>e=Ç (æ #[Â Ë s.size,.nilIface])/\o0 u b (l++Lib.strCells s) i:=by
 let⟨B,c,n,o,p⟩:=í ao6;let⟨v,a,d⟩:=h.C;obtain⟨C,D,rfl⟩:=jN d;have t:=a.r 0 _ U;have E:=a.r 1 _ U;have x:=h.r.M;have y:=jE d a A;have H:=fi<|Á h<|Á c<|Á n<|Á o<|Á p<|Á a d;go_enter Tryz.func38,Tryz.ntmps38;go_wp2_with (first
  |(go_at_call 62;refine(ao8 b _ t).mono ?_;rintro e i ⟨rfl,j⟩;subst i)
  |(at_builtin;refine apa U _ _ 98 9 U Ā đ H.out.2.1 H.out.2.2.1 H.out.2.2.2.1 H.out.2.2.2.2.1 U H.out.2.2.2.2.2.2 s U (by unfold Ą;omega) m x ?_;intro g f j k;obtain⟨q,r,rfl⟩:=jN j;have i:=H.out.2.2.2.2.2.1.I k y;have z:=i.r 0 _ U;have F:=i.r 1 _ U;have G:=i.C 1;have e:=fi (Á k (Á i j));clear k i j))
 go_ret2;have z:=e.out.2.1.fR 1<|Ê q (l.length+s.size) r;have g:fg (λk=>k=b) f (f.setCell ⟨b,1,Ä⟩<|Ê q (l.length+s.size) r):=fg.I (X:=λk=>k=b) U _<|Ù e.out.2.1.G;refine⟨U,H.out.1.I,(H.out.1.r.C e.out.1 λi c q=> ?_).C g λi c q=> ?_,_,z,?_⟩
 .have:=(H.out.2.2.2.2.2.2.lt i q).1;omega
 .have:=H.out.1.I;omega
 .have:=im e.out.2.2 g λj q r=>jE e.out.2.2 e.out.2.1 A (by rw[q,r]);grind [Ó,Lib.strCells_length]
def apb:(À.info? 5).map (·.size)=Ã 1:=fv
def apc:À.cellsOf 5=1:=fv
structure IG(w0:É)(b:Nat)(p:È)(w:É):Prop where
 C:w0.heap.size<=b
 I:fg fl w0 w
 r:fp b [p,Ê Ä 0 0] 100 w
section
variable{w0:É}{p:È}
def IG.DU(h:IG w0 b (Å<|Ã ⟨b,0,Ä⟩) w)(f:d.size<=Ą):o0 w0 b [] ((w.alloc<|Ð d 5).setCell ⟨b,1,Ä⟩<|Ê (Ã ⟨w.heap.size,0,Ä⟩) 0 d.size).drew.drew.drew:=by have a:=fg.gL fl w d 5;have c:fg (λk=>k=b) (w.alloc<|Ð d 5) ((w.alloc<|Ð d 5).setCell ⟨b,1,Ä⟩<|Ê (Ã ⟨w.heap.size,0,Ä⟩) 0 d.size):=fg.I (X:=λk=>k=b) U _<|Ù (h.r.I a id).G;have k:=(h.r.I a id).fR 1<|Ê (Ã ⟨w.heap.size,0,Ä⟩) 0 d.size;have m:=h.r.M;have g:(w.alloc<|Ð d 5).ownsRow w0.heap.size 5 1 (Ê (Ã ⟨w.heap.size,0,Ä⟩) 0 d.size) 0 []:= ⟨U,Ù ⟨w.heap.size,d.size,d,U,h.I.M,ì w _,â _,f,ft,ft⟩⟩;have l:o0 w0 b [] ((w.alloc<|Ð d 5).setCell ⟨b,1,Ä⟩<|Ê (Ã ⟨w.heap.size,0,Ä⟩) 0 d.size):= ⟨h.C,(h.I.fj a).C c λi n q=>by have:=h.C;omega,_,k,im g c λj q r=>by cases q;have e:w.heap.size=b:=r;omega⟩;exact((l.fP<|fg.fY _ _).fP<|fg.fY _ _).fP<|fg.fY _ _
theorem apd(h:IG w0 b (Å<|Ã ⟨b,0,Ä⟩) w)(n:Nat)(j:n<=281474976710656): Ò À 63 #[Å<|Ã ⟨b,0,Ä⟩,Â Ë n] w λe c=>e=Ç (æ #[])/\o0 w0 b [] c:=by
 let⟨a,g,o,k⟩:=Lib.run_makeNoZero w.drew #[3] 98 5 Ā n j;have i:Ë.wrap (Ë.wrap 0+(n:Int))=n:=by grind [ó]
 have p:(callFunc 114 #[Â Ë<|Ë.wrap<|Ë.wrap 0+(n:Int)]).run À w.drew=φ (.value<|Ê (Ã ⟨w.drew.heap.size,0,Ä⟩) n a.size) (w.drew.drew.drew.alloc<|Ð a 5):=by rw[i,ţ Tryz.func114 fv fv fv fv,g];rfl
 have e:=fi (Á (show w.drew.cell? ⟨b,1,Ä⟩=Ã (Ê Ä 0 0)from h.r.r 1 _ rfl) trivial);have d:=h.r.I (fg.gL fl w a 5) id;have l:=d.r 1 _ U;have f:=l;have q:=d.C 1;have r:∀W:É,(ν #[98,98] 3 #[Ê (Ã ⟨w.heap.size,0,Ä⟩) 0 a.size,Ê Ä 0 0]).run À W=φ (goInt 0) W:= λW=>run_copy_none W 98 98 3 5 _ _ 0 a.size 0 0 Ā apb U;have m:=fi (h.DU<|k<|by unfold Ą;omega);clear i h d g;go_enter Tryz.func63,Tryz.ntmps63;go_wp2;refine mE (λc=>c.cell? ⟨b,1,Ä⟩=Ã (Ê Ä 0 0)/\True) [] fv ?_;iterate 8 apply tk e.out
 apply tk e.out 9;apply tk e.out 10;apply tk e.out 11;apply tk e.out 12;apply tk e.out 13;refine gG 8 ?_;intro K c;go_simp;refine c.out _ _ (λ_=>⟨f,trivial⟩) ?_;refine gG 14 ?_;intro K c;go_simp;refine c.out _ _ (λ_=>⟨f,trivial⟩) ?_;refine gG 15 ?_;intro K c;go_simp;refine c.out _ _ (λ_=>⟨f,trivial⟩) ?_;refine mg fv ?_ _;go_wp2;go_end0;exact⟨U,m.out⟩
def ape(h:IG w0 b (Å Ä) w)(n:Nat)(l:0<n)(d:n<=281474976710656): Ò À 37 #[Å<|Ã ⟨b,0,Ä⟩,Â Ë n] w λe a=>e=Ç (æ #[])/\o0 w0 b [] a:=by
 have f:w.shape? b=Ã (100,2):=by have i:w.heap[b]?=_:=h.r;simp[ŷ,i]
 have c:=fi (show IG w0 b (Å<|Ã ⟨b,0,Ä⟩) (w.setCell ⟨b,0,Ä⟩<|Å<|Ã ⟨b,0,Ä⟩).drew from⟨h.C,(h.I.C (fg.I (X:=λk=>k=b) U _<|Ù h.r.G) λi k q=>by have:=h.C;omega).fj<|fg.fY _ _,(h.r.fR 0 _).I (fg.fY fl _) id⟩);have k:=fi<|Á (c.out.r.r 1 _ rfl) trivial;have q:=h.r.r 0 _ U;have g:=h.r.C 0;have m:¬((n:Int)<0):=Z
 have o:(0:Int)<(n:Int):=Z
 have p:Ë.wrap 0<(n:Int):=by rw[ó];omega
 go_enter Tryz.func37,Tryz.ntmps37;go_wp2_with (go_at_call 62;refine(ao9 b w q f g).mono ?_;rintro e a ⟨rfl,i⟩;subst a);refine mE (λa=>a.cell? ⟨b,1,Ä⟩=Ã (Ê Ä 0 0)/\True) [] fv ?_;iterate 13 apply tk k.out
 refine mg fv ?_ _;go_wp2_with (go_at_call 63;refine(apd c.out n d).mono ?_;rintro e a ⟨rfl,i⟩;have j:=fi i;clear i);go_end0;exact⟨U,j.out⟩
def apf{l:List UInt8}(h:o0 w0 b (ô l) w)(d:l≠[]): Ò À 39 #[Å<|Ã ⟨b,0,Ä⟩] w λe K=>e=Ç (Í ⟨l.toArray⟩)/\fg fl w0 K:=by
 let⟨v,f,c⟩:=h.C;have n:l.length≠0:=by simpa using d
 rw[Ř]at c;obtain⟨g,e,a,rfl,t,o,u,s,y,z⟩:∃g e a,v=Ê (Ã ⟨g,0,Ä⟩) l.length e/\w0.heap.size<=g/\w.heap[g]?=Ã (Ð a 5 (0,0))/\l.length<=e/\e<=Ą/\a.size=e*1/\a.toList.take (l.length*1)=ô l:=by
  rcases c.2 with⟨_,i⟩|⟨g,e,a,j,r⟩
  .exact absurd i n
  .exact⟨g,e,a,j,r⟩
 have m:=fi (Á (show w.drew.cell? ⟨b,1,Ä⟩=Ã (Ê (Ã ⟨g,0,Ä⟩) l.length e)from f.r 1 _ rfl) trivial);have B:∀W:É,(υ #[98] 170 #[Ê (Ã ⟨g,0,Ä⟩) l.length e]).run À W=φ (Å<|Ã ⟨g,0,Ä⟩) W:=λW=>
  Lib.run_unsafeSliceData_row _ _ _ _ _ _ Z
 have C:(Ő #[170,3] 9 #[Å<|Ã ⟨g,0,Ä⟩,Â Ë l.length]).run À w.drew=φ (Í ⟨l.toArray⟩) (w.drew.freeze ⟨g,0,Ä⟩ l.length):=by refine Ĺ w.drew 170 3 9 5 ũ apc g a.size (by have i:w.drew.heap[g]?=Ã (Ð a 5 (0,0)):=o;simp[ŷ,i]) l d Z (by unfold Ą at s;omega) ?_;intro j x i;have:=c.cells U j (Â aU x.toNat) (by simp[ô,i]);exact this
 have x:=fi ((h.r.fj<|fg.fY _ _).C (fg.G (X:=λk=>k=g) (p:=⟨g,0,Ä⟩) U l.length) λi j q=>by omega);have j:=fi (Á ((fg.G (X:=λk=>k=g) (p:=⟨g,0,Ä⟩) rfl l.length).r m.out.1 λq=>jE c f A<|by show Ã g=Ã b;rw[show g=b from(show b=g from q).symm]) trivial);go_enter Tryz.func39,Tryz.ntmps39;go_wp2;refine mE (λK=>K.cell? ⟨b,1,Ä⟩=Ã (Ê (Ã ⟨g,0,Ä⟩) l.length e)/\True) [] fv ?_;iterate 10 apply tk m.out
 apply gG 10;intro K i;go_simp;apply i.out _ _ λ_=>j.out;apply gG 11;intro K i;go_simp;apply i.out _ _ λ_=>j.out;refine mg fv ?_ _;go_wp2;go_ret;exact⟨U,x.out⟩
end
end Go.Proofs.Y.fV
