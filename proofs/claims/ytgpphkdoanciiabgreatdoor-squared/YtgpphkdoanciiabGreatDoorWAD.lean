import Derived.Test.YtgpphkdoanciiabGreatDoorWAC
import Derived.Test.YtgpphkdoanciiabGreatDoorChecked
import Derived.WalkKit
import Derived.WalkSpells
import Derived.WalkLawsBesides
import Derived.Deep.Light
import Derived.Maps.AppendAt
import Derived.RegionTactic
import Derived.Deep.RegionWith
import Derived.Deep.QuietTactic
import Derived.BigQuiet
import Derived.Deep.RegionHeld3
import Derived.WalkMore
import Derived.Deep.MidRow
import Derived.Great.Walk
import Derived.Lib.UnsafeStr
import Derived.Lib.BufferWrite
import Derived.Laws.Tables
import Derived.Laws.Bits64
import Derived.Shelf.Strconv.Itoa0
import Derived.Shelf.Strconv.Itoa1
import Derived.Shelf.LaysM
import Derived.Shelf.Strconv.Itoa2
import Derived.Shelf.Strconv.Itoa3
import Derived.Shelf.Strings.Repeat
import Derived.Shelf.Strings.OnBuilder
import Derived.Shelf.Strconv.Clone
import Derived.Shelf.Strings.Prefix
import Derived.Shelf.Bits.Mul64
import Derived.Test.YtgpphkdoanciiabGreatDoorProg
import Derived.Lib.ItoaLen
set_option linter.all false
set_option maxRecDepth 1000000
set_option maxHeartbeats 8000000
open Go.Proofs.Tryz renaming prog->À,ntmps189->å,func189->ê,underlying54->ù,underlying98->Ā,underlying9->đ,underlying3->Ě,underlying4->ě,zeroValue3->ħ,zeroValue4->Ĩ,zeroValue9->ĩ,underlying23->ķ,underlying97->ĸ,ntmps154->ĺ,zeroValue23->ŀ,func154->Ņ,ntmps50->Ň,sizeOf3->ň,sizeOf4->ŉ,sizeOf9->Ŋ,func50->ś,isAgg3->Ŝ,isAgg4->ŝ,isAgg9->Ş,ntmps138->ť,sizeOf23->Ŧ,underlying170->ũ,underlying161->ū,underlying163->Ŭ,func138->Ÿ,func171->Ź,ntmps97->ź,zeroValue161->ż,isAgg23->Ž,underlying86->ž,underlying0->Γ,underlying5->Δ,zeroValue86->Ε,func97->Κ,zeroValue0->Ρ,zeroValue5->Τ,sizeOf161->ε,ntmps193->η,ntmps194->θ,ntmps152->κ,ntmps180->ξ,ntmps153->ο,ntmps171->π,isAgg161->ρ,sizeOf86->ς,ntmps156->σ,func193->ah,func194->aj,func152->ar,func180->au,func153->av,sizeOf0->ay,sizeOf5->az,isAgg86->aB,func156->aC,ntmps62->aD,isAgg0->aH,isAgg5->aI,func62->aJ,f145->aZ
open And renaming intro->Á
open Go.Value renaming int->Â,pointer->Å,slice->Ê,string->Í,bool->Ñ,tuple->æ,agg->Ē,cells->ğ,ownBlock->Į
open Option renaming some->Ã,none->Ä,map_eq_some_iff->Ì,map_some->ñ,isSome_none->Ũ,map->Ū
open Go.IntKind renaming u64->Æ,i64->Ë,wrap_i64->ó,u8->aU,wrap_u64->aY
open Go.Ending renaming returned->Ç
open Go renaming Value->È,World->É,Calls->Ò,Act->é,heap_alloc_new->ì,info_parts->í,bodyPost_ret->ð,TypeId->õ,cell_one_new->þ,undef->ā,Addr->ă,maxLen->Ą,wp_loop->Ĉ,setRow_other->ė,setRow_heap->ĝ,execOp->Ĥ,wpList_load_mid->ĥ,all_oneCell_toArray->Ī,wpList_store_mid->ľ,Code->ŏ,grownCap->Œ,growslice_fits->ŕ,run_underlying->ř,Oper->ş,run_callFunc_extern->ţ,Operand->ŭ,wpList_plain->Ű,cell_two_new->Ŵ,grownCap_ge->Η,run_append_grow->Λ,run_loadVar_mid->Ν,ready_mono->Ω,wpOp_step->χ,resolve->ae,builtin->ag,yielded->ai,results->ak,Ending->ax,Program->aF,invoke->aP,wpList->aR,Exit->aT
open Go.Code renaming wp->Î,wp_mono->Ý,loop->à,skip->ĵ
open Bool renaming false->Ï,true->Ú,false_eq_true->ĭ
open Go.Obj renaming cells->Ð
open List renaming length_append->Ó,getElem?_eq_getElem->Ô,setIfInBounds_toArray->Õ,getElem?_eq_some_iff->Ü,eq_nil_of_length_eq_zero->ß,set_cons_zero->ã,set_cons_succ->ä,getElem?_append_left->ç,append_nil->ò,mem_append->ú,getElem?_range->û,getElem?_append_right->ü,ext_getElem?->ý,size_toArray->ć,append_assoc->Ċ,range->ċ,drop_eq_getElem_cons->ē,length_set->ĕ,drop_eq_nil_of_le->Ę,set_append_left->Ğ,mem_of_getElem?->Ġ,getD_eq_getElem?_getD->Ĳ,getElem?_map->Ķ,map_toArray->ļ,length_cons->Ľ,mem_map->ņ,range_succ->Ŏ,mem_append_left->œ,getElem?_set_ne->Ŗ,mem_cons_of_mem->Ś,flatMap_append->Ţ,map_cons->Ť,map_nil->ų,take_add_one->ſ,mem_flatMap->Α,length_nil->Μ,nil_append->Ξ,length_map->Ο,map_append->Υ
open Int renaming le_refl->Ö,toNat_of_nonneg->Ĕ,toNat_natCast->ŵ,le_trans->Ŷ
open Or renaming inl->Ø,inr->Ù
open Array renaming getElem?_modify->Û,size_replicate->Ď,getD_eq_getD_getElem?->ī,replicate->ō,toList_append->Š,length_toList->š,size_append->ů
open Nat renaming le_refl->Þ,zero_le->â,le_trans->ë,le_add_right->Ŀ,zero_add->ł,add_mul->ő,mul_le_mul_right->Ŕ,mul_one->ŗ,lt_of_lt_of_le->ŧ,lt_or_ge->Ů,mod_lt->aO
open Go.World renaming block_lt_of_cell?->á,alloc->Ă,setCell->ą,ownsRow_nil->ĉ,drew->Č,freeze->Đ,shape?->ŷ,cell?->Ζ
open Option.some renaming injEq->è
open Go.Operand renaming tmp->î,func->bh
open Go.Ground renaming data->ï
open Go.Lib renaming byteCells->ô,nDigits->č,zeros24->ġ,decDigits_length->Ģ,run_unsafeString_row->Ĺ,decDigits->Ļ,byteCells_length->Ř,TabIs->ω,pow10Tab->aA
open Go.Builtin renaming zeroCells->ö,append_->Ō,unsafeString_->Ő,copy_->ν,unsafeSliceData_->υ,min->bn,lenOf->bu
open ByteArray renaming extract->ø,size_extract->ŋ,ext->bq
open Go.Region renaming ready->ÿ,wanted->Ĝ,binds->ń,Mode->Θ
open Go.Great renaming wpList_runTo->Ć
open Go.RowKit.Below renaming heap_alloc->ď,heap_setCell->Ė
open False renaming elim->ę
open Go.Obj.cells renaming injEq->ģ
open Go.Oper renaming upon_value->Ħ,wp->Ń
open Go.Shelf renaming Ren->Ĭ
open Go.Result renaming andThen->į,andThen_ok->ĳ,ok->φ
open Go.TypeDesc renaming isRow->İ,slice->bm
open Go.Instr renaming fill->ı,index->Ι
open Go.Act renaming put->Ĵ
open Go.Sort renaming mapBlock->Ł,putRow->ζ
open Go.Sem renaming run_bind->ű,run_pure->Ų
open Go.Op renaming build->Χ,call->aE,alloc->bj
open Go.Proofs.Lays renaming n283->aK,n285->aL,n212->aN,n99->aS
variable{i n j b k m J j9 j7 j6:Nat}{w u W jX:É}{v x z jQ:È}{a p:ă}{h c:Int}{e t T:õ}{d q:Array È}{P:aF}{y:é}{B:ByteArray}{X:Nat->Prop}{O:Option ă}{l:List È}{yQ:Bool}{K H:é->É->Prop}{o:ş}{D:Nat->Nat}{jJ:List Nat}{qQ:ŭ}{zQ:List Int}{zJ:Go.TypeInfo}{xX:ŭ->È}{xJ:Nat×Nat}{vX:List ByteArray}{vJ:aT->é->É->Prop}{s:Go.Func}
namespace Go.Proofs.Y.gp
open Go Go.Proofs Go.RowKit Go.Proofs.Y.Lift
def fg{p:Prop}(h:p):Hid p:=h
def b_{b:Bool}(h:yQ=b):Ç (Ñ yQ)=Ç (Ñ b):=by rw[h]
def EA{k:IntKind}{b:Int}(h:c=b):Ç (Â k c)=Ç (Â k b):=by rw[h]
def c_{b:ByteArray}(h:B=b):Ç (Í B)=Ç (Í b):=by rw[h]
def kq:È->Bool
 |Â aU _=>Ï
 |Â _ _=>Ú
 |Ñ _=>Ú
 |_=>Ï
def mq(T:õ):Bool:=T==250||T==239
def rY(m:Nat)(w:É):Prop:=∀(b:Nat) (c:Array È) (T:õ) (v:Nat×Nat),m<=b->w.heap[b]?=Ã (Ð c T v)->mq T=Ú->0<c.size/\∀v∈c.toList,kq v=Ú
def NF(b:Nat)(w:É):Prop:=∀(c:Array È) (T:õ) (a:Nat×Nat),w.heap[b]?=Ã (Ð c T a)->mq T=Ï
structure fe(X:Nat->Prop)(w w':É):Prop where
 M:w.heap.size<=w'.heap.size
 N:∀k,k<w.heap.size->¬X k->w'.heap[k]?=w.heap[k]?
 gU:kn w->kn w'
 Y:∀m,rY m w->rY m w'
section
variable{Y:Nat->Prop}{w' d:É}
theorem fe.fX(X:Nat->Prop)(w:É):fe X w w:=⟨Þ _,λ_ _ _=>rfl,id,λ_=>id⟩
def fe.fh(h:fe X W jX)(k:fe X jX d):fe X W d:= ⟨ë h.M k.M,λi b c=>(k.N i (ŧ b h.M) c).trans<|h.N i b c,λa=>k.gU<|h.gU a,λm a=>k.Y m<|h.Y m a⟩
def fe.S(h:fe X w w')(b:∀k,k<w.heap.size->X k->Y k):fe Y w w':= ⟨h.M,λk a c=>h.N k a λx=>c<|b k a x,h.gU,h.Y⟩
def fe.C(h:fe X W jX)(k:fe Y jX d)(e:∀i,i<W.heap.size->Y i->X i):fe X W d:= ⟨ë h.M k.M,λi b c=>(k.N i (ŧ b h.M) λy=>c<|e i b y).trans<|h.N i b c,λa=>k.gU<|h.gU a,λm a=>k.Y m<|h.Y m a⟩
def ala(a:kn w)(p:ă)(v:È):kn (w.setCell p v):=by
 intro i o h;by_cases e:i=p.block
 .subst e;unfold ą at h;simp only[Û,if_true]at h;cases b:w.heap[p.block]? with
  |none=>rw[b]at h;cases h
  |some d=>
   have:=a _ _ b;rw[b]at h;cases d with
   |cells c t z=>simp only[ñ,è]at h;subst h;exact λx=>x
   |_=>exact absurd trivial this
 .rw[Ė _ _ _ _ (by simpa using e)]at h;exact a i o h
theorem HM(a:kn w)(b:Array È)(t:õ)(z:Nat×Nat):kn (w.alloc<|Ð b t z):=by
 intro i o h;by_cases e:i<w.heap.size
 .rw[ď _ _ _ e]at h;exact a i o h
 .by_cases c:i=w.heap.size
  .subst c;rw[ì]at h;cases h;exact λx=>x
  .have:(w.alloc<|Ð b t z).heap.size<=i:=by simp;omega
   grind
def alb(a:rY m w)(p:ă)(v:È)(f:kq v=Ú\/NF p.block w):rY m (w.setCell p v):=by
 intro i c T k g h b;by_cases e:i=p.block
 .subst e;unfold ą at h;simp only[Û,if_true]at h;cases d:w.heap[p.block]? with
  |none=>rw[d]at h;cases h
  |some l=>
   rw[d]at h;cases l with
   |cells o t z=>
    simp only[ñ,è,ģ]at h;obtain⟨n,rfl,rfl⟩:=h;rcases f with f|f
    .subst n;split
     .exact a _ _ _ _ g d b
     .refine⟨by rw[Array.size_setIfInBounds];exact(a _ _ _ _ g d b).1,λu j=> ?_⟩;rw[Array.toList_setIfInBounds]at j;rcases List.mem_or_eq_of_mem_set j with q|q
      .exact(a _ _ _ _ g d b).2 u q
      .rwa[q]
    .rw[f _ _ _ d]at b;cases b
   |_=>cases h
 .rw[Ė _ _ _ _ (by simpa using e)]at h;exact a i c T k g h b
theorem HN(a:rY m w)(b:Array È)(t:õ)(z:Nat×Nat)(j:mq t=Ï\/0<b.size/\∀v∈b.toList,kq v=Ú):rY m (w.alloc<|Ð b t z):=by
 intro i c T d f h g;by_cases e:i<w.heap.size
 .rw[ď _ _ _ e]at h;exact a i c T d f h g
 .by_cases k:i=w.heap.size
  .grind [ì]
  .have:(w.alloc<|Ð b t z).heap.size<=i:=by simp;omega
   grind
def fe.I{p:Addr}(hx:X p.block)(v:Value)(hv:kq v=true\/NF p.block w:=by first|exact Or.inl (by rfl)|exact Or.inr<|by assumption):fe X w (w.setCell p v):= ⟨fq,λk _ hk=>Ė _ _ _ _ (by intro e;subst e;exact hk hx),λa=>ala a p v,λ_ a=>alb a p v hv⟩
def fe.gJ(X:Nat->Prop)(w:World)(cs:Array Value)(t:TypeId)(hf:mq t=false\/0<cs.size/\∀v∈cs.toList,kq v=true:=by first|exact Or.inl (by decide)|exact Or.inr ⟨by simp,by simp[kq]⟩):fe X w (w.alloc<|.cells cs t):= ⟨fq,λk hk _=>ď _ _ _ hk,λa=>HM a cs t (0,0),λ_ a=>HN a cs t (0,0) hf⟩
def fe.iR(X:Nat->Prop)(w:É)(n:Nat):fe X w (w.drewN n):=⟨Þ _,λ_ _ _=>rfl,id,λ_=>id⟩
def fe.fU(X:Nat->Prop)(w:É):fe X w w.drew:=⟨Þ _,λ_ _ _=>rfl,id,λ_=>id⟩
def kp{X:Nat->Prop}{w w':World}(h:fe X w w':=by repeat' (first|(with_reducible exact fe.fX _ _)|(with_reducible refine fe.fh ?_<|fe.iR _ _ _)|(with_reducible refine fe.fh ?_<|fe.fU _ _)|(with_reducible refine fe.fh ?_<|fe.gJ _ _ _ _))):fe X w w':=h
def fe.r(h:fe X w w')(b:w.cell? a=Ã v)(c:¬X a.block):w'.cell? a=Ã v:=by rwa[World.cell?_of_block<|h.N _ (á w a b) c]
end
def HO{u:È}(h:j≠b):(w.setCell ⟨j,i,Ä⟩ u).cell? ⟨b,n,Ä⟩=w.cell? ⟨b,n,Ä⟩:= World.cell?_setCell_other _ _ _ _<|by intro e;injection e with e1 e2;exact h e1
def fj(j:Nat)(vs:List È)(T:õ)(w:É):Prop:=w.heap[j]?=Ã (Ð vs.toArray T (0,0))
section
variable{vs:List È}{w':É}
def fj.N(w:É)(vs:List È)(T:õ):fj w.heap.size vs T (w.alloc<|Ð vs.toArray T):=ì w _
def fj.M(h:fj j vs T w):j<w.heap.size:=by
 rcases Ů j w.heap.size with a|a
 .exact a
 .unfold fj at h;rw[Array.getElem?_eq_none a]at h;cases h
def fj.r(h:fj j vs T w)(i:Nat)(v:È)(a:vs[i]?=Ã v):w.cell? ⟨j,i,Ä⟩=Ã v:=by unfold fj at h;simp only[Ζ,h,Ũ,ĭ,if_false,List.getElem?_toArray];exact a
def fj.C(h:fj j vs T w)(i:Nat):w.frozen? ⟨j,i,Ä⟩=Ï:=by unfold fj at h;simp[World.frozen?,h]
def fj.Aw(h:fj j vs T w)(e:w'.heap[j]?=w.heap[j]?):fj j vs T w':=by unfold fj;rwa[e]
def fj.I(h:fj j vs T w)(k:fe X w w')(a:¬X j):fj j vs T w':=h.Aw<|k.N j h.M a
theorem fj.fS(h:fj j vs T w)(i:Nat)(u:È):fj j (vs.set i u) T (w.setCell ⟨j,i,Ä⟩ u):=by unfold fj at h|-;unfold ą;grind
def fj.G(h:fj j vs T w)(hT:mq T=false:=by decide):NF j w:=λc T' fr q=>by unfold fj at h;rw[h]at q;cases q;exact hT
theorem fj.S(h:fj j vs T w)(k:fj i l e w)(a:T≠e):j≠i:=by rintro rfl;unfold fj at h k;grind
end
section
variable{w':É}{base:Nat}{size:Nat}{xs:List È}
def alc(h:w.ownsRow base e size v n xs)(k:∀j,v.ownBlock=Ã j->w'.heap[j]?=w.heap[j]?):w'.ownsRow base e size v n xs:=by
 let⟨c,a⟩:=h;refine⟨c,?_⟩;rcases a with a|⟨g,d,f,b,i,l,r⟩
 .exact Ø a
 .refine Ù ⟨g,d,f,b,i,?_,r⟩;rw[k g (by rw[b];rfl)];exact l
def ig(h:w.ownsRow base e size v n xs)(k:fe X w w')(b:∀j,v.ownBlock=Ã j->¬X j):w'.ownsRow base e size v n xs:= alc h λj a=>k.N j (h.lt j a).2<|b j a
theorem jL(h:w.ownsRow base e size v n xs):∃a c,v=Ê a n c:=by rcases h.2 with⟨b,d⟩|⟨g,f,i,b,_⟩;all_goals grind
theorem lY(h:w.ownsRow base e size v n xs)(a:v.ownBlock=Ã j):∃b,w.heap[j]?=Ã (Ð b e (0,0)):=by
 rcases h.2 with⟨c,_⟩|⟨g,f,b,c,_,d,_⟩
 .rw[c]at a;cases a
 .rw[c]at a;cases a;exact⟨b,d⟩
theorem jA(h:w.ownsRow base e size v n xs)(k:fj j l T w)(a:e≠T):v.ownBlock≠Ã j:=by intro q;let⟨b,c⟩:=lY h q;unfold fj at k;grind
theorem ald(h:w.ownsRow base e size v n xs)(k:w.ownsRow i t b x m l)(a:e≠t)(c:v.ownBlock=Ã j):x.ownBlock≠Ã j:=by grind [lY]
theorem SB{n:Nat}(h:v∈(ö d n).toList):v∈d.toList:=by unfold ö at h;grind [Array.toList_map,getElem,aO]
structure qk(w:É)(base:Nat)(e:õ)(size:Nat)(v:È)(n:Nat)(xs:List È)(m:Nat)(news:List È)(v':È)(w':É):Prop where
 ft:w'.ownsRow base e size v' (n+m) (xs++news)
 r:fe (λk=>v.ownBlock=Ã k) w w'
 C:v'.ownBlock=v.ownBlock\/v'.ownBlock=Ã w.heap.size
 I:∀v0 n0 xK,w.ownsRow base e size v0 n0 xK->(v0.ownBlock=v.ownBlock->n0<=n)->w'.ownsRow base e size v0 n0 xK
def qk.ale(c:w.ownsRow base e size v n xs)(f:l.length=m*size)(g:base<=w.heap.size)(j:n+m<=i)(o:i<=Ą)(p:d.size=i*size)(q:d.toList.take ((n+m)*size)=xs++l)(r:mq e=Ï\/0<d.size/\∀v∈d.toList,kq v=Ú): qk w base e size v n xs m l (Ê (Ã ⟨w.heap.size,0,Ä⟩) (n+m) i) (w.drew.alloc<|Ð d e):=by have b:∀X,fe X w (w.drew.alloc<|Ð d e):=λX=>⟨fq,λk s _=>ď _ _ _ s,λa=>HM a d e (0,0),λ_ a=>HN a d e (0,0) r⟩;refine⟨⟨by rw[Ó,c.1,f,ő],Ù ⟨w.heap.size,i,d,U,g,ì w.drew _,j,o,p,q⟩⟩,b _,Ù U,λt u x h _=>ig h (b λ_=>False) λ_ _=>id⟩
theorem SC{ty:õ}{bytes:Nat}(F:P.underlying t=Ã (bm e))(G:P.info? e=Ã zJ)(Q:zJ.zero=Ã z) (xL:zJ.size=size) (xM:zJ.bytes=bytes) (rU:z.cells.size=size) (p:w.ownsRow base e size v n xs) (a:ă) (c:Nat) (b:List È) (hm:0<m) (r:b.length=m*size) (H:∀j u,b[j]?=Ã u->w.cell? (a.add j)=Ã u) (h1:∀u∈b,u.oneCell'=Ú) (S:n+m<=Ą) (V:(n+m)*bytes<=140737488355328) (B3:base<=w.heap.size) (W:mq e=Ï\/(0<b.length/\(∀u∈xs++b,kq u=Ú)/\∀u∈z.cells.toList,kq u=Ú)): ∃x w',(Ō #[t,t] ty #[v,Ê (Ã a) m c]).run P w=φ x w'/\qk w base e size v n xs m b x w':=by
 subst xL;subst xM;have alf:n+m<=9223372036854775807:=by simp only[Ą]at S;omega
 have hlen:(xs++b).length=(n+m)*zJ.size:=by rw[Ó,p.1,r,ő]
 have auF:=p;have tk:∀d,((xs.toArray++b.toArray++ö z.cells (Œ w (n+m) d e-(n+m))).toList.take ((n+m)*zJ.size)=xs++b):=λd=>by grind
 have sz:∀d,(xs.toArray++b.toArray++ö z.cells (Œ w (n+m) d e-(n+m))).size=Œ w (n+m) d e*zJ.size:=λd=>by have x:=Η w (n+m) d e;simp only[ů,ć,size_zeroCells,rU,p.1,r,<-ő];congr 1;omega
 have alg:∀d,mq e=Ï\/0<(xs.toArray++b.toArray++ö z.cells (Œ w (n+m) d e-(n+m))).size/\∀v∈(xs.toArray++b.toArray++ö z.cells (Œ w (n+m) d e-(n+m))).toList,kq v=Ú:=λd=>by
  cases s:mq e with
  |false=>exact Ø U
  |true=>
   rcases W with q|⟨x,B,I⟩
   .rw[q]at s;cases s
   .refine Ù ⟨by simp only[ů,ć];omega,λv f=> ?_⟩;simp only[Š,ú]at f;rcases f with(f|f)|f
    .exact B v<|œ _ f
    .exact B v<|List.mem_append_right _ f
    .exact I v<|SB f
 have gr:=λd=>qk.ale p r B3 (Η w (n+m) d e) (grownCap_le_maxLen w (n+m) d e S) (sz d) (tk d)<|alg d;rcases p.2 with⟨rfl,rfl⟩|⟨g,y,h,rfl,hbg,C,hnc,hcm,X,htake⟩
 .have J:=ß (by simpa using p.1);subst J;have Y:=run_append_nil w t ty e zJ z F G Q a m c b r H hm Z (by have x:=V;simp only[ł]at x;omega);grind
 .by_cases K:n+m<=y
  .have SF:n*zJ.size+b.length<=h.size:=by rw[r,X,<-ő];exact Ŕ _ K
   have Y:=run_append_room w t ty e zJ F G g n y h C a m c b r H h1 K SF;have E:=ĝ w g h (h.toList.take (n*zJ.size)++b++h.toList.drop (n*zJ.size+b.length)).toArray e _ C;have L:=λk (M:k≠g)=>ė w g k (h.toList.take (n*zJ.size)++b++h.toList.drop (n*zJ.size+b.length)).toArray M;have N:(h.toList.take (n*zJ.size)++b++h.toList.drop (n*zJ.size+b.length)).toArray.size=h.size:=by grind
   have kp:fe (λk=>Į (Ê (Ã ⟨g,0,Ä⟩) n y)=Ã k) w (w.setRow g (h.toList.take (n*zJ.size)++b++h.toList.drop (n*zJ.size+b.length)).toArray):=by
    refine⟨fq,λk _ M=>L k λe=>M (by simp[Į,e]),λal q o l=> ?_,λm' hF q c T fr O l s=> ?_⟩;rotate_left
    .by_cases D:q=g
     .subst D;rw[E]at l;cases l;rcases W with qq|⟨_,B,_⟩
      .grind
      .refine⟨by rw[N];exact(hF _ _ _ _ O C s).1,λu x=> ?_⟩;simp only[ú]at x;rcases x with(x|x)|x
       .grind
       .grind
       .exact(hF _ _ _ _ O C s).2 u<|List.mem_of_mem_drop x
     .rw[L q D]at l;exact hF q c T fr O l s
    by_cases D:q=g
    .subst D;rw[E]at l;cases l;exact λx=>x
    .rw[L q D]at l;exact al q o l
   refine⟨_,_,Y,⟨hlen,Ù ⟨g,y,_,U,hbg,E,K,hcm,by rw[N,X],?_⟩⟩,kp,Ø U,λo q xK x s=> ?_⟩
   .grind
   .by_cases f:o.ownBlock=Ã g
    .let⟨B,I⟩:=x;refine⟨B,?_⟩;rcases I with⟨rfl,_⟩|⟨g0,D,auG,rfl,O,l,T,b4,b5,b6⟩
     .cases f
     .have:g0=g:=by simpa[Į]using f
      subst this;rw[C]at l;cases l;refine Ù ⟨g0,D,_,U,O,E,T,b4,by rw[N,b5],?_⟩;rw[htake];have auH:q*zJ.size<=n*zJ.size:=Ŕ _<|s f;grind
    .exact ig x kp λj l J=>f<|by rw[l];simpa[Į]using J.symm
  .exact⟨_,_,(Λ w t ty e zJ z F G Q ⟨g,0,Ä⟩ n y xs p.1 (p.cells U) a m c b r H Z Z<|ŕ Z V),gr y⟩
def B4{P:Program}{ops:Array Oper}{rest:List Oper}{o:Oper}{a:Act}{Q:Exit->Act->World->Prop}(SG:o.guard=none)(s x:Operand)(t:TypeId) (ho:o.op=.call {callee:=.builtin .append,args:=#[s,x],argTypes:=#[t,t]}) {i:TypeInfo} {z:Value} {bytes:Nat} (ht:P.underlying t=some (.slice e)) (hi:P.info? e=some i) (hz:i.zero=some z) (xL:i.size=size) (xM:i.bytes=bytes) (rU:z.cells.size=size) (hs:a.eval s=v) (lI:w.ownsRow base e size v n xs) (ad:Addr) {m c:Nat} (news:List Value) (hx:a.eval x=.slice (some ad) m c) (hm:0<m) (hl:news.length=m*size) (SH:∀j u,news[j]?=some u->w.cell? (ad.add j)=some u) (h1:∀u∈news,u.oneCell'=true) (B5:n+m<=maxLen) (B6:(n+m)*bytes<=140737488355328) (B3:base<=w.heap.size) (h:∀v' w',qk w base e size v n xs m news v' w'->wpList P ops Q rest (a.put o.dst v') w') (hfl:mq e=false\/(0<news.length/\(∀u∈xs++news,kq u=true)/\∀u∈z.cells.toList,kq u=true):=by first|exact Or.inl (by decide)|exact Or.inr ⟨by simp,by simp[kq],by simp[kq,Value.cells]⟩): wpList P ops Q (o::rest) a w:=by refine Ű SG λK hK=> ?_;let⟨v',w',hr,h2⟩:=SC (ty:=o.type) ht hi hz xL xM rU lI ad c news hm hl SH h1 B5 B6 B3 hfl;unfold Ń Ĥ;simp only[ho,ae,aP,ag,ű,Ų,ĳ,ļ,Ť,ų,hs,hx,hr];exact hK _ _<|h v' w' h2
end
structure HP where
 fx:Int
 r:ByteArray
 C:Nat->Int
abbrev St:=Nat->HP
def St.fS(s:St)(i:Nat)(a:HP):St:=λj=>if j=i then a else s j
def St.fx(s:St)(i:Nat)(b:Int):St:=s.fS i {s i with fx:=b}
def St.C(s:St)(i:Nat)(p:ByteArray):St:=s.fS i {s i with r:=p}
def St.r(s:St)(i j:Nat)(v:Int):St:=s.fS i {s i with C:=λk=>if k=j then v else(s i).C k}
def qm(n:Int):È:=Â Æ n
def SJ(n:Int):È:=Â Ë n
def qn(s:St)(i:Nat):È:=if i%18=0 then qm (s<|i/18).fx else if i%18=1 then Í (s<|i/18).r else qm ((s<|i/18).C<|i%18-2)
def rZ(s:St)(a:È)(i:Nat):È:=if 144<=i then a else qn s i
theorem re(s:St)(a:È)(h:i<144):rZ s a i=qn s i:=by unfold rZ;rw[if_neg Z]
def jj(s:St)(lv:È):List È:=(ċ 145).map<|rZ s lv
theorem mK(s:St)(lv:È):(jj s lv).length=145:=by simp[jj]
theorem HQ(s:St)(a:È)(h:i<145):(jj s a)[i]?=Ã (rZ s a i):=by unfold jj;grind
theorem d_{s:St}(h:l.length=145)(a:∀i,i<145->l[i]?=Ã (rZ s v i)):l=jj s v:=by apply ý;grind [HQ,mK]
section
variable(s:St)(lv:È)
def HR(h:i<8):rZ s lv (i*18)=qm (s i).fx:=by rw[re _ _ Z,qn,if_pos Z,show i*18/18=i from by omega]
def Lv(h:i<8):rZ s lv (i*18+1)=Í (s i).r:=by rw[re _ _ Z,qn,if_neg Z,if_pos Z,show(i*18+1)/18=i from by omega]
def Lw(h:i<8)(a:j<16):rZ s lv (i*18+2+j)=qm ((s i).C j):=by rw[re _ _ Z,qn,if_neg Z,if_neg Z,show(i*18+2+j)/18=i from by omega,show(i*18+2+j)%18-2=j from by omega]
theorem Lx:rZ s lv 144=lv:=by unfold rZ;grind
theorem alh(v:È):(jj s lv).set 144 v=jj s v:=by
 refine d_ (by rw[ĕ,mK]) λi a=> ?_;by_cases e:i=144
 .grind [mK,Lx]
 .rw[Ŗ<|Ne.symm e,HQ _ _ a,re _ _ Z,re _ _ Z]
theorem SK(f:i<144){c:St}(g:rZ c lv i=v)(h:∀b,b<144->b≠i->qn c b=qn s b):(jj s lv).set i v=jj c lv:=by
 refine d_ (by rw[ĕ,mK]) λb d=> ?_;by_cases e:b=i
 .grind [mK]
 .rw[Ŗ<|Ne.symm e,HQ _ _ d];grind [re,Lx]
def f_(h:i<8)(b:Int):(jj s lv).set (i*18) (qm b)=jj (s.fx i b) lv:=by
 refine SK s lv Z ?_ λk a c=> ?_
 .rw[HR _ _ h];simp[St.fx,St.fS]
 .unfold qn;by_cases e:k/18=i
  .have:k%18≠0:=Z
   simp[St.fx,St.fS,e,this]
  .simp[St.fx,St.fS,e]
def ali(h:i<8)(p:ByteArray):(jj s lv).set (i*18+1) (Í p)=jj (s.C i p) lv:=by
 refine SK s lv Z ?_ λk a b=> ?_
 .rw[Lv _ _ h];simp[St.C,St.fS]
 .unfold qn;by_cases e:k/18=i
  .have:k%18≠1:=Z
   simp[St.C,St.fS,e,this]
  .simp[St.C,St.fS,e]
def alj(h:i<8)(c:j<16)(v:Int):(jj s lv).set (i*18+2+j) (qm v)=jj (s.r i j v) lv:=by
 refine SK s lv Z ?_ λk d f=> ?_
 .rw[Lw _ _ h c];simp[St.r,St.fS]
 .unfold qn;by_cases e:k/18=i
  .by_cases a:k%18=0
   .simp[St.r,St.fS,e,a]
   .by_cases b:k%18=1
    .simp[St.r,St.fS,e,b]
    .have:k%18-2≠j:=Z
     simp[St.r,St.fS,e,a,b,this]
  .simp[St.r,St.fS,e]
end
def iE(b:Nat)(T:õ)(tl:List È)(s:St)(lv:È)(w:É):Prop:=fj b (jj s lv++tl) T w
section
variable{tl:List È}{s:St}{lv:È}
def iE.HT(h:iE b T tl s lv w)(a:i<145):w.cell? ⟨b,i,Ä⟩=Ã (rZ s lv i):= fj.r h i _<|by rw[ç (by rwa[mK]),HQ _ _ a]
def iE.qD(h:iE b T tl s lv w)(c:i<145){a:St}(e:(jj s lv).set i v=jj a x):iE b T tl a x (w.setCell ⟨b,i,Ä⟩ v):=by have:=fj.fS h i v;rw[Ğ _ _ (show i<(jj s lv).length by rwa[mK]),e]at this;exact this
def iE.fx(h:iE b T tl s lv w)(a:i<8):w.cell? ⟨b,i*18,Ä⟩=Ã (Â Æ (s i).fx):=by rw[h.HT Z,HR _ _ a];rfl
def iE.Ly(h:iE b T tl s lv w)(a:i<8):w.cell? ⟨b,i*18+1,Ä⟩=Ã (Í (s i).r):=by rw[h.HT Z,Lv _ _ a]
def iE.g_(h:iE b T tl s lv w)(a:i<8)(c:j<16):w.cell? ⟨b,i*18+2+j,Ä⟩=Ã (Â Æ<|(s i).C j):=by rw[h.HT Z,Lw _ _ a c];rfl
def iE.B7(h:iE b T tl s lv w):w.cell? ⟨b,144,Ä⟩=Ã lv:=by rw[h.HT Z,Lx]
def iE.zD(h:iE b T tl s lv w)(a:i<8)(x:Int):iE b T tl (s.fx i x) lv (w.setCell ⟨b,i*18,Ä⟩<|Â Æ x):=h.qD Z<|f_ s lv a x
def iE.alk(h:iE b T tl s lv w)(a:i<8)(x:ByteArray):iE b T tl (s.C i x) lv (w.setCell ⟨b,i*18+1,Ä⟩<|Í x):=h.qD Z<|ali s lv a x
def iE.SL(h:iE b T tl s lv w)(a:i<8)(c:j<16)(x:Int):iE b T tl (s.r i j x) lv (w.setCell ⟨b,i*18+2+j,Ä⟩<|Â Æ x):=h.qD Z<|alj s lv a c x
def iE.alm(h:iE b T tl s lv w)(v:È):iE b T tl s v (w.setCell ⟨b,144,Ä⟩ v):=h.qD Z<|alh s lv v
end
def xN(b:Bool):Int:=if b then 1 else 0
def HU(b:Bool)(w:É):Ò À 143 #[Ñ b] w λe a=>e=Ç (Â Æ<|xN b)/\a=w:=by
 go_enter Tryz.func143,Tryz.ntmps143;go_wp2;all_goals go_ret
 all_goals refine⟨EA ?_,U⟩
 all_goals simp[xN, *]
def h_(b o:Nat)(s:Int)(c:0<=s)(d:s<18446744073709551616)(w:É):Ò À 192 #[Å<|Ã ⟨b,o,Ä⟩,Â Æ s] w λe a=>e=Ç (Å<|Ã ⟨b,o+2+(s%16).toNat,Ä⟩)/\a=w:=by
 go_enter Tryz.func192,Tryz.ntmps192;go_wp2;all_goals go_ret
 exact⟨U,U⟩
def wu(n:Int):Int:=Æ.wrap n
def aln(a:0<=h)(b:h<18446744073709551616):wu h=h:=by show h%18446744073709551616=h;omega
def i_(n:Int):wu n=n%18446744073709551616:=rfl
def j_(n:Int):0<=wu n:=by rw[i_];omega
def k_(n:Int):wu n<18446744073709551616:=by rw[i_];omega
def xO(k p q:Int):Int:=
 if k=2 then wu (p+q)else if k=3 then wu (p-q)else if k=4 then wu (p*q)
 else if k=5 then(if q=0 then 0 else p/q)else if k=6 then xN (decide<|p<q)else xN (decide<|p=q)
def alo(k p q:Int)(b:0<=p)(c:p<18446744073709551616)(d:0<=q)(f:q<18446744073709551616)(w:É):Ò À 195 #[Â Ë k,Â Æ p,Â Æ q] w λe a=>e=Ç (Â Æ<|xO k p q)/\a=w:=by
 go_enter Tryz.func195,Tryz.ntmps195;go_wp2_with (go_at_call 143;refine(HU _ _).mono ?_;rintro e a ⟨rfl,rfl⟩);all_goals simp only[beq_iff_eq,beq_eq_false_iff_ne,ne_eq]at*
 all_goals first
  |(exfalso;simp_all;done)
  |(go_ret;refine⟨EA ?_,U⟩;unfold xO;simp[wu, *];done)
  |(go_ret;refine⟨EA ?_,U⟩;unfold xO;simp[wu, *];rfl)
structure RC where
 x:Nat
 y:Nat
 k:Int
 d:Int
 g:Int
def sd(a:Nat)(c:RC)(b:È):List È:=[Å<|Ã ⟨a,0,Ä⟩,Â Ë c.x,Â Ë c.y,Â Æ c.k,Â Ë c.d,Â Æ c.g,b]
def pG(l:List Int):List È:=l.map qm
theorem alp{base:Nat}(h:w.ownsRow base e 1 (Ê O (n+1) i) (n+1) (l++[x])):w.ownsRow base e 1 (Ê O n i) n l:=by
 let⟨d,b⟩:=h;simp only[Ó,Ľ,Μ,ŗ]at d;refine⟨Z,?_⟩;rcases b with⟨b,_⟩|⟨g,q,f,b,j,k,r,m,o,p⟩
 .cases b
 .cases b;refine Ù ⟨g,i,f,U,j,k,Z,m,o,?_⟩;have:=congrArg (List.take n) p;grind
def Lz{base:Nat}(h:w.ownsRow base e 1 (Ê O (n+1) i) (n+1) (l++[x])):∃g,O=Ã ⟨g,0,Ä⟩/\w.cell? ⟨g,n,Ä⟩=Ã x/\n+1<=i:=by
 let⟨f,d⟩:=h;simp only[Ó,Ľ,Μ,ŗ]at f;rcases d with⟨d,_⟩|⟨g,o,p,d,q,j,k,r,s,m⟩
 .cases d
 .cases d;refine⟨g,U,?_,k⟩;have:=congrArg (λb=>b[n]?) m;simp only[ŗ]at this;rw[List.getElem?_take_of_lt Z,ü Z,show n-l.length=0 by omega]at this;simp only[Ζ,j];simpa using this
def LA(j d:Nat)(c:RC)(f:È)(base:Nat)(b:List Int)(p:Int)(w:É)(i:fj d (sd j c f) 276 w)(h:w.ownsRow base 23 1 f (b.length+1) (pG b++[qm p]))(k:b.length<=1000): Ò À 188 #[Å<|Ã ⟨d,0,Ä⟩] w λe g=>e=Ç (Â Æ p)/\∃a,g=w.setCell ⟨d,6,Ä⟩ a/\w.ownsRow base 23 1 a b.length (pG b)/\a.ownBlock=f.ownBlock:=by obtain⟨a,l,rfl⟩:=jL h;obtain⟨g,rfl,m,o⟩:=Lz h;have e:=alp h;have q:=i.r 6 _ U;have r:=i.C 6;have H:=fg e;generalize b.length=n at*;go_enter Tryz.func188,Tryz.ntmps188;go_wp2;go_ret;refine⟨U,_,U,?_,U⟩;simpa using H.out
def alq:(À.info? 23).map (λi=>(i.zero,i.size,i.bytes))=Ã (Ã<|Â Æ 0,1,8):=fv
def m_(q b:Nat)(c:RC)(d:È)(base:Nat)(l:List È)(n:Nat)(f m:Nat)(r:Nat)(a:List È)(w:É)(g:fj b (sd q c d) 276 w)(o:w.ownsRow base 23 1 d n l)(F:n+m<=1000) (s:0<m) (t:a.length=m) (v:∀j u,a[j]?=Ã u->w.cell? ((⟨f,0,Ä⟩:ă).add j)=Ã u) (x:∀u∈a,u.oneCell'=Ú) (y:base<=w.heap.size): Ò À 187 #[Å<|Ã ⟨b,0,Ä⟩,Ê (Ã ⟨f,0,Ä⟩) m r] w λe p=>e=Ç (æ #[])/\∃i k,qk w base 23 1 d n l m a i k/\p=k.setCell ⟨b,6,Ä⟩ i:=by let⟨G,z,B,C,D⟩:=í alq;have E:=g.r 6 _ U;have p:=jA o g A;have H:=fg g;go_enter Tryz.func187,Tryz.ntmps187;go_wp2_with (at_builtin;refine B4 U _ _ 224 U Tryz.underlying224 z B C D U U o ⟨f,0,Ä⟩ a U s (by rw[t,ŗ]) v x (by unfold Ą;omega) Z y ?_;intro i k e;obtain⟨I,J,rfl⟩:=jL e.ft;have K:=e.r.r E p;have L:=(H.out.I e.r p).C 6);go_end0;exact⟨U,_,_,e,U⟩
def kr(l:List (Nat×Int)):List È:=l.flatMap λp=>[SJ p.1,qm p.2]
structure iW where
 r:Nat
 T:õ
 C:List È
structure iW.Ok(E:iW):Prop where
 M:E.T≠23
 r:E.T≠250
 I:E.T≠276
 N:E.T≠294
 alr:E.T≠245
 als:E.T≠239
def iW.Ok.C{E:iW}(h:E.Ok):mq E.T=Ï:=by unfold mq;rw[beq_eq_false_iff_ne.2 h.r,beq_eq_false_iff_ne.2 h.als];rfl
structure R(E:iW)(rb:Nat)(c:RC)(sv lv:È)(ss:List Int)(s:St)(ls:List (Nat×Int))(w:É):Prop where
 r:fj rb (sd E.r c sv) 276 w
 I:w.ownsRow 0 23 1 sv ss.length (pG ss)
 C:iE E.r E.T E.C s lv w
 M:w.ownsRow 0 250 2 lv ls.length (kr ls)
structure Tr(E:iW)(rb:Nat)(sv lv:È)(n:Nat)(w:É)(ki jz:È)(n':Nat)(w':É):Prop where
 r:fe (λk=>k=E.r\/k=rb\/sv.ownBlock=Ã k\/lv.ownBlock=Ã k) w w'
 s:∀j,ki.ownBlock=Ã j->sv.ownBlock=Ã j\/w.heap.size<=j
 l:∀j,jz.ownBlock=Ã j->lv.ownBlock=Ã j\/w.heap.size<=j
 C:∀v0 n0 xK,w.ownsRow 0 250 2 v0 n0 xK->(v0.ownBlock=lv.ownBlock->n0<=n)->w'.ownsRow 0 250 2 v0 n0 xK/\(v0.ownBlock=jz.ownBlock->n0<=n')
section
variable{E:iW}{rb:Nat}{c:RC}{sv lv f o:È}{ss:List Int}{s:St}{ls:List (Nat×Int)}
theorem Tr.fX(E:iW)(rb:Nat)(sv lv:È)(n:Nat)(w:É):Tr E rb sv lv n w sv lv n w:= ⟨fe.fX _ _,λ_ h=>Ø h,λ_ h=>Ø h,λ_ _ _ h k=>⟨h,k⟩⟩
theorem Tr.fh(h:Tr E rb sv lv n w f z b u)(k:Tr E rb f z b u o jQ m W):Tr E rb sv lv n w o jQ m W:=by
 refine⟨h.r.C k.r ?_,λj a=> ?_,λj a=> ?_,λc d g p q=> ?_⟩
 .rintro i r (e|e|e|e)
  .exact Ø e
  .grind
  .exact Ù<|Ù<|Ø<|(h.s i e).resolve_right Z
  .exact Ù<|Ù<|Ù<|(h.l i e).resolve_right Z
 .rcases k.s j a with e|e
  .exact h.s j e
  .exact Ù<|ë h.r.M e
 .rcases k.l j a with e|e
  .exact h.l j e
  .exact Ù<|ë h.r.M e
 .let⟨e,i⟩:=h.C c d g p q;exact k.C c d g e i
def Tr.I(k:fe X w u)(c:∀i,i<w.heap.size->X i->i=E.r\/i=rb\/sv.ownBlock=Ã i)(d:∀j,f.ownBlock=Ã j->sv.ownBlock=Ã j\/w.heap.size<=j)(g:∀i a,X i->w.heap[i]?≠Ã (Ð a 250 (0,0))):Tr E rb sv lv n w f lv n u:= ⟨k.S λi h q=>(c i h q).elim Ø λe=>Ù (e.elim Ø λe=>Ù<|Ø e),d,λj q=>Ø q,λp r s b l=>⟨ig b k λj m q=>by let⟨a,o⟩:=lY b m;exact g j a q o,l⟩⟩
def Tr.alu{Y:Nat->Prop}(t:Tr E rb sv lv n w f z b u)(k:fe Y u W)(m:∀i,Y i->w.heap.size<=i)(o:∀i a,Y i->u.heap[i]?≠Ã (Ð a 250 (0,0))):Tr E rb sv lv n w f z b W:= ⟨t.r.C k λi v q=>absurd (m i q) Z,t.s,t.l,λc d e g h=>⟨ig (t.C c d e g h).1 k λj p q=>by let⟨a,r⟩:=lY (t.C c d e g h).1 p;exact o j a q r,(t.C c d e g h).2⟩⟩
def R.alv(ok:E.Ok)(h:R E rb c sv lv ss s ls w)(a:fj j l 245 w)(k:fe (λi=>i=j) w u):R E rb c sv lv ss s ls u:= ⟨h.r.I k<|fj.S h.r a A,ig h.I k λi q r=>jA h.I a A (by rw[q,r]),h.C.I k<|fj.S h.C a ok.alr,ig h.M k λi q r=>jA h.M a A<|by rw[q,r]⟩
theorem R.N(ok:E.Ok)(h:R E rb c sv lv ss s ls w)(i:Nat){c':RC}{ki:È}{ss':List Int}(e:(sd E.r c sv).set i v=sd E.r c' ki)(b:w.ownsRow 0 23 1 ki ss'.length (pG ss'))(d:∀j,ki.ownBlock=Ã j->sv.ownBlock=Ã j): R E rb c' ki lv ss' s ls (w.setCell ⟨rb,i,Ä⟩ v)/\Tr E rb sv lv ls.length w ki lv ls.length (w.setCell ⟨rb,i,Ä⟩ v):=by have a:=fe.I (X:=λk=>k=rb) (p:=⟨rb,i,Ä⟩) U v<|Ù h.r.G;refine⟨⟨by have:=h.r.fS i v;rwa[e]at this,ig b a λj q r=>jA b h.r A (by rw[q,r]),h.C.I a<|fj.S h.C h.r ok.I,ig h.M a λj q r=>jA h.M h.r A<|by rw[q,r]⟩,Tr.I a (λi _ q=>Ù<|Ø q) (λj q=>Ø<|d j q) λi f q g=> ?_⟩;have k:=h.r;unfold fj at k;grind
def R.S(ok:E.Ok)(h:R E rb c sv lv ss s ls w)(i:Nat){d:St}(k:iE E.r E.T E.C d lv (w.setCell ⟨E.r,i,Ä⟩ v)): R E rb c sv lv ss d ls (w.setCell ⟨E.r,i,Ä⟩ v)/\Tr E rb sv lv ls.length w sv lv ls.length (w.setCell ⟨E.r,i,Ä⟩ v):=by have b:=fe.I (X:=λk=>k=E.r) (p:=⟨E.r,i,Ä⟩) U v<|Ù<|fj.G h.C ok.C;refine⟨⟨h.r.I b (fj.S h.C h.r ok.I).symm,ig h.I b λj q r=>jA h.I h.C ok.M.symm (by rw[q,r]),k,ig h.M b λj q r=>jA h.M h.C ok.r.symm<|by rw[q,r]⟩,Tr.I b (λi _ q=>Ø q) (λj q=>Ø q) λi e q a=> ?_⟩;rw[q,h.C]at a;injection a with a;injection a with _ a;exact ok.r a
theorem R.Y(ok:E.Ok)(h:R E rb c sv lv ss s ls w){ns:List Int}{u:É}(o:ns.length=m)(a:qk w 0 23 1 sv ss.length (pG ss) m (pG ns) v u): R E rb c v lv (ss++ns) s ls (u.setCell ⟨rb,6,Ä⟩ v)/\Tr E rb sv lv ls.length w v lv ls.length (u.setCell ⟨rb,6,Ä⟩ v):=by
 subst o;have d:∀{i:Nat} {f:Array È} {T:õ},sv.ownBlock=Ã i->w.heap[i]?=Ã (Ð f T (0,0))->T=23:=λ{i f T} q l=>by let⟨g,e⟩:=lY h.I q;grind
 have b:R E rb c sv lv ss s ls u:=⟨h.r.I a.r λq=>absurd (d q h.r) A,a.I _ _ _ h.I λ_=>Þ _,h.C.I a.r λq=>ok.M<|d q h.C,ig h.M a.r λj q r=>by let⟨g,e⟩:=lY h.M q;exact absurd (d r e) A⟩;have n:u.ownsRow 0 23 1 v (ss++ns).length (pG<|ss++ns):=by have:=a.ft;rwa[show pG ss++pG ns=pG (ss++ns) by simp[pG],show ss.length+ns.length=(ss++ns).length by simp]at this
 have g:=fe.I (X:=λk=>k=rb) (p:=⟨rb,6,Ä⟩) U v<|Ù b.r.G;refine⟨⟨b.r.fS 6 v,ig n g λj q r=>jA n b.r A (by rw[q,r]),b.C.I g<|fj.S b.C b.r ok.I,ig b.M g λj q r=>jA b.M b.r A<|by rw[q,r]⟩,(Tr.I a.r (λi _ q=>Ù<|Ù q) (λj q=>a.C.elim (λe=>Ø<|by rwa[<-e]) λe=>Ù<|by rw[e]at q;cases q;exact Þ _) λi f q l=>absurd (d q l) A).fh<|Tr.I g (λi _ q=>Ù<|Ø q) (λj q=>Ø q) λi f q l=> ?_⟩;have e:=b.r;unfold fj at e;grind
end
section
variable{E:iW}{rb:Nat}{c:RC}{sv lv:È}{s:St}{ls:List (Nat×Int)}
def R.fO(h:R E rb c sv lv zQ s ls w)(k:fe fi w W):R E rb c sv lv zQ s ls W:= ⟨h.r.I k id,ig h.I k λ_ _=>id,h.C.I k id,ig h.M k λ_ _=>id⟩
def Tr.fO(k:fe fi w W):Tr E rb sv lv n w sv lv n W:=Tr.I k (λ_ _=>ę) (λ_ q=>Ø q) λ_ _=>ę
end
def ja:List (Int×Int×Int):=[(0,0,0),(1,0,1),(1,2,1),(1,2,1),(2,2,1),(2,2,1),(1,2,1),(1,2,1),(1,1,2),(1,2,2),(1,1,0),(1,0,1),(1,0,1),(1,0,1),(1,0,1),(3,1,1),(6,2,0),(2,2,0),(8,2,1),(4,1,0),(8,3,2),(1,1,0),(1,0,0)]
structure iM(w:É):Prop where
 M:∃cs fz,w.heap[2]?=Ã (Ð cs 294 fz)
 I:∀(k:Nat) (r:Int×Int×Int),ja[k]?=Ã r->w.cell? ⟨2,k*3,Ä⟩=Ã (Â Æ r.1)/\w.cell? ⟨2,k*3+1,Ä⟩=Ã (Â Ë r.2.1)/\w.cell? ⟨2,k*3+2,Ä⟩=Ã (Â Ë r.2.2)
theorem iM.r(h:iM w)(k:fe X w u)(a:¬X 2):iM u:=by
 let⟨b,c,d⟩:=h.M;have e:2<w.heap.size:=by grind
 refine⟨⟨b,c,by rwa[k.N 2 e a]⟩,λi r f=> ?_⟩;let⟨g,j,l⟩:=h.I i r f;exact⟨k.r g a,k.r j a,k.r l a⟩
theorem iM.C(h:iM w)(a:w.heap[j]?=Ã (Ð d T xJ))(b:T≠294):j≠2:=by rintro rfl;let⟨c,e,f⟩:=h.M;grind
def iM.N{E:iW}(ok:E.Ok){rb:Nat}{c:RC}{sv lv:È}{s:St}{a:List (Nat×Int)}(h:iM w)(r:R E rb c sv lv zQ s a w)(t:Tr E rb sv lv n w v x i u):iM u:=by
 refine h.r t.r ?_;rintro(e|e|e|e)
 .exact h.C r.C ok.N e.symm
 .exact h.C r.r A e.symm
 .let⟨b,q⟩:=lY r.I e;exact h.C q A U
 .let⟨b,q⟩:=lY r.M e;exact h.C q A U
theorem LB:∀(k:Nat) (r:Int×Int×Int),ja[k]?=Ã r->0<=r.1/\r.1<=8/\0<=r.2.1/\r.2.1<=3/\0<=r.2.2/\r.2.2<=2:=by
 have h:∀r∈ja,0<=r.1/\r.1<=8/\0<=r.2.1/\r.2.1<=3/\0<=r.2.2/\r.2.2<=2:=A
 grind
def kR(g:Int)(n:Nat)(b a c:Int):Bool:= !(decide (g<b)||(decide ((n:Int)-a<0)||decide (32<(n:Int)-a+c)))
def SN(E:iW)(f:Nat)(c:RC)(a d:È)(i:List Int)(s:St)(e:List (Nat×Int))(w:É)(j:Int)(b:Bool)(h:É):Prop:=
 R E f (if b then{c with g:=c.g-j}else c) a d i s e h/\Tr E f a d e.length w a d e.length h
section
variable{E:iW}{rb:Nat}{c:RC}{sv lv:È}{s:St}{ls:List (Nat×Int)}
def SO(a:R E rb c sv lv zQ s ls w)(k:fe fi w u):SN E rb c sv lv zQ s ls w h Ï u:=⟨a.fO k,Tr.fO k⟩
def alx(ok:E.Ok)(a:R E rb c sv lv zQ s ls w){g:Int}(d:c.g=g)(e:u=W.setCell ⟨rb,5,Ä⟩ (Â Æ<|g-h))(k:fe fi w W):SN E rb c sv lv zQ s ls w h Ú u:=by subst d e;have b:=a.fO k;let⟨f,i⟩:=b.N ok 5 (c':={c with g:=c.g-h}) U b.I λ_ q=>q;exact⟨f,(Tr.fO k).fh i⟩
end
def B8(E:iW)(ok:E.Ok)(m:Nat)(c:RC)(q r:È)(d:List Int)(s:St)(t:List (Nat×Int))(w:É)(h:R E m c q r d s t w)(u:iM w)(k:Nat)(f b i:Int)(o:ja[k]?=Ã (f,b,i))(y:d.length<=1000)(P:0<=c.g)(Q:c.g<18446744073709551616): Ò À 186 #[Å<|Ã ⟨m,0,Ä⟩,Â Ë k] w λe a=>e=Ç (Ñ<|kR c.g d.length f b i)/\SN E m c q r d s t w f (kR c.g d.length f b i) a:=by
 let⟨z,B,C⟩:=u.I k _ o;obtain⟨a,S,rfl⟩:=jL h.I;have D:=h.r.r 6 _ U;have T:=h.r.r 5 _ U;have V:=h.r.C 5;have W:=h.r.M;have X:k<23:=(Ü.1 o).1;let⟨F,G,I,J,K,L⟩:=LB k _ o;simp only at F G I J K L z B C;obtain⟨n,j⟩:∃n,d.length=n:=⟨_,U⟩;rw[j]at D y;have e:kR c.g d.length f b i= !(decide (c.g<f)||(decide ((n:Int)-b<0)||decide (32<(n:Int)-b+i))):=by rw[j];rfl
 have H:=fg<|Á h<|Á j e;clear u h j e;generalize M:c.g=g at*;go_enter Tryz.func186,Tryz.ntmps186;go_wp2;go_quiet (fail);go_wp2;by_cases v:g<f
 .go_quiet (fail)
  go_wp2;let⟨h,j,e⟩:=H.out;have l:kR g d.length f b i=Ï:=by rw[e];simp[v]
  go_ret;rw[l];refine⟨U,SO h ?_⟩;exact kp
 .have N:=decide_eq_false v;by_cases x:(n:Int)-b<0
  .go_quiet (fail)
   go_wp2;let⟨h,j,e⟩:=H.out;have l:kR g d.length f b i=Ï:=by rw[e];simp[x]
   go_ret;rw[l];refine⟨U,SO h ?_⟩;exact kp
  .have O:=decide_eq_false x;go_quiet (fail);go_wp2
   .have p:32<(n:Int)-b+i:=by assumption
    let⟨h,j,e⟩:=H.out;have l:kR g d.length f b i=Ï:=by rw[e];simp[p]
    go_ret;rw[l];refine⟨U,SO h ?_⟩;exact kp
   .go_region
    go_wp2;have p:(n:Int)-b+i<=32:=by assumption
    let⟨h,j,e⟩:=H.out;have l:kR g d.length f b i=Ú:=by rw[e];simp[N,O,p]
    go_ret;rw[l];refine⟨U,alx ok h M U ?_⟩;exact kp
def rf(s:St)(y:Nat)(q p:Int):Int×St:=
 if(s y).fx<p then(0,s)else(1,(s.fx y<|(s y).fx-p).fx (q%8).toNat<|wu<|(s.fx y ((s y).fx-p) (q%8).toNat).fx+p)
def zE(E:iW)(e:Nat)(c:RC)(a b:È)(g:List Int)(s:St)(d:List (Nat×Int))(w:É)(h:St)(f:É):Prop:=
 R E e c a b g h d f/\Tr E e a b d.length w a b d.length f
section
variable{E:iW}{rb:Nat}{c:RC}{sv lv:È}{s d f:St}{a:List (Nat×Int)}
def zE.fO(h:R E rb c sv lv zQ s a w)(k:fe fi w u):zE E rb c sv lv zQ s a w s u:=⟨h.fO k,Tr.fO k⟩
def zE.fx(ok:E.Ok)(h:zE E rb c sv lv zQ s a w d W)(e:i<8)(x:Int):zE E rb c sv lv zQ s a w (d.fx i x) (W.setCell ⟨E.r,i*18,Ä⟩<|Â Æ x):=by let⟨b,f⟩:=h;let⟨g,j⟩:=b.S ok (i*18)<|b.C.zD e x;exact⟨g,f.fh j⟩
end
def aly(E:iW)(ok:E.Ok)(d:Nat)(c:RC)(f g:È)(i:List Int)(s:St)(j:List (Nat×Int))(w:É)(h:R E d c f g i s j w)(q p:Int)(n:0<=q)(o:q<18446744073709551616)(r:0<=p)(t:p<18446744073709551616)(a:c.y<8)(u:0<=(s c.y).fx)(v:(s c.y).fx<18446744073709551616): Ò À 193 #[Å<|Ã ⟨d,0,Ä⟩,Â Æ q,Â Æ p] w λe k=>e=Ç (Â Æ (rf s c.y q p).1)/\zE E d c f g i s j w (rf s c.y q p).2 k:=by
 have x:=h.r.r 0 _ U;have z:=h.r.r 2 _ U;have B:=h.r.M;have C:=fj.M h.C;have D:=h.C.fx a;have F:=fj.C h.C<|c.y*18;have k:(q%8).toNat<8:=Z
 have H:=fg h;by_cases l:(s c.y).fx<p
 .have e:rf s c.y q p=(0,s):=by unfold rf;rw[if_pos l]
  rw[e];generalize(s c.y).fx=b at*;generalize c.y=y at*;go_enter ah,η;go_wp2;go_quiet (fail);go_wp2;go_ret;refine⟨U,zE.fO H.out ?_⟩;exact kp
 .have e:rf s c.y q p=(1,(s.fx c.y<|(s c.y).fx-p).fx (q%8).toNat<|wu<|(s.fx c.y ((s c.y).fx-p) (q%8).toNat).fx+p):=by unfold rf;rw[if_neg l]
  rw[e];have G:=λm=>((h.fO<|fe.iR _ w m).C.zD a<|(s c.y).fx-p).fx k;have I:∀m,((w.drewN m).setCell ⟨E.r,c.y*18,Ä⟩<|Â Æ<|(s c.y).fx-p).frozen? ⟨E.r,(q%8).toNat*18,Ä⟩=Ï:=λm=>fj.C ((h.fO<|fe.iR _ w m).C.zD a<|(s c.y).fx-p) _;generalize(s.fx c.y ((s c.y).fx-p) (q%8).toNat).fx=b2 at*;generalize(s c.y).fx=b at*;go_enter ah,η;go_wp2;go_quiet (fail);go_wp2;go_ret;refine⟨U,((zE.fO H.out ?_).fx ok a _).fx ok k _⟩;exact kp
def kS(E:iW)(rb:Nat)(sv lv:È)(n:Nat)(w:É)(c:RC)(f:List Int)(s:St)(a:List (Nat×Int))(b:É):Prop:=
 ∃d e,R E rb c d e f s a b/\Tr E rb sv lv n w d e a.length b
section
variable{E:iW}{rb:Nat}{c a:RC}{sv lv:È}{w':É}{b:List Int}{s d:St}{ls f:List (Nat×Int)}{p:Int}
def R.jZ(h:R E rb c sv lv zQ s ls w):kS E rb sv lv ls.length w c zQ s ls w:=⟨sv,lv,h,Tr.fX _ _ _ _ _ _⟩
def nH(ok:E.Ok)(h:R E rb c sv lv (zQ++[p]) s ls w)(g:zQ.length<=900):Ò À 188 #[Å<|Ã ⟨rb,0,Ä⟩] w λe w'=>e=Ç (Â Æ p)/\ ∃a,R E rb c a lv zQ s ls w'/\Tr E rb sv lv ls.length w a lv ls.length w':=by have b:=h.I;rw[show pG (zQ++[p])=pG zQ++[qm p] by simp[pG],show(zQ++[p]).length=zQ.length+1 by simp]at b;refine(LA E.r rb c sv 0 zQ p w h.r b Z).mono ?_;rintro e w' ⟨rfl,a,rfl,d,f⟩;exact⟨U,a,h.N ok 6 U d λj q=>by rwa[<-f]⟩
def zF(ok:E.Ok)(h:R E rb c sv lv zQ s ls w)(i:zQ.length<=900)(x:Int):Ò À 187 #[Å<|Ã ⟨rb,0,Ä⟩,Ê (Ã ⟨w.heap.size,0,Ä⟩) 1 1] (w.alloc<|Ð #[Â Æ x] 23) λe w'=>e=Ç (æ #[])/\ ∃b,R E rb c b lv (zQ++[x]) s ls w'/\Tr E rb sv lv ls.length w b lv ls.length w':=by have k:=fe.gJ fi w #[Â Æ x] 23;have d:=h.fO k;refine(m_ E.r rb c sv 0 (pG zQ) zQ.length w.heap.size 1 1 [Â Æ x] _ d.r d.I Z Z U (þ _ _ _) (λa f=>by simp at f;subst f;rfl)<|â _).mono ?_;rintro e w' ⟨rfl,b,u,a,rfl⟩;let⟨f,g⟩:=d.Y ok (ns:=[x]) U a;exact⟨U,b,f,(Tr.fO k).fh g⟩
def SQ(ok:E.Ok)(h:R E rb c sv lv zQ s ls w)(i:zQ.length<=900)(x y:Int):Ò À 187 #[Å<|Ã ⟨rb,0,Ä⟩,Ê (Ã ⟨w.heap.size,0,Ä⟩) 2 2] (w.alloc<|Ð #[Â Æ x,Â Æ y] 23) λe w'=>e=Ç (æ #[])/\ ∃b,R E rb c b lv (zQ++[x,y]) s ls w'/\Tr E rb sv lv ls.length w b lv ls.length w':=by have k:=fe.gJ fi w #[Â Æ x,Â Æ y] 23;have d:=h.fO k;refine(m_ E.r rb c sv 0 (pG zQ) zQ.length w.heap.size 2 2 [Â Æ x,Â Æ y] _ d.r d.I Z Z U (Ŵ _ _ _ _) (λa f=>by simp at f;rcases f with rfl|rfl<;>rfl)<|â _).mono ?_;rintro e w' ⟨rfl,b,u,a,rfl⟩;let⟨f,g⟩:=d.Y ok (ns:=[x,y]) U a;exact⟨U,b,f,(Tr.fO k).fh g⟩
end
structure iu(E:iW)(lv:È)(n:Nat)(w:É)(s:St)(ls:List (Nat×Int))(w':É)(jz:È):Prop where
 r:iE E.r E.T E.C s jz w'
 I:w'.ownsRow 0 250 2 jz ls.length (kr ls)
 C:fe (λk=>k=E.r\/lv.ownBlock=Ã k) w w'
 l:∀j,jz.ownBlock=Ã j->lv.ownBlock=Ã j\/w.heap.size<=j
 M:∀v0 n0 xK,w.ownsRow 0 250 2 v0 n0 xK->(v0.ownBlock=lv.ownBlock->n0<=n)->w'.ownsRow 0 250 2 v0 n0 xK/\(v0.ownBlock=jz.ownBlock->n0<=ls.length)
structure B9 where
 r:Int
 C:Bool
 I:Int
 s:St
 M:List (Nat×Int)
abbrev lZ:=St->List (Nat×Int)->Nat->Nat->Int->Int->B9
def gk(n:Int):Prop:=0<=n/\n<18446744073709551616
def lB(c:Int):Nat:=
 if 48<=c/\c<=57 then 1 else if c=43 then 2 else if c=45 then 3 else if c=42 then 4 else if c=47 then 5 else if c=60 then 6 else if c=61 then 7
 else if c=100 then 8 else if c=120 then 9 else if c=112 then 10 else if c=107 then 11 else if c=99 then 12 else if c=121 then 13 else if c=98 then 14
 else if c=108 then 15 else if c=116 then 16 else if c=106 then 17 else if c=118 then 18 else if c=101 then 19 else if c=111 then 20 else if c=114 then 21 else if c=102 then 22 else 0
def xP(c:UInt8):Bool:=decide<|lB (c.toNat:Int)≠0
structure gK(s:St):Prop where
 fx:∀i,gk (s i).fx
 C:∀i j,gk<|(s i).C j
 I:∀i,(s i).r.size<=40/\∀c∈(s i).r.data.toList,xP c=Ú
def gh(l:List Int):Int:=l.getLastD 0
theorem n_(l:List Int)(h:0<l.length):l=l.dropLast++[gh l]:=by
 have a:l≠[]:=by intro e;subst e;simp at h
 unfold gh;grind [List.dropLast_concat_getLast]
section
variable{E:iW}{c:RC}{s:St}{a:List (Nat×Int)}{q r:Int}
def alz(ok:E.Ok)(b:R E i c x v (zQ++[h]) s a w)(k:zQ.length<=800)(l:c.y<8): Ò À 189 #[Å<|Ã ⟨i,0,Ä⟩,Â Ë 8] w λe H=>e=Ç (æ #[])/\kS E i x v a.length w c (zQ++[h,h]) s a H:=by have m:=b.r.r 0 _ U;have n:=b.r.r 2 _ U;have o:=b.r.M;have p:=fj.M b.C;have H:=fg b;go_enter ê,å;go_wp2_with fail;go_quiet (fail);go_wp2_with fail;go_at_call 188;refine(nH ok (H.out.fO<|fe.iR _ _ _) (by first|omega|(simp;omega))).mono ?_;rintro e q ⟨rfl,r,d,f⟩;go_wp2_with fail;go_at_call 187;refine(SQ ok d (by first|omega|(simp;omega)) _ _).mono ?_;rintro e t ⟨rfl,u,g,j⟩;go_wp2_with fail;go_end0;exact⟨U,_,_,g,(((Tr.fO<|fe.iR _ _ _).fh f).fh j)⟩
def alA(ok:E.Ok)(b:R E i c x v ((zQ++[h])++[q]) s a w)(m:zQ.length<=800)(n:c.y<8): Ò À 189 #[Å<|Ã ⟨i,0,Ä⟩,Â Ë 9] w λe H=>e=Ç (æ #[])/\kS E i x v a.length w c (zQ++[q,h]) s a H:=by have o:=b.r.r 0 _ U;have p:=b.r.r 2 _ U;have r:=b.r.M;have t:=fj.M b.C;have H:=fg b;go_enter ê,å;go_wp2_with fail;go_quiet (fail);go_wp2_with fail;go_at_call 188;refine(nH ok (H.out.fO<|fe.iR _ _ _) (by first|omega|(simp;omega))).mono ?_;rintro e u ⟨rfl,z,d,f⟩;go_wp2_with fail;go_at_call 188;refine(nH ok d (by first|omega|(simp;omega))).mono ?_;rintro e B ⟨rfl,C,g,j⟩;go_wp2_with fail;go_at_call 187;refine(SQ ok g (by first|omega|(simp;omega)) _ _).mono ?_;rintro e D ⟨rfl,F,k,l⟩;go_wp2_with fail;go_end0;exact⟨U,_,_,k,((((Tr.fO<|fe.iR _ _ _).fh f).fh j).fh l)⟩
def alB(ok:E.Ok)(b:R E i c x v (zQ++[h]) s a w)(g:zQ.length<=800)(j:c.y<8): Ò À 189 #[Å<|Ã ⟨i,0,Ä⟩,Â Ë 10] w λe H=>e=Ç (æ #[])/\kS E i x v a.length w c zQ s a H:=by have k:=b.r.r 0 _ U;have l:=b.r.r 2 _ U;have m:=b.r.M;have n:=fj.M b.C;have H:=fg b;go_enter ê,å;go_wp2_with fail;go_quiet (fail);go_wp2_with fail;go_at_call 188;refine(nH ok (H.out.fO<|fe.iR _ _ _) (by first|omega|(simp;omega))).mono ?_;rintro e o ⟨rfl,p,d,f⟩;go_wp2_with fail;go_end0;exact⟨U,_,_,d,((Tr.fO<|fe.iR _ _ _).fh f)⟩
def alC(ok:E.Ok)(h:R E i c x v zQ s a w)(f:zQ.length<=800)(g:c.y<8): Ò À 189 #[Å<|Ã ⟨i,0,Ä⟩,Â Ë 11] w λe H=>e=Ç (æ #[])/\kS E i x v a.length w c (zQ++[c.k]) s a H:=by have j:=h.r.r 0 _ U;have l:=h.r.r 2 _ U;have m:=h.r.M;have n:=fj.M h.C;have o:=h.r.r 3 _ U;have H:=fg h;go_enter ê,å;go_wp2_with fail;go_quiet (fail);go_wp2_with fail;go_at_call 187;refine(zF ok (H.out.fO<|fe.iR _ _ _) (by first|omega|(simp;omega)) _).mono ?_;rintro e p ⟨rfl,q,b,d⟩;go_wp2_with fail;go_end0;exact⟨U,_,_,b,((Tr.fO<|fe.iR _ _ _).fh d)⟩
def alD(ok:E.Ok)(h:R E i c x v zQ s a w)(f:zQ.length<=800)(g:c.y<8)(j:c.x<8): Ò À 189 #[Å<|Ã ⟨i,0,Ä⟩,Â Ë 12] w λe H=>e=Ç (æ #[])/\kS E i x v a.length w c (zQ++[(c.x:Int)]) s a H:=by have k:=h.r.r 0 _ U;have l:=h.r.r 2 _ U;have m:=h.r.M;have n:=fj.M h.C;have o:=h.r.r 1 _ U;have H:=fg h;go_enter ê,å;go_wp2_with fail;go_quiet (fail);go_wp2_with fail;go_at_call 187;refine(zF ok (H.out.fO<|fe.iR _ _ _) (by first|omega|(simp;omega)) _).mono ?_;rintro e p ⟨rfl,q,b,d⟩;go_wp2_with fail;go_end0;exact⟨U,_,_,b,((Tr.fO<|fe.iR _ _ _).fh d)⟩
def alE(ok:E.Ok)(h:R E i c x v zQ s a w)(f:zQ.length<=800)(g:c.y<8): Ò À 189 #[Å<|Ã ⟨i,0,Ä⟩,Â Ë 13] w λe H=>e=Ç (æ #[])/\kS E i x v a.length w c (zQ++[(c.y:Int)]) s a H:=by have j:=h.r.r 0 _ U;have k:=h.r.r 2 _ U;have l:=h.r.M;have m:=fj.M h.C;have H:=fg h;go_enter ê,å;go_wp2_with fail;go_quiet (fail);go_wp2_with fail;go_at_call 187;refine(zF ok (H.out.fO<|fe.iR _ _ _) (by first|omega|(simp;omega)) _).mono ?_;rintro e n ⟨rfl,o,b,d⟩;go_wp2_with fail;go_end0;exact⟨U,_,_,b,((Tr.fO<|fe.iR _ _ _).fh d)⟩
def alF(ok:E.Ok)(h:R E i c x v zQ s a w)(g:zQ.length<=800)(b:c.y<8): Ò À 189 #[Å<|Ã ⟨i,0,Ä⟩,Â Ë 14] w λe H=>e=Ç (æ #[])/\kS E i x v a.length w c (zQ++[(s c.y).fx]) s a H:=by have j:=h.r.r 0 _ U;have k:=h.r.r 2 _ U;have l:=h.r.M;have m:=fj.M h.C;have n:=h.C.fx b;have H:=fg h;go_enter ê,å;go_wp2_with fail;go_quiet (fail);go_wp2_with fail;go_at_call 187;refine(zF ok (H.out.fO<|fe.iR _ _ _) (by first|omega|(simp;omega)) _).mono ?_;rintro e o ⟨rfl,p,d,f⟩;go_wp2_with fail;go_end0;exact⟨U,_,_,d,((Tr.fO<|fe.iR _ _ _).fh f)⟩
def alG(ok:E.Ok)(b:R E i c x v (zQ++[h]) s a w)(o:zQ.length<=800)(g:c.y<8)(d:gk h): Ò À 189 #[Å<|Ã ⟨i,0,Ä⟩,Â Ë 15] w λe f=>e=Ç (æ #[])/\kS E i x v a.length w c (zQ++[(s c.y).C (h%16).toNat]) s a f:=by have p:=b.r.r 0 _ U;have q:=b.r.r 2 _ U;have r:=b.r.M;have t:=fj.M b.C;have H:=fg b;go_enter ê,å;go_wp2_with fail;go_quiet (fail);go_wp2_with fail;go_at_call 188;refine(nH ok (H.out.fO<|fe.iR _ _ _) (by first|omega|(simp;omega))).mono ?_;rintro e u ⟨rfl,z,f,k⟩;have B:=f.C.g_ g (j:=(h%16).toNat) Z;have C:=d.1;have D:=d.2;go_wp2_with fail;go_at_call 192;refine(h_ E.r (c.y*18) h d.1 d.2 _).mono ?_;rintro e l ⟨rfl,F⟩;subst l;go_wp2_with fail;go_at_call 187;refine(zF ok f (by first|omega|(simp;omega)) _).mono ?_;rintro e G ⟨rfl,I,m,n⟩;go_wp2_with fail;go_end0;exact⟨U,_,_,m,(((Tr.fO<|fe.iR _ _ _).fh k).fh n)⟩
def alH(ok:E.Ok)(b:R E i c x v ((zQ++[h])++[q]) s a w)(r:zQ.length<=800)(g:c.y<8)(d:gk q): Ò À 189 #[Å<|Ã ⟨i,0,Ä⟩,Â Ë 16] w λe f=>e=Ç (æ #[])/\kS E i x v a.length w c zQ (s.r c.y (q%16).toNat h) a f:=by have t:=b.r.r 0 _ U;have u:=b.r.r 2 _ U;have z:=b.r.M;have B:=fj.M b.C;have H:=fg b;go_enter ê,å;go_wp2_with fail;go_quiet (fail);go_wp2_with fail;go_at_call 188;refine(nH ok (H.out.fO<|fe.iR _ _ _) (by first|omega|(simp;omega))).mono ?_;rintro e C ⟨rfl,D,k,l⟩;go_wp2_with fail;go_at_call 188;refine(nH ok k (by first|omega|(simp;omega))).mono ?_;rintro e F ⟨rfl,G,f,m⟩;have I:=f.C.g_ g (j:=(q%16).toNat) (by have:=d.1;omega);have J:=fj.C f.C<|c.y*18+2+(q%16).toNat;go_wp2_with fail;go_at_call 192;refine(h_ E.r (c.y*18) q d.1 d.2 _).mono ?_;rintro e n ⟨rfl,K⟩;subst n;go_wp2_with fail;go_end0;let⟨o,p⟩:=f.S ok (c.y*18+2+(q%16).toNat) (f.C.SL g (by have:=d.1;omega) h);exact⟨U,_,_,o,(((Tr.fO<|fe.iR _ _ _).fh l).fh m).fh p⟩
def alI(ok:E.Ok)(b:R E i c x v ((zQ++[h])++[q]) s a w)(u:zQ.length<=800)(j:c.y<8)(d:gk h)(f:gk q)(g:gK s): Ò À 189 #[Å<|Ã ⟨i,0,Ä⟩,Â Ë 18] w λe H=>e=Ç (æ #[])/\kS E i x v a.length w c (zQ++[(rf s c.y q h).1]) (rf s c.y q h).2 a H:=by have z:=b.r.r 0 _ U;have B:=b.r.r 2 _ U;have C:=b.r.M;have D:=fj.M b.C;have H:=fg b;go_enter ê,å;go_wp2_with fail;go_quiet (fail);go_wp2_with fail;go_at_call 188;refine(nH ok (H.out.fO<|fe.iR _ _ _) (by first|omega|(simp;omega))).mono ?_;rintro e F ⟨rfl,G,k,l⟩;go_wp2_with fail;go_at_call 188;refine(nH ok k (by first|omega|(simp;omega))).mono ?_;rintro e I ⟨rfl,J,m,n⟩;go_wp2_with fail;go_at_call 193;refine(aly E ok i c _ v _ s a _ m q h f.1 f.2 d.1 d.2 j (g.fx _).1 (g.fx _).2).mono ?_;rintro e K ⟨rfl,o,p⟩;go_wp2_with fail;go_at_call 187;refine(zF ok o (by first|omega|(simp;omega)) _).mono ?_;rintro e L ⟨rfl,M,r,t⟩;go_wp2_with fail;go_end0;exact⟨U,_,_,r,(((((Tr.fO<|fe.iR _ _ _).fh l).fh n).fh p).fh t)⟩
def alJ{k:Int}(ok:E.Ok)(b:R E i c x v ((zQ++[h])++[q]) s a w)(r:zQ.length<=800)(t:c.y<8)(d:gk h)(f:gk q)(u:2<=k)(z:k<=7): Ò À 189 #[Å<|Ã ⟨i,0,Ä⟩,Â Ë k] w λe H=>e=Ç (æ #[])/\kS E i x v a.length w c (zQ++[xO k h q]) s a H:=by
 have B:=b.r.r 0 _ U;have C:=b.r.r 2 _ U;have D:=b.r.M;have F:=fj.M b.C;have G:(k==8)=Ï:=by rw[beq_eq_false_iff_ne];omega
 have I:(k==9)=Ï:=by rw[beq_eq_false_iff_ne];omega
 have J:(k==10)=Ï:=by rw[beq_eq_false_iff_ne];omega
 have K:(k==11)=Ï:=by rw[beq_eq_false_iff_ne];omega
 have L:(k==12)=Ï:=by rw[beq_eq_false_iff_ne];omega
 have M:(k==13)=Ï:=by rw[beq_eq_false_iff_ne];omega
 have N:(k==14)=Ï:=by rw[beq_eq_false_iff_ne];omega
 have O:(k==15)=Ï:=by rw[beq_eq_false_iff_ne];omega
 have P:(k==16)=Ï:=by rw[beq_eq_false_iff_ne];omega
 have Q:(k==18)=Ï:=by rw[beq_eq_false_iff_ne];omega
 have S:(k==19)=Ï:=by rw[beq_eq_false_iff_ne];omega
 have T:(k==20)=Ï:=by rw[beq_eq_false_iff_ne];omega
 have H:=fg b;go_enter ê,å;go_wp2_with fail;go_quiet (fail);go_wp2_with fail;go_at_call 188;refine(nH ok (H.out.fO<|fe.iR _ _ _) (by first|omega|(simp;omega))).mono ?_;rintro e V ⟨rfl,W,g,j⟩;go_wp2_with fail;go_at_call 188;refine(nH ok g (by first|omega|(simp;omega))).mono ?_;rintro e X ⟨rfl,Y,l,m⟩;go_wp2_with fail;go_at_call 195;refine(alo k h q d.1 d.2 f.1 f.2 _).mono ?_;rintro e n ⟨rfl,uI⟩;subst n;go_wp2_with fail;go_at_call 187;refine(zF ok l (by first|omega|(simp;omega)) _).mono ?_;rintro e w4 ⟨rfl,sv4,o,p⟩;go_wp2_with fail;go_end0;exact⟨U,_,_,o,((((Tr.fO<|fe.iR _ _ _).fh j).fh m).fh p)⟩
end
def LC{P:Program}{ops:Array Oper}{o:Oper}{a:Act}{w:World}{K:Act->World->Prop}{Q:Exit->Act->World->Prop}{E:Prop}{base:Nat}{e:TypeId}{size n:Nat}{v:Value}{xs:List Value} (hg:o.guard=none) (s x:Operand) (t:TypeId) (po:o.op=Op.call {callee:=Callee.builtin Builtin.append,args:=#[s,x],argTypes:=#[t,t]}) {i:TypeInfo} {z:Value} {bytes:Nat} (ht:P.underlying t=some (.slice e)) (hi:P.info? e=some i) (hz:i.zero=some z) (xL:i.size=size) (xM:i.bytes=bytes) (rU:z.cells.size=size) (hs:a.eval s=v) (lI:w.ownsRow base e size v n xs) (ad:Addr) {m c:Nat} (news:List Value) (hx:a.eval x=.slice (some ad) m c) (hm:0<m) (hl:news.length=m*size) (SH:∀j u,news[j]?=some u->w.cell? (ad.add j)=some u) (h1:∀u∈news,u.oneCell'=true) (B5:n+m<=maxLen) (B6:(n+m)*bytes<=140737488355328) (B3:base<=w.heap.size) (h:∀v' w',qk w base e size v n xs m news v' w'->K (a.put o.dst v') w') (hfl:mq e=false\/(0<news.length/\(∀u∈xs++news,kq u=true)/\∀u∈z.cells.toList,kq u=true):=by first|exact Or.inl (by decide)|exact Or.inr ⟨by simp,by simp[kq],by simp[kq,Value.cells]⟩): if Region.wanted o (yielded ops a.tmps)=true then Oper.wp P o a w K Q else E:=by
 have hw:Ĝ o (ai ops a.tmps)=Ú:=by simp[Ĝ,hg]
 rw[if_pos hw];let⟨v',w',hr,h2⟩:=SC (ty:=o.type) ht hi hz xL xM rU lI ad c news hm hl SH h1 B5 B6 B3 hfl;unfold Ń;simp[Ĥ,po,ae,aP,ag,hs,hx,hr,į];exact h v' w' h2
def alK:(À.info? 250).map (λi=>(i.zero,i.size,i.bytes))=Ã (Ã<|Ē #[Â Ë 0,Â Æ 0],2,16):=fv
def o_(b:List (Nat×Int)):∀u∈kr b,kq u=Ú:=λu a=>by unfold kr at a;let⟨e,_,h⟩:=Α.1 a;simp[SJ,qm]at h;rcases h with rfl|rfl<;>rfl
section
variable{E:iW}{c:RC}{g d:È}{s:St}{ls:List (Nat×Int)}{p:Int}
theorem R.alL(ok:E.Ok)(h:R E k c g jQ zQ s ls w)(a:qk w 0 250 2 jQ ls.length (kr ls) 1 [Â Ë b,Â Æ p] d W): (R E k c g jQ zQ s ls W/\W.ownsRow 0 250 2 d (ls++[(b,p)]).length (kr<|ls++[(b,p)]))/\ R E k c g d zQ s (ls++[(b,p)]) (W.setCell ⟨E.r,144,Ä⟩ d)/\Tr E k g jQ ls.length w g d (ls++[(b,p)]).length (W.setCell ⟨E.r,144,Ä⟩ d):=by
 have m:∀{i:Nat} {o:Array È} {T:õ},jQ.ownBlock=Ã i->w.heap[i]?=Ã (Ð o T (0,0))->T=250:=λ{i o T} q hc=>by let⟨l,e⟩:=lY h.M q;grind
 have f:R E k c g jQ zQ s ls W:=⟨h.r.I a.r λq=>absurd (m q h.r) A,ig h.I a.r (λj q r=>by let⟨l,e⟩:=lY h.I q;exact absurd (m r e) A),h.C.I a.r λq=>ok.r<|m q h.C,a.I _ _ _ h.M λ_=>Þ _⟩;have n:W.ownsRow 0 250 2 d (ls++[(b,p)]).length (kr<|ls++[(b,p)]):=by have:=a.ft;rwa[show kr ls++[Â Ë b,Â Æ p]=kr (ls++[(b,p)]) by simp[kr,SJ,qm],show ls.length+1=(ls++[(b,p)]).length by simp]at this
 have l:=fe.I (X:=λe=>e=E.r) (p:=⟨E.r,144,Ä⟩) U d<|Ù<|fj.G f.C ok.C;refine⟨⟨f,n⟩,⟨f.r.I l (fj.S f.C f.r ok.I).symm,ig f.I l λj q r=>jA f.I f.C ok.M.symm (by rw[q,r]),f.C.alm d,ig n l λj q r=>jA n f.C ok.r.symm<|by rw[q,r]⟩,?_,λj q=>Ø q,λj q=> ?_,λv x y t z=> ?_⟩
 .refine(a.r.S λe _ q=>Ù<|Ù<|Ù q).C l λi _ q=>Ø q
 .rcases a.C with e|e;all_goals grind
 .have u:=a.I v x y t z;refine⟨ig u l λj q r=>jA u f.C ok.r.symm (by rw[q,r]),λq=> ?_⟩;rcases a.C with e|e
  .grind
  .rw[e]at q;have:=(t.lt _ q).2;omega
end
def gu{f:(Nat->Value)->Act}(a:Act)(h:a=f (λn=>a.tmps.getD n undef):=by rfl):∃u,a=f u:=⟨_,h⟩
section
variable{md:Θ}{ops:Array ş}{Q:aT->é->É->Prop}{S:É->Prop}{X:List Nat}
def oV(P:aF)(md:Θ)(ops:Array ş)(Q:aT->é->É->Prop)(S:É->Prop)(X:List Nat):Nat->Array Bool->é->É->Prop
 |0,listed,a,w=>ÿ md ops listed=[]/\Q .normal a w
 |fuel+1,listed,a,w=>(ÿ md ops listed=[]->Q .normal a w)/\
  ∀i∈ÿ md ops listed,wpOp P ops Q i (λc b=>(i∉X->S b)/\oV P md ops Q S X fuel (listed.setIfInBounds i Ú) c b) a w
def p_:∀(b:Nat) (listed:Array Bool) (a:é) (w:É),oV P md ops Q S X b listed a w->wpAny P md ops Q b listed a w
 |0,_,_,_,h=>h
 |b+1,_,_,_,h=>⟨h.1,λi c=>wpOp_mono (λd e q=>p_ b _ d e q.2)<|h.2 i c⟩
def sU(md:Θ)(ops:Array ş)(X:List Nat)(i:Nat):Bool:=X.all λx=>match ops[x]? with
 |some o=>o.after.toList.any λe=>ń md e&&e.on==i
 |none=>Ú
theorem alM{listed:Array Bool}(a:sU md ops X i=Ú)(c:ops[j]?=Ã o)(d:listed.getD i Ï=Ï)(f:∀e∈o.after,ń md e=Ú->listed.getD e.on Ï=Ú):j∉X:=by intro b;have g:=List.all_eq_true.1 a j b;grind
theorem alN{m:ş}(x:ops[i]?=Ã m)(y:∀(j:Nat) (o:ş) n b,ops[j]?=Ã o->o.op≠.select n b)(E:sU md ops X i=Ú) (F:∀c a w,Q (.panic c) (a.put m.dst v) w->Q (.panic c) a w): ∀(p:Nat) (d:Array Bool) (a:é) (w:É),(∀j g,ops[j]?=Ã g->j≠i->d.getD j Ú=Ï->(∀e∈g.after,ń md e=Ú->e.on≠i)->m.apart ops g=Ú)-> i∈ÿ md ops d->YieldsIf P ops S m v a->S w->oV P md ops Q S X p (d.setIfInBounds i Ú) (a.put m.dst v) w->oV P md ops Q S X (p+1) d a w:=by
 have G:∀{d:Array Bool},i∈ÿ md ops d->d.getD i Ï=Ï:=λ{d} l=>by have D:=(mem_ready.1 l).1;grind
 intro p
 induction p with
 |zero=>
  intro d a w _ l s r H;refine⟨λh=>absurd (h▸l) fq,λj t=> ?_⟩;by_cases f:j=i
  .subst f;exact s.wpOp x r ⟨λ_=>r,H⟩
  .exact absurd (H.1▸Ω t f) fq
 |succ p I=>
  intro d a w z l s r H;refine⟨λh=>absurd (h▸l) fq,λj t=> ?_⟩;by_cases f:j=i
  .subst f;exact s.wpOp x r ⟨λ_=>r,H⟩
  .let⟨B,g,u,J⟩:=mem_ready.1 t;have K:∀e∈g.after,ń md e=Ú->e.on≠i:=λe V W Y=>by
    grind
   refine wpOp_mono (λD L q=>⟨q.2.1,I (d.setIfInBounds j Ú) D L (λk M N O C T=>z k M N O ?_ T) (Ω l<|Ne.symm f) q.1 (q.2.1<|alM E u (G l) J) ?_⟩)<|wpOp_putIf u (z j g u f B K) (λn b=>y i m n b x) (λn b=>y j g n b u) F s<|H.2 j<|Ω t f
   .by_cases D:j=k
    .subst D;exact B
    .rwa[getD_set_ne Ú D]at C
   .rw[Array.setIfInBounds_comm _ _ f];exact q.2.2
def HY{oi:ş}{listed:Array Bool}(b:ops[i]?=Ã oi) (d:Region.noSelect ops=Ú) (e:Region.free md ops listed i=Ú) (f:(ÿ md ops listed).contains i=Ú) (g:sU md ops X i=Ú) (j:∀c y w,Q (.panic c) (y.put oi.dst v) w->Q (.panic c) y w) (k:S w) (l:YieldsIf P ops S oi v y) (h:oV P md ops Q S X n (listed.setIfInBounds i Ú) (y.put oi.dst v) w):oV P md ops Q S X (n+1) listed y w:= alN b (Region.noSelect_spec d) g j n listed y w (Region.free_spec b e) (by simpa using f) l k h
def alO{listed:Array Bool}(c:ÿ md ops listed=[i])(e:ops[i]?=Ã o) (h:∀b:é->É->Prop,Shut (∀y w,(i∉X->S w)->oV P md ops Q S X n (listed.setIfInBounds i Ú) y w->b y w)->if Ĝ o (ai ops y.tmps)=Ú then Ń P o y w b Q else b (y.put o.dst ā) w):oV P md ops Q S X (n+1) listed y w:=by
 refine⟨λq=>absurd (c▸q) fq,λj d=> ?_⟩;rw[c]at d;have:j=i:=by simpa using d
 subst this;exact χ e λb f=>h b λy w g k=>f y w ⟨g,k⟩
def ix:List ş->Nat->Option ş
 |[],_=>Ä
 |o::_,0=>Ã o
 |_::l,n+1=>ix l n
def q_:∀{l:List ş} {i:Nat} {o:ş},ix l i=Ã o->l.toArray[i]?=Ã o
 |[],_,_,h=>by cases h
 |o::l,0,_,h=>by simpa[ix]using h
 |o::l,n+1,_,h=>by simpa using q_ (l:=l) h
def q'(h:ix ops.toList i=Ã o):ops[i]?=Ã o:=by simpa using q_ h
def tk{oi:Oper}{v:Value}{fuel:Nat}{listed:Array Bool}{a0 a a':Act}{w:World}(hS:S w)(i:Nat:=ops.size-1-fuel)(h:oV P md ops Q S X fuel (listed.setIfInBounds i true) a' w) (h0:a0=a:=by(try simp only[Act.put,List.setIfInBounds_toArray,List.set_cons_zero,List.set_cons_succ]);rfl) (hi:ix ops.toList i=some oi:=by rfl) (hs:Region.noSelect ops=true:=by kernel_rfl) (hf:Region.free md ops listed i=true:=by kernel_rfl) (hr:(Region.ready md ops listed).contains i=true:=by kernel_rfl) (hw:sU md ops X i=true:=by kernel_rfl) (hQ:∀v c a w,Q (.panic c) (a.put oi.dst v) w->Q (.panic c) a w:=by exact λ_ _ _ _ h=>h) (hn:Region.wanted oi (yielded ops a.tmps)=true:=by rfl) (hy:∀w,S w->(execOp a.eval oi).run P w=.ok (.value v) w:=by intro w h;revert h;simp only[and_imp];intros;go_simp;try(with_reducible rfl)) (ha:a.put oi.dst v=a':=by(try simp only[Act.put,List.setIfInBounds_toArray,List.set_cons_zero,List.set_cons_succ]);rfl):oV P md ops Q S X (fuel+1) listed a0 w:= h0▸HY (q' hi) hs hf hr hw (hQ v) hS (Ø ⟨hn,hy⟩) (ha▸h)
def gE(i:Nat){o:Oper}{fuel:Nat}{listed:Array Bool}{a0 a:Act}{w:World} (h:∀K':Act->World->Prop,Shut (∀a w,(i∉X->S w)->oV P md ops Q S X fuel (listed.setIfInBounds i true) a w->K' a w)->if Region.wanted o (yielded ops a.tmps)=true then Oper.wp P o a w K' Q else K' (a.put o.dst undef) w) (h0:a0=a:=by(try simp only[Act.put,List.setIfInBounds_toArray,List.set_cons_zero,List.set_cons_succ]);rfl) (hr:Region.ready md ops listed=[i]:=by kernel_rfl) (ho:ix ops.toList i=some o:=by rfl):oV P md ops Q S X (fuel+1) listed a0 w:=h0▸alO hr (q' ho) h
def alP{oi oj:ş}{listed:Array Bool}(g:ÿ md ops listed=[i,j])(h:ops[i]?=Ã oi)(l:ops[j]?=Ã oj) (m:∀b:é->É->Prop,Shut (∀y w,(i∉X->S w)->oV P md ops Q S X n (listed.setIfInBounds i Ú) y w->b y w)->if Ĝ oi (ai ops y.tmps)=Ú then Ń P oi y w b Q else b (y.put oi.dst ā) w) (o:∀b:é->É->Prop,Shut (∀y w,(j∉X->S w)->oV P md ops Q S X n (listed.setIfInBounds j Ú) y w->b y w)->if Ĝ oj (ai ops y.tmps)=Ú then Ń P oj y w b Q else b (y.put oj.dst ā) w):oV P md ops Q S X (n+1) listed y w:=by
 refine⟨λq=>absurd (g▸q) fq,λk c=> ?_⟩;rw[g]at c;rcases List.mem_cons.1 c with rfl|c
 .exact χ h λb d=>m b λy w e f=>d y w ⟨e,f⟩
 .have:k=j:=by simpa using c
  subst this;exact χ l λb d=>o b λy w e f=>d y w ⟨e,f⟩
def ma{listed:Array Bool}(b:ÿ md ops listed=[])(h:Q .normal y w):∀c,oV P md ops Q S X c listed y w
 |0=>⟨b,h⟩
 |_+1=>⟨λ_=>h,by rw[b];simp⟩
def mr{id:Nat}(S:É->Prop)(X:List Nat)(b:P.follows .mixedOrders=Ú) (h:oV P .any ops Q S X ops.size (ō ops.size Ï) y w.drew):(Code.region id ops Ú).wp P Q y w:= wp_region_any b<|p_ _ _ _ _ h
end
section
variable{E:iW}{c:RC}{s:St}{a:List (Nat×Int)}
def alQ(ok:E.Ok)(b:R E i c x v (zQ++[h]) s a w)(G:zQ.length<=800)(I:c.y<8)(J:a.length<=1000000): Ò À 189 #[Å<|Ã ⟨i,0,Ä⟩,Â Ë 19] w λe u=>e=Ç (æ #[])/\kS E i x v a.length w c zQ s (a++[(c.y,h)]) u:=by
 have L:w.cell? ⟨i,0,Ä⟩=Ã (Å<|Ã ⟨E.r,0,Ä⟩):=b.r.r 0 _ U;have M:w.cell? ⟨i,2,Ä⟩=Ã (Â Ë c.y):=b.r.r 2 _ U;have N:=b.r.M;have O:=fj.M b.C;let⟨P,l,o,p,r⟩:=í alK;have j:=fg<|Á l<|Á o<|Á p r;have H:=fg b;clear b l o p r;go_enter ê,å;go_wp2_with fail;go_quiet (fail);go_wp2_with fail;have B:=fg<|Á ((H.out.fO<|(fe.iR _ _ nq).fh<|fe.fU _ _).r.r 0 _ rfl)<|Á ((H.out.fO<|(fe.iR _ _ nq).fh<|fe.fU _ _).r.r 2 _ rfl) (H.out.fO<|(fe.iR _ _ nq).fh<|fe.fU _ _).C.B7;refine mr (λu=>u.cell? ⟨i,0,Ä⟩=Ã (Å<|Ã ⟨E.r,0,Ä⟩)/\u.cell? ⟨i,2,Ä⟩=Ã (Â Ë c.y)/\u.cell? ⟨E.r,144,Ä⟩=Ã v) [22] fv ?_;iterate 16 apply tk B.out
 refine gE 16 ?_;intro K d;go_simp;go_at_call 188;refine(nH ok (H.out.fO<|fe.iR _ _ _) Z).mono ?_;rintro e t ⟨rfl,Q,f,C⟩;dsimp only;refine d.out _ _ (λ_=>⟨f.r.r 0 _ U,f.r.r 2 _ U,f.C.B7⟩) ?_;clear d K;refine gE 17 ?_;intro K d;go_simp;refine d.out _ _ (λ_=>⟨f.r.r 0 _ U,f.r.r 2 _ U,f.C.B7⟩) ?_;clear d K;have g:=f.fO<|fe.gJ fi t #[Â Ë c.y,Â Æ h] 250;refine gE 18 ?_;intro K d;go_simp;refine d.out _ _ (λ_=>⟨g.r.r 0 _ U,g.r.r 2 _ U,g.C.B7⟩) ?_;clear d K;refine gE 19 ?_;intro K d;refine LC (hfl:=Ù ⟨fq,λu k=>(ú.1 k).elim (o_ a u) (λq=>by simp at q;rcases q with rfl|rfl<;>rfl),by simp[kq,ğ]⟩) (base:=0) (n:=a.length) (xs:=kr a) (m:=1) fZ _ _ 134 fZ Tryz.underlying134 j.out.1 j.out.2.1 j.out.2.2.1 j.out.2.2.2 U fZ g.M ⟨t.heap.size,0,Ä⟩ [Â Ë c.y,Â Æ h] fZ Z U (Ŵ _ _ _ _) (λu k=>by simp at k;rcases k with rfl|rfl<;>rfl) (by unfold Ą;omega) Z (â _) ?_;intro S T k;obtain⟨V,W,rfl⟩:=jL k.ft;let⟨⟨u,_⟩,D,F⟩:=g.alL ok k;refine d.out _ _ (λ_=>⟨u.r.r 0 _ U,u.r.r 2 _ U,u.C.B7⟩) ?_;clear d K;have z:=u.C.B7;have X:=fj.C u.C 144;refine gE 20 ?_;intro K d;go_simp;refine d.out _ _ (λ_=>⟨u.r.r 0 _ U,u.r.r 2 _ U,z⟩) ?_;clear d K;refine gE 21 ?_;intro K d;go_simp;refine d.out _ _ (λ_=>⟨u.r.r 0 _ U,u.r.r 2 _ U,z⟩) ?_;clear d K;refine gE 22 ?_;intro K d;go_simp;refine d.out _ _ (λq=>absurd fq q) ?_;clear d K;try simp only[Ĵ,Õ,ã,ä]
 refine ma fv ?_ _;go_wp2_with fail;go_end0;exact⟨U,_,_,D,(((Tr.fO<|(fe.iR _ _ _).fh<|fe.fU _ _).fh C).fh<|Tr.fO<|fe.gJ _ _ _ _).fh F⟩
end
structure RT where
 r:List Int
 s:St
 C:List (Nat×Int)
 g:Int
def iX(F:lZ)(c:RC)(t:RT)(q p k:Int):Int×Int×RT:=
 if c.d=4 then(0,0,t)else
  ((F t.s t.C c.y (q%8).toNat (min p t.g) k).I,xN (F t.s t.C c.y (q%8).toNat (min p t.g) k).C,
    {t with s:=(F t.s t.C c.y (q%8).toNat (min p t.g) k).s,C:=(F t.s t.C c.y (q%8).toNat (min p t.g) k).M,g:=t.g-(F t.s t.C c.y (q%8).toNat (min p t.g) k).r})
def fW(l:List Int):List Int:=l.dropLast
def mL(F:lZ)(c:RC)(a:Nat)(t:RT):RT:=
 if a=8 then{t with r:=fW t.r++[gh t.r,gh t.r]}
 else if a=9 then{t with r:=fW (fW t.r)++[gh t.r,gh<|fW t.r]}
 else if a=10 then{t with r:=fW t.r}
 else if a=11 then{t with r:=t.r++[c.k]}
 else if a=12 then{t with r:=t.r++[(c.x:Int)]}
 else if a=13 then{t with r:=t.r++[(c.y:Int)]}
 else if a=14 then{t with r:=t.r++[(t.s c.y).fx]}
 else if a=15 then{t with r:=fW t.r++[(t.s c.y).C (gh t.r%16).toNat]}
 else if a=16 then{t with r:=fW<|fW t.r,s:=t.s.r c.y (gh t.r%16).toNat (gh<|fW t.r)}
 else if a=18 then{t with r:=fW (fW t.r)++[(rf t.s c.y (gh t.r)<|gh<|fW t.r).1],s:=(rf t.s c.y (gh t.r)<|gh<|fW t.r).2}
 else if a=19 then{t with r:=fW t.r,C:=t.C++[(c.y,gh t.r)]}
 else if a=20 then
  {(iX F c t (gh t.r) (gh<|fW t.r)<|gh<|fW<|fW t.r).2.2 with r:=fW (fW<|fW t.r)++[(iX F c t (gh t.r) (gh<|fW t.r)<|gh<|fW<|fW t.r).1,(iX F c t (gh t.r) (gh<|fW t.r)<|gh<|fW<|fW t.r).2.1]}
 else{t with r:=fW (fW t.r)++[xO a (gh<|fW t.r)<|gh t.r]}
structure r_(ls:List (Nat×Int))(g:Int)(e:B9):Prop where
 C:0<=e.r
 r:e.r<=g
 N:gK e.s
 M:gk e.I
 I:(e.M.length:Int)<=ls.length+e.r
def qo(F:lZ):Prop:=∀s a x y g k,gK s->x<8->y<8->gk k->0<=g->g<=100000->(a.length:Int)+g<=1000000->r_ a g (F s a x y g k)
def tw(F:lZ)(d:Int):Prop:=∀(E:iW),E.Ok->∀(s:St) (b:È) (a:List (Nat×Int)) (x y:Nat) (g k:Int) (w:É),iE E.r E.T E.C s b w->w.ownsRow 0 250 2 b a.length (kr a)->iM w->gK s->x<8->y<8->0<=g->g<=100000->gk k->(a.length:Int)+g<=1000000->
 Ò À 157 #[Å<|Ã ⟨E.r,0,Ä⟩,Â Ë x,Â Ë y,Â Æ g,Â Æ k,Â Ë d] w λe c=>
  e=Ç (Ē #[Â Æ (F s a x y g k).r,Ñ (F s a x y g k).C,Â Æ (F s a x y g k).I])/\∃f,iu E b a.length w (F s a x y g k).s (F s a x y g k).M c f
section
variable{E:iW}{rb:Nat}{c:RC}{sv lv:È}{s b:St}{ls a:List (Nat×Int)}{p k:Int}
theorem R.xR(ok:E.Ok)(d:R E rb c sv lv zQ s ls w)(r:iu E lv ls.length w b a u v):R E rb c sv v zQ b a u/\Tr E rb sv lv ls.length w sv v a.length u:=by
 have g:∀{j:Nat} {i:Array È} {T:õ},w.heap[j]?=Ã (Ð i T (0,0))->T≠E.T->T≠250->¬(j=E.r\/lv.ownBlock=Ã j):=λ{j i T} f h1 h2=>by
  rintro(e|e)
  .rw[e,d.C]at f;grind
  .let⟨n,m⟩:=lY d.M e;grind
 refine⟨⟨d.r.I r.C<|g d.r ok.I.symm A,ig d.I r.C λj f=> ?_,r.r,r.I⟩,r.C.S λk _ h=>h.elim Ø λh=>Ù<|Ù<|Ù h,λj h=>Ø h,r.l,r.M⟩;let⟨n,m⟩:=lY d.I f;exact g m ok.M.symm A
def alR(ok:E.Ok)(a:R E rb c sv lv zQ s ls w)(b:c.d=4): Ò À 194 #[Å<|Ã ⟨rb,0,Ä⟩,Â Æ h,Â Æ p,Â Æ k] w λe u=>e=Ç (æ #[Â Æ 0,Â Æ 0])/\u=w:=by
 have e:w.cell? ⟨rb,4,Ä⟩=Ã (Â Ë 4):=by have:=a.r.r 4 (Â Ë c.d) U;rwa[b]at this
 go_enter aj,θ;go_wp2_with fail;go_ret2;exact⟨U,U⟩
end
section
variable{E:iW}{c:RC}{w':É}{s f:St}{a l:List (Nat×Int)}{q p:Int}{F:lZ}
def alS(E:iW)(n:Nat)(c:RC)(jQ x:È)(zQ:List Int)(a:List (Nat×Int))(w W:É)(r:B9)(w':É):Prop:=
 ∃z,iu E x a.length W r.s r.M w' z/\R E n c jQ z zQ r.s r.M w'/\Tr E n jQ x a.length w jQ z r.M.length w'
def alT(p g:Int):(if g<p then g else p)=min p g:=by rw[Int.min_def];split<;>split<;>omega
def HZ(a:0<=h)(b:h<9223372036854775808):Ë.wrap h=h:=by show(if(Ë.signed&&decide (h%(2^64:Int)≥(2^63:Int)))=Ú then h%(2^64:Int)-2^64 else h%(2^64:Int))=h;rw[(Int.emod_eq_of_lt a Z),if_neg];simp;omega
def alU{q:Int}(h:gk q):Ë.wrap (q.tmod 8)=((q%8).toNat:Int):=by
 rw[Int.tmod_eq_emod_of_nonneg h.1];have:Ë.wrap (q%8)=q%8:=by exact HZ Z Z
 rw[this];omega
def alV(a:0<=h)(b:h<4):Ë.wrap (h+1)=h+1:=by exact HZ Z Z
def vE(ok:E.Ok)(b:R E n c jQ x zQ s a w)(j:0<=c.d)(k:c.d<4)(hF:tw F (c.d+1))(l:iM w)(m:gK s)(o:c.y<8)(i:gk q)(t:gk p)(u:gk h)(C:0<=c.g)(D:c.g<=100000)(G:(a.length:Int)+c.g<=1000000)(W:É)(kW:fe fi w W): Ò À 157 #[Å<|Ã ⟨E.r,0,Ä⟩,Â Ë c.y,Â Ë<|Ë.wrap<|q.tmod 8,Â Æ<|min p c.g,Â Æ h,Â Ë<|Ë.wrap<|c.d+1] W λe w'=>
  e=Ç (Ē #[Â Æ (F s a c.y (q%8).toNat (min p c.g) h).r,Ñ (F s a c.y (q%8).toNat (min p c.g) h).C,Â Æ (F s a c.y (q%8).toNat (min p c.g) h).I])/\alS E n c jQ x zQ a w W (F s a c.y (q%8).toNat (min p c.g) h) w':=by
 have f:=b.fO kW;rw[alU i,alV j k];have H:=t.1;have I:=i.1;refine(hF E ok s x a c.y (q%8).toNat (min p c.g) h W f.C f.M (l.r kW id) m o Z Z Z u Z).mono ?_;rintro e w' ⟨rfl,z,r⟩;let⟨v,B⟩:=f.xR ok r;exact⟨U,z,r,v,(Tr.fO kW).fh B⟩
def alW{b:List È}(h:R E n c jQ x zQ s a w)(r:iu E x i (Č<|Ă w<|Ð b.toArray T) f l u z):fj w.heap.size b T u:=by
 refine fj.I (w:=Č<|Ă w<|Ð b.toArray T) (fj.N w b T) r.C ?_;rintro(e|e)
 .have:=fj.M h.C;omega
 .have:=(h.M.lt _ e).2;omega
def SR{f:List È}{ki:È}(ok:E.Ok)(d:R E n c jQ x zQ s a u)(t:Tr E n ki z b w jQ x k u)(m:w.heap.size<=j)(e:fj j f 245 u)(i:Nat)(v:È): R E n c jQ x zQ s a (u.setCell ⟨j,i,Ä⟩ v)/\Tr E n ki z b w jQ x k (u.setCell ⟨j,i,Ä⟩ v)/\fj j (f.set i v) 245 (u.setCell ⟨j,i,Ä⟩ v):=by have g:fe (λh=>h=j) u (u.setCell ⟨j,i,Ä⟩ v):=fe.I (X:=λh=>h=j) (p:=⟨j,i,Ä⟩) U v<|Ù e.G;refine⟨d.alv ok e g,t.alu g (λi q=>by omega) λi o q l=> ?_,e.fS i v⟩;unfold fj at e;rw[q,e]at l;cases l
def alX(ok:E.Ok)(f:R E n c jQ x zQ s a w)(pz:0<=c.d)(hd:c.d<4)(hF:tw F (c.d+1))(hI:qo F)(hr:iM w)(P:gK s)(hx:c.x<8)(hy:c.y<8)(Q:gk q)(S:gk p)(hk:gk h)(xh:0<=c.g)(vT:c.g<=100000)(hlen:(a.length:Int)+c.g<=1000000): Ò À 194 #[Å<|Ã ⟨n,0,Ä⟩,Â Æ q,Â Æ p,Â Æ h] w λe w'=>e=Ç (æ #[Â Æ (F s a c.y (q%8).toNat (min p c.g) h).I,Â Æ<|xN (F s a c.y (q%8).toNat (min p c.g) h).C])/\kS E n jQ x a.length w {c with g:=c.g-(F s a c.y (q%8).toNat (min p c.g) h).r} zQ (F s a c.y (q%8).toNat (min p c.g) h).s (F s a c.y (q%8).toNat (min p c.g) h).M w':=by
 have c0:w.cell? ⟨n,0,Ä⟩=Ã (Å<|Ã ⟨E.r,0,Ä⟩):=f.r.r 0 _ U;have c2:w.cell? ⟨n,2,Ä⟩=Ã (Â Ë c.y):=f.r.r 2 _ U;have c4:w.cell? ⟨n,4,Ä⟩=Ã (Â Ë c.d):=f.r.r 4 _ U;have c5:w.cell? ⟨n,5,Ä⟩=Ã (Â Æ c.g):=f.r.r 5 _ U;have gT:=f.r.M;have KW:=fj.M f.C;have hq0:=Q.1;have BD:=Q.2;have t_:=S.1;have hp1:=S.2;have call:=vE ok f pz hd hF hr P hy Q S hk xh vT hlen;have T:=hI s a c.y (q%8).toNat (min p c.g) h P hy Z hk Z Z Z;have M:=T.C;have N:=T.r;clear T;generalize F s a c.y (q%8).toNat (min p c.g) h=r at*;have H:=fg<|Á f<|Á call<|Á M N;have SS:(c.d==4)=Ï:=by rw[beq_eq_false_iff_ne];omega
 clear f hr P hlen call M N;go_enter aj,θ;go_wp2_with fail;have l:=fg<|Á ((H.out.1.fO<|fe.fU _ _).r.r 0 _ rfl)<|Á ((H.out.1.fO<|fe.fU _ _).r.r 2 _ rfl)<|Á ((H.out.1.fO<|fe.fU _ _).r.r 4 _ rfl)<|(H.out.1.fO<|fe.fU _ _).r.r 5 _ rfl;refine mr (λw'=>w'.cell? ⟨n,0,Ä⟩=Ã (Å<|Ã ⟨E.r,0,Ä⟩)/\w'.cell? ⟨n,2,Ä⟩=Ã (Â Ë c.y)/\w'.cell? ⟨n,4,Ä⟩=Ã (Â Ë c.d)/\w'.cell? ⟨n,5,Ä⟩=Ã (Â Æ c.g)) [25] fv ?_;iterate 16 apply tk l.out
 refine HY (i:=16) (oi:={dst:=Ã 32,op:=aE {callee:=Go.Callee.builtin bn,args:=#[î 27,î 31],argTypes:=#[23,23]},type:=23,pos:= "run.go:186",after:=#[{on:=11,ground:=ï},{on:=15,ground:=ï}],guard:=Ä}) (v:=Â Æ<|min p c.g) U fv fv fv fv (λ_ _ _ f=>f) l.out (Ø ⟨fZ,?alY⟩) ?auI
 case alY=>(intro w hSw;let⟨q0,q2,q4,q5⟩:=hSw;go_simp<;>rw[alT])
 apply tk l.out 17;apply tk l.out 18;apply tk l.out 19;apply tk l.out 20;apply tk l.out 21;apply tk l.out 22;refine alP (i:=23) (j:=24) (oi:={dst:=Ã 39,op:=aE {callee:=Go.Callee.value<|bh 157,args:=#[î 19,î 23,î 26,î 32,î 33,î 38],argTypes:=#[260,3,3,23,23,3]},type:=245,pos:= "run.go:186",after:=#[{on:=3,ground:=ï},{on:=7,ground:=ï},{on:=10,ground:=ï},{on:=16,ground:=ï},{on:=17,ground:=ï},{on:=22,ground:=ï}],guard:=Ä}) (oj:={dst:=Ã 10,op:=bj 245,type:=0,pos:= "run.go:186",after:=#[],guard:=Ä}) fv U U ?_ ?_
 .intro K k;go_simp;go_at_call 157;refine(H.out.2.1 _ kp).mono ?_;rintro e z ⟨rfl,zv,O,o,D⟩;dsimp only;refine k.out _ _ (λ_=>⟨o.r.r 0 _ U,o.r.r 2 _ U,o.r.r 4 _ U,o.r.r 5 _ U⟩) ?_;clear k K;have G:=o.fO<|fe.gJ fi z #[Â Æ 0,Ñ Ï,Â Æ 0] 245;refine gE 24 ?_;intro K k;go_simp;refine k.out _ _ (λ_=>⟨G.r.r 0 _ U,G.r.r 2 _ U,G.r.r 4 _ U,G.r.r 5 _ U⟩) ?_;clear k K;refine gE 25 ?_;intro K k;go_simp;refine k.out _ _ (λq=>absurd fq q) ?_;clear k K;try simp only[Ĵ,Õ,ã,ä]
  refine ma fv ?_ _;have V:=fe.gJ fi z #[Â Æ r.r,Ñ r.C,Â Æ r.I] 245;have t:=o.fO V;have I:=D.fh<|Tr.fO V;have m:fj z.heap.size [Â Æ r.r,Ñ r.C,Â Æ r.I] 245 _:=fj.N z _ 245;generalize Ă z (Ð #[Â Æ r.r,Ñ r.C,Â Æ r.I] 245)=W at*;generalize z.heap.size=b at*;clear G V o D O;have v0:=m.r 0 _ U;have X:=m.r 1 _ U;have Y:=m.r 2 _ U;have z5:W.cell? ⟨n,5,Ä⟩=Ã (Â Æ c.g):=t.r.r 5 _ U;have y5:=t.r.C 5;have zl:=t.r.M;have zb:=m.M;have M:=H.out.2.2.1;have N:=H.out.2.2.2;have J:=fj.S t.r m A;have y1:=(HO (w:=W) (i:=5) (u:=Â Æ<|c.g-r.r) J).trans X;have y2:=(HO (w:=W) (i:=5) (u:=Â Æ<|c.g-r.r) J).trans Y;have C:=fg<|Á t I;clear t I m l;go_wp2_with fail;go_region;go_wp2_with fail;have l:=fg<|Á y1 y2;refine mr (λw'=>w'.cell? ⟨b,1,Ä⟩=Ã (Ñ r.C)/\w'.cell? ⟨b,2,Ä⟩=Ã (Â Æ r.I)) [] fv ?_;iterate 5 apply tk l.out
  refine gE 5 ?_;intro K k;go_simp;go_at_call 143;refine(HU _ _).mono ?_;rintro e w2 ⟨rfl,qT⟩;subst w2;dsimp only;refine k.out _ _ (λ_=>l.out) ?_;clear k K;refine gE 6 ?_;intro K k;go_simp;refine k.out _ _ (λ_=>l.out) ?_;clear k K;refine gE 7 ?_;intro K k;go_simp;refine k.out _ _ (λ_=>l.out) ?_;clear k K;try simp only[Ĵ,Õ,ã,ä]
  refine ma fv ?_ _;go_wp2_with fail;go_ret2;let⟨n1,n2⟩:=C.out.1.N ok 5 (v:=Â Æ<|c.g-r.r) (c':={c with g:=c.g-r.r}) (ki:=jQ) (ss':=zQ) U C.out.1.I λ_ q=>q;have L:=(fe.fU fi<|W.setCell ⟨n,5,Ä⟩<|Â Æ<|c.g-r.r).fh<|fe.fU fi _;exact⟨U,_,_,n1.fO L,(C.out.2.fh n2).fh<|Tr.fO L⟩
 .intro K k;go_simp;refine k.out _ _ (λ_=>⟨(H.out.1.fO<|((fe.fU _ _).fh<|fe.gJ _ _ _ _)).r.r 0 _ U,(H.out.1.fO<|((fe.fU _ _).fh<|fe.gJ _ _ _ _)).r.r 2 _ U,(H.out.1.fO<|((fe.fU _ _).fh<|fe.gJ _ _ _ _)).r.r 4 _ U,(H.out.1.fO<|((fe.fU _ _).fh<|fe.gJ _ _ _ _)).r.r 5 _ U⟩) ?_;clear k K;refine gE 23 ?_;intro K k;go_simp;go_at_call 157;refine(H.out.2.1 (Č<|Ă w<|Ð #[Â Æ 0,Ñ Ï,Â Æ 0] 245) kp).mono ?_;rintro e z ⟨rfl,zv,O,o,D⟩;dsimp only;refine k.out _ _ (λ_=>⟨o.r.r 0 _ U,o.r.r 2 _ U,o.r.r 4 _ U,o.r.r 5 _ U⟩) ?_;clear k K;have B:=alW H.out.1 O;have k0:=B.r 0 _ U;have k1:=B.r 1 _ U;have k2:=B.r 2 _ U;have f0:=B.C 0;have f1:=B.C 1;have f2:=B.C 2;refine gE 25 ?_;intro K k;go_simp;refine k.out _ _ (λq=>absurd fq q) ?_;clear k K;try simp only[Ĵ,Õ,ã,ä]
  refine ma fv ?_ _;let⟨a1,a2,a3⟩:=SR ok o D (Þ _) B 0<|Â Æ r.r;let⟨b1,b2,b3⟩:=SR ok a1 a2 (Þ _) a3 1<|Ñ r.C;let⟨t,I,m⟩:=SR ok b1 b2 (Þ _) b3 2<|Â Æ r.I;generalize ą (ą (ą z ⟨w.heap.size,0,Ä⟩<|Â Æ r.r) ⟨w.heap.size,1,Ä⟩<|Ñ r.C) ⟨w.heap.size,2,Ä⟩ (Â Æ r.I)=W at*;replace m:fj w.heap.size [Â Æ r.r,Ñ r.C,Â Æ r.I] 245 W:=m;clear a1 a2 a3 b1 b2 b3 B k0 k1 k2 f0 f1 f2 o D O;have v0:=m.r 0 _ U;have X:=m.r 1 _ U;have Y:=m.r 2 _ U;have z5:W.cell? ⟨n,5,Ä⟩=Ã (Â Æ c.g):=t.r.r 5 _ U;have y5:=t.r.C 5;have zl:=t.r.M;have zb:=m.M;have M:=H.out.2.2.1;have N:=H.out.2.2.2;have J:=fj.S t.r m A;have y1:=(HO (w:=W) (i:=5) (u:=Â Æ<|c.g-r.r) J).trans X;have y2:=(HO (w:=W) (i:=5) (u:=Â Æ<|c.g-r.r) J).trans Y;have C:=fg<|Á t I;clear t I m l;go_wp2_with fail;go_region;go_wp2_with fail;have l:=fg<|Á y1 y2;refine mr (λw'=>w'.cell? ⟨w.heap.size,1,Ä⟩=Ã (Ñ r.C)/\w'.cell? ⟨w.heap.size,2,Ä⟩=Ã (Â Æ r.I)) [] fv ?_;iterate 5 apply tk l.out
  refine gE 5 ?_;intro K k;go_simp;go_at_call 143;refine(HU _ _).mono ?_;rintro e w2 ⟨rfl,qT⟩;subst w2;dsimp only;refine k.out _ _ (λ_=>l.out) ?_;clear k K;refine gE 6 ?_;intro K k;go_simp;refine k.out _ _ (λ_=>l.out) ?_;clear k K;refine gE 7 ?_;intro K k;go_simp;refine k.out _ _ (λ_=>l.out) ?_;clear k K;try simp only[Ĵ,Õ,ã,ä]
  refine ma fv ?_ _;go_wp2_with fail;go_ret2;let⟨n1,n2⟩:=C.out.1.N ok 5 (v:=Â Æ<|c.g-r.r) (c':={c with g:=c.g-r.r}) (ki:=jQ) (ss':=zQ) U C.out.1.I λ_ q=>q;have L:=(fe.fU fi<|W.setCell ⟨n,5,Ä⟩<|Â Æ<|c.g-r.r).fh<|fe.fU fi _;exact⟨U,_,_,n1.fO L,(C.out.2.fh n2).fh<|Tr.fO L⟩
end
section
variable{E:iW}{rb:Nat}{c:RC}{sv lv:È}{s i:St}{f j:List (Nat×Int)}{q p:Int}{F:lZ}
def oW(c:RC)(g:Int):RC:={c with g:=g}
def alZ(ok:E.Ok)(a:R E rb c sv lv zQ s f w)(i:0<=c.d)(G:c.d<=4)(hF:c.d<4->tw F (c.d+1))(j:qo F)(k:iM w)(l:gK s)(m:c.x<8)(n:c.y<8)(o:gk q)(r:gk p)(v:gk h)(z:0<=c.g)(B:c.g<=100000)(C:(f.length:Int)+c.g<=1000000)(t:RT)(D:t=(iX F c ⟨zQ,s,f,c.g⟩ q p h).2.2): Ò À 194 #[Å<|Ã ⟨rb,0,Ä⟩,Â Æ q,Â Æ p,Â Æ h] w λe u=>e=Ç (æ #[Â Æ (iX F c ⟨zQ,s,f,c.g⟩ q p h).1,Â Æ (iX F c ⟨zQ,s,f,c.g⟩ q p h).2.1])/\kS E rb sv lv f.length w (oW c t.g) zQ t.s t.C u:=by
 subst D;by_cases b:c.d=4
 .have e:iX F c ⟨zQ,s,f,c.g⟩ q p h=(0,0,⟨zQ,s,f,c.g⟩):=by unfold iX;rw[if_pos b]
  rw[e];refine(alR ok a b).mono ?_;rintro e u ⟨rfl,rfl⟩;exact⟨U,a.jZ⟩
 .have e:iX F c ⟨zQ,s,f,c.g⟩ q p h=((F s f c.y (q%8).toNat (min p c.g) h).I,xN (F s f c.y (q%8).toNat (min p c.g) h).C,⟨zQ,(F s f c.y (q%8).toNat (min p c.g) h).s,(F s f c.y (q%8).toNat (min p c.g) h).M,c.g-(F s f c.y (q%8).toNat (min p c.g) h).r⟩):=by unfold iX;rw[if_neg b]
  rw[e];exact alX ok a i Z (hF Z) j k l m n o r v z B C
def al0(ok:E.Ok)(i:R E rb c sv lv (((zQ++[h])++[p])++[q]) s f w)(hn:zQ.length<=800)(o:0<=c.d)(r:c.d<=4)(hF:c.d<4->tw F (c.d+1))(v:qo F)(z:iM w)(B:gK s)(C:c.x<8)(D:c.y<8)(G:gk q)(I:gk p)(J:gk h)(K:0<=c.g)(L:c.g<=100000)(M:(f.length:Int)+c.g<=1000000)(t:RT)(N:t=(iX F c ⟨zQ,s,f,c.g⟩ q p h).2.2)(a b:Int)(j:a=(iX F c ⟨zQ,s,f,c.g⟩ q p h).1)(k:b=(iX F c ⟨zQ,s,f,c.g⟩ q p h).2.1): Ò À 189 #[Å<|Ã ⟨rb,0,Ä⟩,Â Ë 20] w λe u=>e=Ç (æ #[])/\kS E rb sv lv f.length w (oW c t.g) (zQ++[a,b]) t.s t.C u:=by have c0:=i.r.r 0 _ U;have c2:=i.r.r 2 _ U;have gT:=i.r.M;have KW:=fj.M i.C;have H:=fg<|Á i<|Á z<|Á hF v;go_enter ê,å;go_wp2_with fail;go_quiet (fail);go_wp2_with fail;have O:=Tr.fO (E:=E) (rb:=rb) (sv:=sv) (lv:=lv) (n:=f.length)<|fe.iR fi w nq;have P:=H.out.1.fO<|fe.iR fi w nq;go_at_call 188;refine(nH ok P (by first|omega|(simp;omega))).mono ?_;rintro e w1 ⟨rfl,sv1,Q,S⟩;go_wp2_with fail;go_at_call 188;refine(nH ok Q (by first|omega|(simp;omega))).mono ?_;rintro e w2 ⟨rfl,H0,T,V⟩;go_wp2_with fail;go_at_call 188;refine(nH ok T (by first|omega|(simp;omega))).mono ?_;rintro e w3 ⟨rfl,SU,W,X⟩;have l:=((O.fh S).fh V).fh X;go_wp2_with fail;go_at_call 194;refine(alZ ok W o r H.out.2.2.1 H.out.2.2.2 (H.out.2.1.N ok H.out.1 l) B C D G I J K L M t N).mono ?_;rintro e w4 ⟨rfl,sv4,lv4,Y,t4⟩;rw[<-j,<-k];go_wp2_with fail;go_at_call 187;refine(SQ ok Y (by first|omega|(simp;omega)) _ _).mono ?_;rintro e w5 ⟨rfl,sv5,m,t5⟩;go_wp2_with fail;go_end0;rw[<-j,<-k]at m;exact⟨U,_,_,m,(l.fh t4).fh t5⟩
end
def tx(h:∀p∈zQ,gk p):gk (gh zQ):=by
 by_cases a:0<zQ.length
 .apply h _;rw[n_ zQ a];simp[gh]
 .have:zQ=[]:=ß Z;subst this;exact⟨A,A⟩
def pH(h:∀p∈zQ,gk p):∀p∈fW zQ,gk p:=λp a=>h p<|List.dropLast_subset zQ a
def qp(l:List Int):(fW l).length=l.length-1:=by simp[fW]
def xS(h:0<zQ.length):fW zQ++[gh zQ]=zQ:=(n_ zQ h).symm
theorem al1(F:lZ)(c:RC)(l b:List Int)(s:St)(a:List (Nat×Int))(g q p k:Int): (iX F c ⟨l,s,a,g⟩ q p k).1=(iX F c ⟨b,s,a,g⟩ q p k).1/\(iX F c ⟨l,s,a,g⟩ q p k).2.1=(iX F c ⟨b,s,a,g⟩ q p k).2.1/\(iX F c ⟨l,s,a,g⟩ q p k).2.2.s=(iX F c ⟨b,s,a,g⟩ q p k).2.2.s/\ (iX F c ⟨l,s,a,g⟩ q p k).2.2.C=(iX F c ⟨b,s,a,g⟩ q p k).2.2.C/\(iX F c ⟨l,s,a,g⟩ q p k).2.2.g=(iX F c ⟨b,s,a,g⟩ q p k).2.2.g:=by unfold iX;grind
section
variable{E:iW}{rb:Nat}{c:RC}{sv lv:È}{s:St}{f:List (Nat×Int)}{F:lZ}
def al2(ok:E.Ok)(h:R E rb c sv lv zQ s f w)(Y:zQ.length<=700)(C:0<=c.d)(D:c.d<=4)(hF:c.d<4->tw F (c.d+1))(G:qo F)(H:iM w)(v:gK s)(z:c.x<8)(a:c.y<8)(r:∀p∈zQ,gk p)(I:0<=c.g)(J:c.g<=100000)(K:(f.length:Int)+c.g<=1000000) (k:Nat) (se:2<=k) (rI:k<=20) (u_:k≠17) (L B M:Int) (b:ja[k]?=Ã (L,B,M)) (Ca:B<=zQ.length) (t:RT) (N:t=mL F c k ⟨zQ,s,f,c.g⟩): Ò À 189 #[Å<|Ã ⟨rb,0,Ä⟩,Â Ë k] w λe i=>e=Ç (æ #[])/\kS E rb sv lv f.length w (oW c t.g) t.r t.s t.C i:=by
 subst N;have i:=tx r;have u:=tx<|pH r;have O:=tx<|pH<|pH r;have j:1<=zQ.length->R E rb c sv lv (fW zQ++[gh zQ]) s f w:=λq=>by rwa[xS Z]
 have l:2<=zQ.length->R E rb c sv lv ((fW (fW zQ)++[gh<|fW zQ])++[gh zQ]) s f w:=λq=>by rw[xS (by rw[qp];omega),xS Z];exact h
 have P:3<=zQ.length->R E rb c sv lv (((fW (fW<|fW zQ)++[gh<|fW<|fW zQ])++[gh<|fW zQ])++[gh zQ]) s f w:=λq=>by rw[xS (by rw[qp,qp];omega),xS (by rw[qp];omega),xS Z];exact h
 have m:zQ.length<=800:=Z
 have n:(fW zQ).length<=800:=by rw[qp];omega
 have o:(fW<|fW zQ).length<=800:=by rw[qp];omega
 have Q:(fW<|fW<|fW zQ).length<=800:=by rw[qp];omega
 have cases:(k=2\/k=3\/k=4\/k=5\/k=6\/k=7)\/k=8\/k=9\/k=10\/k=11\/k=12\/k=13\/k=14\/k=15\/k=16\/k=18\/k=19\/k=20:=Z
 rcases cases with hq|rfl|rfl|rfl|rfl|rfl|rfl|rfl|rfl|rfl|rfl|rfl|rfl
 .have S:2<=zQ.length:=by
   rcases hq with rfl|rfl|rfl|rfl|rfl|rfl<;>(simp[ja]at b;omega)
  have e:mL F c k ⟨zQ,s,f,c.g⟩=⟨fW (fW zQ)++[xO k (gh<|fW zQ)<|gh zQ],s,f,c.g⟩:=by rcases hq with rfl|rfl|rfl|rfl|rfl|rfl<;>rfl
  rw[e];exact alJ ok (l S) o a u i Z Z
 .exact alz ok (j<|by simp[ja]at b;omega) n a
 .exact alA ok (l<|by simp[ja]at b;omega) o a
 .exact alB ok (j<|by simp[ja]at b;omega) n a
 .exact alC ok h m a
 .exact alD ok h m a z
 .exact alE ok h m a
 .exact alF ok h m a
 .exact alG ok (j<|by simp[ja]at b;omega) n a i
 .exact alH ok (l<|by simp[ja]at b;omega) o a i
 .exact alI ok (l<|by simp[ja]at b;omega) o a u i v
 .exact alQ ok (j<|by simp[ja]at b;omega) n a Z
 .let⟨S,T,V,W,X⟩:=al1 F c zQ (fW<|fW<|fW zQ) s f c.g (gh zQ) (gh<|fW zQ)<|gh<|fW<|fW zQ;have e:mL F c 20 ⟨zQ,s,f,c.g⟩=⟨fW (fW<|fW zQ)++[(iX F c ⟨zQ,s,f,c.g⟩ (gh zQ) (gh<|fW zQ)<|gh<|fW<|fW zQ).1,(iX F c ⟨zQ,s,f,c.g⟩ (gh zQ) (gh<|fW zQ)<|gh<|fW<|fW zQ).2.1],(iX F c ⟨zQ,s,f,c.g⟩ (gh zQ) (gh<|fW zQ)<|gh<|fW<|fW zQ).2.2.s,(iX F c ⟨zQ,s,f,c.g⟩ (gh zQ) (gh<|fW zQ)<|gh<|fW<|fW zQ).2.2.C,(iX F c ⟨zQ,s,f,c.g⟩ (gh zQ) (gh<|fW zQ)<|gh<|fW<|fW zQ).2.2.g⟩:=U;rw[e,S,T,V,W,X];exact al0 ok (P<|by simp[ja]at b;omega) Q C D hF G H v z a i u O I J K _ U _ _ U U
end
def qt(c:Int)(w:É):Ò À 87 #[Â aU c] w λe a=>e=Ç (Â Ë<|lB c)/\a=w:=by
 go_enter Tryz.func87,Tryz.ntmps87;go_wp2;all_goals go_ret
 all_goals refine⟨EA ?_,U⟩
 all_goals simp only[beq_iff_eq,beq_eq_false_iff_ne,ne_eq]at*
 all_goals(try subst c)
 all_goals first|rfl|(unfold lB;simp[*];done)|(unfold lB;rw[if_neg Z];simp[*])
def kz:ŏ->Option ŏ
 |à c=>Ã c
 |.seq a b=>match kz a with
  |some c=>Ã c
  |none=>kz b
 |.block _ c=>kz c
 |.scope c=>kz c
 |.cond _ a b=>match kz a with
  |some c=>Ã c
  |none=>kz b
 |_=>Ä
noncomputable def uO:ŏ:=(Tryz.f175.body.bind kz).getD ĵ
def oa(a:Nat)(P:ByteArray)(b:Int)(u:Nat->È):é:=⟨#[Å<|Ã ⟨a,0,Ä⟩,ā,Â Æ 0,Ñ Ï,Í P,Â Æ P.size,Â Æ b,u 7,u 8,u 9,u 10,u 11,u 12,u 13,u 14,u 15,u 16,u 17,u 18,u 19,u 20,u 21,u 22,u 23,u 24,u 25,u 26,u 27,u 28,u 29,u 30,u 31,u 32,u 33,u 34,u 35,u 36,u 37,u 38,u 39,u 40,u 41,u 42,u 43,u 44,u 45,u 46,u 47,u 48,u 49,u 50,u 51,u 52,u 53,u 54,u 55,u 56,u 57,u 58,u 59,u 60,u 61,u 62,u 63,u 64,u 65,u 66,u 67,u 68,u 69,u 70,u 71,u 72,u 73,u 74,u 75,u 76,u 77,u 78,u 79,u 80],[]⟩
def Cb(b:Nat)(P:ByteArray)(c:Int)(a:é):Prop:=∃u,a=oa b P c u
def w_(a:Nat)(P:ByteArray)(v:Int)(b:Bool)(u:Nat->È):é:=⟨#[Å<|Ã ⟨a,0,Ä⟩,ā,Â Æ v,Ñ b,Í P,Â Æ P.size,u 6,u 7,u 8,u 9,u 10,u 11,u 12,u 13,u 14,u 15,u 16,u 17,u 18,u 19,u 20,u 21,u 22,u 23,u 24,u 25,u 26,u 27,u 28,u 29,u 30,u 31,u 32,u 33,u 34,u 35,u 36,u 37,u 38,u 39,u 40,u 41,u 42,u 43,u 44,u 45,u 46,u 47,u 48,u 49,u 50,u 51,u 52,u 53,u 54,u 55,u 56,u 57,u 58,u 59,u 60,u 61,u 62,u 63,u 64,u 65,u 66,u 67,u 68,u 69,u 70,u 71,u 72,u 73,u 74,u 75,u 76,u 77,u 78,u 79,u 80],[]⟩
def EB(c:Nat)(P:ByteArray)(v:Int)(b:Bool)(a:é):Prop:=∃u,a=w_ c P v b u
def QQ(X:é->É->Prop):aT->é->É->Prop
 |.exit 0,a,w=>X a w
 |_,_,_=>False
section
variable{X:é->É->Prop}{E:iW}{c:RC}{s:St}{f:List (Nat×Int)}{F:lZ}
def al3(ok:E.Ok)(u:Nat->È)(b:R E i c z x zQ s f w)(j:B.size<=40)(e:h=B.size) (g:∀a d,EB i B 0 Ú a->kS E i z x f.length w c zQ s f d->X a d): Î À uO (Exit.then K<|QQ X) (oa i B h u) w:=by
 unfold oa;conv=>arg 2;whnf
 subst e;go_wp2_with fail;exact g _ _ (gu _) b.jZ
def al4(ok:E.Ok)(u:Nat->È)(b:R E i c z x zQ s f w)(l:B.size<=40)(m:(B.size:Int)<h) (e:∀a d,EB i B 0 Ï a->kS E i z x f.length w (oW c 0) zQ s f d->X a d): Î À uO (Exit.then K<|QQ X) (oa i B h u) w:=by
 unfold oa;conv=>arg 2;whnf
 have n:w.cell? ⟨i,5,Ä⟩=Ã (Â Æ c.g):=b.r.r 5 _ U;have o:=b.r.C 5;have p:(h==(B.size:Int))=Ï:=by rw[beq_eq_false_iff_ne];omega
 have H:=fg b;clear b;go_wp2_with fail;let⟨j,k⟩:=H.out.N ok 5 (v:=Â Æ 0) (c':=oW c 0) (ki:=z) (ss':=zQ) U H.out.I λ_ q=>q;exact e _ _ (gu _) ⟨_,_,j,k⟩
def al5(ok:E.Ok)(u:Nat->È)(b:R E i c z x zQ s f w)(P:B.size<=40)(n:Nat)(G:h=n)(I:n<B.size)(y:iM w)(m o p:Int)(Q:zQ.length<=700)(J:0<=c.g)(S:c.g<=100000)(k:Nat)(C:lB ((B[n]'I).toNat:Int)=k)(r:ja[k]?=Ã (m,o,p))(D:kR c.g zQ.length m o p=Ï) (L:∀a j,EB i B 0 Ï a->kS E i z x f.length w (oW c 0) zQ s f j->X a j): Î À uO (Exit.then K<|QQ X) (oa i B h u) w:=by
 unfold oa;conv=>arg 2;whnf
 subst G;have T:((n:Int)==(B.size:Int))=Ï:=by rw[beq_eq_false_iff_ne];omega
 have V:decide ((B.size:Int)<(n:Int))=Ï:=decide_eq_false Z;have W:(0:Int)<=(n:Int):=Z
 have Y:(n:Int)<(B.size:Int):=Z
 have d:=B8 E ok i c z x zQ s f w b y k m o p r Z J Z;rw[D]at d;have H:=fg<|Á b<|Á d<|Á r C;clear b d y r D C;go_wp2_with (go_at_call 87;refine(qt _ _).mono ?_;rintro e j ⟨rfl,l⟩;subst j;rw[H.out.2.2.2]);go_at_call 186;apply H.out.2.1.mono;rintro e M ⟨rfl,l,F⟩;have k5:M.cell? ⟨i,5,Ä⟩=Ã (Â Æ c.g):=l.r.r 5 _ U;have g5:=l.r.C 5;have t:=fg<|Á l F;clear l F;go_wp2_with fail;let⟨N,O⟩:=R.N ok t.out.1 5 (v:=Â Æ 0) (c':=oW c 0) (ki:=z) (ss':=zQ) U t.out.1.I λ_ q=>q;exact L _ _ (gu _) ⟨_,_,N,t.out.2.fh O⟩
def al6(ok:E.Ok)(u:Nat->È)(b:R E i c z x zQ s f w)(J:B.size<=40)(n:Nat)(C:h=n)(D:n<B.size)(q:iM w)(k l m:Int)(L:zQ.length<=700)(F:0<=c.g)(M:c.g<=100000)(r:lB ((B[n]'D).toNat:Int)=22)(o:ja[(22:Nat)]?=Ã (k,l,m))(t:kR c.g zQ.length k l m=Ú) (G:∀a j,EB i B 0 Ï a->kS E i z x f.length w (oW c<|c.g-k) zQ s f j->X a j): Î À uO (Exit.then K<|QQ X) (oa i B h u) w:=by
 unfold oa;conv=>arg 2;whnf
 subst C;have N:((n:Int)==(B.size:Int))=Ï:=by rw[beq_eq_false_iff_ne];omega
 have O:decide ((B.size:Int)<(n:Int))=Ï:=decide_eq_false Z;have P:(0:Int)<=(n:Int):=Z
 have Q:(n:Int)<(B.size:Int):=Z
 have d:=B8 E ok i c z x zQ s f w b q 22 k l m o Z F Z;rw[t]at d;have H:=fg<|Á b<|Á d<|Á o r;clear b d q o t r;go_wp2_with (go_at_call 87;refine(qt _ _).mono ?_;rintro e j ⟨rfl,I⟩;subst j;rw[H.out.2.2.2]);go_at_call 186;apply H.out.2.1.mono;rintro e S ⟨rfl,p,v⟩;rw[if_pos U]at p;have y:=fg<|Á p v;clear p v;go_wp2_with (go_at_call 87;refine(qt _ _).mono ?_;rintro e j ⟨rfl,I⟩;subst j;rw[H.out.2.2.2]);exact G _ _ (gu _) ⟨_,_,y.out.1,y.out.2⟩
def al7(ok:E.Ok)(u:Nat->È)(b:R E i c z x zQ s f w)(P:B.size<=40)(n:Nat)(F:h=n)(G:n<B.size)(r:iM w)(k l m:Int)(I:zQ.length<=700)(J:0<=c.g)(Q:c.g<=100000)(p:Int)(t:List Int)(L:zQ=t++[p])(v:lB ((B[n]'G).toNat:Int)=21)(o:ja[(21:Nat)]?=Ã (k,l,m))(y:kR c.g zQ.length k l m=Ú) (M:∀a j,EB i B p Ú a->kS E i z x f.length w (oW c<|c.g-k) t s f j->X a j): Î À uO (Exit.then K<|QQ X) (oa i B h u) w:=by
 unfold oa;conv=>arg 2;whnf
 subst F;have S:((n:Int)==(B.size:Int))=Ï:=by rw[beq_eq_false_iff_ne];omega
 have T:decide ((B.size:Int)<(n:Int))=Ï:=decide_eq_false Z;have V:(0:Int)<=(n:Int):=Z
 have W:(n:Int)<(B.size:Int):=Z
 have d:=B8 E ok i c z x zQ s f w b r 21 k l m o Z J Z;rw[y]at d;have H:=fg<|Á b<|Á d<|Á o v;clear b d r o y v;go_wp2_with (go_at_call 87;refine(qt _ _).mono ?_;rintro e j ⟨rfl,N⟩;subst j;rw[H.out.2.2.2]);go_at_call 186;apply H.out.2.1.mono;rintro e Y ⟨rfl,q,C⟩;rw[if_pos U]at q;have D:=fg<|Á q C;clear q C;subst L;go_wp2_with (go_at_call 87;refine(qt _ _).mono ?_;rintro e j ⟨rfl,N⟩;subst j;rw[H.out.2.2.2]);go_at_call 188;refine(nH ok D.out.1<|by simp at I;omega).mono ?_;rintro e w2 ⟨rfl,H0,N,O⟩;go_wp2_with fail;exact M _ _ (gu _) ⟨_,_,N,D.out.2.fh O⟩
def al8(ok:E.Ok)(u:Nat->È)(b:R E i c z x zQ s f w)(L:B.size<=40)(n:Nat)(D:h=n)(k:n<B.size)(r:iM w)(l m o:Int)(M:zQ.length<=700)(F:0<=c.g)(N:c.g<=100000)(O:(48:Int)<=((B[n]'k).toNat:Int))(P:((B[n]'k).toNat:Int)<=57)(t:lB ((B[n]'k).toNat:Int)=1)(p:ja[(1:Nat)]?=Ã (l,m,o))(v:kR c.g zQ.length l m o=Ú) (G:∀a j,Cb i B ((n:Int)+1) a->kS E i z x f.length w (oW c<|c.g-l) (zQ++[((B[n]'k).toNat:Int)-48]) s f j->K a j): Î À uO (Exit.then K<|QQ X) (oa i B h u) w:=by
 unfold oa;conv=>arg 2;whnf
 subst D;have Q:((n:Int)==(B.size:Int))=Ï:=by rw[beq_eq_false_iff_ne];omega
 have S:decide ((B.size:Int)<(n:Int))=Ï:=decide_eq_false Z;have T:(0:Int)<=(n:Int):=Z
 have V:(n:Int)<(B.size:Int):=Z
 have d:=B8 E ok i c z x zQ s f w b r 1 l m o p Z F Z;rw[v]at d;have H:=fg<|Á b<|Á d<|Á p t;clear b d r p v t;go_wp2_with (go_at_call 87;refine(qt _ _).mono ?_;rintro e j ⟨rfl,I⟩;subst j;rw[H.out.2.2.2]);go_at_call 186;apply H.out.2.1.mono;rintro e W ⟨rfl,q,y⟩;rw[if_pos U]at q;have C:=fg<|Á q y;clear q y;go_wp2_with (go_at_call 87;refine(qt _ _).mono ?_;rintro e j ⟨rfl,I⟩;subst j;rw[H.out.2.2.2]);go_at_call 187;refine(zF ok C.out.1 Z _).mono ?_;rintro e Y ⟨rfl,H0,I,J⟩;go_wp2_with fail;exact G _ _ (gu _) ⟨_,_,I,C.out.2.fh J⟩
def al9(ok:E.Ok)(u:Nat->È)(b:R E i c z x zQ s f w)(W:B.size<=40)(n:Nat)(M:h=n)(N:n<B.size)(t:iM w)(k l m:Int)(v:zQ.length<=700)(O:0<=c.g)(Y:c.g<=100000)(p q:Int)(y:List Int)(P:zQ=(y++[p])++[q])(Q:¬p=0)(C:lB ((B[n]'N).toNat:Int)=17)(o:ja[(17:Nat)]?=Ã (k,l,m))(D:kR c.g zQ.length k l m=Ú) (S:∀a j,Cb i B q a->kS E i z x f.length w (oW c<|c.g-k) y s f j->K a j): Î À uO (Exit.then K<|QQ X) (oa i B h u) w:=by
 unfold oa;conv=>arg 2;whnf
 subst M;have e1:((n:Int)==(B.size:Int))=Ï:=by rw[beq_eq_false_iff_ne];omega
 have e2:decide ((B.size:Int)<(n:Int))=Ï:=decide_eq_false Z;have Hv:(0:Int)<=(n:Int):=Z
 have vN:(n:Int)<(B.size:Int):=Z
 have d:=B8 E ok i c z x zQ s f w b t 17 k l m o Z O Z;rw[D]at d;have H:=fg<|Á b<|Á d<|Á o C;clear b d t o D C;go_wp2_with (go_at_call 87;refine(qt _ _).mono ?_;rintro e j ⟨rfl,I⟩;subst j;rw[H.out.2.2.2]);go_at_call 186;apply H.out.2.1.mono;rintro e w1 ⟨rfl,r,F⟩;rw[if_pos U]at r;have G:=fg<|Á r F;clear r F;subst P;have e3:(p !=0)=Ú:=by rwa[bne_iff_ne]
 go_wp2_with (go_at_call 87;refine(qt _ _).mono ?_;rintro e j ⟨rfl,I⟩;subst j;rw[H.out.2.2.2])
 go_at_call 188;refine(nH ok G.out.1<|by simp at v|-;omega).mono ?_;rintro e w2 ⟨rfl,H0,I,J⟩;go_wp2_with fail;go_at_call 188;refine(nH ok I<|by simp at v;omega).mono ?_;rintro e w3 ⟨rfl,SU,V,L⟩;have T:=(G.out.2.fh J).fh L;clear I J L;go_wp2_with fail;exact S _ _ (gu _) ⟨_,_,V,T⟩
def ama(ok:E.Ok)(u:Nat->È)(b:R E i c z x zQ s f w)(W:B.size<=40)(n:Nat)(M:h=n)(N:n<B.size)(t:iM w)(k l m:Int)(v:zQ.length<=700)(O:0<=c.g)(Y:c.g<=100000)(p q:Int)(y:List Int)(P:zQ=(y++[p])++[q])(Q:p=0)(C:lB ((B[n]'N).toNat:Int)=17)(o:ja[(17:Nat)]?=Ã (k,l,m))(D:kR c.g zQ.length k l m=Ú) (S:∀a j,Cb i B ((n:Int)+1) a->kS E i z x f.length w (oW c<|c.g-k) y s f j->K a j): Î À uO (Exit.then K<|QQ X) (oa i B h u) w:=by
 unfold oa;conv=>arg 2;whnf
 subst M;have e1:((n:Int)==(B.size:Int))=Ï:=by rw[beq_eq_false_iff_ne];omega
 have e2:decide ((B.size:Int)<(n:Int))=Ï:=decide_eq_false Z;have Hv:(0:Int)<=(n:Int):=Z
 have vN:(n:Int)<(B.size:Int):=Z
 have d:=B8 E ok i c z x zQ s f w b t 17 k l m o Z O Z;rw[D]at d;have H:=fg<|Á b<|Á d<|Á o C;clear b d t o D C;go_wp2_with (go_at_call 87;refine(qt _ _).mono ?_;rintro e j ⟨rfl,I⟩;subst j;rw[H.out.2.2.2]);go_at_call 186;apply H.out.2.1.mono;rintro e w1 ⟨rfl,r,F⟩;rw[if_pos U]at r;have G:=fg<|Á r F;clear r F;subst P;subst Q;go_wp2_with (go_at_call 87;refine(qt _ _).mono ?_;rintro e j ⟨rfl,I⟩;subst j;rw[H.out.2.2.2]);go_at_call 188;refine(nH ok G.out.1<|by simp at v|-;omega).mono ?_;rintro e w2 ⟨rfl,H0,I,J⟩;go_wp2_with fail;go_at_call 188;refine(nH ok I<|by simp at v;omega).mono ?_;rintro e w3 ⟨rfl,SU,V,L⟩;have T:=(G.out.2.fh J).fh L;clear I J L;go_wp2_with fail;exact S _ _ (gu _) ⟨_,_,V,T⟩
def amb(ok:E.Ok)(u:Nat->È)(b:R E i c z x zQ s f w)(hP:B.size<=40)(n:Nat)(Q:h=n)(S:n<B.size)(r:iM w)(l o q:Int)(T:zQ.length<=700)(V:0<=c.g)(vT:c.g<=100000)(k:Nat)(W:2<=k)(Y:k<=20)(u_:k≠17)(Ca:o<=zQ.length)(pz:0<=c.d)(hd:c.d<=4)(hF:c.d<4->tw F (c.d+1))(I:qo F)(J:gK s)(hx:c.x<8)(hy:c.y<8)(L:∀p∈zQ,gk p)(hlen:(f.length:Int)+c.g<=1000000)(t:RT)(M:t=mL F c k ⟨zQ,s,f,c.g-l⟩)(y_:0<=l)(SV:l<=c.g)(N:lB ((B[n]'S).toNat:Int)=k)(v:ja[(k:Nat)]?=Ã (l,o,q))(O:kR c.g zQ.length l o q=Ú) (hK:∀a m,Cb i B ((n:Int)+1) a->kS E i z x f.length w (oW c t.g) t.r t.s t.C m->K a m): Î À uO (Exit.then K<|QQ X) (oa i B h u) w:=by
 unfold oa;conv=>arg 2;whnf
 subst Q;have e1:((n:Int)==(B.size:Int))=Ï:=by rw[beq_eq_false_iff_ne];omega
 have e2:decide ((B.size:Int)<(n:Int))=Ï:=decide_eq_false Z;have Hv:(0:Int)<=(n:Int):=Z
 have vN:(n:Int)<(B.size:Int):=Z
 have j:=B8 E ok i c z x zQ s f w b r k l o q v Z V Z;rw[O]at j;have H:=fg<|Á b<|Á j<|Á r<|Á v N;clear b j r v O N;go_wp2_with (go_at_call 87;refine(qt _ _).mono ?_;rintro e m ⟨rfl,hw⟩;subst m;rw[H.out.2.2.2.2]);go_at_call 186;apply H.out.2.1.mono;rintro e w1 ⟨rfl,C,P⟩;rw[if_pos U]at C;have G:=fg<|Á C P;clear C P;have z_:((k:Int)==1)=Ï:=by rw[beq_eq_false_iff_ne];omega
 have e27:((k:Int)==17)=Ï:=by rw[beq_eq_false_iff_ne];omega
 have e31:((k:Int)==21)=Ï:=by rw[beq_eq_false_iff_ne];omega
 have e32:((k:Int)==22)=Ï:=by rw[beq_eq_false_iff_ne];omega
 have D:=al2 (t:=t) ok G.out.1 T pz hd hF I (H.out.2.2.1.N ok H.out.1 G.out.2) J hx hy L (by show 0<=c.g-l;omega) (by show c.g-l<=100000;omega) (by show(f.length:Int)+(c.g-l)<=1000000;omega) k W Y u_ l o q H.out.2.2.2.1 Ca M;have HD:=fg D;clear D hF I J L hlen M;go_wp2_with (go_at_call 87;refine(qt _ _).mono ?_;rintro e m ⟨rfl,hw⟩;subst m;rw[H.out.2.2.2.2]);go_at_call 189;apply HD.out.mono;rintro e w2 ⟨rfl,H0,Lg,h2,t2⟩;go_wp2_with fail;exact hK _ _ (gu _) ⟨_,_,h2,G.out.2.fh t2⟩
end
def lL(k:Nat):Int×Int×Int:=(ja[k]?).getD (0,0,0)
def zG(P:ByteArray)(a:Int):Int:=((P.data.getD a.toNat 0).toNat:Int)
def jT(P:ByteArray)(a:Int):Nat:=lB<|zG P a
def mM(F:lZ)(c:RC)(P:ByteArray):Nat->Int->RT->Int×Bool×RT
 |0,_,t=>(0,Ï,t)
 |f+1,pl,t=>
  if pl=P.size then(0,Ú,t)
  else if(P.size:Int)<pl then(0,Ï,{t with g:=0})
  else if kR t.g t.r.length (lL<|jT P pl).1 (lL<|jT P pl).2.1 (lL<|jT P pl).2.2=Ï then(0,Ï,{t with g:=0})
  else if jT P pl=1 then mM F c P f (pl+1) {t with r:=t.r++[zG P pl-48],g:=t.g-(lL<|jT P pl).1}
  else if jT P pl=17 then
   if gh (fW t.r)=0 then mM F c P f (pl+1) {t with r:=fW<|fW t.r,g:=t.g-(lL<|jT P pl).1}else mM F c P f (gh t.r) {t with r:=fW<|fW t.r,g:=t.g-(lL<|jT P pl).1}
  else if jT P pl=21 then(gh t.r,Ú,{t with r:=fW t.r,g:=t.g-(lL<|jT P pl).1})
  else if jT P pl=22 then(0,Ï,{t with g:=t.g-(lL<|jT P pl).1})
  else mM F c P f (pl+1) (mL F c (jT P pl) {t with g:=t.g-(lL<|jT P pl).1})
structure oc(t:RT):Prop where
 r:∀p∈t.r,gk p
 M:t.r.length<=32
 s:gK t.s
 g0:0<=t.g
 C:t.g<=100000
 I:(t.C.length:Int)+t.g<=1000000
def amc{p:Prop}[Decidable p](c:i<=m)(d:b<=m):(if p then i else b)<=m:=by split;exact c;exact d
def A_(c:Int):lB c<=22:=by unfold lB;repeat' (first|refine amc A ?_|decide)
def uP:gk 0:=⟨A,A⟩
def amd:gk 1:=⟨A,A⟩
theorem A'(h:k<=22):ja[k]?=Ã (lL k):=by
 unfold lL;have:k<ja.length:=by show k<23;omega
 grind
def zH(n:Int):gk (wu n):=⟨j_ n,k_ n⟩
def B_(b:Bool):gk (xN b):=by cases b<;>exact⟨A,A⟩
def ame{q:Int}(a:gk c)(d:gk q):gk (xO h c q):=by
 unfold xO;repeat' split
 all_goals first|exact zH _|exact B_ _|exact⟨A,A⟩|skip
 rename_i e;have b:=a.1;exact⟨Int.ediv_nonneg b d.1,Int.lt_of_le_of_lt (Int.ediv_le_self _ b) a.2⟩
def gK.fS{s:St}(h:gK s){a:HP}(b:gk a.fx)(d:∀j,gk<|a.C j)(e:a.r.size<=40/\∀c∈a.r.data.toList,xP c=Ú):gK (s.fS i a):=by
 refine⟨λj=> ?_,λj k=> ?_,λj=> ?_⟩<;>unfold St.fS<;>split
 .exact b
 .exact h.fx j
 .exact d k
 .exact h.C j k
 .exact e
 .exact h.I j
def gK.r{s:St}(h:gK s)(i:Nat){b:Int}(a:gk b):gK (s.fx i b):=h.fS a (h.C i)<|h.I i
def gK.SL{s:St}(h:gK s)(i j:Nat)(a:gk c):gK (s.r i j c):=by
 refine h.fS (h.fx i) (λk=> ?_)<|h.I i;show gk (if k=j then c else(s i).C k);split
 .exact a
 .exact h.C i k
def amf{s:St}(h:gK s)(y:Nat){p:Int}(a:gk p):gk (rf s y c p).1/\gK (rf s y c p).2:=by
 unfold rf;split
 .exact⟨uP,h⟩
 .rename_i d;have b:=h.fx y;have e:=a.1;refine⟨amd,gK.r (gK.r h y ⟨Z,by have:=b.2;omega⟩) _<|zH _⟩
def B'(h:n<8):gk (n:Int):=⟨Z,Z⟩
section
variable{F:lZ}{c:RC}{t:RT}
def tA{m:List Int}(h:∀p∈zQ,gk p)(k:∀p∈m,gk p):∀p∈zQ++m,gk p:=λp a=>(ú.1 a).elim (h p)<|k p
def xT{a:Int}(h:gk a):∀p∈[a],gk p:=λp b=>by simp at b;subst b;exact h
def SY{a b:Int}(h:gk a)(k:gk b):∀p∈[a,b],gk p:=λp c=>by simp at c;rcases c with rfl|rfl;exact h;exact k
def amg(b:qo F)(a:oc t)(d:c.y<8){p k:Int}(f:gk h)(i:gk p)(j:gk k): gk (iX F c t h p k).1/\gk (iX F c t h p k).2.1/\gK (iX F c t h p k).2.2.s/\0<=(iX F c t h p k).2.2.g/\(iX F c t h p k).2.2.g<=t.g/\((iX F c t h p k).2.2.C.length:Int)+(iX F c t h p k).2.2.g<=(t.C.length:Int)+t.g:=by
 unfold iX;split
 .exact⟨uP,uP,a.s,a.g0,Ö _,Ö _⟩
 .have l:0<=min p t.g:=by have:=i.1;have:=a.g0;omega
  have m:=a.C;have n:=a.I;have o:=f.1;have e:=b t.s t.C c.y (h%8).toNat (min p t.g) k a.s d Z j l Z Z;have r:=e.C;have u:=e.r;have v:=e.I;refine⟨e.M,B_ _,e.N,?_,?_,?_⟩;all_goals simp only
  all_goals have:=a.g0
  all_goals omega
theorem C_(v:qo F)(w:c.x<8)(r:c.y<8)(z:gk c.k)(P:2<=k)(Q:k<=20)(S:k≠17){o u:Int}(d:ja[k]?=Ã (h,o,u)){g:Int}(T:t.g=g-h)(a:oc t)(V:(t.C.length:Int)+g<=1000000)(W:o<=t.r.length)(X:(t.r.length:Int)-o+u<=32): oc (mL F c k t)/\(mL F c k t).g<=t.g/\((mL F c k t).C.length:Int)+(mL F c k t).g<=t.C.length+g:=by
 have i:=tx a.r;have j:=tx<|pH a.r;have B:=tx<|pH<|pH a.r;have m:=pH a.r;have n:=pH m;have C:=pH n;have f:=qp t.r;have q:=qp<|fW t.r;have Y:=qp<|fW<|fW t.r;have g1:=a.C;obtain⟨D,E,G,H,I,J⟩:=LB k _ d;simp only at D E G H I J;have len:=a.M;have b:∀{l:List Int},(∀p∈l,gk p)->l.length<=32->oc {t with r:=l}:=λp K=>⟨p,K,a.s,a.g0,a.C,a.I⟩;have cases:(k=2\/k=3\/k=4\/k=5\/k=6\/k=7)\/k=8\/k=9\/k=10\/k=11\/k=12\/k=13\/k=14\/k=15\/k=16\/k=18\/k=19\/k=20:=Z
 rcases cases with hq|rfl|rfl|rfl|rfl|rfl|rfl|rfl|rfl|rfl|rfl|rfl|rfl
 .have e:mL F c k t={t with r:=fW (fW t.r)++[xO k (gh<|fW t.r)<|gh t.r]}:=by
   rcases hq with rfl|rfl|rfl|rfl|rfl|rfl<;>rfl
  rw[e];exact⟨b (tA n<|xT<|ame j i) (by simp[f,q];omega),Ö _,by simp only;omega⟩
 .exact⟨b (tA m<|SY i i) (by simp[f];simp[ja]at d;omega),Ö _,by show(t.C.length:Int)+t.g<=_;omega⟩
 .exact⟨b (tA n<|SY i j) (by simp[f,q];omega),Ö _,by show(t.C.length:Int)+t.g<=_;omega⟩
 .exact⟨b m (by rw[f];omega),Ö _,by show(t.C.length:Int)+t.g<=_;omega⟩
 .exact⟨b (tA a.r<|xT z) (by simp;simp[ja]at d;omega),Ö _,by show(t.C.length:Int)+t.g<=_;omega⟩
 .exact⟨b (tA a.r<|xT<|B' w) (by simp;simp[ja]at d;omega),Ö _,by show(t.C.length:Int)+t.g<=_;omega⟩
 .exact⟨b (tA a.r<|xT<|B' r) (by simp;simp[ja]at d;omega),Ö _,by show(t.C.length:Int)+t.g<=_;omega⟩
 .exact⟨b (tA a.r<|xT<|a.s.fx _) (by simp;simp[ja]at d;omega),Ö _,by show(t.C.length:Int)+t.g<=_;omega⟩
 .exact⟨b (tA m<|xT<|a.s.C _ _) (by simp[f];omega),Ö _,by show(t.C.length:Int)+t.g<=_;omega⟩
 .exact⟨⟨n,by show(fW<|fW t.r).length<=32;omega,a.s.SL _ _ j,a.g0,a.C,a.I⟩,Ö _,by show(t.C.length:Int)+t.g<=_;omega⟩
 .obtain⟨e,L⟩:=amf a.s c.y j;exact⟨⟨tA n<|xT e,by show(fW (fW t.r)++[_]).length<=32;simp[f,q];omega,L,a.g0,a.C,a.I⟩,Ö _,by show(t.C.length:Int)+t.g<=_;omega⟩
 .have e:h=4:=by simp[ja]at d;omega
  refine⟨⟨m,by show(fW t.r).length<=32;omega,a.s,a.g0,a.C,?_⟩,Ö _,?_⟩
  .show((t.C++[_]).length:Int)+t.g<=_;simp;omega
  .show((t.C++[_]).length:Int)+t.g<=_;simp;omega
 .obtain⟨e,L,M,N,O,w6⟩:=amg v a r i j B;refine⟨⟨tA C<|SY e L,?_,M,N,?_,?_⟩,O,?_⟩
  .show(fW (fW<|fW t.r)++[_,_]).length<=32;grind
  .show(iX F c t _ _ _).2.2.g<=_;omega
  .show((iX F c t _ _ _).2.2.C.length:Int)+(iX F c t _ _ _).2.2.g<=_;omega
  .show((iX F c t _ _ _).2.2.C.length:Int)+(iX F c t _ _ _).2.2.g<=_;omega
end
def Cc(a:Nat)(w:É):Nat:=match w.cell? ⟨a,5,Ä⟩with
 |some (Â _ n)=>n.toNat
 |_=>0
def R.G{E:iW}{c:RC}{s:St}{a:List (Nat×Int)}(h:R E i c v x zQ s a w):Cc i w=c.g.toNat:=by unfold Cc;rw[h.r.r 5 _ U]
def SI(E:iW)(d:Nat)(c:RC)(P:ByteArray)(F:lZ)(f h:È)(i:Nat)(j:É)(k:Int×Bool×RT)(a:é)(w:É):Prop:=
 ∃(b:Int) (t:RT) (e:Nat),Cb d P b a/\gk b/\kS E d f h i j (oW c t.g) t.r t.s t.C w/\oc t/\iM w/\t.g.toNat<e/\mM F c P e b t=k
def SX(E:iW)(d:Nat)(c:RC)(P:ByteArray)(e f:È)(h:Nat)(i:É)(b:Int×Bool×RT)(a:é)(w:É):Prop:=
 EB d P b.1 b.2.1 a/\kS E d e f h i (oW c b.2.2.g) b.2.2.r b.2.2.s b.2.2.C w
def SZ(a:n<B.size):zG B (n:Int)=((B[n]'a).toNat:Int):=by unfold zG;rw[ŵ];have b:n<B.data.size:=a;simp only[Array.getD,b,dif_pos];rfl
theorem S0{s:St}(b:gK s)(y:Nat)(a:n<(s y).r.size):1<=jT (s y).r (n:Int):=by
 unfold jT;rw[SZ a];have c:((s y).r[n]'a)∈(s y).r.data.toList:=by have:(s y).r[n]'a=(s y).r.data[n]'a:=U;grind [Array.getElem_mem]
 have:=(b.I y).2 _ c;unfold xP at this;have:=of_decide_eq_true this;omega
def C'{b a d:Int}(h:kR c n b a d=Ú):b<=c/\a<=n/\(n:Int)-a+d<=32:=by unfold kR at h;simp at h;omega
def amh{p:Prop}[Decidable p](c:i≠m)(d:b≠m):(if p then i else b)≠m:=by split;exact c;exact d
def D_(h:lB c=1):48<=c/\c<=57:=by
 by_cases a:48<=c/\c<=57
 .exact a
 .exfalso;revert h;unfold lB;rw[if_neg a];repeat' (first|refine amh A ?_|decide)
def ami(a:1<=k)(b:k<=22):1<=(lL k).1:=by
 have h:∀k:Fin 23,1<=k.val->1<=(lL k.val).1:=A
 exact h ⟨k,Z⟩ a
section
variable{E:iW}{c:RC}{F:lZ}{l:Int×Bool×RT}
def amj(ok:E.Ok)(hP:B.size<=40)(amk:∀n,n<B.size->1<=jT B (n:Int))(pz:0<=c.d)(hd:c.d<=4)(hF:c.d<4->tw F (c.d+1))(hI:qo F)(hx:c.x<8)(hy:c.y<8)(LD:gk c.k)(a:é)(w:É)(h:SI E j c B F z v i W l a w): Î À uO (Exit.then (λa' w'=>SI E j c B F z v i W l a' w'/\Cc j w'<Cc j w)<|QQ<|SX E j c B z v i W l) a w:=by
 let⟨pl,t,fuel,hfr,rF,⟨sv,lv,hR,hT⟩,ht,hr,hfu,hres⟩:=h;have g0:=ht.g0;have g1:=ht.C;have hl:=ht.M;have aml:=hR.G;obtain⟨f,rfl⟩:∃f,fuel=f+1:=⟨fuel-1,Z⟩;unfold mM at hres;obtain⟨u,rfl⟩:=hfr;by_cases h1:pl=B.size
 .rw[if_pos h1]at hres;subst hres;apply al3 ok u hR hP h1;rintro a' w' q1 ⟨ki,jz,r1,r2⟩;exact⟨q1,ki,jz,r1,hT.fh r2⟩
 rw[if_neg h1]at hres;by_cases h2:(B.size:Int)<pl
 .rw[if_pos h2]at hres;subst hres;apply al4 ok u hR hP h2;rintro a' w' q1 ⟨ki,jz,r1,r2⟩;exact⟨q1,ki,jz,r1,hT.fh r2⟩
 rw[if_neg h2]at hres;have t_:=rF.1;obtain⟨n,rfl⟩:∃n:Nat,pl=n:=⟨pl.toNat,Z⟩;have hn:n<B.size:=Z
 have k1:=amk n hn;have se:lB ((B[n]'hn).toNat:Int)=jT B (n:Int):=by unfold jT;rw[SZ hn]
 have k2:jT B (n:Int)<=22:=A_ _;have hk:=A' k2;have y_:=ami k1 k2;let⟨b1,b2,b3,b4,b5,b6⟩:=LB _ _ hk;have amm:=SZ hn;generalize jT B (n:Int)=k at*;generalize hro:lL k=ro at*;let⟨co,ta,pu⟩:=ro;simp only at hres hk y_ b1 b2 b3 b4 b5 b6;by_cases h3:kR t.g t.r.length co ta pu=Ï
 .rw[if_pos h3]at hres;subst hres;apply al5 ok u hR hP n U hn hr co ta pu Z g0 g1 k se hk h3;rintro a' w' q1 ⟨ki,jz,r1,r2⟩;exact⟨q1,ki,jz,r1,hT.fh r2⟩
 rw[if_neg h3]at hres;have oS:kR t.g t.r.length co ta pu=Ú:=by cases e:kR t.g t.r.length co ta pu with
  |true=>rfl
  |false=>exact absurd e h3
 let⟨SV,Ca,S2⟩:=C' oS;have S3:=ht.I;have vN:gk ((n:Int)+1):=⟨Z,Z⟩;have LF:∀{a':é} {w':É} {H2:Int} {t':RT} {ki jz:È},Cb j B H2 a'->gk H2->R E j (oW c t'.g) ki jz t'.r t'.s t'.C w'->Tr E j sv lv t.C.length w ki jz t'.C.length w'->oc t'->t'.g<=t.g-co->mM F c B f H2 t'=l->SI E j c B F z v i W l a' w'/\Cc j w'<Cc j w:=by intro a' w' H2 t' ki jz q1 q2 q3 q4 q5 q6 q7;refine⟨⟨H2,t',f,q1,q2,⟨ki,jz,q3,hT.fh q4⟩,q5,hr.N ok hR q4,Z,q7⟩,?_⟩;rw[q3.G,aml];show t'.g.toNat<t.g.toNat;omega
 by_cases h4:k=1
 .rw[if_pos h4]at hres;subst h4;have D':=D_ se;apply al8 ok u hR hP n U hn hr co ta pu Z g0 g1 D'.1 D'.2 se hk oS;rintro a' w' q1 ⟨ki,jz,r1,r2⟩;rw[amm]at hres;refine LF (t':={t with r:=t.r++[((B[n]'hn).toNat:Int)-48],g:=t.g-co}) q1 vN r1 r2 ⟨tA ht.r<|xT ⟨Z,Z⟩,?_,ht.s,by show 0<=t.g-co;omega,by show t.g-co<=100000;omega,by show(t.C.length:Int)+(t.g-co)<=1000000;omega⟩ (Ö _) hres;simp[ja]at hk;simp;omega
 rw[if_neg h4]at hres;by_cases h5:k=17
 .rw[if_pos h5]at hres;subst h5;have amn:ta=2:=by simp[ja]at hk;omega
  have e2:t.r=(fW (fW t.r)++[gh<|fW t.r])++[gh t.r]:=by rw[xS (by rw[qp];omega),xS Z]
  have tok:oc {t with r:=fW<|fW t.r,g:=t.g-co}:=⟨pH<|pH ht.r,by show(fW<|fW t.r).length<=32;rw[qp,qp];omega,ht.s,by show 0<=t.g-co;omega,by show t.g-co<=100000;omega,by show(t.C.length:Int)+(t.g-co)<=1000000;omega⟩;by_cases h6:gh (fW t.r)=0
  .rw[if_pos h6]at hres;apply ama ok u hR hP n U hn hr co ta pu Z g0 g1 _ _ _ e2 h6 se hk oS;rintro a' w' q1 ⟨ki,jz,r1,r2⟩;exact LF (t':={t with r:=fW<|fW t.r,g:=t.g-co}) q1 vN r1 r2 tok (Ö _) hres
  .rw[if_neg h6]at hres;apply al9 ok u hR hP n U hn hr co ta pu Z g0 g1 _ _ _ e2 h6 se hk oS;rintro a' w' q1 ⟨ki,jz,r1,r2⟩;exact LF (t':={t with r:=fW<|fW t.r,g:=t.g-co}) q1 (tx ht.r) r1 r2 tok (Ö _) hres
 rw[if_neg h5]at hres;by_cases h6:k=21
 .rw[if_pos h6]at hres;subst h6 hres;have amn:ta=1:=by simp[ja]at hk;omega
  apply al7 ok u hR hP n U hn hr co ta pu Z g0 g1 _ _ (xS Z).symm se hk oS;rintro a' w' q1 ⟨ki,jz,r1,r2⟩;exact⟨q1,ki,jz,r1,hT.fh r2⟩
 rw[if_neg h6]at hres;by_cases h7:k=22
 .rw[if_pos h7]at hres;subst h7 hres;apply al6 ok u hR hP n U hn hr co ta pu Z g0 g1 se hk oS;rintro a' w' q1 ⟨ki,jz,r1,r2⟩;exact⟨q1,ki,jz,r1,hT.fh r2⟩
 rw[if_neg h7]at hres;let⟨d1,d2,d3⟩:=C_ (t:={t with g:=t.g-co}) hI hx hy LD Z Z h5 hk U ⟨ht.r,ht.M,ht.s,by show 0<=t.g-co;omega,by show t.g-co<=100000;omega,by show(t.C.length:Int)+(t.g-co)<=1000000;omega⟩ S3 Ca S2;apply amb ok u hR hP n U hn hr co ta pu Z g0 g1 k Z Z h5 Ca pz hd hF hI ht.s hx hy ht.r S3 (mL F c k {t with g:=t.g-co}) U b1 SV se hk oS;rintro a' w' q1 ⟨ki,jz,r1,r2⟩;exact LF q1 vN r1 r2 d1 d2 hres
end
section
variable{E:iW}{c:RC}{F:lZ}{lv:È}{s:St}{ls:List (Nat×Int)}
def nI(F:lZ)(c:RC)(s:St)(ls:List (Nat×Int)):Int×Bool×RT:=mM F c (s c.y).r (c.g.toNat+1) 0 ⟨[],s,ls,c.g⟩
def amo(ok:E.Ok)(h:R E i c v lv [] s ls w)(j:0<=c.d)(l:c.d<=4)(hF:c.d<4->tw F (c.d+1))(o:qo F)(p:iM w)(b:gK s)(q:c.x<8)(f:c.y<8)(r:gk c.k)(t:0<=c.g)(z:c.g<=100000)(B:(ls.length:Int)+c.g<=1000000): Ò À 175 #[Å<|Ã ⟨i,0,Ä⟩] w λe a=>e=Ç (æ #[Â Æ (nI F c s ls).1,Ñ (nI F c s ls).2.1])/\kS E i v lv ls.length w (oW c (nI F c s ls).2.2.g) (nI F c s ls).2.2.r (nI F c s ls).2.2.s (nI F c s ls).2.2.C a:=by
 have D:=h.r.r 0 _ U;have G:=h.r.r 2 _ U;have I:=h.C.Ly f;have J:=h.r.M;have K:=fj.M h.C;have e:=(b.I c.y).1;have L:∀m,∀a,Cb i (s c.y).r 0 a->Î À (à uO) (QQ<|SX E i c (s c.y).r v lv ls.length w<|nI F c s ls) a (w.drewN m):=λm a C=>by refine Ĉ (SI E i c (s c.y).r F v lv ls.length w<|nI F c s ls) (λ_ w=>Cc i w) ?_ (amj ok e (λn u=>S0 b c.y u) j l hF o q f r);have k:=fe.iR fi w m;exact⟨0,⟨[],s,ls,c.g⟩,c.g.toNat+1,C,uP,⟨v,lv,h.fO k,Tr.fO k⟩,⟨fq,fq,b,t,z,B⟩,p.r k id,fq,U⟩
 have H:=fg L;generalize nI F c s ls=res at*;generalize M:(s c.y).r=P at*;go_enter Tryz.func175,Tryz.ntmps175;go_wp2_with fail;go_step3;go_wp2_with fail;go_quiet (fail);go_wp2_with fail;go_step3;go_wp2_with fail;refine Ý ?_ (H.out _ _ (gu _));rintro(_|(_|_)|_|_|_|_) a v hq;all_goals first|exact absurd hq id|skip
 let⟨n,N⟩:=hq;obtain⟨u,rfl⟩:=n;unfold w_;go_wp2_with fail;(try rw[Exit.noGoto_ret]);go_ret2;simp_all
end
def S4(a:o.op=bj T)(b:P.info? T=Ã zJ)(c:zJ.zero=Ã z): (Ĥ xX o).run P w=φ (.value<|Å<|Ã ⟨w.heap.size,0,Ä⟩) (w.alloc<|Ð z.cells T):=by unfold Ĥ;simp[a,Instr.alloc,zeroValue,typeInfo,b,c,newVar,newRow]
def LG:∀(e a d:List È) (w:É) (c:List È),c.length=e.length->fj b (a++c++d) T w->fj b (a++e++d) T (w.setCells b a.length e)
 |[],a,d,w,c,hl,h=>by have:c=[]:=ß (by simpa using hl);subst this;exact h
 |v::r,a,d,w,c,hl,h=>by
  match c,hl,h with
  |x::c,hl,h=>
   have f:=h.fS a.length v;rw[show(a++x::c++d).set a.length v=(a++[v])++c++d by simp]at f;have:=LG r (a++[v]) d _ c (by simpa using hl) f;rw[show(a++[v]).length=a.length+1 by simp]at this;rw[show a++v::r++d=a++[v]++r++d by simp];exact this
def NF.qD(h:NF b w)(p:ă)(v:È):NF b (w.setCell p v):=λc T d q=>by
 by_cases e:b=p.block
 .subst e;unfold ą at q;simp only[Û,if_true]at q;cases a:w.heap[p.block]? with
  |none=>rw[a]at q;cases q
  |some f=>
   rw[a]at q;cases f with
   |cells g t z=>
    simp only[ñ,è,ģ]at q;rw[<-q.2.1];exact h _ _ _ a
   |_=>cases q
 .rw[Ė _ _ _ _ (by simpa using e)]at q;exact h c T d q
def H3:∀(vs:List È) (o:Nat) (w:É),NF b w->fe (λk=>k=b) w (w.setCells b o vs)
 |[],_,w,_=>fe.fX _ w
 |v::r,o,w,h=>(fe.I (X:=λk=>k=b) (p:=⟨b,o,Ä⟩) U v<|Ù h).fh<|H3 r (o+1) _<|h.qD _ _
def fj.S5{vs:List È}(h:fj j vs T w)(a:n<=vs.length):w.there j 0 n:=λi b=>by refine⟨?_,h.C _⟩;rw[h.r (0+i) (vs[0+i]'Z)<|Ô Z];rfl
def fj.Y{vs tl:List È}(h:fj j (vs++tl) T w):w.rangeAt j 0 vs:=λi v a=>by apply h.r (0+i) v;rwa[ł,ç (Ü.1 a).1]
def E_{P:Program}{ops:Array Oper}{rest:List Oper}{o1 o2:Oper}{a:Act}{w:World}{Q:Exit->Act->World->Prop}(g1:o1.guard=none)(g2:o2.guard=none)(T:TypeId)(h1:o1.op=.alloc T)(d:Tmp)(hd:o1.dst=some d)(x y:Operand)(h2:o2.op=.store T x y)(oU:o2.dst=none) {i:TypeInfo} {z:Value} (hi:P.info? T=some i) (hz:i.zero=some z) (cs:List Value) (kg:i.size=cs.length) (rU:z.cells.size=cs.length) (hx:(a.put (some d)<|.pointer<|some ⟨w.heap.size,0,none⟩).eval x=.pointer (some ⟨w.heap.size,0,none⟩)) (hy:(a.put (some d)<|.pointer<|some ⟨w.heap.size,0,none⟩).eval y=.agg cs.toArray) (LH:∀v∈cs,v.oneCell'=true) (h:∀w',fj w.heap.size cs T w'->fe fi w w'->w'.heap.size=w.heap.size+1->wpList P ops Q rest (a.put (some d)<|.pointer<|some ⟨w.heap.size,0,none⟩) w') (hT:mq T=false:=by decide):wpList P ops Q (o1::o2::rest) a w:=by
 apply Ć g1 (Ã d) hd _ _ (S4 h1 hi hz);have hB:fj w.heap.size z.cells.toList T (w.alloc<|Ð z.cells T):=by have:=fj.N w z.cells.toList T;simpa using this
 refine ľ g2 T x y h2 w.heap.size 0 cs.toArray hx hy (hB.S5<|by simp[rU]) (by rw[hi];simp[kg]) (Ī LH) ?_;rw[oU];have hB2:=LG cs [] [] (w.alloc<|Ð z.cells T) z.cells.toList (by simpa using rU) (by simpa using hB);refine h _ (by simpa using hB2) ?_ ?_
 .refine(fe.gJ fi w _ _<|Ø hT).C (H3 _ _ _<|hB.G hT) λk hk e=> ?_;omega
 .have:∀(vs:List È) (o:Nat) (w:É) (b:Nat),(w.setCells b o vs).heap.size=w.heap.size:=by
   intro vs
   induction vs with
   |nil=>intro o w b;rfl
   |cons v r ih=>intro o w b;rw[World.setCells,ih];simp
  simp[this]
section
variable{c:RC}{F:lZ}
structure zI(t:RT)(r:Int×Bool×RT):Prop where
 M:gk r.1
 s:gK r.2.2.s
 g0:0<=r.2.2.g
 C:r.2.2.g<=t.g
 I:(r.2.2.C.length:Int)+r.2.2.g<=t.C.length+t.g
def zI.r{t a:RT}{r:Int×Bool×RT}(h:zI a r)(b:a.g<=t.g)(c:(a.C.length:Int)+a.g<=t.C.length+t.g):zI t r:= ⟨h.M,h.s,h.g0,Ŷ h.C b,Ŷ h.I c⟩
def EC{J:St->List (Nat×Int)->Prop}(u:B.size<=40)(d:∀n,n<B.size->1<=jT B (n:Int))(h:qo F)(i:c.x<8)(j:c.y<8)(m:gk c.k)(o:∀(k:Nat) (t:RT),k<=20->oc t->J t.s t.C->J (mL F c k t).s (mL F c k t).C):∀(p:Nat) (b:Int) (t:RT),gk b->oc t->J t.s t.C->zI t (mM F c B p b t)/\J (mM F c B p b t).2.2.s (mM F c B p b t).2.2.C
 |0,_,t,_,ht,hj=>⟨⟨uP,ht.s,ht.g0,Ö _,Ö _⟩,hj⟩
 |f+1,b,t,rF,ht,hj=>by
  have S:=ht.g0;have g1:=ht.C;have T:=ht.M;have V:=ht.I;have L:zI t (0,Ï,{t with g:=0})/\J t.s t.C:=⟨⟨uP,ht.s,Ö _,S,by show(t.C.length:Int)+0<=_;omega⟩,hj⟩;unfold mM;by_cases M:b=B.size
  .rw[if_pos M];exact⟨⟨uP,ht.s,ht.g0,Ö _,Ö _⟩,hj⟩
  rw[if_neg M];by_cases N:(B.size:Int)<b
  .rwa[if_pos N]
  rw[if_neg N];have t_:=rF.1;obtain⟨n,rfl⟩:∃n:Nat,b=n:=⟨b.toNat,Z⟩;have W:n<B.size:=Z
  have k1:=d n W;have X:jT B (n:Int)<=22:=A_ _;have v:=A' X;let⟨Y,b2,b3,b4,b5,b6⟩:=LB _ _ v;have amq:jT B (n:Int)=1->48<=zG B (n:Int)/\zG B (n:Int)<=57:=D_;generalize jT B (n:Int)=k at*;generalize hro:lL k=ro at*;let⟨a,w,z⟩:=ro;simp only at v Y b2 b3 b4 b5 b6|-;by_cases C:kR t.g t.r.length a w z=Ï
  .rwa[if_pos C]
  rw[if_neg C];have oS:kR t.g t.r.length a w z=Ú:=by cases e:kR t.g t.r.length a w z with
   |true=>rfl
   |false=>exact absurd e C
  let⟨SV,Ca,S2⟩:=C' oS;have D:gk ((n:Int)+1):=⟨Z,Z⟩;have E:∀{l:List Int},(∀p∈l,gk p)->l.length<=32->oc {t with r:=l,g:=t.g-a}:=λG H=>⟨G,H,ht.s,by show 0<=t.g-a;omega,by show t.g-a<=100000;omega,by show(t.C.length:Int)+(t.g-a)<=1000000;omega⟩;have I:∀{l:List Int} {r:Int×Bool×RT},zI {t with r:=l,g:=t.g-a} r/\J r.2.2.s r.2.2.C->zI t r/\J r.2.2.s r.2.2.C:=λq=>⟨q.1.r (by show t.g-a<=t.g;omega) (by show(t.C.length:Int)+(t.g-a)<=_;omega),q.2⟩;by_cases p:k=1
  .rw[if_pos p];have:=amq p;subst p;refine I<|EC u d h i j m o f _ _ D (E (tA ht.r<|xT ⟨Z,Z⟩) ?_) hj;simp[ja]at v;simp;omega
  rw[if_neg p];by_cases K:k=17
  .rw[if_pos K];have O:=E (pH<|pH ht.r) (by rw[qp,qp];omega);split
   .exact I<|EC u d h i j m o f _ _ D O hj
   .exact I<|EC u d h i j m o f _ _ (tx ht.r) O hj
  rw[if_neg K];by_cases O:k=21
  .rw[if_pos O];exact⟨⟨tx ht.r,ht.s,by show 0<=t.g-a;omega,by show t.g-a<=t.g;omega,by show(t.C.length:Int)+(t.g-a)<=_;omega⟩,hj⟩
  rw[if_neg O];by_cases P:k=22
  .rw[if_pos P];exact⟨⟨uP,ht.s,by show 0<=t.g-a;omega,by show t.g-a<=t.g;omega,by show(t.C.length:Int)+(t.g-a)<=_;omega⟩,hj⟩
  rw[if_neg P];have Q:=E ht.r T;let⟨d1,d2,d3⟩:=C_ (t:={t with g:=t.g-a}) h i j m Z Z K v U Q V Ca S2;let⟨G,H⟩:=EC u d h i j m o f _ _ D d1<|o k _ Z Q hj;exact⟨G.r (Ŷ d2<|by show t.g-a<=t.g;omega) d3,H⟩
def F_{s:St}{a:List (Nat×Int)}(d:qo F)(b:gK s)(e:c.x<8)(f:c.y<8)(h:gk c.k)(i:0<=c.g)(j:c.g<=100000)(l:(a.length:Int)+c.g<=1000000):zI ⟨[],s,a,c.g⟩ (nI F c s a):= (EC (J:=λ_ _=>True) (b.I c.y).1 (λn m=>S0 b c.y m) d e f h (λ_ _ _ _ _=>trivial) _ _ _ uP ⟨fq,fq,b,i,j,l⟩ trivial).1
end
def amr:(À.underlying 136).map İ=Ã Ú:=fv
def F':(À.info? 136).map (λi=>(i.size,i.zero.map (·.cells.size)))=Ã (145,Ã 145):=fv
def G_(h:(P.info? e).map (λi=>(i.size,i.zero.map (·.cells.size)))=Ã (n,Ã m)):∃i z,P.info? e=Ã i/\i.size=n/\i.zero=Ã z/\z.cells.size=m:=by let⟨i,a,h⟩:=Ì.1 h;simp only[Prod.mk.injEq,Ì]at h;let⟨b,z,c,d⟩:=h;exact⟨i,z,a,b,c,d⟩
def S6(s:St){lv:È}(b:lv.oneCell'=Ú):∀v∈jj s lv,v.oneCell'=Ú:=λv c=>by
 obtain⟨i,a,rfl⟩:=List.getElem_of_mem c;rw[mK]at a;have:=HQ s lv a;rw[Ô (by rwa[mK])]at this;injection this with this;rw[this];unfold rZ qn;repeat' split
 all_goals first|exact b|rfl
def S7{t:Tmp}{d:TypeDesc}(h:s.results=#[.cell t T])(a:q.getD t ā=Å (Ã ⟨b,0,Ä⟩))(c:w.rangeAt b 0 l)(e:P.underlying T=Ã d)(f:d.isRow=Ú)(g:(P.info? T).map (·.size)=Ã l.length): (ak s q).run P w=φ (Ē l.toArray) w:=by rw[ī]at a;simp only[ak,h];simp[a,asAddr,Ν w b 0 T l d c e f g]
def S8:(À.underlying 245).map İ=Ã Ú:=fv
def S9:(À.info? 245).map (·.size)=Ã 3:=fv
def ams{e:Array ş}{f:List ş}{a:é}(i:o.guard=Ä)(d:õ)(x y:ŭ)(j:o.op=.store d x y) (b:Nat) (c:List È) (k:a.eval x=Å (Ã ⟨b,0,Ä⟩)) (l:a.eval y=Ē c.toArray) (m:w.there b 0 c.toArray.size) (n:(P.info? d).map (·.size)=Ã c.toArray.size) (p:c.toArray.all (·.oneCell')=Ú) (h:∀g,g=w.setCells b 0 c->aR P e vJ f (a.put o.dst ā) g):aR P e vJ (o::f) a w:= ľ i d x y j b 0 c.toArray k l m n p<|h _ U
def qu(F:lZ)(c:RC)(s:St)(ls:List (Nat×Int)):B9:=
 ⟨c.g-(nI F c s ls).2.2.g,(nI F c s ls).2.1,(nI F c s ls).1,if(nI F c s ls).2.1 then(nI F c s ls).2.2.s else s,if(nI F c s ls).2.1 then(nI F c s ls).2.2.C else ls⟩
section
variable{E:iW}{c:RC}{lv:È}{s:St}{ls:List (Nat×Int)}{F:lZ}
def amt(k:fe fi w u)(t:Tr E i (Ê Ä 0 0) lv n u x v ls.length W)(m:w.heap.size<=i)(r:R E i c x v zQ s ls W):iu E lv n w s ls W v:=by
 refine⟨r.C,r.M,?_,λj q=>(t.l j q).imp id λe=>ë k.M e,λb d f g h=>t.C b d f (ig g k λ_ _=>id) h⟩;refine(k.S λ_ _=>ę).C t.r ?_;rintro a o (e|e|e|e)
 .exact Ø e
 .omega
 .cases e
 .exact Ù e
def iu.N{Y:Nat->Prop}(r:iu E lv n w s ls W v)(k:fe Y W jX)(h:∀i,Y i->w.heap.size<=i)(m:∀i d,Y i->W.heap[i]?≠Ã (Ð d 250 (0,0)))(o:¬Y E.r):iu E lv n w s ls jX v:=by
 have e:∀{a b c},W.ownsRow 0 250 2 a b c->jX.ownsRow 0 250 2 a b c:=λ{a b c} q=>ig q k λj p y=>by let⟨d,t⟩:=lY q p;exact m j d y t
 exact⟨r.r.I k o,e r.I,r.C.C k λi u y=>absurd (h i y) Z,r.l,λa b c f g=>⟨e (r.M a b c f g).1,(r.M a b c f g).2⟩⟩
def iu.qN{a:St}{c:List (Nat×Int)}(ok:E.Ok)(l:w.ownsRow 0 250 2 lv c.length (kr c))(r:iu E lv c.length w s ls W v):iu E lv c.length w a c (W.setCells E.r 0<|jj a lv) lv:=by have g:=H3 (b:=E.r) (jj a lv) 0 W<|fj.G r.r ok.C;have k:∀{d e f},W.ownsRow 0 250 2 d e f->(W.setCells E.r 0<|jj a lv).ownsRow 0 250 2 d e f:=λ{d e f} q=>ig q g λj m y=>jA q r.r ok.r.symm (by rw[m,y]);have n:=LG (T:=E.T) (b:=E.r) (jj a lv) [] E.C W (jj s v) (by rw[mK,mK]) (by have h:=r.r;unfold iE at h;simpa using h);refine⟨by unfold iE;simpa using n,k (r.M _ _ _ l λ_=>Þ _).1,r.C.C g λi _ q=>Ø q,λj q=>Ø q,λd e f o h=>⟨k (r.M d e f o h).1,h⟩⟩
def H_(ok:E.Ok)(pz:0<=c.d)(hd:c.d<=4)(hF:c.d<4->tw F (c.d+1))(hI:qo F)(B:iE E.r E.T E.C s lv w)(G:w.ownsRow 0 250 2 lv ls.length (kr ls))(hr:iM w)(hs:gK s)(hx:c.x<8)(hy:c.y<8)(LD:gk c.k)(xh:0<=c.g)(vT:c.g<=100000)(hlen:(ls.length:Int)+c.g<=1000000): Ò À 157 #[Å<|Ã ⟨E.r,0,Ä⟩,Â Ë c.x,Â Ë c.y,Â Æ c.g,Â Æ c.k,Â Ë c.d] w λe a=>
  e=Ç (Ē #[Â Æ (qu F c s ls).r,Ñ (qu F c s ls).C,Â Æ (qu F c s ls).I])/\∃v,iu E lv ls.length w (qu F c s ls).s (qu F c s ls).M a v:=by
 let⟨dd,I_,I'⟩:=Ì.1 amr;let⟨i0,z0,I,J,H4,rU⟩:=G_ F';have LH:=S6 s (lv:=lv) (by obtain⟨a,o,rfl⟩:=jL G;rfl);have gT:=fj.M B;have J_:(À.info? 136).map (·.size)=Ã (jj s lv).length:=by rw[I,mK];simp[J]
 have k0:=fe.gJ fi w #[Â Æ 0,Ñ Ï,Â Æ 0] 245;have Pz:(w.alloc<|Ð #[Â Æ 0,Ñ Ï,Â Æ 0] 245).rangeAt E.r 0 (jj s lv):=fj.Y<|B.I k0 id;have f:=fg<|Á I_<|Á I'<|Á J_<|Á Pz<|Á I<|Á H4<|Á (J.trans (mK s lv).symm)<|Á (rU.trans (mK s lv).symm) LH;have H:=fg<|Á B<|Á G<|Á hr<|Á hF<|Á hI hs;clear I_ I' I J H4 rU LH J_ Pz B G hr hF hI hs k0;obtain⟨a,b,t,K⟩:∃a b t,nI F c s ls=(a,b,t):=⟨_,_,_,U⟩;have iK:qu F c s ls=⟨c.g-t.g,b,a,if b then t.s else s,if b then t.C else ls⟩:=by unfold qu;rw[K]
 rw[iK];have C:=F_ H.out.2.2.2.2.1 H.out.2.2.2.2.2 hx hy LD xh vT hlen;rw[K]at C;have tg0:0<=t.g:=C.g0;have tg1:t.g<=c.g:=C.C;clear C;go_enter Tryz.func157,Tryz.ntmps157;go_wp2_with (first
  |(with_reducible refine ĥ U 136 _ U E.r 0 U (jj s lv) dd f.out.2.2.2.1 f.out.1 f.out.2.1 f.out.2.2.1 ?_)
  |(with_reducible refine E_ U U 136 U 13 U _ _ U U f.out.2.2.2.2.1 f.out.2.2.2.2.2.1 (jj s lv) f.out.2.2.2.2.2.2.1 f.out.2.2.2.2.2.2.2.1 U U f.out.2.2.2.2.2.2.2.2 ?_;intro m LJ L Er))
 have vM:m.heap.size=w.heap.size+1+1:=by simpa using Er
 have ml:fj (w.heap.size+1) (jj s lv) 136 m:=by simpa using LJ
 have r:fe fi w (m.alloc<|Ð #[Å<|Ã ⟨E.r,0,Ä⟩,Â Ë c.x,Â Ë c.y,Â Æ c.k,Â Ë c.d,Â Æ c.g,Ê Ä 0 0] 276):=((fe.gJ _ _ _ _).fh L).fh<|fe.gJ _ _ _ _;have k1:=fe.gJ fi m #[Å<|Ã ⟨E.r,0,Ä⟩,Â Ë c.x,Â Ë c.y,Â Æ c.k,Â Ë c.d,Â Æ c.g,Ê Ä 0 0] 276;have hR:R E (w.heap.size+1+1) c (Ê Ä 0 0) lv [] s ls (m.alloc<|Ð #[Å<|Ã ⟨E.r,0,Ä⟩,Â Ë c.x,Â Ë c.y,Â Æ c.k,Â Ë c.d,Â Æ c.g,Ê Ä 0 0] 276):= ⟨by rw[<-vM];exact fj.N m (sd E.r c<|Ê Ä 0 0) 276,ĉ _ _ _ _,H.out.1.I r id,ig H.out.2.1 r λ_ _=>id⟩;have AZ:fj w.heap.size [Â Æ 0,Ñ Ï,Â Æ 0] 245 m:=(fj.N w [Â Æ 0,Ñ Ï,Â Æ 0] 245).I L id;have S:=amo (F:=F) ok hR pz hd H.out.2.2.2.1 H.out.2.2.2.2.1 (H.out.2.2.1.r r id) H.out.2.2.2.2.2 hx hy LD xh vT hlen;rw[K]at S;go_at_call 175;apply S.mono;clear S;rintro e W ⟨rfl,SU,Ta,u,M⟩;have J':=amt r M Z u;have N:∀{j:Nat} {O:List È} {T:õ},fj j O T m->w.heap.size<=j->fj j O T W:=λ{j O T} hB hj=>by
  refine(hB.I k1 id).I M.r ?_;have:=hB.M;rintro(q|q|q|q)
  .omega
  .omega
  .cases q
  .have:=(H.out.2.1.lt j q).2;omega
 have n:=N AZ<|Þ _;have K_:=N ml Z;have e0:=n.r 0 _ U;have e1:=n.r 1 _ U;have e2:=n.r 2 _ U;have f0:=n.C 0;have f1:=n.C 1;have f2:=n.C 2;have g5:W.cell? ⟨w.heap.size+1+1,5,Ä⟩=Ã (Â Æ t.g):=u.r.r 5 _ U;have ajk:=u.r.M;have l:=fg<|Á J'<|Á u<|Á n K_;clear J' u M n K_ N hR AZ ml r k1 LJ L Er vM;cases b with
 |true=>
  go_wp2_with fail
  let⟨d2,P,Q⟩:=Ì.1 S8;have o:=((l.out.2.2.1.fS 0<|Â Æ<|c.g-t.g).fS 1<|Ñ Ú).fS 2<|Â Æ a;apply ð (S7 U U (fj.Y (tl:=[]) (vs:=[Â Æ<|c.g-t.g,Ñ Ú,Â Æ a]) o) P Q S9) U;refine⟨U,Ta,l.out.1.N (Y:=λk=>k=w.heap.size) (((fe.I (X:=λk=>k=w.heap.size) (p:=⟨w.heap.size,0,Ä⟩) U _).fh<|fe.I (X:=λk=>k=w.heap.size) (p:=⟨w.heap.size,1,Ä⟩) U _).fh<|fe.I (X:=λk=>k=w.heap.size) (p:=⟨w.heap.size,2,Ä⟩) U _) (λi q=>by omega) (λi cur q z=> ?_) Z⟩;have D:W.heap[w.heap.size]?=_:=l.out.2.2.1;rw[q,D]at z;cases z
 |false=>
  have rg:W.rangeAt (w.heap.size+1) 0 (jj s lv):=fj.Y (tl:=[]) (by simpa using l.out.2.2.2);have th:W.there E.r 0 (jj s lv).toArray.size:=by have:=l.out.1.r;unfold iE at this;exact this.S5<|by simp only[ć,Ó,mK];omega
  have L_:(À.info? 136).map (·.size)=Ã (jj s lv).toArray.size:=by rw[f.out.2.2.1];simp
  have nG:=Ī f.out.2.2.2.2.2.2.2.2;have HNF:=fg<|fj.G l.out.2.1.C ok.C;have D:=fg<|Á rg<|Á th<|Á L_ nG;clear rg th L_ nG;go_wp2_with (first
   |(with_reducible refine ĥ U 136 _ U (w.heap.size+1) 0 U (jj s lv) dd D.out.1 f.out.1 f.out.2.1 f.out.2.2.1 ?_)
   |(with_reducible refine ams U 136 _ _ U E.r (jj s lv) U U D.out.2.1 D.out.2.2.1 D.out.2.2.2 ?_;intro jX V;have kb:fe (λk=>k=E.r) W jX:=(by rw[V];exact H3 _ _ _ HNF.out);have o:=l.out.2.2.1.I kb Z;have p0:=o.r 0 _ U;have p1:=o.r 1 _ U;have p2:=o.r 2 _ U;have y0:=o.C 0;have y1:=o.C 1;have y2:=o.C 2;have Tb:=l.out.2.1.r.I kb Z;have p5:jX.cell? ⟨w.heap.size+1+1,5,Ä⟩=Ã (Â Æ t.g):=Tb.r 5 _ U;have hl4:=Tb.M;have M_:=fg o;clear kb o Tb;have HW:=fg V;clear V))
  let⟨d2,P,Q⟩:=Ì.1 S8;apply ð (S7 U U (fj.Y (tl:=[]) (vs:=[Â Æ<|c.g-t.g,Ñ Ï,Â Æ a])<|((M_.out.fS 0<|Â Æ<|c.g-t.g).fS 1<|Ñ Ï).fS 2<|Â Æ a) P Q S9) U;have o:iu E lv ls.length w s ls jX lv:=by rw[HW.out];exact l.out.1.qN ok H.out.2.1
  refine⟨U,lv,o.N (Y:=λk=>k=w.heap.size) (((fe.I (X:=λk=>k=w.heap.size) (p:=⟨w.heap.size,0,Ä⟩) U _).fh<|fe.I (X:=λk=>k=w.heap.size) (p:=⟨w.heap.size,1,Ä⟩) U _).fh<|fe.I (X:=λk=>k=w.heap.size) (p:=⟨w.heap.size,2,Ä⟩) U _) (λi q=>by omega) (λi cur q z=> ?_) Z⟩;rw[q,M_.out]at z;cases z
end
def sf:Nat->lZ
 |0=>λs ls _ _ _ _=>⟨0,Ï,0,s,ls⟩
 |n+1=>λs ls x y g k=>qu (sf n) ⟨x,y,k,4-(n:Int),g⟩ s ls
theorem amu{F:lZ}(d:qo F){c:RC}{s:St}{a:List (Nat×Int)}(b:gK s)(e:c.x<8)(f:c.y<8)(i:gk c.k)(j:0<=c.g)(l:c.g<=100000)(m:(a.length:Int)+c.g<=1000000):r_ a c.g (qu F c s a):=by
 have h:=F_ d b e f i j l m;have p:=h.g0;have n:=h.C;have o:=h.I;simp only at n o;unfold qu;refine⟨by simp only;omega,by simp only;omega,?_,h.M,?_⟩
 .simp only;split
  .exact h.s
  .exact b
 .grind
def H5:∀n,qo<|sf n
 |0=>λs a x y g k b _ _ _ d _ _=>⟨Ö _,d,b,uP,by show(a.length:Int)<=a.length+0;omega⟩
 |n+1=>λs a x y g k b d e f h i j=>amu (c:=⟨x,y,k,4-(n:Int),g⟩) (H5 n) b d e f h i j
def M':∀n,n<=3->tw (sf<|n+1) (4-(n:Int))
 |0,_=>λE a s t u x y g k w b d f i j l m o p r=>H_ (c:=⟨x,y,k,4-((0:Nat):Int),g⟩) (F:=sf 0) a (show(0:Int)<=4-((0:Nat):Int) by decide) (show(4:Int)-((0:Nat):Int)<=4 by decide) (λq=>absurd q<|show¬(4:Int)-((0:Nat):Int)<4 by decide) (H5 0) b d f i j l p m o r
 |n+1,h=>λE a s t u x y g k w b d f i j l m o p r=>by
  have e:(4:Int)-((n+1:Nat):Int)+1=4-(n:Int):=Z
  exact H_ a (by show 0<=4-((n+1:Nat):Int);omega) (by show 4-((n+1:Nat):Int)<=4;omega) (λ_=>by show tw _ (4-((n+1:Nat):Int)+1);rw[e];exact(M' n Z)) (H5<|n+1) b d f i j l p m o r
def gf:lZ:=sf 4
def LK:qo gf:=H5 4
def N_:tw gf 1:=M' 3 A
def iE.nY{tl:List È}{s:St}(h:iE b T tl s v w)(k:fe X w u)(a:¬X b):iE b T tl s v u:=fj.I h k a
section
variable{E:iW}{lv:È}{w1:É}{s B d:St}{ls f r:List (Nat×Int)}
theorem iu.fX(a:iE E.r E.T E.C s lv w)(b:w.ownsRow 0 250 2 lv ls.length (kr ls)):iu E lv ls.length w s ls w lv:= ⟨a,b,fe.fX _ _,λ_ q=>Ø q,λ_ _ _ c d=>⟨c,d⟩⟩
def iu.fh(h:iu E lv n w B f w1 v)(k:iu E v f.length w1 d r u jQ):iu E lv n w d r u jQ:=by
 refine⟨k.r,k.I,h.C.C k.C ?_,λj q=> ?_,λa b c g m=> ?_⟩
 .rintro i o (e|e)
  .exact Ø e
  .exact Ù<|(h.l i e).resolve_right Z
 .rcases k.l j q with e|e
  .exact h.l j e
  .exact Ù<|ë h.C.M e
 .let⟨e,i⟩:=h.M a b c g m;exact k.M a b c e i
def iu.fO(h:iu E lv n w s ls w1 v)(k:fe fi w1 u):iu E lv n w s ls u v:= h.N k (λ_=>ę) (λ_ _=>ę) id
def iu.Y(ok:E.Ok)(h:iu E lv n w s ls w1 v)(i:Nat)(k:iE E.r E.T E.C d v (w1.setCell ⟨E.r,i,Ä⟩ x)):iu E lv n w d ls (w1.setCell ⟨E.r,i,Ä⟩ x) v:=by have e:=fe.I (X:=λk=>k=E.r) (p:=⟨E.r,i,Ä⟩) U x<|Ù<|fj.G h.r ok.C;have f:∀{a b c},w1.ownsRow 0 250 2 a b c->(w1.setCell ⟨E.r,i,Ä⟩ x).ownsRow 0 250 2 a b c:=λ{a b c} q=>ig q e λj o y=>jA q h.r ok.r.symm (by rw[o,y]);exact⟨k,f h.I,h.C.C e λi _ q=>Ø q,h.l,λa b c g m=>⟨f (h.M a b c g m).1,(h.M a b c g m).2⟩⟩
def iu.fx(ok:E.Ok)(h:iu E lv n w s ls w1 v)(a:i<8)(x:Int):iu E lv n w (s.fx i x) ls (w1.setCell ⟨E.r,i*18,Ä⟩<|Â Æ x) v:=h.Y ok _<|h.r.zD a x
def iu.Ly(ok:E.Ok)(h:iu E lv n w s ls w1 v)(a:i<8)(x:ByteArray):iu E lv n w (s.C i x) ls (w1.setCell ⟨E.r,i*18+1,Ä⟩<|Í x) v:=h.Y ok _<|h.r.alk a x
end
def xU(s:St)(x y:Nat)(n:Int):Bool×St:=
 if(s x).fx<n+10 then(Ï,s)else(Ú,(s.fx x<|(s x).fx-(n+10)).fx y<|wu<|(s.fx x ((s x).fx-(n+10)) y).fx+n)
section
variable{E:iW}{lv:È}{s:St}{ls:List (Nat×Int)}
def amv(ok:E.Ok)(c:iE E.r E.T E.C s lv w)(g:w.ownsRow 0 250 2 lv ls.length (kr ls))(f:gK s)(x y:Nat)(n:Int)(a:x<8)(d:y<8)(i:0<=n)(j:n<=1000000): Ò À 152 #[Å<|Ã ⟨E.r,0,Ä⟩,Â Ë x,Â Ë y,Â Æ n] w λe m=>e=Ç (Ñ (xU s x y n).1)/\iu E lv ls.length w (xU s x y n).2 ls m lv:=by
 have k:=c.fx a;have l:=fj.C c<|x*18;have o:=(f.fx x).1;have p:=(f.fx x).2;have q:∀m,((w.drewN m).setCell ⟨E.r,x*18,Ä⟩<|Â Æ<|(s x).fx-(n+10)).cell? ⟨E.r,y*18,Ä⟩=Ã (Â Æ (s.fx x ((s x).fx-(n+10)) y).fx):=λm=>((c.nY (fe.iR fi w m) id).zD a _).fx d;have r:∀m,((w.drewN m).setCell ⟨E.r,x*18,Ä⟩<|Â Æ<|(s x).fx-(n+10)).frozen? ⟨E.r,y*18,Ä⟩=Ï:=λm=>fj.C ((c.nY (fe.iR fi w m) id).zD a _) _;have t:=(c.zD a<|(s x).fx-(n+10)).fx d;have u:=fj.C (c.zD a<|(s x).fx-(n+10))<|y*18;have H:=fg<|iu.fX c g;unfold xU;by_cases e:(s x).fx<n+10
 .rw[if_pos e];generalize(s x).fx=b at*;go_enter ar,κ;go_wp2_with fail;go_ret;exact⟨U,H.out⟩
 .rw[if_neg e];generalize(s.fx x ((s x).fx-(n+10)) y).fx=b2 at*;generalize(s x).fx=b at*;go_enter ar,κ;go_wp2_with fail;go_region;go_wp2_with fail;go_region;go_wp2_with fail;go_ret;refine⟨U,?_⟩;first
   |exact((H.out.fx ok a _).fx ok d _).fO<|fe.iR _ _ _
   |exact(((H.out.fO<|fe.iR _ _ _).fx ok a _).fx ok d _)
   |exact(((H.out.fO<|fe.fU _ _).fx ok a _).fO<|fe.fU _ _).fx ok d _
   |exact((H.out.fx ok a _).fx ok d _).still<|(Keep.drew _ _).trans<|Keep.drew _ _
end
def amw(a:kn w)(p:ă)(n:Nat):kn (w.freeze p n):=by
 unfold Đ;split
 .exact a
 .intro i o h;simp only[Û]at h;split at h
  .cases b:w.heap[i]? with
   |none=>rw[b]at h;cases h
   |some d=>
    have:=a _ _ b;rw[b]at h;cases d with
    |cells c t z=>simp only[ñ,è]at h;subst h;exact λx=>x
    |_=>exact absurd trivial this
  .exact a i o h
def N'(a:rY m w)(p:ă)(n:Nat):rY m (w.freeze p n):=by
 unfold Đ;split
 .exact a
 .intro i c T f e h b;simp only[Û]at h;split at h
  .cases d:w.heap[i]? with
   |none=>rw[d]at h;cases h
   |some g=>
    rw[d]at h;cases g with
    |cells j t z=>
     simp only[ñ,è,ģ]at h;rw[<-h.1];rw[<-h.2.1]at b;exact a _ _ _ _ e d b
    |_=>cases h
  .exact a i c T f e h b
theorem amx{w w1:World}{g:Nat}{cur Y:Array Value}{e:TypeId}{z:Nat×Nat}(hw:fe fi w w1)(hg:w1.heap[g]?=some (.cells cur e z))(auJ:w.heap.size<=g)(he:mq e=false:=by decide):fe fi w (w1.setRow g Y):=by
 refine⟨by simpa using hw.M,λk hk _=>(ė w1 g k Y Z).trans<|hw.N k hk id,λal i o ho=> ?_,λm a i c T fr hm h hT=> ?_⟩;rotate_left
 .by_cases hi:i=g
  .subst hi;rw[ĝ w1 i cur Y e z hg]at h;grind
  .rw[ė w1 g i Y hi]at h;exact hw.Y m a i c T fr hm h hT
 by_cases hi:i=g
 .subst hi;rw[ĝ w1 i cur Y e z hg]at ho;cases ho;exact λx=>x
 .rw[ė w1 g i Y hi]at ho;exact hw.gU al i o ho
def amy(b:fe fi w u)(e:w.heap.size<=p.block):fe fi w (u.freeze p n):=by
 refine⟨?_,λk c _=> ?_,λd=>amw (b.gU d) p n,λm a=>N' (b.Y m a) p n⟩
 .unfold Đ;split
  .exact b.M
  .simpa using b.M
 .unfold Đ;split
  .exact b.N k c id
  .simp only[Û];rw[if_neg Z];exact b.N k c id
def Td:(À.info? 5).map (λi=>(i.zero,i.size,i.bytes))=Ã (Ã<|Â aU 0,1,1):=fv
def amz(n:Nat)(e:n<=1000000):∃M:Array È,M.size=n/\∀W:É,(Instr.makeSlice 98 (Â Ë (n:Int))<|Â Ë (n:Int)).run À W=φ (Ê (Ã ⟨W.heap.size,0,Ä⟩) n n) (W.alloc<|Ð M 5):=by let⟨i,a,b,c,d⟩:=í Td;refine⟨madeCells (Â aU 0).cells<|(n:Int).toNat*i.size,by rw[size_madeCells,c];simp,λW=> ?_⟩;simpa using run_make W 98 5 i (Â aU 0) Ā a b Ë Ë n n Z Z (by rw[d];omega) Z
theorem amA{M:Array È}(e:M.size=B.size)(b:W.heap[i]?=Ã (Ð M 5 (0,0))): (ν #[98,9] 3 #[Ê (Ã ⟨i,0,Ä⟩) B.size B.size,Í B]).run À W=φ (goInt B.size) (W.setRow i (ô B.data.toList).toArray):=by let⟨a,c,_,d,_⟩:=í Td;have h:=Lib.run_copy_row_string W 98 9 3 5 i 0 B.size B.size B M 5 Ā (by rw[c];simp[d]) b (Þ _) Z;grind [List.drop_of_length_le]
def amB(d:B.size≠0)(m:B.size<=1000000)(c:W.heap[i]?=Ã (Ð (ô B.data.toList).toArray 5 (0,0))): (Ő #[170,3] 9 #[Å<|Ã ⟨i,0,Ä⟩,Â Ë (B.size:Int)]).run À W=φ (Í B) (W.freeze ⟨i,0,Ä⟩ B.size):=by
 let⟨a,f,_,k,_⟩:=í Td;have b:=Lib.size_eq B;have l:(ô B.data.toList).toArray.size=B.size:=by rw[ć,Ř,<-b]
 have h:=Ĺ W 170 3 9 5 ũ (by simp[Program.cellsOf,f,k]) i B.size (by unfold ŷ;rw[c];simp only[l]) B.data.toList (by intro e;rw[e]at b;exact d b) Z Z (λj x e=>Lib.cells_of_row c _ j _<|by rw[List.take_of_length_le<|Þ _];simp[ô,e]);rwa[<-b]at h
def amC(s:ByteArray)(a:s.size<=1000000)(w:É):Ò À 180 #[Í s] w λe c=>e=Ç (Í s)/\fe fi w c:=by
 by_cases b:s.size=0
 .have d:=bq<|Array.eq_empty_of_size_eq_zero b;subst d;go_enter au,ξ;go_wp2;go_ret;exact⟨U,fe.fX _ _⟩
 .let⟨M,d,mk⟩:=amz s.size a;have g:=amA d<|ì w<|Ð M 5;have h:=amB b a<|ĝ (w.alloc<|Ð M 5) w.heap.size M (ô s.data.toList).toArray 5 (0,0)<|ì w _;have f:=fg<|amy (p:=⟨w.heap.size,0,Ä⟩) (n:=s.size) (amx (Y:=(ô s.data.toList).toArray) (fe.gJ fi w M 5) (ì w _)<|Þ _)<|Þ _;generalize(ô s.data.toList).toArray=Y at*;go_enter au,ξ;go_wp2;go_ret;exact⟨U,f.out⟩
def amD(s:ByteArray)(a:s.size<=1000000)(w:É):Ò À 170 #[Í s] w λe b=>e=Ç (Í s)/\fe fi w b:=by go_enter Tryz.func170,Tryz.ntmps170;go_wp2_with (go_at_call 180;refine(amC s a _).mono ?_;rintro e d ⟨rfl,c⟩);go_ret;exact⟨U,c⟩
def xV(s:St)(x:Nat)(p:ByteArray):Bool×St:=
 if(s x).fx<20 then(Ï,s)else(Ú,(s.fx x<|(s x).fx-20).C x p)
def zK{t u:Tmp}{cs:List È}{d:TypeDesc}(h:s.results=#[.cell t T,.tmp u])(a:q.getD t ā=Å (Ã ⟨b,0,Ä⟩))(c:w.rangeAt b 0 cs)(e:P.underlying T=Ã d)(f:d.isRow=Ú)(g:(P.info? T).map (·.size)=Ã cs.length): (ak s q).run P w=φ (æ #[Ē cs.toArray,q.getD u ā]) w:=by have i:=Ν w b 0 T cs d c e f g;rw[ī]at a;simp only[ak,h];simp[a,asAddr,i]
def H6:(À.underlying 239).map İ=Ã Ú:=fv
def Cd:(À.info? 239).map (·.size)=Ã 2:=fv
section
variable{E:iW}{lv:È}{s:St}{ls:List (Nat×Int)}
def amE(ok:E.Ok)(a:iE E.r E.T E.C s lv w)(i:w.ownsRow 0 250 2 lv ls.length (kr ls))(f:gK s)(x:Nat)(p:ByteArray)(c:x<8)(j:p.size<=1000000): Ò À 153 #[Å<|Ã ⟨E.r,0,Ä⟩,Â Ë x,Í p] w λe d=>e=Ç (Ñ (xV s x p).1)/\iu E lv ls.length w (xV s x p).2 ls d lv:=by
 have l:=fj.M a;have m:=a.fx c;have n:=fj.C a<|x*18;have o:=(f.fx x).1;have q:=(f.fx x).2;have r:(0:Int)<=(x:Int):=Z
 have t:(x:Int)<8:=Z
 have H:=fg<|iu.fX a i;unfold xV;by_cases g:(s x).fx<20
 .rw[if_pos g];generalize(s x).fx=b at*;go_enter av,ο;go_wp2_with fail;go_ret;exact⟨U,H.out⟩
 .rw[if_neg g];generalize(s x).fx=b at*;go_enter av,ο;go_wp2_with fail;go_region;go_wp2_with fail;go_region_held3 (λ_=>True) (trivial) (first
    |(go_at_call 170;refine(amD p j _).mono ?_;rintro e u ⟨rfl,k⟩;dsimp only;have d:=((H.out.fx ok c (b-20)).fO (fe.iR fi _ 2)).fO k;have v:=d.r.Ly c;have y:=fj.C d.r (x*18+1)))
  go_wp2_with fail
  go_ret;exact⟨U,d.Ly ok c p⟩
def zL(s:St)(ls:List (Nat×Int))(x y:Nat)(n k:Int):(Int×Bool)×Bool×St×List (Nat×Int):=
 if n<10\/400<n\/(s x).fx<n then((0,Ï),Ï,s,ls)
 else(((gf (s.fx x<|(s x).fx-n) ls x y (n-10) k).r+10,(gf (s.fx x<|(s x).fx-n) ls x y (n-10) k).C),Ú,
  (gf (s.fx x ((s x).fx-n)) ls x y (n-10) k).s.fx x (wu (((gf (s.fx x ((s x).fx-n)) ls x y (n-10) k).s x).fx+(n-((gf (s.fx x ((s x).fx-n)) ls x y (n-10) k).r+10)))),(gf (s.fx x ((s x).fx-n)) ls x y (n-10) k).M)
def amF(a:iE E.r E.T E.C s lv w)(c:w.ownsRow 0 250 2 lv ls.length (kr ls))(x y:Nat)(n k:Int)(d:x<8)(l:0<=n)(m:n<10\/400<n\/(s x).fx<n): Ò À 154 #[Å<|Ã ⟨E.r,0,Ä⟩,Â Ë x,Â Ë y,Â Æ n,Â Æ k] w λe H=>e=Ç (æ #[Ē #[Â Æ 0,Ñ Ï],Ñ Ï])/\iu E lv ls.length w s ls H lv:=by
 have o:=fj.M a;have p:=a.fx d;have q:(0:Int)<=(x:Int):=Z
 have r:(x:Int)<8:=Z
 let⟨t,f,g⟩:=Ì.1 H6;have H:=fg<|Á (iu.fX a c)<|Á f g;generalize(s x).fx=b at*;by_cases i:n<10
 .go_enter Ņ,ĺ;go_wp2_with fail;have e:=fe.gJ fi w #[Â Æ 0,Ñ Ï] 239;apply ð (zK U U (fj.Y (vs:=[Â Æ 0,Ñ Ï])<|fj.N w [Â Æ 0,Ñ Ï] 239) H.out.2.1 H.out.2.2 Cd) U;exact⟨U,H.out.1.fO e⟩
 .have u:=decide_eq_false i;by_cases j:400<n
  .go_enter Ņ,ĺ;go_wp2_with fail;have e:=fe.gJ fi w #[Â Æ 0,Ñ Ï] 239;apply ð (zK U U (fj.Y (vs:=[Â Æ 0,Ñ Ï])<|fj.N w [Â Æ 0,Ñ Ï] 239) H.out.2.1 H.out.2.2 Cd) U;exact⟨U,H.out.1.fO e⟩
  .have v:=decide_eq_false j;have z:b<n:=Z
   go_enter Ņ,ĺ;go_wp2_with fail;have e:=fe.gJ fi w #[Â Æ 0,Ñ Ï] 239;apply ð (zK U U (fj.Y (vs:=[Â Æ 0,Ñ Ï])<|fj.N w [Â Æ 0,Ñ Ï] 239) H.out.2.1 H.out.2.2 Cd) U;exact⟨U,H.out.1.fO e⟩
def amG(ok:E.Ok)(a:iE E.r E.T E.C s lv w)(m:w.ownsRow 0 250 2 lv ls.length (kr ls))(o:iM w)(g:gK s)(x y:Nat)(n k:Int)(c:x<8)(D:y<8)(F:gk k)(Hv:10<=n)(vN:n<=400)(auK:n<=(s x).fx)(hlen:(ls.length:Int)+n<=1000000)(r:B9)(t:r=gf (s.fx x<|(s x).fx-n) ls x y (n-10) k): Ò À 154 #[Å<|Ã ⟨E.r,0,Ä⟩,Â Ë x,Â Ë y,Â Æ n,Â Æ k] w λe u=>e=Ç (æ #[Ē #[Â Æ<|r.r+10,Ñ r.C],Ñ Ú])/\∃v,iu E lv ls.length w (r.s.fx x<|wu<|(r.s x).fx+(n-(r.r+10))) r.M u v:=by
 have gT:=fj.M a;have d1:=a.fx c;have f1:=fj.C a<|x*18;have XW:(0:Int)<=(x:Int):=Z
 have AU:(x:Int)<8:=Z
 have b0:=(g.fx x).1;have b1:=(g.fx x).2;have z:gK (s.fx x<|(s x).fx-n):=g.r x ⟨Z,Z⟩;have j:=LK _ ls x y (n-10) k z c D F Z Z Z;have G:=iu.fX a m;have C:∀W l,iu E lv ls.length w (s.fx x<|(s x).fx-n) ls W l->iM W->Ò À 157 #[Å<|Ã ⟨E.r,0,Ä⟩,Â Ë x,Â Ë y,Â Æ<|n-10,Â Æ k,Â Ë 1] W λe u=>e=Ç (Ē #[Â Æ r.r,Ñ r.C,Â Æ r.I])/\∃v,iu E l ls.length W r.s r.M u v:=λW l I Q=>by rw[t];exact N_ E ok _ l ls x y (n-10) k W I.r I.I Q z c D Z Z F Z
 rw[<-t]at j;have u0:=j.C;have u1:=j.r;let⟨d2,J,K⟩:=Ì.1 H6;have L:∀i,iM (w.setCell ⟨E.r,i,Ä⟩<|Â Æ<|(s x).fx-n):=λi=>o.r (fe.I (X:=λk=>k=E.r) U _) λq=>o.C a ok.N q.symm;have H:=fg<|Á G<|Á C<|Á L<|Á J<|Á K m;clear a m o g z j G C L J K t;generalize(s x).fx=b at*;have e1:decide (n<10)=Ï:=decide_eq_false Z;have e2:decide (400<n)=Ï:=decide_eq_false Z;have e3:decide (b<n)=Ï:=decide_eq_false Z;generalize S:(r.s x).fx=b2;go_enter Ņ,ĺ;go_wp2_with fail;have M:=(H.out.1.fx ok c<|b-n).fO<|fe.gJ fi _ #[Â Æ 0,Ñ Ï] 239;go_at_call 157;refine(H.out.2.1 _ _ M<|(H.out.2.2.1 _).r (fe.gJ fi _ _ _) id).mono ?_;rintro e V ⟨rfl,Y,f⟩;have d:fj w.heap.size [Â Æ 0,Ñ Ï] 239 V:=by
  have B:fj w.heap.size [Â Æ 0,Ñ Ï] 239 ((w.setCell ⟨E.r,x*18,Ä⟩<|Â Æ<|b-n).alloc<|Ð #[Â Æ 0,Ñ Ï] 239):=by have:=fj.N (w.setCell ⟨E.r,x*18,Ä⟩<|Â Æ<|b-n) [Â Æ 0,Ñ Ï] 239;simpa using this
  refine B.I f.C ?_;rintro(q|q)
  .omega
  .have:=(H.out.2.2.2.2.2.lt _ q).2;omega
 have m1:=f.r.fx c;have z1:=fj.C f.r<|x*18;have ED:=fj.M f.r;have Te:=d.M;have c0:=d.r 0 _ U;have c1:=d.r 1 _ U;have y0:=d.C 0;have y1:=d.C 1;have N:=fg<|Á (M.fh f) d;rw[S]at m1;go_wp2_with fail;go_region;go_wp2_with fail;have q1:=N.out.1.fx ok c<|wu<|b2+(n-(r.r+10));have O:=N.out.2.I (fe.I (X:=λk=>k=E.r) (p:=⟨E.r,x*18,Ä⟩) U<|Â Æ<|wu<|b2+(n-(r.r+10))) Z;have q2:=q1.N ((fe.I (X:=λk=>k=w.heap.size) (p:=⟨w.heap.size,0,Ä⟩) U<|Â Æ<|r.r+10).fh<|fe.I (X:=λk=>k=w.heap.size) (p:=⟨w.heap.size,1,Ä⟩) U<|Ñ r.C) (λi q=>by omega) (λi cur q P=>by have B:=O;rw[q,B]at P;cases P) Z;have B:∀W:É,∀P,fe fi W ((W.alloc<|Ð P 245).drew):=λW P=>(fe.gJ _ _ _ _).fh<|fe.fU _ _;have hb:=(((O.fS 0<|Â Æ<|r.r+10).fS 1<|Ñ r.C)).I (B _ #[Â Æ<|r.r+10,Ñ r.C,Â Æ r.I]) id;apply ð (zK U U (fj.Y (vs:=[Â Æ<|r.r+10,Ñ r.C]) hb) H.out.2.2.2.1 H.out.2.2.2.2.1 Cd) U;exact⟨U,Y,q2.fO<|B _ _⟩
end
structure Tx where
 x:Nat
 y:Nat
 n:Int
 k:Int
 r:Int
 C:ByteArray
structure mb(a:Nat)(t:Tx)(w:É):Prop where
 b:∃cs fz,w.heap[a]?=Ã (Ð cs 193 fz)
 r:w.cell? ⟨a,0,Ä⟩=Ã (Â Ë t.x)
 C:w.cell? ⟨a,1,Ä⟩=Ã (Â Ë t.y)
 I:w.cell? ⟨a,2,Ä⟩=Ã (Â Ë t.n)
 M:w.cell? ⟨a,3,Ä⟩=Ã (Â Ë t.k)
 Y:w.cell? ⟨a,4,Ä⟩=Ã (Â Ë t.r)
 N:w.cell? ⟨a,5,Ä⟩=Ã (Í t.C)
structure Tx.Ok(t:Tx):Prop where
 x:t.x<8
 y:t.y<8
 I:0<=t.n
 M:t.n<1000000
 r:0<=t.k
 C:t.k<1000000
 N:t.C.size<=40/\∀c∈t.C.data.toList,xP c=Ú
def mb.G{t:Tx}(h:mb i t w):i<w.heap.size:=á w _ h.r
def mb.S{t:Tx}(h:mb i t w)(k:fe X w u)(b:¬X i):mb i t u:=by let⟨c,d,e⟩:=h.b;exact⟨⟨c,d,by rwa[k.N i h.G b]⟩,k.r h.r b,k.r h.C b,k.r h.I b,k.r h.M b,k.r h.Y b,k.r h.N b⟩
def mb.iU{t:Tx}(h:mb i t w)(c:w.heap[j]?=Ã (Ð d T xJ))(e:T≠193):i≠j:=by rintro rfl;let⟨f,g,b⟩:=h.b;rw[c]at b;cases b;exact e U
def mb.xR{E:iW}{t:Tx}{s c:St}{ls b:List (Nat×Int)}(d:E.T≠193)(h:mb i t w)(e:iE E.r E.T E.C c v w)(f:w.ownsRow 0 250 2 v b.length (kr b))(r:iu E v n w s ls u x):mb i t u:=by
 refine h.S r.C ?_;rintro(q|q)
 .exact h.iU e d q
 .let⟨j,g⟩:=lY f q;exact h.iU g A U
def my(s:St)(ls:List (Nat×Int))(t:Tx):(Int×Bool)×Bool×St×List (Nat×Int):=
 if t.r=1 then((10,Ú),(xU s t.x t.y t.n).1,(xU s t.x t.y t.n).2,ls)
 else if t.r=2 then((20,Ú),(xV s t.x t.C).1,(xV s t.x t.C).2,ls)
 else zL s ls t.x t.y t.n t.k
def EE(a:0<=h)(b:h<1000000):Æ.wrap h=h:=by show wu h=h;exact aln a Z
def H7(E:iW)(a:È)(n:Nat)(w:É)(o:(Int×Bool)×Bool×St×List (Nat×Int))(e:ax)(b:É):Prop:=
 e=Ç (æ #[Ē #[Â Æ o.1.1,Ñ o.1.2],Ñ o.2.1])/\∃c,iu E a n w o.2.2.1 o.2.2.2 b c
def amH{E:iW}{s:St}{ls:List (Nat×Int)}(ok:E.Ok)(b:iE E.r E.T E.C s v w)(c:w.ownsRow 0 250 2 v ls.length (kr ls))(f:iM w)(g:gK s)(x y:Nat)(n k:Int)(d:x<8)(i:y<8)(j:gk k)(l:0<=n)(m:(ls.length:Int)+400<=1000000): Ò À 154 #[Å<|Ã ⟨E.r,0,Ä⟩,Â Ë x,Â Ë y,Â Æ n,Â Æ k] w (H7 E v ls.length w<|zL s ls x y n k):=by
 unfold zL;by_cases a:n<10\/400<n\/(s x).fx<n
 .rw[if_pos a];exact(amF b c x y n k d l a).mono λe o h=>⟨h.1,v,h.2⟩
 .rw[if_neg a];exact amG ok b c f g x y n k d i j Z Z Z Z _ U
def iu.S{E:iW}{s:St}{ls:List (Nat×Int)}(k:fe fi w W)(r:iu E v n W s ls u x):iu E v n w s ls u x:= ⟨r.r,r.I,(k.S λ_ _=>ę).C r.C λ_ _ q=>q,λj q=>(r.l j q).imp id λe=>ë k.M e,λa b c d f=>r.M a b c (ig d k λ_ _=>id) f⟩
section
variable{E:iW}{lv:È}{s:St}{ls:List (Nat×Int)}{a:Nat}{t:Tx}
def Tf{zv:Value}{w1:World}{n:Nat}{s1:St}{O_:List (Nat×Int)}(r:iu E lv n w s1 O_ w1 zv)(hB:fj w.heap.size [.int .u64 0,.bool false] 239 w1)(hlb:E.r<w.heap.size)(v0 v1:Value)(hf0:kq v0=true:=by rfl)(hf1:kq v1=true:=by rfl): iu E lv n w s1 O_ ((w1.setCell ⟨w.heap.size,0,none⟩ v0).setCell ⟨w.heap.size,1,none⟩ v1) zv/\fj w.heap.size [v0,v1] 239 ((w1.setCell ⟨w.heap.size,0,none⟩ v0).setCell ⟨w.heap.size,1,none⟩ v1):=by refine⟨r.N (Y:=λk=>k=w.heap.size) ((fe.I (X:=λk=>k=w.heap.size) (p:=⟨w.heap.size,0,Ä⟩) U v0<|Ø hf0).fh<|fe.I (X:=λk=>k=w.heap.size) (p:=⟨w.heap.size,1,Ä⟩) U v1<|Ø hf1) (λi q=>by omega) (λi cur q hc=> ?_) Z,(hB.fS 0 v0).fS 1 v1⟩;rw[q,hB]at hc;cases hc
def Tg{W:É}{a:St}{b:List (Nat×Int)}{cs:List È}(c:jX=(w.alloc<|Ð cs.toArray T).drewN 1\/jX=w.alloc (Ð cs.toArray T))(d:w.ownsRow 0 250 2 lv ls.length (kr ls))(f:E.r<w.heap.size)(r:iu E lv n jX a b u v):fj w.heap.size cs T u:=by
 have e:fj w.heap.size cs T jX:=by
  rcases c with rfl|rfl
  .exact fj.N w cs T
  .exact fj.N w cs T
 refine e.I r.C ?_;rintro(q|q)
 .omega
 .have:=(d.lt _ q).2;omega
def amI(ok:E.Ok)(S:E.T≠193)(m:iE E.r E.T E.C s lv w)(o:w.ownsRow 0 250 2 lv ls.length (kr ls))(B:iM w)(D:gK s)(c:mb a t w)(d:t.Ok)(hlen:(ls.length:Int)+400<=1000000)(F:t.r=1): Ò À 138 #[Å<|Ã ⟨E.r,0,Ä⟩,Å<|Ã ⟨a,0,Ä⟩] w (H7 E lv ls.length w<|my s ls t):=by
 have G:=fj.M m;have P_:=c.G;have V:=c.r;have Y:=c.C;have c2:=c.I;have c3:=c.M;have c4:=c.Y;have c5:=c.N;have hn:=EE d.I d.M;have hk:=EE d.r d.C;let⟨d2,I,J⟩:=Ì.1 H6;have L:=fg<|Á I J;clear I J;have g:=(fe.gJ fi w #[Â Æ 0,Ñ Ï] 239).fh<|fe.fU _ _;have u:=m.nY g id;have v:=ig o g λ_ _=>id;have b:=c.S g id;have RA:=B.r g id;rw[F]at c4;have M:my s ls t=((10,Ú),(xU s t.x t.y t.n).1,(xU s t.x t.y t.n).2,ls):=by unfold my;rw[if_pos F]
 rw[M];have C:=amv (ls:=ls) ok u v D t.x t.y t.n d.x d.y d.I (by have:=d.M;omega);have N:∀(l:É) (O:St) (P:List (Nat×Int)) (Q:È),iu E lv ls.length _ O P l Q->mb a t l:=λl O P Q r=>mb.xR S b u v r;have H:=fg<|Á C<|Á o N;clear C N m o B D c d u v RA M;go_enter Ÿ,ť;go_wp2_with fail;have HS:=fg<|Á b.r<|Á b.C<|Á b.I<|Á b.M b.N;clear V Y c2 c3 c5 b;refine mr (λe=>e.cell? ⟨a,0,Ä⟩=Ã (Â Ë t.x)/\e.cell? ⟨a,1,Ä⟩=Ã (Â Ë t.y)/\e.cell? ⟨a,2,Ä⟩=Ã (Â Ë t.n)/\e.cell? ⟨a,3,Ä⟩=Ã (Â Ë t.k)/\e.cell? ⟨a,5,Ä⟩=Ã (Í t.C)) [22] fv ?_;iterate 20 apply tk HS.out
 apply gE 20;intro K f;go_simp;go_at_call 152;apply H.out.1.mono;rintro e l ⟨rfl,z⟩;dsimp only;have b:=H.out.2.2 _ _ _ _ z;apply f.out _ _ λ_=>⟨b.r,b.C,b.I,b.M,b.N⟩;clear f K;have i:=Tg (W:=w) (cs:=[Â Æ 0,Ñ Ï]) (Ø U) H.out.2.1 G z;have e0:=i.r 0 _ U;have e1:=i.r 1 _ U;have y0:=i.C 0;have y1:=i.C 1;have j:=b.S ((fe.I (X:=λk=>k=w.heap.size) (p:=⟨w.heap.size,0,Ä⟩) U<|Â Æ 10).fh<|fe.I (X:=λk=>k=w.heap.size) (p:=⟨w.heap.size,1,Ä⟩) U<|Ñ Ú) Z;apply gE 21;intro K f;go_simp;apply f.out _ _ λ_=>⟨j.r,j.C,j.I,j.M,j.N⟩;clear f K;apply gE 22;intro K f;go_simp;apply f.out _ _ λq=>absurd fq q;clear f K;try simp only[Ĵ,Õ,ã,ä]
 refine ma fv ?_ _;go_wp2_with fail;let⟨q,q2⟩:=Tf (iu.S g z) i G (Â Æ 10)<|Ñ Ú;apply ð (zK U U (fj.Y (tl:=[]) (vs:=[Â Æ 10,Ñ Ú]) q2) L.out.1 L.out.2 Cd) U;exact⟨U,lv,q⟩
def amJ(ok:E.Ok)(S:E.T≠193)(m:iE E.r E.T E.C s lv w)(o:w.ownsRow 0 250 2 lv ls.length (kr ls))(B:iM w)(D:gK s)(c:mb a t w)(f:t.Ok)(hlen:(ls.length:Int)+400<=1000000)(F:t.r=2): Ò À 138 #[Å<|Ã ⟨E.r,0,Ä⟩,Å<|Ã ⟨a,0,Ä⟩] w (H7 E lv ls.length w<|my s ls t):=by
 have G:=fj.M m;have P_:=c.G;have V:=c.r;have Y:=c.C;have c2:=c.I;have c3:=c.M;have c4:=c.Y;have c5:=c.N;have hn:=EE f.I f.M;have hk:=EE f.r f.C;let⟨d2,I,J⟩:=Ì.1 H6;have L:=fg<|Á I J;clear I J;have g:=(fe.gJ fi w #[Â Æ 0,Ñ Ï] 239).fh<|fe.fU _ _;have u:=m.nY g id;have v:=ig o g λ_ _=>id;have b:=c.S g id;have RA:=B.r g id;rw[F]at c4;have M:my s ls t=((20,Ú),(xV s t.x t.C).1,(xV s t.x t.C).2,ls):=by unfold my;rw[if_neg Z,if_pos F]
 rw[M];have C:=amE (ls:=ls) ok u v D t.x t.C f.x (by have:=f.N.1;omega);have N:∀(l:É) (O:St) (P:List (Nat×Int)) (Q:È),iu E lv ls.length _ O P l Q->mb a t l:=λl O P Q r=>mb.xR S b u v r;have H:=fg<|Á C<|Á o N;clear C N m o B D c f u v RA M;go_enter Ÿ,ť;go_wp2_with fail;have HS:=fg<|Á b.r<|Á b.C<|Á b.I<|Á b.M b.N;clear V Y c2 c3 c5 b;refine mr (λd=>d.cell? ⟨a,0,Ä⟩=Ã (Â Ë t.x)/\d.cell? ⟨a,1,Ä⟩=Ã (Â Ë t.y)/\d.cell? ⟨a,2,Ä⟩=Ã (Â Ë t.n)/\d.cell? ⟨a,3,Ä⟩=Ã (Â Ë t.k)/\d.cell? ⟨a,5,Ä⟩=Ã (Í t.C)) [15] fv ?_;iterate 13 apply tk HS.out
 apply gE 13;intro K d;go_simp;go_at_call 153;apply H.out.1.mono;rintro e l ⟨rfl,z⟩;dsimp only;have b:=H.out.2.2 _ _ _ _ z;apply d.out _ _ λ_=>⟨b.r,b.C,b.I,b.M,b.N⟩;clear d K;have i:=Tg (W:=w) (cs:=[Â Æ 0,Ñ Ï]) (Ø U) H.out.2.1 G z;have e0:=i.r 0 _ U;have e1:=i.r 1 _ U;have y0:=i.C 0;have y1:=i.C 1;have j:=b.S ((fe.I (X:=λk=>k=w.heap.size) (p:=⟨w.heap.size,0,Ä⟩) U<|Â Æ 20).fh<|fe.I (X:=λk=>k=w.heap.size) (p:=⟨w.heap.size,1,Ä⟩) U<|Ñ Ú) Z;apply gE 14;intro K d;go_simp;apply d.out _ _ λ_=>⟨j.r,j.C,j.I,j.M,j.N⟩;clear d K;apply gE 15;intro K d;go_simp;apply d.out _ _ λq=>absurd fq q;clear d K;try simp only[Ĵ,Õ,ã,ä]
 refine ma fv ?_ _;go_wp2_with fail;let⟨q,q2⟩:=Tf (iu.S g z) i G (Â Æ 20)<|Ñ Ú;apply ð (zK U U (fj.Y (tl:=[]) (vs:=[Â Æ 20,Ñ Ú]) q2) L.out.1 L.out.2 Cd) U;exact⟨U,lv,q⟩
def amK(ok:E.Ok)(Y:E.T≠193)(m:iE E.r E.T E.C s lv w)(p:w.ownsRow 0 250 2 lv ls.length (kr ls))(D:iM w)(F:gK s)(d:mb a t w)(c:t.Ok)(hlen:(ls.length:Int)+400<=1000000)(G:t.r≠1)(I:t.r≠2): Ò À 138 #[Å<|Ã ⟨E.r,0,Ä⟩,Å<|Ã ⟨a,0,Ä⟩] w (H7 E lv ls.length w<|my s ls t):=by
 have J:=fj.M m;have P_:=d.G;have c0:=d.r;have c1:=d.C;have c2:=d.I;have c3:=d.M;have c4:=d.Y;have c5:=d.N;have hn:=EE c.I c.M;have hk:=EE c.r c.C;let⟨d2,L,M⟩:=Ì.1 H6;have N:=fg<|Á L M;clear L M;have g:=(fe.gJ fi w #[Â Æ 0,Ñ Ï] 239).fh<|fe.fU _ _;have u:=m.nY g id;have v:=ig p g λ_ _=>id;have b:=d.S g id;have O:=D.r g id;have z1:(t.r==1)=Ï:=by rwa[beq_eq_false_iff_ne]
 have z2:(t.r==2)=Ï:=by rwa[beq_eq_false_iff_ne]
 have P:my s ls t=zL s ls t.x t.y t.n t.k:=by unfold my;rw[if_neg G,if_neg I]
 rw[P];have C:=amH (ls:=ls) ok u v O F t.x t.y t.n t.k c.x c.y ⟨c.r,by have:=c.C;omega⟩ c.I hlen;have Q:∀(j:É) (S:St) (V:List (Nat×Int)) (l:È),iu E lv ls.length _ S V j l->mb a t j:=λj S V l r=>mb.xR Y b u v r;have H:=fg<|Á C<|Á p Q;clear C Q m p D F d c u v O P;generalize zL s ls t.x t.y t.n t.k=o at*;go_enter Ÿ,ť;go_wp2_with fail;have z:=fg<|Á b.r<|Á b.C<|Á b.I<|Á b.M b.N;clear c0 c1 c2 c3 c5 b;refine mr (λe=>e.cell? ⟨a,0,Ä⟩=Ã (Â Ë t.x)/\e.cell? ⟨a,1,Ä⟩=Ã (Â Ë t.y)/\e.cell? ⟨a,2,Ä⟩=Ã (Â Ë t.n)/\e.cell? ⟨a,3,Ä⟩=Ã (Â Ë t.k)/\e.cell? ⟨a,5,Ä⟩=Ã (Í t.C)) [26,27] fv ?_;iterate 23 apply tk z.out
 apply gE 23;intro K f;go_simp;go_at_call 154;apply H.out.1.mono;rintro e j ⟨rfl,l,B⟩;dsimp only;have b:=H.out.2.2 _ _ _ _ B;apply f.out _ _ λ_=>⟨b.r,b.C,b.I,b.M,b.N⟩;clear f K;have i:=Tg (W:=w) (cs:=[Â Æ 0,Ñ Ï]) (Ø U) H.out.2.1 J B;have e0:=i.r 0 _ U;have e1:=i.r 1 _ U;have y0:=i.C 0;have y1:=i.C 1;have X:=Á b.r<|Á b.C<|Á b.I<|Á b.M b.N;have z:=fg X;clear X b;iterate 2 apply tk z.out
 apply gE 26;intro K f;go_simp;apply f.out _ _ λq=>absurd fq q;clear f K;apply gE 27;intro K f;go_simp;apply f.out _ _ λq=>absurd fq q;clear f K;try simp only[Ĵ,Õ,ã,ä]
 refine ma fv ?_ _;go_wp2_with fail;let⟨q,q2⟩:=Tf (iu.S g B) i J (Â Æ o.1.1)<|Ñ o.1.2;apply ð (zK U U (fj.Y (tl:=[]) (vs:=[Â Æ o.1.1,Ñ o.1.2]) q2) N.out.1 N.out.2 Cd) U;exact⟨U,l,q⟩
def Q_(ok:E.Ok)(b:E.T≠193)(c:iE E.r E.T E.C s lv w)(d:w.ownsRow 0 250 2 lv ls.length (kr ls))(e:iM w)(f:gK s)(g:mb a t w)(h:t.Ok)(i:(ls.length:Int)+400<=1000000): Ò À 138 #[Å<|Ã ⟨E.r,0,Ä⟩,Å<|Ã ⟨a,0,Ä⟩] w (H7 E lv ls.length w<|my s ls t):=by
 by_cases j:t.r=1
 .exact amI ok b c d e f g h i j
 .by_cases k:t.r=2
  .exact amJ ok b c d e f g h i k
  .exact amK ok b c d e f g h i j k
end
def Q':∀(d a b c:List È) (k:Nat),b.length=d.length->(d.zipIdx k).foldl (λ(q:Array È) (p:Value×Nat)=>q.setIfInBounds (a.length-k+p.2) p.1) (a++b++c).toArray=(a++d++c).toArray\/a.length<k
 |[],a,b,c,k,h=>by have:b=[]:=ß (by simpa using h);subst this;exact Ø U
 |v::r,a,b,c,k,h=>by
  rcases Ů a.length k with q|q
  .exact Ù q
  .match b,h with
   |x::b,h=>
    apply Ø;have p:=(Q' r (a++[v]) b c (k+1)<|by simpa using h).resolve_right (by simp;omega);simp only[List.zipIdx_cons,List.foldl_cons];rw[show a.length-k+k=a.length by omega,Õ,show(a++x::b++c).set a.length v=a++[v]++b++c by simp];rw[show(a++[v]).length-(k+1)=a.length-k by simp]at p;rw[p];simp
theorem LL{place:Nat->Option (Nat×Nat)}{pre old suf:List È}{rest:List (Nat×Value)}(a:place i=Ã (pre.length,n))(b:v.cells.size=n)(c:old.length=n): ı place (pre++old++suf).toArray ((i,v)::rest)=ı place (pre++v.cells.toList++suf).toArray rest:=by rw[Instr.fill.eq_2];simp only[a];rw[if_neg (by simp only[ć,Ó,Bool.or_eq_true,decide_eq_true_eq,not_or];omega)];have:=(Q' v.cells.toList pre old suf 0<|by rw[c,š,b]).resolve_right Z;simp only[Nat.sub_zero]at this;grind [Array.toList_zipIdx]
def amL:((À.info? 136).bind (·.zero)).map (λz=>z.cells.toList.drop 144)=Ã [Ê Ä 0 0]:=fv
def amM:((À.info? 136).bind (·.zero)).map (λz=>z.cells.size)=Ã 145:=fv
def R_:((À.info? 139).bind (·.zero)).map (λz=>z.cells.toList.drop 145)=Ã [Â Ë 0,Ê Ä 0 0]:=fv
def R':((À.info? 139).bind (·.zero)).map (λz=>z.cells.size)=Ã 147:=fv
def LN(P:aF)(t:õ):Option (List<|Nat×Nat):=match P.underlying t with
 |some (.struct fs)=>fs.toList.mapM λf=>(P.info? f.type).map λi=>(f.offset,i.size)
 |_=>Ä
def amN:LN À 136=Ã [(0,144),(144,1)]:=fv
def S_:LN À 139=Ã [(0,145),(145,1),(146,1)]:=fv
def Ti{c:List (Nat×Nat)}(a:LN P t=Ã c)(b:(P.info? t).bind (·.zero)=Ã z)(e:List (Nat×Value)):P.built t e=ı (c.toArray[·]?) z.cells e:=by
 unfold LN at a;unfold Program.built;cases f:P.info? t with
 |none=>rw[f]at b;cases b
 |some h=>
  rw[f]at b;have b:h.zero=Ã z:=b;cases g:P.underlying t with
  |none=>rw[g]at a;cases a
  |some d=>
   rw[g]at a;cases d<;>first|(cases a;done)|skip
   simp only at a;simp only[b,a]
theorem Tk{suf:List È}(h:((P.info? t).bind (·.zero)).map (λz=>z.cells.toList.drop n)=Ã suf)(a:((P.info? t).bind (·.zero)).map (λz=>z.cells.size)=Ã m)(c:n<=m):∃z old,(P.info? t).bind (·.zero)=Ã z/\old.length=n/\z.cells=(old++suf).toArray:=by
 let⟨z,b,d⟩:=Ì.1 h;rw[b]at a;have a:z.cells.size=m:=by injection a
 refine⟨z,z.cells.toList.take n,b,by rw[List.length_take,š,a];omega,?_⟩;grind
theorem amO(h:l.length=144):À.built 136 [(0,Ē l.toArray)]=Ã (l++[Ê Ä 0 0]).toArray:=by let⟨z,d,a,b,c⟩:=Tk amL amM A;rw[Ti amN a,c];have:=LL (place:=λi=>[(0,144),(144,1)].toArray[i]?) (pre:=[]) (suf:=[Ê Ä 0 0]) (i:=0) (v:=Ē l.toArray) (rest:=[]) U (by show l.toArray.size=144;simp[h]) b;simpa[ı,ğ]using this
theorem amP(h:l.length=145)(a:v.cells=#[v]):À.built 139 [(0,Ē l.toArray),(1,v)]=Ã (l++[v,Ê Ä 0 0]).toArray:=by let⟨z,g,c,d,f⟩:=Tk R_ R' A;rw[Ti S_ c,f];have b:=LL (place:=λi=>[(0,145),(145,1),(146,1)].toArray[i]?) (pre:=[]) (suf:=[Â Ë 0,Ê Ä 0 0]) (i:=0) (v:=Ē l.toArray) (rest:=[(1,v)]) U (by show l.toArray.size=145;simp[h]) d;simp only[Ξ]at b;rw[b];have e:(Ē l.toArray).cells.toList=l:=rfl;rw[e];rw[show(l++[Â Ë 0,Ê Ä 0 0])=l++[Â Ë 0]++[Ê Ä 0 0] by simp,(LL (place:=λi=>[(0,145),(145,1),(146,1)].toArray[i]?) (old:=[Â Ë 0]) (suf:=[Ê Ä 0 0]) (i:=1) (rest:=[]) (by show Ã (145,1)=Ã (l.length,1);rw[h]) (by rw[a];rfl) U)];simp[ı,a]
def iw(s:St):List È:=(ċ 144).map<|qn s
def si(s:St):(iw s).length=144:=by simp[iw]
theorem zM(s:St)(lv:È):jj s lv=iw s++[lv]:=by unfold jj iw;grind [Ŏ,List.map_congr_left,re,Lx]
def S'(a:o.op=.box T qQ)(b:xX qQ=Ē d):(Ĥ xX o).run P w=φ (.value<|Å<|Ã ⟨w.heap.size,0,Ä⟩) (w.alloc<|Ð d T):=by unfold Ĥ;simp[a,b,Instr.box,newVar,newRow,ğ]
theorem Tl{a:Array (Nat×Operand)}(b:o.op=Χ T a)(h:P.built T (a.map λ(i,x)=>(i,xX x)).toList=Ã d):(Ĥ xX o).run P w=φ (.value<|Ē d) w:=by have:=run_build w T (a.map λ(i,x)=>(i,xX x)) d h;unfold Ĥ;simp_all
theorem Tm(a:o.op=Χ 136 #[(0,qQ)])(b:xX qQ=Ē l.toArray)(c:l.length=144):(Ĥ xX o).run À w=φ (.value<|Ē (l++[Ê Ä 0 0]).toArray) w:=by grind [Tl,amO]
theorem amQ{y:ŭ}(a:o.op=Χ 139 #[(0,qQ),(1,y)])(b:xX qQ=Ē l.toArray)(c:xX y=v)(d:l.length=145)(e:v.cells=#[v]):(Ĥ xX o).run À w=φ (.value<|Ē (l++[v,Ê Ä 0 0]).toArray) w:=by apply Tl a;grind [amP]
def Tn:(À.underlying 132).map İ=Ã Ú:=fv
def T_:(À.info? 132).map (·.size)=Ã 144:=fv
structure mA(vb:Nat)(s:St)(h:Int)(w:É):Prop where
 C:w.rangeAt vb 0 (iw s)
 h:w.cell? ⟨vb,145,Ä⟩=Ã (Â Ë h)
def mA.r{s:St}(a:mA i s h w)(k:fe X w u)(b:¬X i):mA i s h u:= ⟨λj v c=>k.r (a.C j v c) b,k.r a.h b⟩
def uQ(l:List (Int×Bool)):List È:=l.flatMap λp=>[Â Æ p.1,Ñ p.2]
structure NX(B:Nat)(h:Int)(lv uv:È)(s:St)(ls:List (Nat×Int))(us:List (Int×Bool))(w0 w:É):Prop where
 r:iE B 139 [Â Ë h,uv] s lv w
 C:w.ownsRow 0 250 2 lv ls.length (kr ls)
 I:w.ownsRow 0 239 2 uv us.length (uQ us)
 M:fe fi w0 w
 N:w0.heap.size<=B
 S:∀j,lv.ownBlock=Ã j->w0.heap.size<=j
 Y:∀j,uv.ownBlock=Ã j->w0.heap.size<=j
def NX.iZ(w:É)(s:St)(h:Int):NX w.heap.size h (Ê Ä 0 0) (Ê Ä 0 0) s [] [] w ((Ă w<|Ð (iw s++[Ê Ä 0 0,Â Ë h,Ê Ä 0 0]).toArray 139).drew):=by refine⟨?_,ĉ _ _ _ _,ĉ _ _ _ _,(fe.gJ _ _ _ _).fh<|fe.fU _ _,Þ _,(λj q=>nomatch q),(λj q=>nomatch q)⟩;unfold iE;rw[zM,show iw s++[Ê Ä 0 0]++[Â Ë h,Ê Ä 0 0]=iw s++[Ê Ä 0 0,Â Ë h,Ê Ä 0 0] by simp];exact fj.N w _ 139
noncomputable def H8:ŏ:=(Tryz.f99.body.bind kz).getD ĵ
def zN(c m B:Nat)(a:Option ă)(n b:Nat)(i:Int)(u:Nat->È):é:=⟨#[Å<|Ã ⟨c,0,Ä⟩,Â Ë m,Ê a n b,ā,ā,ā,Å Ä,Å<|Ã ⟨B,0,Ä⟩,u 8,u 9,u 10,u 11,u 12,u 13,u 14,u 15,u 16,u 17,u 18,u 19,u 20,u 21,u 22,u 23,u 24,Ê a n b,Â Ë n,Â Ë i,u 28,u 29,u 30,u 31,u 32,u 33,u 34,u 35,u 36,u 37,u 38,u 39,u 40,u 41,u 42,u 43,u 44,u 45,u 46,u 47,u 48,u 49,u 50,u 51,u 52,u 53,u 54,u 55,u 56,u 57,u 58,u 59,u 60,u 61,u 62,u 63,u 64,u 65,u 66,u 67,u 68,u 69,u 70,u 71,u 72,u 73,u 74,u 75,u 76,u 77,u 78,u 79,u 80,u 81,u 82],[]⟩
def H9(b m B:Nat)(c:Option ă)(n d:Nat)(i:Int)(a:é):Prop:=∃u,a=zN b m B c n d i u
def QN(X Y:é->É->Prop):aT->é->É->Prop
 |.exit 0,a,w=>X a w
 |.ret,a,w=>Y a w
 |_,_,_=>False
section
variable{lv:È}{s d:St}{ls f:List (Nat×Int)}{c:List (Int×Bool)}
def To(j:Nat)(h:Int)(x:È):iW:=⟨j,139,[Â Ë h,x]⟩
def Tp(j:Nat)(h:Int)(x:È):(To j h x).Ok:=⟨by show(139:Nat)≠23;decide,by show(139:Nat)≠250;decide,by show(139:Nat)≠276;decide,by show(139:Nat)≠294;decide,by show(139:Nat)≠245;decide,by show(139:Nat)≠239;decide⟩
def NX.fO(a:NX j h lv x s ls c u w)(k:fe fi w W):NX j h lv x s ls c u W:= ⟨a.r.nY k id,ig a.C k λ_ _=>id,ig a.I k λ_ _=>id,a.M.fh k,a.N,a.S,a.Y⟩
def NX.xR(a:NX j h lv x s ls c u w)(r:iu (To j h x) lv ls.length w d f W v):NX j h v x d f c u W:=by
 have k:=a.r;refine⟨r.r,r.I,ig a.I r.C ?_,a.M.C r.C ?_,a.N,λb q=> ?_,a.Y⟩
 .rintro b i (q|q)
  .let⟨m,g⟩:=lY a.I i;have e:b=j:=q;rw[e,k]at g;cases g
  .exact ald a.I a.C A i q
 .rintro i g (q|q)
  .have:=a.N;have e:i=j:=q;omega
  .have:=a.S i q;omega
 .rcases r.l b q with e|e
  .exact a.S b e
  .exact ë a.M.M e
def NX.fx(a:NX j h lv x s ls c u w)(b:i<8)(v:Int):NX j h lv x (s.fx i v) ls c u (w.setCell ⟨j,i*18,Ä⟩<|Â Æ v):= a.xR<|(iu.fX (E:=To j h x) a.r a.C).fx (Tp _ _ _) b v
def U_(c:List (Int×Bool)):∀u∈uQ c,kq u=Ú:=λu a=>by unfold uQ at a;let⟨e,_,h⟩:=Α.1 a;simp at h;rcases h with rfl|rfl<;>rfl
def amR:(À.info? 239).map (λi=>(i.zero,i.size,i.bytes))=Ã (Ã<|Ē #[Â Æ 0,Ñ Ï],2,16):=fv
def NX.G(a:NX j h lv x s ls c u w):w.cell? ⟨j,146,Ä⟩=Ã x:= fj.r a.r 146 _<|by rw[ü (by rw[mK];omega),mK];rfl
def NX.amS{g:Int}(b:NX j h lv x s ls c u w)(a:qk w 0 239 2 x c.length (uQ c) 1 [Â Æ g,Ñ yQ] v W): NX j h lv x s ls c u W/\NX j h lv v s ls (c++[(g,yQ)]) u (W.setCell ⟨j,146,Ä⟩ v):=by
 have m:∀{i:Nat} {n:Array È} {T:õ},x.ownBlock=Ã i->w.heap[i]?=Ã (Ð n T (0,0))->T=239:=λ{i n T} q hc=>by let⟨k,e⟩:=lY b.I q;rw[hc]at e;cases e;rfl
 have o:=b.M.C a.r λi y q=>by have:=b.Y i q;omega
 have f:NX j h lv x s ls c u W:=⟨b.r.nY a.r λq=>absurd (m q b.r) A,ig b.C a.r (λd q r=>by let⟨k,e⟩:=lY b.C q;exact absurd (m r e) A),a.I _ _ _ b.I λ_=>Þ _,o,b.N,b.S,b.Y⟩;have t:W.ownsRow 0 239 2 v (c++[(g,yQ)]).length (uQ<|c++[(g,yQ)]):=by have:=a.ft;rwa[show uQ c++[Â Æ g,Ñ yQ]=uQ (c++[(g,yQ)]) by simp[uQ],show c.length+1=(c++[(g,yQ)]).length by simp]at this
 have l:fe (λk=>k=j) W (W.setCell ⟨j,146,Ä⟩ v):=fe.I (X:=λk=>k=j) (p:=⟨j,146,Ä⟩) U v<|Ù<|fj.G f.r;have k:=fj.fS f.r 146 v;rw[List.set_append_right _ _ (by rw[mK];omega),mK]at k;refine⟨f,k,ig f.C l λd q r=>jA f.C f.r A (by rw[q,r]),ig t l λd q r=>jA t f.r A (by rw[q,r]),o.C l λi y q=>by have:=b.N;omega,b.N,b.S,λd q=> ?_⟩;rcases a.C with e|e
 .exact b.Y d<|by rwa[<-e]
 .rw[e]at q;cases q;exact b.M.M
end
section
variable{X:é->É->Prop}{cp:Nat}{lv:È}{s:St}{ls:List (Nat×Int)}{c:List (Int×Bool)}
def amT(d:Nat->È)(e:NX j h lv x s ls c u w)(i:Int)(f:i=n) (g:∀a,H9 b m j O n cp i a->X a w): Î À H8 (Exit.then K<|QN X H) (zN b m j O n cp i d) w:=by
 unfold zN;conv=>arg 2;whnf
 subst f;go_wp2_with fail;exact g _ (gu _)
def amU(d:Nat->È)(f:NX j h lv x s ls c u w)(i:Int)(k:Nat)(q:i=k)(P:k<n)(Q:n<=1000)(tb o a:Nat)(r:O=Ã ⟨tb,o,Ä⟩)(S:w.cell? ⟨tb,o+k,Ä⟩=Ã (Å<|Ã ⟨a,0,Ä⟩))(t:Tx)(v:mb a t w)(y:t.Ok)(z:iM w)(B:gK s)(D:(ls.length:Int)+400<=1000000)(g:Int)(E:Bool)(F:St)(G:List (Nat×Int))(I:my s ls t=((g,E),Ï,F,G)) (J:∀a p,a.tmps.getD 6 ā=Å Ä->a.defers=[]->fe fi u p->H a p): Î À H8 (Exit.then K<|QN X H) (zN b m j O n cp i d) w:=by
 unfold zN;conv=>arg 2;whnf
 subst q r;have C:=Q_ (Tp _ _ _) (by show(139:Nat)≠193;decide) f.r f.C z B v y D;rw[I]at C;have T:(0:Int)<=(k:Int):=Z
 have V:(k:Int)<(n:Int):=Z
 have W:=fj.M f.r;have l:=fg<|Á f C;go_wp2_with fail;go_at_call 138;apply l.out.2.mono;rintro e Y ⟨rfl,zv,L⟩;have M:=l.out.1.xR L;have N:=fg M;go_wp2_with fail;exact J _ _ U U<|N.out.M.fh<|fe.gJ _ _ _ _
def amV(d:Nat->È)(f:NX j h lv x s ls c u w)(i:Int)(k:Nat)(V:i=k)(hj:k<n)(hn:n<=1000)(tb M a:Nat)(W:O=Ã ⟨tb,M,Ä⟩)(hc:w.cell? ⟨tb,M+k,Ä⟩=Ã (Å<|Ã ⟨a,0,Ä⟩))(t:Tx)(Y:mb a t w)(K7:t.Ok)(hr:iM w)(hs:gK s)(hlen:(ls.length:Int)+400<=1000000)(g:Int)(o:Bool)(z:St)(N:List (Nat×Int))(ho:my s ls t=((g,o),Ú,z,N))(P:m<8)(E:gK z)(xh:0<=g)(vT:g<=1000)(KG:c.length<=1000) (p:∀a v jz Tq,H9 b m j O n cp (i+1) a->NX j h jz Tq (z.fx m<|wu<|(z m).fx+g) N (c++[(g,o)]) u v->K a v): Î À H8 (Exit.then K<|QN X H) (zN b m j O n cp i d) w:=by
 unfold zN;conv=>arg 2;whnf
 subst V W;have C:=Q_ (Tp _ _ _) (by show(139:Nat)≠193;decide) f.r f.C hr hs Y K7 hlen;rw[ho]at C;have e1:(0:Int)<=(k:Int):=Z
 have e2:(k:Int)<(n:Int):=Z
 have auL:=fj.M f.r;have l:=fg<|Á f C;go_wp2_with fail;go_at_call 138;apply l.out.2.mono;rintro e r ⟨rfl,zv,r1⟩;have B:=l.out.1.xR r1;have m1:=B.r.fx P;have z1:=fj.C B.r<|m*18;have ED:=fj.M B.r;have b0:=(E.fx m).1;have b1:=(E.fx m).2;have hub:x.ownBlock≠Ã r.heap.size:=λq=>by have:=(B.I.lt _ q).2;omega
 have HX:=fg<|Á B E;generalize hb:(z m).fx=b at*;have hm0:(0:Int)<=(m:Int):=Z
 have hm1:(m:Int)<8:=Z
 go_wp2_with fail
 go_region
 have hx8:=(HX.out.1.fx P<|wu<|b+g).fO<|(fe.gJ fi _ #[Â Æ g,Ñ o] 239).fh<|fe.fU _ _;have hU:fj r.heap.size [Â Æ g,Ñ o] 239 (Č<|Ă (r.setCell ⟨j,m*18,Ä⟩<|Â Æ<|wu<|b+g)<|Ð #[Â Æ g,Ñ o] 239):=by
  have:=fj.N (r.setCell ⟨j,m*18,Ä⟩<|Â Æ<|wu<|b+g) [Â Æ g,Ñ o] 239;have y:fj r.heap.size [Â Æ g,Ñ o] 239 (Ă (r.setCell ⟨j,m*18,Ä⟩<|Â Æ<|wu<|b+g)<|Ð #[Â Æ g,Ñ o] 239):=by simpa using this
  exact y
 go_wp2_with fail
 change Î À _ _ _ (Č<|Ă (r.setCell ⟨j,m*18,Ä⟩<|Â Æ<|wu<|b+g)<|Ð #[Â Æ g,Ñ o] 239);generalize Č (Ă (r.setCell ⟨j,m*18,Ä⟩<|Â Æ<|wu<|b+g)<|Ð #[Â Æ g,Ñ o] 239)=w8 at*;generalize r.heap.size=ub at*;have Q:=hx8.fO<|fe.fU fi w8;have F:=hU.I (fe.fU fi w8) id;let⟨i0,hi0,H4,amW,amX⟩:=í amR;have D:=fg<|Á hi0<|Á H4<|Á amW amX;have HS:=fg<|Á Q.G<|Á (F.r 0 _ rfl)<|F.r 1 _ rfl;have S:=fg<|Á Q F;refine mr (λv=>v.cell? ⟨j,146,Ä⟩=Ã x/\v.cell? ⟨ub,0,Ä⟩=Ã (Â Æ g)/\v.cell? ⟨ub,1,Ä⟩=Ã (Ñ o)) [10] fv ?_;iterate 6 apply tk HS.out
 have G:=S.out.1.fO<|fe.gJ fi _ #[Â Æ g,Ñ o] 239;have I:=S.out.2.I (fe.gJ fi _ #[Â Æ g,Ñ o] 239) id;refine gE 6 ?_;intro K p;go_simp;refine p.out _ _ (λ_=>⟨G.G,I.r 0 _ U,I.r 1 _ U⟩) ?_;refine gE 7 ?_;intro K p;refine LC (hfl:=Ù ⟨fq,λd y=>(ú.1 y).elim (U_ c d) (λq=>by simp at q;rcases q with rfl|rfl<;>rfl),by simp[kq,ğ]⟩) fZ _ _ 137 fZ Tryz.underlying137 D.out.1 D.out.2.1 D.out.2.2.1 D.out.2.2.2 U fZ G.I ⟨_,0,Ä⟩ [Â Æ g,Ñ o] fZ Z U (Ŵ _ _ _ _) (λd y=>by simp at y;rcases y with rfl|rfl<;>rfl) (by unfold Ą;omega) Z (â _) ?_;intro uv1 w9 J;obtain⟨a2,U',rfl⟩:=jL J.ft;let⟨L,n2⟩:=G.amS J;have y:=I.I J.r hub;refine p.out _ _ (λ_=>⟨L.G,y.r 0 _ U,y.r 1 _ U⟩) ?_;have T:=L.G;have fz:=fj.C L.r 146;refine gE 8 ?_;intro K p;go_simp;refine p.out _ _ (λ_=>⟨T,y.r 0 _ U,y.r 1 _ U⟩) ?_;refine gE 9 ?_;intro K p;go_simp;refine p.out _ _ (λ_=>⟨T,y.r 0 _ U,y.r 1 _ U⟩) ?_;refine gE 10 ?_;intro K p;go_simp;refine p.out _ _ (λq=>absurd fq q) ?_;refine ma fv ?_ _;go_wp2_with fail;subst hb;exact p _ _ _ _ (gu _) n2
end
def uR(m:Nat):St->List (Nat×Int)->List (Int×Bool)->List Tx->Option (St×List (Nat×Int)×List (Int×Bool))
 |s,ls,us,[]=>Ã (s,ls,us)
 |s,ls,us,t::r=>if(my s ls t).2.1 then uR m ((my s ls t).2.2.1.fx m<|wu<|((my s ls t).2.2.1 m).fx+(my s ls t).1.1) (my s ls t).2.2.2 (us++[(my s ls t).1]) r else Ä
def amY{s:St}(b:gK s)(x y:Nat)(c:0<=h):gK (xU s x y h).2:=by
 unfold xU;split
 .exact b
 .rename_i a;have:=(b.fx x).2;exact(b.r x ⟨Z,Z⟩).r y<|zH _
def amZ{s:St}(a:gK s)(x:Nat)(e:B.size<=40/\∀c∈B.data.toList,xP c=Ú):gK (xV s x B).2:=by
 unfold xV;split
 .exact a
 .rename_i h;have:=(a.fx x).2;have d:=a.r x (b:=(s x).fx-20) ⟨Z,Z⟩;exact d.fS (d.fx x) (d.C x) e
structure V_(C:List (Nat×Int))(o:(Int×Bool)×Bool×St×List (Nat×Int)):Prop where
 g0:0<=o.1.1
 r:o.1.1<=400
 s:gK o.2.2.1
 C:o.2.2.2.length<=C.length+400
def am0{s:St}(f:gK s){d:List (Nat×Int)}(g:i<8)(l:j<8)(m:gk c)(p:(d.length:Int)+400<=1000000):V_ d (zL s d i j h c):=by
 unfold zL;split
 .exact⟨Ö _,by show(0:Int)<=400;decide,f,Ŀ _ _⟩
 .rename_i a;have q:=(f.fx i).2;have o:=f.r i (b:=(s i).fx-h) ⟨Z,Z⟩;have e:=LK _ d i j (h-10) c o g l m Z Z Z;have r:=e.C;have t:=e.r;have u:=e.I;exact⟨by show 0<=_+10;omega,by show _+10<=400;omega,e.N.r i<|zH _,by show(gf _ _ _ _ _ _).M.length<=_;omega⟩
def W_{s:St}(b:gK s){ls:List (Nat×Int)}{t:Tx}(a:t.Ok)(c:(ls.length:Int)+400<=1000000):V_ ls (my s ls t):=by
 unfold my;split
 .exact⟨by show(0:Int)<=10;decide,by show(10:Int)<=400;decide,amY b _ _ a.I,Ŀ _ _⟩
 .split
  .exact⟨by show(0:Int)<=20;decide,by show(20:Int)<=400;decide,amZ b _ a.N,Ŀ _ _⟩
  .exact am0 b a.x a.y ⟨a.r,by have:=a.C;omega⟩ c
structure Ce(bp:Option ă)(n:Nat)(gL:List (Nat×Tx))(w:É):Prop where
 r:n=gL.length
 C:∀(j a:Nat) (t:Tx),gL[j]?=Ã (a,t)->∃tb te,bp=Ã ⟨tb,te,Ä⟩/\w.cell? ⟨tb,te+j,Ä⟩=Ã (Å<|Ã ⟨a,0,Ä⟩)/\mb a t w/\t.Ok
def Ce.I{gL:List (Nat×Tx)}(h:Ce O n gL w)(k:fe fi w u):Ce O n gL u:= ⟨h.r,λj a t q=>by let⟨tb,b,c,d,e,f⟩:=h.C j a t q;exact⟨tb,b,c,k.r d id,e.S k id,f⟩⟩
def lM(gL:List (Nat×Tx)):List Tx:=gL.map (·.2)
section
variable{bp:Option ă}{cp:Nat}{gL:List (Nat×Tx)}{d:Option (St×List (Nat×Int)×List (Int×Bool))}
def Ts(n:Nat)(a:é)(_:É):Nat:=match a.tmps.getD 27 ā with
 |Â _ i=>n-i.toNat
 |_=>0
def NI(b m i:Nat)(bp:Option ă)(n cp:Nat)(h:Int)(u:É)(gL:List (Nat×Tx))(d:Option (St×List (Nat×Int)×List (Int×Bool)))(a:é)(w:É):Prop:=
 ∃(j:Nat) (s:St) (c:List (Nat×Int)) (e:List (Int×Bool)) (f g:È),H9 b m i bp n cp j a/\j<=n/\NX i h f g s c e u w/\gK s/\c.length<=400*j/\e.length=j/\uR m s c e ((lM gL).drop j)=d
def NE(b m i:Nat)(bp:Option ă)(n cp:Nat)(h:Int)(u:É)(d:Option (St×List (Nat×Int)×List (Int×Bool)))(a:é)(w:É):Prop:=
 ∃(s:St) (c:List (Nat×Int)) (e:List (Int×Bool)) (f g:È),H9 b m i bp n cp n a/\NX i h f g s c e u w/\gK s/\d=Ã (s,c,e)
def NR(u:É)(d:Option (St×List (Nat×Int)×List (Int×Bool)))(a:é)(w:É):Prop:=
 a.tmps.getD 6 ā=Å Ä/\a.defers=[]/\fe fi u w/\d=Ä
theorem am1(C:Ce bp n gL u)(K:iM u)(L:n<=1000)(V:m<8)(a:é)(w:É)(W:NI b m i bp n cp h u gL d a w): Î À H8 (Exit.then (λo q=>NI b m i bp n cp h u gL d o q/\Ts n o q<Ts n a w)<|QN (NE b m i bp n cp h u d)<|NR u d) a w:=by
 let⟨j,s,r,M,X,Y,hfr,hj,x,y,S3,KG,e⟩:=W;obtain⟨c,rfl⟩:=hfr;by_cases vz:j=n
 .have D:(lM gL).drop j=[]:=Ę (by unfold lM;rw[Ο,<-C.r];omega);rw[D]at e;refine amT c x j (by rw[vz]) λa v=>⟨s,r,M,X,Y,?_,x,y,e.symm⟩;grind
 .have E:j<n:=Z
  obtain⟨⟨a,t⟩,N⟩:∃p,gL[j]?=Ã p:=⟨_,Ô<|by rwa[<-C.r]⟩;have D:(lM gL).drop j=t::(lM gL).drop (j+1):=by
   have v:(lM gL)[j]?=Ã t:=by unfold lM;rw[Ķ,N];rfl
   grind [ē]
  let⟨tb,O,P,Q,S,F⟩:=(C.I x.M).C j a t N;have G:(r.length:Int)+400<=1000000:=Z
  have k:=W_ y F G;rw[D]at e;unfold uR at e;obtain⟨g,l,H,z,f,I⟩:∃g l H z f,my s r t=((g,l),H,z,f):=⟨_,_,_,_,_,U⟩;rw[I]at e k;have g0:=k.g0;have g1:g<=400:=k.r;have T:=k.s;have ED:f.length<=r.length+400:=k.C;cases H with
  |false=>
   simp only[ĭ,if_false]at e;exact amU c x j j U E L tb O a P Q t S F (K.r x.M id) y G g l z f I λo q B J v=>⟨B,J,v,e.symm⟩
  |true=>
   simp only[if_true]at e;refine amV c x j j U E L tb O a P Q t S F (K.r x.M id) y G g l z f I V T g0 Z Z λo q jz Tq B J=>⟨⟨j+1,_,f,M++[(g,l)],jz,Tq,by simpa using B,Z,J,T.r m<|zH _,Z,by simp[KG],e⟩,?_⟩;obtain⟨v,rfl⟩:=B;show n-((j:Int)+1).toNat<n-((j:Int)).toNat;omega
def vU(m:Nat)(s:St)(gL:List Tx):Option (St×List (Nat×Int)×List (Int×Bool)):=
 (uR m s [] [] gL).map λr=>(r.1.fx m<|wu<|(r.1 m).fx+50,r.2)
def EF(h:Int)(w:É)(r:Option (St×List (Nat×Int)×List (Int×Bool)))(e:ax)(a:É):Prop:=
 (r=Ä/\e=Ç (Å Ä)/\fe fi w a)\/
 ∃s b c i d f,r=Ã (s,b,c)/\e=Ç (Å<|Ã ⟨i,0,Ä⟩)/\NX i (h+1) d f s b c w a/\gK s
def am2{s:St}(e:mA b s h w)(Y:0<=h)(hh1:h<=1000)(y:gK s)(z:Ce bp n gL w)(B:iM w)(J:n<=1000)(f:m<8): Ò À 99 #[Å<|Ã ⟨b,0,Ä⟩,Â Ë m,Ê bp n cp] w (EF h w<|vU m s<|lM gL):=by
 let⟨M,C,D⟩:=Ì.1 Tn;have E:(À.info? 132).map (·.size)=Ã (iw s).length:=by rw[si];exact T_
 have k:=fg<|Á C<|Á D E;have F:=(e.r (fe.fU fi w) id).C;have G:=(e.r (fe.fU fi w) id).h;have oy:Ë.wrap (h+1)=h+1:=HZ Z Z;have c:=fg<|Á F G;have gT:=á w _ e.h;have L:∀l a,NX w.heap.size (h+1) (Ê Ä 0 0) (Ê Ä 0 0) s [] [] w l->H9 b m w.heap.size bp n cp 0 a->Î À (à H8) (QN (NE b m w.heap.size bp n cp (h+1) w<|uR m s [] []<|lM gL)<|NR w<|uR m s [] []<|lM gL) a l:=λl a x N=>
  Ĉ (NI b m w.heap.size bp n cp (h+1) w gL<|uR m s [] []<|lM gL) (Ts n) ⟨0,s,[],[],_,_,N,â _,x,y,fq,U,U⟩<|am1 z B J f
 have H:=fg<|Á e L;have I:vU m s (lM gL)=(uR m s [] []<|lM gL).map λr=>(r.1.fx m<|wu<|(r.1 m).fx+50,r.2):=U;rw[I];clear C D F G e E L y z B I;generalize uR m s [] [] (lM gL)=d at*;go_enter Tryz.func99,Tryz.ntmps99;go_wp2_with fail;refine mr (λg=>g.rangeAt b 0 (iw s)/\g.cell? ⟨b,145,Ä⟩=Ã (Â Ë h)) [] fv ?_;iterate 4 apply tk c.out
 refine HY (i:=4) (oi:={dst:=Ã 16,op:=Go.Op.load 132<|î 15,type:=132,pos:= "block.go:30",after:=#[{on:=3,ground:=ï}],guard:=Ä}) U fv fv fv fv (λ_ _ _ h=>h) c.out (yieldsIf_load_mid fZ 132 _ U b 0 U (iw s) M (λw h=>h.1) k.out.1 k.out.2.1 k.out.2.2) ?_;refine HY (i:=5) (oi:={dst:=Ã 17,op:=Χ 136 #[(0,î 16)],type:=136,pos:= "block.go:30",after:=#[{on:=4,ground:=ï}],guard:=Ä}) U fv fv fv fv (λ_ _ _ h=>h) c.out (Ø ⟨fZ,λ_ _=>Tm U U<|si s⟩) ?_;apply tk c.out 6;apply tk c.out 7;apply tk c.out 8;apply tk c.out 9;apply tk c.out 10;refine HY (i:=11) U fv fv fv fv (λ_ _ _ h=>h) c.out (Ø ⟨fZ,λ_ _=>amQ U U U (by simp[si]) U⟩) ?_;have g:=fg<|(H.out.1.r (fe.fU fi w) id).r (fe.gJ fi _ ((iw s++[Ê Ä 0 0])++[Â Ë<|h+1,Ê Ä 0 0]).toArray 139) id;refine gE 12 ?_;intro K o;rw[if_pos fZ];unfold Ń;rw[S' U U,Ħ];refine o.out _ _ (λ_=>⟨g.out.C,g.out.h⟩) ?_;refine gE 13 ?_;intro K o;go_simp;refine o.out _ _ (λ_=>⟨g.out.C,g.out.h⟩) ?_;refine ma fv ?_ _;go_wp2_with fail;have O:=NX.iZ w s<|h+1;refine Ý ?_ (H.out.2 _ _ O (gu _));rintro(_|(_|_)|_|_|_|_) a v hq;all_goals first|exact absurd hq id|skip
 .let⟨p,P,Q,S,T,V,j,q,W⟩:=hq;subst W;have d1:=j.r.fx f;have f1:=fj.C j.r<|m*18;have ED:=fj.M j.r;have b0:=(q.fx m).1;have b1:=(q.fx m).2;have hm0:(0:Int)<=(m:Int):=Z
  have hm1:(m:Int)<8:=Z
  have t:=fg<|Á j q;generalize X:(p m).fx=b at*;obtain⟨u,rfl⟩:=V;unfold zN;go_wp2_with fail;go_region;go_wp2_with fail;go_ret;refine Ù ⟨p.fx m<|wu<|(p m).fx+50,P,Q,w.heap.size,S,T,U,U,?_,t.out.2.r m<|zH _⟩;rw[X];first
   |exact(t.out.1.fx f<|wu<|b+50).fO<|fe.fU _ _
   |exact(t.out.1.still<|Keep.drew _ _).fx f<|wu<|b+50
 .let⟨j,p,q,t⟩:=hq;simp only[Exit.inBlock,Exit.then];apply ð (results_tmp U _ _ _) p;exact Ø ⟨by rw[t];rfl,by rw[j],q⟩
end
def oD(i:Nat):ByteArray:=if i<10 then⟨#[(48+i).toUInt8]⟩else⟨#[(48+i/10).toUInt8,(48+i%10).toUInt8]⟩
def am3:∀k:Fin 10,(⟨#[48,49,50,51,52,53,54,55,56,57,97,98,99,100,101,102,103,104,105,106,107,108,109,110,111,112,113,114,115,116,117,118,119,120,121,122]⟩:ByteArray).extract k.val (k.val+1)=oD k.val:=by decide+kernel
def am4:∀k:Fin 100,k.val<10\/(⟨#[48,48,48,49,48,50,48,51,48,52,48,53,48,54,48,55,48,56,48,57,49,48,49,49,49,50,49,51,49,52,49,53,49,54,49,55,49,56,49,57,50,48,50,49,50,50,50,51,50,52,50,53,50,54,50,55,50,56,50,57,51,48,51,49,51,50,51,51,51,52,51,53,51,54,51,55,51,56,51,57,52,48,52,49,52,50,52,51,52,52,52,53,52,54,52,55,52,56,52,57,53,48,53,49,53,50,53,51,53,52,53,53,53,54,53,55,53,56,53,57,54,48,54,49,54,50,54,51,54,52,54,53,54,54,54,55,54,56,54,57,55,48,55,49,55,50,55,51,55,52,55,53,55,54,55,55,55,56,55,57,56,48,56,49,56,50,56,51,56,52,56,53,56,54,56,55,56,56,56,57,57,48,57,49,57,50,57,51,57,52,57,53,57,54,57,55,57,56,57,57]⟩:ByteArray).extract (k.val*2) (k.val*2+2)=oD k.val:=by decide+kernel
theorem am5(i:Nat)(h:i<10)(w:É):Ò À 171 #[Â Ë i] w λe a=>e=Ç (Í<|oD i)/\a=w:=by
 go_enter Ź,π;go_wp2;all_goals go_ret
 refine⟨c_<|am3 ⟨i,h⟩,U⟩
theorem am6(i:Nat)(h:i<100)(b:10<=i)(w:É):Ò À 171 #[Â Ë i] w λe a=>e=Ç (Í<|oD i)/\a=w:=by
 go_enter Ź,π;go_wp2;all_goals go_ret
 refine⟨c_ ((am4 ⟨i,h⟩).resolve_left<|by show¬i<10;omega),U⟩
theorem am7(i:Nat)(h:i<100)(w:É):Ò À 171 #[Â Ë i] w λe a=>e=Ç (Í<|oD i)/\a=w:=by grind [am5,am6]
def am8(i:Nat)(h:i<100)(w:É):Ò À 155 #[Â Ë i,Â Ë 10] w λe a=>e=Ç (Í<|oD i)/\a=w:=by go_enter Tryz.func155,Tryz.ntmps155;go_wp2_with (go_at_call 171;refine(am7 i h _).mono ?_;rintro e a ⟨rfl,rfl⟩);go_ret;exact⟨U,U⟩
def X_(i:Nat)(h:i<100)(w:É):Ò À 101 #[Â Ë i] w λe a=>e=Ç (Í<|oD i)/\a=w:=by
 go_enter Tryz.func101,Tryz.ntmps101;go_wp2_with (first
  |(go_at_call 155;refine(am8 i h _).mono ?_;rintro e a ⟨rfl,rfl⟩)
  |go_in)
 go_ret;exact⟨U,U⟩
def nV(i:Nat):ByteArray:=⟨#[33]⟩++oD i
def EG(i:Nat)(h:i<10)(w:É):Ò À 98 #[Â Ë i] w λe a=>e=Ç (Í<|nV i)/\a=w:=by
 have b:(oD i).size=1:=by unfold oD;rw[if_pos h];rfl
 go_enter Tryz.func98,Tryz.ntmps98;go_wp2_with (go_at_call 101;refine(X_ i Z _).mono ?_;rintro e a ⟨rfl,rfl⟩);go_ret;exact⟨U,U⟩
def tb(n c:Nat):Nat:=(n^^^c)*1099511628211%18446744073709551616
def LO(n c:Nat):tb n c<18446744073709551616:=aO _ Z
def X'(n c:Nat)(a:n<18446744073709551616)(f:c<256)(w:É):Ò À 162 #[Â Æ n,Â aU c] w λe b=>e=Ç (Â Æ<|tb n c)/\b=w:=by
 go_enter Tryz.func162,Tryz.ntmps162;go_wp2_with fail;go_ret;refine⟨?_,U⟩;have d:Æ.wrap (((n^^^c:Nat):Int)*1099511628211)=((tb n c:Nat):Int):=by rw[aY];unfold tb;omega
 rw[bits_xor_u64_nat n c a Z,d];rfl
def tn(m:Nat):Nat->Nat->Nat
 |n,0=>n
 |n,j+1=>tn m (tb n<|m/2^(8*j)%256) j
def Y_(m:Nat):∀(j n:Nat),n<18446744073709551616->tn m n j<18446744073709551616
 |0,_,h=>h
 |j+1,_,_=>Y_ m j _<|LO _ _
noncomputable def LP:ŏ:=(Tryz.f161.body.bind kz).getD ĵ
def EH(m n:Nat)(i:Int)(u:Nat->È):é:=⟨#[Â Æ n,Â Æ m,u 2,u 3,u 4,Â Ë i,u 6,u 7,u 8,u 9,u 10,u 11,u 12,u 13,u 14,u 15,u 16],[]⟩
def EI(m n:Nat)(i:Int)(a:é):Prop:=∃u,a=EH m n i u
section
variable{X:é->É->Prop}
def am9(m n j:Nat)(f:j<8)(d:n<18446744073709551616)(g:m<18446744073709551616)(u:Nat->È)(b:∀a,EI m (tb n<|m/2^(8*j)%256) (((8*j:Nat):Int)-8) a->K a w): Î À LP (Exit.then K<|QQ X) (EH m n (8*j:Nat) u) w:=by
 unfold EH;conv=>arg 2;whnf
 have i:(0:Int)<=((8*j:Nat):Int):=Z
 have k:((8*j:Nat):Int)<64:=Z
 have T:=X' n (m/2^(8*j)%256) d Z w;generalize 8*j=j8 at*;have c:((m/2^j8%256:Nat):Int)=(m:Int)/2^j8%256:=fq
 rw[c]at T;have H:=fg<|Á T b;clear T b c;go_wp2_with (go_at_call 162;apply H.out.1.mono;rintro e l ⟨rfl,rfl⟩);exact H.out.2 _ (gu _)
def ana(m n:Nat)(u:Nat->È)(b:∀a,EI m n (-8) a->X a w): Î À LP (Exit.then K<|QQ X) (EH m n (-8) u) w:=by
 unfold EH;conv=>arg 2;whnf
 go_wp2_with fail
 exact b _ (gu _)
def TI(m:Nat)(b:É)(c:Nat)(a:é)(w:É):Prop:=∃n j:Nat,EI m n (((8*j:Nat):Int)-8) a/\j<=8/\n<18446744073709551616/\w=b/\tn m n j=c
def TE(m:Nat)(b:É)(c:Nat)(a:é)(w:É):Prop:=EI m c (-8) a/\w=b
def LQ(a:é)(_:É):Nat:=match a.tmps.getD 5 ā with
 |Â _ i=>(i+8).toNat
 |_=>0
def Z_(b:EI m n h y):LQ y w=(h+8).toNat:=by obtain⟨u,rfl⟩:=b;rfl
def anb(f:m<18446744073709551616)(a:é)(w:É)(g:TI m u i a w): Î À LP (Exit.then (λb e=>TI m u i b e/\LQ b e<LQ a w)<|QQ<|TE m u i) a w:=by
 obtain⟨n,j,c,k,h,rfl,d⟩:=g;rw[Z_ (w:=w) c];obtain⟨b,rfl⟩:=c;cases j with
 |zero=>
  subst d;exact ana m n b λa q=>⟨q,U⟩
 |succ j=>
  have e:(((8*(j+1):Nat):Int)-8)=((8*j:Nat):Int):=Z
  rw[e];refine am9 m n j Z h f b λa q=>⟨⟨_,j,q,Z,LO _ _,U,d⟩,?_⟩;rw[Z_ q];omega
end
def oE(n m:Nat):Nat:=tn m n 8
theorem EJ(n m:Nat)(a:n<18446744073709551616):oE n m<18446744073709551616:=Y_ m 8 n a
def Ia(n m:Nat)(b:n<18446744073709551616)(c:m<18446744073709551616)(w:É):Ò À 161 #[Â Æ n,Â Æ m] w λe d=>e=Ç (Â Æ<|oE n m)/\d=w:=by
 have L:∀a,EI m n 56 a->Î À (à LP) (QQ<|TE m w<|oE n m) a w:=λa f=>
  Ĉ (TI m w<|oE n m) LQ ⟨n,8,f,Þ _,b,U,U⟩<|anb c
 generalize oE n m=r at*;go_enter Tryz.func161,Tryz.ntmps161;go_wp2_with fail;refine Ý ?_ ((fg L).out _ (gu _));rintro(_|(_|_)|_|_|_|_) a v hq;all_goals first|exact absurd hq id|skip
 obtain⟨g,rfl⟩:=hq;obtain⟨u,rfl⟩:=g;unfold EH;go_wp2_with fail;go_ret;exact⟨U,U⟩
def Ib(p q:Nat):Nat:=oE (oE 14695981039346656037 p) q
def anc(p q:Nat):Ib p q<18446744073709551616:=EJ _ _<|EJ _ _ Z
noncomputable def Ic:ŏ:=(Tryz.f146.body.bind kz).getD ĵ
noncomputable def Ie:ŏ:=(kz Ic).getD ĵ
def Q2(X:é->É->Prop):aT->é->É->Prop
 |.exit 2,a,w=>X a w
 |_,_,_=>False
def vH(b c d:Nat)(a:Nat)(i:Int)(u:Nat->È):é:=⟨#[Ê (Ã ⟨b,0,Ä⟩) c d,u 1,u 2,Â Ë a,u 4,u 5,u 6,u 7,u 8,u 9,u 10,Â Ë a,Â Ë i,u 13,u 14,u 15,u 16,u 17,u 18,u 19,u 20,u 21,u 22,u 23,u 24,u 25,u 26,u 27,u 28,u 29,u 30,u 31,u 32,u 33,u 34,u 35,u 36,u 37],[]⟩
def Cf(b c d:Nat)(e:Nat)(i:Int)(a:é):Prop:=∃u,a=vH b c d e i u
section
variable{X:é->É->Prop}{cp:Nat}
def ane(u:Nat->È)(c:∀a,Cf b n cp i i a->X a w): Î À Ie (Exit.then K<|Q2 X) (vH b n cp i i u) w:=by
 unfold vH;conv=>arg 2;whnf
 go_wp2_with fail
 exact c _ (gu _)
def anf(c p q z:Nat)(l:Ib p q=z)(x:c<i)(y:2*i<=n)(B:n<=16)(m:p<18446744073709551616)(o:q<18446744073709551616)(u:Nat->È) (r:w.cell? ⟨b,2*c,Ä⟩=Ã (Â Æ p)) (s:w.cell? ⟨b,2*c+1,Ä⟩=Ã (Â Æ q)) (j:∃v,w.cell? ⟨b,c,Ä⟩=Ã v) (C:w.frozen? ⟨b,c,Ä⟩=Ï) (d:∀a,Cf b n cp i ((c+1:Nat):Int) a->K a (w.setCell ⟨b,c,Ä⟩<|Â Æ z).drew): Î À Ie (Exit.then K<|Q2 X) (vH b n cp i c u) w:=by
 unfold vH;conv=>arg 2;whnf
 subst l;unfold Ib at d;let⟨D,j⟩:=j;have E:(0:Int)<=(c:Int):=Z
 have F:(c:Int)<(i:Int):=Z
 have G:(2:Int)*(c:Int)+1<(n:Int):=Z
 have H:((2:Int)*(c:Int)).toNat=2*c:=Z
 have I:((2:Int)*(c:Int)+1).toNat=2*c+1:=Z
 have J:Ë.wrap (2*(c:Int))=2*(c:Int):=HZ Z Z;have k:Ë.wrap (2*(c:Int)+1)=2*(c:Int)+1:=HZ Z Z;have L:(0:Int)<=2*(c:Int):=Z
 have M:2*(c:Int)<(n:Int):=Z
 have N:(0:Int)<=2*(c:Int)+1:=Z
 have O:(c:Int)<(n:Int):=Z
 have t:=fg d;clear d;go_wp2_with fail;have f:=fg<|Á r s;refine mr (λe=>e.cell? ⟨b,2*c,Ä⟩=Ã (Â Æ p)/\e.cell? ⟨b,2*c+1,Ä⟩=Ã (Â Æ q)) [16] fv ?_;iterate 7 apply tk f.out
 apply tk f.out 8;apply tk f.out 9;apply tk f.out 10;apply tk f.out 11;apply tk f.out 12;apply tk f.out 13;refine gE 7 ?_;intro K d;go_simp;go_at_call 161;refine(Ia 14695981039346656037 p Z m _).mono ?_;rintro e g ⟨rfl,k⟩;subst g;refine d.out _ _ (λ_=>f.out) ?_;refine gE 14 ?_;intro K d;go_simp;go_at_call 161;refine(Ia (oE 14695981039346656037 p) q (EJ _ _ Z) o _).mono ?_;rintro e g ⟨rfl,k⟩;subst g;refine d.out _ _ (λ_=>f.out) ?_;refine gE 15 ?_;intro K d;go_simp;refine d.out _ _ (λ_=>f.out) ?_;refine gE 16 ?_;intro K d;go_simp;refine d.out _ _ (λq=>absurd fq q) ?_;refine ma fv ?_ _;go_wp2_with fail;exact t.out _ (gu _)
end
def pr(l:List Nat)(t:Nat):Nat:=Ib (l.getD (2*t) 0)<|l.getD (2*t+1) 0
def Z'(l:List Nat)(t:Nat):Ib (l.getD (2*t) 0) (l.getD (2*t+1) 0)=pr l t:=by unfold pr;exact Eq.refl _
def jS(l:List Nat)(i:Nat):List Nat:=(ċ l.length).map λt=>if t<i then pr l t else l.getD t 0
def uS(l:List Nat):List Nat:=(ċ<|l.length/2).map<|pr l
def kA(l:List Nat):List È:=l.map λ(x:Nat)=>Â Æ x
def sj(l:List Nat):Prop:=∀t,l.getD t 0<18446744073709551616
theorem Ig(l:List Nat)(i:Nat):(jS l i).length=l.length:=by simp[jS]
theorem LU(l:List Nat)(i t:Nat)(h:t<l.length):(jS l i)[t]?=Ã (if t<i then pr l t else l.getD t 0):=by simp[jS,û h]
theorem ang(l:List Nat):jS l 0=l:=by refine ý λt=> ?_;grind [LU,Ig]
theorem anh(l:List Nat)(i:Nat)(h:i<l.length):(jS l i).set i (pr l i)=jS l (i+1):=by refine ý λt=> ?_;grind [LU,Ig,ĕ]
theorem ani(l:List Nat):jS l (l.length/2)=uS l++l.drop (l.length/2):=by
 refine ý λt=> ?_;have b:(uS l).length=l.length/2:=by simp[uS]
 by_cases a:t<l.length
 .rw[LU _ _ t a];by_cases q:t<l.length/2
  .rw[if_pos q,ç Z];simp[uS,û q]
  .grind
 .grind [Ig,Ó,List.length_drop]
def anj(l:List Nat)(t:Nat):pr l t<18446744073709551616:=by rw[<-Z'];exact anc _ _
def LV{N:Nat}(a:0<N)(h:∀x∈jJ,x<N)(t:Nat):jJ.getD t 0<N:=by
 rw[Ĳ];cases e:jJ[t]? with
 |none=>exact a
 |some x=>exact h x<|Ġ e
def aac(l:List Nat):sj (uS l):=LV Z λx a=>by unfold uS at a;obtain⟨t,_,rfl⟩:=ņ.1 a;exact anj l t
def sk:Nat->List Nat->Nat
 |0,l=>l.getD 0 0
 |k+1,l=>sk k<|uS l
def Tt(l:List Nat)(i x:Nat):kA (l.set i x)=(kA l).set i (Â Æ x):=by simp[kA,List.map_set]
theorem Ih(l:List Nat)(i x:Nat)(h:l[i]?=Ã x):(kA l)[i]?=Ã (Â Æ x):=by simp[kA,h]
section
variable{cp:Nat}{l:List Nat}{junk:List È}
def II(b n cp i:Nat)(T:õ)(l:List Nat)(junk:List È)(d:É)(a:é)(w:É):Prop:=
 ∃c:Nat,Cf b n cp i c a/\c<=i/\fe (λk=>k=b) d w/\fj b (kA (jS l c)++junk) T w
def IE(b n cp i:Nat)(T:õ)(l:List Nat)(junk:List È)(c:É)(a:é)(w:É):Prop:=
 Cf b n cp i i a/\fe (λk=>k=b) c w/\fj b (kA (jS l i)++junk) T w
def LW(i:Nat)(a:é)(_:É):Nat:=match a.tmps.getD 12 ā with
 |Â _ b=>i-b.toNat
 |_=>0
def aad(c:Cf b n cp i j y):LW i y w=i-j:=by obtain⟨u,rfl⟩:=c;show i-(j:Int).toNat=_;simp
def ank(g:sj l)(r:l.length=n)(s:2*i=n)(m:n<=16)(a:é)(w:É)(o:II b n cp i T l junk u a w): Î À Ie (Exit.then (λc d=>II b n cp i T l junk u c d/\LW i c d<LW i a w)<|Q2<|IE b n cp i T l junk u) a w:=by
 let⟨c,h,v,j,e⟩:=o;rw[aad h];obtain⟨d,rfl⟩:=h;by_cases p:c=i
 .subst p;exact ane d λa q=>⟨q,j,e⟩
 .have f:=λt x y=>
   e.r t _<|by rw[ç (by simp[kA,Ig];omega)];exact Ih _ _ _<|by rw[LU l c t Z,if_neg Z]
  refine anf c (l.getD (2*c) 0) (l.getD (2*c+1) 0) (pr l c) (Z' l c) Z Z m (g _) (g _) d (f _ Z Z) (f _ Z Z) ⟨_,f c Z Z⟩ (e.C c) λa q=>⟨⟨c+1,q,Z,(j.fh<|fe.I (X:=λk=>k=b) U _).fh<|fe.fU _ _,?_⟩,by rw[aad q];omega⟩;rw[<-anh l c Z,Tt,<-Ğ _ _ (by simp[kA,Ig];omega)];exact((e.fS c<|Â Æ<|pr l c).I (fe.fU fi _) id)
def anl(c:sj l)(d:l.length=n)(e:2*i=n)(f:n<=16)(g:fj b (kA l++junk) T w)(h:Cf b n cp i (0:Nat) y): Î À (à Ie) (Q2<|IE b n cp i T l junk w) y w:= Ĉ (II b n cp i T l junk w) (LW i) ⟨0,h,â _,fe.fX _ _,by rwa[ang]⟩<|ank c d e f
end
def EK(b a c:Nat)(u:Nat->È):é:=⟨#[Ê (Ã ⟨b,0,Ä⟩) a c,u 1,u 2,u 3,u 4,u 5,u 6,u 7,u 8,u 9,u 10,u 11,u 12,u 13,u 14,u 15,u 16,u 17,u 18,u 19,u 20,u 21,u 22,u 23,u 24,u 25,u 26,u 27,u 28,u 29,u 30,u 31,u 32,u 33,u 34,u 35,u 36,u 37],[]⟩
def EL(b c d:Nat)(a:é):Prop:=∃u,a=EK b c d u
section
variable{cp:Nat}{l:List Nat}{junk:List È}
def anm(c:n=1)(u:Nat->È)(d:∀a,EL b n cp a->H a w): Î À Ic (Exit.then K<|QQ H) (EK b n cp u) w:=by
 unfold EK;conv=>arg 2;whnf
 subst c;go_wp2_with fail;exact d _ (gu _)
def ano(u:Nat->È)(g:sj l)(j:l.length=n)(m:2*i=n)(t:0<i)(o:n<=16)(x:n<=cp)(d:fj b (kA l++junk) T w) (p:∀a e,EL b i cp a->fe (λk=>k=b) w e->fj b (kA (jS l i)++junk) T e->K a e): Î À Ic (Exit.then K<|QQ H) (EK b n cp u) w:=by
 have L:∀a,Cf b n cp i (0:Nat) a->Î À (à Ie) (Q2<|IE b n cp i T l junk w) a w:=λa q=>anl g j m o d q;unfold EK;conv=>arg 2;whnf
 have y:(n:Int).tdiv 2=(i:Int):=by rw[Int.tdiv_eq_ediv_of_nonneg Z];omega
 have z:(0:Int)<=(i:Int):=Z
 have B:(i:Int)<=(cp:Int):=Z
 have c:=fg<|Á L p;go_wp2_with fail;refine Ý ?_ (c.out.1 _ (gu _));rintro(_|(_|_|_|_)|_|_|_|_) a v hq;all_goals first|exact absurd hq id|skip
 let⟨r,s,d⟩:=hq;obtain⟨u,rfl⟩:=r;unfold vH;have f:=fg<|Á s d;go_wp2_with fail;exact c.out.2 _ _ (gu _) f.out.1 f.out.2
def OI(b cp:Nat)(T:õ)(c:É)(d:Nat)(a:é)(w:É):Prop:=
 ∃(k:Nat) (l:List Nat) (junk:List È),EL b l.length cp a/\l.length=2^k/\l.length<=16/\l.length<=cp/\sj l/\fe (λk=>k=b) c w/\fj b (kA l++junk) T w/\sk k l=d
def OE(b cp:Nat)(c:É)(d:Nat)(a:é)(w:É):Prop:=EL b 1 cp a/\1<=cp/\fe (λk=>k=b) c w/\w.cell? ⟨b,0,Ä⟩=Ã (Â Æ d)
def xW(a:é)(_:É):Nat:=match a.tmps.getD 0 ā with
 |Ê _ n _=>n
 |_=>0
def Ii(c:EL b n cp y):xW y w=n:=by obtain⟨u,rfl⟩:=c;rfl
def anp(a:é)(w:É)(r:OI b cp T u i a w): Î À Ic (Exit.then (λc d=>OI b cp T u i c d/\xW c d<xW a w)<|QQ<|OE b cp u i) a w:=by
 let⟨k,l,junk,g,h,s,t,v,j,m,n⟩:=r;rw[Ii g];obtain⟨c,rfl⟩:=g;cases k with
 |zero=>
  have e:=h;have f:w.cell? ⟨b,0,Ä⟩=Ã (Â Æ<|l.getD 0 0):=m.r 0 _ (by rw[ç (by simp[kA];omega)];exact Ih _ _ _<|by rw[Ĳ,Ô Z];rfl);have o:l.getD 0 0=i:=n;rw[o]at f;refine anm e c λa q=>⟨by rwa[e]at q,Z,j,f⟩
 |succ k=>
  have x:2*2^k=l.length:=by rw[h,Nat.pow_succ];omega
  have y:0<2^k:=Nat.pow_pos Z;have f:l.length/2=2^k:=Z
  have o:(uS l).length=2^k:=by simp[uS,f]
  refine ano c v U x y s t m λa d q z p=>⟨⟨k,uS l,kA (l.drop<|l.length/2)++junk,by rwa[o],o,Z,Z,aac l,j.fh z,?_,n⟩,by rw[Ii q];omega⟩;have e:=ani l;rw[f]at e;rw[e]at p;rw[f,<-Ċ];simpa[kA]using p
end
def aae{cp:Nat}{l:List Nat}{junk:List È}(c:l.length=2^k)(d:l.length<=16)(f:l.length<=cp)(g:sj l)(j:fj b (kA l++junk) T w): Ò À 146 #[Ê (Ã ⟨b,0,Ä⟩) l.length cp] w λe a=>e=Ç (Â Æ<|sk k l)/\fe (λi=>i=b) w a:=by
 have L:∀a,EL b l.length cp a->Î À (à Ic) (QQ<|OE b cp w<|sk k l) a w:=λa e=>
  Ĉ (OI b cp T w<|sk k l) xW ⟨k,l,junk,e,c,d,f,g,fe.fX _ _,j,U⟩ anp
 generalize sk k l=r at*;generalize l.length=n at*;go_enter Tryz.func146,Tryz.ntmps146;go_wp2_with fail;refine Ý ?_ ((fg L).out _ (gu _));rintro(_|(_|_)|_|_|_|_) a v hq;all_goals first|exact absurd hq id|skip
 let⟨i,m,o,p⟩:=hq;obtain⟨u,rfl⟩:=i;unfold EK;go_wp2_with fail;go_ret;simp_all
def anq:À.underlying 109=Ã (.array 16 23):=fv
def anr(w:É)(c:i<16)(e:d[i]?=Ã (Â Æ h)):(Ι 109 (Ē d)<|Â Ë (i:Int)).run À w=φ (Â Æ h) w:=by
 have a:(0:Int)<=(i:Int):=Z
 have b:(i:Int)<16:=Z
 simp[Ι,ř anq,asIntOf,go_sem,a,b];go_simp
noncomputable def Ij:ŏ:=(aZ.body.bind kz).getD ĵ
def EM(c o b:Nat)(a:Array È)(i:Int)(u:Nat->È):é:=⟨#[Å<|Ã ⟨c,o,Ä⟩,u 1,u 2,Å<|Ã ⟨b,0,Ä⟩,u 4,u 5,u 6,u 7,u 8,u 9,u 10,Ē a,Â Ë i,u 13,u 14,u 15,u 16,u 17,u 18,u 19,u 20,u 21,u 22,u 23,u 24,u 25,u 26,u 27,u 28,u 29,u 30,u 31,u 32,u 33,u 34,u 35,u 36,u 37,u 38,u 39,u 40,u 41,u 42,u 43,u 44,u 45,u 46,u 47],[]⟩
def Cg(d o b:Nat)(c:Array È)(i:Int)(a:é):Prop:=∃u,a=EM d o b c i u
section
variable{X:é->É->Prop}
def ant(u:Nat->È)(c:∀a,Cg n i b d 16 a->X a w): Î À Ij (Exit.then K<|QQ X) (EM n i b d 16 u) w:=by
 unfold EM;conv=>arg 2;whnf
 go_wp2_with fail
 exact c _ (gu _)
def anu(c p z:Nat)(k:oE 14695981039346656037 p=z)(l:c<16)(m:p<18446744073709551616)(f:d[c]?=Ã (Â Æ p))(g:∃v,w.cell? ⟨b,c,Ä⟩=Ã v)(q:w.frozen? ⟨b,c,Ä⟩=Ï)(u:Nat->È) (j:∀a,Cg n i b d ((c+1:Nat):Int) a->K a (w.setCell ⟨b,c,Ä⟩<|Â Æ z)): Î À Ij (Exit.then K<|QQ X) (EM n i b d c u) w:=by
 unfold EM;conv=>arg 2;whnf
 let⟨r,g⟩:=g;have s:=λW=>anr W l f;have o:=fg j;clear j f;go_wp2_with (go_at_call 161;refine(Ia 14695981039346656037 p Z m _).mono ?_;rintro e t ⟨rfl,rfl⟩;rw[k]);exact o.out _ (gu _)
def lf(x:Nat):Nat:=oE 14695981039346656037 x
theorem LX(x:Nat):lf x<18446744073709551616:=EJ _ _ Z
def aaf(x:Nat):oE 14695981039346656037 x=lf x:=by unfold lf;exact Eq.refl _
def oF(l:List Nat)(i:Nat):List Nat:=(ċ 16).map λt=>if t<i then lf (l.getD t 0)else 0
theorem Ik(l:List Nat)(i:Nat):(oF l i).length=16:=by simp[oF]
theorem aag(l:List Nat)(i t:Nat)(h:t<16):(oF l i)[t]?=Ã (if t<i then lf (l.getD t 0)else 0):=by simp[oF,û h]
theorem anv(l:List Nat)(i:Nat)(h:i<16):(oF l i).set i (lf<|l.getD i 0)=oF l (i+1):=by refine ý λt=> ?_;grind [aag,Ik,ĕ]
def aah(l:List Nat):sj (oF l 16):=LV Z λx a=>by
 unfold oF at a;obtain⟨t,_,rfl⟩:=ņ.1 a;split
 .exact LX _
 .omega
def AI(n i b:Nat)(l:List Nat)(d:É)(a:é)(w:É):Prop:=
 ∃c:Nat,Cg n i b (kA l).toArray c a/\c<=16/\fe (λk=>k=b) d w/\fj b (kA<|oF l c) 109 w
def AE(n i b:Nat)(l:List Nat)(c:É)(a:é)(w:É):Prop:=
 Cg n i b (kA l).toArray 16 a/\fe (λk=>k=b) c w/\fj b (kA<|oF l 16) 109 w
def LY(a:é)(_:É):Nat:=match a.tmps.getD 12 ā with
 |Â _ i=>16-i.toNat
 |_=>0
def aai(c:Cg n i b d j y):LY y w=16-j:=by obtain⟨u,rfl⟩:=c;show 16-(j:Int).toNat=_;simp
theorem anw(h:sj jJ)(p:jJ.length=16)(a:é)(w:É)(j:AI n i b jJ u a w): Î À Ij (Exit.then (λc d=>AI n i b jJ u c d/\LY c d<LY a w)<|QQ<|AE n i b jJ u) a w:=by
 let⟨c,f,r,g,e⟩:=j;rw[aai f];obtain⟨d,rfl⟩:=f;by_cases m:c=16
 .subst m;exact ant d λa q=>⟨q,g,e⟩
 .have o:(kA jJ).toArray[c]?=Ã (Â Æ<|jJ.getD c 0):=by
   grind [Ih]
  refine anu c (jJ.getD c 0) (lf<|jJ.getD c 0) (aaf _) Z (h _) o ⟨_,(e.r c _<|Ih _ _ _<|by rw[aag jJ c c Z,if_neg Z])⟩ (e.C c) d λa q=>⟨⟨c+1,q,Z,g.fh (fe.I (X:=λk=>k=b) U _),?_⟩,by rw[aai q];omega⟩;rw[<-anv jJ c Z,Tt];exact e.fS c<|Â Æ<|lf<|jJ.getD c 0
def anx{l:List Nat}(c:sj l)(d:l.length=16)(e:fj b (kA<|oF l 0) 109 w)(f:Cg n i b (kA l).toArray (0:Nat) y): Î À (à Ij) (QQ<|AE n i b l w) y w:= Ĉ (AI n i b l w) LY ⟨0,f,â _,fe.fX _ _,e⟩<|anw c d
end
def Ch:ŏ->List ŏ
 |à c=>[c]
 |.seq a b=>Ch a++Ch b
 |.block _ c=>Ch c
 |.scope c=>Ch c
 |.cond _ a b=>Ch a++Ch b
 |_=>[]
noncomputable def Il:ŏ:=((aZ.body.map Ch).getD []).getD 1 ĵ
def EN(a o:Nat)(P:ByteArray)(n:Nat)(i:Int)(u:Nat->È):é:=⟨#[Å<|Ã ⟨a,o,Ä⟩,u 1,u 2,u 3,u 4,u 5,Â Æ n,u 7,u 8,u 9,u 10,u 11,u 12,u 13,u 14,u 15,u 16,u 17,u 18,u 19,u 20,u 21,u 22,u 23,u 24,u 25,u 26,u 27,u 28,u 29,u 30,u 31,u 32,u 33,Â Ë P.size,Â Ë i,u 36,u 37,u 38,u 39,u 40,u 41,u 42,u 43,u 44,u 45,u 46,u 47],[]⟩
def Ci(b o:Nat)(P:ByteArray)(n:Nat)(i:Int)(a:é):Prop:=∃u,a=EN b o P n i u
def zO(n:Nat)(l:List UInt8):Nat:=l.foldl (λn c=>tb n c.toNat) n
def anz(b:Nat)(c:Int)(d:c=B.size)(u:Nat->È)(e:∀a,Ci n i B b c a->H a w): Î À Il (Exit.then K<|Q2 H) (EN n i B b c u) w:=by
 unfold EN;conv=>arg 2;whnf
 subst d;go_wp2_with fail;exact e _ (gu _)
def anB{B:ByteArray}{c:UInt8}(w:É)(a:B.data.toList[i]?=Ã c):(Ι 9 (Í B)<|Â Ë (i:Int)).run À w=φ (Â aU (c.toNat:Nat)) w:=by
 have e:(0:Int)<=(i:Int):=Z
 let⟨b,d⟩:=Ü.1 a;have f:i<B.size:=by simpa using b
 have g:B[i]=c:=by rw[<-d];exact(Array.getElem_toList _).symm
 go_simp
def anC(b d z:Nat)(c:UInt8)(g:tb b c.toNat=z)(m:d<B.size)(o:B.size<=1000000)(l:b<18446744073709551616)(j:B.data.toList[d]?=Ã c)(p:w.cell? ⟨n,i+1,Ä⟩=Ã (Í B))(u:Nat->È) (k:∀a,Ci n i B z ((d+1:Nat):Int) a->K a w): Î À Il (Exit.then K<|Q2 H) (EN n i B b d u) w:=by
 unfold EN;conv=>arg 2;whnf
 have q:(0:Int)<=(d:Int):=Z
 have r:(d:Int)<(B.size:Int):=Z
 have s:(B.size:Int)<=1000000:=Z
 have t:=λW=>anB W j;have v:=c.toNat_lt;have T:=X' b c.toNat l Z w;rw[g]at T;generalize c.toNat=cn at*;have f:=fg<|Á T k;clear k T j g;go_wp2_with (go_at_call 162;apply f.out.1.mono;rintro e x ⟨rfl,rfl⟩);exact f.out.2 _ (gu _)
def BI(n i:Nat)(B:ByteArray)(d:É)(e:Nat)(a:é)(w:É):Prop:=
 ∃b c:Nat,Ci n i B b c a/\c<=B.size/\b<18446744073709551616/\w=d/\zO b (B.data.toList.drop c)=e
def BE(n i:Nat)(B:ByteArray)(b:É)(c:Nat)(a:é)(w:É):Prop:=Ci n i B c B.size a/\w=b
def LZ(m:Nat)(a:é)(_:É):Nat:=match a.tmps.getD 35 ā with
 |Â _ i=>m-i.toNat
 |_=>0
def aaj(c:Ci n i B j b y):LZ m y w=m-b:=by obtain⟨u,rfl⟩:=c;show m-(b:Int).toNat=_;simp
def anD(h:B.size<=1000000)(k:u.cell? ⟨n,i+1,Ä⟩=Ã (Í B))(a:é)(w:É)(l:BI n i B u j a w): Î À Il (Exit.then (λb c=>BI n i B u j b c/\LZ B.size b c<LZ B.size a w)<|Q2<|BE n i B u j) a w:=by
 obtain⟨b,c,f,p,m,rfl,e⟩:=l;rw[aaj f];obtain⟨d,rfl⟩:=f;have r:B.data.toList.length=B.size:=fq
 by_cases o:c=B.size
 .rw[Ę Z]at e;subst e;exact anz b c Z d λa q=>⟨by rwa[o]at q,U⟩
 .have g:c<B.data.toList.length:=Z
  rw[ē g]at e;refine anC b c (tb b (B.data.toList[c]).toNat) (B.data.toList[c]) (Eq.refl _) Z h m (Ô g) k d λa q=>⟨⟨_,c+1,q,Z,LO _ _,U,e⟩,by rw[aaj q];omega⟩
def anE(b:B.size<=1000000)(c:j<18446744073709551616)(d:w.cell? ⟨n,i+1,Ä⟩=Ã (Í B))(e:Ci n i B j (0:Nat) y): Î À (à Il) (Q2<|BE n i B w<|zO j B.data.toList) y w:= Ĉ (BI n i B w<|zO j B.data.toList) (LZ B.size) ⟨j,0,e,â _,c,U,U⟩<|anD b d
abbrev zA:List È:=[Â Æ 0,Â Æ 0,Â Æ 0,Â Æ 0,Â Æ 0,Â Æ 0,Â Æ 0,Â Æ 0,Â Æ 0,Â Æ 0,Â Æ 0,Â Æ 0,Â Æ 0,Â Æ 0,Â Æ 0,Â Æ 0]
def Cj(B:Nat)(P:ByteArray)(a:List Nat):Nat:=zO (oE (lf B)<|sk 4<|oF a 16) P.data.toList
def Tv:∀(k:Nat) (l:List Nat),sj l->sk k l<18446744073709551616
 |0,_,h=>h 0
 |k+1,l,_=>Tv k (uS l)<|aac l
def anF(l:List Nat):kA (oF l 0)=zA:=by rfl
def anG{P:ByteArray}(d f g p r s x y z C D E F G I J:Nat)(Y:(kA jJ).toArray=#[Â Æ d,Â Æ f,Â Æ g,Â Æ p,Â Æ r,Â Æ s,Â Æ x,Â Æ y,Â Æ z,Â Æ C,Â Æ D,Â Æ E,Â Æ F,Â Æ G,Â Æ I,Â Æ J])(hl:jJ.length=16)(hB:m<18446744073709551616)(hP:P.size<=1000000)(hs:sj jJ) (K:w.cell? ⟨n,j,Ä⟩=Ã (Â Æ m)) (c1:w.cell? ⟨n,j+1,Ä⟩=Ã (Í P)) (r0:w.cell? ⟨n,j+2,Ä⟩=Ã (Â Æ d)) (r1:w.cell? ⟨n,j+2+1,Ä⟩=Ã (Â Æ f)) (r2:w.cell? ⟨n,j+2+2,Ä⟩=Ã (Â Æ g)) (r3:w.cell? ⟨n,j+2+3,Ä⟩=Ã (Â Æ p)) (r4:w.cell? ⟨n,j+2+4,Ä⟩=Ã (Â Æ r)) (r5:w.cell? ⟨n,j+2+5,Ä⟩=Ã (Â Æ s)) (r6:w.cell? ⟨n,j+2+6,Ä⟩=Ã (Â Æ x)) (r7:w.cell? ⟨n,j+2+7,Ä⟩=Ã (Â Æ y)) (r8:w.cell? ⟨n,j+2+8,Ä⟩=Ã (Â Æ z)) (r9:w.cell? ⟨n,j+2+9,Ä⟩=Ã (Â Æ C)) (r10:w.cell? ⟨n,j+2+10,Ä⟩=Ã (Â Æ D)) (r11:w.cell? ⟨n,j+2+11,Ä⟩=Ã (Â Æ E)) (r12:w.cell? ⟨n,j+2+12,Ä⟩=Ã (Â Æ F)) (r13:w.cell? ⟨n,j+2+13,Ä⟩=Ã (Â Æ G)) (r14:w.cell? ⟨n,j+2+14,Ä⟩=Ã (Â Æ I)) (r15:w.cell? ⟨n,j+2+15,Ä⟩=Ã (Â Æ J)): Ò À 145 #[Å<|Ã ⟨n,j,Ä⟩] w λe c=>e=Ç (Â Æ<|Cj m P jJ)/\fe fi w c:=by
 have gT:=á w _ K;have L1:∀a,Cg n j w.heap.size #[Â Æ d,Â Æ f,Â Æ g,Â Æ p,Â Æ r,Â Æ s,Â Æ x,Â Æ y,Â Æ z,Â Æ C,Â Æ D,Â Æ E,Â Æ F,Â Æ G,Â Æ I,Â Æ J] (0:Nat) a->Î À (à Ij) (QQ<|AE n j w.heap.size jJ<|w.alloc<|Ð zA.toArray 109) a (w.alloc<|Ð zA.toArray 109):=λa L=>
  anx hs hl (by rw[anF];exact fj.N w zA 109)<|by rwa[Y]
 have M:∀W,fj w.heap.size (kA<|oF jJ 16) 109 W->Ò À 146 #[Ê (Ã ⟨w.heap.size,0,Ä⟩) 16 16] W λe c=>e=Ç (Â Æ<|sk 4<|oF jJ 16)/\fe (λi=>i=w.heap.size) W c:=λW hW=>by have t:=aae (w:=W) (b:=w.heap.size) (cp:=16) (k:=4) (T:=109) (l:=oF jJ 16) (junk:=[]) (by rw[Ik]) (by rw[Ik];omega) (by rw[Ik];omega) (aah jJ) (by rwa[ò]);rwa[Ik]at t
 have N:=Tv 4 (oF jJ 16)<|aah jJ;obtain⟨t,O⟩:∃t,sk 4 (oF jJ 16)=t:=⟨_,U⟩;have hac:Cj m P jJ=zO (oE (lf m) t) P.data.toList:=by unfold Cj;rw[O]
 rw[hac];rw[O]at M N;have L2:∀W a,W.cell? ⟨n,j+1,Ä⟩=Ã (Í P)->Ci n j P (oE (lf m) t) (0:Nat) a->Î À (à Il) (Q2<|BE n j P W<|zO (oE (lf m) t) P.data.toList) a W:=λW a h L=>
  anE hP (EJ _ _<|LX m) h L
 have C1:∀W,Ò À 161 #[Â Æ 14695981039346656037,Â Æ m] W λe c=>e=Ç (Â Æ<|lf m)/\c=W:=λW=>by rw[<-aaf];exact Ia 14695981039346656037 m Z hB W
 have C2:∀W,Ò À 161 #[Â Æ<|lf m,Â Æ t] W λe c=>e=Ç (Â Æ<|oE (lf m) t)/\c=W:=λW=>Ia (lf m) t (LX m) N W;have H:=fg<|Á K<|Á c1<|Á L1<|Á M<|Á L2<|Á C1 C2;clear L1 M L2 C1 C2 hac O N hs K c1 Y;generalize zO (oE (lf m) t) P.data.toList=res at*;generalize oE (lf m) t=n2 at*;generalize lf m=n1 at*;go_enter Tryz.func145,Tryz.ntmps145;go_wp2_with fail;refine Ý (Q:=QQ<|AE n j w.heap.size jJ<|w.alloc<|Ð zA.toArray 109) ?_ (H.out.2.2.1 _ (gu _));rintro(_|(_|_)|_|_|_|_) a v hq;all_goals first|exact absurd hq id|skip
 let⟨S,hk,hBv⟩:=hq;have V:fe fi w v:=(fe.gJ fi w zA.toArray 109).C hk λi hi q=>by omega
 have g0:=V.r H.out.1 id;obtain⟨u,rfl⟩:=S;unfold EM;have HV:=fg<|Á V hBv;clear V hBv hk r0 r1 r2 r3 r4 r5 r6 r7 r8 r9 r10 r11 r12 r13 r14 r15;go_wp2_with (first
  |(go_at_call 146;refine(H.out.2.2.2.1 _ HV.out.2).mono ?_;rintro e w2 ⟨rfl,yY⟩;have X:=HV.out.1.C yY (λi hi q=>by omega);have g1:=X.r H.out.2.1 id;have HK:=fg X;clear yY X)
  |(go_at_call 161;with_reducible refine(H.out.2.2.2.2.2.2 _).mono ?_;rintro e X ⟨rfl,rfl⟩)
  |(go_at_call 161;refine(H.out.2.2.2.2.2.1 _).mono ?_;rintro e X ⟨rfl,rfl⟩))
 refine Ý (Q:=Q2<|BE n j P _ res) ?_ (H.out.2.2.2.2.1 _ _ g1 (gu _));rintro(_|(_|_|_|_)|_|_|_|_) a v2 hq;all_goals first|exact absurd hq id|skip
 obtain⟨S,rfl⟩:=hq;obtain⟨u,rfl⟩:=S;unfold EN;go_wp2_with fail;go_ret;exact⟨U,HK.out⟩
def anH{P:ByteArray}(c:j<18446744073709551616)(d:P.size<=1000000)(f:jJ.length=16)(g:sj jJ) (h:w.cell? ⟨i,n,Ä⟩=Ã (Â Æ j)) (k:w.cell? ⟨i,n+1,Ä⟩=Ã (Í P)) (b:∀(a x:Nat),jJ[a]?=Ã x->w.cell? ⟨i,n+2+a,Ä⟩=Ã (Â Æ x)): Ò À 145 #[Å<|Ã ⟨i,n,Ä⟩] w λe l=>e=Ç (Â Æ<|Cj j P jJ)/\fe fi w l:=by
 match jJ,f with
 |[a0,a1,a2,a3,a4,a5,a6,a7,a8,a9,a10,a11,a12,a13,a14,a15],_=>exact anG a0 a1 a2 a3 a4 a5 a6 a7 a8 a9 a10 a11 a12 a13 a14 a15 fZ fZ c d g h k (b 0 a0 U) (b 1 a1 U) (b 2 a2 U) (b 3 a3 U) (b 4 a4 U) (b 5 a5 U) (b 6 a6 U) (b 7 a7 U) (b 8 a8 U) (b 9 a9 U) (b 10 a10 U) (b 11 a11 U) (b 12 a12 U) (b 13 a13 U) (b 14 a14 U)<|b 15 a15 U
abbrev zB:List È:=[Â Æ 0,Â Æ 0,Â Æ 0,Â Æ 0,Â Æ 0,Â Æ 0,Â Æ 0,Â Æ 0]
noncomputable def L0:ŏ:=(Tryz.f106.body.bind kz).getD ĵ
def EO(a b:Nat)(i:Int)(u:Nat->È):é:=⟨#[Å<|Ã ⟨a,0,Ä⟩,u 1,u 2,Å<|Ã ⟨b,0,Ä⟩,u 4,Â Ë i,u 6,u 7,u 8,u 9,u 10,u 11,u 12,u 13,u 14,u 15,u 16,u 17],[]⟩
def EP(c b:Nat)(i:Int)(a:é):Prop:=∃u,a=EO c b i u
section
variable{X:é->É->Prop}
def anI(u:Nat->È)(c:∀a,EP i b 8 a->X a w): Î À L0 (Exit.then K<|QQ X) (EO i b 8 u) w:=by
 unfold EO;conv=>arg 2;whnf
 go_wp2_with fail
 exact c _ (gu _)
def anJ(c z:Nat)(p:c<8)(T:Ò À 145 #[Å<|Ã ⟨i,c*18,Ä⟩] w λe k=>e=Ç (Â Æ z)/\fe fi w k)(g:List È)(j:È)(l:g[c]?=Ã j)(m:fj b g 107 w)(u:Nat->È) (n:∀a f,EP i b ((c+1:Nat):Int) a->fe fi w f->K a (f.setCell ⟨b,c,Ä⟩<|Â Æ z)): Î À L0 (Exit.then K<|QQ X) (EO i b c u) w:=by
 unfold EO;conv=>arg 2;whnf
 have H:=fg<|Á T<|Á n m;go_wp2_with (go_at_call 145;apply H.out.1.mono;rintro e f ⟨rfl,d⟩;have q:=(H.out.2.2.I d id).r c j l;have r:=(H.out.2.2.I d id).C c;have o:=fg d;clear d);exact H.out.2.1 _ _ (gu _) o.out
def qw(D:Nat->Nat)(i:Nat):List Nat:=(ċ 8).map λt=>if t<i then D t else 0
theorem Im(D:Nat->Nat)(i:Nat):(qw D i).length=8:=by simp[qw]
theorem aak(D:Nat->Nat)(i t:Nat)(h:t<8):(qw D i)[t]?=Ã (if t<i then D t else 0):=by simp[qw,û h]
theorem anK(D:Nat->Nat)(i:Nat)(h:i<8):(qw D i).set i (D i)=qw D (i+1):=by refine ý λt=> ?_;grind [aak,Im,ĕ]
def aal(b:∀i,D i<18446744073709551616):sj (qw D 8):=LV Z λx a=>by
 unfold qw at a;obtain⟨t,_,rfl⟩:=ņ.1 a;split
 .exact b _
 .omega
def anL(D:Nat->Nat):kA (qw D 0)=zB:=by rfl
def DI(i b:Nat)(D:Nat->Nat)(d:É)(a:é)(w:É):Prop:=
 ∃c:Nat,EP i b c a/\c<=8/\fe (λk=>k=b) d w/\fj b (kA<|qw D c) 107 w
def DE(i b:Nat)(D:Nat->Nat)(c:É)(a:é)(w:É):Prop:=
 EP i b 8 a/\fe (λk=>k=b) c w/\fj b (kA<|qw D 8) 107 w
def L3(a:é)(_:É):Nat:=match a.tmps.getD 5 ā with
 |Â _ i=>8-i.toNat
 |_=>0
def aam(c:EP i b n y):L3 y w=8-n:=by obtain⟨u,rfl⟩:=c;show 8-(n:Int).toNat=_;simp
def anM(C:∀c,c<8->∀W,fe (λk=>k=b) u W->Ò À 145 #[Å<|Ã ⟨i,c*18,Ä⟩] W λe f=>e=Ç (Â Æ<|D c)/\fe fi W f)(a:é)(w:É)(m:DI i b D u a w): Î À L0 (Exit.then (λd f=>DI i b D u d f/\L3 d f<L3 a w)<|QQ<|DE i b D u) a w:=by
 let⟨c,j,o,g,h⟩:=m;rw[aam j];obtain⟨d,rfl⟩:=j;by_cases n:c=8
 .subst n;exact anI d λa q=>⟨q,g,h⟩
 .refine anJ c (D c) Z (C c Z w g) _ _ (Ih _ _ _<|by rw[aak D c c Z,if_neg Z]) h d λa p q l=>⟨⟨c+1,q,Z,(g.fh<|l.S λ_ _=>ę).fh (fe.I (X:=λk=>k=b) U _),?_⟩,by rw[aam q];omega⟩;rw[<-anK D c Z,Tt];exact(h.I l id).fS c<|Â Æ<|D c
end
def L4(D:Nat->Nat):Nat:=sk 3<|qw D 8
def anN(j:∀b,D b<18446744073709551616)(C:∀b,b<8->∀W,fe (λk=>k=w.heap.size) (w.alloc<|Ð zB.toArray 107) W->Ò À 145 #[Å<|Ã ⟨i,b*18,Ä⟩] W λe c=>e=Ç (Â Æ<|D b)/\fe fi W c): Ò À 106 #[Å<|Ã ⟨i,0,Ä⟩] w λe c=>e=Ç (Â Æ<|L4 D)/\fe fi w c:=by
 have L:∀a,EP i w.heap.size (0:Nat) a->Î À (à L0) (QQ<|DE i w.heap.size D<|w.alloc<|Ð zB.toArray 107) a (w.alloc<|Ð zB.toArray 107):=λa l=>
  Ĉ (DI i w.heap.size D<|w.alloc<|Ð zB.toArray 107) L3 ⟨0,l,â _,fe.fX _ _,by rw[anL];exact fj.N w zB 107⟩<|anM C
 have T:∀W,fj w.heap.size (kA<|qw D 8) 107 W->Ò À 146 #[Ê (Ã ⟨w.heap.size,0,Ä⟩) 8 8] W λe c=>e=Ç (Â Æ<|sk 3<|qw D 8)/\fe (λb=>b=w.heap.size) W c:=λW m=>by have t:=aae (cp:=8) (k:=3) (by rw[Im]) (by rw[Im];omega) (by rw[Im];omega) (aal j) (by rwa[ò]);rwa[Im]at t
 unfold L4;have H:=fg<|Á L T;generalize sk 3 (qw D 8)=t at*;go_enter Tryz.func106,Tryz.ntmps106;go_wp2_with fail;refine Ý (Q:=QQ<|DE i w.heap.size D<|w.alloc<|Ð zB.toArray 107) ?_ (H.out.1 _ (gu _));rintro(_|(_|_)|_|_|_|_) a v hq;all_goals first|exact absurd hq id|skip
 let⟨n,o,p⟩:=hq;have r:=(fe.gJ fi w zB.toArray 107).C o λb s q=>by omega
 obtain⟨u,rfl⟩:=n;unfold EO;have d:=fg<|Á r p;go_wp2_with (go_at_call 146;refine(H.out.2 _ d.out.2).mono ?_;rintro e y ⟨rfl,f⟩;have g:=d.out.1.C f (λb s q=>by omega);have x:=fg g;clear f g);go_ret;exact⟨U,x.out⟩
def Io(a:HP):List Nat:=(ċ 16).map λj=>(a.C j).toNat
def aan(a:HP):Nat:=Cj a.fx.toNat a.r<|Io a
def ER(s:St):Nat:=L4 λi=>aan<|s i
theorem anO(l:List UInt8):∀n,n<18446744073709551616->zO n l<18446744073709551616:=by
 induction l with
 |nil=>exact λn h=>h
 |cons c r h=>exact λn _=>h _<|LO _ _
theorem aao(B:Nat)(P:ByteArray)(a:List Nat):Cj B P a<18446744073709551616:=by unfold Cj;grind [anO,EJ,LX]
def Tw(s:St)(h:i<144):(iw s)[i]?=Ã (qn s i):=by simp[iw,û h]
def mA.anP{s:St}(m:mA n s h W)(a:gK s)(i:Nat)(f:i<8): Ò À 145 #[Å<|Ã ⟨n,i*18,Ä⟩] W λe b=>e=Ç (Â Æ<|aan<|s i)/\fe fi W b:=by
 have g:=λj d=>by have:=m.C j _<|Tw s d;simpa using this
 have b:=a.fx i;have k:=g (i*18) Z;have l:=g (i*18+1) Z;rw[<-re s (Ê Ä 0 0) Z,HR _ _ f]at k;rw[<-re s (Ê Ä 0 0) Z,Lv _ _ f]at l;refine anH (by have e:=b.1;have c:=b.2;omega) (by have:=(a.I i).1;omega) (by simp[Io]) ?_ ?_ l ?_
 .refine LV Z λx e=> ?_;unfold Io at e;obtain⟨t,_,rfl⟩:=ņ.1 e;have c:=(a.C i t).2;omega
 .rw[k];unfold qm;rw[Ĕ b.1]
 .intro j x e;have d:j<16:=by have:=(Ü.1 e).1;simpa[Io]using this
  have c:=g (i*18+2+j) Z;rw[<-re s (Ê Ä 0 0) Z,Lw _ _ f d]at c;have t:((s i).C j).toNat=x:=by simpa[Io,û d]using e
  rw[c,<-t];unfold qm;rw[Ĕ (a.C i j).1]
def anQ{s:St}(b:mA i s h w)(c:gK s): Ò À 106 #[Å<|Ã ⟨i,0,Ä⟩] w λe d=>e=Ç (Â Æ<|ER s)/\fe fi w d:=anN (λa=>aao _ _ _) λa f W k=>((b.r (fe.gJ fi w _ _) id).r k<|by show i≠w.heap.size;exact Nat.ne_of_lt<|á w _ b.h).anP c a f
def kj(i:Nat):St:=λj=>⟨if j<i then 1000 else 0,⟨#[]⟩,λ_=>0⟩
theorem anR(i:Nat):kj (i+1)=(kj i).fx i 1000:=by funext j;unfold kj St.fx St.fS;grind
theorem anS(s:St)(a:i<8)(x:Int):(iw s).set (i*18) (Â Æ x)=iw (s.fx i x):=by have h:=f_ s (Ê Ä 0 0) a x;rw[zM,zM,Ğ _ _ (by rw[si];omega)]at h;exact List.append_cancel_right h
def anT(s:St)(a:i<8):(iw s)[i*18]?=Ã (Â Æ (s i).fx):=by rw[Tw s Z,<-re s (Ê Ä 0 0) Z,HR _ _ a];rfl
noncomputable def L5:ŏ:=(Tryz.f44.body.bind kz).getD ĵ
def ES(r b:Nat)(i:Int)(u:Nat->È):é:=⟨#[Å<|Ã ⟨r,0,Ä⟩,Å<|Ã ⟨b,0,Ä⟩,u 2,Â Ë i,u 4,u 5,u 6,u 7,u 8,u 9,u 10],[]⟩
def EU(r b:Nat)(i:Int)(a:é):Prop:=∃u,a=ES r b i u
section
variable{X:é->É->Prop}
def anU(u:Nat->È)(c:∀a,EU i b 8 a->X a w): Î À L5 (Exit.then K<|QQ X) (ES i b 8 u) w:=by
 unfold ES;conv=>arg 2;whnf
 go_wp2_with fail
 exact c _ (gu _)
def anV(c:Nat)(g:c<8)(e:È)(j:w.cell? ⟨b,c*18,Ä⟩=Ã e)(k:w.frozen? ⟨b,c*18,Ä⟩=Ï)(u:Nat->È) (d:∀a,EU i b ((c+1:Nat):Int) a->K a (w.setCell ⟨b,c*18,Ä⟩<|Â Æ 1000)): Î À L5 (Exit.then K<|QQ X) (ES i b c u) w:=by
 unfold ES;conv=>arg 2;whnf
 have f:=fg d;clear d;go_wp2_with fail;exact f.out _ (gu _)
def Ty(i b:Nat)(d:É)(a:é)(w:É):Prop:=∃c:Nat,EU i b c a/\c<=8/\fe (λk=>k=b) d w/\fj b (iw<|kj c) 132 w
def FE0(i b:Nat)(c:É)(a:é)(w:É):Prop:=EU i b 8 a/\fe (λk=>k=b) c w/\fj b (iw<|kj 8) 132 w
def L8(a:é)(_:É):Nat:=match a.tmps.getD 3 ā with
 |Â _ i=>8-i.toNat
 |_=>0
def aap(c:EU i b n y):L8 y w=8-n:=by obtain⟨u,rfl⟩:=c;show 8-(n:Int).toNat=_;simp
theorem anW(a:é)(w:É)(h:Ty i b u a w): Î À L5 (Exit.then (λc d=>Ty i b u c d/\L8 c d<L8 a w)<|QQ<|FE0 i b u) a w:=by
 let⟨c,f,l,g,e⟩:=h;rw[aap f];obtain⟨d,rfl⟩:=f;by_cases j:c=8
 .subst j;exact anU d λa q=>⟨q,g,e⟩
 .refine anV c Z _ (e.r _ _<|anT _ Z) (e.C _) d λa q=>⟨⟨c+1,q,Z,g.fh (fe.I (X:=λk=>k=b) U _),?_⟩,by rw[aap q];omega⟩;have k:=e.fS (c*18)<|Â Æ 1000;grind [anS,anR]
end
def anX:(À.info? 132).map (λi=>(i.size,i.zero.map λz=>z.cells.toList))=Ã (144,Ã<|iw<|kj 0):=fv
def anY(s:St):∀v∈iw s,v.oneCell'=Ú:=λv a=>S6 s (lv:=Ê Ä 0 0) U v<|by rw[zM];exact œ _ a
def anZ(w:É):Ò À 44 #[] w λe m=>e=Ç (Ē (iw<|kj 8).toArray)/\fe fi w m:=by
 let⟨n,o,p⟩:=Ì.1 Tn;let⟨P,j,c⟩:=Ì.1 anX;simp only[Prod.mk.injEq]at c;let⟨r,t⟩:=c;let⟨x,y,z⟩:=Ì.1 t;have B:x.cells=(iw<|kj 0).toArray:=by rw[<-z]
 have C:∀s,(À.info? 132).map (·.size)=Ã (iw s).length:=λs=>by rw[j,si];simp[r]
 have L:∀W a,fj (w.heap.size+1) (iw<|kj 0) 132 W->EU w.heap.size (w.heap.size+1) (0:Nat) a->Î À (à L5) (QQ<|FE0 w.heap.size (w.heap.size+1) W) a W:=λW a f D=>
  Ĉ (Ty w.heap.size (w.heap.size+1) W) L8 ⟨0,D,â _,fe.fX _ _,f⟩ anW
 have k:=fe.gJ fi (w.alloc<|Ð (iw<|kj 0).toArray 132) (iw<|kj 0).toArray 132;have E:=(fj.N w (iw<|kj 0) 132).I k id;have F:fj (w.heap.size+1) (iw<|kj 0) 132 ((w.alloc<|Ð (iw<|kj 0).toArray 132).alloc<|Ð (iw<|kj 0).toArray 132):=by have:=fj.N (w.alloc<|Ð (iw<|kj 0).toArray 132) (iw<|kj 0) 132;simpa using this
 have b:=fg<|Á o<|Á p<|Á j<|Á y<|Á B C;have H:=fg<|Á L<|Á ((fe.gJ fi w (iw<|kj 0).toArray 132).fh k)<|Á E F;go_enter Tryz.func44,Tryz.ntmps44;go_wp2_with (first
  |(with_reducible refine Ć U (Ã 0) U _ _ (S4 U b.out.2.2.1 b.out.2.2.2.1) ?_;rw[b.out.2.2.2.2.1])
  |(with_reducible refine Ć U (Ã 1) U _ _ (S4 U b.out.2.2.1 b.out.2.2.2.1) ?_;rw[b.out.2.2.2.2.1]))
 refine Ý ?_ (H.out.1 _ _ H.out.2.2.2 (gu _));rintro(_|(_|_)|_|_|_|_) a v c;all_goals first|exact absurd c id|skip
 let⟨G,l,f⟩:=c;have g:=H.out.2.2.1.I l Z;obtain⟨u,rfl⟩:=G;unfold ES;have I:=fj.Y (by rw[ò];exact f);have J:v.there w.heap.size 0 (iw<|kj 8).toArray.size:=g.S5 (by simp[si]);have K:=LG (iw<|kj 8) [] [] v (iw<|kj 0) (by rw[si,si]) (by simpa using g);have M:=(H.out.2.1.C l λi N q=>by omega).C (H3 (iw<|kj 8) 0 v g.G) λi N q=>by omega
 have d:=fg<|Á M<|Á K<|Á I J;go_wp2_with (first
  |(with_reducible refine ĥ U 132 _ U (w.heap.size+1) 0 U (iw<|kj 8) n d.out.2.2.1 b.out.1 b.out.2.1 (b.out.2.2.2.2.2 _) ?_)
  |(with_reducible refine ľ U 132 _ _ U w.heap.size 0 (iw (kj 8)).toArray U U d.out.2.2.2 (by rw[b.out.2.2.2.2.2 (kj 8)];simp) (Ī (anY _)) ?_))
 have O:fj w.heap.size (iw (kj 8)++[]) 132 (v.setCells w.heap.size 0<|iw<|kj 8):=by simpa using d.out.2.1
 refine ð (S7 U U (fj.Y O) b.out.1 b.out.2.1<|b.out.2.2.2.2.2 _) U<|⟨U,d.out.1⟩
structure fM where
 s:St
 r:List (Nat×Int)
 C:List (Int×Bool)
 h:Int
def zP(a:ă)(k:Nat)(d:List È)(w:É):Prop:=
 ∃p c,w.cell? a=Ã (Ê p k c)/\∀(j:Nat) (x:È),d[j]?=Ã x->∃b o,p=Ã ⟨b,o,Ä⟩/\w.cell? ⟨b,o+j,Ä⟩=Ã x
def zP.r(h:zP a k l w)(q:fe fi w u):zP a k l u:=by let⟨p,c,d,e⟩:=h;exact⟨p,c,q.r d id,λj x f=>by let⟨b,o,g,i⟩:=e j x f;exact⟨b,o,g,q.r i id⟩⟩
structure sr(b:Nat)(v:fM)(w:É):Prop where
 r:mA b v.s v.h w
 C:gK v.s
 I:0<=v.h
 M:v.h<=40
 N:zP ⟨b,144,Ä⟩ v.r.length (kr v.r) w
 S:zP ⟨b,146,Ä⟩ v.C.length (uQ v.C) w
def sr.Y{v:fM}(h:sr b v w)(q:fe fi w u):sr b v u:= ⟨h.r.r q id,h.C,h.I,h.M,h.N.r q,h.S.r q⟩
structure qx(bp:Option ă)(n:Nat)(vs:List (Nat×fM))(w:É):Prop where
 r:n=vs.length
 C:∀(j b:Nat) (v:fM),vs[j]?=Ã (b,v)->∃sb so,bp=Ã ⟨sb,so,Ä⟩/\w.cell? ⟨sb,so+j,Ä⟩=Ã (Å<|Ã ⟨b,0,Ä⟩)/\sr b v w
def qx.I{a:List (Nat×fM)}(h:qx O n a w)(q:fe fi w u):qx O n a u:= ⟨h.r,λj b v e=>by let⟨c,d,f,g,i⟩:=h.C j b v e;exact⟨c,d,f,q.r g id,i.Y q⟩⟩
def zR(a b:Nat×fM):Nat×fM:=if a.2.h<b.2.h then b else a
def uT(d:Nat×fM)(a:List (Nat×fM)):Nat×fM:=a.foldl zR d
noncomputable def L9:ŏ:=(Tryz.f137.body.bind kz).getD ĵ
def EV(a:Option ă)(n b:Nat)(c:Nat)(i:Int)(u:Nat->È):é:=⟨#[Ê a n b,ā,Å Ä,Å<|Ã ⟨c,0,Ä⟩,u 4,u 5,u 6,u 7,u 8,Ê a n b,Â Ë n,Â Ë i,u 12,u 13,u 14,u 15,u 16,u 17,u 18,u 19,u 20,u 21,u 22,u 23,u 24,u 25,u 26],[]⟩
def Ip(b:Option ă)(n c:Nat)(d:Nat)(i:Int)(a:é):Prop:=∃u,a=EV b n c d i u
section
variable{X:é->É->Prop}{bp:Option ă}{cp:Nat}
def an0(u:Nat->È)(b:Int)(c:b=n)(d:∀a,Ip bp n cp i b a->X a w): Î À L9 (Exit.then K<|QQ X) (EV bp n cp i b u) w:=by
 unfold EV;conv=>arg 2;whnf
 subst c;go_wp2_with fail;exact d _ (gu _)
def an1(u:Nat->È)(c:Int)(j:Nat)(p:c=j)(r:j<n)(s:n<=1000)(k l b:Nat)(q:bp=Ã ⟨k,l,Ä⟩)(t:w.cell? ⟨k,l+j,Ä⟩=Ã (Å<|Ã ⟨b,0,Ä⟩))(e f:Int)(v:w.cell? ⟨b,145,Ä⟩=Ã (Â Ë e))(x:w.cell? ⟨i,145,Ä⟩=Ã (Â Ë f)) (d:∀a m,Ip bp n cp (if f<e then b else i) (c+1) a->K a (w.drewN m)): Î À L9 (Exit.then K<|QQ X) (EV bp n cp i c u) w:=by
 unfold EV;conv=>arg 2;whnf
 subst p q;by_cases o:f<e
 .rw[if_pos o]at d;have g:=fg d;clear d;go_wp2_with fail;go_quiet (fail);go_wp2_with fail;exact g.out _ _ (gu _)
 .rw[if_neg o]at d;have g:=fg d;clear d;go_wp2_with fail;go_quiet (fail);go_wp2_with fail;exact g.out _ _ (gu _)
def HI(bp:Option ă)(n cp:Nat)(vs:List (Nat×fM))(b:É)(c:Nat×fM)(a:é)(w:É):Prop:=
 ∃(j:Nat) (d:Nat×fM),Ip bp n cp d.1 j a/\j<=n/\fe fi b w/\sr d.1 d.2 b/\uT d (vs.drop j)=c
def HE(bp:Option ă)(n cp:Nat)(b:É)(c:Nat×fM)(a:é)(w:É):Prop:=Ip bp n cp c.1 n a/\fe fi b w
def Tz(n:Nat)(a:é)(_:É):Nat:=match a.tmps.getD 11 ā with
 |Â _ i=>n-i.toNat
 |_=>0
theorem an2{f:List (Nat×fM)}{i:Nat×fM}(k:qx bp n f W)(t:n<=1000)(a:é)(w:É)(x:HI bp n cp f W i a w): Î À L9 (Exit.then (λl b=>HI bp n cp f W i l b/\Tz n l b<Tz n a w)<|QQ<|HE bp n cp W i) a w:=by
 let⟨j,d,y,H,c,z,g⟩:=x;obtain⟨u,rfl⟩:=y;by_cases o:j=n
 .rw[(Ę<|by rw[<-k.r];omega)]at g;subst g;refine an0 u j (by rw[o]) λa b=>⟨?_,c⟩;rwa[o]at b
 .have r:j<n:=Z
  obtain⟨⟨b,v⟩,s⟩:∃p,f[j]?=Ã p:=⟨_,Ô<|by rwa[<-k.r]⟩;let⟨B,C,D,E,F⟩:=k.C j b v s;let⟨G,e⟩:=Ü.1 s;rw[ē G,e]at g;refine an1 u j j U r t B C b D (c.r E id) v.h d.2.h (c.r F.r.h id) (c.r z.r.h id) λl m q=> ?_;have I:zR d (b,v)=(if d.2.h<v.h then b else d.1,if d.2.h<v.h then v else d.2):=by unfold zR;split<;>rfl
  refine⟨⟨j+1,zR d (b,v),?_,Z,c.fh<|fe.iR _ _ _,?_,g⟩,?_⟩
  .grind
  .grind
  .obtain⟨v,rfl⟩:=q;show n-((j:Int)+1).toNat<n-((j:Int)).toNat;omega
def an3{b:List (Nat×fM)}{d:Nat×fM}(c:qx bp n b w)(g:n<=1000)(f:b[0]?=Ã d): Ò À 137 #[Ê bp n cp] w λe a=>e=Ç (Å<|Ã ⟨(uT d b).1,0,Ä⟩)/\fe fi w a:=by
 let⟨m,o,e,i,j⟩:=c.C 0 d.1 d.2 f;have p:0<n:=by rw[c.r];exact(Ü.1 f).1
 have L:∀a,Ip bp n cp d.1 0 a->Î À (à L9) (QQ<|HE bp n cp w<|uT d b) a w:=λa k=>
  Ĉ (HI bp n cp b w<|uT d b) (Tz n) ⟨0,d,k,â _,fe.fX _ _,j,U⟩<|an2 c g
 subst e;generalize uT d b=r at*;simp only[Nat.add_zero]at i;go_enter Tryz.func137,Tryz.ntmps137;go_wp2_with fail;refine Ý ?_ ((fg L).out _ (gu _));rintro(_|(_|_)|_|_|_|_) a v hq;all_goals first|exact absurd hq id|skip
 let⟨l,q⟩:=hq;obtain⟨u,rfl⟩:=l;unfold EV;go_wp2_with fail;go_ret;simp_all
end
def mN(a:List (Nat×fM))(b:Int):Option (Nat×fM):=
 if b=-1 then(a[0]?).map λd=>uT d a else a[b.toNat]?
def j1(b:Option Nat):È:=Å<|b.map λb=>⟨b,0,Ä⟩
section
variable{cp:Nat}{a:List (Nat×fM)}
def Ma(f:qx O n a w)(j:n<=1000)(l:0<n)(c:Int)(o:-1<=c): Ò À 97 #[Ê O n cp,Â Ë c] w λe b=>e=Ç (j1 ((mN a c).map (·.1)))/\fe fi w b:=by
 by_cases i:c=-1
 .subst i;obtain⟨d,b⟩:∃d,a[0]?=Ã d:=⟨_,Ô<|by rwa[<-f.r]⟩;have e:mN a (-1)=Ã (uT d a):=by unfold mN;rw[if_pos U,b];rfl
  rw[e];go_enter Κ,ź;go_wp2_with (go_at_call 137;refine(fg<|an3 (cp:=cp) f j b).out.mono ?_;rintro e k ⟨rfl,g⟩);go_ret;exact⟨U,g⟩
 .obtain⟨k,rfl⟩:∃k:Nat,c=k:=⟨c.toNat,Z⟩;have e:mN a (k:Int)=a[k]?:=by unfold mN;rw[if_neg i,ŵ]
  rw[e];by_cases g:k<n
  .obtain⟨⟨b,v⟩,d⟩:∃p,a[k]?=Ã p:=⟨_,Ô<|by rwa[<-f.r]⟩;let⟨q,r,m,s,t⟩:=f.C k b v d;rw[d];subst m;go_enter Κ,ź;go_wp2_with fail;go_ret;exact⟨U,fe.fX _ _⟩
  .rw[(List.getElem?_eq_none<|by rw[<-f.r];omega)];go_enter Κ,ź;go_wp2_with fail;go_ret;exact⟨U,fe.fX _ _⟩
end
theorem aaq(a:List (Nat×fM)):∀(l:List (Nat×fM)) (d:Nat×fM),d∈a->(∀x∈l,x∈a)->uT d l∈a
 |[],d,hd,_=>hd
 |x::l,d,hd,hl=>by
  show uT (zR d x) l∈a;refine aaq a l _ ?_ λy b=>hl y<|Ś _ b;unfold zR;split
  .exact hl x List.mem_cons_self
  .exact hd
theorem Iq{a:List (Nat×fM)}{p:Nat×fM}(h:mN a c=Ã p):p∈a:=by unfold mN at h;grind [Ì,aaq,List.mem_of_getElem]
def qx.M{a:List (Nat×fM)}(h:qx O n a w){p:Nat×fM}(b:p∈a):sr p.1 p.2 w:=by let⟨j,c⟩:=List.getElem?_of_mem b;let⟨_,_,_,_,d⟩:=h.C j p.1 p.2 c;exact d
theorem aar(c:w.cell? ⟨b,i,Ä⟩=Ã v)(h:w.ownsRow 0 e j v n l):zP ⟨b,i,Ä⟩ n l w:=by
 rcases h.2 with⟨rfl,rfl⟩|⟨g,f,k,rfl,_,m,_,_,_,o⟩
 .have d:=ß (by simpa using h.1);subst d;exact⟨Ä,0,c,λa x q=>by simp at q⟩
 .refine⟨_,_,c,λa x q=>⟨g,0,U,?_⟩⟩;have:=h.cells U a x q;grind [Addr.add_mid]
def NX.an4{s:St}{b:List (Nat×Int)}{c:List (Int×Bool)}(x:NX i h v z s b c u w)(d:gK s)(e:0<=h)(f:h<=40):sr i ⟨s,b,c,h⟩ w:=by have a:fj i (jj s v++[Â Ë h,z]) 139 w:=x.r;refine⟨⟨?_,a.r 145 _<|by rw[ü (by rw[mK];omega),mK];rfl⟩,d,e,f,aar x.r.B7 x.C,aar x.G x.I⟩;rw[zM,Ċ]at a;exact a.Y
def an5:(À.info? 128).map (λi=>(i.zero,i.size,i.bytes))=Ã (Ã<|Å Ä,1,8):=fv
def an6{p:Array ş}{r:List ş}(C:o.guard=Ä)(s x:ŭ)(t:õ) (D:o.op=aE {callee:=.builtin .append,args:=#[s,x],argTypes:=#[t,t]}) (E:P.underlying t=Ã (bm e)) (F:P.info? e=Ã zJ) (G:zJ.zero=Ã z) (B:zJ.size=1) (H:zJ.bytes=8) (g k n:Nat) (b:List È) (I:b.length=n) (J:∀j v,b[j]?=Ã v->w.cell? ((⟨g,k,Ä⟩:ă).add j)=Ã v) (L:y.eval s=Ê (Ã ⟨g,k,Ä⟩) n n) (l:Nat) (v:È) (M:y.eval x=Ê (Ã ⟨l,0,Ä⟩) 1 1) (N:∀j u,[v][j]?=Ã u->w.cell? ((⟨l,0,Ä⟩:ă).add j)=Ã u) (X:n<=1000) (O:mq e=Ï) (h:∀c f,n+1<=c->fe fi w f->(∃m:Array È,f.heap[w.heap.size]?=Ã (Ð m e (0,0))/\0<m.size/\∀u∈m.toList,u∈b\/u=v\/u∈z.cells.toList)->(∀j u,(b++[v])[j]?=Ã u->f.cell? ⟨w.heap.size,0+j,Ä⟩=Ã u)->aR P p vJ r (y.put o.dst<|Ê (Ã ⟨w.heap.size,0,Ä⟩) (n+1) c) f):aR P p vJ (o::r) y w:=by refine Ű C λK S=> ?_;have T:=Λ w t o.type e zJ z E F G ⟨g,k,Ä⟩ n n b (by rw[I,B];omega) J ⟨l,0,Ä⟩ 1 1 [v] (by rw[B];rfl) N Z Z (ŕ Z<|by rw[H];omega);unfold Ń Ĥ;simp only[D,ae,aP,ag,ű,Ų,ĳ,ļ,Ť,ų,L,M,T];refine S _ _ (h _ _ (Η w (n+1) n e) ((fe.fU _ _).fh<|fe.gJ _ _ _ _<|Ø O) ⟨_,ì w.drew _,by simp;omega,λu d=>by simp only[Š,ú]at d;rcases d with(q|q)|q;exact Ø q;exact Ù (Ø<|by simpa using q);exact Ù<|Ù<|SB q⟩ λj u d=> ?_);have V:(w.drew.alloc<|Ð (b.toArray++[v].toArray++ö z.cells (Œ w (n+1) n e-(n+1))) e).heap[w.heap.size]?=_:=ì w.drew _;simp only[Ζ,V,Ũ,ĭ,if_false,ł];have W:=(Ü.1 d).1;rw[Array.getElem?_append_left (by simpa using W)];simpa using d
def tB(v:È)(T:õ)(w:É):Prop:=v=Ê Ä 0 0\/∃g n c a,v=Ê (Ã ⟨g,0,Ä⟩) n c/\w.heap[g]?=Ã (Ð a T (0,0))
def tB.I(h:w.ownsRow 0 T i v n l):tB v T w:=by
 rcases h.2 with⟨q,_⟩|⟨g,a,b,c,_,d,_⟩
 .exact Ø q
 .exact Ù ⟨g,_,a,b,c,d⟩
def tB.C(h:tB v T w)(k:fe fi w u):tB v T u:=by
 rcases h with q|⟨g,n,c,b,d,a⟩
 .exact Ø q
 .refine Ù ⟨g,n,c,b,d,?_⟩;rwa[k.N g (Array.getElem?_eq_some_iff.1 a).1 id]
def su(a:List (Nat×fM)):List È:=a.map λp=>Å<|Ã ⟨p.1,0,Ä⟩
structure TA(vs:List (Nat×fM))(B:Nat)(w w':É)(g:Nat):Prop where
 C:w.heap.size<=g
 r:∃cur:Array È,w'.heap[g]?=Ã (Ð cur 128 (0,0))/\0<cur.size/\∀u∈cur.toList,u∈su vs\/u=Å (Ã ⟨B,0,Ä⟩)\/u=Å Ä
structure TB(B:Nat)(s:St)(h:Int)(w w':É):Prop where
 C:w.heap.size<=B
 r:∃lv uv,fj B (jj s lv++[Â Ë h,uv]) 139 w'/\tB lv 250 w'/\tB uv 239 w'/\(∀j,lv.ownBlock=Ã j->w.heap.size<=j)/\∀j,uv.ownBlock=Ã j->w.heap.size<=j
section
variable{bp:Option ă}{cp:Nat}{vs:List (Nat×fM)}
def an7(a b:Nat)(d:n<=1000)(f:n<=cp):Ò À 139 #[Ê (Ã ⟨a,b,Ä⟩) n cp] w λe c=>e=Ç (Ê (Ã ⟨a,b,Ä⟩) n n)/\c=w:=by go_enter Tryz.func139,Tryz.ntmps139;go_wp2;go_ret;exact⟨U,U⟩
def an8(b:qx bp n vs w)(i:n<=1000)(m:0<n)(r:n<=cp)(B:Nat): Ò À 100 #[Ê bp n cp,Å<|Ã ⟨B,0,Ä⟩] w λe a=>∃g c,e=Ç (Ê (Ã ⟨g,0,Ä⟩) (n+1) c)/\n+1<=c/\fe fi w a/\TA vs B w a g/\∀j u,(su vs++[Å<|Ã ⟨B,0,Ä⟩])[j]?=Ã u->a.cell? ⟨g,0+j,Ä⟩=Ã u:=by
 let⟨I,s,t,x,y⟩:=í an5;obtain⟨d,z⟩:∃d,vs[0]?=Ã d:=⟨_,Ô<|by rwa[<-b.r]⟩;let⟨g,f,k,_,_⟩:=b.C 0 d.1 d.2 z;have C:∀(o:Obj) (j:Nat) (v:È),(su vs)[j]?=Ã v->(w.alloc o).cell? ((⟨g,f,Ä⟩:ă).add j)=Ã v:=λo j v q=>by unfold su at q;rw[Ķ]at q;obtain⟨p,D,rfl⟩:=Ì.1 q;let⟨E,F,H,l,_⟩:=b.C j p.1 p.2 D;rw[k]at H;cases H;rwa[Addr.add_mid,World.cell?_alloc_lt _ _ _<|á w _ l]
 have H:=fg (Á C<|Á s<|Á t<|Á x<|Á y<|show(su vs).length=n by unfold su;rw[Ο];exact b.r.symm);subst k;go_enter Tryz.func100,Tryz.ntmps100;go_wp2_with (first
  |(go_at_call 139;refine(an7 g f i r).mono ?_;rintro e a ⟨rfl,l⟩;subst a)
  |(at_builtin;refine an6 U _ _ 56 U Tryz.underlying56 H.out.2.1 H.out.2.2.1 H.out.2.2.2.1 H.out.2.2.2.2.1 g f n (su vs) H.out.2.2.2.2.2 (H.out.1 _) U w.heap.size (Å (Ã ⟨B,0,Ä⟩)) U (þ _ _ _) i A ?_;intro c D a e l p))
 go_ret;refine⟨_,_,U,a,(fe.gJ _ _ _ _).fh e,⟨fq,by let⟨c,D,E,F⟩:=l;exact⟨c,by simpa using D,E,λu G=>(F u G).elim Ø λq=>q.elim (λq=>Ù<|Ø q) λq=>Ù<|Ù<|by simpa[ğ]using q⟩⟩,λj u q=>by have:=p j u q;simpa using this⟩
end
structure Ck(r:Nat)(v:Int)(x:Nat)(bp:Option ă)(n cp:Nat)(w:É):Prop where
 M:w.cell? ⟨r,0,Ä⟩=Ã (Â Ë x)
 N:w.cell? ⟨r,5,Ä⟩=Ã (Â Ë v)
 I:w.cell? ⟨r,8,Ä⟩=Ã (Ê bp n cp)
def Ck.C{r:Nat}(h:Ck r c i O n j w)(k:fe fi w u):Ck r c i O n j u:=⟨k.r h.M id,k.r h.N id,k.r h.I id⟩
def rh(a:List (Nat×fM))(v:Int)(x:Nat)(gL:List Tx):Option fM×ByteArray:=
 match mN a v with
 |none=>(Ä,nV 3)
 |some p=>if a.length=40 then(Ä,nV 4)else match vU x p.2.s gL with
  |none=>(Ä,nV 5)
  |some r=>(Ã ⟨r.1,r.2.1,r.2.2,p.2.h+1⟩,oD a.length)
def Mb(c:È)(d:List (Nat×fM))(w:É):Prop:=∃a n b,c=Ê a n b/\n<=b/\qx a n d w
def TC(f:List (Nat×fM))(i:È)(w:É)(o:Option fM×ByteArray)(e:ax)(a:É):Prop:=
 fe fi w a/\((o.1=Ä/\e=Ç (æ #[i,Í o.2]))\/∃v b d,o.1=Ã v/\e=Ç (æ #[d,Í o.2])/\Mb d (f++[(b,v)]) a/\TB b v.s v.h w a/\∃g n c,d=Ê (Ã ⟨g,0,Ä⟩) n c/\TA f b w a g)
def an9{c:List (Nat×fM)}{v:fM}(e:qx O n c w)(f:sr j v w)(h:∀a u,(su c++[Å<|Ã ⟨j,0,Ä⟩])[a]?=Ã u->w.cell? ⟨i,0+a,Ä⟩=Ã u):qx (Ã ⟨i,0,Ä⟩) (n+1) (c++[(j,v)]) w:=by
 refine⟨by rw[e.r];simp,λa b u q=>⟨i,0,U,?_,?_⟩⟩
 .apply h a _;have:su c++[Å<|Ã ⟨j,0,Ä⟩]=su (c++[(j,v)]):=by simp[su]
  rw[this];unfold su;rw[Ķ,q];rfl
 .rcases Ů a c.length with d|d
  .rw[ç d]at q;let⟨_,_,_,_,k⟩:=e.C a b u q;exact k
  .rw[ü d]at q;have k:a-c.length=0:=by
    have:=(Ü.1 q).1;simp at this;omega
   rw[k]at q;cases q;exact f
def aoa{e:ax}(a:EF h W Ä e u)(k:fe fi w W):e=Ç (Å Ä)/\fe fi w u:=by
 rcases a with⟨_,b,c⟩|⟨_,_,_,_,_,_,q,_⟩
 .exact⟨b,k.fh c⟩
 .cases q
def aob{e:ax}{s:St}{a:List (Nat×Int)}{b:List (Int×Bool)}(c:EF h W (Ã (s,a,b)) e u)(l:0<=h)(m:h<40)(k:fe fi w W):∃B,e=Ç (Å<|Ã ⟨B,0,Ä⟩)/\fe fi w u/\sr B ⟨s,a,b,h+1⟩ u/\TB B s (h+1) w u:=by
 rcases c with⟨q,_⟩|⟨n,o,p,B,d,f,q,g,x,i⟩
 .cases q
 .cases q;exact⟨B,g,k.fh x.M,x.an4 i Z Z,ë k.M x.N,d,f,x.r,tB.I x.C,tB.I x.I,λj q=>ë k.M<|x.S j q,λj q=>ë k.M<|x.Y j q⟩
section
variable{bp:Option ă}{cp r x:Nat}{v:Int}{vs:List (Nat×fM)}{f:List (Nat×Tx)}
def aoc{p:Nat×fM}(F:Ò À 97 #[Ê bp n cp,Â Ë v] w λe a=>e=Ç (j1<|Ã p.1)/\fe fi w a)(f:Ck r v x O b i w)(m:((n:Int)==40)=Ï)(N:∀W,fe fi w W->Ò À 99 #[Å<|Ã ⟨p.1,0,Ä⟩,Â Ë x,Ê O b i] W (EF p.2.h W Ä)): Ò À 50 #[Ê bp n cp,Å<|Ã ⟨r,0,Ä⟩] w (TC vs (Ê bp n cp) w (Ä,nV 5)):=by
 have o:=f.N;have H:=fg<|Á F<|Á N f;go_enter ś,Ň;go_wp2_with (go_at_call 97;refine H.out.1.mono ?_;rintro e d ⟨rfl,c⟩;dsimp only[j1,Ū]);have g:=fg<|Á ((H.out.2.2.C c).C<|fe.fU fi _).M ((H.out.2.2.C c).C<|fe.fU fi _).I;go_region_held3 (λa=>a.cell? ⟨r,0,Ä⟩=Ã (Â Ë x)/\a.cell? ⟨r,8,Ä⟩=Ã (Ê O b i)) (first|exact g.out|exact j.out) (first
   |(go_at_call 99;refine(H.out.2.1 _ (c.fh kp)).mono ?_;rintro e k l;obtain⟨rfl,d⟩:e=Ç (Å Ä)/\fe fi w k:=aoa l (c.fh kp);dsimp only;have j:=fg (Á (H.out.2.2.C d).M (H.out.2.2.C d).I)))
 go_wp2_with (first
  |(go_at_call 98;refine(EG 5 A _).mono ?_;rintro e a ⟨rfl,c⟩;subst a))
 go_ret2;exact⟨d,Ø ⟨U,U⟩⟩
def aod{p:Nat×fM}{f:St}{g:List (Nat×Int)}{j:List (Int×Bool)}(k:qx bp n vs w)(Q:n<=40)(q:0<n)(s:n<=cp)(t:0<=p.2.h)(u:p.2.h<40)(F:Ò À 97 #[Ê bp n cp,Â Ë v] w λe a=>e=Ç (j1<|Ã p.1)/\fe fi w a)(l:Ck r v x O b i w)(S:((n:Int)==40)=Ï)(N:∀W,fe fi w W->Ò À 99 #[Å<|Ã ⟨p.1,0,Ä⟩,Â Ë x,Ê O b i] W (EF p.2.h W<|Ã (f,g,j))): Ò À 50 #[Ê bp n cp,Å<|Ã ⟨r,0,Ä⟩] w (TC vs (Ê bp n cp) w (Ã ⟨f,g,j,p.2.h+1⟩,oD vs.length)):=by
 have T:=l.N;rw[<-k.r];have H:=fg<|Á F<|Á N<|Á l k;go_enter ś,Ň;go_wp2_with (go_at_call 97;refine H.out.1.mono ?_;rintro e o ⟨rfl,d⟩;dsimp only[j1,Ū]);have y:=fg<|Á ((H.out.2.2.1.C d).C<|fe.fU fi _).M ((H.out.2.2.1.C d).C<|fe.fU fi _).I;go_region_held3 (λa=>a.cell? ⟨r,0,Ä⟩=Ã (Â Ë x)/\a.cell? ⟨r,8,Ä⟩=Ã (Ê O b i)) (first|exact y.out|exact o.out) (first
   |(go_at_call 99;refine(H.out.2.1 _ (d.fh kp)).mono ?_;rintro e D z;obtain⟨B,rfl,c,C,m⟩:=aob (w:=w) z t u (d.fh kp);dsimp only;have o:=fg (Á (H.out.2.2.1.C c).M (H.out.2.2.1.C c).I)))
 have W:=an8 (H.out.2.2.2.I c) Z q s B;have z:=fg W;go_wp2_with (first
  |(go_at_call 100;refine z.out.mono ?_;rintro e G ⟨I,J,rfl,D,d,o,E⟩)
  |(go_at_call 101;refine(X_ n Z _).mono ?_;rintro e a ⟨rfl,G⟩;subst a))
 go_ret2;refine⟨c.fh d,Ù ⟨_,B,_,U,U,⟨_,_,_,U,D,?_⟩,⟨m.C,by let⟨G,I,J,K,L,M,P⟩:=m.r;exact⟨G,I,J.I d id,K.C d,L.C d,M,P⟩⟩,_,_,_,U,ë c.M o.C,o.r⟩⟩;exact an9 ((H.out.2.2.2.I c).I d) (C.Y d) E
def aoe(a:qx bp n vs w)(C:n<=40)(j:0<n)(D:n<=cp)(t:∀p∈vs,p.2.h<40)(d:Ck r v x O b i w)(u:Ce O b f w)(E:b<=1000)(y:iM w)(G:x<8)(z:-1<=v): Ò À 50 #[Ê bp n cp,Å<|Ã ⟨r,0,Ä⟩] w (TC vs (Ê bp n cp) w<|rh vs v x<|lM f):=by
 have L:=d.N;unfold rh;cases g:mN vs v with
 |none=>
  have F:=Ma (cp:=cp) a Z j v z;rw[g]at F;have H:=fg F;go_enter ś,Ň;go_wp2_with (first
   |(go_at_call 97;refine H.out.mono ?_;rintro e I ⟨rfl,q⟩;dsimp only[j1,Ū])
   |(go_at_call 98;refine(EG 3 A _).mono ?_;rintro e l ⟨rfl,J⟩;subst l))
  go_ret2;exact⟨q,Ø ⟨U,U⟩⟩
 |some p=>
  have m:=Iq g;have c:=a.M m;have F:=Ma (cp:=cp) a Z j v z;rw[g]at F;have N:∀W,fe fi w W->Ò À 99 #[Å<|Ã ⟨p.1,0,Ä⟩,Â Ë x,Ê O b i] W (EF p.2.h W<|vU x p.2.s<|lM f):=λW k=>
   am2 (c.r.r k id) c.I (by have:=c.M;omega) c.C (u.I k) (y.r k id) E G
  have K:=a.r;by_cases B:n=40
  .simp only;rw[if_pos Z];have H:=fg F;clear F N a d u y t c g m K;have o:((n:Int)==40)=Ú:=by rw[B];rfl
   clear B;go_enter ś,Ň;go_wp2_with (first
    |(go_at_call 97;refine H.out.mono ?_;rintro e I ⟨rfl,q⟩;dsimp only[j1,Ū])
    |(go_at_call 98;refine(EG 4 A _).mono ?_;rintro e l ⟨rfl,J⟩;subst l))
   go_ret2;exact⟨q,Ø ⟨U,U⟩⟩
  .simp only;rw[if_neg Z];have o:((n:Int)==40)=Ï:=by rw[beq_eq_false_iff_ne];omega
   have l:=t p m;have H:=c.I;cases e:vU x p.2.s (lM f)with
   |none=>
    rw[e]at N;exact aoc F d o N
   |some q=>
    let⟨I,J,M⟩:=q;rw[e]at N;exact aod a C j D H l F d o N
end
theorem aof(h:l.length=145):À.built 139 [(0,Ē l.toArray)]=Ã (l++[Â Ë 0,Ê Ä 0 0]).toArray:=by let⟨z,d,a,b,c⟩:=Tk R_ R' A;rw[Ti S_ a,c];have:=LL (place:=λi=>[(0,145),(145,1),(146,1)].toArray[i]?) (pre:=[]) (suf:=[Â Ë 0,Ê Ä 0 0]) (i:=0) (v:=Ē l.toArray) (rest:=[]) U (by show l.toArray.size=145;simp[h]) b;simpa[ı,ğ]using this
theorem aog(a:o.op=Χ 139 #[(0,qQ)])(b:xX qQ=Ē l.toArray)(c:l.length=145):(Ĥ xX o).run À w=φ (.value<|Ē (l++[Â Ë 0,Ê Ä 0 0]).toArray) w:=by grind [Tl,aof]
def jM:fM:=⟨kj 8,[],[],0⟩
def aas:gK (kj 8):=by refine⟨λi=> ?_,λi j=>⟨Ö _,show(0:Int)<18446744073709551616 by decide⟩,λi=>⟨show(0:Nat)<=40 by decide,λc a=>by cases a⟩⟩;show gk (if i<8 then 1000 else 0);split<;>exact⟨A,A⟩
theorem aoh{s:St}(b:gK s)(h:fj i (iw s++[Ê Ä 0 0]++[Â Ë 0,Ê Ä 0 0]) 139 w):sr i ⟨s,[],[],0⟩ w:=by
 have c:=si s;refine⟨⟨λj v d=> ?_,?_⟩,b,Ö _,show(0:Int)<=40 by decide,?_,?_⟩
 .rw[ł];apply h.r j v;grind
 .apply h.r 145 _;simp_all
 .refine⟨Ä,0,h.r 144 _ ?_,λj x a=>by cases a⟩;grind
 .refine⟨Ä,0,h.r 146 _ ?_,λj x a=>by cases a⟩;simp_all
def xY(ls:List (Nat×Int)):Prop:=∀e∈ls,e.1<8/\gk e.2
def TD(J:St->List (Nat×Int)->Prop)(F:lZ):Prop:=∀s a x y g k,gK s->x<8->y<8->gk k->0<=g->g<=100000->(a.length:Int)+g<=1000000->J s a->J (F s a x y g k).s (F s a x y g k).M
structure aat(J:St->List (Nat×Int)->Prop):Prop where
 st:∀{s ls} (y j:Nat) (v:Int),J s ls->J (s.r y j v) ls
 mv:∀{s ls y} (q:Int) {p:Int},gK s->y<8->gk p->J s ls->J (rf s y q p).2 ls
 lg:∀{s ls y p},y<8->gk p->J s ls->J s (ls++[(y,p)])
section
variable{c:RC}{F:lZ}{J:St->List (Nat×Int)->Prop}
theorem aoi(b:aat J)(i:TD J F)(d:c.y<8)(k:Nat)(t:RT)(o:k<=20)(a:oc t)(h:J t.s t.C):J (mL F c k t).s (mL F c k t).C:=by
 have f:=tx a.r;have g:=tx<|pH a.r;by_cases j:k=16
 .subst j;exact b.st _ _ _ h
 by_cases l:k=18
 .subst l;exact b.mv _ a.s d g h
 by_cases m:k=19
 .subst m;exact b.lg d f h
 by_cases n:k=20
 .subst n;show J (iX F c t _ _ _).2.2.s (iX F c t _ _ _).2.2.C;unfold iX;split
  .exact h
  .have e:=tx<|pH<|pH a.r;have p:=a.g0;have q:=a.C;have r:=a.I;have u:=f.1;have v:=g.1;exact i _ _ _ _ _ _ a.s d Z e Z Z Z h
 have e:(mL F c k t).s=t.s/\(mL F c k t).C=t.C:=by unfold mL;grind
 grind
def aau(b:aat J):∀n,TD J<|sf n
 |0=>λ_ _ _ _ _ _ _ _ _ _ _ _ _ h=>h
 |n+1=>λs d x y g k a f e i j l m h=>by
  show J (qu (sf n) ⟨x,y,k,4-(n:Int),g⟩ s d).s (qu (sf n) ⟨x,y,k,4-(n:Int),g⟩ s d).M;unfold qu;simp only;split
  .exact(EC (c:=⟨x,y,k,4-(n:Int),g⟩) (a.I y).1 (λn o=>S0 a y o) (H5 n) f e i (aoi b (aau b n) e) _ _ _ uP ⟨fq,fq,a,j,l,m⟩ h).2
  .exact h
end
def TF:TD (λ_ e=>xY e) gf:=aau ⟨λ_ _ _ h=>h,λ_ _ _ _ _ h=>h,λa b h e c=>by
 rcases ú.1 c with q|q
 .exact h e q
 .simp at q;subst q;exact⟨a,b⟩⟩ 4
def aoj{s:St}(b:gK s){ls:List (Nat×Int)}{t:Tx}(a:t.Ok)(c:(ls.length:Int)+400<=1000000)(h:xY ls):xY (my s ls t).2.2.2:=by
 unfold my;split
 .exact h
 .split
  .exact h
  .unfold zL;split
   .exact h
   .rename_i d;have e:=(b.fx t.x).2;exact TF _ ls t.x t.y (t.n-10) t.k (b.r t.x ⟨Z,Z⟩) a.x a.y ⟨a.r,by have:=a.C;omega⟩ Z Z Z h
def zS(a:List (Int×Bool)):Prop:=∀e∈a,0<=e.1/\e.1<=400
def zS.OH{a:List (Int×Bool)}(h:zS a){e:Int×Bool}(b:0<=e.1)(c:e.1<=400):zS (a++[e]):=λx d=>by
 rcases ú.1 d with q|q
 .exact h x q
 .simp at q;subst q;exact⟨b,c⟩
structure TG(v:fM):Prop where
 C:xY v.r
 r:zS v.C
 I:v.r.length<=400000
 M:v.C.length<=1000
def TH:∀(gL:List Tx) {s:St} {ls:List (Nat×Int)} {a:List (Int×Bool)} {r:St×List (Nat×Int)×List (Int×Bool)},(∀t∈gL,t.Ok)->gK s->xY ls->zS a->ls.length+400*gL.length<=400000->a.length+gL.length<=1000->uR m s ls a gL=Ã r->gK r.1/\xY r.2.1/\zS r.2.2/\r.2.1.length<=400000/\r.2.2.length<=1000
 |[],s,ls,a,r,_,hs,hl,hu,n1,n2,h=>by cases h;exact⟨hs,hl,hu,by simpa using n1,by simpa using n2⟩
 |t::q,s,ls,a,r,ht,hs,hl,hu,n1,n2,h=>by
  unfold uR at h;simp only[Ľ]at n1 n2;split at h
  .have d:=W_ (ls:=ls) hs (ht t fq) Z;have e:=d.C;exact TH q (λb c=>ht b<|Ś _ c) (d.s.r m<|zH _) (aoj hs (ht t fq) Z hl) (hu.OH d.g0 d.r) Z (by simp;omega) h
  .cases h
def aok{s:St}{gL:List Tx}{r:St×List (Nat×Int)×List (Int×Bool)}(a:∀t∈gL,t.Ok)(b:gK s)(j:gL.length<=1000)(e:vU m s gL=Ã r):TG ⟨r.1,r.2.1,r.2.2,h⟩:=by unfold vU at e;obtain⟨k,c,rfl⟩:=Ì.1 e;let⟨_,d,f,g,i⟩:=TH gL a b (λ_ q=>by cases q) (λ_ q=>by cases q) (by simp;omega) (by simp;omega) c;exact⟨d,f,g,i⟩
end Go.Proofs.Y.gp
namespace Go.Proofs
open Go.Shelf
def Tryz.lays283_ren:Ĭ:=⟨fun|283=>171|n=>n,fun|3=>3|9=>9|4=>4|n=>n,fun|n=>n⟩
def Tryz.lays283:aK À Tryz.lays283_ren:={
 mixed:=fv
 f283:=Ź.trans<|congrArg Ã fv
 t3:=Ě
 a3:=Ŝ
 z3:=ň
 v3:=ħ
 t4:=ě
 a4:=ŝ
 z4:=ŉ
 v4:=Ĩ
 t9:=đ
 a9:=Ş
 z9:=Ŋ
 v9:=ĩ}
open Go.Lib in
def Tryz.internal_strconv_small(i:Nat)(h:i<100)(w:É):
 Ò À 171 #[Â Ë i] w λe a=>e=Ç (Í ⟨(Ļ i).toArray⟩)/\a=w:=Any.internal_strconv_small Tryz.lays283 i h w
def Tryz.laysM284_ren:Ĭ:=⟨fun|284=>172|129=>182|317=>181|318=>183|n=>n,fun|53=>23|3=>3|212=>285|0=>0|4=>4|46=>161|5=>5|9=>9|n=>n,fun|17=>1|n=>n⟩
def Tryz.laysM284:Go.Proofs.LaysM.n284 À Tryz.laysM284_ren:={
 mixed:=fv
 f129:=Tryz.func182.trans<|congrArg Ã fv
 f284:=Tryz.func172.trans<|congrArg Ã fv
 f317:=Tryz.func181.trans<|congrArg Ã fv
 f318:=Tryz.func183.trans<|congrArg Ã fv
 t0:=Γ
 a0:=aH
 z0:=ay
 v0:=Ρ
 t3:=Ě
 a3:=Ŝ
 z3:=ň
 v3:=ħ
 t4:=ě
 a4:=ŝ
 z4:=ŉ
 v4:=Ĩ
 t5:=Δ
 a5:=aI
 z5:=az
 v5:=Τ
 t9:=đ
 a9:=Ş
 z9:=Ŋ
 v9:=ĩ
 t46:=ū
 a46:=ρ
 z46:=ε
 v46:=ż
 t53:=ķ
 a53:=Ž
 z53:=Ŧ
 v53:=ŀ
 t212:=Tryz.underlying285
 a212:=Tryz.isAgg285
 z212:=Tryz.sizeOf285
 v212:=Tryz.zeroValue285
 g17:=fv
 i0:=fv
 i3:=fv
 i4:=fv
 i5:=fv
 i9:=fv
 i46:=fv
 i53:=fv
 i212:=fv
 m17:=by kernel_rfl}
open Go.Lib in
def Tryz.internal_strconv_numDigits(u:Nat)(a:1<=u)(b:u<18446744073709551616)(w:É)(c:ω À w "internal/strconv.uint64pow10" Æ aA):
 Ò À 172 #[Â Æ u] w λe d=>e=Ç (Â Ë<|č u)/\d=w:=Any.internal_strconv_numDigits Tryz.laysM284 u a b w c
def Tryz.lays285_ren:Ĭ:=⟨fun|285=>173|n=>n,fun|37=>98|53=>23|3=>3|4=>4|51=>86|9=>9|5=>5|0=>0|n=>n,fun|n=>n⟩
def Tryz.lays285:aL À Tryz.lays285_ren:={
 mixed:=fv
 f285:=Tryz.func173.trans<|congrArg Ã fv
 t0:=Γ
 a0:=aH
 z0:=ay
 v0:=Ρ
 t3:=Ě
 a3:=Ŝ
 z3:=ň
 v3:=ħ
 t4:=ě
 a4:=ŝ
 z4:=ŉ
 v4:=Ĩ
 t5:=Δ
 a5:=aI
 z5:=az
 v5:=Τ
 t9:=đ
 a9:=Ş
 z9:=Ŋ
 v9:=ĩ
 t37:=Ā
 a37:=Tryz.isAgg98
 z37:=Tryz.sizeOf98
 v37:=Tryz.zeroValue98
 t51:=ž
 a51:=aB
 z51:=ς
 v51:=Ε
 t53:=ķ
 a53:=Ž
 z53:=Ŧ
 v53:=ŀ}
open Go.RowKit Go.Sort Go.Lib in
def Tryz.internal_strconv_formatBase10(a c f:Nat)(u:Nat)(d:Array UInt8)(w:É)(h:Holds (λ(b:UInt8)=>Â aU (b.toNat:Int)) w a c d)(i:u<10^d.size)(j:u<18446744073709551616)(k:d.size<4611686018427387904):
 Ò À 173 #[Ê (Ã ⟨a,c,Ä⟩) d.size f,Â Æ u] w λe l=>
  e=Ç (æ #[])/\∃(n m:Nat) (g:Array UInt8),l=(ζ (λ(b:UInt8)=>Â aU (b.toNat:Int)) w a c g).drewN n/\FmtInv d.size u 0 m g:=Any.internal_strconv_formatBase10 Tryz.lays285 a c f u d w h i j k
def Tryz.lays99_ren:Ĭ:=⟨fun|99=>159|206=>178|n=>n,fun|9=>9|4=>4|3=>3|n=>n,fun|n=>n⟩
def Tryz.lays99:aS À Tryz.lays99_ren:={
 mixed:=fv
 f99:=Tryz.func159.trans<|congrArg Ã fv
 f206:=Tryz.func178.trans<|congrArg Ã fv
 t3:=Ě
 a3:=Ŝ
 z3:=ň
 v3:=ħ
 t4:=ě
 a4:=ŝ
 z4:=ŉ
 v4:=Ĩ
 t9:=đ
 a9:=Ş
 z9:=Ŋ
 v9:=ĩ}
open Go.RowKit Go.Lib in
def Tryz.strings_HasPrefix(s p:ByteArray)(w:É):
 Ò À 159 #[Í s,Í p] w λe a=>e=Ç (Ñ<|Lib.hasPrefix s.data.toList p.data.toList)/\a=w:=Any.strings_HasPrefix Tryz.lays99 s p w
def Tryz.lays212_ren:Ĭ:=⟨fun|212=>158|263=>176|264=>177|n=>n,fun|46=>161|51=>86|146=>279|53=>23|148=>281|n=>n,fun|n=>n⟩
def Tryz.lays212:aN À Tryz.lays212_ren:={
 mixed:=fv
 f212:=Tryz.func158.trans<|congrArg Ã fv
 f263:=Tryz.func176.trans<|congrArg Ã fv
 f264:=Tryz.func177.trans<|congrArg Ã fv
 t46:=ū
 a46:=ρ
 z46:=ε
 v46:=ż
 t51:=ž
 a51:=aB
 z51:=ς
 v51:=Ε
 t53:=ķ
 a53:=Ž
 z53:=Ŧ
 v53:=ŀ
 t146:=Tryz.underlying279
 a146:=Tryz.isAgg279
 z146:=Tryz.sizeOf279
 v146:=Tryz.zeroValue279
 t148:=Tryz.underlying281
 a148:=Tryz.isAgg281
 z148:=Tryz.sizeOf281
 v148:=Tryz.zeroValue281}
open Go.RowKit Go.Lib in
def Tryz.bits_Mul(x y:Nat)(a:x<18446744073709551616)(b:y<18446744073709551616)(w:É):
 Ò À 158 #[Â Æ x,Â Æ y] w λe c=>e=Ç (æ #[Â Æ ((x*y/18446744073709551616:Nat):Int),Â Æ ((x*y%18446744073709551616:Nat):Int)])/\c=w:=Any.bits_Mul Tryz.lays212 x y a b w
end Go.Proofs
namespace Go.Proofs.Y.gp
open Go Go.Proofs Go.RowKit Go.Sort Go.Proofs.Y.Lift
def zU:UInt8->È:=λb=>Â aU (b.toNat:Int)
def lN(w:É):Prop:=ω À w "internal/strconv.uint64pow10" Æ aA
def aol(a:kn w)(b:Nat)(f:Array È->Array È):kn (Ł w b f):=by
 intro i o h;unfold Ł at h;simp only[Û]at h;split at h
 .cases d:w.heap[i]? with
  |none=>rw[d]at h;cases h
  |some e=>
   have:=a _ _ d;rw[d]at h;cases e with
   |cells c t z=>simp only[ñ,è]at h;subst h;exact λx=>x
   |_=>exact absurd trivial this
 .exact a i o h
def aom(a:rY m w)(b:Nat)(f:Array È->Array È)(j:NF b w):rY m (Ł w b f):=by
 intro i c T k l h g;unfold Ł at h;simp only[Û]at h;split at h
 .rename_i e;subst e;cases d:w.heap[b]? with
  |none=>rw[d]at h;cases h
  |some n=>
   rw[d]at h;cases n with
   |cells o t z=>
    simp only[ñ,è,onCells,ģ]at h;have:=j _ _ _ d;rw[h.2.1,g]at this;cases this
   |_=>simp only[ñ,è,onCells]at h;cases h
 .exact a i c T k l h g
def fe.fS(w:World)(T:TypeId)(cs:Array Value)(off:Nat)(d:Array UInt8)(n:Nat)(hT:mq T=false:=by decide):fe fi w ((putRow zU (w.alloc<|.cells cs T) w.heap.size off d).drewN n):= ⟨by simp[ζ,Ł,World.drewN],λk hk _=>by show(Ł (w.alloc<|Ð cs T) w.heap.size _).heap[k]?=_;unfold Ł;simp only[Û];rw[if_neg Z];exact ď _ _ _ hk,λa=>aol (HM a cs T (0,0)) _ _,λ_ a=>aom (HN a cs T (0,0)<|Ø hT) _ _<|fj.G (fj.N w cs.toList T) hT⟩
def aon(w:É)(T:õ)(a:Nat)(c:a<=24):Holds zU (w.alloc<|Ð ġ T) w.heap.size 0 (ō a (0:UInt8)):=λj b=>by
 have d:j<a:=by simpa using b
 refine⟨?_,World.frozen?_alloc_new _ _ _ _⟩;rw[World.cell?_alloc_new,Lib.zeros24_at _ Z,getElem!_pos _ j b];simp[zU]
def fH(u:Nat):ByteArray:=⟨(Ļ u).toArray⟩
def aoo(u:Nat)(h:u<100)(w:É):Ò À 156 #[Â Æ u,Â Ë 10] w λe a=>e=Ç (Í<|fH u)/\a=w:=by go_enter aC,σ;go_wp2_with (go_at_call 171;refine(Tryz.internal_strconv_small u h _).mono ?_;rintro e a ⟨rfl,rfl⟩);go_ret;exact⟨U,U⟩
def aop(u:Nat)(h:¬u<100)(c:u<18446744073709551616)(w:É)(m:lN w):Ò À 156 #[Â Æ u,Â Ë 10] w λe b=>e=Ç (Í<|fH u)/\fe fi w b:=by
 have g:1<=u:=Z
 have o:č u<=20:=by have:=Lib.numDigits_eq u g c;split at this<;>omega
 have n:À.arrayLen 270=24:=fv
 have p:∀W,(Instr.sliceAt 270 (Å<|Ã ⟨w.heap.size,0,Ä⟩) Ä (Ã<|Â Ë (č u:Int)) Ä).run À W=φ (Ê (Ã ⟨w.heap.size,0,Ä⟩) (č u) 24) W:=λW=>by rw[run_sliceAt_array_h W 270 ⟨w.heap.size,0,Ä⟩ (by simp[Program.arrayLen,Program.elem,Tryz.type270]) Ë (č u:Int) Z (by rw[n];omega)];go_simp
 have i:=aon w 270 (č u) Z;have l:=Tryz.internal_strconv_formatBase10 w.heap.size 0 24 u (ō (č u) 0) (w.alloc<|Ð ġ 270) i (by rw[Ď];exact Lib.lt_pow_nDigits u) c (by rw[Ď];omega);rw[Ď]at l;go_enter aC,σ;go_wp2_with (go_at_call 172;refine(Tryz.internal_strconv_numDigits u g c _<|Lib.tabIs_alloc m _).mono ?_;rintro e b ⟨rfl,rfl⟩);go_at_call 173;apply l.mono;rintro e b ⟨rfl,k,q,a,d,hF⟩;replace d:b=(ζ zU (w.alloc<|Ð ġ 270) w.heap.size 0 a).drewN k:=d;subst d;have r:(convert 98 9<|Ê (Ã ⟨w.heap.size,0,Ä⟩) (č u) 24).run À ((ζ zU (w.alloc<|Ð ġ 270) w.heap.size 0 a).drewN k)=φ (Í<|fH u) ((ζ zU (w.alloc<|Ð ġ 270) w.heap.size 0 a).drewN k):=by have h:=run_convert_bytes_back (P:=À) ((ζ zU (w.alloc<|Ð ġ 270) w.heap.size 0 a).drewN k) 98 9 5 ⟨w.heap.size,0,Ä⟩ 24 (Ļ u) fv fv fv (λj f=>by rw[Lib.row_is_numeral hF j f,Lib.add_plain,World.cell?_drewN];exact cell?_putRow zU _ w.heap.size 0 _ a (Lib.hid i).out (by rw[hF.size,Ď]) j<|by rw[hF.size];rwa[Ģ]at f);rwa[Ģ]at h
 go_wp2;go_ret;exact⟨U,fe.fS w 270 _ _ a k⟩
def aoq(u:Nat)(d:u<18446744073709551616)(w:É)(f:lN w):Ò À 156 #[Â Æ u,Â Ë 10] w λe c=>e=Ç (Í<|fH u)/\fe fi w c:=by
 by_cases h:u<100
 .exact(aoo u h w).mono λe c ⟨a,b⟩=>⟨a,b▸fe.fX _ _⟩
 .exact aop u h d w f
def aor(u:Nat)(b:u<18446744073709551616)(w:É)(c:lN w):Ò À 141 #[Â Æ u,Â Ë 10] w λe a=>e=Ç (Í<|fH u)/\fe fi w a:=by go_enter Tryz.func141,Tryz.ntmps141;go_wp2_with (go_at_call 156;refine(aoq u b _ c).mono ?_;rintro e a ⟨rfl,d⟩);go_ret;exact⟨U,d⟩
def xZ(u:Nat)(b:u<18446744073709551616)(w:É)(c:lN w):Ò À 102 #[Â Æ u] w λe a=>e=Ç (Í<|fH u)/\fe fi w a:=by go_enter Tryz.func102,Tryz.ntmps102;go_wp2_with (go_at_call 141;refine(aor u b _ c).mono ?_;rintro e a ⟨rfl,d⟩);go_ret;exact⟨U,d⟩
end Go.Proofs.Y.gp
namespace Go.Proofs.Y.gp
open Go Go.Proofs Go.RowKit Go.Proofs.Y.Lift
def TJ(B:Nat):iW:=⟨B,136,[]⟩
def aos(B:Nat):(TJ B).Ok:=⟨show(136:Nat)≠23 by decide,show(136:Nat)≠250 by decide,show(136:Nat)≠276 by decide,show(136:Nat)≠294 by decide,show(136:Nat)≠245 by decide,show(136:Nat)≠239 by decide⟩
def aav{s:St}(l:mA n s h w)(z:gK s)(B:iM w)(x y:Nat)(g k:Int)(T:x<8)(V:y<8)(Y:0<=g)(vT:g<=100000)(hk:gk k)(r:B9)(D:r=gf s [] x y g k): Ò À 142 #[Å<|Ã ⟨n,0,Ä⟩,Â Ë x,Â Ë y,Â Æ g,Â Æ k] w λe f=>
  ∃lv,e=Ç (æ #[Ē #[Â Æ r.r,Ñ r.C,Â Æ r.I],lv])/\f.ownsRow 0 250 2 lv r.M.length (kr r.M)/\fe fi w f:=by
 let⟨dd,E,F⟩:=Ì.1 Tn;have G:(À.info? 132).map (·.size)=Ã (iw s).length:=by rw[si];exact T_
 let⟨i0,z0,I,J,K,L⟩:=G_ F';have m:=S6 s (lv:=Ê Ä 0 0) U;rw[zM]at m;have o:(iw s++[Ê Ä 0 0]).length=145:=by rw[Ó,si];rfl
 have M:=fe.gJ fi w #[Â Æ 0,Ñ Ï,Â Æ 0] 245;have N:=(l.r M id).C;have gT:=á w _ l.h;have C:∀W,iE (w.heap.size+1) 136 [] s (Ê Ä 0 0) W->iM W->Ò À 157 #[Å<|Ã ⟨w.heap.size+1,0,Ä⟩,Â Ë x,Â Ë y,Â Æ g,Â Æ k,Â Ë 1] W λe f=>e=Ç (Ē #[Â Æ r.r,Ñ r.C,Â Æ r.I])/\∃jz,iu (TJ<|w.heap.size+1) (Ê Ä 0 0) 0 W r.s r.M f jz:=λW hW hrW=>by rw[D];exact N_ (TJ<|w.heap.size+1) (aos _) s _ [] x y g k W hW (ĉ _ _ _ _) hrW z T V Y vT hk<|by simp;omega
 have a:=fg<|Á E<|Á F<|Á G<|Á N<|Á I<|Á K<|Á (J.trans o.symm)<|Á (L.trans o.symm) m;have H:=fg<|Á B C;clear E F G I J K L m o N l C B z M D;go_enter Tryz.func142,Tryz.ntmps142;go_wp2_with (first
  |(with_reducible refine ĥ U 132 _ U n 0 U (iw s) dd a.out.2.2.2.1 a.out.1 a.out.2.1 a.out.2.2.1 ?_)
  |(with_reducible refine Ć U (Ã 19) U _ _ (Tm U U<|si s) ?_)
  |(with_reducible refine E_ U U 136 U 12 U _ _ U U a.out.2.2.2.2.1 a.out.2.2.2.2.2.1 (iw s++[Ê Ä 0 0]) a.out.2.2.2.2.2.2.1 a.out.2.2.2.2.2.2.2.1 U U a.out.2.2.2.2.2.2.2.2 ?_;intro t LJ O Er))
 have vM:t.heap.size=w.heap.size+1+1:=by simpa using Er
 have P:iE (w.heap.size+1) 136 [] s (Ê Ä 0 0) t:=by unfold iE;rw[ò,zM];simpa using LJ
 have Q:=(fe.gJ _ _ _ _).fh O;have AZ:=(fj.N w [Â Æ 0,Ñ Ï,Â Æ 0] 245).I O id;go_at_call 157;refine(H.out.2 t P<|H.out.1.r Q id).mono ?_;rintro e u ⟨rfl,lv,d⟩;have b:=AZ.I d.C (λq=>q.elim (λq=>absurd q<|by show w.heap.size≠w.heap.size+1;omega) λq=>by cases q);have sW:=d.C.M;have hlv:u.cell? ⟨w.heap.size+1,144,Ä⟩=Ã lv:=d.r.HT Z;obtain⟨la,lc,rfl⟩:=jL d.I;have l0:=b.M;have y0:=b.C 0;have y1:=b.C 1;have y2:=b.C 2;have c0:=b.r 0 _ U;have c1:=b.r 1 _ U;have c2:=b.r 2 _ U;have Te:w.heap.size+1<u.heap.size:=Z
 have c:=fg<|Á d<|Á b<|Á Q P;go_wp2_with fail;go_region;go_wp2_with fail;let⟨d2,oU,xr⟩:=Ì.1 S8;have S:=((fe.I (X:=λk=>k=w.heap.size) (w:=u) (p:=⟨w.heap.size,0,Ä⟩) U<|Â Æ r.r).fh<|fe.I (X:=λk=>k=w.heap.size) (p:=⟨w.heap.size,1,Ä⟩) U<|Ñ r.C).fh (fe.I (X:=λk=>k=w.heap.size) (p:=⟨w.heap.size,2,Ä⟩) U<|Â Æ r.I);have v:=λW=>(fe.gJ fi W #[Â Æ r.r,Ñ r.C,Â Æ r.I] 245).fh<|fe.fU _ _;apply ð (zK U U (fj.Y (vs:=[Â Æ r.r,Ñ r.C,Â Æ r.I])<|(((c.out.2.1.fS 0<|Â Æ r.r).fS 1<|Ñ r.C).fS 2<|Â Æ r.I).I (v _) id) oU xr S9) U;refine⟨_,U,ig (ig c.out.1.I S λj hj y=> ?_) (v _) λ_ _=>id,?_⟩
 .let⟨j,i⟩:=lY c.out.1.I hj;rw[y,c.out.2.1]at i;cases i
 .refine((c.out.2.2.1.C c.out.1.C λi j q=> ?_).C S λi j q=> ?_).fh<|v _
  .rcases q with q|q
   .exact absurd q<|by show i≠w.heap.size+1;omega
   .cases q
  .omega
def oX(s:St)(x y:Nat)(k:Int):Nat->Nat->ByteArray
 |_,0=>⟨#[45]⟩
 |i,n+1=>if(gf s [] x y i k).C then fH i else oX s x y k (i+1) n
noncomputable def Mc:ŏ:=(Tryz.f104.body.bind kz).getD ĵ
def Cl(a x y:Nat)(k:Int)(r:È)(i:Int)(u:Nat->È):é:=⟨#[Å<|Ã ⟨a,0,Ä⟩,Â Ë x,Â Ë y,Â Æ k,u 4,u 5,u 6,u 7,r,u 9,u 10,u 11,Â Æ i,u 13,u 14,u 15,u 16,u 17,u 18,u 19,u 20,u 21,u 22,u 23,u 24,u 25,u 26,u 27,u 28,u 29],[]⟩
def zV(b x y:Nat)(k:Int)(r:È)(i:Int)(a:é):Prop:=∃u,a=Cl b x y k r i u
theorem lN.r(h:lN w)(q:fe fi w u):lN u:=by
 unfold lN ω World.var? at*;cases a:À.globalNamed "internal/strconv.uint64pow10" with
 |none=>rw[a]at h;cases h
 |some g=>
  rw[a]at h;simp only[Option.bind_some]at h|-;have b:g<w.heap.size:=by grind
  rwa[q.N g b id]
section
variable{Y:é->É->Prop}{x y:Nat}{k:Int}{s:St}
def aot(b:È)(u:Nat->È)(c:∀a,zV i x y k b 401 a->H a w): Î À Mc (Exit.then K<|QN H Y) (Cl i x y k b 401 u) w:=by
 unfold Cl;conv=>arg 2;whnf
 go_wp2_with fail
 exact c _ (gu _)
def aou(n:È)(u:Nat->È)(j:Nat)(P:j<401)(B:mA i s h w)(C:gK s)(D:iM w)(E:lN w)(F:x<8)(G:y<8)(I:gk k) (o:(gf s [] x y j k).C=Ï->∀a d,zV i x y k n ((j+1:Nat):Int) a->fe fi w d->K a d) (p:(gf s [] x y j k).C=Ú->∀a d,zV i x y k (Í<|fH j) j a->fe fi w d->Y a d): Î À Mc (Exit.then K<|QN H Y) (Cl i x y k n j u) w:=by
 unfold Cl;conv=>arg 2;whnf
 have T:=aav B C D x y j k F G Z Z I _ U;obtain⟨q,m,r,t,v,J⟩:∃q m r t v,gf s [] x y j k=⟨q,m,r,t,v⟩:=⟨_,_,_,_,_,U⟩;rw[J]at T o p;have b:=fg<|Á T<|Á o<|Á p E;cases m with
 |true=>
  go_wp2_with (first
   |(go_at_call 142;refine b.out.1.mono ?_;rintro e g ⟨L,rfl,c,f⟩;obtain⟨M,N,rfl⟩:=jL c;have l:=fg<|Á f c;clear f c)
   |(go_at_call 102;refine(xZ j Z _ (b.out.2.2.2.r (l.out.1.fh (fe.gJ fi g _ _)))).mono ?_;rintro e Q ⟨rfl,z⟩;have O:=fg z;clear z))
  exact b.out.2.2.1 trivial _ _ (gu _)<|(l.out.1.fh<|fe.gJ fi g _ _).fh O.out
 |false=>
  go_wp2_with (first
   |(go_at_call 142;refine b.out.1.mono ?_;rintro e g ⟨L,rfl,c,f⟩;obtain⟨M,N,rfl⟩:=jL c;have l:=fg (Á f c);clear f c))
  exact b.out.2.1 trivial _ _ (gu _)<|l.out.1.fh<|fe.gJ fi g _ _
def LI(i x y:Nat)(k:Int)(b:È)(s:St)(c:É)(d:ByteArray)(a:é)(w:É):Prop:=
 ∃j:Nat,zV i x y k b j a/\j<=401/\fe fi c w/\oX s x y k j (401-j)=d
def LE(i x y:Nat)(k:Int)(b:È)(c:É)(d:ByteArray)(a:é)(w:É):Prop:=zV i x y k b 401 a/\fe fi c w/\d=⟨#[45]⟩
def LR(i x y:Nat)(k:Int)(c:É)(d:ByteArray)(a:é)(w:É):Prop:=∃b,zV i x y k (Í d) b a/\fe fi c w
def Md(a:é)(_:É):Nat:=match a.tmps.getD 12 ā with
 |Â _ i=>401-i.toNat
 |_=>0
def aaw{a:é}(b:zV i x y k v j a):Md a w=401-j:=by obtain⟨u,rfl⟩:=b;show 401-(j:Int).toNat=_;simp
def aov(n:mA i s h u)(o:gK s)(p:iM u)(r:lN u)(t:x<8)(z:y<8)(C:gk k)(a:é)(w:É)(D:LI i x y k v s u B a w): Î À Mc (Exit.then (λe f=>LI i x y k v s u B e f/\Md e f<Md a w)<|QN (LE i x y k v u B)<|LR i x y k u B) a w:=by
 let⟨j,m,H,c,d⟩:=D;rw[aaw (w:=w) m];obtain⟨b,rfl⟩:=m;by_cases E:j=401
 .subst E;exact aot v b λa q=>⟨q,c,d.symm⟩
 .have F:401-j=(401-(j+1))+1:=Z
  rw[F,oX]at d;refine aou v b j Z (n.r c id) o (p.r c id) (r.r c) t z C ?_ ?_
  .intro g e f q l;rw[g]at d;exact⟨⟨j+1,q,Z,c.fh l,d⟩,by rw[aaw q];omega⟩
  .intro g e f q l;rw[g]at d;have G:fH j=B:=d;rw[G]at q;exact⟨j,q,c.fh l⟩
def aow(c:mA i s h w)(d:gK s)(f:iM w)(g:lN w)(j:x<8)(l:y<8)(m:gk k): Ò À 104 #[Å<|Ã ⟨i,0,Ä⟩,Â Ë x,Â Ë y,Â Æ k] w λe a=>e=Ç (Í<|oX s x y k 0 401)/\fe fi w a:=by
 have L:∀a,zV i x y k (Í ⟨#[]⟩) 0 a->Î À (à Mc) (QN (LE i x y k (Í ⟨#[]⟩) w<|oX s x y k 0 401)<|LR i x y k w<|oX s x y k 0 401) a w:=λa n=>
  Ĉ (LI i x y k (Í ⟨#[]⟩) s w<|oX s x y k 0 401) Md ⟨0,n,â _,fe.fX _ _,U⟩<|aov c d f g j l m
 generalize oX s x y k 0 401=r at*;go_enter Tryz.func104,Tryz.ntmps104;go_wp2_with fail;refine Ý ?_ ((fg L).out _ (gu _));rintro(_|(_|_)|_|_|_|_) a v hq;all_goals first|exact absurd hq id|skip
 .obtain⟨b,o,rfl⟩:=hq;obtain⟨u,rfl⟩:=b;unfold Cl;go_wp2_with fail;go_ret;simp_all
 .let⟨e,b,o⟩:=hq;obtain⟨u,rfl⟩:=b;unfold Cl;go_wp2_with fail;go_ret;simp_all
end
def zW:(À.info? 9).map (λi=>(i.zero,i.size,i.bytes))=Ã (Ã<|Í ⟨#[]⟩,1,16):=fv
def kJ(xs:List ByteArray):List È:=xs.map Í
structure ij(w0:É)(tv:È)(xs:List ByteArray)(w:É):Prop where
 ft:w.ownsRow w0.heap.size 9 1 tv xs.length (kJ xs)
 r:fe fi w0 w
section
variable{w0:É}{tv:È}{xs:List ByteArray}
def ij.M(w0:É){w:É}(k:fe fi w0 w):ij w0 (Ê Ä 0 0) [] w:=⟨ĉ _ _ _ _,k⟩
def ij.fO(h:ij w0 tv xs w)(k:fe fi w u):ij w0 tv xs u:=⟨ig h.ft k λ_ _=>id,h.r.fh k⟩
def ij.C(h:ij w0 tv xs w)(a:qk w w0.heap.size 9 1 tv xs.length (kJ xs) 1 [Í B] v u):ij w0 v (xs++[B]) u:=by
 refine⟨?_,h.r.C a.r λi b q=> ?_⟩
 .have:=a.ft;rwa[show kJ xs++[Í B]=kJ (xs++[B]) by simp[kJ],show xs.length+1=(xs++[B]).length by simp]at this
 .have:=(h.ft.lt i q).1;omega
end
theorem pI(u:Nat)(h:u<18446744073709551616):(fH u).size<=20:=by have:=Lib.nDigits_le20 u h;unfold fH;show(Ļ u).toArray.size<=20;grind [Ģ]
def nJ(p:Option ă)(a:List È)(w:É):Prop:=∀(j:Nat) (x:È),a[j]?=Ã x->∃b o,p=Ã ⟨b,o,Ä⟩/\w.cell? ⟨b,o+j,Ä⟩=Ã x
def nJ.C(h:nJ O l w)(q:fe fi w u):nJ O l u:=λj x a=>by let⟨b,o,c,d⟩:=h j x a;exact⟨b,o,c,q.r d id⟩
def nJ.r{base:Nat}(h:w.ownsRow base e i (Ê O n j) n l):nJ O l w:=λb x d=>by
 rcases h.2 with⟨f,k⟩|⟨g,m,o,f,_⟩
 .have:=h.1;rw[k,Nat.zero_mul]at this;rw[ß this]at d;cases d
 .cases f;refine⟨g,0,U,?_⟩;have:=h.cells (g:=g) U b x d;rwa[Addr.add_mid]at this
def TK{α:Type}(f g:α->È):∀(l:List α) (j:Nat) (x:α),l[j]?=Ã x->(l.flatMap λp=>[f p,g p])[j*2]?=Ã (f x)/\(l.flatMap λp=>[f p,g p])[j*2+1]?=Ã (g x)
 |[],j,x,h=>by cases h
 |a::l,0,x,h=>by cases h;exact⟨U,U⟩
 |a::l,j+1,x,h=>by rw[show(j+1)*2=j*2+1+1 by omega];exact TK f g l j x h
def iJ(y:Nat):ByteArray:=ø ⟨#[97,98,99,100,101,102,103,104]⟩ y<|y+1
def sw(e:Nat×Int):ByteArray:=iJ e.1++fH e.2.toNat
noncomputable def Me:ŏ:=(Tryz.f108.body.bind kz).getD ĵ
def EW(a:Option ă)(n b:Nat)(c:È)(i:Int)(u:Nat->È):é:=⟨#[Ê a n b,u 1,u 2,c,u 4,u 5,Ê a n b,Â Ë n,Â Ë i,u 9,u 10,u 11,u 12,u 13,u 14,u 15,u 16,u 17,u 18,u 19,u 20,u 21,u 22,u 23,u 24,u 25,u 26],[]⟩
def EX(b:Option ă)(n c:Nat)(d:È)(i:Int)(a:é):Prop:=∃u,a=EW b n c d i u
section
variable{X:é->É->Prop}{w0:É}{cp:Nat}{tv:È}{xs:List ByteArray}
def aox(u:Nat->È)(i:Int)(b:i=n)(c:∀a,EX O n cp tv n a->X a w): Î À Me (Exit.then K<|QQ X) (EW O n cp tv i u) w:=by
 unfold EW;conv=>arg 2;whnf
 subst b;go_wp2_with fail;exact c _ (gu _)
def aoy(u:Nat->È)(r:ij w0 tv xs w)(j:Nat)(P:j<n)(Q:n<=400000)(S:xs.length<=400000)(y p:Nat)(T:y<8)(s:p<18446744073709551616)(B:lN w)(l m:Nat)(C:O=Ã ⟨l,m,Ä⟩)(V:w.cell? ⟨l,m+j*2,Ä⟩=Ã (Â Ë y))(W:w.cell? ⟨l,m+j*2+1,Ä⟩=Ã (Â Æ p)) (b:∀a c t,EX O n cp t ((j+1:Nat):Int) a->ij w0 t (xs++[iJ y++fH p]) c->K a c): Î À Me (Exit.then K<|QQ X) (EW O n cp tv j u) w:=by
 unfold EW;conv=>arg 2;whnf
 subst C;have Y:(0:Int)<=(j:Int):=Z
 have e1:(j:Int)<(n:Int):=Z
 have y0:(0:Int)<=(y:Int):=Z
 have y1:(y:Int)<8:=Z
 have kg:=pI p s;have oy:Ë.wrap ((y:Int)+1)=(y:Int)+1:=by rw[ó];omega
 have Ee:(0:Int)<=(y:Int)+1:=Z
 have xk:(y:Int)+1<=8:=Z
 have qT:(y:Int)<=(y:Int)+1:=Z
 have uI:((y:Int)+1).toNat=y+1:=Z
 have Ir:¬9223372036854775807<min (y+1) 8-y+(fH p).size:=Z
 obtain⟨ta,tc,rfl⟩:=jL r.ft;have H:=fg<|Á r<|Á B b;go_wp2_with fail;change Î À _ _ _ (w.alloc<|Ð #[Â Ë y,Â Æ p] 250);have v:=fe.gJ fi w #[Â Ë y,Â Æ p] 250;have D:=(H.out.1.fO v).fO<|fe.fU _ _;have E:=(H.out.2.1.r v).r<|fe.fU _ _;have o:=(fj.N w [Â Ë y,Â Æ p] 250).I (fe.fU fi _) id;let⟨i0,F,G,I,J⟩:=í zW;have f:=fg<|Á F<|Á G<|Á I J;refine mr (λc=>c.cell? ⟨w.heap.size,0,Ä⟩=Ã (Â Ë y)/\c.cell? ⟨w.heap.size,1,Ä⟩=Ã (Â Æ p)) [] fv ?_;have L:=fg<|Á (o.r 0 _ rfl)<|o.r 1 _ rfl;generalize w.heap.size=ub at*;generalize Č (w.alloc<|Ð #[Â Ë y,Â Æ p] 250)=w1 at*;iterate 9 apply tk L.out
 apply gE 9;intro K b;go_simp;go_at_call 102;refine(xZ p s _ E).mono ?_;rintro e M ⟨rfl,x⟩;have N:=D.fO x;have d:=o.I x id;apply b.out _ _ λ_=>⟨d.r 0 _ U,d.r 1 _ U⟩;apply gE 10;intro K b;go_simp;apply b.out _ _ λ_=>⟨d.r 0 _ U,d.r 1 _ U⟩;have z:=fe.gJ fi M #[Í<|iJ y++fH p] 9;have g:=N.fO z;have i:=d.I z id;apply gE 11;intro K b;go_simp;apply b.out _ _ λ_=>⟨i.r 0 _ U,i.r 1 _ U⟩;apply gE 12;intro K b;refine LC fZ _ _ 54 fZ ù f.out.1 f.out.2.1 f.out.2.2.1 f.out.2.2.2 U fZ g.ft ⟨_,0,Ä⟩ [Í<|iJ y++fH p] fZ Z U (þ _ _ _) (λu k=>by simp at k;subst k;rfl) (by unfold Ą;omega) Z g.r.M ?_;intro tv1 w9 q;obtain⟨a2,U',rfl⟩:=jL q.ft;have k:=i.I q.r<|jA g.ft i A;apply b.out _ _ λ_=>⟨k.r 0 _ U,k.r 1 _ U⟩;apply gE 13;intro K b;go_simp;apply b.out _ _ λ_=>⟨k.r 0 _ U,k.r 1 _ U⟩;refine ma fv ?_ _;go_wp2_with fail;exact H.out.2.2 _ _ _ (gu _)<|g.C q
def TL(O:Option ă)(n cp:Nat)(w0:É)(l:List (Nat×Int))(a:é)(w:É):Prop:=
 ∃(j:Nat) (tv:È),EX O n cp tv j a/\j<=n/\ij w0 tv ((l.take j).map sw) w
def ltE(O:Option ă)(n cp:Nat)(w0:É)(l:List (Nat×Int))(a:é)(w:É):Prop:=
 ∃tv,EX O n cp tv n a/\ij w0 tv (l.map sw) w
def Mf(n:Nat)(a:é)(_:É):Nat:=match a.tmps.getD 8 ā with
 |Â _ i=>n-i.toNat
 |_=>0
def aax(b:EX O n cp tv i y):Mf n y w=n-i:=by obtain⟨u,rfl⟩:=b;show n-(i:Int).toNat=_;simp
theorem aoz{l:List (Nat×Int)}(D:n=l.length)(k:n<=400000)(m:xY l)(o:lN w0)(f:nJ O (kr l) w0)(a:é)(w:É)(p:TL O n cp w0 l a w): Î À Me (Exit.then (λb d=>TL O n cp w0 l b d/\Mf n b d<Mf n a w)<|QQ<|ltE O n cp w0 l) a w:=by
 let⟨j,tv,g,E,b⟩:=p;rw[aax g];obtain⟨u,rfl⟩:=g;by_cases r:j=n
 .subst r;refine aox u _ U λa q=>⟨tv,q,?_⟩;grind
 .obtain⟨x,e⟩:∃x,l[j]?=Ã x:=⟨_,Ô Z⟩;obtain⟨g0,s⟩:=TK _ _ l j x e;let⟨t,v,h,y⟩:=f (j*2) _ g0;let⟨F,G,i,z⟩:=f (j*2+1) _ s;rw[h]at i;cases i;have c:=m x<|Ġ e;refine aoy u b j Z k (by simp;omega) x.1 x.2.toNat c.1 (by have:=c.2.1;have:=c.2.2;omega) (o.r b.r) t v h (b.r.r y id) (by rw[Ĕ c.2.1];exact b.r.r z id) λa d B q C=>⟨⟨j+1,B,q,Z,?_⟩,by rw[aax q];omega⟩;rwa[ſ,e,Υ]
def aay{l:List (Nat×Int)}(b:n=l.length)(g:n<=400000)(c:xY l)(d:lN w)(f:nJ O (kr l) w): Ò À 108 #[Ê O n cp] w λe a=>∃tv,e=Ç tv/\ij w tv (l.map sw) a:=by
 have L:∀a,EX O n cp (Ê Ä 0 0) (0:Nat) a->Î À (à Me) (QQ<|ltE O n cp w l) a w:=λa e=>
  Ĉ (TL O n cp w l) (Mf n) ⟨0,_,e,â _,ij.M w<|fe.fX _ _⟩<|aoz b g c d f
 have H:=fg L;clear L c d f b;go_enter Tryz.func108,Tryz.ntmps108;go_wp2_with fail;refine Ý ?_ (H.out _ (gu _));rintro(_|(_|_)|_|_|_|_) a v hq;all_goals first|exact absurd hq id|skip
 let⟨tv,i,j⟩:=hq;obtain⟨u,rfl⟩:=i;unfold EW;go_wp2_with fail;go_ret;simp_all
end
def aaz(b:Bool):xN b=((b.toNat:Nat):Int):=by cases b<;>rfl
def EY(e:Int×Bool):ByteArray:=fH e.2.toNat++⟨#[58]⟩++fH e.1.toNat
noncomputable def Mg:ŏ:=(Tryz.f109.body.bind kz).getD ĵ
def EZ(a:Option ă)(n b:Nat)(c:È)(i:Int)(u:Nat->È):é:=⟨#[Ê a n b,u 1,u 2,c,u 4,u 5,Ê a n b,Â Ë n,Â Ë i,u 9,u 10,u 11,u 12,u 13,u 14,u 15,u 16,u 17,u 18,u 19,u 20,u 21,u 22,u 23,u 24,u 25],[]⟩
def E0(b:Option ă)(n c:Nat)(d:È)(i:Int)(a:é):Prop:=∃u,a=EZ b n c d i u
section
variable{cp:Nat}{xs:List ByteArray}
def aoA(u:Nat->È)(i:Int)(b:i=n)(c:∀a,E0 O n cp v n a->H a w): Î À Mg (Exit.then K<|QQ H) (EZ O n cp v i u) w:=by
 unfold EZ;conv=>arg 2;whnf
 subst b;go_wp2_with fail;exact c _ (gu _)
def aoB(c:Nat->È)(s:ij u v xs w)(j:Nat)(hj:j<n)(hn:n<=1000)(GH:xs.length<=1000)(p:Nat)(b:Bool)(D:p<18446744073709551616)(E:lN w)(t x:Nat)(W:O=Ã ⟨t,x,Ä⟩)(X:w.cell? ⟨t,x+j*2,Ä⟩=Ã (Â Æ p))(Y:w.cell? ⟨t,x+j*2+1,Ä⟩=Ã (Ñ b)) (f:∀a g F,E0 O n cp F ((j+1:Nat):Int) a->ij u F (xs++[fH b.toNat++⟨#[58]⟩++fH p]) g->K a g): Î À Mg (Exit.then K<|QQ H) (EZ O n cp v j c) w:=by
 unfold EZ;conv=>arg 2;whnf
 subst W;have kg:=pI p D;have G:b.toNat<18446744073709551616:=by cases b<;>decide
 have hsb:=pI b.toNat G;have Ir:¬9223372036854775807<(fH b.toNat).size+1:=Z
 have hw5:¬9223372036854775807<(fH b.toNat).size+1+(fH p).size:=Z
 obtain⟨ta,tc,rfl⟩:=jL s.ft;have d:=fg<|Á s<|Á E f;clear s E f;go_wp2_with fail;change Î À _ _ _ (w.alloc<|Ð #[Â Æ p,Ñ b] 239);have I:=fe.gJ fi w #[Â Æ p,Ñ b] 239;have T1:=(d.out.1.fO I).fO<|fe.fU _ _;have J:=(d.out.2.1.r I).r<|fe.fU _ _;have y:fj w.heap.size [Â Æ p,Ñ b] 239 (Č<|w.alloc<|Ð #[Â Æ p,Ñ b] 239):=(fj.N w [Â Æ p,Ñ b] 239).I (fe.fU fi _) id;let⟨i0,L,M,N,P⟩:=í zW;have k:=fg<|Á L<|Á M<|Á N P;clear L M N P X Y;refine mr (λg=>g.cell? ⟨w.heap.size,0,Ä⟩=Ã (Â Æ p)/\g.cell? ⟨w.heap.size,1,Ä⟩=Ã (Ñ b)) [] fv ?_;have l:=fg<|Á (y.r 0 _ rfl)<|y.r 1 _ rfl;generalize w.heap.size=ub at*;generalize Č (w.alloc<|Ð #[Â Æ p,Ñ b] 239)=w1 at*;iterate 3 apply tk l.out
 apply tk l.out 6;apply tk l.out 7;apply gE 3;intro K f;go_simp;go_at_call 143;refine(HU _ _).mono ?_;rintro e Q ⟨rfl,qT⟩;subst Q;dsimp only;rw[aaz];apply f.out _ _ λ_=>l.out;clear f K;apply gE 4;intro K f;go_simp;go_at_call 102;refine(xZ b.toNat G _ J).mono ?_;rintro e Q ⟨rfl,z⟩;have T2:=T1.fO z;have B:=y.I z id;have P2:=J.r z;have S:=fg<|Á (B.r 0 _ rfl)<|B.r 1 _ rfl;dsimp only;apply f.out _ _ λ_=>S.out;clear f K;apply tk S.out 5;apply gE 8;intro K f;go_simp;go_at_call 102;refine(xZ p D _ P2).mono ?_;rintro e w3 ⟨rfl,T⟩;have i:=B.I T id;dsimp only;apply f.out _ _ λ_=>⟨i.r 0 _ U,i.r 1 _ U⟩;clear f K;apply gE 9;intro K f;go_simp;apply f.out _ _ λ_=>⟨i.r 0 _ U,i.r 1 _ U⟩;clear f K;have V:=fe.gJ fi w3 #[Í<|fH b.toNat++⟨#[58]⟩++fH p] 9;have o:=(T2.fO T).fO V;have q:=i.I V id;apply gE 10;intro K f;go_simp;apply f.out _ _ λ_=>⟨q.r 0 _ U,q.r 1 _ U⟩;clear f K;apply gE 11;intro K f;refine LC (base:=u.heap.size) (n:=xs.length) (xs:=kJ xs) (m:=1) fZ _ _ 54 fZ ù k.out.1 k.out.2.1 k.out.2.2.1 k.out.2.2.2 U fZ o.ft ⟨_,0,Ä⟩ [Í<|fH b.toNat++⟨#[58]⟩++fH p] fZ Z U (þ _ _ _) (λc r=>by simp at r;subst r;rfl) (by unfold Ą;omega) Z o.r.M ?_;intro tv1 w9 C;obtain⟨a2,U',rfl⟩:=jL C.ft;have r:=q.I C.r<|jA o.ft q A;apply f.out _ _ λ_=>⟨r.r 0 _ U,r.r 1 _ U⟩;clear f K;apply gE 12;intro K f;go_simp;apply f.out _ _ λ_=>⟨r.r 0 _ U,r.r 1 _ U⟩;clear f K;try simp only[Ĵ,Õ,ã,ä]
 refine ma fv ?_ _;go_wp2_with fail;exact d.out.2.2 _ _ _ (gu _)<|o.C C
def TM(O:Option ă)(n cp:Nat)(u:É)(l:List (Int×Bool))(a:é)(w:É):Prop:=
 ∃(j:Nat) (v:È),E0 O n cp v j a/\j<=n/\ij u v ((l.take j).map EY) w
def TN(O:Option ă)(n cp:Nat)(u:É)(l:List (Int×Bool))(a:é)(w:É):Prop:=
 ∃v,E0 O n cp v n a/\ij u v (l.map EY) w
def Mh(n:Nat)(a:é)(_:É):Nat:=match a.tmps.getD 8 ā with
 |Â _ i=>n-i.toNat
 |_=>0
def aaA(b:E0 O n cp v i y):Mh n y w=n-i:=by obtain⟨u,rfl⟩:=b;show n-(i:Int).toNat=_;simp
def aoC{l:List (Int×Bool)}(m:n=l.length)(o:n<=1000)(p:zS l)(r:lN u)(g:nJ O (uQ l) u)(a:é)(w:É)(s:TM O n cp u l a w): Î À Mg (Exit.then (λb d=>TM O n cp u l b d/\Mh n b d<Mh n a w)<|QQ<|TN O n cp u l) a w:=by
 let⟨j,v,h,G,c⟩:=s;rw[aaA h];obtain⟨b,rfl⟩:=h;by_cases t:j=n
 .subst t;refine aoA b _ U λa q=>⟨v,q,?_⟩;rwa[m,List.take_length]at c
 .obtain⟨x,e⟩:∃x,l[j]?=Ã x:=⟨_,Ô Z⟩;obtain⟨g0,y⟩:=TK _ _ l j x e;let⟨z,B,i,C⟩:=g (j*2) _ g0;let⟨H,I,k,D⟩:=g (j*2+1) _ y;rw[i]at k;cases k;have f:=p x<|Ġ e;refine aoB b c j Z o (by simp;omega) x.1.toNat x.2 (by have:=f.1;have:=f.2;omega) (r.r c.r) z B i (by rw[Ĕ f.1];exact c.r.r C id) (c.r.r D id) λa d E q F=>⟨⟨j+1,E,q,Z,?_⟩,by rw[aaA q];omega⟩;rwa[ſ,e,Υ]
def aoD{l:List (Int×Bool)}(b:n=l.length)(g:n<=1000)(c:zS l)(d:lN w)(f:nJ O (uQ l) w): Ò À 109 #[Ê O n cp] w λe a=>∃v,e=Ç v/\ij w v (l.map EY) a:=by
 have L:∀a,E0 O n cp (Ê Ä 0 0) (0:Nat) a->Î À (à Mg) (QQ<|TN O n cp w l) a w:=λa i=>
  Ĉ (TM O n cp w l) (Mh n) ⟨0,_,i,â _,ij.M w<|fe.fX _ _⟩<|aoC b g c d f
 have H:=fg L;clear L c d f b;go_enter Tryz.func109,Tryz.ntmps109;go_wp2_with fail;refine Ý (Q:=QQ<|TN O n cp w l) ?_ (H.out _ (gu _));rintro(_|(_|_)|_|_|_|_) a v hq;all_goals first|exact absurd hq id|skip
 let⟨v,j,e⟩:=hq;obtain⟨u,rfl⟩:=j;unfold EZ;have k:=fg e;clear e;go_wp2_with fail;go_ret;exact⟨_,U,k.out⟩
end
def Cm(j:Nat):ByteArray:=ø ⟨#[48,49,50,51,52,53,54,55,56,57,97,98,99,100,101,102]⟩ j<|j+1
def Cn(s t:St)(i j:Nat):List ByteArray:=if(s i).C j=(t i).C j then[]else[iJ i++Cm j]
def ri(s t:St)(i j:Nat):List ByteArray:=(ċ j).flatMap<|Cn s t i
def ya(b a:Int)(p c:ByteArray)(i:Nat):List ByteArray:=(if b=a then[]else[iJ i++⟨#[36]⟩])++(if p.toList=c.toList then[]else[iJ i++⟨#[123]⟩])
def zY(s t:St)(i:Nat):List ByteArray:=ya (s i).fx (t i).fx (s i).r (t i).r i++ri s t i 16
def rj(s t:St)(n:Nat):List ByteArray:=(ċ n).flatMap<|zY s t
def aoE(s t:St)(i j:Nat):(Cn s t i j).length<=1:=by unfold Cn;split<;>simp
def TO(s t:St)(i j:Nat):ri s t i (j+1)=ri s t i j++Cn s t i j:=by unfold ri;rw[Ŏ,Ţ];simp
theorem Mi(s t:St)(i:Nat):∀j,(ri s t i j).length<=j
 |0=>by simp[ri]
 |j+1=>by rw[TO,Ó];have:=Mi s t i j;have:=aoE s t i j;omega
theorem aaB(b a:Int)(p c:ByteArray)(i:Nat):(ya b a p c i).length<=2:=by unfold ya;rw[Ó];split<;>split<;>simp
def aaC(s t:St)(n:Nat):rj s t (n+1)=rj s t n++zY s t n:=by unfold rj;rw[Ŏ,Ţ];simp
def TP(s t:St):∀n,(rj s t n).length<=18*n
 |0=>by simp[rj]
 |n+1=>by rw[aaC,Ó];have:=TP s t n;unfold zY;rw[Ó];have:=Mi s t n 16;have:=aaB (s n).fx (t n).fx (s n).r (t n).r n;omega
def yb(i:Nat):(iJ i).size<=1:=by unfold iJ;rw[ŋ];omega
def aaD(i:Nat):(Cm i).size<=1:=by unfold Cm;rw[ŋ];omega
def mA.gU{s:St}(c:mA n s h W)(a:i<8):W.cell? ⟨n,i*18,Ä⟩=Ã (Â Æ (s i).fx)/\W.cell? ⟨n,i*18+1,Ä⟩=Ã (Í (s i).r)/\∀j,j<16->W.cell? ⟨n,i*18+2+j,Ä⟩=Ã (Â Æ<|(s i).C j):=by
 have g:∀j,j<144->W.cell? ⟨n,j,Ä⟩=Ã (qn s j):=λj b=>by have:=c.C j _<|Tw s b;simpa using this
 refine⟨?_,?_,λj b=> ?_⟩
 .rw[g _ Z,<-re s (Ê Ä 0 0) Z,HR _ _ a];rfl
 .rw[g _ Z,<-re s (Ê Ä 0 0) Z,Lv _ _ a]
 .rw[g _ Z,<-re s (Ê Ä 0 0) Z,Lw _ _ a b];rfl
noncomputable def zZ:ŏ:=(Tryz.f110.body.bind kz).getD ĵ
noncomputable def yc:ŏ:=(kz zZ).getD ĵ
def uU(a b i:Nat)(c:È)(j:Int)(u:Nat->È):é:=⟨#[Å<|Ã ⟨a,0,Ä⟩,Å<|Ã ⟨b,0,Ä⟩,u 2,u 3,u 4,c,Â Ë i,Í<|iJ i,Å<|Ã ⟨a,i*18,Ä⟩,Å<|Ã ⟨b,i*18,Ä⟩,u 10,Â Ë i,u 12,u 13,u 14,u 15,u 16,u 17,u 18,u 19,u 20,u 21,u 22,u 23,u 24,u 25,u 26,u 27,u 28,u 29,u 30,u 31,u 32,u 33,u 34,u 35,u 36,u 37,u 38,u 39,u 40,u 41,u 42,u 43,u 44,u 45,u 46,u 47,u 48,u 49,u 50,u 51,u 52,u 53,Â Ë j,u 55,u 56,u 57,u 58,u 59,u 60,u 61,u 62,u 63,u 64,u 65,u 66,u 67,u 68,u 69,u 70,u 71,u 72,u 73,u 74,u 75,u 76,u 77,u 78,u 79,u 80,u 81],[]⟩
def uV(b c i:Nat)(d:È)(j:Int)(a:é):Prop:=∃u,a=uU b c i d j u
def tC(a b:Nat)(c:È)(i:Int)(u:Nat->È):é:=⟨#[Å<|Ã ⟨a,0,Ä⟩,Å<|Ã ⟨b,0,Ä⟩,u 2,u 3,u 4,c,u 6,u 7,u 8,u 9,u 10,Â Ë i,u 12,u 13,u 14,u 15,u 16,u 17,u 18,u 19,u 20,u 21,u 22,u 23,u 24,u 25,u 26,u 27,u 28,u 29,u 30,u 31,u 32,u 33,u 34,u 35,u 36,u 37,u 38,u 39,u 40,u 41,u 42,u 43,u 44,u 45,u 46,u 47,u 48,u 49,u 50,u 51,u 52,u 53,u 54,u 55,u 56,u 57,u 58,u 59,u 60,u 61,u 62,u 63,u 64,u 65,u 66,u 67,u 68,u 69,u 70,u 71,u 72,u 73,u 74,u 75,u 76,u 77,u 78,u 79,u 80,u 81],[]⟩
def vV(b c:Nat)(d:È)(i:Int)(a:é):Prop:=∃u,a=tC b c d i u
section
variable{X:é->É->Prop}{w0:É}{xs:List ByteArray}{s t:St}
def aoF(u:Nat->È)(b:∀a,uV n j i v (16:Nat) a->X a w): Î À yc (Exit.then K<|Q2 X) (uU n j i v (16:Nat) u) w:=by
 unfold uU;conv=>arg 2;whnf
 go_wp2_with fail
 exact b _ (gu _)
def aoG(u:Nat->È)(b:Nat)(d:i<8)(e:b<16)(p:Int)(f:w.cell? ⟨n,i*18+2+b,Ä⟩=Ã (Â Æ p))(g:w.cell? ⟨j,i*18+2+b,Ä⟩=Ã (Â Æ p)) (c:∀a,uV n j i v ((b+1:Nat):Int) a->K a w.drew): Î À yc (Exit.then K<|Q2 X) (uU n j i v b u) w:=by
 unfold uU;conv=>arg 2;whnf
 have k:(0:Int)<=(b:Int):=Z
 have l:(b:Int)<16:=Z
 have H:=fg c;clear c;go_wp2_with fail;go_region;go_wp2_with fail;exact H.out _ (gu _)
def aoH(u:Nat->È)(d:ij w0 v xs w)(x:xs.length<=1000)(b:Nat)(y:i<8)(z:b<16)(p q:Int)(B:(p==q)=Ï)(C:w.cell? ⟨n,i*18+2+b,Ä⟩=Ã (Â Æ p))(D:w.cell? ⟨j,i*18+2+b,Ä⟩=Ã (Â Æ q)) (f:∀a g k,uV n j i g ((b+1:Nat):Int) a->ij w0 g (xs++[iJ i++Cm b]) k->K a k): Î À yc (Exit.then K<|Q2 X) (uU n j i v b u) w:=by
 unfold uU;conv=>arg 2;whnf
 have E:(0:Int)<=(b:Int):=Z
 have F:(b:Int)<16:=Z
 have G:Ë.wrap ((b:Int)+1)=(b:Int)+1:=by rw[ó];omega
 have I:(0:Int)<=(b:Int)+1:=Z
 have J:(b:Int)+1<=16:=Z
 have L:(b:Int)<=(b:Int)+1:=Z
 have M:((b:Int)+1).toNat=b+1:=Z
 have N:¬9223372036854775807<(iJ i).size+(Cm b).size:=by have:=yb i;have:=aaD b;omega
 have O:ø ⟨#[48,49,50,51,52,53,54,55,56,57,97,98,99,100,101,102]⟩ b (b+1)=Cm b:=U;obtain⟨P,Q,rfl⟩:=jL d.ft;let⟨S,l,o,r,s⟩:=í zW;have c:=fg<|Á l<|Á o<|Á r s;have H:=fg<|Á d f;clear d f l o r s;go_wp2_with fail;go_region;go_wp2_with (at_builtin;refine B4 (base:=w0.heap.size) (n:=xs.length) (xs:=kJ xs) (m:=1) U _ _ 54 U ù c.out.1 c.out.2.1 c.out.2.2.1 c.out.2.2.2 U U ((H.out.1).fO kp).ft ⟨_,0,Ä⟩ [Í<|iJ i++Cm b] U Z U (þ _ _ _) (λu e=>by simp at e;subst e;rfl) (by unfold Ą;omega) Z ((H.out.1).fO kp).r.M ?_;intro T V e;obtain⟨W,Y,rfl⟩:=jL e.ft;have t:=fg<|((H.out.1).fO kp).C e;clear e);exact H.out.2 _ _ _ (gu _) t.out
def DJ(n j i:Nat)(w0:É)(xs:List ByteArray)(s t:St)(a:é)(w:É):Prop:=
 ∃(b:Nat) (v:È),uV n j i v b a/\b<=16/\ij w0 v (xs++ri s t i b) w
def vW(n j i:Nat)(w0:É)(xs:List ByteArray)(s t:St)(a:é)(w:É):Prop:=
 ∃(v:È),uV n j i v (16:Nat) a/\ij w0 v (xs++ri s t i 16) w
def Mj(a:é)(_:É):Nat:=match a.tmps.getD 54 ā with
 |Â _ i=>16-i.toNat
 |_=>0
def TQ(c:uV n j i v b y):Mj y w=16-b:=by obtain⟨u,rfl⟩:=c;show 16-(b:Int).toNat=_;simp
def aoI(o:mA n s h w0)(p:mA j t c w0)(e:i<8)(B:xs.length<=900)(a:é)(w:É)(r:DJ n j i w0 xs s t a w): Î À yc (Exit.then (λb g=>DJ n j i w0 xs s t b g/\Mj b g<Mj a w)<|Q2<|vW n j i w0 xs s t) a w:=by
 let⟨b,v,l,C,d⟩:=r;rw[TQ l];obtain⟨u,rfl⟩:=l;by_cases x:b=16
 .subst x;exact aoF u λa q=>⟨v,q,d⟩
 .have m:=d.r.r ((o.gU e).2.2 b Z) id;have k:=d.r.r ((p.gU e).2.2 b Z) id;by_cases q:(s i).C b=(t i).C b
  .rw[<-q]at k;refine aoG u b e Z _ m k λa f=>⟨⟨b+1,v,f,Z,?_⟩,by rw[TQ f];omega⟩;rw[TO,Cn,if_pos q,ò];exact d.fO<|fe.fU _ _
  .refine aoH u d (by rw[Ó];have:=Mi s t i b;omega) b e Z _ _ (by simpa using q) m k λa y g f z=>⟨⟨b+1,y,f,Z,?_⟩,by rw[TQ f];omega⟩;rwa[TO,Cn,if_neg q,<-Ċ]
def aoJ(u:Nat->È)(b:∀a,vV n j v (8:Nat) a->X a w): Î À zZ (Exit.then K<|QQ X) (tC n j v (8:Nat) u) w:=by
 unfold tC;conv=>arg 2;whnf
 go_wp2_with fail
 exact b _ (gu _)
def aoK(u:Nat->È)(d:ij w0 v xs w)(F:xs.length<=800)(G:i<8)(b k:Int)(p l:ByteArray)(I:(b==k)=Ú)(J:(p.toList==l.toList)=Ú)(m:w0.cell? ⟨n,i*18,Ä⟩=Ã (Â Æ b))(o:w0.cell? ⟨j,i*18,Ä⟩=Ã (Â Æ k))(f:w0.cell? ⟨n,i*18+1,Ä⟩=Ã (Í p))(g:w0.cell? ⟨j,i*18+1,Ä⟩=Ã (Í l)) (L:∀a e W,uV n j i e (0:Nat) a->ij w0 e xs W->Î À (à yc) (Q2<|vW n j i w0 xs s t) a W) (q:∀a e r,vV n j e ((i+1:Nat):Int) a->ij w0 e (xs++ri s t i 16) r->K a r): Î À zZ (Exit.then K<|QQ X) (tC n j v i u) w:=by
 unfold tC;conv=>arg 2;whnf
 have M:=d.r.r m id;have N:=d.r.r o id;have O:=d.r.r f id;have P:=d.r.r g id;have S:(0:Int)<=(i:Int):=Z
 have T:(i:Int)<8:=Z
 have V:Ë.wrap ((i:Int)+1)=(i:Int)+1:=by rw[ó];omega
 have Y:(0:Int)<=(i:Int)+1:=Z
 have xk:(i:Int)+1<=8:=Z
 have qT:(i:Int)<=(i:Int)+1:=Z
 have uI:((i:Int)+1).toNat=i+1:=Z
 have Ir:¬9223372036854775807<(iJ i).size+1:=by have:=yb i;omega
 have TR:ø ⟨#[97,98,99,100,101,102,103,104]⟩ i (i+1)=iJ i:=U;obtain⟨ta,tc,rfl⟩:=jL d.ft;let⟨i0,x,y,z,B⟩:=í zW;have HI:=fg<|Á x<|Á y<|Á z B;have H:=fg<|Á d<|Á f<|Á g<|Á L q;clear d x y z B L q m o f g;go_wp2_with fail;go_region;go_wp2_with fail;go_region;go_wp2_with fail;go_region;go_wp2_with fail;refine Ý (Q:=Q2<|vW n j i w0 xs s t) ?_ (H.out.2.2.2.1 _ _ _ (gu _)<|(H.out.1).fO kp);rintro(_|(_|_|_|_)|_|_|_|_) a c hq;all_goals first|exact absurd hq id|skip
 let⟨TS,D,C⟩:=hq;obtain⟨c,rfl⟩:=D;unfold uU;have E:=fg C;clear C;go_wp2_with fail;exact H.out.2.2.2.2 _ _ _ (gu _) E.out
def aoL(u:Nat->È)(d:ij w0 v xs w)(I:xs.length<=800)(J:i<8)(b o:Int)(p q:ByteArray)(M:(b==o)=Ú)(N:(p.toList==q.toList)=Ï)(r:w0.cell? ⟨n,i*18,Ä⟩=Ã (Â Æ b))(x:w0.cell? ⟨j,i*18,Ä⟩=Ã (Â Æ o))(k:w0.cell? ⟨n,i*18+1,Ä⟩=Ã (Í p))(l:w0.cell? ⟨j,i*18+1,Ä⟩=Ã (Í q)) (L:∀a e W,uV n j i e (0:Nat) a->ij w0 e (xs++[iJ i++⟨#[123]⟩]) W->Î À (à yc) (Q2<|vW n j i w0 (xs++[iJ i++⟨#[123]⟩]) s t) a W) (y:∀a e z,vV n j e ((i+1:Nat):Int) a->ij w0 e ((xs++[iJ i++⟨#[123]⟩])++ri s t i 16) z->K a z): Î À zZ (Exit.then K<|QQ X) (tC n j v i u) w:=by
 unfold tC;conv=>arg 2;whnf
 have O:=d.r.r r id;have P:=d.r.r x id;have S:=d.r.r k id;have T:=d.r.r l id;have V:(0:Int)<=(i:Int):=Z
 have Y:(i:Int)<8:=Z
 have oy:Ë.wrap ((i:Int)+1)=(i:Int)+1:=by rw[ó];omega
 have Ee:(0:Int)<=(i:Int)+1:=Z
 have xk:(i:Int)+1<=8:=Z
 have qT:(i:Int)<=(i:Int)+1:=Z
 have uI:((i:Int)+1).toNat=i+1:=Z
 have Ir:¬9223372036854775807<(iJ i).size+1:=by have:=yb i;omega
 have TR:ø ⟨#[97,98,99,100,101,102,103,104]⟩ i (i+1)=iJ i:=U;obtain⟨ta,tc,rfl⟩:=jL d.ft;let⟨i0,B,C,D,E⟩:=í zW;have f:=fg<|Á B<|Á C<|Á D E;have H:=fg<|Á d<|Á k<|Á l<|Á L y;clear d B C D E L y r x k l;go_wp2_with fail;go_region;go_wp2_with fail;go_region;go_wp2_with fail;go_region;go_wp2_with (at_builtin;refine B4 (base:=w0.heap.size) (n:=xs.length) (xs:=kJ xs) (m:=1) U _ _ 54 U ù f.out.1 f.out.2.1 f.out.2.2.1 f.out.2.2.2 U U ((H.out.1).fO kp).ft ⟨_,0,Ä⟩ [Í<|iJ i++⟨#[123]⟩] U Z U (λc u g=>fe.r (X:=fi) kp (þ w (Í<|iJ i++⟨#[123]⟩) 9 c u g) id) (λu g=>by simp at g;subst g;rfl) (by unfold Ą;omega) Z ((H.out.1).fO kp).r.M ?_;intro F G c;obtain⟨ta2,tc2,rfl⟩:=jL c.ft;have g:=fg<|((H.out.1).fO kp).C c;clear c);refine Ý (Q:=Q2<|vW n j i w0 (xs++[iJ i++⟨#[123]⟩]) s t) ?_ (H.out.2.2.2.1 _ _ _ (gu _)<|(g.out).fO kp);rintro(_|(_|_|_|_)|_|_|_|_) a c hq;all_goals first|exact absurd hq id|skip
 let⟨TS,F,g⟩:=hq;obtain⟨c,rfl⟩:=F;unfold uU;have G:=fg g;clear g;go_wp2_with fail;exact H.out.2.2.2.2 _ _ _ (gu _) G.out
def aoM(u:Nat->È)(d:ij w0 v xs w)(J:xs.length<=800)(M:i<8)(b o:Int)(p q:ByteArray)(N:(b==o)=Ï)(O:(p.toList==q.toList)=Ú)(r:w0.cell? ⟨n,i*18,Ä⟩=Ã (Â Æ b))(x:w0.cell? ⟨j,i*18,Ä⟩=Ã (Â Æ o))(k:w0.cell? ⟨n,i*18+1,Ä⟩=Ã (Í p))(l:w0.cell? ⟨j,i*18+1,Ä⟩=Ã (Í q)) (L:∀a e W,uV n j i e (0:Nat) a->ij w0 e (xs++[iJ i++⟨#[36]⟩]) W->Î À (à yc) (Q2<|vW n j i w0 (xs++[iJ i++⟨#[36]⟩]) s t) a W) (y:∀a e z,vV n j e ((i+1:Nat):Int) a->ij w0 e ((xs++[iJ i++⟨#[36]⟩])++ri s t i 16) z->K a z): Î À zZ (Exit.then K<|QQ X) (tC n j v i u) w:=by
 unfold tC;conv=>arg 2;whnf
 have P:=d.r.r r id;have S:=d.r.r x id;have T:=d.r.r k id;have V:=d.r.r l id;have Y:(0:Int)<=(i:Int):=Z
 have e1:(i:Int)<8:=Z
 have oy:Ë.wrap ((i:Int)+1)=(i:Int)+1:=by rw[ó];omega
 have Ee:(0:Int)<=(i:Int)+1:=Z
 have xk:(i:Int)+1<=8:=Z
 have qT:(i:Int)<=(i:Int)+1:=Z
 have uI:((i:Int)+1).toNat=i+1:=Z
 have Ir:¬9223372036854775807<(iJ i).size+1:=by have:=yb i;omega
 have TR:ø ⟨#[97,98,99,100,101,102,103,104]⟩ i (i+1)=iJ i:=U;have ED:(xs++[iJ i++⟨#[36]⟩]).length=xs.length+1:=fq
 obtain⟨ta,tc,rfl⟩:=jL d.ft;let⟨i0,B,C,D,E⟩:=í zW;have f:=fg<|Á B<|Á C<|Á D E;have H:=fg<|Á d<|Á k<|Á l<|Á L y;clear d B C D E L y r x k l;go_wp2_with fail;go_region;go_wp2_with fail;go_region;go_wp2_with (at_builtin;refine B4 (base:=w0.heap.size) (n:=xs.length) (xs:=kJ xs) (m:=1) U _ _ 54 U ù f.out.1 f.out.2.1 f.out.2.2.1 f.out.2.2.2 U U ((H.out.1).fO kp).ft ⟨_,0,Ä⟩ [Í<|iJ i++⟨#[36]⟩] U Z U (λc u g=>fe.r (X:=fi) kp (þ w (Í<|iJ i++⟨#[36]⟩) 9 c u g) id) (λu g=>by simp at g;subst g;rfl) (by unfold Ą;omega) Z ((H.out.1).fO kp).r.M ?_;intro F G c;obtain⟨I,tc1,rfl⟩:=jL c.ft;have g:=fg<|((H.out.1).fO kp).C c;clear c);have d3:=g.out.r.r H.out.2.1 id;have d4:=g.out.r.r H.out.2.2.1 id;go_region;go_wp2_with fail;refine Ý (Q:=Q2<|vW n j i w0 (xs++[iJ i++⟨#[36]⟩]) s t) ?_ (H.out.2.2.2.1 _ _ _ (gu _)<|(g.out).fO kp);rintro(_|(_|_|_|_)|_|_|_|_) a c hq;all_goals first|exact absurd hq id|skip
 let⟨TS,G,F⟩:=hq;obtain⟨c,rfl⟩:=G;unfold uU;have I:=fg F;clear F;go_wp2_with fail;exact H.out.2.2.2.2 _ _ _ (gu _) I.out
def aoN(u:Nat->È)(f:ij w0 v xs w)(O:xs.length<=800)(P:i<8)(b r:Int)(p x:ByteArray)(S:(b==r)=Ï)(T:(p.toList==x.toList)=Ï)(y:w0.cell? ⟨n,i*18,Ä⟩=Ã (Â Æ b))(z:w0.cell? ⟨j,i*18,Ä⟩=Ã (Â Æ r))(l:w0.cell? ⟨n,i*18+1,Ä⟩=Ã (Í p))(o:w0.cell? ⟨j,i*18+1,Ä⟩=Ã (Í x)) (L:∀a g W,uV n j i g (0:Nat) a->ij w0 g ((xs++[iJ i++⟨#[36]⟩])++[iJ i++⟨#[123]⟩]) W->Î À (à yc) (Q2<|vW n j i w0 ((xs++[iJ i++⟨#[36]⟩])++[iJ i++⟨#[123]⟩]) s t) a W) (B:∀a g C,vV n j g ((i+1:Nat):Int) a->ij w0 g (((xs++[iJ i++⟨#[36]⟩])++[iJ i++⟨#[123]⟩])++ri s t i 16) C->K a C): Î À zZ (Exit.then K<|QQ X) (tC n j v i u) w:=by
 unfold tC;conv=>arg 2;whnf
 have V:=f.r.r y id;have Y:=f.r.r z id;have c3:=f.r.r l id;have c4:=f.r.r o id;have e0:(0:Int)<=(i:Int):=Z
 have e1:(i:Int)<8:=Z
 have oy:Ë.wrap ((i:Int)+1)=(i:Int)+1:=by rw[ó];omega
 have Ee:(0:Int)<=(i:Int)+1:=Z
 have xk:(i:Int)+1<=8:=Z
 have qT:(i:Int)<=(i:Int)+1:=Z
 have uI:((i:Int)+1).toNat=i+1:=Z
 have Ir:¬9223372036854775807<(iJ i).size+1:=by have:=yb i;omega
 have TR:ø ⟨#[97,98,99,100,101,102,103,104]⟩ i (i+1)=iJ i:=U;have I:(xs++[iJ i++⟨#[36]⟩]).length=xs.length+1:=fq
 obtain⟨ta,tc,rfl⟩:=jL f.ft;let⟨i0,D,E,F,G⟩:=í zW;have e:=fg<|Á D<|Á E<|Á F G;have H:=fg<|Á f<|Á l<|Á o<|Á L B;clear f D E F G L B y z l o;go_wp2_with fail;go_region;go_wp2_with fail;go_region;go_wp2_with (at_builtin;refine B4 (base:=w0.heap.size) (n:=xs.length) (xs:=kJ xs) (m:=1) U _ _ 54 U ù e.out.1 e.out.2.1 e.out.2.2.1 e.out.2.2.2 U U ((H.out.1).fO kp).ft ⟨_,0,Ä⟩ [Í<|iJ i++⟨#[36]⟩] U Z U (λc u d=>fe.r (X:=fi) kp (þ w (Í<|iJ i++⟨#[36]⟩) 9 c u d) id) (λu d=>by simp at d;subst d;rfl) (by unfold Ą;omega) Z ((H.out.1).fO kp).r.M ?_;intro M J q;obtain⟨N,tc1,rfl⟩:=jL q.ft;have k:=fg<|((H.out.1).fO kp).C q;clear q);have d3:=k.out.r.r H.out.2.1 id;have d4:=k.out.r.r H.out.2.2.1 id;go_region;go_wp2_with (at_builtin;refine B4 (base:=w0.heap.size) (n:=(xs++[iJ i++⟨#[36]⟩]).length) (xs:=kJ<|xs++[iJ i++⟨#[36]⟩]) (m:=1) U _ _ 54 U ù e.out.1 e.out.2.1 e.out.2.2.1 e.out.2.2.2 U U ((k.out).fO kp).ft ⟨_,0,Ä⟩ [Í<|iJ i++⟨#[123]⟩] U Z U (λc u d=>fe.r (X:=fi) kp (þ J (Í<|iJ i++⟨#[123]⟩) 9 c u d) id) (λu d=>by simp at d;subst d;rfl) (by unfold Ą;omega) Z ((k.out).fO kp).r.M ?_;intro d q c;obtain⟨M,N,rfl⟩:=jL c.ft;have J:=fg<|((k.out).fO kp).C c;clear c);have d:=J.out;rw[I]at d;refine Ý (Q:=Q2<|vW n j i w0 ((xs++[iJ i++⟨#[36]⟩])++[iJ i++⟨#[123]⟩]) s t) ?_ (H.out.2.2.2.1 _ _ _ (gu _)<|(d).fO kp);rintro(_|(_|_|_|_)|_|_|_|_) a c hq;all_goals first|exact absurd hq id|skip
 let⟨TS,M,q⟩:=hq;obtain⟨c,rfl⟩:=M;unfold uU;have N:=fg q;clear q;go_wp2_with fail;exact H.out.2.2.2.2 _ _ _ (gu _) N.out
def DO(n j:Nat)(w0:É)(s t:St)(a:é)(w:É):Prop:=
 ∃(i:Nat) (v:È),vV n j v i a/\i<=8/\ij w0 v (rj s t i) w
def TT(n j:Nat)(w0:É)(s t:St)(a:é)(w:É):Prop:=
 ∃(v:È),vV n j v (8:Nat) a/\ij w0 v (rj s t 8) w
def Is(a:é)(_:É):Nat:=match a.tmps.getD 11 ā with
 |Â _ i=>8-i.toNat
 |_=>0
def aaE(b:vV n j v i y):Is y w=8-i:=by obtain⟨u,rfl⟩:=b;show 8-(i:Int).toNat=_;simp
def aoO(B:mA n s h w0)(C:mA j t c w0)(a:é)(w:É)(E:DO n j w0 s t a w): Î À zZ (Exit.then (λq g=>DO n j w0 s t q g/\Is q g<Is a w)<|QQ<|TT n j w0 s t) a w:=by
 let⟨i,v,D,H,l⟩:=E;rw[aaE D];obtain⟨u,rfl⟩:=D;by_cases F:i=8
 .subst F;exact aoJ u λa q=>⟨v,q,l⟩
 have k:i<8:=Z
 have I:=TP s t i;let⟨m,o,_⟩:=B.gU k;let⟨p,r,_⟩:=C.gU k;have L:∀q:List ByteArray,q.length<=900->∀a b W,uV n j i b (0:Nat) a->ij w0 b q W->Î À (à yc) (Q2<|vW n j i w0 q s t) a W:=λq y a b W G z=>
  Ĉ (DJ n j i w0 q s t) Mj ⟨0,b,G,Z,by show ij w0 b (q++[]) W;rwa[ò]⟩<|aoI B C k y
 have x:∀q:List ByteArray,rj s t i++ya (s i).fx (t i).fx (s i).r (t i).r i=q->∀a b g,vV n j b ((i+1:Nat):Int) a->ij w0 b (q++ri s t i 16) g->DO n j w0 s t a g/\Is a g<8-i:=λq y a b g f z=>⟨⟨i+1,b,f,Z,by rwa[aaC,zY,<-Ċ,y]⟩,by rw[aaE f];omega⟩;by_cases d:(s i).fx=(t i).fx<;>by_cases e:(s i).r.toList=(t i).r.toList
 .exact aoK u l Z k _ _ _ _ (by simpa using d) (by simpa using e) m p o r (L _ Z)<|x _<|by unfold ya;rw[if_pos d,if_pos e,ò,ò]
 .exact aoL u l Z k _ _ _ _ (by simpa using d) (by simpa using e) m p o r (L _<|by rw[Ó];simp;omega)<|x _<|by unfold ya;rw[if_pos d,if_neg e,Ξ]
 .exact aoM u l Z k _ _ _ _ (by simpa using d) (by simpa using e) m p o r (L _<|by rw[Ó];simp;omega)<|x _<|by unfold ya;rw[if_neg d,if_pos e,ò]
 .exact aoN u l Z k _ _ _ _ (by simpa using d) (by simpa using e) m p o r (L _<|by rw[Ó,Ó];simp;omega)<|x _<|by unfold ya;rw[if_neg d,if_neg e,Ċ]
def aoP(b:mA n s h w)(d:mA j t c w): Ò À 110 #[Å<|Ã ⟨n,0,Ä⟩,Å<|Ã ⟨j,0,Ä⟩] w λe a=>∃v,e=Ç v/\ij w v (rj s t 8) a:=by
 have L:∀a,vV n j (Ê Ä 0 0) (0:Nat) a->Î À (à zZ) (QQ<|TT n j w s t) a w:=λa f=>
  Ĉ (DO n j w s t) Is ⟨0,_,f,â _,ij.M w<|fe.fX _ _⟩<|aoO b d
 have H:=fg L;clear L b d;go_enter Tryz.func110,Tryz.ntmps110;go_wp2_with fail;refine Ý (Q:=QQ<|TT n j w s t) ?_ (H.out _ (gu _));rintro(_|(_|_)|_|_|_|_) a v hq;all_goals first|exact absurd hq id|skip
 let⟨k,g,e⟩:=hq;obtain⟨u,rfl⟩:=g;unfold tC;have i:=fg e;clear e;go_wp2_with fail;go_ret;exact⟨_,U,i.out⟩
end
def aoQ:(À.info? 5).map (λi=>(i.zero,i.size,i.bytes))=Ã (Ã<|Â aU 0,1,1):=fv
theorem fe.G(f:X p.block)(n:Nat):fe X w (w.freeze p n):=by
 by_cases b:n=0
 .rw[Đ,if_pos b];exact fe.fX _ _
 rw[Đ,if_neg b];refine⟨fq,λk _ g=> ?_,λa i o h=> ?_,λ_ a=>by have:=N' a p n;rwa[Đ,if_neg b]at this⟩
 .grind
 .simp only[Û]at h;split at h
  .cases d:w.heap[i]? with
   |none=>rw[d]at h;cases h
   |some e=>
    have:=a _ _ d;rw[d]at h;cases e with
    |cells c t z=>simp only[ñ,è]at h;subst h;exact λx=>x
    |_=>exact absurd trivial this
  .exact a i o h
def aaF:(À.info? 100).map (·.size)=Ã 2:=fv
def aoR:liesAt À À.depth 100 (2/À.cellsOf 100) 0 100 1=Ú:=fv
def aoS(b:Nat)(w:É)(d:w.cell? ⟨b,0,Ä⟩=Ã (Å<|Ã ⟨b,0,Ä⟩)):Ò À 62 #[Å<|Ã ⟨b,0,Ä⟩] w λe a=>e=Ç (æ #[])/\a=w:=by let⟨j,c,_⟩:=Ì.1 aaF;go_enter aJ,aD;go_wp2;rw[Lib.run_neq_ptr_same w _ ĸ c];go_wp2;go_end0;exact⟨U,U⟩
def aoT(b:Nat)(w:É)(g:w.cell? ⟨b,0,Ä⟩=Ã (Å Ä))(a:w.shape? b=Ã (100,2))(h:w.frozen? ⟨b,0,Ä⟩=Ï):Ò À 62 #[Å<|Ã ⟨b,0,Ä⟩] w λe d=>e=Ç (æ #[])/\d=w.setCell ⟨b,0,Ä⟩ (Å<|Ã ⟨b,0,Ä⟩):=by let⟨j,c,f⟩:=Ì.1 aaF;go_enter aJ,aD;go_wp2;rw[Lib.run_to_unsafe w ⟨b,0,Ä⟩ ĸ Ŭ c (by rw[f];decide) a<|Nat.zero_lt_succ 1];simp only[į];rw[Ħ];go_wp2;rw[ţ Tryz.func113 fv fv fv fv];rw[Lib.run_noEscape];simp only[į];rw[Ħ];go_wp2;rw[Lib.run_from_unsafe w ⟨b,0,Ä⟩ Ŭ ĸ c a aoR];simp only[į];rw[Ħ];go_wp2;go_end0;exact⟨U,U⟩
theorem aaG{base:Nat}{u h:õ}(j:P.underlying t=Ã (bm e))(k:P.underlying u=Ã .string)(p:P.info? e=Ã zJ)(G:zJ.zero=Ã (Â aU 0)) (D:zJ.size=1) (H:zJ.bytes=1) (E:w.ownsRow base e 1 v n l) (s:ByteArray) (J:n+s.size<=Ą) (Q:n+s.size<=140737488355328) (r:(Ō #[t,u] h #[v,Í s]).run P w=φ z W) (I:mq e=Ï):(kn w->kn W)/\(∀m,rY m w->rY m W):=by
 have S:n+s.size<=9223372036854775807:=by simp only[Ą]at J;omega
 have K:l.length=n:=by simpa using E.1
 rcases E.2 with⟨rfl,rfl⟩|⟨g,y,B,rfl,V,F,X,Y,L,htake⟩
 .by_cases C:s.size=0
  .have a:=Lib.run_firstCells_string (P:=P) w 1 s;rw[C]at a;simp[Ō,ř j,ř k,sizeOf,typeInfo,p,D,bu,C,a]at r;grind
  .have b:=run_append_nil_string w t u h e zJ (Â aU 0) j k p G s Z Z (by rw[H];omega);rw[r]at b;cases b;exact⟨λa=>HM a _ _ _,λ_ a=>HN a _ _ _<|Ø I⟩
 .by_cases M:n+s.size<=y
  .have auM:B.size=y:=by simpa using L
   have b:=Lib.run_append_room_string w t u h e zJ j k p D g n y B F s M Z;rw[r]at b;cases b;refine⟨λa q o d=> ?_,λm a q c T N C d O=> ?_⟩
   .by_cases f:q=g
    .subst f;rw[ĝ w q B _ e _ F]at d;cases d;exact λx=>x
    .rw[ė w g q _ f]at d;exact a q o d
   .by_cases f:q=g
    .subst f;rw[ĝ w q B _ e _ F]at d;grind
    .rw[ė w g q _ f]at d;exact a q c T N C d O
  .have c:=E.cells U;have b:=Lib.run_append_grow_string w t u h e zJ (Â aU 0) j k p G ⟨g,0,Ä⟩ n y l (by rw[D];simpa using K) c s Z Z (by rw[H];exact ŕ Z Z);rw[r]at b;cases b;exact⟨λa=>HM a _ _ _,λ_ a=>HN a _ _ _<|Ø I⟩
def aoU{P:Program}{ops:Array Oper}{rest:List Oper}{o:Oper}{a:Act}{Q:Exit->Act->World->Prop}{w:World}(SG:o.guard=none)(sl x:Operand)(t u:TypeId) (ho:o.op=.call {callee:=.builtin .append,args:=#[sl,x],argTypes:=#[t,u]}) {base:Nat} {e:TypeId} {i:TypeInfo} (ht:P.underlying t=some (.slice e)) (hu:P.underlying u=some .string) (hi:P.info? e=some i) (hz:i.zero=some (.int .u8 0)) (xL:i.size=1) (xM:i.bytes=1) {v:Value} {n:Nat} {xs:List Value} (hs:a.eval sl=v) (lI:w.ownsRow base e 1 v n xs) (s:ByteArray) (hx:a.eval x=.string s) (B5:n+s.size<=maxLen) (B6:n+s.size<=140737488355328) (B3:base<=w.heap.size) (h:∀v' w',w'.ownsRow base e 1 v' (n+s.size) (xs++Lib.strCells s)->fe (λk=>v.ownBlock=some k) w w'->wpList P ops Q rest (a.put o.dst v') w') (hT:mq e=false:=by decide):wpList P ops Q (o::rest) a w:=by refine Ű SG λK hK=> ?_;let⟨v',w',hr,h2,h3,_⟩:=Lib.run_append_own_string w base t u o.type e i ht hu hi hz xL xM v n xs lI s B5 B6 B3;have kp:fe (λk=>v.ownBlock=Ã k) w w':=⟨h3.size,λk hk q=>h3.block k hk λe=>q e.symm,(aaG ht hu hi hz xL xM lI s B5 B6 hr hT).1,(aaG ht hu hi hz xL xM lI s B5 B6 hr hT).2⟩;unfold Ń Ĥ;simp only[ho,ae,aP,ag,ű,Ų,ĳ,ļ,Ť,ų,hs,hx,hr];exact hK _ _<|h v' w' h2 kp
structure oY(w0:É)(b:Nat)(bs:List È)(w:É):Prop where
 I:w0.heap.size<=b
 r:fe fi w0 w
 C:∃v,fj b [Å<|Ã ⟨b,0,Ä⟩,v] 100 w/\w.ownsRow w0.heap.size 5 1 v bs.length bs
def oY.fO(h:oY u b l w)(k:fe fi w W):oY u b l W:=by let⟨v,a,c⟩:=h.C;exact⟨h.I,h.r.fh k,v,a.I k id,ig c k λ_ _=>id⟩
theorem TU(h:oY u b l w)(s:ByteArray)(m:l.length+s.size<=140737488355328): Ò À 38 #[Å<|Ã ⟨b,0,Ä⟩,Í s] w λe i=>e=Ç (æ #[Â Ë s.size,.nilIface])/\oY u b (l++Lib.strCells s) i:=by
 let⟨B,c,n,o,p⟩:=í aoQ;let⟨v,a,d⟩:=h.C;obtain⟨C,D,rfl⟩:=jL d;have t:=a.r 0 _ U;have E:=a.r 1 _ U;have x:=h.r.M;have y:=jA d a A;have H:=fg<|Á h<|Á c<|Á n<|Á o<|Á p<|Á a d;go_enter Tryz.func38,Tryz.ntmps38;go_wp2_with (first
  |(go_at_call 62;refine(aoS b _ t).mono ?_;rintro e i ⟨rfl,j⟩;subst i)
  |(at_builtin;refine aoU U _ _ 98 9 U Ā đ H.out.2.1 H.out.2.2.1 H.out.2.2.2.1 H.out.2.2.2.2.1 U H.out.2.2.2.2.2.2 s U (by unfold Ą;omega) m x ?_;intro g f j k;obtain⟨q,r,rfl⟩:=jL j;have i:=H.out.2.2.2.2.2.1.I k y;have z:=i.r 0 _ U;have F:=i.r 1 _ U;have G:=i.C 1;have e:=fg (Á k (Á i j));clear k i j))
 go_ret2;have z:=e.out.2.1.fS 1<|Ê q (l.length+s.size) r;have g:fe (λk=>k=b) f (f.setCell ⟨b,1,Ä⟩<|Ê q (l.length+s.size) r):=fe.I (X:=λk=>k=b) U _<|Ù e.out.2.1.G;refine⟨U,H.out.1.I,(H.out.1.r.C e.out.1 λi c q=> ?_).C g λi c q=> ?_,_,z,?_⟩
 .have:=(H.out.2.2.2.2.2.2.lt i q).1;omega
 .have:=H.out.1.I;omega
 .have:=ig e.out.2.2 g λj q r=>jA e.out.2.2 e.out.2.1 A (by rw[q,r]);grind [Ó,Lib.strCells_length]
def aoV:(À.info? 5).map (·.size)=Ã 1:=fv
def aoW:À.cellsOf 5=1:=fv
structure It(w0:É)(b:Nat)(p:È)(w:É):Prop where
 C:w0.heap.size<=b
 I:fe fi w0 w
 r:fj b [p,Ê Ä 0 0] 100 w
section
variable{w0:É}{p:È}
def It.Dt(h:It w0 b (Å<|Ã ⟨b,0,Ä⟩) w)(f:d.size<=Ą):oY w0 b [] ((w.alloc<|Ð d 5).setCell ⟨b,1,Ä⟩<|Ê (Ã ⟨w.heap.size,0,Ä⟩) 0 d.size).drew.drew.drew:=by have a:=fe.gJ fi w d 5;have c:fe (λk=>k=b) (w.alloc<|Ð d 5) ((w.alloc<|Ð d 5).setCell ⟨b,1,Ä⟩<|Ê (Ã ⟨w.heap.size,0,Ä⟩) 0 d.size):=fe.I (X:=λk=>k=b) U _<|Ù (h.r.I a id).G;have k:=(h.r.I a id).fS 1<|Ê (Ã ⟨w.heap.size,0,Ä⟩) 0 d.size;have m:=h.r.M;have g:(w.alloc<|Ð d 5).ownsRow w0.heap.size 5 1 (Ê (Ã ⟨w.heap.size,0,Ä⟩) 0 d.size) 0 []:= ⟨U,Ù ⟨w.heap.size,d.size,d,U,h.I.M,ì w _,â _,f,fq,fq⟩⟩;have l:oY w0 b [] ((w.alloc<|Ð d 5).setCell ⟨b,1,Ä⟩<|Ê (Ã ⟨w.heap.size,0,Ä⟩) 0 d.size):= ⟨h.C,(h.I.fh a).C c λi n q=>by have:=h.C;omega,_,k,ig g c λj q r=>by cases q;have e:w.heap.size=b:=r;omega⟩;exact((l.fO<|fe.fU _ _).fO<|fe.fU _ _).fO<|fe.fU _ _
theorem aoX(h:It w0 b (Å<|Ã ⟨b,0,Ä⟩) w)(n:Nat)(j:n<=281474976710656): Ò À 63 #[Å<|Ã ⟨b,0,Ä⟩,Â Ë n] w λe c=>e=Ç (æ #[])/\oY w0 b [] c:=by
 let⟨a,g,o,k⟩:=Lib.run_makeNoZero w.drew #[3] 98 5 Ā n j;have i:Ë.wrap (Ë.wrap 0+(n:Int))=n:=by grind [ó]
 have p:(callFunc 114 #[Â Ë<|Ë.wrap<|Ë.wrap 0+(n:Int)]).run À w.drew=φ (.value<|Ê (Ã ⟨w.drew.heap.size,0,Ä⟩) n a.size) (w.drew.drew.drew.alloc<|Ð a 5):=by rw[i,ţ Tryz.func114 fv fv fv fv,g];rfl
 have e:=fg (Á (show w.drew.cell? ⟨b,1,Ä⟩=Ã (Ê Ä 0 0)from h.r.r 1 _ rfl) trivial);have d:=h.r.I (fe.gJ fi w a 5) id;have l:=d.r 1 _ U;have f:=l;have q:=d.C 1;have r:∀W:É,(ν #[98,98] 3 #[Ê (Ã ⟨w.heap.size,0,Ä⟩) 0 a.size,Ê Ä 0 0]).run À W=φ (goInt 0) W:= λW=>run_copy_none W 98 98 3 5 _ _ 0 a.size 0 0 Ā aoV U;have m:=fg (h.Dt<|k<|by unfold Ą;omega);clear i h d g;go_enter Tryz.func63,Tryz.ntmps63;go_wp2;refine mr (λc=>c.cell? ⟨b,1,Ä⟩=Ã (Ê Ä 0 0)/\True) [] fv ?_;iterate 8 apply tk e.out
 apply tk e.out 9;apply tk e.out 10;apply tk e.out 11;apply tk e.out 12;apply tk e.out 13;refine gE 8 ?_;intro K c;go_simp;refine c.out _ _ (λ_=>⟨f,trivial⟩) ?_;refine gE 14 ?_;intro K c;go_simp;refine c.out _ _ (λ_=>⟨f,trivial⟩) ?_;refine gE 15 ?_;intro K c;go_simp;refine c.out _ _ (λ_=>⟨f,trivial⟩) ?_;refine ma fv ?_ _;go_wp2;go_end0;exact⟨U,m.out⟩
def aoY(h:It w0 b (Å Ä) w)(n:Nat)(l:0<n)(d:n<=281474976710656): Ò À 37 #[Å<|Ã ⟨b,0,Ä⟩,Â Ë n] w λe a=>e=Ç (æ #[])/\oY w0 b [] a:=by
 have f:w.shape? b=Ã (100,2):=by have i:w.heap[b]?=_:=h.r;simp[ŷ,i]
 have c:=fg (show It w0 b (Å<|Ã ⟨b,0,Ä⟩) (w.setCell ⟨b,0,Ä⟩<|Å<|Ã ⟨b,0,Ä⟩).drew from⟨h.C,(h.I.C (fe.I (X:=λk=>k=b) U _<|Ù h.r.G) λi k q=>by have:=h.C;omega).fh<|fe.fU _ _,(h.r.fS 0 _).I (fe.fU fi _) id⟩);have k:=fg<|Á (c.out.r.r 1 _ rfl) trivial;have q:=h.r.r 0 _ U;have g:=h.r.C 0;have m:¬((n:Int)<0):=Z
 have o:(0:Int)<(n:Int):=Z
 have p:Ë.wrap 0<(n:Int):=by rw[ó];omega
 go_enter Tryz.func37,Tryz.ntmps37;go_wp2_with (go_at_call 62;refine(aoT b w q f g).mono ?_;rintro e a ⟨rfl,i⟩;subst a);refine mr (λa=>a.cell? ⟨b,1,Ä⟩=Ã (Ê Ä 0 0)/\True) [] fv ?_;iterate 13 apply tk k.out
 refine ma fv ?_ _;go_wp2_with (go_at_call 63;refine(aoX c.out n d).mono ?_;rintro e a ⟨rfl,i⟩;have j:=fg i;clear i);go_end0;exact⟨U,j.out⟩
def aoZ{l:List UInt8}(h:oY w0 b (ô l) w)(d:l≠[]): Ò À 39 #[Å<|Ã ⟨b,0,Ä⟩] w λe K=>e=Ç (Í ⟨l.toArray⟩)/\fe fi w0 K:=by
 let⟨v,f,c⟩:=h.C;have n:l.length≠0:=by simpa using d
 rw[Ř]at c;obtain⟨g,e,a,rfl,t,o,u,s,y,z⟩:∃g e a,v=Ê (Ã ⟨g,0,Ä⟩) l.length e/\w0.heap.size<=g/\w.heap[g]?=Ã (Ð a 5 (0,0))/\l.length<=e/\e<=Ą/\a.size=e*1/\a.toList.take (l.length*1)=ô l:=by
  rcases c.2 with⟨_,i⟩|⟨g,e,a,j,r⟩
  .exact absurd i n
  .exact⟨g,e,a,j,r⟩
 have m:=fg (Á (show w.drew.cell? ⟨b,1,Ä⟩=Ã (Ê (Ã ⟨g,0,Ä⟩) l.length e)from f.r 1 _ rfl) trivial);have B:∀W:É,(υ #[98] 170 #[Ê (Ã ⟨g,0,Ä⟩) l.length e]).run À W=φ (Å<|Ã ⟨g,0,Ä⟩) W:=λW=>
  Lib.run_unsafeSliceData_row _ _ _ _ _ _ Z
 have C:(Ő #[170,3] 9 #[Å<|Ã ⟨g,0,Ä⟩,Â Ë l.length]).run À w.drew=φ (Í ⟨l.toArray⟩) (w.drew.freeze ⟨g,0,Ä⟩ l.length):=by refine Ĺ w.drew 170 3 9 5 ũ aoW g a.size (by have i:w.drew.heap[g]?=Ã (Ð a 5 (0,0)):=o;simp[ŷ,i]) l d Z (by unfold Ą at s;omega) ?_;intro j x i;have:=c.cells U j (Â aU x.toNat) (by simp[ô,i]);exact this
 have x:=fg ((h.r.fh<|fe.fU _ _).C (fe.G (X:=λk=>k=g) (p:=⟨g,0,Ä⟩) U l.length) λi j q=>by omega);have j:=fg (Á ((fe.G (X:=λk=>k=g) (p:=⟨g,0,Ä⟩) rfl l.length).r m.out.1 λq=>jA c f A<|by show Ã g=Ã b;rw[show g=b from(show b=g from q).symm]) trivial);go_enter Tryz.func39,Tryz.ntmps39;go_wp2;refine mr (λK=>K.cell? ⟨b,1,Ä⟩=Ã (Ê (Ã ⟨g,0,Ä⟩) l.length e)/\True) [] fv ?_;iterate 10 apply tk m.out
 apply gE 10;intro K i;go_simp;apply i.out _ _ λ_=>j.out;apply gE 11;intro K i;go_simp;apply i.out _ _ λ_=>j.out;refine ma fv ?_ _;go_wp2;go_ret;exact⟨U,x.out⟩
end
end Go.Proofs.Y.gp
