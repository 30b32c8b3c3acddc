import Derived.Test.YtgpphkdoanciiaaGreatDoorWAC
import Derived.Test.YtgpphkdoanciiaaGreatDoorChecked
import Derived.WalkKit
import Derived.WalkSpells
import Derived.WalkLawsBesides
import Derived.Deep.Light
import Derived.Maps.AppendAt
import Derived.RegionTactic
import Derived.Deep.RegionWith
import Derived.Deep.QuietTactic
import Derived.BigQuiet
import Derived.Deep.RegionHeld3
import Derived.WalkMore
import Derived.Deep.MidRow
import Derived.Great.Walk
import Derived.Lib.UnsafeStr
import Derived.Lib.BufferWrite
import Derived.Laws.Tables
import Derived.Laws.Bits64
import Derived.Shelf.Strconv.Itoa0
import Derived.Shelf.Strconv.Itoa1
import Derived.Shelf.LaysM
import Derived.Shelf.Strconv.Itoa2
import Derived.Shelf.Strconv.Itoa3
import Derived.Shelf.Strings.Repeat
import Derived.Shelf.Strings.OnBuilder
import Derived.Shelf.Strconv.Clone
import Derived.Shelf.Strings.Prefix
import Derived.Shelf.Bits.Mul64
import Derived.Test.YtgpphkdoanciiaaGreatDoorProg
import Derived.Lib.ItoaLen
set_option linter.all false
set_option maxRecDepth 1000000
set_option maxHeartbeats 8000000
open Go.Proofs.Tryz renaming prog->À,ntmps205->å,func205->ê,underlying25->ù,underlying107->ý,underlying9->đ,underlying3->Ě,underlying4->ě,zeroValue3->ħ,zeroValue4->Ĩ,zeroValue9->ĩ,underlying106->ĳ,underlying36->ĸ,ntmps170->ĺ,zeroValue36->ŀ,func170->Ņ,ntmps66->Ň,sizeOf3->ň,sizeOf4->ŉ,sizeOf9->Ŋ,func66->ś,isAgg3->Ŝ,isAgg4->ŝ,isAgg9->Ş,ntmps154->ť,ntmps113->Ŧ,sizeOf36->ŧ,underlying177->Ū,underlying168->Ŭ,underlying170->ŭ,func154->Ź,func187->ź,func113->Ż,zeroValue168->Ž,isAgg36->ž,underlying95->ſ,underlying0->Δ,underlying5->Ε,zeroValue95->Ζ,zeroValue0->Ρ,zeroValue5->Τ,sizeOf168->ε,ntmps209->η,ntmps210->θ,ntmps168->κ,ntmps196->ξ,ntmps169->ο,ntmps187->π,isAgg168->ρ,sizeOf95->ς,ntmps172->σ,func209->ah,func210->aj,func168->ar,func196->au,func169->av,sizeOf0->ay,sizeOf5->az,isAgg95->aB,func172->aC,ntmps78->aD,isAgg0->aH,isAgg5->aI,func78->aJ,f161->aZ
open And renaming intro->Á
open Go.Value renaming int->Â,pointer->Å,slice->Ê,string->Í,bool->Ñ,tuple->æ,agg->Ē,cells->ğ,ownBlock->Į
open Option renaming some->Ã,none->Ä,map_eq_some_iff->Ì,map_some->ñ,isSome_none->ũ,map->ū
open Go.IntKind renaming u64->Æ,i64->Ë,wrap_i64->ó,u8->aU,wrap_u64->aY
open Go.Ending renaming returned->Ç
open Go renaming Value->È,World->É,Calls->Ò,Act->é,heap_alloc_new->ì,info_parts->í,bodyPost_ret->ð,TypeId->õ,cell_one_new->ÿ,undef->ā,Addr->ă,maxLen->Ą,wp_loop->Ĉ,setRow_other->ė,setRow_heap->ĝ,execOp->Ĥ,wpList_load_mid->ĥ,all_oneCell_toArray->Ī,wpList_store_mid->ľ,Code->ŏ,grownCap->Œ,growslice_fits->ŕ,run_underlying->ř,Oper->ş,run_callFunc_extern->ţ,Operand->Ů,wpList_plain->ű,cell_two_new->ŵ,grownCap_ge->Θ,run_append_grow->Λ,run_loadVar_mid->Ν,ready_mono->Ω,wpOp_step->χ,resolve->ae,builtin->ag,yielded->ai,results->ak,Ending->ax,Program->aF,invoke->aP,wpList->aR,Exit->aT
open Go.Code renaming wp->Î,wp_mono->Ý,loop->à,skip->Ķ
open Bool renaming false->Ï,true->Ú,false_eq_true->ĭ
open Go.Obj renaming cells->Ð
open List renaming length_append->Ó,getElem?_eq_getElem->Ô,setIfInBounds_toArray->Õ,getElem?_eq_some_iff->Ü,eq_nil_of_length_eq_zero->ß,set_cons_zero->ã,set_cons_succ->ä,getElem?_append_left->ç,append_nil->ò,mem_append->ú,getElem?_range->û,getElem?_append_right->ü,ext_getElem?->þ,size_toArray->ć,append_assoc->Ċ,range->ċ,drop_eq_getElem_cons->ē,length_set->ĕ,drop_eq_nil_of_le->Ę,set_append_left->Ğ,mem_of_getElem?->Ġ,getD_eq_getElem?_getD->Ĳ,getElem?_map->ķ,map_toArray->ļ,length_cons->Ľ,mem_map->ņ,range_succ->Ŏ,mem_append_left->œ,getElem?_set_ne->Ŗ,mem_cons_of_mem->Ś,flatMap_append->Ţ,map_cons->Ť,map_nil->Ŵ,take_add_one->Α,mem_flatMap->Β,length_nil->Μ,nil_append->Ξ,length_map->Ο,map_append->Υ
open Int renaming le_refl->Ö,toNat_of_nonneg->Ĕ,toNat_natCast->Ŷ,le_trans->ŷ
open Or renaming inl->Ø,inr->Ù
open Array renaming getElem?_modify->Û,size_replicate->Ď,getD_eq_getD_getElem?->ī,replicate->ō,toList_append->Š,length_toList->š,size_append->Ű
open Nat renaming le_refl->Þ,zero_le->â,le_trans->ë,le_add_right->Ŀ,zero_add->ł,add_mul->ő,mul_le_mul_right->Ŕ,mul_one->ŗ,lt_of_lt_of_le->Ũ,lt_or_ge->ů,mod_lt->aO
open Go.World renaming block_lt_of_cell?->á,alloc->Ă,setCell->ą,ownsRow_nil->ĉ,drew->Č,freeze->Đ,shape?->Ÿ,cell?->Η
open Option.some renaming injEq->è
open Go.Operand renaming tmp->î,func->bh
open Go.Ground renaming data->ï
open Go.Lib renaming byteCells->ô,nDigits->č,zeros24->ġ,decDigits_length->Ģ,run_unsafeString_row->Ĺ,decDigits->Ļ,byteCells_length->Ř,TabIs->ω,pow10Tab->aA
open Go.Builtin renaming zeroCells->ö,append_->Ō,unsafeString_->Ő,copy_->ν,unsafeSliceData_->υ,min->bn,lenOf->bu
open ByteArray renaming extract->ø,size_extract->ŋ,ext->bq
open Go.Region renaming ready->Ā,wanted->Ĝ,binds->ń,Mode->Ι
open Go.Great renaming wpList_runTo->Ć
open Go.RowKit.Below renaming heap_alloc->ď,heap_setCell->Ė
open False renaming elim->ę
open Go.Obj.cells renaming injEq->ģ
open Go.Oper renaming upon_value->Ħ,wp->Ń
open Go.Shelf renaming Ren->Ĭ
open Go.Result renaming andThen->į,andThen_ok->Ĵ,ok->φ
open Go.TypeDesc renaming isRow->İ,slice->bm
open Go.Instr renaming fill->ı,index->Κ
open Go.Act renaming put->ĵ
open Go.Sort renaming mapBlock->Ł,putRow->ζ
open Go.Sem renaming run_bind->Ų,run_pure->ų
open Go.Op renaming build->Χ,call->aE,alloc->bj
open Go.Proofs.Lays renaming n283->aK,n285->aL,n212->aN,n99->aS
variable{i n j b k m J j9 j7 j6:Nat}{w u W jX:É}{v x z jQ:È}{a p:ă}{h c:Int}{e t T:õ}{d q:Array È}{P:aF}{y:é}{B:ByteArray}{X:Nat->Prop}{O:Option ă}{l:List È}{yQ:Bool}{K H:é->É->Prop}{o:ş}{D:Nat->Nat}{jJ:List Nat}{qQ:Ů}{zQ:List Int}{zJ:Go.TypeInfo}{xX:Ů->È}{xJ:Nat×Nat}{vX:List ByteArray}{vJ:aT->é->É->Prop}{s:Go.Func}
namespace Go.Proofs.Y.fR
open Go Go.Proofs Go.RowKit Go.Proofs.Y.Lift
def fg{p:Prop}(h:p):Hid p:=h
def M_{b:Bool}(h:yQ=b):Ç (Ñ yQ)=Ç (Ñ b):=by rw[h]
def EY{k:IntKind}{b:Int}(h:c=b):Ç (Â k c)=Ç (Â k b):=by rw[h]
def M'{b:ByteArray}(h:B=b):Ç (Í B)=Ç (Í b):=by rw[h]
def kt:È->Bool
 |Â aU _=>Ï
 |Â _ _=>Ú
 |Ñ _=>Ú
 |_=>Ï
def my(T:õ):Bool:=T==257||T==246
def sj(m:Nat)(w:É):Prop:=∀(b:Nat) (c:Array È) (T:õ) (v:Nat×Nat),m<=b->w.heap[b]?=Ã (Ð c T v)->my T=Ú->0<c.size/\∀v∈c.toList,kt v=Ú
def NF(b:Nat)(w:É):Prop:=∀(c:Array È) (T:õ) (a:Nat×Nat),w.heap[b]?=Ã (Ð c T a)->my T=Ï
structure fe(X:Nat->Prop)(w w':É):Prop where
 M:w.heap.size<=w'.heap.size
 N:∀k,k<w.heap.size->¬X k->w'.heap[k]?=w.heap[k]?
 gW:ko w->ko w'
 Y:∀m,sj m w->sj m w'
section
variable{Y:Nat->Prop}{w' d:É}
theorem fe.gd(X:Nat->Prop)(w:É):fe X w w:=⟨Þ _,λ_ _ _=>rfl,id,λ_=>id⟩
def fe.fi(h:fe X W jX)(k:fe X jX d):fe X W d:= ⟨ë h.M k.M,λi b c=>(k.N i (Ũ b h.M) c).trans<|h.N i b c,λa=>k.gW<|h.gW a,λm a=>k.Y m<|h.Y m a⟩
def fe.S(h:fe X w w')(b:∀k,k<w.heap.size->X k->Y k):fe Y w w':= ⟨h.M,λk a c=>h.N k a λx=>c<|b k a x,h.gW,h.Y⟩
def fe.C(h:fe X W jX)(k:fe Y jX d)(e:∀i,i<W.heap.size->Y i->X i):fe X W d:= ⟨ë h.M k.M,λi b c=>(k.N i (Ũ b h.M) λy=>c<|e i b y).trans<|h.N i b c,λa=>k.gW<|h.gW a,λm a=>k.Y m<|h.Y m a⟩
def alP(a:ko w)(p:ă)(v:È):ko (w.setCell p v):=by
 intro i o h;by_cases e:i=p.block
 .subst e;unfold ą at h;simp only[Û,if_true]at h;cases b:w.heap[p.block]? with
  |none=>rw[b]at h;cases h
  |some d=>
   have:=a _ _ b;rw[b]at h;cases d with
   |cells c t z=>simp only[ñ,è]at h;subst h;exact λx=>x
   |_=>exact absurd trivial this
 .rw[Ė _ _ _ _ (by simpa using e)]at h;exact a i o h
theorem Ih(a:ko w)(b:Array È)(t:õ)(z:Nat×Nat):ko (w.alloc<|Ð b t z):=by
 intro i o h;by_cases e:i<w.heap.size
 .rw[ď _ _ _ e]at h;exact a i o h
 .by_cases c:i=w.heap.size
  .subst c;rw[ì]at h;cases h;exact λx=>x
  .have:(w.alloc<|Ð b t z).heap.size<=i:=by simp;omega
   grind
def alQ(a:sj m w)(p:ă)(v:È)(f:kt v=Ú\/NF p.block w):sj m (w.setCell p v):=by
 intro i c T k g h b;by_cases e:i=p.block
 .subst e;unfold ą at h;simp only[Û,if_true]at h;cases d:w.heap[p.block]? with
  |none=>rw[d]at h;cases h
  |some l=>
   rw[d]at h;cases l with
   |cells o t z=>
    simp only[ñ,è,ģ]at h;obtain⟨n,rfl,rfl⟩:=h;rcases f with f|f
    .subst n;split
     .exact a _ _ _ _ g d b
     .refine⟨by rw[Array.size_setIfInBounds];exact(a _ _ _ _ g d b).1,λu j=> ?_⟩;rw[Array.toList_setIfInBounds]at j;rcases List.mem_or_eq_of_mem_set j with q|q
      .exact(a _ _ _ _ g d b).2 u q
      .rwa[q]
    .rw[f _ _ _ d]at b;cases b
   |_=>cases h
 .rw[Ė _ _ _ _ (by simpa using e)]at h;exact a i c T k g h b
theorem Ii(a:sj m w)(b:Array È)(t:õ)(z:Nat×Nat)(j:my t=Ï\/0<b.size/\∀v∈b.toList,kt v=Ú):sj m (w.alloc<|Ð b t z):=by
 intro i c T d f h g;by_cases e:i<w.heap.size
 .rw[ď _ _ _ e]at h;exact a i c T d f h g
 .by_cases k:i=w.heap.size
  .grind [ì]
  .have:(w.alloc<|Ð b t z).heap.size<=i:=by simp;omega
   grind
def fe.I{p:Addr}(hx:X p.block)(v:Value)(hv:kt v=true\/NF p.block w:=by first|exact Or.inl (by rfl)|exact Or.inr<|by assumption):fe X w (w.setCell p v):= ⟨fq,λk _ hk=>Ė _ _ _ _ (by intro e;subst e;exact hk hx),λa=>alP a p v,λ_ a=>alQ a p v hv⟩
def fe.gL(X:Nat->Prop)(w:World)(cs:Array Value)(t:TypeId)(hf:my t=false\/0<cs.size/\∀v∈cs.toList,kt v=true:=by first|exact Or.inl (by decide)|exact Or.inr ⟨by simp,by simp[kt]⟩):fe X w (w.alloc<|.cells cs t):= ⟨fq,λk hk _=>ď _ _ _ hk,λa=>Ih a cs t (0,0),λ_ a=>Ii a cs t (0,0) hf⟩
def fe.iV(X:Nat->Prop)(w:É)(n:Nat):fe X w (w.drewN n):=⟨Þ _,λ_ _ _=>rfl,id,λ_=>id⟩
def fe.fY(X:Nat->Prop)(w:É):fe X w w.drew:=⟨Þ _,λ_ _ _=>rfl,id,λ_=>id⟩
def kp{X:Nat->Prop}{w w':World}(h:fe X w w':=by repeat' (first|(with_reducible exact fe.gd _ _)|(with_reducible refine fe.fi ?_<|fe.iV _ _ _)|(with_reducible refine fe.fi ?_<|fe.fY _ _)|(with_reducible refine fe.fi ?_<|fe.gL _ _ _ _))):fe X w w':=h
def fe.r(h:fe X w w')(b:w.cell? a=Ã v)(c:¬X a.block):w'.cell? a=Ã v:=by rwa[World.cell?_of_block<|h.N _ (á w a b) c]
end
def Ij{u:È}(h:j≠b):(w.setCell ⟨j,i,Ä⟩ u).cell? ⟨b,n,Ä⟩=w.cell? ⟨b,n,Ä⟩:= World.cell?_setCell_other _ _ _ _<|by intro e;injection e with e1 e2;exact h e1
def fj(j:Nat)(vs:List È)(T:õ)(w:É):Prop:=w.heap[j]?=Ã (Ð vs.toArray T (0,0))
section
variable{vs:List È}{w':É}
def fj.N(w:É)(vs:List È)(T:õ):fj w.heap.size vs T (w.alloc<|Ð vs.toArray T):=ì w _
def fj.M(h:fj j vs T w):j<w.heap.size:=by
 rcases ů j w.heap.size with a|a
 .exact a
 .unfold fj at h;rw[Array.getElem?_eq_none a]at h;cases h
def fj.r(h:fj j vs T w)(i:Nat)(v:È)(a:vs[i]?=Ã v):w.cell? ⟨j,i,Ä⟩=Ã v:=by unfold fj at h;simp only[Η,h,ũ,ĭ,if_false,List.getElem?_toArray];exact a
def fj.C(h:fj j vs T w)(i:Nat):w.frozen? ⟨j,i,Ä⟩=Ï:=by unfold fj at h;simp[World.frozen?,h]
def fj.AP(h:fj j vs T w)(e:w'.heap[j]?=w.heap[j]?):fj j vs T w':=by unfold fj;rwa[e]
def fj.I(h:fj j vs T w)(k:fe X w w')(a:¬X j):fj j vs T w':=h.AP<|k.N j h.M a
theorem fj.fV(h:fj j vs T w)(i:Nat)(u:È):fj j (vs.set i u) T (w.setCell ⟨j,i,Ä⟩ u):=by unfold fj at h|-;unfold ą;grind
def fj.G(h:fj j vs T w)(hT:my T=false:=by decide):NF j w:=λc T' fr q=>by unfold fj at h;rw[h]at q;cases q;exact hT
theorem fj.S(h:fj j vs T w)(k:fj i l e w)(a:T≠e):j≠i:=by rintro rfl;unfold fj at h k;grind
end
section
variable{w':É}{base:Nat}{size:Nat}{xs:List È}
def alR(h:w.ownsRow base e size v n xs)(k:∀j,v.ownBlock=Ã j->w'.heap[j]?=w.heap[j]?):w'.ownsRow base e size v n xs:=by
 let⟨c,a⟩:=h;refine⟨c,?_⟩;rcases a with a|⟨g,d,f,b,i,l,r⟩
 .exact Ø a
 .refine Ù ⟨g,d,f,b,i,?_,r⟩;rw[k g (by rw[b];rfl)];exact l
def ik(h:w.ownsRow base e size v n xs)(k:fe X w w')(b:∀j,v.ownBlock=Ã j->¬X j):w'.ownsRow base e size v n xs:= alR h λj a=>k.N j (h.lt j a).2<|b j a
theorem jl(h:w.ownsRow base e size v n xs):∃a c,v=Ê a n c:=by rcases h.2 with⟨b,d⟩|⟨g,f,i,b,_⟩;all_goals grind
theorem mb(h:w.ownsRow base e size v n xs)(a:v.ownBlock=Ã j):∃b,w.heap[j]?=Ã (Ð b e (0,0)):=by
 rcases h.2 with⟨c,_⟩|⟨g,f,b,c,_,d,_⟩
 .rw[c]at a;cases a
 .rw[c]at a;cases a;exact⟨b,d⟩
theorem jG(h:w.ownsRow base e size v n xs)(k:fj j l T w)(a:e≠T):v.ownBlock≠Ã j:=by intro q;let⟨b,c⟩:=mb h q;unfold fj at k;grind
theorem alS(h:w.ownsRow base e size v n xs)(k:w.ownsRow i t b x m l)(a:e≠t)(c:v.ownBlock=Ã j):x.ownBlock≠Ã j:=by grind [mb]
theorem Ta{n:Nat}(h:v∈(ö d n).toList):v∈d.toList:=by unfold ö at h;grind [Array.toList_map,getElem,aO]
structure qt(w:É)(base:Nat)(e:õ)(size:Nat)(v:È)(n:Nat)(xs:List È)(m:Nat)(news:List È)(v':È)(w':É):Prop where
 ft:w'.ownsRow base e size v' (n+m) (xs++news)
 r:fe (λk=>v.ownBlock=Ã k) w w'
 C:v'.ownBlock=v.ownBlock\/v'.ownBlock=Ã w.heap.size
 I:∀v0 n0 xW,w.ownsRow base e size v0 n0 xW->(v0.ownBlock=v.ownBlock->n0<=n)->w'.ownsRow base e size v0 n0 xW
def qt.alT(c:w.ownsRow base e size v n xs)(f:l.length=m*size)(g:base<=w.heap.size)(j:n+m<=i)(o:i<=Ą)(p:d.size=i*size)(q:d.toList.take ((n+m)*size)=xs++l)(r:my e=Ï\/0<d.size/\∀v∈d.toList,kt v=Ú): qt w base e size v n xs m l (Ê (Ã ⟨w.heap.size,0,Ä⟩) (n+m) i) (w.drew.alloc<|Ð d e):=by have b:∀X,fe X w (w.drew.alloc<|Ð d e):=λX=>⟨fq,λk s _=>ď _ _ _ s,λa=>Ih a d e (0,0),λ_ a=>Ii a d e (0,0) r⟩;refine⟨⟨by rw[Ó,c.1,f,ő],Ù ⟨w.heap.size,i,d,U,g,ì w.drew _,j,o,p,q⟩⟩,b _,Ù U,λt u x h _=>ik h (b λ_=>False) λ_ _=>id⟩
theorem Td{ty:õ}{bytes:Nat}(F:P.underlying t=Ã (bm e))(G:P.info? e=Ã zJ)(Q:zJ.zero=Ã z) (xY:zJ.size=size) (xZ:zJ.bytes=bytes) (se:z.cells.size=size) (p:w.ownsRow base e size v n xs) (a:ă) (c:Nat) (b:List È) (hm:0<m) (r:b.length=m*size) (H:∀j u,b[j]?=Ã u->w.cell? (a.add j)=Ã u) (h1:∀u∈b,u.oneCell'=Ú) (S:n+m<=Ą) (V:(n+m)*bytes<=140737488355328) (Cj:base<=w.heap.size) (W:my e=Ï\/(0<b.length/\(∀u∈xs++b,kt u=Ú)/\∀u∈z.cells.toList,kt u=Ú)): ∃x w',(Ō #[t,t] ty #[v,Ê (Ã a) m c]).run P w=φ x w'/\qt w base e size v n xs m b x w':=by
 subst xY;subst xZ;have alU:n+m<=9223372036854775807:=by simp only[Ą]at S;omega
 have hlen:(xs++b).length=(n+m)*zJ.size:=by rw[Ó,p.1,r,ő]
 have avr:=p;have tk:∀d,((xs.toArray++b.toArray++ö z.cells (Œ w (n+m) d e-(n+m))).toList.take ((n+m)*zJ.size)=xs++b):=λd=>by grind
 have sz:∀d,(xs.toArray++b.toArray++ö z.cells (Œ w (n+m) d e-(n+m))).size=Œ w (n+m) d e*zJ.size:=λd=>by have x:=Θ w (n+m) d e;simp only[Ű,ć,size_zeroCells,se,p.1,r,<-ő];congr 1;omega
 have alV:∀d,my e=Ï\/0<(xs.toArray++b.toArray++ö z.cells (Œ w (n+m) d e-(n+m))).size/\∀v∈(xs.toArray++b.toArray++ö z.cells (Œ w (n+m) d e-(n+m))).toList,kt v=Ú:=λd=>by
  cases s:my e with
  |false=>exact Ø U
  |true=>
   rcases W with q|⟨x,B,I⟩
   .rw[q]at s;cases s
   .refine Ù ⟨by simp only[Ű,ć];omega,λv f=> ?_⟩;simp only[Š,ú]at f;rcases f with(f|f)|f
    .exact B v<|œ _ f
    .exact B v<|List.mem_append_right _ f
    .exact I v<|Ta f
 have gr:=λd=>qt.alT p r Cj (Θ w (n+m) d e) (grownCap_le_maxLen w (n+m) d e S) (sz d) (tk d)<|alV d;rcases p.2 with⟨rfl,rfl⟩|⟨g,y,h,rfl,hbg,C,hnc,hcm,X,htake⟩
 .have J:=ß (by simpa using p.1);subst J;have Y:=run_append_nil w t ty e zJ z F G Q a m c b r H hm Z (by have x:=V;simp only[ł]at x;omega);grind
 .by_cases K:n+m<=y
  .have Te:n*zJ.size+b.length<=h.size:=by rw[r,X,<-ő];exact Ŕ _ K
   have Y:=run_append_room w t ty e zJ F G g n y h C a m c b r H h1 K Te;have E:=ĝ w g h (h.toList.take (n*zJ.size)++b++h.toList.drop (n*zJ.size+b.length)).toArray e _ C;have L:=λk (M:k≠g)=>ė w g k (h.toList.take (n*zJ.size)++b++h.toList.drop (n*zJ.size+b.length)).toArray M;have N:(h.toList.take (n*zJ.size)++b++h.toList.drop (n*zJ.size+b.length)).toArray.size=h.size:=by grind
   have kp:fe (λk=>Į (Ê (Ã ⟨g,0,Ä⟩) n y)=Ã k) w (w.setRow g (h.toList.take (n*zJ.size)++b++h.toList.drop (n*zJ.size+b.length)).toArray):=by
    refine⟨fq,λk _ M=>L k λe=>M (by simp[Į,e]),λal q o l=> ?_,λm' hF q c T fr O l s=> ?_⟩;rotate_left
    .by_cases D:q=g
     .subst D;rw[E]at l;cases l;rcases W with qq|⟨_,B,_⟩
      .grind
      .refine⟨by rw[N];exact(hF _ _ _ _ O C s).1,λu x=> ?_⟩;simp only[ú]at x;rcases x with(x|x)|x
       .grind
       .grind
       .exact(hF _ _ _ _ O C s).2 u<|List.mem_of_mem_drop x
     .rw[L q D]at l;exact hF q c T fr O l s
    by_cases D:q=g
    .subst D;rw[E]at l;cases l;exact λx=>x
    .rw[L q D]at l;exact al q o l
   refine⟨_,_,Y,⟨hlen,Ù ⟨g,y,_,U,hbg,E,K,hcm,by rw[N,X],?_⟩⟩,kp,Ø U,λo q xW x s=> ?_⟩
   .grind
   .by_cases f:o.ownBlock=Ã g
    .let⟨B,I⟩:=x;refine⟨B,?_⟩;rcases I with⟨rfl,_⟩|⟨g0,D,avs,rfl,O,l,T,b4,b5,b6⟩
     .cases f
     .have:g0=g:=by simpa[Į]using f
      subst this;rw[C]at l;cases l;refine Ù ⟨g0,D,_,U,O,E,T,b4,by rw[N,b5],?_⟩;rw[htake];have avt:q*zJ.size<=n*zJ.size:=Ŕ _<|s f;grind
    .exact ik x kp λj l J=>f<|by rw[l];simpa[Į]using J.symm
  .exact⟨_,_,(Λ w t ty e zJ z F G Q ⟨g,0,Ä⟩ n y xs p.1 (p.cells U) a m c b r H Z Z<|ŕ Z V),gr y⟩
def Ck{P:Program}{ops:Array Oper}{rest:List Oper}{o:Oper}{a:Act}{Q:Exit->Act->World->Prop}(Tf:o.guard=none)(s x:Operand)(t:TypeId) (ho:o.op=.call {callee:=.builtin .append,args:=#[s,x],argTypes:=#[t,t]}) {i:TypeInfo} {z:Value} {bytes:Nat} (ht:P.underlying t=some (.slice e)) (hi:P.info? e=some i) (hz:i.zero=some z) (xY:i.size=size) (xZ:i.bytes=bytes) (se:z.cells.size=size) (hs:a.eval s=v) (lO:w.ownsRow base e size v n xs) (ad:Addr) {m c:Nat} (news:List Value) (hx:a.eval x=.slice (some ad) m c) (hm:0<m) (hl:news.length=m*size) (Tg:∀j u,news[j]?=some u->w.cell? (ad.add j)=some u) (h1:∀u∈news,u.oneCell'=true) (Cl:n+m<=maxLen) (Cm:(n+m)*bytes<=140737488355328) (Cj:base<=w.heap.size) (h:∀v' w',qt w base e size v n xs m news v' w'->wpList P ops Q rest (a.put o.dst v') w') (hfl:my e=false\/(0<news.length/\(∀u∈xs++news,kt u=true)/\∀u∈z.cells.toList,kt u=true):=by first|exact Or.inl (by decide)|exact Or.inr ⟨by simp,by simp[kt],by simp[kt,Value.cells]⟩): wpList P ops Q (o::rest) a w:=by refine ű Tf λK hK=> ?_;let⟨v',w',hr,h2⟩:=Td (ty:=o.type) ht hi hz xY xZ se lO ad c news hm hl Tg h1 Cl Cm Cj hfl;unfold Ń Ĥ;simp only[ho,ae,aP,ag,Ų,ų,Ĵ,ļ,Ť,Ŵ,hs,hx,hr];exact hK _ _<|h v' w' h2
end
structure Ik where
 fB:Int
 r:ByteArray
 C:Nat->Int
abbrev St:=Nat->Ik
def St.fV(s:St)(i:Nat)(a:Ik):St:=λj=>if j=i then a else s j
def St.fB(s:St)(i:Nat)(b:Int):St:=s.fV i {s i with fB:=b}
def St.C(s:St)(i:Nat)(p:ByteArray):St:=s.fV i {s i with r:=p}
def St.r(s:St)(i j:Nat)(v:Int):St:=s.fV i {s i with C:=λk=>if k=j then v else(s i).C k}
def qu(n:Int):È:=Â Æ n
def Ti(n:Int):È:=Â Ë n
def qw(s:St)(i:Nat):È:=if i%18=0 then qu (s<|i/18).fB else if i%18=1 then Í (s<|i/18).r else qu ((s<|i/18).C<|i%18-2)
def sk(s:St)(a:È)(i:Nat):È:=if 144<=i then a else qw s i
theorem rp(s:St)(a:È)(h:i<144):sk s a i=qw s i:=by unfold sk;rw[if_neg Z]
def jm(s:St)(lv:È):List È:=(ċ 145).map<|sk s lv
theorem mO(s:St)(lv:È):(jm s lv).length=145:=by simp[jm]
theorem Il(s:St)(a:È)(h:i<145):(jm s a)[i]?=Ã (sk s a i):=by unfold jm;grind
theorem N_{s:St}(h:l.length=145)(a:∀i,i<145->l[i]?=Ã (sk s v i)):l=jm s v:=by apply þ;grind [Il,mO]
section
variable(s:St)(lv:È)
def Im(h:i<8):sk s lv (i*18)=qu (s i).fB:=by rw[rp _ _ Z,qw,if_pos Z,show i*18/18=i from by omega]
def Md(h:i<8):sk s lv (i*18+1)=Í (s i).r:=by rw[rp _ _ Z,qw,if_neg Z,if_pos Z,show(i*18+1)/18=i from by omega]
def Me(h:i<8)(a:j<16):sk s lv (i*18+2+j)=qu ((s i).C j):=by rw[rp _ _ Z,qw,if_neg Z,if_neg Z,show(i*18+2+j)/18=i from by omega,show(i*18+2+j)%18-2=j from by omega]
theorem Mf:sk s lv 144=lv:=by unfold sk;grind
theorem alW(v:È):(jm s lv).set 144 v=jm s v:=by
 refine N_ (by rw[ĕ,mO]) λi a=> ?_;by_cases e:i=144
 .grind [mO,Mf]
 .rw[Ŗ<|Ne.symm e,Il _ _ a,rp _ _ Z,rp _ _ Z]
theorem Tk(f:i<144){c:St}(g:sk c lv i=v)(h:∀b,b<144->b≠i->qw c b=qw s b):(jm s lv).set i v=jm c lv:=by
 refine N_ (by rw[ĕ,mO]) λb d=> ?_;by_cases e:b=i
 .grind [mO]
 .rw[Ŗ<|Ne.symm e,Il _ _ d];grind [rp,Mf]
def N'(h:i<8)(b:Int):(jm s lv).set (i*18) (qu b)=jm (s.fB i b) lv:=by
 refine Tk s lv Z ?_ λk a c=> ?_
 .rw[Im _ _ h];simp[St.fB,St.fV]
 .unfold qw;by_cases e:k/18=i
  .have:k%18≠0:=Z
   simp[St.fB,St.fV,e,this]
  .simp[St.fB,St.fV,e]
def alX(h:i<8)(p:ByteArray):(jm s lv).set (i*18+1) (Í p)=jm (s.C i p) lv:=by
 refine Tk s lv Z ?_ λk a b=> ?_
 .rw[Md _ _ h];simp[St.C,St.fV]
 .unfold qw;by_cases e:k/18=i
  .have:k%18≠1:=Z
   simp[St.C,St.fV,e,this]
  .simp[St.C,St.fV,e]
def alY(h:i<8)(c:j<16)(v:Int):(jm s lv).set (i*18+2+j) (qu v)=jm (s.r i j v) lv:=by
 refine Tk s lv Z ?_ λk d f=> ?_
 .rw[Me _ _ h c];simp[St.r,St.fV]
 .unfold qw;by_cases e:k/18=i
  .by_cases a:k%18=0
   .simp[St.r,St.fV,e,a]
   .by_cases b:k%18=1
    .simp[St.r,St.fV,e,b]
    .have:k%18-2≠j:=Z
     simp[St.r,St.fV,e,a,b,this]
  .simp[St.r,St.fV,e]
end
def iF(b:Nat)(T:õ)(tl:List È)(s:St)(lv:È)(w:É):Prop:=fj b (jm s lv++tl) T w
section
variable{tl:List È}{s:St}{lv:È}
def iF.Io(h:iF b T tl s lv w)(a:i<145):w.cell? ⟨b,i,Ä⟩=Ã (sk s lv i):= fj.r h i _<|by rw[ç (by rwa[mO]),Il _ _ a]
def iF.qK(h:iF b T tl s lv w)(c:i<145){a:St}(e:(jm s lv).set i v=jm a x):iF b T tl a x (w.setCell ⟨b,i,Ä⟩ v):=by have:=fj.fV h i v;rw[Ğ _ _ (show i<(jm s lv).length by rwa[mO]),e]at this;exact this
def iF.fB(h:iF b T tl s lv w)(a:i<8):w.cell? ⟨b,i*18,Ä⟩=Ã (Â Æ (s i).fB):=by rw[h.Io Z,Im _ _ a];rfl
def iF.Mg(h:iF b T tl s lv w)(a:i<8):w.cell? ⟨b,i*18+1,Ä⟩=Ã (Í (s i).r):=by rw[h.Io Z,Md _ _ a]
def iF.O_(h:iF b T tl s lv w)(a:i<8)(c:j<16):w.cell? ⟨b,i*18+2+j,Ä⟩=Ã (Â Æ<|(s i).C j):=by rw[h.Io Z,Me _ _ a c];rfl
def iF.Cn(h:iF b T tl s lv w):w.cell? ⟨b,144,Ä⟩=Ã lv:=by rw[h.Io Z,Mf]
def iF.zU(h:iF b T tl s lv w)(a:i<8)(x:Int):iF b T tl (s.fB i x) lv (w.setCell ⟨b,i*18,Ä⟩<|Â Æ x):=h.qK Z<|N' s lv a x
def iF.alZ(h:iF b T tl s lv w)(a:i<8)(x:ByteArray):iF b T tl (s.C i x) lv (w.setCell ⟨b,i*18+1,Ä⟩<|Í x):=h.qK Z<|alX s lv a x
def iF.Tl(h:iF b T tl s lv w)(a:i<8)(c:j<16)(x:Int):iF b T tl (s.r i j x) lv (w.setCell ⟨b,i*18+2+j,Ä⟩<|Â Æ x):=h.qK Z<|alY s lv a c x
def iF.al0(h:iF b T tl s lv w)(v:È):iF b T tl s v (w.setCell ⟨b,144,Ä⟩ v):=h.qK Z<|alW s lv v
end
def yc(b:Bool):Int:=if b then 1 else 0
def Ip(b:Bool)(w:É):Ò À 159 #[Ñ b] w λe a=>e=Ç (Â Æ<|yc b)/\a=w:=by
 go_enter Tryz.func159,Tryz.ntmps159;go_wp2;all_goals go_ret
 all_goals refine⟨EY ?_,U⟩
 all_goals simp[yc, *]
def P_(b o:Nat)(s:Int)(c:0<=s)(d:s<18446744073709551616)(w:É):Ò À 208 #[Å<|Ã ⟨b,o,Ä⟩,Â Æ s] w λe a=>e=Ç (Å<|Ã ⟨b,o+2+(s%16).toNat,Ä⟩)/\a=w:=by
 go_enter Tryz.func208,Tryz.ntmps208;go_wp2;all_goals go_ret
 exact⟨U,U⟩
def wu(n:Int):Int:=Æ.wrap n
theorem al1(a:0<=h)(b:h<18446744073709551616):wu h=h:=by show h%18446744073709551616=h;omega
def P'(n:Int):wu n=n%18446744073709551616:=rfl
def al2(n:Int):0<=wu n:=by rw[P'];omega
def al3(n:Int):wu n<18446744073709551616:=by rw[P'];omega
def yd(k p q:Int):Int:=
 if k=2 then wu (p+q)else if k=3 then wu (p-q)else if k=4 then wu (p*q)
 else if k=5 then(if q=0 then 0 else p/q)else if k=6 then yc (decide<|p<q)else yc (decide<|p=q)
def al4(k p q:Int)(b:0<=p)(c:p<18446744073709551616)(d:0<=q)(f:q<18446744073709551616)(w:É):Ò À 211 #[Â Ë k,Â Æ p,Â Æ q] w λe a=>e=Ç (Â Æ<|yd k p q)/\a=w:=by
 go_enter Tryz.func211,Tryz.ntmps211;go_wp2_with (go_at_call 159;refine(Ip _ _).mono ?_;rintro e a ⟨rfl,rfl⟩);all_goals simp only[beq_iff_eq,beq_eq_false_iff_ne,ne_eq]at*
 all_goals first
  |(exfalso;simp_all;done)
  |(go_ret;refine⟨EY ?_,U⟩;unfold yd;simp[wu, *];done)
  |(go_ret;refine⟨EY ?_,U⟩;unfold yd;simp[wu, *];rfl)
structure RC where
 x:Nat
 y:Nat
 k:Int
 d:Int
 g:Int
def sr(a:Nat)(c:RC)(b:È):List È:=[Å<|Ã ⟨a,0,Ä⟩,Â Ë c.x,Â Ë c.y,Â Æ c.k,Â Ë c.d,Â Æ c.g,b]
def pM(l:List Int):List È:=l.map qu
theorem al5{base:Nat}(h:w.ownsRow base e 1 (Ê O (n+1) i) (n+1) (l++[x])):w.ownsRow base e 1 (Ê O n i) n l:=by
 let⟨d,b⟩:=h;simp only[Ó,Ľ,Μ,ŗ]at d;refine⟨Z,?_⟩;rcases b with⟨b,_⟩|⟨g,q,f,b,j,k,r,m,o,p⟩
 .cases b
 .cases b;refine Ù ⟨g,i,f,U,j,k,Z,m,o,?_⟩;have:=congrArg (List.take n) p;grind
def Mh{base:Nat}(h:w.ownsRow base e 1 (Ê O (n+1) i) (n+1) (l++[x])):∃g,O=Ã ⟨g,0,Ä⟩/\w.cell? ⟨g,n,Ä⟩=Ã x/\n+1<=i:=by
 let⟨f,d⟩:=h;simp only[Ó,Ľ,Μ,ŗ]at f;rcases d with⟨d,_⟩|⟨g,o,p,d,q,j,k,r,s,m⟩
 .cases d
 .cases d;refine⟨g,U,?_,k⟩;have:=congrArg (λb=>b[n]?) m;simp only[ŗ]at this;rw[List.getElem?_take_of_lt Z,ü Z,show n-l.length=0 by omega]at this;simp only[Η,j];simpa using this
def Mi(j d:Nat)(c:RC)(f:È)(base:Nat)(b:List Int)(p:Int)(w:É)(i:fj d (sr j c f) 282 w)(h:w.ownsRow base 36 1 f (b.length+1) (pM b++[qu p]))(k:b.length<=1000): Ò À 204 #[Å<|Ã ⟨d,0,Ä⟩] w λe g=>e=Ç (Â Æ p)/\∃a,g=w.setCell ⟨d,6,Ä⟩ a/\w.ownsRow base 36 1 a b.length (pM b)/\a.ownBlock=f.ownBlock:=by obtain⟨a,l,rfl⟩:=jl h;obtain⟨g,rfl,m,o⟩:=Mh h;have e:=al5 h;have q:=i.r 6 _ U;have r:=i.C 6;have H:=fg e;generalize b.length=n at*;go_enter Tryz.func204,Tryz.ntmps204;go_wp2;go_ret;refine⟨U,_,U,?_,U⟩;simpa using H.out
def al6:(À.info? 36).map (λi=>(i.zero,i.size,i.bytes))=Ã (Ã<|Â Æ 0,1,8):=fw
def Q_(p b:Nat)(c:RC)(d:È)(base:Nat)(k:List È)(n:Nat)(f m:Nat)(q:Nat)(a:List È)(w:É)(g:fj b (sr p c d) 282 w)(l:w.ownsRow base 36 1 d n k)(E:n+m<=1000) (r:0<m) (s:a.length=m) (t:∀j u,a[j]?=Ã u->w.cell? ((⟨f,0,Ä⟩:ă).add j)=Ã u) (v:∀u∈a,u.oneCell'=Ú) (x:base<=w.heap.size): Ò À 203 #[Å<|Ã ⟨b,0,Ä⟩,Ê (Ã ⟨f,0,Ä⟩) m q] w λe o=>e=Ç (æ #[])/\∃h i,qt w base 36 1 d n k m a h i/\o=i.setCell ⟨b,6,Ä⟩ h:=by let⟨F,y,z,B,C⟩:=í al6;have D:=g.r 6 _ U;have o:=jG l g A;have H:=fg g;go_enter Tryz.func203,Tryz.ntmps203;go_wp2_with (at_builtin;refine Ck U _ _ 231 U Tryz.underlying231 y z B C U U l ⟨f,0,Ä⟩ a U r (by rw[s,ŗ]) t v (by unfold Ą;omega) Z x ?_;intro h i e;obtain⟨G,I,rfl⟩:=jl e.ft;have J:=e.r.r D o;have K:=(H.out.I e.r o).C 6);go_end0;exact⟨U,_,_,e,U⟩
def ku(l:List (Nat×Int)):List È:=l.flatMap λp=>[Ti p.1,qu p.2]
structure iZ where
 r:Nat
 T:õ
 C:List È
structure iZ.Ok(E:iZ):Prop where
 M:E.T≠36
 r:E.T≠257
 I:E.T≠282
 N:E.T≠300
 al7:E.T≠252
 al8:E.T≠246
def iZ.Ok.C{E:iZ}(h:E.Ok):my E.T=Ï:=by unfold my;rw[beq_eq_false_iff_ne.2 h.r,beq_eq_false_iff_ne.2 h.al8];rfl
structure R(E:iZ)(rb:Nat)(c:RC)(sv lv:È)(ss:List Int)(s:St)(ls:List (Nat×Int))(w:É):Prop where
 r:fj rb (sr E.r c sv) 282 w
 I:w.ownsRow 0 36 1 sv ss.length (pM ss)
 C:iF E.r E.T E.C s lv w
 M:w.ownsRow 0 257 2 lv ls.length (ku ls)
structure Tr(E:iZ)(rb:Nat)(sv lv:È)(n:Nat)(w:É)(ki jF:È)(n':Nat)(w':É):Prop where
 r:fe (λk=>k=E.r\/k=rb\/sv.ownBlock=Ã k\/lv.ownBlock=Ã k) w w'
 s:∀j,ki.ownBlock=Ã j->sv.ownBlock=Ã j\/w.heap.size<=j
 l:∀j,jF.ownBlock=Ã j->lv.ownBlock=Ã j\/w.heap.size<=j
 C:∀v0 n0 xW,w.ownsRow 0 257 2 v0 n0 xW->(v0.ownBlock=lv.ownBlock->n0<=n)->w'.ownsRow 0 257 2 v0 n0 xW/\(v0.ownBlock=jF.ownBlock->n0<=n')
section
variable{E:iZ}{rb:Nat}{c:RC}{sv lv f o:È}{ss:List Int}{s:St}{ls:List (Nat×Int)}
theorem Tr.gd(E:iZ)(rb:Nat)(sv lv:È)(n:Nat)(w:É):Tr E rb sv lv n w sv lv n w:= ⟨fe.gd _ _,λ_ h=>Ø h,λ_ h=>Ø h,λ_ _ _ h k=>⟨h,k⟩⟩
theorem Tr.fi(h:Tr E rb sv lv n w f z b u)(k:Tr E rb f z b u o jQ m W):Tr E rb sv lv n w o jQ m W:=by
 refine⟨h.r.C k.r ?_,λj a=> ?_,λj a=> ?_,λc d g p q=> ?_⟩
 .rintro i r (e|e|e|e)
  .exact Ø e
  .grind
  .exact Ù<|Ù<|Ø<|(h.s i e).resolve_right Z
  .exact Ù<|Ù<|Ù<|(h.l i e).resolve_right Z
 .rcases k.s j a with e|e
  .exact h.s j e
  .exact Ù<|ë h.r.M e
 .rcases k.l j a with e|e
  .exact h.l j e
  .exact Ù<|ë h.r.M e
 .let⟨e,i⟩:=h.C c d g p q;exact k.C c d g e i
def Tr.I(k:fe X w u)(c:∀i,i<w.heap.size->X i->i=E.r\/i=rb\/sv.ownBlock=Ã i)(d:∀j,f.ownBlock=Ã j->sv.ownBlock=Ã j\/w.heap.size<=j)(g:∀i a,X i->w.heap[i]?≠Ã (Ð a 257 (0,0))):Tr E rb sv lv n w f lv n u:= ⟨k.S λi h q=>(c i h q).elim Ø λe=>Ù (e.elim Ø λe=>Ù<|Ø e),d,λj q=>Ø q,λp r s b l=>⟨ik b k λj m q=>by let⟨a,o⟩:=mb b m;exact g j a q o,l⟩⟩
def Tr.al9{Y:Nat->Prop}(t:Tr E rb sv lv n w f z b u)(k:fe Y u W)(m:∀i,Y i->w.heap.size<=i)(o:∀i a,Y i->u.heap[i]?≠Ã (Ð a 257 (0,0))):Tr E rb sv lv n w f z b W:= ⟨t.r.C k λi v q=>absurd (m i q) Z,t.s,t.l,λc d e g h=>⟨ik (t.C c d e g h).1 k λj p q=>by let⟨a,r⟩:=mb (t.C c d e g h).1 p;exact o j a q r,(t.C c d e g h).2⟩⟩
def R.ama(ok:E.Ok)(h:R E rb c sv lv ss s ls w)(a:fj j l 252 w)(k:fe (λi=>i=j) w u):R E rb c sv lv ss s ls u:= ⟨h.r.I k<|fj.S h.r a A,ik h.I k λi q r=>jG h.I a A (by rw[q,r]),h.C.I k<|fj.S h.C a ok.al7,ik h.M k λi q r=>jG h.M a A<|by rw[q,r]⟩
theorem R.N(ok:E.Ok)(h:R E rb c sv lv ss s ls w)(i:Nat){c':RC}{ki:È}{ss':List Int}(e:(sr E.r c sv).set i v=sr E.r c' ki)(b:w.ownsRow 0 36 1 ki ss'.length (pM ss'))(d:∀j,ki.ownBlock=Ã j->sv.ownBlock=Ã j): R E rb c' ki lv ss' s ls (w.setCell ⟨rb,i,Ä⟩ v)/\Tr E rb sv lv ls.length w ki lv ls.length (w.setCell ⟨rb,i,Ä⟩ v):=by have a:=fe.I (X:=λk=>k=rb) (p:=⟨rb,i,Ä⟩) U v<|Ù h.r.G;refine⟨⟨by have:=h.r.fV i v;rwa[e]at this,ik b a λj q r=>jG b h.r A (by rw[q,r]),h.C.I a<|fj.S h.C h.r ok.I,ik h.M a λj q r=>jG h.M h.r A<|by rw[q,r]⟩,Tr.I a (λi _ q=>Ù<|Ø q) (λj q=>Ø<|d j q) λi f q g=> ?_⟩;have k:=h.r;unfold fj at k;grind
def R.S(ok:E.Ok)(h:R E rb c sv lv ss s ls w)(i:Nat){d:St}(k:iF E.r E.T E.C d lv (w.setCell ⟨E.r,i,Ä⟩ v)): R E rb c sv lv ss d ls (w.setCell ⟨E.r,i,Ä⟩ v)/\Tr E rb sv lv ls.length w sv lv ls.length (w.setCell ⟨E.r,i,Ä⟩ v):=by have b:=fe.I (X:=λk=>k=E.r) (p:=⟨E.r,i,Ä⟩) U v<|Ù<|fj.G h.C ok.C;refine⟨⟨h.r.I b (fj.S h.C h.r ok.I).symm,ik h.I b λj q r=>jG h.I h.C ok.M.symm (by rw[q,r]),k,ik h.M b λj q r=>jG h.M h.C ok.r.symm<|by rw[q,r]⟩,Tr.I b (λi _ q=>Ø q) (λj q=>Ø q) λi e q a=> ?_⟩;rw[q,h.C]at a;injection a with a;injection a with _ a;exact ok.r a
theorem R.Y(ok:E.Ok)(h:R E rb c sv lv ss s ls w){ns:List Int}{u:É}(o:ns.length=m)(a:qt w 0 36 1 sv ss.length (pM ss) m (pM ns) v u): R E rb c v lv (ss++ns) s ls (u.setCell ⟨rb,6,Ä⟩ v)/\Tr E rb sv lv ls.length w v lv ls.length (u.setCell ⟨rb,6,Ä⟩ v):=by
 subst o;have d:∀{i:Nat} {f:Array È} {T:õ},sv.ownBlock=Ã i->w.heap[i]?=Ã (Ð f T (0,0))->T=36:=λ{i f T} q l=>by let⟨g,e⟩:=mb h.I q;grind
 have b:R E rb c sv lv ss s ls u:=⟨h.r.I a.r λq=>absurd (d q h.r) A,a.I _ _ _ h.I λ_=>Þ _,h.C.I a.r λq=>ok.M<|d q h.C,ik h.M a.r λj q r=>by let⟨g,e⟩:=mb h.M q;exact absurd (d r e) A⟩;have n:u.ownsRow 0 36 1 v (ss++ns).length (pM<|ss++ns):=by have:=a.ft;rwa[show pM ss++pM ns=pM (ss++ns) by simp[pM],show ss.length+ns.length=(ss++ns).length by simp]at this
 have g:=fe.I (X:=λk=>k=rb) (p:=⟨rb,6,Ä⟩) U v<|Ù b.r.G;refine⟨⟨b.r.fV 6 v,ik n g λj q r=>jG n b.r A (by rw[q,r]),b.C.I g<|fj.S b.C b.r ok.I,ik b.M g λj q r=>jG b.M b.r A<|by rw[q,r]⟩,(Tr.I a.r (λi _ q=>Ù<|Ù q) (λj q=>a.C.elim (λe=>Ø<|by rwa[<-e]) λe=>Ù<|by rw[e]at q;cases q;exact Þ _) λi f q l=>absurd (d q l) A).fi<|Tr.I g (λi _ q=>Ù<|Ø q) (λj q=>Ø q) λi f q l=> ?_⟩;have e:=b.r;unfold fj at e;grind
end
section
variable{E:iZ}{rb:Nat}{c:RC}{sv lv:È}{s:St}{ls:List (Nat×Int)}
def R.fP(h:R E rb c sv lv zQ s ls w)(k:fe fh w W):R E rb c sv lv zQ s ls W:= ⟨h.r.I k id,ik h.I k λ_ _=>id,h.C.I k id,ik h.M k λ_ _=>id⟩
def Tr.fP(k:fe fh w W):Tr E rb sv lv n w sv lv n W:=Tr.I k (λ_ _=>ę) (λ_ q=>Ø q) λ_ _=>ę
end
def jd:List (Int×Int×Int):=[(0,0,0),(1,0,1),(1,2,1),(1,2,1),(2,2,1),(2,2,1),(1,2,1),(1,2,1),(1,1,2),(1,2,2),(1,1,0),(1,0,1),(1,0,1),(1,0,1),(1,0,1),(3,1,1),(6,2,0),(2,2,0),(8,2,1),(4,1,0),(8,3,2),(1,1,0),(1,0,0)]
structure iP(w:É):Prop where
 M:∃cs fz,w.heap[2]?=Ã (Ð cs 300 fz)
 I:∀(k:Nat) (r:Int×Int×Int),jd[k]?=Ã r->w.cell? ⟨2,k*3,Ä⟩=Ã (Â Æ r.1)/\w.cell? ⟨2,k*3+1,Ä⟩=Ã (Â Ë r.2.1)/\w.cell? ⟨2,k*3+2,Ä⟩=Ã (Â Ë r.2.2)
theorem iP.r(h:iP w)(k:fe X w u)(a:¬X 2):iP u:=by
 let⟨b,c,d⟩:=h.M;have e:2<w.heap.size:=by grind
 refine⟨⟨b,c,by rwa[k.N 2 e a]⟩,λi r f=> ?_⟩;let⟨g,j,l⟩:=h.I i r f;exact⟨k.r g a,k.r j a,k.r l a⟩
theorem iP.C(h:iP w)(a:w.heap[j]?=Ã (Ð d T xJ))(b:T≠300):j≠2:=by rintro rfl;let⟨c,e,f⟩:=h.M;grind
def iP.N{E:iZ}(ok:E.Ok){rb:Nat}{c:RC}{sv lv:È}{s:St}{a:List (Nat×Int)}(h:iP w)(r:R E rb c sv lv zQ s a w)(t:Tr E rb sv lv n w v x i u):iP u:=by
 refine h.r t.r ?_;rintro(e|e|e|e)
 .exact h.C r.C ok.N e.symm
 .exact h.C r.r A e.symm
 .let⟨b,q⟩:=mb r.I e;exact h.C q A U
 .let⟨b,q⟩:=mb r.M e;exact h.C q A U
theorem Mj:∀(k:Nat) (r:Int×Int×Int),jd[k]?=Ã r->0<=r.1/\r.1<=8/\0<=r.2.1/\r.2.1<=3/\0<=r.2.2/\r.2.2<=2:=by
 have h:∀r∈jd,0<=r.1/\r.1<=8/\0<=r.2.1/\r.2.1<=3/\0<=r.2.2/\r.2.2<=2:=A
 grind
def mA(g:Int)(n:Nat)(b a c:Int):Bool:= !(decide (g<b)||(decide ((n:Int)-a<0)||decide (32<(n:Int)-a+c)))
def Tm(E:iZ)(f:Nat)(c:RC)(a d:È)(i:List Int)(s:St)(e:List (Nat×Int))(w:É)(j:Int)(b:Bool)(h:É):Prop:=
 R E f (if b then{c with g:=c.g-j}else c) a d i s e h/\Tr E f a d e.length w a d e.length h
section
variable{E:iZ}{rb:Nat}{c:RC}{sv lv:È}{s:St}{ls:List (Nat×Int)}
def Tn(a:R E rb c sv lv zQ s ls w)(k:fe fh w u):Tm E rb c sv lv zQ s ls w h Ï u:=⟨a.fP k,Tr.fP k⟩
def amb(ok:E.Ok)(a:R E rb c sv lv zQ s ls w){g:Int}(d:c.g=g)(e:u=W.setCell ⟨rb,5,Ä⟩ (Â Æ<|g-h))(k:fe fh w W):Tm E rb c sv lv zQ s ls w h Ú u:=by subst d e;have b:=a.fP k;let⟨f,i⟩:=b.N ok 5 (c':={c with g:=c.g-h}) U b.I λ_ q=>q;exact⟨f,(Tr.fP k).fi i⟩
end
def Co(E:iZ)(ok:E.Ok)(m:Nat)(c:RC)(q r:È)(d:List Int)(s:St)(t:List (Nat×Int))(w:É)(h:R E m c q r d s t w)(u:iP w)(k:Nat)(f b i:Int)(o:jd[k]?=Ã (f,b,i))(y:d.length<=1000)(P:0<=c.g)(Q:c.g<18446744073709551616): Ò À 202 #[Å<|Ã ⟨m,0,Ä⟩,Â Ë k] w λe a=>e=Ç (Ñ<|mA c.g d.length f b i)/\Tm E m c q r d s t w f (mA c.g d.length f b i) a:=by
 let⟨z,B,C⟩:=u.I k _ o;obtain⟨a,S,rfl⟩:=jl h.I;have D:=h.r.r 6 _ U;have T:=h.r.r 5 _ U;have V:=h.r.C 5;have W:=h.r.M;have X:k<23:=(Ü.1 o).1;let⟨F,G,I,J,K,L⟩:=Mj k _ o;simp only at F G I J K L z B C;obtain⟨n,j⟩:∃n,d.length=n:=⟨_,U⟩;rw[j]at D y;have e:mA c.g d.length f b i= !(decide (c.g<f)||(decide ((n:Int)-b<0)||decide (32<(n:Int)-b+i))):=by rw[j];rfl
 have H:=fg<|Á h<|Á j e;clear u h j e;generalize M:c.g=g at*;go_enter Tryz.func202,Tryz.ntmps202;go_wp2;go_quiet (fail);go_wp2;by_cases v:g<f
 .go_quiet (fail)
  go_wp2;let⟨h,j,e⟩:=H.out;have l:mA g d.length f b i=Ï:=by rw[e];simp[v]
  go_ret;rw[l];refine⟨U,Tn h ?_⟩;exact kp
 .have N:=decide_eq_false v;by_cases x:(n:Int)-b<0
  .go_quiet (fail)
   go_wp2;let⟨h,j,e⟩:=H.out;have l:mA g d.length f b i=Ï:=by rw[e];simp[x]
   go_ret;rw[l];refine⟨U,Tn h ?_⟩;exact kp
  .have O:=decide_eq_false x;go_quiet (fail);go_wp2
   .have p:32<(n:Int)-b+i:=by assumption
    let⟨h,j,e⟩:=H.out;have l:mA g d.length f b i=Ï:=by rw[e];simp[p]
    go_ret;rw[l];refine⟨U,Tn h ?_⟩;exact kp
   .go_region
    go_wp2;have p:(n:Int)-b+i<=32:=by assumption
    let⟨h,j,e⟩:=H.out;have l:mA g d.length f b i=Ú:=by rw[e];simp[N,O,p]
    go_ret;rw[l];refine⟨U,amb ok h M U ?_⟩;exact kp
def ru(s:St)(y:Nat)(q p:Int):Int×St:=
 if(s y).fB<p then(0,s)else(1,(s.fB y<|(s y).fB-p).fB (q%8).toNat<|wu<|(s.fB y ((s y).fB-p) (q%8).toNat).fB+p)
def zV(E:iZ)(e:Nat)(c:RC)(a b:È)(g:List Int)(s:St)(d:List (Nat×Int))(w:É)(h:St)(f:É):Prop:=
 R E e c a b g h d f/\Tr E e a b d.length w a b d.length f
section
variable{E:iZ}{rb:Nat}{c:RC}{sv lv:È}{s d f:St}{a:List (Nat×Int)}
def zV.fP(h:R E rb c sv lv zQ s a w)(k:fe fh w u):zV E rb c sv lv zQ s a w s u:=⟨h.fP k,Tr.fP k⟩
def zV.fB(ok:E.Ok)(h:zV E rb c sv lv zQ s a w d W)(e:i<8)(x:Int):zV E rb c sv lv zQ s a w (d.fB i x) (W.setCell ⟨E.r,i*18,Ä⟩<|Â Æ x):=by let⟨b,f⟩:=h;let⟨g,j⟩:=b.S ok (i*18)<|b.C.zU e x;exact⟨g,f.fi j⟩
end
def amc(E:iZ)(ok:E.Ok)(d:Nat)(c:RC)(f g:È)(i:List Int)(s:St)(j:List (Nat×Int))(w:É)(h:R E d c f g i s j w)(q p:Int)(n:0<=q)(o:q<18446744073709551616)(r:0<=p)(t:p<18446744073709551616)(a:c.y<8)(u:0<=(s c.y).fB)(v:(s c.y).fB<18446744073709551616): Ò À 209 #[Å<|Ã ⟨d,0,Ä⟩,Â Æ q,Â Æ p] w λe k=>e=Ç (Â Æ (ru s c.y q p).1)/\zV E d c f g i s j w (ru s c.y q p).2 k:=by
 have x:=h.r.r 0 _ U;have z:=h.r.r 2 _ U;have B:=h.r.M;have C:=fj.M h.C;have D:=h.C.fB a;have F:=fj.C h.C<|c.y*18;have k:(q%8).toNat<8:=Z
 have H:=fg h;by_cases l:(s c.y).fB<p
 .have e:ru s c.y q p=(0,s):=by unfold ru;rw[if_pos l]
  rw[e];generalize(s c.y).fB=b at*;generalize c.y=y at*;go_enter ah,η;go_wp2;go_quiet (fail);go_wp2;go_ret;refine⟨U,zV.fP H.out ?_⟩;exact kp
 .have e:ru s c.y q p=(1,(s.fB c.y<|(s c.y).fB-p).fB (q%8).toNat<|wu<|(s.fB c.y ((s c.y).fB-p) (q%8).toNat).fB+p):=by unfold ru;rw[if_neg l]
  rw[e];have G:=λm=>((h.fP<|fe.iV _ w m).C.zU a<|(s c.y).fB-p).fB k;have I:∀m,((w.drewN m).setCell ⟨E.r,c.y*18,Ä⟩<|Â Æ<|(s c.y).fB-p).frozen? ⟨E.r,(q%8).toNat*18,Ä⟩=Ï:=λm=>fj.C ((h.fP<|fe.iV _ w m).C.zU a<|(s c.y).fB-p) _;generalize(s.fB c.y ((s c.y).fB-p) (q%8).toNat).fB=b2 at*;generalize(s c.y).fB=b at*;go_enter ah,η;go_wp2;go_quiet (fail);go_wp2;go_ret;refine⟨U,((zV.fP H.out ?_).fB ok a _).fB ok k _⟩;exact kp
def kT(E:iZ)(rb:Nat)(sv lv:È)(n:Nat)(w:É)(c:RC)(f:List Int)(s:St)(a:List (Nat×Int))(b:É):Prop:=
 ∃d e,R E rb c d e f s a b/\Tr E rb sv lv n w d e a.length b
section
variable{E:iZ}{rb:Nat}{c a:RC}{sv lv:È}{w':É}{b:List Int}{s d:St}{ls f:List (Nat×Int)}{p:Int}
def R.jZ(h:R E rb c sv lv zQ s ls w):kT E rb sv lv ls.length w c zQ s ls w:=⟨sv,lv,h,Tr.gd _ _ _ _ _ _⟩
def nL(ok:E.Ok)(h:R E rb c sv lv (zQ++[p]) s ls w)(g:zQ.length<=900):Ò À 204 #[Å<|Ã ⟨rb,0,Ä⟩] w λe w'=>e=Ç (Â Æ p)/\ ∃a,R E rb c a lv zQ s ls w'/\Tr E rb sv lv ls.length w a lv ls.length w':=by have b:=h.I;rw[show pM (zQ++[p])=pM zQ++[qu p] by simp[pM],show(zQ++[p]).length=zQ.length+1 by simp]at b;refine(Mi E.r rb c sv 0 zQ p w h.r b Z).mono ?_;rintro e w' ⟨rfl,a,rfl,d,f⟩;exact⟨U,a,h.N ok 6 U d λj q=>by rwa[<-f]⟩
def zW(ok:E.Ok)(h:R E rb c sv lv zQ s ls w)(i:zQ.length<=900)(x:Int):Ò À 203 #[Å<|Ã ⟨rb,0,Ä⟩,Ê (Ã ⟨w.heap.size,0,Ä⟩) 1 1] (w.alloc<|Ð #[Â Æ x] 36) λe w'=>e=Ç (æ #[])/\ ∃b,R E rb c b lv (zQ++[x]) s ls w'/\Tr E rb sv lv ls.length w b lv ls.length w':=by have k:=fe.gL fh w #[Â Æ x] 36;have d:=h.fP k;refine(Q_ E.r rb c sv 0 (pM zQ) zQ.length w.heap.size 1 1 [Â Æ x] _ d.r d.I Z Z U (ÿ _ _ _) (λa f=>by simp at f;subst f;rfl)<|â _).mono ?_;rintro e w' ⟨rfl,b,u,a,rfl⟩;let⟨f,g⟩:=d.Y ok (ns:=[x]) U a;exact⟨U,b,f,(Tr.fP k).fi g⟩
def To(ok:E.Ok)(h:R E rb c sv lv zQ s ls w)(i:zQ.length<=900)(x y:Int):Ò À 203 #[Å<|Ã ⟨rb,0,Ä⟩,Ê (Ã ⟨w.heap.size,0,Ä⟩) 2 2] (w.alloc<|Ð #[Â Æ x,Â Æ y] 36) λe w'=>e=Ç (æ #[])/\ ∃b,R E rb c b lv (zQ++[x,y]) s ls w'/\Tr E rb sv lv ls.length w b lv ls.length w':=by have k:=fe.gL fh w #[Â Æ x,Â Æ y] 36;have d:=h.fP k;refine(Q_ E.r rb c sv 0 (pM zQ) zQ.length w.heap.size 2 2 [Â Æ x,Â Æ y] _ d.r d.I Z Z U (ŵ _ _ _ _) (λa f=>by simp at f;rcases f with rfl|rfl<;>rfl)<|â _).mono ?_;rintro e w' ⟨rfl,b,u,a,rfl⟩;let⟨f,g⟩:=d.Y ok (ns:=[x,y]) U a;exact⟨U,b,f,(Tr.fP k).fi g⟩
end
structure iy(E:iZ)(lv:È)(n:Nat)(w:É)(s:St)(ls:List (Nat×Int))(w':É)(jF:È):Prop where
 r:iF E.r E.T E.C s jF w'
 I:w'.ownsRow 0 257 2 jF ls.length (ku ls)
 C:fe (λk=>k=E.r\/lv.ownBlock=Ã k) w w'
 l:∀j,jF.ownBlock=Ã j->lv.ownBlock=Ã j\/w.heap.size<=j
 M:∀v0 n0 xW,w.ownsRow 0 257 2 v0 n0 xW->(v0.ownBlock=lv.ownBlock->n0<=n)->w'.ownsRow 0 257 2 v0 n0 xW/\(v0.ownBlock=jF.ownBlock->n0<=ls.length)
structure uU where
 r:Int
 C:Bool
 M:Int
 s:St
 I:List (Nat×Int)
abbrev me:=St->List (Nat×Int)->Nat->Nat->Int->Int->uU
def gp(n:Int):Prop:=0<=n/\n<18446744073709551616
def lH(c:Int):Nat:=
 if 48<=c/\c<=57 then 1 else if c=43 then 2 else if c=45 then 3 else if c=42 then 4 else if c=47 then 5 else if c=60 then 6 else if c=61 then 7
 else if c=100 then 8 else if c=120 then 9 else if c=112 then 10 else if c=107 then 11 else if c=99 then 12 else if c=121 then 13 else if c=98 then 14
 else if c=108 then 15 else if c=116 then 16 else if c=106 then 17 else if c=118 then 18 else if c=101 then 19 else if c=111 then 20 else if c=114 then 21 else if c=102 then 22 else 0
def ye(c:UInt8):Bool:=decide<|lH (c.toNat:Int)≠0
structure gM(s:St):Prop where
 fB:∀i,gp (s i).fB
 C:∀i j,gp<|(s i).C j
 I:∀i,(s i).r.size<=40/\∀c∈(s i).r.data.toList,ye c=Ú
def gk(l:List Int):Int:=l.getLastD 0
theorem Q'(l:List Int)(h:0<l.length):l=l.dropLast++[gk l]:=by
 have a:l≠[]:=by intro e;subst e;simp at h
 unfold gk;grind [List.dropLast_concat_getLast]
section
variable{E:iZ}{c:RC}{s:St}{a:List (Nat×Int)}{q r:Int}
def amd(ok:E.Ok)(b:R E i c x v (zQ++[h]) s a w)(k:zQ.length<=800)(l:c.y<8): Ò À 205 #[Å<|Ã ⟨i,0,Ä⟩,Â Ë 8] w λe H=>e=Ç (æ #[])/\kT E i x v a.length w c (zQ++[h,h]) s a H:=by have m:=b.r.r 0 _ U;have n:=b.r.r 2 _ U;have o:=b.r.M;have p:=fj.M b.C;have H:=fg b;go_enter ê,å;go_wp2_with fail;go_quiet (fail);go_wp2_with fail;go_at_call 204;refine(nL ok (H.out.fP<|fe.iV _ _ _) (by first|omega|(simp;omega))).mono ?_;rintro e q ⟨rfl,r,d,f⟩;go_wp2_with fail;go_at_call 203;refine(To ok d (by first|omega|(simp;omega)) _ _).mono ?_;rintro e t ⟨rfl,u,g,j⟩;go_wp2_with fail;go_end0;exact⟨U,_,_,g,(((Tr.fP<|fe.iV _ _ _).fi f).fi j)⟩
def ame(ok:E.Ok)(b:R E i c x v ((zQ++[h])++[q]) s a w)(m:zQ.length<=800)(n:c.y<8): Ò À 205 #[Å<|Ã ⟨i,0,Ä⟩,Â Ë 9] w λe H=>e=Ç (æ #[])/\kT E i x v a.length w c (zQ++[q,h]) s a H:=by have o:=b.r.r 0 _ U;have p:=b.r.r 2 _ U;have r:=b.r.M;have t:=fj.M b.C;have H:=fg b;go_enter ê,å;go_wp2_with fail;go_quiet (fail);go_wp2_with fail;go_at_call 204;refine(nL ok (H.out.fP<|fe.iV _ _ _) (by first|omega|(simp;omega))).mono ?_;rintro e u ⟨rfl,z,d,f⟩;go_wp2_with fail;go_at_call 204;refine(nL ok d (by first|omega|(simp;omega))).mono ?_;rintro e B ⟨rfl,C,g,j⟩;go_wp2_with fail;go_at_call 203;refine(To ok g (by first|omega|(simp;omega)) _ _).mono ?_;rintro e D ⟨rfl,F,k,l⟩;go_wp2_with fail;go_end0;exact⟨U,_,_,k,((((Tr.fP<|fe.iV _ _ _).fi f).fi j).fi l)⟩
def amf(ok:E.Ok)(b:R E i c x v (zQ++[h]) s a w)(g:zQ.length<=800)(j:c.y<8): Ò À 205 #[Å<|Ã ⟨i,0,Ä⟩,Â Ë 10] w λe H=>e=Ç (æ #[])/\kT E i x v a.length w c zQ s a H:=by have k:=b.r.r 0 _ U;have l:=b.r.r 2 _ U;have m:=b.r.M;have n:=fj.M b.C;have H:=fg b;go_enter ê,å;go_wp2_with fail;go_quiet (fail);go_wp2_with fail;go_at_call 204;refine(nL ok (H.out.fP<|fe.iV _ _ _) (by first|omega|(simp;omega))).mono ?_;rintro e o ⟨rfl,p,d,f⟩;go_wp2_with fail;go_end0;exact⟨U,_,_,d,((Tr.fP<|fe.iV _ _ _).fi f)⟩
def amg(ok:E.Ok)(h:R E i c x v zQ s a w)(f:zQ.length<=800)(g:c.y<8): Ò À 205 #[Å<|Ã ⟨i,0,Ä⟩,Â Ë 11] w λe H=>e=Ç (æ #[])/\kT E i x v a.length w c (zQ++[c.k]) s a H:=by have j:=h.r.r 0 _ U;have l:=h.r.r 2 _ U;have m:=h.r.M;have n:=fj.M h.C;have o:=h.r.r 3 _ U;have H:=fg h;go_enter ê,å;go_wp2_with fail;go_quiet (fail);go_wp2_with fail;go_at_call 203;refine(zW ok (H.out.fP<|fe.iV _ _ _) (by first|omega|(simp;omega)) _).mono ?_;rintro e p ⟨rfl,q,b,d⟩;go_wp2_with fail;go_end0;exact⟨U,_,_,b,((Tr.fP<|fe.iV _ _ _).fi d)⟩
def amh(ok:E.Ok)(h:R E i c x v zQ s a w)(f:zQ.length<=800)(g:c.y<8)(j:c.x<8): Ò À 205 #[Å<|Ã ⟨i,0,Ä⟩,Â Ë 12] w λe H=>e=Ç (æ #[])/\kT E i x v a.length w c (zQ++[(c.x:Int)]) s a H:=by have k:=h.r.r 0 _ U;have l:=h.r.r 2 _ U;have m:=h.r.M;have n:=fj.M h.C;have o:=h.r.r 1 _ U;have H:=fg h;go_enter ê,å;go_wp2_with fail;go_quiet (fail);go_wp2_with fail;go_at_call 203;refine(zW ok (H.out.fP<|fe.iV _ _ _) (by first|omega|(simp;omega)) _).mono ?_;rintro e p ⟨rfl,q,b,d⟩;go_wp2_with fail;go_end0;exact⟨U,_,_,b,((Tr.fP<|fe.iV _ _ _).fi d)⟩
def ami(ok:E.Ok)(h:R E i c x v zQ s a w)(f:zQ.length<=800)(g:c.y<8): Ò À 205 #[Å<|Ã ⟨i,0,Ä⟩,Â Ë 13] w λe H=>e=Ç (æ #[])/\kT E i x v a.length w c (zQ++[(c.y:Int)]) s a H:=by have j:=h.r.r 0 _ U;have k:=h.r.r 2 _ U;have l:=h.r.M;have m:=fj.M h.C;have H:=fg h;go_enter ê,å;go_wp2_with fail;go_quiet (fail);go_wp2_with fail;go_at_call 203;refine(zW ok (H.out.fP<|fe.iV _ _ _) (by first|omega|(simp;omega)) _).mono ?_;rintro e n ⟨rfl,o,b,d⟩;go_wp2_with fail;go_end0;exact⟨U,_,_,b,((Tr.fP<|fe.iV _ _ _).fi d)⟩
def amj(ok:E.Ok)(h:R E i c x v zQ s a w)(g:zQ.length<=800)(b:c.y<8): Ò À 205 #[Å<|Ã ⟨i,0,Ä⟩,Â Ë 14] w λe H=>e=Ç (æ #[])/\kT E i x v a.length w c (zQ++[(s c.y).fB]) s a H:=by have j:=h.r.r 0 _ U;have k:=h.r.r 2 _ U;have l:=h.r.M;have m:=fj.M h.C;have n:=h.C.fB b;have H:=fg h;go_enter ê,å;go_wp2_with fail;go_quiet (fail);go_wp2_with fail;go_at_call 203;refine(zW ok (H.out.fP<|fe.iV _ _ _) (by first|omega|(simp;omega)) _).mono ?_;rintro e o ⟨rfl,p,d,f⟩;go_wp2_with fail;go_end0;exact⟨U,_,_,d,((Tr.fP<|fe.iV _ _ _).fi f)⟩
def amk(ok:E.Ok)(b:R E i c x v (zQ++[h]) s a w)(o:zQ.length<=800)(g:c.y<8)(d:gp h): Ò À 205 #[Å<|Ã ⟨i,0,Ä⟩,Â Ë 15] w λe f=>e=Ç (æ #[])/\kT E i x v a.length w c (zQ++[(s c.y).C (h%16).toNat]) s a f:=by have p:=b.r.r 0 _ U;have q:=b.r.r 2 _ U;have r:=b.r.M;have t:=fj.M b.C;have H:=fg b;go_enter ê,å;go_wp2_with fail;go_quiet (fail);go_wp2_with fail;go_at_call 204;refine(nL ok (H.out.fP<|fe.iV _ _ _) (by first|omega|(simp;omega))).mono ?_;rintro e u ⟨rfl,z,f,k⟩;have B:=f.C.O_ g (j:=(h%16).toNat) Z;have C:=d.1;have D:=d.2;go_wp2_with fail;go_at_call 208;refine(P_ E.r (c.y*18) h d.1 d.2 _).mono ?_;rintro e l ⟨rfl,F⟩;subst l;go_wp2_with fail;go_at_call 203;refine(zW ok f (by first|omega|(simp;omega)) _).mono ?_;rintro e G ⟨rfl,I,m,n⟩;go_wp2_with fail;go_end0;exact⟨U,_,_,m,(((Tr.fP<|fe.iV _ _ _).fi k).fi n)⟩
def aml(ok:E.Ok)(b:R E i c x v ((zQ++[h])++[q]) s a w)(r:zQ.length<=800)(g:c.y<8)(d:gp q): Ò À 205 #[Å<|Ã ⟨i,0,Ä⟩,Â Ë 16] w λe f=>e=Ç (æ #[])/\kT E i x v a.length w c zQ (s.r c.y (q%16).toNat h) a f:=by have t:=b.r.r 0 _ U;have u:=b.r.r 2 _ U;have z:=b.r.M;have B:=fj.M b.C;have H:=fg b;go_enter ê,å;go_wp2_with fail;go_quiet (fail);go_wp2_with fail;go_at_call 204;refine(nL ok (H.out.fP<|fe.iV _ _ _) (by first|omega|(simp;omega))).mono ?_;rintro e C ⟨rfl,D,k,l⟩;go_wp2_with fail;go_at_call 204;refine(nL ok k (by first|omega|(simp;omega))).mono ?_;rintro e F ⟨rfl,G,f,m⟩;have I:=f.C.O_ g (j:=(q%16).toNat) (by have:=d.1;omega);have J:=fj.C f.C<|c.y*18+2+(q%16).toNat;go_wp2_with fail;go_at_call 208;refine(P_ E.r (c.y*18) q d.1 d.2 _).mono ?_;rintro e n ⟨rfl,K⟩;subst n;go_wp2_with fail;go_end0;let⟨o,p⟩:=f.S ok (c.y*18+2+(q%16).toNat) (f.C.Tl g (by have:=d.1;omega) h);exact⟨U,_,_,o,(((Tr.fP<|fe.iV _ _ _).fi l).fi m).fi p⟩
def amm(ok:E.Ok)(b:R E i c x v ((zQ++[h])++[q]) s a w)(u:zQ.length<=800)(j:c.y<8)(d:gp h)(f:gp q)(g:gM s): Ò À 205 #[Å<|Ã ⟨i,0,Ä⟩,Â Ë 18] w λe H=>e=Ç (æ #[])/\kT E i x v a.length w c (zQ++[(ru s c.y q h).1]) (ru s c.y q h).2 a H:=by have z:=b.r.r 0 _ U;have B:=b.r.r 2 _ U;have C:=b.r.M;have D:=fj.M b.C;have H:=fg b;go_enter ê,å;go_wp2_with fail;go_quiet (fail);go_wp2_with fail;go_at_call 204;refine(nL ok (H.out.fP<|fe.iV _ _ _) (by first|omega|(simp;omega))).mono ?_;rintro e F ⟨rfl,G,k,l⟩;go_wp2_with fail;go_at_call 204;refine(nL ok k (by first|omega|(simp;omega))).mono ?_;rintro e I ⟨rfl,J,m,n⟩;go_wp2_with fail;go_at_call 209;refine(amc E ok i c _ v _ s a _ m q h f.1 f.2 d.1 d.2 j (g.fB _).1 (g.fB _).2).mono ?_;rintro e K ⟨rfl,o,p⟩;go_wp2_with fail;go_at_call 203;refine(zW ok o (by first|omega|(simp;omega)) _).mono ?_;rintro e L ⟨rfl,M,r,t⟩;go_wp2_with fail;go_end0;exact⟨U,_,_,r,(((((Tr.fP<|fe.iV _ _ _).fi l).fi n).fi p).fi t)⟩
def amn{k:Int}(ok:E.Ok)(b:R E i c x v ((zQ++[h])++[q]) s a w)(r:zQ.length<=800)(t:c.y<8)(d:gp h)(f:gp q)(u:2<=k)(z:k<=7): Ò À 205 #[Å<|Ã ⟨i,0,Ä⟩,Â Ë k] w λe H=>e=Ç (æ #[])/\kT E i x v a.length w c (zQ++[yd k h q]) s a H:=by
 have B:=b.r.r 0 _ U;have C:=b.r.r 2 _ U;have D:=b.r.M;have F:=fj.M b.C;have G:(k==8)=Ï:=by rw[beq_eq_false_iff_ne];omega
 have I:(k==9)=Ï:=by rw[beq_eq_false_iff_ne];omega
 have J:(k==10)=Ï:=by rw[beq_eq_false_iff_ne];omega
 have K:(k==11)=Ï:=by rw[beq_eq_false_iff_ne];omega
 have L:(k==12)=Ï:=by rw[beq_eq_false_iff_ne];omega
 have M:(k==13)=Ï:=by rw[beq_eq_false_iff_ne];omega
 have N:(k==14)=Ï:=by rw[beq_eq_false_iff_ne];omega
 have O:(k==15)=Ï:=by rw[beq_eq_false_iff_ne];omega
 have P:(k==16)=Ï:=by rw[beq_eq_false_iff_ne];omega
 have Q:(k==18)=Ï:=by rw[beq_eq_false_iff_ne];omega
 have S:(k==19)=Ï:=by rw[beq_eq_false_iff_ne];omega
 have T:(k==20)=Ï:=by rw[beq_eq_false_iff_ne];omega
 have H:=fg b;go_enter ê,å;go_wp2_with fail;go_quiet (fail);go_wp2_with fail;go_at_call 204;refine(nL ok (H.out.fP<|fe.iV _ _ _) (by first|omega|(simp;omega))).mono ?_;rintro e V ⟨rfl,W,g,j⟩;go_wp2_with fail;go_at_call 204;refine(nL ok g (by first|omega|(simp;omega))).mono ?_;rintro e X ⟨rfl,Y,l,m⟩;go_wp2_with fail;go_at_call 211;refine(al4 k h q d.1 d.2 f.1 f.2 _).mono ?_;rintro e n ⟨rfl,uO⟩;subst n;go_wp2_with fail;go_at_call 203;refine(zW ok l (by first|omega|(simp;omega)) _).mono ?_;rintro e w4 ⟨rfl,sv4,o,p⟩;go_wp2_with fail;go_end0;exact⟨U,_,_,o,((((Tr.fP<|fe.iV _ _ _).fi j).fi m).fi p)⟩
end
def Mk{P:Program}{ops:Array Oper}{o:Oper}{a:Act}{w:World}{K:Act->World->Prop}{Q:Exit->Act->World->Prop}{E:Prop}{base:Nat}{e:TypeId}{size n:Nat}{v:Value}{xs:List Value} (hg:o.guard=none) (s x:Operand) (t:TypeId) (pC:o.op=Op.call {callee:=Callee.builtin Builtin.append,args:=#[s,x],argTypes:=#[t,t]}) {i:TypeInfo} {z:Value} {bytes:Nat} (ht:P.underlying t=some (.slice e)) (hi:P.info? e=some i) (hz:i.zero=some z) (xY:i.size=size) (xZ:i.bytes=bytes) (se:z.cells.size=size) (hs:a.eval s=v) (lO:w.ownsRow base e size v n xs) (ad:Addr) {m c:Nat} (news:List Value) (hx:a.eval x=.slice (some ad) m c) (hm:0<m) (hl:news.length=m*size) (Tg:∀j u,news[j]?=some u->w.cell? (ad.add j)=some u) (h1:∀u∈news,u.oneCell'=true) (Cl:n+m<=maxLen) (Cm:(n+m)*bytes<=140737488355328) (Cj:base<=w.heap.size) (h:∀v' w',qt w base e size v n xs m news v' w'->K (a.put o.dst v') w') (hfl:my e=false\/(0<news.length/\(∀u∈xs++news,kt u=true)/\∀u∈z.cells.toList,kt u=true):=by first|exact Or.inl (by decide)|exact Or.inr ⟨by simp,by simp[kt],by simp[kt,Value.cells]⟩): if Region.wanted o (yielded ops a.tmps)=true then Oper.wp P o a w K Q else E:=by
 have hw:Ĝ o (ai ops a.tmps)=Ú:=by simp[Ĝ,hg]
 rw[if_pos hw];let⟨v',w',hr,h2⟩:=Td (ty:=o.type) ht hi hz xY xZ se lO ad c news hm hl Tg h1 Cl Cm Cj hfl;unfold Ń;simp[Ĥ,pC,ae,aP,ag,hs,hx,hr,į];exact h v' w' h2
def amo:(À.info? 257).map (λi=>(i.zero,i.size,i.bytes))=Ã (Ã<|Ē #[Â Ë 0,Â Æ 0],2,16):=fw
def R_(b:List (Nat×Int)):∀u∈ku b,kt u=Ú:=λu a=>by unfold ku at a;let⟨e,_,h⟩:=Β.1 a;simp[Ti,qu]at h;rcases h with rfl|rfl<;>rfl
section
variable{E:iZ}{c:RC}{g d:È}{s:St}{ls:List (Nat×Int)}{p:Int}
theorem R.amq(ok:E.Ok)(h:R E k c g jQ zQ s ls w)(a:qt w 0 257 2 jQ ls.length (ku ls) 1 [Â Ë b,Â Æ p] d W): (R E k c g jQ zQ s ls W/\W.ownsRow 0 257 2 d (ls++[(b,p)]).length (ku<|ls++[(b,p)]))/\ R E k c g d zQ s (ls++[(b,p)]) (W.setCell ⟨E.r,144,Ä⟩ d)/\Tr E k g jQ ls.length w g d (ls++[(b,p)]).length (W.setCell ⟨E.r,144,Ä⟩ d):=by
 have m:∀{i:Nat} {o:Array È} {T:õ},jQ.ownBlock=Ã i->w.heap[i]?=Ã (Ð o T (0,0))->T=257:=λ{i o T} q hc=>by let⟨l,e⟩:=mb h.M q;grind
 have f:R E k c g jQ zQ s ls W:=⟨h.r.I a.r λq=>absurd (m q h.r) A,ik h.I a.r (λj q r=>by let⟨l,e⟩:=mb h.I q;exact absurd (m r e) A),h.C.I a.r λq=>ok.r<|m q h.C,a.I _ _ _ h.M λ_=>Þ _⟩;have n:W.ownsRow 0 257 2 d (ls++[(b,p)]).length (ku<|ls++[(b,p)]):=by have:=a.ft;rwa[show ku ls++[Â Ë b,Â Æ p]=ku (ls++[(b,p)]) by simp[ku,Ti,qu],show ls.length+1=(ls++[(b,p)]).length by simp]at this
 have l:=fe.I (X:=λe=>e=E.r) (p:=⟨E.r,144,Ä⟩) U d<|Ù<|fj.G f.C ok.C;refine⟨⟨f,n⟩,⟨f.r.I l (fj.S f.C f.r ok.I).symm,ik f.I l λj q r=>jG f.I f.C ok.M.symm (by rw[q,r]),f.C.al0 d,ik n l λj q r=>jG n f.C ok.r.symm<|by rw[q,r]⟩,?_,λj q=>Ø q,λj q=> ?_,λv x y t z=> ?_⟩
 .refine(a.r.S λe _ q=>Ù<|Ù<|Ù q).C l λi _ q=>Ø q
 .rcases a.C with e|e;all_goals grind
 .have u:=a.I v x y t z;refine⟨ik u l λj q r=>jG u f.C ok.r.symm (by rw[q,r]),λq=> ?_⟩;rcases a.C with e|e
  .grind
  .rw[e]at q;have:=(t.lt _ q).2;omega
end
def gu{f:(Nat->Value)->Act}(a:Act)(h:a=f (λn=>a.tmps.getD n undef):=by rfl):∃u,a=f u:=⟨_,h⟩
section
variable{md:Ι}{ops:Array ş}{Q:aT->é->É->Prop}{S:É->Prop}{X:List Nat}
def o7(P:aF)(md:Ι)(ops:Array ş)(Q:aT->é->É->Prop)(S:É->Prop)(X:List Nat):Nat->Array Bool->é->É->Prop
 |0,listed,a,w=>Ā md ops listed=[]/\Q .normal a w
 |fuel+1,listed,a,w=>(Ā md ops listed=[]->Q .normal a w)/\
  ∀i∈Ā md ops listed,wpOp P ops Q i (λc b=>(i∉X->S b)/\o7 P md ops Q S X fuel (listed.setIfInBounds i Ú) c b) a w
def R':∀(b:Nat) (listed:Array Bool) (a:é) (w:É),o7 P md ops Q S X b listed a w->wpAny P md ops Q b listed a w
 |0,_,_,_,h=>h
 |b+1,_,_,_,h=>⟨h.1,λi c=>wpOp_mono (λd e q=>R' b _ d e q.2)<|h.2 i c⟩
def sX(md:Ι)(ops:Array ş)(X:List Nat)(i:Nat):Bool:=X.all λx=>match ops[x]? with
 |some o=>o.after.toList.any λe=>ń md e&&e.on==i
 |none=>Ú
theorem amr{listed:Array Bool}(a:sX md ops X i=Ú)(c:ops[j]?=Ã o)(d:listed.getD i Ï=Ï)(f:∀e∈o.after,ń md e=Ú->listed.getD e.on Ï=Ú):j∉X:=by intro b;have g:=List.all_eq_true.1 a j b;grind
theorem ams{m:ş}(x:ops[i]?=Ã m)(y:∀(j:Nat) (o:ş) n b,ops[j]?=Ã o->o.op≠.select n b)(E:sX md ops X i=Ú) (F:∀c a w,Q (.panic c) (a.put m.dst v) w->Q (.panic c) a w): ∀(p:Nat) (d:Array Bool) (a:é) (w:É),(∀j g,ops[j]?=Ã g->j≠i->d.getD j Ú=Ï->(∀e∈g.after,ń md e=Ú->e.on≠i)->m.apart ops g=Ú)-> i∈Ā md ops d->YieldsIf P ops S m v a->S w->o7 P md ops Q S X p (d.setIfInBounds i Ú) (a.put m.dst v) w->o7 P md ops Q S X (p+1) d a w:=by
 have G:∀{d:Array Bool},i∈Ā md ops d->d.getD i Ï=Ï:=λ{d} l=>by have D:=(mem_ready.1 l).1;grind
 intro p
 induction p with
 |zero=>
  intro d a w _ l s r H;refine⟨λh=>absurd (h▸l) fq,λj t=> ?_⟩;by_cases f:j=i
  .subst f;exact s.wpOp x r ⟨λ_=>r,H⟩
  .exact absurd (H.1▸Ω t f) fq
 |succ p I=>
  intro d a w z l s r H;refine⟨λh=>absurd (h▸l) fq,λj t=> ?_⟩;by_cases f:j=i
  .subst f;exact s.wpOp x r ⟨λ_=>r,H⟩
  .let⟨B,g,u,J⟩:=mem_ready.1 t;have K:∀e∈g.after,ń md e=Ú->e.on≠i:=λe V W Y=>by
    grind
   refine wpOp_mono (λD L q=>⟨q.2.1,I (d.setIfInBounds j Ú) D L (λk M N O C T=>z k M N O ?_ T) (Ω l<|Ne.symm f) q.1 (q.2.1<|amr E u (G l) J) ?_⟩)<|wpOp_putIf u (z j g u f B K) (λn b=>y i m n b x) (λn b=>y j g n b u) F s<|H.2 j<|Ω t f
   .by_cases D:j=k
    .subst D;exact B
    .rwa[getD_set_ne Ú D]at C
   .rw[Array.setIfInBounds_comm _ _ f];exact q.2.2
def Iq{oi:ş}{listed:Array Bool}(b:ops[i]?=Ã oi) (d:Region.noSelect ops=Ú) (e:Region.free md ops listed i=Ú) (f:(Ā md ops listed).contains i=Ú) (g:sX md ops X i=Ú) (j:∀c y w,Q (.panic c) (y.put oi.dst v) w->Q (.panic c) y w) (k:S w) (l:YieldsIf P ops S oi v y) (h:o7 P md ops Q S X n (listed.setIfInBounds i Ú) (y.put oi.dst v) w):o7 P md ops Q S X (n+1) listed y w:= ams b (Region.noSelect_spec d) g j n listed y w (Region.free_spec b e) (by simpa using f) l k h
def amt{listed:Array Bool}(c:Ā md ops listed=[i])(e:ops[i]?=Ã o) (h:∀b:é->É->Prop,Shut (∀y w,(i∉X->S w)->o7 P md ops Q S X n (listed.setIfInBounds i Ú) y w->b y w)->if Ĝ o (ai ops y.tmps)=Ú then Ń P o y w b Q else b (y.put o.dst ā) w):o7 P md ops Q S X (n+1) listed y w:=by
 refine⟨λq=>absurd (c▸q) fq,λj d=> ?_⟩;rw[c]at d;have:j=i:=by simpa using d
 subst this;exact χ e λb f=>h b λy w g k=>f y w ⟨g,k⟩
def ix:List ş->Nat->Option ş
 |[],_=>Ä
 |o::_,0=>Ã o
 |_::l,n+1=>ix l n
def S_:∀{l:List ş} {i:Nat} {o:ş},ix l i=Ã o->l.toArray[i]?=Ã o
 |[],_,_,h=>by cases h
 |o::l,0,_,h=>by simpa[ix]using h
 |o::l,n+1,_,h=>by simpa using S_ (l:=l) h
def S'(h:ix ops.toList i=Ã o):ops[i]?=Ã o:=by simpa using S_ h
def tk{oi:Oper}{v:Value}{fuel:Nat}{listed:Array Bool}{a0 a a':Act}{w:World}(hS:S w)(i:Nat:=ops.size-1-fuel)(h:o7 P md ops Q S X fuel (listed.setIfInBounds i true) a' w) (h0:a0=a:=by(try simp only[Act.put,List.setIfInBounds_toArray,List.set_cons_zero,List.set_cons_succ]);rfl) (hi:ix ops.toList i=some oi:=by rfl) (hs:Region.noSelect ops=true:=by kernel_rfl) (hf:Region.free md ops listed i=true:=by kernel_rfl) (hr:(Region.ready md ops listed).contains i=true:=by kernel_rfl) (hw:sX md ops X i=true:=by kernel_rfl) (hQ:∀v c a w,Q (.panic c) (a.put oi.dst v) w->Q (.panic c) a w:=by exact λ_ _ _ _ h=>h) (hn:Region.wanted oi (yielded ops a.tmps)=true:=by rfl) (hy:∀w,S w->(execOp a.eval oi).run P w=.ok (.value v) w:=by intro w h;revert h;simp only[and_imp];intros;go_simp;try(with_reducible rfl)) (ha:a.put oi.dst v=a':=by(try simp only[Act.put,List.setIfInBounds_toArray,List.set_cons_zero,List.set_cons_succ]);rfl):o7 P md ops Q S X (fuel+1) listed a0 w:= h0▸Iq (S' hi) hs hf hr hw (hQ v) hS (Ø ⟨hn,hy⟩) (ha▸h)
def gE(i:Nat){o:Oper}{fuel:Nat}{listed:Array Bool}{a0 a:Act}{w:World} (h:∀K':Act->World->Prop,Shut (∀a w,(i∉X->S w)->o7 P md ops Q S X fuel (listed.setIfInBounds i true) a w->K' a w)->if Region.wanted o (yielded ops a.tmps)=true then Oper.wp P o a w K' Q else K' (a.put o.dst undef) w) (h0:a0=a:=by(try simp only[Act.put,List.setIfInBounds_toArray,List.set_cons_zero,List.set_cons_succ]);rfl) (hr:Region.ready md ops listed=[i]:=by kernel_rfl) (ho:ix ops.toList i=some o:=by rfl):o7 P md ops Q S X (fuel+1) listed a0 w:=h0▸amt hr (S' ho) h
def amu{oi oj:ş}{listed:Array Bool}(g:Ā md ops listed=[i,j])(h:ops[i]?=Ã oi)(l:ops[j]?=Ã oj) (m:∀b:é->É->Prop,Shut (∀y w,(i∉X->S w)->o7 P md ops Q S X n (listed.setIfInBounds i Ú) y w->b y w)->if Ĝ oi (ai ops y.tmps)=Ú then Ń P oi y w b Q else b (y.put oi.dst ā) w) (o:∀b:é->É->Prop,Shut (∀y w,(j∉X->S w)->o7 P md ops Q S X n (listed.setIfInBounds j Ú) y w->b y w)->if Ĝ oj (ai ops y.tmps)=Ú then Ń P oj y w b Q else b (y.put oj.dst ā) w):o7 P md ops Q S X (n+1) listed y w:=by
 refine⟨λq=>absurd (g▸q) fq,λk c=> ?_⟩;rw[g]at c;rcases List.mem_cons.1 c with rfl|c
 .exact χ h λb d=>m b λy w e f=>d y w ⟨e,f⟩
 .have:k=j:=by simpa using c
  subst this;exact χ l λb d=>o b λy w e f=>d y w ⟨e,f⟩
def mf{listed:Array Bool}(b:Ā md ops listed=[])(h:Q .normal y w):∀c,o7 P md ops Q S X c listed y w
 |0=>⟨b,h⟩
 |_+1=>⟨λ_=>h,by rw[b];simp⟩
def mC{id:Nat}(S:É->Prop)(X:List Nat)(b:P.follows .mixedOrders=Ú) (h:o7 P .any ops Q S X ops.size (ō ops.size Ï) y w.drew):(Code.region id ops Ú).wp P Q y w:= wp_region_any b<|R' _ _ _ _ h
end
section
variable{E:iZ}{c:RC}{s:St}{a:List (Nat×Int)}
def amv(ok:E.Ok)(b:R E i c x v (zQ++[h]) s a w)(G:zQ.length<=800)(I:c.y<8)(J:a.length<=1000000): Ò À 205 #[Å<|Ã ⟨i,0,Ä⟩,Â Ë 19] w λe u=>e=Ç (æ #[])/\kT E i x v a.length w c zQ s (a++[(c.y,h)]) u:=by
 have L:w.cell? ⟨i,0,Ä⟩=Ã (Å<|Ã ⟨E.r,0,Ä⟩):=b.r.r 0 _ U;have M:w.cell? ⟨i,2,Ä⟩=Ã (Â Ë c.y):=b.r.r 2 _ U;have N:=b.r.M;have O:=fj.M b.C;let⟨P,l,o,p,r⟩:=í amo;have j:=fg<|Á l<|Á o<|Á p r;have H:=fg b;clear b l o p r;go_enter ê,å;go_wp2_with fail;go_quiet (fail);go_wp2_with fail;have B:=fg<|Á ((H.out.fP<|(fe.iV _ _ nq).fi<|fe.fY _ _).r.r 0 _ rfl)<|Á ((H.out.fP<|(fe.iV _ _ nq).fi<|fe.fY _ _).r.r 2 _ rfl) (H.out.fP<|(fe.iV _ _ nq).fi<|fe.fY _ _).C.Cn;refine mC (λu=>u.cell? ⟨i,0,Ä⟩=Ã (Å<|Ã ⟨E.r,0,Ä⟩)/\u.cell? ⟨i,2,Ä⟩=Ã (Â Ë c.y)/\u.cell? ⟨E.r,144,Ä⟩=Ã v) [22] fw ?_;iterate 16 apply tk B.out
 refine gE 16 ?_;intro K d;go_simp;go_at_call 204;refine(nL ok (H.out.fP<|fe.iV _ _ _) Z).mono ?_;rintro e t ⟨rfl,Q,f,C⟩;dsimp only;refine d.out _ _ (λ_=>⟨f.r.r 0 _ U,f.r.r 2 _ U,f.C.Cn⟩) ?_;clear d K;refine gE 17 ?_;intro K d;go_simp;refine d.out _ _ (λ_=>⟨f.r.r 0 _ U,f.r.r 2 _ U,f.C.Cn⟩) ?_;clear d K;have g:=f.fP<|fe.gL fh t #[Â Ë c.y,Â Æ h] 257;refine gE 18 ?_;intro K d;go_simp;refine d.out _ _ (λ_=>⟨g.r.r 0 _ U,g.r.r 2 _ U,g.C.Cn⟩) ?_;clear d K;refine gE 19 ?_;intro K d;refine Mk (hfl:=Ù ⟨fq,λu k=>(ú.1 k).elim (R_ a u) (λq=>by simp at q;rcases q with rfl|rfl<;>rfl),by simp[kt,ğ]⟩) (base:=0) (n:=a.length) (xs:=ku a) (m:=1) fS _ _ 142 fS Tryz.underlying142 j.out.1 j.out.2.1 j.out.2.2.1 j.out.2.2.2 U fS g.M ⟨t.heap.size,0,Ä⟩ [Â Ë c.y,Â Æ h] fS Z U (ŵ _ _ _ _) (λu k=>by simp at k;rcases k with rfl|rfl<;>rfl) (by unfold Ą;omega) Z (â _) ?_;intro S T k;obtain⟨V,W,rfl⟩:=jl k.ft;let⟨⟨u,_⟩,D,F⟩:=g.amq ok k;refine d.out _ _ (λ_=>⟨u.r.r 0 _ U,u.r.r 2 _ U,u.C.Cn⟩) ?_;clear d K;have z:=u.C.Cn;have X:=fj.C u.C 144;refine gE 20 ?_;intro K d;go_simp;refine d.out _ _ (λ_=>⟨u.r.r 0 _ U,u.r.r 2 _ U,z⟩) ?_;clear d K;refine gE 21 ?_;intro K d;go_simp;refine d.out _ _ (λ_=>⟨u.r.r 0 _ U,u.r.r 2 _ U,z⟩) ?_;clear d K;refine gE 22 ?_;intro K d;go_simp;refine d.out _ _ (λq=>absurd fq q) ?_;clear d K;try simp only[ĵ,Õ,ã,ä]
 refine mf fw ?_ _;go_wp2_with fail;go_end0;exact⟨U,_,_,D,(((Tr.fP<|(fe.iV _ _ _).fi<|fe.fY _ _).fi C).fi<|Tr.fP<|fe.gL _ _ _ _).fi F⟩
end
structure RT where
 r:List Int
 s:St
 C:List (Nat×Int)
 g:Int
def ja(F:me)(c:RC)(t:RT)(q p k:Int):Int×Int×RT:=
 if c.d=4 then(0,0,t)else
  ((F t.s t.C c.y (q%8).toNat (min p t.g) k).M,yc (F t.s t.C c.y (q%8).toNat (min p t.g) k).C,
    {t with s:=(F t.s t.C c.y (q%8).toNat (min p t.g) k).s,C:=(F t.s t.C c.y (q%8).toNat (min p t.g) k).I,g:=t.g-(F t.s t.C c.y (q%8).toNat (min p t.g) k).r})
def gh(l:List Int):List Int:=l.dropLast
def oE(F:me)(c:RC)(a:Nat)(t:RT):RT:=
 if a=8 then{t with r:=gh t.r++[gk t.r,gk t.r]}
 else if a=9 then{t with r:=gh (gh t.r)++[gk t.r,gk<|gh t.r]}
 else if a=10 then{t with r:=gh t.r}
 else if a=11 then{t with r:=t.r++[c.k]}
 else if a=12 then{t with r:=t.r++[(c.x:Int)]}
 else if a=13 then{t with r:=t.r++[(c.y:Int)]}
 else if a=14 then{t with r:=t.r++[(t.s c.y).fB]}
 else if a=15 then{t with r:=gh t.r++[(t.s c.y).C (gk t.r%16).toNat]}
 else if a=16 then{t with r:=gh<|gh t.r,s:=t.s.r c.y (gk t.r%16).toNat (gk<|gh t.r)}
 else if a=18 then{t with r:=gh (gh t.r)++[(ru t.s c.y (gk t.r)<|gk<|gh t.r).1],s:=(ru t.s c.y (gk t.r)<|gk<|gh t.r).2}
 else if a=19 then{t with r:=gh t.r,C:=t.C++[(c.y,gk t.r)]}
 else if a=20 then
  {(ja F c t (gk t.r) (gk<|gh t.r)<|gk<|gh<|gh t.r).2.2 with r:=gh (gh<|gh t.r)++[(ja F c t (gk t.r) (gk<|gh t.r)<|gk<|gh<|gh t.r).1,(ja F c t (gk t.r) (gk<|gh t.r)<|gk<|gh<|gh t.r).2.1]}
 else{t with r:=gh (gh t.r)++[yd a (gk<|gh t.r)<|gk t.r]}
structure T_(ls:List (Nat×Int))(g:Int)(e:uU):Prop where
 C:0<=e.r
 r:e.r<=g
 N:gM e.s
 M:gp e.M
 I:(e.I.length:Int)<=ls.length+e.r
def qx(F:me):Prop:=∀s a x y g k,gM s->x<8->y<8->gp k->0<=g->g<=100000->(a.length:Int)+g<=1000000->T_ a g (F s a x y g k)
def tB(F:me)(d:Int):Prop:=∀(E:iZ),E.Ok->∀(s:St) (b:È) (a:List (Nat×Int)) (x y:Nat) (g k:Int) (w:É),iF E.r E.T E.C s b w->w.ownsRow 0 257 2 b a.length (ku a)->iP w->gM s->x<8->y<8->0<=g->g<=100000->gp k->(a.length:Int)+g<=1000000->
 Ò À 173 #[Å<|Ã ⟨E.r,0,Ä⟩,Â Ë x,Â Ë y,Â Æ g,Â Æ k,Â Ë d] w λe c=>
  e=Ç (Ē #[Â Æ (F s a x y g k).r,Ñ (F s a x y g k).C,Â Æ (F s a x y g k).M])/\∃f,iy E b a.length w (F s a x y g k).s (F s a x y g k).I c f
section
variable{E:iZ}{rb:Nat}{c:RC}{sv lv:È}{s b:St}{ls a:List (Nat×Int)}{q p:Int}
theorem R.yf(ok:E.Ok)(d:R E rb c sv lv zQ s ls w)(r:iy E lv ls.length w b a u v):R E rb c sv v zQ b a u/\Tr E rb sv lv ls.length w sv v a.length u:=by
 have g:∀{j:Nat} {i:Array È} {T:õ},w.heap[j]?=Ã (Ð i T (0,0))->T≠E.T->T≠257->¬(j=E.r\/lv.ownBlock=Ã j):=λ{j i T} f h1 h2=>by
  rintro(e|e)
  .rw[e,d.C]at f;grind
  .let⟨m,k⟩:=mb d.M e;grind
 refine⟨⟨d.r.I r.C<|g d.r ok.I.symm A,ik d.I r.C λj f=> ?_,r.r,r.I⟩,r.C.S λh _ q=>q.elim Ø λq=>Ù<|Ù<|Ù q,λj q=>Ø q,r.l,r.M⟩;let⟨m,k⟩:=mb d.I f;exact g k ok.M.symm A
def amw(ok:E.Ok)(a:R E rb c sv lv zQ s ls w)(b:c.d=4): Ò À 210 #[Å<|Ã ⟨rb,0,Ä⟩,Â Æ q,Â Æ p,Â Æ h] w λe u=>e=Ç (æ #[Â Æ 0,Â Æ 0])/\u=w:=by
 have e:w.cell? ⟨rb,4,Ä⟩=Ã (Â Ë 4):=by have:=a.r.r 4 (Â Ë c.d) U;rwa[b]at this
 go_enter aj,θ;go_wp2_with fail;go_ret2;exact⟨U,U⟩
end
section
variable{E:iZ}{c:RC}{w':É}{s f:St}{a l:List (Nat×Int)}{q p:Int}{F:me}
def amx(E:iZ)(n:Nat)(c:RC)(jQ x:È)(zQ:List Int)(a:List (Nat×Int))(w W:É)(r:uU)(w':É):Prop:=
 ∃z,iy E x a.length W r.s r.I w' z/\R E n c jQ z zQ r.s r.I w'/\Tr E n jQ x a.length w jQ z r.I.length w'
def amy(p g:Int):(if g<p then g else p)=min p g:=by rw[Int.min_def];split<;>split<;>omega
def Ir(a:0<=h)(b:h<9223372036854775808):Ë.wrap h=h:=by show(if(Ë.signed&&decide (h%(2^64:Int)≥(2^63:Int)))=Ú then h%(2^64:Int)-2^64 else h%(2^64:Int))=h;rw[(Int.emod_eq_of_lt a Z),if_neg];simp;omega
def amz{q:Int}(h:gp q):Ë.wrap (q.tmod 8)=((q%8).toNat:Int):=by
 rw[Int.tmod_eq_emod_of_nonneg h.1];have:Ë.wrap (q%8)=q%8:=by exact Ir Z Z
 rw[this];omega
def amA(a:0<=h)(b:h<4):Ë.wrap (h+1)=h+1:=by exact Ir Z Z
def vK(ok:E.Ok)(b:R E n c jQ x zQ s a w)(j:0<=c.d)(k:c.d<4)(hF:tB F (c.d+1))(l:iP w)(m:gM s)(o:c.y<8)(i:gp q)(t:gp p)(u:gp h)(C:0<=c.g)(D:c.g<=100000)(G:(a.length:Int)+c.g<=1000000)(W:É)(kW:fe fh w W): Ò À 173 #[Å<|Ã ⟨E.r,0,Ä⟩,Â Ë c.y,Â Ë<|Ë.wrap<|q.tmod 8,Â Æ<|min p c.g,Â Æ h,Â Ë<|Ë.wrap<|c.d+1] W λe w'=>
  e=Ç (Ē #[Â Æ (F s a c.y (q%8).toNat (min p c.g) h).r,Ñ (F s a c.y (q%8).toNat (min p c.g) h).C,Â Æ (F s a c.y (q%8).toNat (min p c.g) h).M])/\amx E n c jQ x zQ a w W (F s a c.y (q%8).toNat (min p c.g) h) w':=by
 have f:=b.fP kW;rw[amz i,amA j k];have H:=t.1;have I:=i.1;refine(hF E ok s x a c.y (q%8).toNat (min p c.g) h W f.C f.M (l.r kW id) m o Z Z Z u Z).mono ?_;rintro e w' ⟨rfl,z,r⟩;let⟨v,B⟩:=f.yf ok r;exact⟨U,z,r,v,(Tr.fP kW).fi B⟩
def amB{b:List È}(h:R E n c jQ x zQ s a w)(r:iy E x i (Č<|Ă w<|Ð b.toArray T) f l u z):fj w.heap.size b T u:=by
 refine fj.I (w:=Č<|Ă w<|Ð b.toArray T) (fj.N w b T) r.C ?_;rintro(e|e)
 .have:=fj.M h.C;omega
 .have:=(h.M.lt _ e).2;omega
def Tp{f:List È}{ki:È}(ok:E.Ok)(d:R E n c jQ x zQ s a u)(t:Tr E n ki z b w jQ x k u)(m:w.heap.size<=j)(e:fj j f 252 u)(i:Nat)(v:È): R E n c jQ x zQ s a (u.setCell ⟨j,i,Ä⟩ v)/\Tr E n ki z b w jQ x k (u.setCell ⟨j,i,Ä⟩ v)/\fj j (f.set i v) 252 (u.setCell ⟨j,i,Ä⟩ v):=by have g:fe (λh=>h=j) u (u.setCell ⟨j,i,Ä⟩ v):=fe.I (X:=λh=>h=j) (p:=⟨j,i,Ä⟩) U v<|Ù e.G;refine⟨d.ama ok e g,t.al9 g (λi q=>by omega) λi o q l=> ?_,e.fV i v⟩;unfold fj at e;rw[q,e]at l;cases l
def amC(ok:E.Ok)(f:R E n c jQ x zQ s a w)(pG:0<=c.d)(hd:c.d<4)(hF:tB F (c.d+1))(hI:qx F)(hr:iP w)(P:gM s)(hx:c.x<8)(hy:c.y<8)(Q:gp q)(S:gp p)(hk:gp h)(xu:0<=c.g)(wi:c.g<=100000)(hlen:(a.length:Int)+c.g<=1000000): Ò À 210 #[Å<|Ã ⟨n,0,Ä⟩,Â Æ q,Â Æ p,Â Æ h] w λe w'=>e=Ç (æ #[Â Æ (F s a c.y (q%8).toNat (min p c.g) h).M,Â Æ<|yc (F s a c.y (q%8).toNat (min p c.g) h).C])/\kT E n jQ x a.length w {c with g:=c.g-(F s a c.y (q%8).toNat (min p c.g) h).r} zQ (F s a c.y (q%8).toNat (min p c.g) h).s (F s a c.y (q%8).toNat (min p c.g) h).I w':=by
 have c0:w.cell? ⟨n,0,Ä⟩=Ã (Å<|Ã ⟨E.r,0,Ä⟩):=f.r.r 0 _ U;have c2:w.cell? ⟨n,2,Ä⟩=Ã (Â Ë c.y):=f.r.r 2 _ U;have c4:w.cell? ⟨n,4,Ä⟩=Ã (Â Ë c.d):=f.r.r 4 _ U;have c5:w.cell? ⟨n,5,Ä⟩=Ã (Â Æ c.g):=f.r.r 5 _ U;have gV:=f.r.M;have Lw:=fj.M f.C;have hq0:=Q.1;have BW:=Q.2;have U_:=S.1;have hp1:=S.2;have call:=vK ok f pG hd hF hr P hy Q S hk xu wi hlen;have T:=hI s a c.y (q%8).toNat (min p c.g) h P hy Z hk Z Z Z;have M:=T.C;have N:=T.r;clear T;generalize F s a c.y (q%8).toNat (min p c.g) h=r at*;have H:=fg<|Á f<|Á call<|Á M N;have Tq:(c.d==4)=Ï:=by rw[beq_eq_false_iff_ne];omega
 clear f hr P hlen call M N;go_enter aj,θ;go_wp2_with fail;have l:=fg<|Á ((H.out.1.fP<|fe.fY _ _).r.r 0 _ rfl)<|Á ((H.out.1.fP<|fe.fY _ _).r.r 2 _ rfl)<|Á ((H.out.1.fP<|fe.fY _ _).r.r 4 _ rfl)<|(H.out.1.fP<|fe.fY _ _).r.r 5 _ rfl;refine mC (λw'=>w'.cell? ⟨n,0,Ä⟩=Ã (Å<|Ã ⟨E.r,0,Ä⟩)/\w'.cell? ⟨n,2,Ä⟩=Ã (Â Ë c.y)/\w'.cell? ⟨n,4,Ä⟩=Ã (Â Ë c.d)/\w'.cell? ⟨n,5,Ä⟩=Ã (Â Æ c.g)) [25] fw ?_;iterate 16 apply tk l.out
 refine Iq (i:=16) (oi:={dst:=Ã 32,op:=aE {callee:=Go.Callee.builtin bn,args:=#[î 27,î 31],argTypes:=#[36,36]},type:=36,pos:= "run.go:186",after:=#[{on:=11,ground:=ï},{on:=15,ground:=ï}],guard:=Ä}) (v:=Â Æ<|min p c.g) U fw fw fw fw (λ_ _ _ f=>f) l.out (Ø ⟨fS,?amD⟩) ?avu
 case amD=>(intro w hSw;let⟨q0,q2,q4,q5⟩:=hSw;go_simp<;>rw[amy])
 apply tk l.out 17;apply tk l.out 18;apply tk l.out 19;apply tk l.out 20;apply tk l.out 21;apply tk l.out 22;refine amu (i:=23) (j:=24) (oi:={dst:=Ã 39,op:=aE {callee:=Go.Callee.value<|bh 173,args:=#[î 19,î 23,î 26,î 32,î 33,î 38],argTypes:=#[267,3,3,36,36,3]},type:=252,pos:= "run.go:186",after:=#[{on:=3,ground:=ï},{on:=7,ground:=ï},{on:=10,ground:=ï},{on:=16,ground:=ï},{on:=17,ground:=ï},{on:=22,ground:=ï}],guard:=Ä}) (oj:={dst:=Ã 10,op:=bj 252,type:=0,pos:= "run.go:186",after:=#[],guard:=Ä}) fw U U ?_ ?_
 .intro K k;go_simp;go_at_call 173;refine(H.out.2.1 _ kp).mono ?_;rintro e z ⟨rfl,zM,O,o,D⟩;dsimp only;refine k.out _ _ (λ_=>⟨o.r.r 0 _ U,o.r.r 2 _ U,o.r.r 4 _ U,o.r.r 5 _ U⟩) ?_;clear k K;have G:=o.fP<|fe.gL fh z #[Â Æ 0,Ñ Ï,Â Æ 0] 252;refine gE 24 ?_;intro K k;go_simp;refine k.out _ _ (λ_=>⟨G.r.r 0 _ U,G.r.r 2 _ U,G.r.r 4 _ U,G.r.r 5 _ U⟩) ?_;clear k K;refine gE 25 ?_;intro K k;go_simp;refine k.out _ _ (λq=>absurd fq q) ?_;clear k K;try simp only[ĵ,Õ,ã,ä]
  refine mf fw ?_ _;have V:=fe.gL fh z #[Â Æ r.r,Ñ r.C,Â Æ r.M] 252;have t:=o.fP V;have I:=D.fi<|Tr.fP V;have m:fj z.heap.size [Â Æ r.r,Ñ r.C,Â Æ r.M] 252 _:=fj.N z _ 252;generalize Ă z (Ð #[Â Æ r.r,Ñ r.C,Â Æ r.M] 252)=W at*;generalize z.heap.size=b at*;clear G V o D O;have v0:=m.r 0 _ U;have X:=m.r 1 _ U;have Y:=m.r 2 _ U;have z5:W.cell? ⟨n,5,Ä⟩=Ã (Â Æ c.g):=t.r.r 5 _ U;have y5:=t.r.C 5;have zl:=t.r.M;have zb:=m.M;have M:=H.out.2.2.1;have N:=H.out.2.2.2;have J:=fj.S t.r m A;have y1:=(Ij (w:=W) (i:=5) (u:=Â Æ<|c.g-r.r) J).trans X;have y2:=(Ij (w:=W) (i:=5) (u:=Â Æ<|c.g-r.r) J).trans Y;have C:=fg<|Á t I;clear t I m l;go_wp2_with fail;go_region;go_wp2_with fail;have l:=fg<|Á y1 y2;refine mC (λw'=>w'.cell? ⟨b,1,Ä⟩=Ã (Ñ r.C)/\w'.cell? ⟨b,2,Ä⟩=Ã (Â Æ r.M)) [] fw ?_;iterate 5 apply tk l.out
  refine gE 5 ?_;intro K k;go_simp;go_at_call 159;refine(Ip _ _).mono ?_;rintro e w2 ⟨rfl,rf⟩;subst w2;dsimp only;refine k.out _ _ (λ_=>l.out) ?_;clear k K;refine gE 6 ?_;intro K k;go_simp;refine k.out _ _ (λ_=>l.out) ?_;clear k K;refine gE 7 ?_;intro K k;go_simp;refine k.out _ _ (λ_=>l.out) ?_;clear k K;try simp only[ĵ,Õ,ã,ä]
  refine mf fw ?_ _;go_wp2_with fail;go_ret2;let⟨n1,n2⟩:=C.out.1.N ok 5 (v:=Â Æ<|c.g-r.r) (c':={c with g:=c.g-r.r}) (ki:=jQ) (ss':=zQ) U C.out.1.I λ_ q=>q;have L:=(fe.fY fh<|W.setCell ⟨n,5,Ä⟩<|Â Æ<|c.g-r.r).fi<|fe.fY fh _;exact⟨U,_,_,n1.fP L,(C.out.2.fi n2).fi<|Tr.fP L⟩
 .intro K k;go_simp;refine k.out _ _ (λ_=>⟨(H.out.1.fP<|((fe.fY _ _).fi<|fe.gL _ _ _ _)).r.r 0 _ U,(H.out.1.fP<|((fe.fY _ _).fi<|fe.gL _ _ _ _)).r.r 2 _ U,(H.out.1.fP<|((fe.fY _ _).fi<|fe.gL _ _ _ _)).r.r 4 _ U,(H.out.1.fP<|((fe.fY _ _).fi<|fe.gL _ _ _ _)).r.r 5 _ U⟩) ?_;clear k K;refine gE 23 ?_;intro K k;go_simp;go_at_call 173;refine(H.out.2.1 (Č<|Ă w<|Ð #[Â Æ 0,Ñ Ï,Â Æ 0] 252) kp).mono ?_;rintro e z ⟨rfl,zM,O,o,D⟩;dsimp only;refine k.out _ _ (λ_=>⟨o.r.r 0 _ U,o.r.r 2 _ U,o.r.r 4 _ U,o.r.r 5 _ U⟩) ?_;clear k K;have B:=amB H.out.1 O;have k0:=B.r 0 _ U;have k1:=B.r 1 _ U;have k2:=B.r 2 _ U;have f0:=B.C 0;have f1:=B.C 1;have f2:=B.C 2;refine gE 25 ?_;intro K k;go_simp;refine k.out _ _ (λq=>absurd fq q) ?_;clear k K;try simp only[ĵ,Õ,ã,ä]
  refine mf fw ?_ _;let⟨a1,a2,a3⟩:=Tp ok o D (Þ _) B 0<|Â Æ r.r;let⟨b1,b2,b3⟩:=Tp ok a1 a2 (Þ _) a3 1<|Ñ r.C;let⟨t,I,m⟩:=Tp ok b1 b2 (Þ _) b3 2<|Â Æ r.M;generalize ą (ą (ą z ⟨w.heap.size,0,Ä⟩<|Â Æ r.r) ⟨w.heap.size,1,Ä⟩<|Ñ r.C) ⟨w.heap.size,2,Ä⟩ (Â Æ r.M)=W at*;replace m:fj w.heap.size [Â Æ r.r,Ñ r.C,Â Æ r.M] 252 W:=m;clear a1 a2 a3 b1 b2 b3 B k0 k1 k2 f0 f1 f2 o D O;have v0:=m.r 0 _ U;have X:=m.r 1 _ U;have Y:=m.r 2 _ U;have z5:W.cell? ⟨n,5,Ä⟩=Ã (Â Æ c.g):=t.r.r 5 _ U;have y5:=t.r.C 5;have zl:=t.r.M;have zb:=m.M;have M:=H.out.2.2.1;have N:=H.out.2.2.2;have J:=fj.S t.r m A;have y1:=(Ij (w:=W) (i:=5) (u:=Â Æ<|c.g-r.r) J).trans X;have y2:=(Ij (w:=W) (i:=5) (u:=Â Æ<|c.g-r.r) J).trans Y;have C:=fg<|Á t I;clear t I m l;go_wp2_with fail;go_region;go_wp2_with fail;have l:=fg<|Á y1 y2;refine mC (λw'=>w'.cell? ⟨w.heap.size,1,Ä⟩=Ã (Ñ r.C)/\w'.cell? ⟨w.heap.size,2,Ä⟩=Ã (Â Æ r.M)) [] fw ?_;iterate 5 apply tk l.out
  refine gE 5 ?_;intro K k;go_simp;go_at_call 159;refine(Ip _ _).mono ?_;rintro e w2 ⟨rfl,rf⟩;subst w2;dsimp only;refine k.out _ _ (λ_=>l.out) ?_;clear k K;refine gE 6 ?_;intro K k;go_simp;refine k.out _ _ (λ_=>l.out) ?_;clear k K;refine gE 7 ?_;intro K k;go_simp;refine k.out _ _ (λ_=>l.out) ?_;clear k K;try simp only[ĵ,Õ,ã,ä]
  refine mf fw ?_ _;go_wp2_with fail;go_ret2;let⟨n1,n2⟩:=C.out.1.N ok 5 (v:=Â Æ<|c.g-r.r) (c':={c with g:=c.g-r.r}) (ki:=jQ) (ss':=zQ) U C.out.1.I λ_ q=>q;have L:=(fe.fY fh<|W.setCell ⟨n,5,Ä⟩<|Â Æ<|c.g-r.r).fi<|fe.fY fh _;exact⟨U,_,_,n1.fP L,(C.out.2.fi n2).fi<|Tr.fP L⟩
end
section
variable{E:iZ}{rb:Nat}{c:RC}{sv lv:È}{s i:St}{f j:List (Nat×Int)}{q p:Int}{F:me}
def pb(c:RC)(g:Int):RC:={c with g:=g}
def amE(ok:E.Ok)(a:R E rb c sv lv zQ s f w)(i:0<=c.d)(G:c.d<=4)(hF:c.d<4->tB F (c.d+1))(j:qx F)(k:iP w)(l:gM s)(m:c.x<8)(n:c.y<8)(o:gp q)(r:gp p)(v:gp h)(z:0<=c.g)(B:c.g<=100000)(C:(f.length:Int)+c.g<=1000000)(t:RT)(D:t=(ja F c ⟨zQ,s,f,c.g⟩ q p h).2.2): Ò À 210 #[Å<|Ã ⟨rb,0,Ä⟩,Â Æ q,Â Æ p,Â Æ h] w λe u=>e=Ç (æ #[Â Æ (ja F c ⟨zQ,s,f,c.g⟩ q p h).1,Â Æ (ja F c ⟨zQ,s,f,c.g⟩ q p h).2.1])/\kT E rb sv lv f.length w (pb c t.g) zQ t.s t.C u:=by
 subst D;by_cases b:c.d=4
 .have e:ja F c ⟨zQ,s,f,c.g⟩ q p h=(0,0,⟨zQ,s,f,c.g⟩):=by unfold ja;rw[if_pos b]
  rw[e];refine(amw ok a b).mono ?_;rintro e u ⟨rfl,rfl⟩;exact⟨U,a.jZ⟩
 .have e:ja F c ⟨zQ,s,f,c.g⟩ q p h=((F s f c.y (q%8).toNat (min p c.g) h).M,yc (F s f c.y (q%8).toNat (min p c.g) h).C,⟨zQ,(F s f c.y (q%8).toNat (min p c.g) h).s,(F s f c.y (q%8).toNat (min p c.g) h).I,c.g-(F s f c.y (q%8).toNat (min p c.g) h).r⟩):=by unfold ja;rw[if_neg b]
  rw[e];exact amC ok a i Z (hF Z) j k l m n o r v z B C
def amF(ok:E.Ok)(i:R E rb c sv lv (((zQ++[h])++[p])++[q]) s f w)(hn:zQ.length<=800)(o:0<=c.d)(r:c.d<=4)(hF:c.d<4->tB F (c.d+1))(v:qx F)(z:iP w)(B:gM s)(C:c.x<8)(D:c.y<8)(G:gp q)(I:gp p)(J:gp h)(K:0<=c.g)(L:c.g<=100000)(M:(f.length:Int)+c.g<=1000000)(t:RT)(N:t=(ja F c ⟨zQ,s,f,c.g⟩ q p h).2.2)(a b:Int)(j:a=(ja F c ⟨zQ,s,f,c.g⟩ q p h).1)(k:b=(ja F c ⟨zQ,s,f,c.g⟩ q p h).2.1): Ò À 205 #[Å<|Ã ⟨rb,0,Ä⟩,Â Ë 20] w λe u=>e=Ç (æ #[])/\kT E rb sv lv f.length w (pb c t.g) (zQ++[a,b]) t.s t.C u:=by have c0:=i.r.r 0 _ U;have c2:=i.r.r 2 _ U;have gV:=i.r.M;have Lw:=fj.M i.C;have H:=fg<|Á i<|Á z<|Á hF v;go_enter ê,å;go_wp2_with fail;go_quiet (fail);go_wp2_with fail;have O:=Tr.fP (E:=E) (rb:=rb) (sv:=sv) (lv:=lv) (n:=f.length)<|fe.iV fh w nq;have P:=H.out.1.fP<|fe.iV fh w nq;go_at_call 204;refine(nL ok P (by first|omega|(simp;omega))).mono ?_;rintro e w1 ⟨rfl,sv1,Q,S⟩;go_wp2_with fail;go_at_call 204;refine(nL ok Q (by first|omega|(simp;omega))).mono ?_;rintro e w2 ⟨rfl,Is,T,V⟩;go_wp2_with fail;go_at_call 204;refine(nL ok T (by first|omega|(simp;omega))).mono ?_;rintro e w3 ⟨rfl,Ts,W,X⟩;have l:=((O.fi S).fi V).fi X;go_wp2_with fail;go_at_call 210;refine(amE ok W o r H.out.2.2.1 H.out.2.2.2 (H.out.2.1.N ok H.out.1 l) B C D G I J K L M t N).mono ?_;rintro e w4 ⟨rfl,sv4,lv4,Y,t4⟩;rw[<-j,<-k];go_wp2_with fail;go_at_call 203;refine(To ok Y (by first|omega|(simp;omega)) _ _).mono ?_;rintro e w5 ⟨rfl,sv5,m,t5⟩;go_wp2_with fail;go_end0;rw[<-j,<-k]at m;exact⟨U,_,_,m,(l.fi t4).fi t5⟩
end
def tC(h:∀p∈zQ,gp p):gp (gk zQ):=by
 by_cases a:0<zQ.length
 .apply h _;rw[Q' zQ a];simp[gk]
 .have:zQ=[]:=ß Z;subst this;exact⟨A,A⟩
def pN(h:∀p∈zQ,gp p):∀p∈gh zQ,gp p:=λp a=>h p<|List.dropLast_subset zQ a
def qy(l:List Int):(gh l).length=l.length-1:=by simp[gh]
def yg(h:0<zQ.length):gh zQ++[gk zQ]=zQ:=(Q' zQ h).symm
theorem amG(F:me)(c:RC)(l b:List Int)(s:St)(a:List (Nat×Int))(g q p k:Int): (ja F c ⟨l,s,a,g⟩ q p k).1=(ja F c ⟨b,s,a,g⟩ q p k).1/\(ja F c ⟨l,s,a,g⟩ q p k).2.1=(ja F c ⟨b,s,a,g⟩ q p k).2.1/\(ja F c ⟨l,s,a,g⟩ q p k).2.2.s=(ja F c ⟨b,s,a,g⟩ q p k).2.2.s/\ (ja F c ⟨l,s,a,g⟩ q p k).2.2.C=(ja F c ⟨b,s,a,g⟩ q p k).2.2.C/\(ja F c ⟨l,s,a,g⟩ q p k).2.2.g=(ja F c ⟨b,s,a,g⟩ q p k).2.2.g:=by unfold ja;grind
section
variable{E:iZ}{rb:Nat}{c:RC}{sv lv:È}{s:St}{f:List (Nat×Int)}{F:me}
def amH(ok:E.Ok)(h:R E rb c sv lv zQ s f w)(Y:zQ.length<=700)(C:0<=c.d)(D:c.d<=4)(hF:c.d<4->tB F (c.d+1))(G:qx F)(H:iP w)(v:gM s)(z:c.x<8)(a:c.y<8)(r:∀p∈zQ,gp p)(I:0<=c.g)(J:c.g<=100000)(K:(f.length:Int)+c.g<=1000000) (k:Nat) (rv:2<=k) (qU:k<=20) (U':k≠17) (L B M:Int) (b:jd[k]?=Ã (L,B,M)) (Cp:B<=zQ.length) (t:RT) (N:t=oE F c k ⟨zQ,s,f,c.g⟩): Ò À 205 #[Å<|Ã ⟨rb,0,Ä⟩,Â Ë k] w λe i=>e=Ç (æ #[])/\kT E rb sv lv f.length w (pb c t.g) t.r t.s t.C i:=by
 subst N;have i:=tC r;have u:=tC<|pN r;have O:=tC<|pN<|pN r;have j:1<=zQ.length->R E rb c sv lv (gh zQ++[gk zQ]) s f w:=λq=>by rwa[yg Z]
 have l:2<=zQ.length->R E rb c sv lv ((gh (gh zQ)++[gk<|gh zQ])++[gk zQ]) s f w:=λq=>by rw[yg (by rw[qy];omega),yg Z];exact h
 have P:3<=zQ.length->R E rb c sv lv (((gh (gh<|gh zQ)++[gk<|gh<|gh zQ])++[gk<|gh zQ])++[gk zQ]) s f w:=λq=>by rw[yg (by rw[qy,qy];omega),yg (by rw[qy];omega),yg Z];exact h
 have m:zQ.length<=800:=Z
 have n:(gh zQ).length<=800:=by rw[qy];omega
 have o:(gh<|gh zQ).length<=800:=by rw[qy];omega
 have Q:(gh<|gh<|gh zQ).length<=800:=by rw[qy];omega
 have cases:(k=2\/k=3\/k=4\/k=5\/k=6\/k=7)\/k=8\/k=9\/k=10\/k=11\/k=12\/k=13\/k=14\/k=15\/k=16\/k=18\/k=19\/k=20:=Z
 rcases cases with hq|rfl|rfl|rfl|rfl|rfl|rfl|rfl|rfl|rfl|rfl|rfl|rfl
 .have S:2<=zQ.length:=by
   rcases hq with rfl|rfl|rfl|rfl|rfl|rfl<;>(simp[jd]at b;omega)
  have e:oE F c k ⟨zQ,s,f,c.g⟩=⟨gh (gh zQ)++[yd k (gk<|gh zQ)<|gk zQ],s,f,c.g⟩:=by rcases hq with rfl|rfl|rfl|rfl|rfl|rfl<;>rfl
  rw[e];exact amn ok (l S) o a u i Z Z
 .exact amd ok (j<|by simp[jd]at b;omega) n a
 .exact ame ok (l<|by simp[jd]at b;omega) o a
 .exact amf ok (j<|by simp[jd]at b;omega) n a
 .exact amg ok h m a
 .exact amh ok h m a z
 .exact ami ok h m a
 .exact amj ok h m a
 .exact amk ok (j<|by simp[jd]at b;omega) n a i
 .exact aml ok (l<|by simp[jd]at b;omega) o a i
 .exact amm ok (l<|by simp[jd]at b;omega) o a u i v
 .exact amv ok (j<|by simp[jd]at b;omega) n a Z
 .let⟨S,T,V,W,X⟩:=amG F c zQ (gh<|gh<|gh zQ) s f c.g (gk zQ) (gk<|gh zQ)<|gk<|gh<|gh zQ;have e:oE F c 20 ⟨zQ,s,f,c.g⟩=⟨gh (gh<|gh zQ)++[(ja F c ⟨zQ,s,f,c.g⟩ (gk zQ) (gk<|gh zQ)<|gk<|gh<|gh zQ).1,(ja F c ⟨zQ,s,f,c.g⟩ (gk zQ) (gk<|gh zQ)<|gk<|gh<|gh zQ).2.1],(ja F c ⟨zQ,s,f,c.g⟩ (gk zQ) (gk<|gh zQ)<|gk<|gh<|gh zQ).2.2.s,(ja F c ⟨zQ,s,f,c.g⟩ (gk zQ) (gk<|gh zQ)<|gk<|gh<|gh zQ).2.2.C,(ja F c ⟨zQ,s,f,c.g⟩ (gk zQ) (gk<|gh zQ)<|gk<|gh<|gh zQ).2.2.g⟩:=U;rw[e,S,T,V,W,X];exact amF ok (P<|by simp[jd]at b;omega) Q C D hF G H v z a i u O I J K _ U _ _ U U
end
def qz(c:Int)(w:É):Ò À 103 #[Â aU c] w λe a=>e=Ç (Â Ë<|lH c)/\a=w:=by
 go_enter Tryz.func103,Tryz.ntmps103;go_wp2;all_goals go_ret
 all_goals refine⟨EY ?_,U⟩
 all_goals simp only[beq_iff_eq,beq_eq_false_iff_ne,ne_eq]at*
 all_goals(try subst c)
 all_goals first|rfl|(unfold lH;simp[*];done)|(unfold lH;rw[if_neg Z];simp[*])
def kv:ŏ->Option ŏ
 |à c=>Ã c
 |.seq a b=>match kv a with
  |some c=>Ã c
  |none=>kv b
 |.block _ c=>kv c
 |.scope c=>kv c
 |.cond _ a b=>match kv a with
  |some c=>Ã c
  |none=>kv b
 |_=>Ä
noncomputable def uV:ŏ:=(Tryz.f191.body.bind kv).getD Ķ
def om(a:Nat)(P:ByteArray)(b:Int)(u:Nat->È):é:=⟨#[Å<|Ã ⟨a,0,Ä⟩,ā,Â Æ 0,Ñ Ï,Í P,Â Æ P.size,Â Æ b,u 7,u 8,u 9,u 10,u 11,u 12,u 13,u 14,u 15,u 16,u 17,u 18,u 19,u 20,u 21,u 22,u 23,u 24,u 25,u 26,u 27,u 28,u 29,u 30,u 31,u 32,u 33,u 34,u 35,u 36,u 37,u 38,u 39,u 40,u 41,u 42,u 43,u 44,u 45,u 46,u 47,u 48,u 49,u 50,u 51,u 52,u 53,u 54,u 55,u 56,u 57,u 58,u 59,u 60,u 61,u 62,u 63,u 64,u 65,u 66,u 67,u 68,u 69,u 70,u 71,u 72,u 73,u 74,u 75,u 76,u 77,u 78,u 79,u 80],[]⟩
def Cq(b:Nat)(P:ByteArray)(c:Int)(a:é):Prop:=∃u,a=om b P c u
def V_(a:Nat)(P:ByteArray)(v:Int)(b:Bool)(u:Nat->È):é:=⟨#[Å<|Ã ⟨a,0,Ä⟩,ā,Â Æ v,Ñ b,Í P,Â Æ P.size,u 6,u 7,u 8,u 9,u 10,u 11,u 12,u 13,u 14,u 15,u 16,u 17,u 18,u 19,u 20,u 21,u 22,u 23,u 24,u 25,u 26,u 27,u 28,u 29,u 30,u 31,u 32,u 33,u 34,u 35,u 36,u 37,u 38,u 39,u 40,u 41,u 42,u 43,u 44,u 45,u 46,u 47,u 48,u 49,u 50,u 51,u 52,u 53,u 54,u 55,u 56,u 57,u 58,u 59,u 60,u 61,u 62,u 63,u 64,u 65,u 66,u 67,u 68,u 69,u 70,u 71,u 72,u 73,u 74,u 75,u 76,u 77,u 78,u 79,u 80],[]⟩
def EZ(c:Nat)(P:ByteArray)(v:Int)(b:Bool)(a:é):Prop:=∃u,a=V_ c P v b u
def QQ(X:é->É->Prop):aT->é->É->Prop
 |.exit 0,a,w=>X a w
 |_,_,_=>False
section
variable{X:é->É->Prop}{E:iZ}{c:RC}{s:St}{f:List (Nat×Int)}{F:me}
def amI(ok:E.Ok)(u:Nat->È)(b:R E i c z x zQ s f w)(j:B.size<=40)(e:h=B.size) (g:∀a d,EZ i B 0 Ú a->kT E i z x f.length w c zQ s f d->X a d): Î À uV (Exit.then K<|QQ X) (om i B h u) w:=by
 unfold om;conv=>arg 2;whnf
 subst e;go_wp2_with fail;exact g _ _ (gu _) b.jZ
def amJ(ok:E.Ok)(u:Nat->È)(b:R E i c z x zQ s f w)(l:B.size<=40)(m:(B.size:Int)<h) (e:∀a d,EZ i B 0 Ï a->kT E i z x f.length w (pb c 0) zQ s f d->X a d): Î À uV (Exit.then K<|QQ X) (om i B h u) w:=by
 unfold om;conv=>arg 2;whnf
 have n:w.cell? ⟨i,5,Ä⟩=Ã (Â Æ c.g):=b.r.r 5 _ U;have o:=b.r.C 5;have p:(h==(B.size:Int))=Ï:=by rw[beq_eq_false_iff_ne];omega
 have H:=fg b;clear b;go_wp2_with fail;let⟨j,k⟩:=H.out.N ok 5 (v:=Â Æ 0) (c':=pb c 0) (ki:=z) (ss':=zQ) U H.out.I λ_ q=>q;exact e _ _ (gu _) ⟨_,_,j,k⟩
def amK(ok:E.Ok)(u:Nat->È)(b:R E i c z x zQ s f w)(P:B.size<=40)(n:Nat)(G:h=n)(I:n<B.size)(y:iP w)(m o p:Int)(Q:zQ.length<=700)(J:0<=c.g)(S:c.g<=100000)(k:Nat)(C:lH ((B[n]'I).toNat:Int)=k)(r:jd[k]?=Ã (m,o,p))(D:mA c.g zQ.length m o p=Ï) (L:∀a j,EZ i B 0 Ï a->kT E i z x f.length w (pb c 0) zQ s f j->X a j): Î À uV (Exit.then K<|QQ X) (om i B h u) w:=by
 unfold om;conv=>arg 2;whnf
 subst G;have T:((n:Int)==(B.size:Int))=Ï:=by rw[beq_eq_false_iff_ne];omega
 have V:decide ((B.size:Int)<(n:Int))=Ï:=decide_eq_false Z;have W:(0:Int)<=(n:Int):=Z
 have Y:(n:Int)<(B.size:Int):=Z
 have d:=Co E ok i c z x zQ s f w b y k m o p r Z J Z;rw[D]at d;have H:=fg<|Á b<|Á d<|Á r C;clear b d y r D C;go_wp2_with (go_at_call 103;refine(qz _ _).mono ?_;rintro e j ⟨rfl,l⟩;subst j;rw[H.out.2.2.2]);go_at_call 202;apply H.out.2.1.mono;rintro e M ⟨rfl,l,F⟩;have k5:M.cell? ⟨i,5,Ä⟩=Ã (Â Æ c.g):=l.r.r 5 _ U;have g5:=l.r.C 5;have t:=fg<|Á l F;clear l F;go_wp2_with fail;let⟨N,O⟩:=R.N ok t.out.1 5 (v:=Â Æ 0) (c':=pb c 0) (ki:=z) (ss':=zQ) U t.out.1.I λ_ q=>q;exact L _ _ (gu _) ⟨_,_,N,t.out.2.fi O⟩
def amL(ok:E.Ok)(u:Nat->È)(b:R E i c z x zQ s f w)(J:B.size<=40)(n:Nat)(C:h=n)(D:n<B.size)(q:iP w)(k l m:Int)(L:zQ.length<=700)(F:0<=c.g)(M:c.g<=100000)(r:lH ((B[n]'D).toNat:Int)=22)(o:jd[(22:Nat)]?=Ã (k,l,m))(t:mA c.g zQ.length k l m=Ú) (G:∀a j,EZ i B 0 Ï a->kT E i z x f.length w (pb c<|c.g-k) zQ s f j->X a j): Î À uV (Exit.then K<|QQ X) (om i B h u) w:=by
 unfold om;conv=>arg 2;whnf
 subst C;have N:((n:Int)==(B.size:Int))=Ï:=by rw[beq_eq_false_iff_ne];omega
 have O:decide ((B.size:Int)<(n:Int))=Ï:=decide_eq_false Z;have P:(0:Int)<=(n:Int):=Z
 have Q:(n:Int)<(B.size:Int):=Z
 have d:=Co E ok i c z x zQ s f w b q 22 k l m o Z F Z;rw[t]at d;have H:=fg<|Á b<|Á d<|Á o r;clear b d q o t r;go_wp2_with (go_at_call 103;refine(qz _ _).mono ?_;rintro e j ⟨rfl,I⟩;subst j;rw[H.out.2.2.2]);go_at_call 202;apply H.out.2.1.mono;rintro e S ⟨rfl,p,v⟩;rw[if_pos U]at p;have y:=fg<|Á p v;clear p v;go_wp2_with (go_at_call 103;refine(qz _ _).mono ?_;rintro e j ⟨rfl,I⟩;subst j;rw[H.out.2.2.2]);exact G _ _ (gu _) ⟨_,_,y.out.1,y.out.2⟩
def amM(ok:E.Ok)(u:Nat->È)(b:R E i c z x zQ s f w)(P:B.size<=40)(n:Nat)(F:h=n)(G:n<B.size)(r:iP w)(k l m:Int)(I:zQ.length<=700)(J:0<=c.g)(Q:c.g<=100000)(p:Int)(t:List Int)(L:zQ=t++[p])(v:lH ((B[n]'G).toNat:Int)=21)(o:jd[(21:Nat)]?=Ã (k,l,m))(y:mA c.g zQ.length k l m=Ú) (M:∀a j,EZ i B p Ú a->kT E i z x f.length w (pb c<|c.g-k) t s f j->X a j): Î À uV (Exit.then K<|QQ X) (om i B h u) w:=by
 unfold om;conv=>arg 2;whnf
 subst F;have S:((n:Int)==(B.size:Int))=Ï:=by rw[beq_eq_false_iff_ne];omega
 have T:decide ((B.size:Int)<(n:Int))=Ï:=decide_eq_false Z;have V:(0:Int)<=(n:Int):=Z
 have W:(n:Int)<(B.size:Int):=Z
 have d:=Co E ok i c z x zQ s f w b r 21 k l m o Z J Z;rw[y]at d;have H:=fg<|Á b<|Á d<|Á o v;clear b d r o y v;go_wp2_with (go_at_call 103;refine(qz _ _).mono ?_;rintro e j ⟨rfl,N⟩;subst j;rw[H.out.2.2.2]);go_at_call 202;apply H.out.2.1.mono;rintro e Y ⟨rfl,q,C⟩;rw[if_pos U]at q;have D:=fg<|Á q C;clear q C;subst L;go_wp2_with (go_at_call 103;refine(qz _ _).mono ?_;rintro e j ⟨rfl,N⟩;subst j;rw[H.out.2.2.2]);go_at_call 204;refine(nL ok D.out.1<|by simp at I;omega).mono ?_;rintro e w2 ⟨rfl,Is,N,O⟩;go_wp2_with fail;exact M _ _ (gu _) ⟨_,_,N,D.out.2.fi O⟩
def amN(ok:E.Ok)(u:Nat->È)(b:R E i c z x zQ s f w)(L:B.size<=40)(n:Nat)(D:h=n)(k:n<B.size)(r:iP w)(l m o:Int)(M:zQ.length<=700)(F:0<=c.g)(N:c.g<=100000)(O:(48:Int)<=((B[n]'k).toNat:Int))(P:((B[n]'k).toNat:Int)<=57)(t:lH ((B[n]'k).toNat:Int)=1)(p:jd[(1:Nat)]?=Ã (l,m,o))(v:mA c.g zQ.length l m o=Ú) (G:∀a j,Cq i B ((n:Int)+1) a->kT E i z x f.length w (pb c<|c.g-l) (zQ++[((B[n]'k).toNat:Int)-48]) s f j->K a j): Î À uV (Exit.then K<|QQ X) (om i B h u) w:=by
 unfold om;conv=>arg 2;whnf
 subst D;have Q:((n:Int)==(B.size:Int))=Ï:=by rw[beq_eq_false_iff_ne];omega
 have S:decide ((B.size:Int)<(n:Int))=Ï:=decide_eq_false Z;have T:(0:Int)<=(n:Int):=Z
 have V:(n:Int)<(B.size:Int):=Z
 have d:=Co E ok i c z x zQ s f w b r 1 l m o p Z F Z;rw[v]at d;have H:=fg<|Á b<|Á d<|Á p t;clear b d r p v t;go_wp2_with (go_at_call 103;refine(qz _ _).mono ?_;rintro e j ⟨rfl,I⟩;subst j;rw[H.out.2.2.2]);go_at_call 202;apply H.out.2.1.mono;rintro e W ⟨rfl,q,y⟩;rw[if_pos U]at q;have C:=fg<|Á q y;clear q y;go_wp2_with (go_at_call 103;refine(qz _ _).mono ?_;rintro e j ⟨rfl,I⟩;subst j;rw[H.out.2.2.2]);go_at_call 203;refine(zW ok C.out.1 Z _).mono ?_;rintro e Y ⟨rfl,Is,I,J⟩;go_wp2_with fail;exact G _ _ (gu _) ⟨_,_,I,C.out.2.fi J⟩
def amO(ok:E.Ok)(u:Nat->È)(b:R E i c z x zQ s f w)(W:B.size<=40)(n:Nat)(M:h=n)(N:n<B.size)(t:iP w)(k l m:Int)(v:zQ.length<=700)(O:0<=c.g)(Y:c.g<=100000)(p q:Int)(y:List Int)(P:zQ=(y++[p])++[q])(Q:¬p=0)(C:lH ((B[n]'N).toNat:Int)=17)(o:jd[(17:Nat)]?=Ã (k,l,m))(D:mA c.g zQ.length k l m=Ú) (S:∀a j,Cq i B q a->kT E i z x f.length w (pb c<|c.g-k) y s f j->K a j): Î À uV (Exit.then K<|QQ X) (om i B h u) w:=by
 unfold om;conv=>arg 2;whnf
 subst M;have e1:((n:Int)==(B.size:Int))=Ï:=by rw[beq_eq_false_iff_ne];omega
 have e2:decide ((B.size:Int)<(n:Int))=Ï:=decide_eq_false Z;have H5:(0:Int)<=(n:Int):=Z
 have vV:(n:Int)<(B.size:Int):=Z
 have d:=Co E ok i c z x zQ s f w b t 17 k l m o Z O Z;rw[D]at d;have H:=fg<|Á b<|Á d<|Á o C;clear b d t o D C;go_wp2_with (go_at_call 103;refine(qz _ _).mono ?_;rintro e j ⟨rfl,I⟩;subst j;rw[H.out.2.2.2]);go_at_call 202;apply H.out.2.1.mono;rintro e w1 ⟨rfl,r,F⟩;rw[if_pos U]at r;have G:=fg<|Á r F;clear r F;subst P;have e3:(p !=0)=Ú:=by rwa[bne_iff_ne]
 go_wp2_with (go_at_call 103;refine(qz _ _).mono ?_;rintro e j ⟨rfl,I⟩;subst j;rw[H.out.2.2.2])
 go_at_call 204;refine(nL ok G.out.1<|by simp at v|-;omega).mono ?_;rintro e w2 ⟨rfl,Is,I,J⟩;go_wp2_with fail;go_at_call 204;refine(nL ok I<|by simp at v;omega).mono ?_;rintro e w3 ⟨rfl,Ts,V,L⟩;have T:=(G.out.2.fi J).fi L;clear I J L;go_wp2_with fail;exact S _ _ (gu _) ⟨_,_,V,T⟩
def amP(ok:E.Ok)(u:Nat->È)(b:R E i c z x zQ s f w)(W:B.size<=40)(n:Nat)(M:h=n)(N:n<B.size)(t:iP w)(k l m:Int)(v:zQ.length<=700)(O:0<=c.g)(Y:c.g<=100000)(p q:Int)(y:List Int)(P:zQ=(y++[p])++[q])(Q:p=0)(C:lH ((B[n]'N).toNat:Int)=17)(o:jd[(17:Nat)]?=Ã (k,l,m))(D:mA c.g zQ.length k l m=Ú) (S:∀a j,Cq i B ((n:Int)+1) a->kT E i z x f.length w (pb c<|c.g-k) y s f j->K a j): Î À uV (Exit.then K<|QQ X) (om i B h u) w:=by
 unfold om;conv=>arg 2;whnf
 subst M;have e1:((n:Int)==(B.size:Int))=Ï:=by rw[beq_eq_false_iff_ne];omega
 have e2:decide ((B.size:Int)<(n:Int))=Ï:=decide_eq_false Z;have H5:(0:Int)<=(n:Int):=Z
 have vV:(n:Int)<(B.size:Int):=Z
 have d:=Co E ok i c z x zQ s f w b t 17 k l m o Z O Z;rw[D]at d;have H:=fg<|Á b<|Á d<|Á o C;clear b d t o D C;go_wp2_with (go_at_call 103;refine(qz _ _).mono ?_;rintro e j ⟨rfl,I⟩;subst j;rw[H.out.2.2.2]);go_at_call 202;apply H.out.2.1.mono;rintro e w1 ⟨rfl,r,F⟩;rw[if_pos U]at r;have G:=fg<|Á r F;clear r F;subst P;subst Q;go_wp2_with (go_at_call 103;refine(qz _ _).mono ?_;rintro e j ⟨rfl,I⟩;subst j;rw[H.out.2.2.2]);go_at_call 204;refine(nL ok G.out.1<|by simp at v|-;omega).mono ?_;rintro e w2 ⟨rfl,Is,I,J⟩;go_wp2_with fail;go_at_call 204;refine(nL ok I<|by simp at v;omega).mono ?_;rintro e w3 ⟨rfl,Ts,V,L⟩;have T:=(G.out.2.fi J).fi L;clear I J L;go_wp2_with fail;exact S _ _ (gu _) ⟨_,_,V,T⟩
def amQ(ok:E.Ok)(u:Nat->È)(b:R E i c z x zQ s f w)(hP:B.size<=40)(n:Nat)(Q:h=n)(S:n<B.size)(r:iP w)(l o q:Int)(T:zQ.length<=700)(V:0<=c.g)(wi:c.g<=100000)(k:Nat)(W:2<=k)(Y:k<=20)(U':k≠17)(Cp:o<=zQ.length)(pG:0<=c.d)(hd:c.d<=4)(hF:c.d<4->tB F (c.d+1))(I:qx F)(J:gM s)(hx:c.x<8)(hy:c.y<8)(L:∀p∈zQ,gp p)(hlen:(f.length:Int)+c.g<=1000000)(t:RT)(M:t=oE F c k ⟨zQ,s,f,c.g-l⟩)(W_:0<=l)(Tt:l<=c.g)(N:lH ((B[n]'S).toNat:Int)=k)(v:jd[(k:Nat)]?=Ã (l,o,q))(O:mA c.g zQ.length l o q=Ú) (hK:∀a m,Cq i B ((n:Int)+1) a->kT E i z x f.length w (pb c t.g) t.r t.s t.C m->K a m): Î À uV (Exit.then K<|QQ X) (om i B h u) w:=by
 unfold om;conv=>arg 2;whnf
 subst Q;have e1:((n:Int)==(B.size:Int))=Ï:=by rw[beq_eq_false_iff_ne];omega
 have e2:decide ((B.size:Int)<(n:Int))=Ï:=decide_eq_false Z;have H5:(0:Int)<=(n:Int):=Z
 have vV:(n:Int)<(B.size:Int):=Z
 have j:=Co E ok i c z x zQ s f w b r k l o q v Z V Z;rw[O]at j;have H:=fg<|Á b<|Á j<|Á r<|Á v N;clear b j r v O N;go_wp2_with (go_at_call 103;refine(qz _ _).mono ?_;rintro e m ⟨rfl,hw⟩;subst m;rw[H.out.2.2.2.2]);go_at_call 202;apply H.out.2.1.mono;rintro e w1 ⟨rfl,C,P⟩;rw[if_pos U]at C;have G:=fg<|Á C P;clear C P;have e11:((k:Int)==1)=Ï:=by rw[beq_eq_false_iff_ne];omega
 have e27:((k:Int)==17)=Ï:=by rw[beq_eq_false_iff_ne];omega
 have e31:((k:Int)==21)=Ï:=by rw[beq_eq_false_iff_ne];omega
 have e32:((k:Int)==22)=Ï:=by rw[beq_eq_false_iff_ne];omega
 have D:=amH (t:=t) ok G.out.1 T pG hd hF I (H.out.2.2.1.N ok H.out.1 G.out.2) J hx hy L (by show 0<=c.g-l;omega) (by show c.g-l<=100000;omega) (by show(f.length:Int)+(c.g-l)<=1000000;omega) k W Y U' l o q H.out.2.2.2.1 Cp M;have HD:=fg D;clear D hF I J L hlen M;go_wp2_with (go_at_call 103;refine(qz _ _).mono ?_;rintro e m ⟨rfl,hw⟩;subst m;rw[H.out.2.2.2.2]);go_at_call 205;apply HD.out.mono;rintro e w2 ⟨rfl,Is,LW,h2,t2⟩;go_wp2_with fail;exact hK _ _ (gu _) ⟨_,_,h2,G.out.2.fi t2⟩
end
def qA(k:Nat):Int×Int×Int:=(jd[k]?).getD (0,0,0)
def E0(P:ByteArray)(a:Int):Int:=((P.data.getD a.toNat 0).toNat:Int)
def lQ(P:ByteArray)(a:Int):Nat:=lH<|E0 P a
def qB(F:me)(c:RC)(P:ByteArray):Nat->Int->RT->Int×Bool×RT
 |0,_,t=>(0,Ï,t)
 |f+1,pl,t=>
  if pl=P.size then(0,Ú,t)
  else if(P.size:Int)<pl then(0,Ï,{t with g:=0})
  else if mA t.g t.r.length (qA<|lQ P pl).1 (qA<|lQ P pl).2.1 (qA<|lQ P pl).2.2=Ï then(0,Ï,{t with g:=0})
  else if lQ P pl=1 then qB F c P f (pl+1) {t with r:=t.r++[E0 P pl-48],g:=t.g-(qA<|lQ P pl).1}
  else if lQ P pl=17 then
   if gk (gh t.r)=0 then qB F c P f (pl+1) {t with r:=gh<|gh t.r,g:=t.g-(qA<|lQ P pl).1}else qB F c P f (gk t.r) {t with r:=gh<|gh t.r,g:=t.g-(qA<|lQ P pl).1}
  else if lQ P pl=21 then(gk t.r,Ú,{t with r:=gh t.r,g:=t.g-(qA<|lQ P pl).1})
  else if lQ P pl=22 then(0,Ï,{t with g:=t.g-(qA<|lQ P pl).1})
  else qB F c P f (pl+1) (oE F c (lQ P pl) {t with g:=t.g-(qA<|lQ P pl).1})
structure ot(t:RT):Prop where
 r:∀p∈t.r,gp p
 M:t.r.length<=32
 s:gM t.s
 g0:0<=t.g
 C:t.g<=100000
 I:(t.C.length:Int)+t.g<=1000000
def amR{p:Prop}[Decidable p](c:i<=m)(d:b<=m):(if p then i else b)<=m:=by split;exact c;exact d
def X_(c:Int):lH c<=22:=by unfold lH;repeat' (first|refine amR A ?_|decide)
def uW:gp 0:=⟨A,A⟩
def amS:gp 1:=⟨A,A⟩
theorem X'(h:k<=22):jd[k]?=Ã (qA k):=by
 unfold qA;have:k<jd.length:=by show k<23;omega
 grind
def zY(n:Int):gp (wu n):=⟨al2 n,al3 n⟩
def Y_(b:Bool):gp (yc b):=by cases b<;>exact⟨A,A⟩
def amT{q:Int}(a:gp c)(d:gp q):gp (yd h c q):=by
 unfold yd;repeat' split
 all_goals first|exact zY _|exact Y_ _|exact⟨A,A⟩|skip
 rename_i e;have b:=a.1;exact⟨Int.ediv_nonneg b d.1,Int.lt_of_le_of_lt (Int.ediv_le_self _ b) a.2⟩
def gM.fV{s:St}(h:gM s){a:Ik}(b:gp a.fB)(d:∀j,gp<|a.C j)(e:a.r.size<=40/\∀c∈a.r.data.toList,ye c=Ú):gM (s.fV i a):=by
 refine⟨λj=> ?_,λj k=> ?_,λj=> ?_⟩<;>unfold St.fV<;>split
 .exact b
 .exact h.fB j
 .exact d k
 .exact h.C j k
 .exact e
 .exact h.I j
def gM.r{s:St}(h:gM s)(i:Nat){b:Int}(a:gp b):gM (s.fB i b):=h.fV a (h.C i)<|h.I i
def gM.Tl{s:St}(h:gM s)(i j:Nat)(a:gp c):gM (s.r i j c):=by
 refine h.fV (h.fB i) (λk=> ?_)<|h.I i;show gp (if k=j then c else(s i).C k);split
 .exact a
 .exact h.C i k
def amU{s:St}(h:gM s)(y:Nat){p:Int}(a:gp p):gp (ru s y c p).1/\gM (ru s y c p).2:=by
 unfold ru;split
 .exact⟨uW,h⟩
 .rename_i d;have b:=h.fB y;have e:=a.1;refine⟨amS,gM.r (gM.r h y ⟨Z,by have:=b.2;omega⟩) _<|zY _⟩
def Z_(h:n<8):gp (n:Int):=⟨Z,Z⟩
section
variable{F:me}{c:RC}{t:RT}
def tD{m:List Int}(h:∀p∈zQ,gp p)(k:∀p∈m,gp p):∀p∈zQ++m,gp p:=λp a=>(ú.1 a).elim (h p)<|k p
def yh{a:Int}(h:gp a):∀p∈[a],gp p:=λp b=>by simp at b;subst b;exact h
def Tv{a b:Int}(h:gp a)(k:gp b):∀p∈[a,b],gp p:=λp c=>by simp at c;rcases c with rfl|rfl;exact h;exact k
def amV(b:qx F)(a:ot t)(d:c.y<8){p k:Int}(f:gp h)(i:gp p)(j:gp k): gp (ja F c t h p k).1/\gp (ja F c t h p k).2.1/\gM (ja F c t h p k).2.2.s/\0<=(ja F c t h p k).2.2.g/\(ja F c t h p k).2.2.g<=t.g/\((ja F c t h p k).2.2.C.length:Int)+(ja F c t h p k).2.2.g<=(t.C.length:Int)+t.g:=by
 unfold ja;split
 .exact⟨uW,uW,a.s,a.g0,Ö _,Ö _⟩
 .have l:0<=min p t.g:=by have:=i.1;have:=a.g0;omega
  have m:=a.C;have n:=a.I;have o:=f.1;have e:=b t.s t.C c.y (h%8).toNat (min p t.g) k a.s d Z j l Z Z;have r:=e.C;have u:=e.r;have v:=e.I;refine⟨e.M,Y_ _,e.N,?_,?_,?_⟩;all_goals simp only
  all_goals have:=a.g0
  all_goals omega
theorem Z'(v:qx F)(w:c.x<8)(r:c.y<8)(z:gp c.k)(P:2<=k)(Q:k<=20)(S:k≠17){o u:Int}(d:jd[k]?=Ã (h,o,u)){g:Int}(T:t.g=g-h)(a:ot t)(V:(t.C.length:Int)+g<=1000000)(W:o<=t.r.length)(X:(t.r.length:Int)-o+u<=32): ot (oE F c k t)/\(oE F c k t).g<=t.g/\((oE F c k t).C.length:Int)+(oE F c k t).g<=t.C.length+g:=by
 have i:=tC a.r;have j:=tC<|pN a.r;have B:=tC<|pN<|pN a.r;have m:=pN a.r;have n:=pN m;have C:=pN n;have f:=qy t.r;have q:=qy<|gh t.r;have Y:=qy<|gh<|gh t.r;have g1:=a.C;obtain⟨D,E,G,H,I,J⟩:=Mj k _ d;simp only at D E G H I J;have len:=a.M;have b:∀{l:List Int},(∀p∈l,gp p)->l.length<=32->ot {t with r:=l}:=λp K=>⟨p,K,a.s,a.g0,a.C,a.I⟩;have cases:(k=2\/k=3\/k=4\/k=5\/k=6\/k=7)\/k=8\/k=9\/k=10\/k=11\/k=12\/k=13\/k=14\/k=15\/k=16\/k=18\/k=19\/k=20:=Z
 rcases cases with hq|rfl|rfl|rfl|rfl|rfl|rfl|rfl|rfl|rfl|rfl|rfl|rfl
 .have e:oE F c k t={t with r:=gh (gh t.r)++[yd k (gk<|gh t.r)<|gk t.r]}:=by
   rcases hq with rfl|rfl|rfl|rfl|rfl|rfl<;>rfl
  rw[e];exact⟨b (tD n<|yh<|amT j i) (by simp[f,q];omega),Ö _,by simp only;omega⟩
 .exact⟨b (tD m<|Tv i i) (by simp[f];simp[jd]at d;omega),Ö _,by show(t.C.length:Int)+t.g<=_;omega⟩
 .exact⟨b (tD n<|Tv i j) (by simp[f,q];omega),Ö _,by show(t.C.length:Int)+t.g<=_;omega⟩
 .exact⟨b m (by rw[f];omega),Ö _,by show(t.C.length:Int)+t.g<=_;omega⟩
 .exact⟨b (tD a.r<|yh z) (by simp;simp[jd]at d;omega),Ö _,by show(t.C.length:Int)+t.g<=_;omega⟩
 .exact⟨b (tD a.r<|yh<|Z_ w) (by simp;simp[jd]at d;omega),Ö _,by show(t.C.length:Int)+t.g<=_;omega⟩
 .exact⟨b (tD a.r<|yh<|Z_ r) (by simp;simp[jd]at d;omega),Ö _,by show(t.C.length:Int)+t.g<=_;omega⟩
 .exact⟨b (tD a.r<|yh<|a.s.fB _) (by simp;simp[jd]at d;omega),Ö _,by show(t.C.length:Int)+t.g<=_;omega⟩
 .exact⟨b (tD m<|yh<|a.s.C _ _) (by simp[f];omega),Ö _,by show(t.C.length:Int)+t.g<=_;omega⟩
 .exact⟨⟨n,by show(gh<|gh t.r).length<=32;omega,a.s.Tl _ _ j,a.g0,a.C,a.I⟩,Ö _,by show(t.C.length:Int)+t.g<=_;omega⟩
 .obtain⟨e,L⟩:=amU a.s c.y j;exact⟨⟨tD n<|yh e,by show(gh (gh t.r)++[_]).length<=32;simp[f,q];omega,L,a.g0,a.C,a.I⟩,Ö _,by show(t.C.length:Int)+t.g<=_;omega⟩
 .have e:h=4:=by simp[jd]at d;omega
  refine⟨⟨m,by show(gh t.r).length<=32;omega,a.s,a.g0,a.C,?_⟩,Ö _,?_⟩
  .show((t.C++[_]).length:Int)+t.g<=_;simp;omega
  .show((t.C++[_]).length:Int)+t.g<=_;simp;omega
 .obtain⟨e,L,M,N,O,w6⟩:=amV v a r i j B;refine⟨⟨tD C<|Tv e L,?_,M,N,?_,?_⟩,O,?_⟩
  .show(gh (gh<|gh t.r)++[_,_]).length<=32;grind
  .show(ja F c t _ _ _).2.2.g<=_;omega
  .show((ja F c t _ _ _).2.2.C.length:Int)+(ja F c t _ _ _).2.2.g<=_;omega
  .show((ja F c t _ _ _).2.2.C.length:Int)+(ja F c t _ _ _).2.2.g<=_;omega
end
def Cr(a:Nat)(w:É):Nat:=match w.cell? ⟨a,5,Ä⟩with
 |some (Â _ n)=>n.toNat
 |_=>0
def R.G{E:iZ}{c:RC}{s:St}{a:List (Nat×Int)}(h:R E i c v x zQ s a w):Cr i w=c.g.toNat:=by unfold Cr;rw[h.r.r 5 _ U]
def SI(E:iZ)(d:Nat)(c:RC)(P:ByteArray)(F:me)(f h:È)(i:Nat)(j:É)(k:Int×Bool×RT)(a:é)(w:É):Prop:=
 ∃(b:Int) (t:RT) (e:Nat),Cq d P b a/\gp b/\kT E d f h i j (pb c t.g) t.r t.s t.C w/\ot t/\iP w/\t.g.toNat<e/\qB F c P e b t=k
def SX(E:iZ)(d:Nat)(c:RC)(P:ByteArray)(e f:È)(h:Nat)(i:É)(b:Int×Bool×RT)(a:é)(w:É):Prop:=
 EZ d P b.1 b.2.1 a/\kT E d e f h i (pb c b.2.2.g) b.2.2.r b.2.2.s b.2.2.C w
def Tw(a:n<B.size):E0 B (n:Int)=((B[n]'a).toNat:Int):=by unfold E0;rw[Ŷ];have b:n<B.data.size:=a;simp only[Array.getD,b,dif_pos];rfl
theorem Ty{s:St}(b:gM s)(y:Nat)(a:n<(s y).r.size):1<=lQ (s y).r (n:Int):=by
 unfold lQ;rw[Tw a];have c:((s y).r[n]'a)∈(s y).r.data.toList:=by have:(s y).r[n]'a=(s y).r.data[n]'a:=U;grind [Array.getElem_mem]
 have:=(b.I y).2 _ c;unfold ye at this;have:=of_decide_eq_true this;omega
def aac{b a d:Int}(h:mA c n b a d=Ú):b<=c/\a<=n/\(n:Int)-a+d<=32:=by unfold mA at h;simp at h;omega
def amW{p:Prop}[Decidable p](c:i≠m)(d:b≠m):(if p then i else b)≠m:=by split;exact c;exact d
def aad(h:lH c=1):48<=c/\c<=57:=by
 by_cases a:48<=c/\c<=57
 .exact a
 .exfalso;revert h;unfold lH;rw[if_neg a];repeat' (first|refine amW A ?_|decide)
def amX(a:1<=k)(b:k<=22):1<=(qA k).1:=by
 have h:∀k:Fin 23,1<=k.val->1<=(qA k.val).1:=A
 exact h ⟨k,Z⟩ a
section
variable{E:iZ}{c:RC}{F:me}{l:Int×Bool×RT}
def amY(ok:E.Ok)(hP:B.size<=40)(amZ:∀n,n<B.size->1<=lQ B (n:Int))(pG:0<=c.d)(hd:c.d<=4)(hF:c.d<4->tB F (c.d+1))(hI:qx F)(hx:c.x<8)(hy:c.y<8)(Ml:gp c.k)(a:é)(w:É)(h:SI E j c B F z v i W l a w): Î À uV (Exit.then (λa' w'=>SI E j c B F z v i W l a' w'/\Cr j w'<Cr j w)<|QQ<|SX E j c B z v i W l) a w:=by
 let⟨pl,t,fuel,hfr,rO,⟨sv,lv,hR,hT⟩,ht,hr,hfu,hres⟩:=h;have g0:=ht.g0;have g1:=ht.C;have hl:=ht.M;have am0:=hR.G;obtain⟨f,rfl⟩:∃f,fuel=f+1:=⟨fuel-1,Z⟩;unfold qB at hres;obtain⟨u,rfl⟩:=hfr;by_cases h1:pl=B.size
 .rw[if_pos h1]at hres;subst hres;apply amI ok u hR hP h1;rintro a' w' q1 ⟨ki,jF,r1,r2⟩;exact⟨q1,ki,jF,r1,hT.fi r2⟩
 rw[if_neg h1]at hres;by_cases h2:(B.size:Int)<pl
 .rw[if_pos h2]at hres;subst hres;apply amJ ok u hR hP h2;rintro a' w' q1 ⟨ki,jF,r1,r2⟩;exact⟨q1,ki,jF,r1,hT.fi r2⟩
 rw[if_neg h2]at hres;have U_:=rO.1;obtain⟨n,rfl⟩:∃n:Nat,pl=n:=⟨pl.toNat,Z⟩;have hn:n<B.size:=Z
 have k1:=amZ n hn;have rv:lH ((B[n]'hn).toNat:Int)=lQ B (n:Int):=by unfold lQ;rw[Tw hn]
 have k2:lQ B (n:Int)<=22:=X_ _;have hk:=X' k2;have W_:=amX k1 k2;let⟨b1,b2,b3,b4,b5,b6⟩:=Mj _ _ hk;have am1:=Tw hn;generalize lQ B (n:Int)=k at*;generalize hro:qA k=ro at*;let⟨co,ta,pu⟩:=ro;simp only at hres hk W_ b1 b2 b3 b4 b5 b6;by_cases h3:mA t.g t.r.length co ta pu=Ï
 .rw[if_pos h3]at hres;subst hres;apply amK ok u hR hP n U hn hr co ta pu Z g0 g1 k rv hk h3;rintro a' w' q1 ⟨ki,jF,r1,r2⟩;exact⟨q1,ki,jF,r1,hT.fi r2⟩
 rw[if_neg h3]at hres;have oZ:mA t.g t.r.length co ta pu=Ú:=by cases e:mA t.g t.r.length co ta pu with
  |true=>rfl
  |false=>exact absurd e h3
 let⟨Tt,Cp,Tz⟩:=aac oZ;have TA:=ht.I;have vV:gp ((n:Int)+1):=⟨Z,Z⟩;have Mm:∀{a':é} {w':É} {It:Int} {t':RT} {ki jF:È},Cq j B It a'->gp It->R E j (pb c t'.g) ki jF t'.r t'.s t'.C w'->Tr E j sv lv t.C.length w ki jF t'.C.length w'->ot t'->t'.g<=t.g-co->qB F c B f It t'=l->SI E j c B F z v i W l a' w'/\Cr j w'<Cr j w:=by intro a' w' It t' ki jF q1 q2 q3 q4 q5 q6 q7;refine⟨⟨It,t',f,q1,q2,⟨ki,jF,q3,hT.fi q4⟩,q5,hr.N ok hR q4,Z,q7⟩,?_⟩;rw[q3.G,am0];show t'.g.toNat<t.g.toNat;omega
 by_cases h4:k=1
 .rw[if_pos h4]at hres;subst h4;have hdg:=aad rv;apply amN ok u hR hP n U hn hr co ta pu Z g0 g1 hdg.1 hdg.2 rv hk oZ;rintro a' w' q1 ⟨ki,jF,r1,r2⟩;rw[am1]at hres;refine Mm (t':={t with r:=t.r++[((B[n]'hn).toNat:Int)-48],g:=t.g-co}) q1 vV r1 r2 ⟨tD ht.r<|yh ⟨Z,Z⟩,?_,ht.s,by show 0<=t.g-co;omega,by show t.g-co<=100000;omega,by show(t.C.length:Int)+(t.g-co)<=1000000;omega⟩ (Ö _) hres;simp[jd]at hk;simp;omega
 rw[if_neg h4]at hres;by_cases h5:k=17
 .rw[if_pos h5]at hres;subst h5;have am2:ta=2:=by simp[jd]at hk;omega
  have e2:t.r=(gh (gh t.r)++[gk<|gh t.r])++[gk t.r]:=by rw[yg (by rw[qy];omega),yg Z]
  have tok:ot {t with r:=gh<|gh t.r,g:=t.g-co}:=⟨pN<|pN ht.r,by show(gh<|gh t.r).length<=32;rw[qy,qy];omega,ht.s,by show 0<=t.g-co;omega,by show t.g-co<=100000;omega,by show(t.C.length:Int)+(t.g-co)<=1000000;omega⟩;by_cases h6:gk (gh t.r)=0
  .rw[if_pos h6]at hres;apply amP ok u hR hP n U hn hr co ta pu Z g0 g1 _ _ _ e2 h6 rv hk oZ;rintro a' w' q1 ⟨ki,jF,r1,r2⟩;exact Mm (t':={t with r:=gh<|gh t.r,g:=t.g-co}) q1 vV r1 r2 tok (Ö _) hres
  .rw[if_neg h6]at hres;apply amO ok u hR hP n U hn hr co ta pu Z g0 g1 _ _ _ e2 h6 rv hk oZ;rintro a' w' q1 ⟨ki,jF,r1,r2⟩;exact Mm (t':={t with r:=gh<|gh t.r,g:=t.g-co}) q1 (tC ht.r) r1 r2 tok (Ö _) hres
 rw[if_neg h5]at hres;by_cases h6:k=21
 .rw[if_pos h6]at hres;subst h6 hres;have am2:ta=1:=by simp[jd]at hk;omega
  apply amM ok u hR hP n U hn hr co ta pu Z g0 g1 _ _ (yg Z).symm rv hk oZ;rintro a' w' q1 ⟨ki,jF,r1,r2⟩;exact⟨q1,ki,jF,r1,hT.fi r2⟩
 rw[if_neg h6]at hres;by_cases h7:k=22
 .rw[if_pos h7]at hres;subst h7 hres;apply amL ok u hR hP n U hn hr co ta pu Z g0 g1 rv hk oZ;rintro a' w' q1 ⟨ki,jF,r1,r2⟩;exact⟨q1,ki,jF,r1,hT.fi r2⟩
 rw[if_neg h7]at hres;let⟨d1,d2,d3⟩:=Z' (t:={t with g:=t.g-co}) hI hx hy Ml Z Z h5 hk U ⟨ht.r,ht.M,ht.s,by show 0<=t.g-co;omega,by show t.g-co<=100000;omega,by show(t.C.length:Int)+(t.g-co)<=1000000;omega⟩ TA Cp Tz;apply amQ ok u hR hP n U hn hr co ta pu Z g0 g1 k Z Z h5 Cp pG hd hF hI ht.s hx hy ht.r TA (oE F c k {t with g:=t.g-co}) U b1 Tt rv hk oZ;rintro a' w' q1 ⟨ki,jF,r1,r2⟩;exact Mm q1 vV r1 r2 d1 d2 hres
end
section
variable{E:iZ}{c:RC}{F:me}{lv:È}{s:St}{b:List (Nat×Int)}
def oF(F:me)(c:RC)(s:St)(b:List (Nat×Int)):Int×Bool×RT:=qB F c (s c.y).r (c.g.toNat+1) 0 ⟨[],s,b,c.g⟩
def am3(ok:E.Ok)(h:R E i c v lv [] s b w)(l:0<=c.d)(o:c.d<=4)(hF:c.d<4->tB F (c.d+1))(p:qx F)(q:iP w)(f:gM s)(r:c.x<8)(j:c.y<8)(t:gp c.k)(z:0<=c.g)(B:c.g<=100000)(C:(b.length:Int)+c.g<=1000000): Ò À 191 #[Å<|Ã ⟨i,0,Ä⟩] w λe a=>e=Ç (æ #[Â Æ (oF F c s b).1,Ñ (oF F c s b).2.1])/\kT E i v lv b.length w (pb c (oF F c s b).2.2.g) (oF F c s b).2.2.r (oF F c s b).2.2.s (oF F c s b).2.2.C a:=by
 have G:=h.r.r 0 _ U;have I:=h.r.r 2 _ U;have J:=h.C.Mg j;have K:=h.r.M;have M:=fj.M h.C;have e:=(f.I c.y).1;have L:∀m,∀a,Cq i (s c.y).r 0 a->Î À (à uV) (QQ<|SX E i c (s c.y).r v lv b.length w<|oF F c s b) a (w.drewN m):=λm a D=>by refine Ĉ (SI E i c (s c.y).r F v lv b.length w<|oF F c s b) (λ_ w=>Cr i w) ?_ (amY ok e (λn u=>Ty f c.y u) l o hF p r j t);have k:=fe.iV fh w m;exact⟨0,⟨[],s,b,c.g⟩,c.g.toNat+1,D,uW,⟨v,lv,h.fP k,Tr.fP k⟩,⟨fq,fq,f,z,B,C⟩,q.r k id,fq,U⟩
 have H:=fg L;generalize oF F c s b=res at*;generalize N:(s c.y).r=P at*;go_enter Tryz.func191,Tryz.ntmps191;go_wp2_with fail;go_step3;go_wp2_with fail;go_quiet (fail);go_wp2_with fail;go_step3;go_wp2_with fail;refine Ý ?_ (H.out _ _ (gu _));rintro(_|(_|_)|_|_|_|_) a v hq;all_goals first|exact absurd hq id|skip
 let⟨n,O⟩:=hq;obtain⟨u,rfl⟩:=n;unfold V_;go_wp2_with fail;(try rw[Exit.noGoto_ret]);go_ret2;simp_all
end
def TB(a:o.op=bj T)(b:P.info? T=Ã zJ)(c:zJ.zero=Ã z): (Ĥ xX o).run P w=φ (.value<|Å<|Ã ⟨w.heap.size,0,Ä⟩) (w.alloc<|Ð z.cells T):=by unfold Ĥ;simp[a,Instr.alloc,zeroValue,typeInfo,b,c,newVar,newRow]
def Mn:∀(e a d:List È) (w:É) (c:List È),c.length=e.length->fj b (a++c++d) T w->fj b (a++e++d) T (w.setCells b a.length e)
 |[],a,d,w,c,hl,h=>by have:c=[]:=ß (by simpa using hl);subst this;exact h
 |v::r,a,d,w,c,hl,h=>by
  match c,hl,h with
  |x::c,hl,h=>
   have f:=h.fV a.length v;rw[show(a++x::c++d).set a.length v=(a++[v])++c++d by simp]at f;have:=Mn r (a++[v]) d _ c (by simpa using hl) f;rw[show(a++[v]).length=a.length+1 by simp]at this;rw[show a++v::r++d=a++[v]++r++d by simp];exact this
def NF.qK(h:NF b w)(p:ă)(v:È):NF b (w.setCell p v):=λc T d q=>by
 by_cases e:b=p.block
 .subst e;unfold ą at q;simp only[Û,if_true]at q;cases a:w.heap[p.block]? with
  |none=>rw[a]at q;cases q
  |some f=>
   rw[a]at q;cases f with
   |cells g t z=>
    simp only[ñ,è,ģ]at q;rw[<-q.2.1];exact h _ _ _ a
   |_=>cases q
 .rw[Ė _ _ _ _ (by simpa using e)]at q;exact h c T d q
def Iu:∀(vs:List È) (o:Nat) (w:É),NF b w->fe (λk=>k=b) w (w.setCells b o vs)
 |[],_,w,_=>fe.gd _ w
 |v::r,o,w,h=>(fe.I (X:=λk=>k=b) (p:=⟨b,o,Ä⟩) U v<|Ù h).fi<|Iu r (o+1) _<|h.qK _ _
def fj.TC{vs:List È}(h:fj j vs T w)(a:n<=vs.length):w.there j 0 n:=λi b=>by refine⟨?_,h.C _⟩;rw[h.r (0+i) (vs[0+i]'Z)<|Ô Z];rfl
def fj.Y{vs tl:List È}(h:fj j (vs++tl) T w):w.rangeAt j 0 vs:=λi v a=>by apply h.r (0+i) v;rwa[ł,ç (Ü.1 a).1]
def aae{P:Program}{ops:Array Oper}{rest:List Oper}{o1 o2:Oper}{a:Act}{w:World}{Q:Exit->Act->World->Prop}(g1:o1.guard=none)(g2:o2.guard=none)(T:TypeId)(h1:o1.op=.alloc T)(d:Tmp)(hd:o1.dst=some d)(x y:Operand)(h2:o2.op=.store T x y)(o6:o2.dst=none) {i:TypeInfo} {z:Value} (hi:P.info? T=some i) (hz:i.zero=some z) (cs:List Value) (kq:i.size=cs.length) (se:z.cells.size=cs.length) (hx:(a.put (some d)<|.pointer<|some ⟨w.heap.size,0,none⟩).eval x=.pointer (some ⟨w.heap.size,0,none⟩)) (hy:(a.put (some d)<|.pointer<|some ⟨w.heap.size,0,none⟩).eval y=.agg cs.toArray) (Mp:∀v∈cs,v.oneCell'=true) (h:∀w',fj w.heap.size cs T w'->fe fh w w'->w'.heap.size=w.heap.size+1->wpList P ops Q rest (a.put (some d)<|.pointer<|some ⟨w.heap.size,0,none⟩) w') (hT:my T=false:=by decide):wpList P ops Q (o1::o2::rest) a w:=by
 apply Ć g1 (Ã d) hd _ _ (TB h1 hi hz);have hB:fj w.heap.size z.cells.toList T (w.alloc<|Ð z.cells T):=by have:=fj.N w z.cells.toList T;simpa using this
 refine ľ g2 T x y h2 w.heap.size 0 cs.toArray hx hy (hB.TC<|by simp[se]) (by rw[hi];simp[kq]) (Ī Mp) ?_;rw[o6];have hB2:=Mn cs [] [] (w.alloc<|Ð z.cells T) z.cells.toList (by simpa using se) (by simpa using hB);refine h _ (by simpa using hB2) ?_ ?_
 .refine(fe.gL fh w _ _<|Ø hT).C (Iu _ _ _<|hB.G hT) λk hk e=> ?_;omega
 .have:∀(vs:List È) (o:Nat) (w:É) (b:Nat),(w.setCells b o vs).heap.size=w.heap.size:=by
   intro vs
   induction vs with
   |nil=>intro o w b;rfl
   |cons v r ih=>intro o w b;rw[World.setCells,ih];simp
  simp[this]
section
variable{c:RC}{F:me}
structure zZ(t:RT)(r:Int×Bool×RT):Prop where
 M:gp r.1
 s:gM r.2.2.s
 g0:0<=r.2.2.g
 C:r.2.2.g<=t.g
 I:(r.2.2.C.length:Int)+r.2.2.g<=t.C.length+t.g
def zZ.r{t a:RT}{r:Int×Bool×RT}(h:zZ a r)(b:a.g<=t.g)(c:(a.C.length:Int)+a.g<=t.C.length+t.g):zZ t r:= ⟨h.M,h.s,h.g0,ŷ h.C b,ŷ h.I c⟩
def E1{J:St->List (Nat×Int)->Prop}(u:B.size<=40)(d:∀n,n<B.size->1<=lQ B (n:Int))(h:qx F)(i:c.x<8)(j:c.y<8)(m:gp c.k)(o:∀(k:Nat) (t:RT),k<=20->ot t->J t.s t.C->J (oE F c k t).s (oE F c k t).C):∀(p:Nat) (b:Int) (t:RT),gp b->ot t->J t.s t.C->zZ t (qB F c B p b t)/\J (qB F c B p b t).2.2.s (qB F c B p b t).2.2.C
 |0,_,t,_,ht,hj=>⟨⟨uW,ht.s,ht.g0,Ö _,Ö _⟩,hj⟩
 |f+1,b,t,rO,ht,hj=>by
  have S:=ht.g0;have g1:=ht.C;have T:=ht.M;have V:=ht.I;have L:zZ t (0,Ï,{t with g:=0})/\J t.s t.C:=⟨⟨uW,ht.s,Ö _,S,by show(t.C.length:Int)+0<=_;omega⟩,hj⟩;unfold qB;by_cases M:b=B.size
  .rw[if_pos M];exact⟨⟨uW,ht.s,ht.g0,Ö _,Ö _⟩,hj⟩
  rw[if_neg M];by_cases N:(B.size:Int)<b
  .rwa[if_pos N]
  rw[if_neg N];have U_:=rO.1;obtain⟨n,rfl⟩:∃n:Nat,b=n:=⟨b.toNat,Z⟩;have W:n<B.size:=Z
  have k1:=d n W;have X:lQ B (n:Int)<=22:=X_ _;have v:=X' X;let⟨Y,b2,b3,b4,b5,b6⟩:=Mj _ _ v;have am4:lQ B (n:Int)=1->48<=E0 B (n:Int)/\E0 B (n:Int)<=57:=aad;generalize lQ B (n:Int)=k at*;generalize hro:qA k=ro at*;let⟨a,w,z⟩:=ro;simp only at v Y b2 b3 b4 b5 b6|-;by_cases C:mA t.g t.r.length a w z=Ï
  .rwa[if_pos C]
  rw[if_neg C];have oZ:mA t.g t.r.length a w z=Ú:=by cases e:mA t.g t.r.length a w z with
   |true=>rfl
   |false=>exact absurd e C
  let⟨Tt,Cp,Tz⟩:=aac oZ;have D:gp ((n:Int)+1):=⟨Z,Z⟩;have E:∀{l:List Int},(∀p∈l,gp p)->l.length<=32->ot {t with r:=l,g:=t.g-a}:=λG H=>⟨G,H,ht.s,by show 0<=t.g-a;omega,by show t.g-a<=100000;omega,by show(t.C.length:Int)+(t.g-a)<=1000000;omega⟩;have I:∀{l:List Int} {r:Int×Bool×RT},zZ {t with r:=l,g:=t.g-a} r/\J r.2.2.s r.2.2.C->zZ t r/\J r.2.2.s r.2.2.C:=λq=>⟨q.1.r (by show t.g-a<=t.g;omega) (by show(t.C.length:Int)+(t.g-a)<=_;omega),q.2⟩;by_cases p:k=1
  .rw[if_pos p];have:=am4 p;subst p;refine I<|E1 u d h i j m o f _ _ D (E (tD ht.r<|yh ⟨Z,Z⟩) ?_) hj;simp[jd]at v;simp;omega
  rw[if_neg p];by_cases K:k=17
  .rw[if_pos K];have O:=E (pN<|pN ht.r) (by rw[qy,qy];omega);split
   .exact I<|E1 u d h i j m o f _ _ D O hj
   .exact I<|E1 u d h i j m o f _ _ (tC ht.r) O hj
  rw[if_neg K];by_cases O:k=21
  .rw[if_pos O];exact⟨⟨tC ht.r,ht.s,by show 0<=t.g-a;omega,by show t.g-a<=t.g;omega,by show(t.C.length:Int)+(t.g-a)<=_;omega⟩,hj⟩
  rw[if_neg O];by_cases P:k=22
  .rw[if_pos P];exact⟨⟨uW,ht.s,by show 0<=t.g-a;omega,by show t.g-a<=t.g;omega,by show(t.C.length:Int)+(t.g-a)<=_;omega⟩,hj⟩
  rw[if_neg P];have Q:=E ht.r T;let⟨d1,d2,d3⟩:=Z' (t:={t with g:=t.g-a}) h i j m Z Z K v U Q V Cp Tz;let⟨G,H⟩:=E1 u d h i j m o f _ _ D d1<|o k _ Z Q hj;exact⟨G.r (ŷ d2<|by show t.g-a<=t.g;omega) d3,H⟩
def aaf{s:St}{a:List (Nat×Int)}(d:qx F)(b:gM s)(e:c.x<8)(f:c.y<8)(h:gp c.k)(i:0<=c.g)(j:c.g<=100000)(l:(a.length:Int)+c.g<=1000000):zZ ⟨[],s,a,c.g⟩ (oF F c s a):= (E1 (J:=λ_ _=>True) (b.I c.y).1 (λn m=>Ty b c.y m) d e f h (λ_ _ _ _ _=>trivial) _ _ _ uW ⟨fq,fq,b,i,j,l⟩ trivial).1
end
def am5:(À.underlying 144).map İ=Ã Ú:=fw
def aag:(À.info? 144).map (λi=>(i.size,i.zero.map (·.cells.size)))=Ã (145,Ã 145):=fw
def aah(h:(P.info? e).map (λi=>(i.size,i.zero.map (·.cells.size)))=Ã (n,Ã m)):∃i z,P.info? e=Ã i/\i.size=n/\i.zero=Ã z/\z.cells.size=m:=by let⟨i,a,h⟩:=Ì.1 h;simp only[Prod.mk.injEq,Ì]at h;let⟨b,z,c,d⟩:=h;exact⟨i,z,a,b,c,d⟩
def TD(s:St){lv:È}(b:lv.oneCell'=Ú):∀v∈jm s lv,v.oneCell'=Ú:=λv c=>by
 obtain⟨i,a,rfl⟩:=List.getElem_of_mem c;rw[mO]at a;have:=Il s lv a;rw[Ô (by rwa[mO])]at this;injection this with this;rw[this];unfold sk qw;repeat' split
 all_goals first|exact b|rfl
def TF{t:Tmp}{d:TypeDesc}(h:s.results=#[.cell t T])(a:q.getD t ā=Å (Ã ⟨b,0,Ä⟩))(c:w.rangeAt b 0 l)(e:P.underlying T=Ã d)(f:d.isRow=Ú)(g:(P.info? T).map (·.size)=Ã l.length): (ak s q).run P w=φ (Ē l.toArray) w:=by rw[ī]at a;simp only[ak,h];simp[a,asAddr,Ν w b 0 T l d c e f g]
def TG:(À.underlying 252).map İ=Ã Ú:=fw
def TH:(À.info? 252).map (·.size)=Ã 3:=fw
def am6{e:Array ş}{f:List ş}{a:é}(i:o.guard=Ä)(d:õ)(x y:Ů)(j:o.op=.store d x y) (b:Nat) (c:List È) (k:a.eval x=Å (Ã ⟨b,0,Ä⟩)) (l:a.eval y=Ē c.toArray) (m:w.there b 0 c.toArray.size) (n:(P.info? d).map (·.size)=Ã c.toArray.size) (p:c.toArray.all (·.oneCell')=Ú) (h:∀g,g=w.setCells b 0 c->aR P e vJ f (a.put o.dst ā) g):aR P e vJ (o::f) a w:= ľ i d x y j b 0 c.toArray k l m n p<|h _ U
def su(F:me)(c:RC)(s:St)(a:List (Nat×Int)):uU:=
 ⟨c.g-(oF F c s a).2.2.g,(oF F c s a).2.1,(oF F c s a).1,if(oF F c s a).2.1 then(oF F c s a).2.2.s else s,if(oF F c s a).2.1 then(oF F c s a).2.2.C else a⟩
section
variable{E:iZ}{c:RC}{lv:È}{s:St}{f:List (Nat×Int)}{F:me}
def am7(k:fe fh w u)(t:Tr E i (Ê Ä 0 0) lv n u x v f.length W)(o:w.heap.size<=i)(r:R E i c x v zQ s f W):iy E lv n w s f W v:=by
 refine⟨r.C,r.M,?_,λj q=>(t.l j q).imp id λe=>ë k.M e,λb d g h m=>t.C b d g (ik h k λ_ _=>id) m⟩;refine(k.S λ_ _=>ę).C t.r ?_;rintro a p (e|e|e|e)
 .exact Ø e
 .omega
 .cases e
 .exact Ù e
def iy.N{Y:Nat->Prop}(r:iy E lv n w s f W v)(k:fe Y W jX)(m:∀i,Y i->w.heap.size<=i)(o:∀i d,Y i->W.heap[i]?≠Ã (Ð d 257 (0,0)))(p:¬Y E.r):iy E lv n w s f jX v:=by
 have e:∀{a b c},W.ownsRow 0 257 2 a b c->jX.ownsRow 0 257 2 a b c:=λ{a b c} q=>ik q k λj t y=>by let⟨d,u⟩:=mb q t;exact o j d y u
 exact⟨r.r.I k p,e r.I,r.C.C k λi x y=>absurd (m i y) Z,r.l,λa b c g h=>⟨e (r.M a b c g h).1,(r.M a b c g h).2⟩⟩
def iy.qW{a:St}{c:List (Nat×Int)}(ok:E.Ok)(m:w.ownsRow 0 257 2 lv c.length (ku c))(r:iy E lv c.length w s f W v):iy E lv c.length w a c (W.setCells E.r 0<|jm a lv) lv:=by have k:=Iu (b:=E.r) (jm a lv) 0 W<|fj.G r.r ok.C;have l:∀{d e g},W.ownsRow 0 257 2 d e g->(W.setCells E.r 0<|jm a lv).ownsRow 0 257 2 d e g:=λ{d e g} q=>ik q k λj n y=>jG q r.r ok.r.symm (by rw[n,y]);have o:=Mn (T:=E.T) (b:=E.r) (jm a lv) [] E.C W (jm s v) (by rw[mO,mO]) (by have h:=r.r;unfold iF at h;simpa using h);refine⟨by unfold iF;simpa using o,l (r.M _ _ _ m λ_=>Þ _).1,r.C.C k λi _ q=>Ø q,λj q=>Ø q,λd e g p h=>⟨l (r.M d e g p h).1,h⟩⟩
def aai(ok:E.Ok)(pG:0<=c.d)(hd:c.d<=4)(hF:c.d<4->tB F (c.d+1))(hI:qx F)(B:iF E.r E.T E.C s lv w)(G:w.ownsRow 0 257 2 lv f.length (ku f))(hr:iP w)(hs:gM s)(hx:c.x<8)(hy:c.y<8)(Ml:gp c.k)(xu:0<=c.g)(wi:c.g<=100000)(hlen:(f.length:Int)+c.g<=1000000): Ò À 173 #[Å<|Ã ⟨E.r,0,Ä⟩,Â Ë c.x,Â Ë c.y,Â Æ c.g,Â Æ c.k,Â Ë c.d] w λe a=>
  e=Ç (Ē #[Â Æ (su F c s f).r,Ñ (su F c s f).C,Â Æ (su F c s f).M])/\∃v,iy E lv f.length w (su F c s f).s (su F c s f).I a v:=by
 let⟨dd,hdu,hdr⟩:=Ì.1 am5;let⟨i0,z0,I,J,Iv,se⟩:=aah aag;have Mp:=TD s (lv:=lv) (by obtain⟨a,o,rfl⟩:=jl G;rfl);have gV:=fj.M B;have aaj:(À.info? 144).map (·.size)=Ã (jm s lv).length:=by rw[I,mO];simp[J]
 have k0:=fe.gL fh w #[Â Æ 0,Ñ Ï,Â Æ 0] 252;have Qd:(w.alloc<|Ð #[Â Æ 0,Ñ Ï,Â Æ 0] 252).rangeAt E.r 0 (jm s lv):=fj.Y<|B.I k0 id;have h:=fg<|Á hdu<|Á hdr<|Á aaj<|Á Qd<|Á I<|Á Iv<|Á (J.trans (mO s lv).symm)<|Á (se.trans (mO s lv).symm) Mp;have H:=fg<|Á B<|Á G<|Á hr<|Á hF<|Á hI hs;clear hdu hdr I J Iv se Mp aaj Qd B G hr hF hI hs k0;obtain⟨a,b,t,K⟩:∃a b t,oF F c s f=(a,b,t):=⟨_,_,_,U⟩;have iN:su F c s f=⟨c.g-t.g,b,a,if b then t.s else s,if b then t.C else f⟩:=by unfold su;rw[K]
 rw[iN];have C:=aaf H.out.2.2.2.2.1 H.out.2.2.2.2.2 hx hy Ml xu wi hlen;rw[K]at C;have tg0:0<=t.g:=C.g0;have tg1:t.g<=c.g:=C.C;clear C;go_enter Tryz.func173,Tryz.ntmps173;go_wp2_with (first
  |(with_reducible refine ĥ U 144 _ U E.r 0 U (jm s lv) dd h.out.2.2.2.1 h.out.1 h.out.2.1 h.out.2.2.1 ?_)
  |(with_reducible refine aae U U 144 U 13 U _ _ U U h.out.2.2.2.2.1 h.out.2.2.2.2.2.1 (jm s lv) h.out.2.2.2.2.2.2.1 h.out.2.2.2.2.2.2.2.1 U U h.out.2.2.2.2.2.2.2.2 ?_;intro m Mq L EM))
 have vT:m.heap.size=w.heap.size+1+1:=by simpa using EM
 have mq:fj (w.heap.size+1) (jm s lv) 144 m:=by simpa using Mq
 have r:fe fh w (m.alloc<|Ð #[Å<|Ã ⟨E.r,0,Ä⟩,Â Ë c.x,Â Ë c.y,Â Æ c.k,Â Ë c.d,Â Æ c.g,Ê Ä 0 0] 282):=((fe.gL _ _ _ _).fi L).fi<|fe.gL _ _ _ _;have k1:=fe.gL fh m #[Å<|Ã ⟨E.r,0,Ä⟩,Â Ë c.x,Â Ë c.y,Â Æ c.k,Â Ë c.d,Â Æ c.g,Ê Ä 0 0] 282;have hR:R E (w.heap.size+1+1) c (Ê Ä 0 0) lv [] s f (m.alloc<|Ð #[Å<|Ã ⟨E.r,0,Ä⟩,Â Ë c.x,Â Ë c.y,Â Æ c.k,Â Ë c.d,Â Æ c.g,Ê Ä 0 0] 282):= ⟨by rw[<-vT];exact fj.N m (sr E.r c<|Ê Ä 0 0) 282,ĉ _ _ _ _,H.out.1.I r id,ik H.out.2.1 r λ_ _=>id⟩;have Bg:fj w.heap.size [Â Æ 0,Ñ Ï,Â Æ 0] 252 m:=(fj.N w [Â Æ 0,Ñ Ï,Â Æ 0] 252).I L id;have S:=am3 (F:=F) ok hR pG hd H.out.2.2.2.1 H.out.2.2.2.2.1 (H.out.2.2.1.r r id) H.out.2.2.2.2.2 hx hy Ml xu wi hlen;rw[K]at S;go_at_call 191;apply S.mono;clear S;rintro e W ⟨rfl,Ts,TJ,u,M⟩;have aak:=am7 r M Z u;have N:∀{j:Nat} {O:List È} {T:õ},fj j O T m->w.heap.size<=j->fj j O T W:=λ{j O T} hB hj=>by
  refine(hB.I k1 id).I M.r ?_;have:=hB.M;rintro(q|q|q|q)
  .omega
  .omega
  .cases q
  .have:=(H.out.2.1.lt j q).2;omega
 have n:=N Bg<|Þ _;have aal:=N mq Z;have e0:=n.r 0 _ U;have e1:=n.r 1 _ U;have e2:=n.r 2 _ U;have f0:=n.C 0;have f1:=n.C 1;have f2:=n.C 2;have g5:W.cell? ⟨w.heap.size+1+1,5,Ä⟩=Ã (Â Æ t.g):=u.r.r 5 _ U;have ajV:=u.r.M;have l:=fg<|Á aak<|Á u<|Á n aal;clear aak u M n aal N hR Bg mq r k1 Mq L EM vT;cases b with
 |true=>
  go_wp2_with fail
  let⟨d2,P,Q⟩:=Ì.1 TG;have o:=((l.out.2.2.1.fV 0<|Â Æ<|c.g-t.g).fV 1<|Ñ Ú).fV 2<|Â Æ a;apply ð (TF U U (fj.Y (tl:=[]) (vs:=[Â Æ<|c.g-t.g,Ñ Ú,Â Æ a]) o) P Q TH) U;refine⟨U,TJ,l.out.1.N (Y:=λk=>k=w.heap.size) (((fe.I (X:=λk=>k=w.heap.size) (p:=⟨w.heap.size,0,Ä⟩) U _).fi<|fe.I (X:=λk=>k=w.heap.size) (p:=⟨w.heap.size,1,Ä⟩) U _).fi<|fe.I (X:=λk=>k=w.heap.size) (p:=⟨w.heap.size,2,Ä⟩) U _) (λi q=>by omega) (λi cur q z=> ?_) Z⟩;have D:W.heap[w.heap.size]?=_:=l.out.2.2.1;rw[q,D]at z;cases z
 |false=>
  have rg:W.rangeAt (w.heap.size+1) 0 (jm s lv):=fj.Y (tl:=[]) (by simpa using l.out.2.2.2);have th:W.there E.r 0 (jm s lv).toArray.size:=by have:=l.out.1.r;unfold iF at this;exact this.TC<|by simp only[ć,Ó,mO];omega
  have aam:(À.info? 144).map (·.size)=Ã (jm s lv).toArray.size:=by rw[h.out.2.2.1];simp
  have nK:=Ī h.out.2.2.2.2.2.2.2.2;have HNF:=fg<|fj.G l.out.2.1.C ok.C;have D:=fg<|Á rg<|Á th<|Á aam nK;clear rg th aam nK;go_wp2_with (first
   |(with_reducible refine ĥ U 144 _ U (w.heap.size+1) 0 U (jm s lv) dd D.out.1 h.out.1 h.out.2.1 h.out.2.2.1 ?_)
   |(with_reducible refine am6 U 144 _ _ U E.r (jm s lv) U U D.out.2.1 D.out.2.2.1 D.out.2.2.2 ?_;intro jX V;have kb:fe (λk=>k=E.r) W jX:=(by rw[V];exact Iu _ _ _ HNF.out);have o:=l.out.2.2.1.I kb Z;have p0:=o.r 0 _ U;have p1:=o.r 1 _ U;have p2:=o.r 2 _ U;have y0:=o.C 0;have y1:=o.C 1;have y2:=o.C 2;have TK:=l.out.2.1.r.I kb Z;have p5:jX.cell? ⟨w.heap.size+1+1,5,Ä⟩=Ã (Â Æ t.g):=TK.r 5 _ U;have hl4:=TK.M;have HB4:=fg o;clear kb o TK;have HW:=fg V;clear V))
  let⟨d2,P,Q⟩:=Ì.1 TG;apply ð (TF U U (fj.Y (tl:=[]) (vs:=[Â Æ<|c.g-t.g,Ñ Ï,Â Æ a])<|((HB4.out.fV 0<|Â Æ<|c.g-t.g).fV 1<|Ñ Ï).fV 2<|Â Æ a) P Q TH) U;have o:iy E lv f.length w s f jX lv:=by rw[HW.out];exact l.out.1.qW ok H.out.2.1
  refine⟨U,lv,o.N (Y:=λk=>k=w.heap.size) (((fe.I (X:=λk=>k=w.heap.size) (p:=⟨w.heap.size,0,Ä⟩) U _).fi<|fe.I (X:=λk=>k=w.heap.size) (p:=⟨w.heap.size,1,Ä⟩) U _).fi<|fe.I (X:=λk=>k=w.heap.size) (p:=⟨w.heap.size,2,Ä⟩) U _) (λi q=>by omega) (λi cur q z=> ?_) Z⟩;rw[q,HB4.out]at z;cases z
end
def z8:Nat->me
 |0=>λs a _ _ _ _=>⟨0,Ï,0,s,a⟩
 |n+1=>λs a x y g k=>su (z8 n) ⟨x,y,k,4-(n:Int),g⟩ s a
theorem am8{F:me}(d:qx F){c:RC}{s:St}{a:List (Nat×Int)}(b:gM s)(e:c.x<8)(f:c.y<8)(i:gp c.k)(j:0<=c.g)(l:c.g<=100000)(m:(a.length:Int)+c.g<=1000000):T_ a c.g (su F c s a):=by
 have h:=aaf d b e f i j l m;have p:=h.g0;have n:=h.C;have o:=h.I;simp only at n o;unfold su;refine⟨by simp only;omega,by simp only;omega,?_,h.M,?_⟩
 .simp only;split
  .exact h.s
  .exact b
 .grind
def Iw:∀n,qx<|z8 n
 |0=>λs a x y g k b _ _ _ d _ _=>⟨Ö _,d,b,uW,by show(a.length:Int)<=a.length+0;omega⟩
 |n+1=>λs a x y g k b d e f h i j=>am8 (c:=⟨x,y,k,4-(n:Int),g⟩) (Iw n) b d e f h i j
def aan:∀n,n<=3->tB (z8<|n+1) (4-(n:Int))
 |0,_=>λE a s t u x y g k w b d f i j l m o p r=>aai (c:=⟨x,y,k,4-((0:Nat):Int),g⟩) (F:=z8 0) a (show(0:Int)<=4-((0:Nat):Int) by decide) (show(4:Int)-((0:Nat):Int)<=4 by decide) (λq=>absurd q<|show¬(4:Int)-((0:Nat):Int)<4 by decide) (Iw 0) b d f i j l p m o r
 |n+1,h=>λE a s t u x y g k w b d f i j l m o p r=>by
  have e:(4:Int)-((n+1:Nat):Int)+1=4-(n:Int):=Z
  exact aai a (by show 0<=4-((n+1:Nat):Int);omega) (by show 4-((n+1:Nat):Int)<=4;omega) (λ_=>by show tB _ (4-((n+1:Nat):Int)+1);rw[e];exact(aan n Z)) (Iw<|n+1) b d f i j l p m o r
def fX:me:=z8 4
def Ix:qx fX:=Iw 4
def aao:tB fX 1:=aan 3 A
def iF.n7{tl:List È}{s:St}(h:iF b T tl s v w)(k:fe X w u)(a:¬X b):iF b T tl s v u:=fj.I h k a
section
variable{E:iZ}{lv:È}{w1:É}{s B d:St}{ls f r:List (Nat×Int)}
theorem iy.gd(a:iF E.r E.T E.C s lv w)(b:w.ownsRow 0 257 2 lv ls.length (ku ls)):iy E lv ls.length w s ls w lv:= ⟨a,b,fe.gd _ _,λ_ q=>Ø q,λ_ _ _ c d=>⟨c,d⟩⟩
def iy.fi(h:iy E lv n w B f w1 v)(k:iy E v f.length w1 d r u jQ):iy E lv n w d r u jQ:=by
 refine⟨k.r,k.I,h.C.C k.C ?_,λj q=> ?_,λa b c g m=> ?_⟩
 .rintro i o (e|e)
  .exact Ø e
  .exact Ù<|(h.l i e).resolve_right Z
 .rcases k.l j q with e|e
  .exact h.l j e
  .exact Ù<|ë h.C.M e
 .let⟨e,i⟩:=h.M a b c g m;exact k.M a b c e i
def iy.fP(h:iy E lv n w s ls w1 v)(k:fe fh w1 u):iy E lv n w s ls u v:= h.N k (λ_=>ę) (λ_ _=>ę) id
def iy.Y(ok:E.Ok)(h:iy E lv n w s ls w1 v)(i:Nat)(k:iF E.r E.T E.C d v (w1.setCell ⟨E.r,i,Ä⟩ x)):iy E lv n w d ls (w1.setCell ⟨E.r,i,Ä⟩ x) v:=by have e:=fe.I (X:=λk=>k=E.r) (p:=⟨E.r,i,Ä⟩) U x<|Ù<|fj.G h.r ok.C;have f:∀{a b c},w1.ownsRow 0 257 2 a b c->(w1.setCell ⟨E.r,i,Ä⟩ x).ownsRow 0 257 2 a b c:=λ{a b c} q=>ik q e λj o y=>jG q h.r ok.r.symm (by rw[o,y]);exact⟨k,f h.I,h.C.C e λi _ q=>Ø q,h.l,λa b c g m=>⟨f (h.M a b c g m).1,(h.M a b c g m).2⟩⟩
def iy.fB(ok:E.Ok)(h:iy E lv n w s ls w1 v)(a:i<8)(x:Int):iy E lv n w (s.fB i x) ls (w1.setCell ⟨E.r,i*18,Ä⟩<|Â Æ x) v:=h.Y ok _<|h.r.zU a x
def iy.Mg(ok:E.Ok)(h:iy E lv n w s ls w1 v)(a:i<8)(x:ByteArray):iy E lv n w (s.C i x) ls (w1.setCell ⟨E.r,i*18+1,Ä⟩<|Í x) v:=h.Y ok _<|h.r.alZ a x
end
def yi(s:St)(x y:Nat)(n:Int):Bool×St:=
 if(s x).fB<n+10 then(Ï,s)else(Ú,(s.fB x<|(s x).fB-(n+10)).fB y<|wu<|(s.fB x ((s x).fB-(n+10)) y).fB+n)
section
variable{E:iZ}{lv:È}{s:St}{ls:List (Nat×Int)}
def am9(ok:E.Ok)(c:iF E.r E.T E.C s lv w)(g:w.ownsRow 0 257 2 lv ls.length (ku ls))(f:gM s)(x y:Nat)(n:Int)(a:x<8)(d:y<8)(h:0<=n)(i:n<=1000000): Ò À 168 #[Å<|Ã ⟨E.r,0,Ä⟩,Â Ë x,Â Ë y,Â Æ n] w λe m=>e=Ç (Ñ (yi s x y n).1)/\iy E lv ls.length w (yi s x y n).2 ls m lv:=by
 have j:=c.fB a;have k:=fj.C c<|x*18;have l:=(f.fB x).1;have o:=(f.fB x).2;have p:∀m,((w.drewN m).setCell ⟨E.r,x*18,Ä⟩<|Â Æ<|(s x).fB-(n+10)).cell? ⟨E.r,y*18,Ä⟩=Ã (Â Æ (s.fB x ((s x).fB-(n+10)) y).fB):=λm=>((c.n7 (fe.iV fh w m) id).zU a _).fB d;have q:∀m,((w.drewN m).setCell ⟨E.r,x*18,Ä⟩<|Â Æ<|(s x).fB-(n+10)).frozen? ⟨E.r,y*18,Ä⟩=Ï:=λm=>fj.C ((c.n7 (fe.iV fh w m) id).zU a _) _;have r:=(c.zU a<|(s x).fB-(n+10)).fB d;have t:=fj.C (c.zU a<|(s x).fB-(n+10))<|y*18;have H:=fg<|iy.gd c g;unfold yi;by_cases e:(s x).fB<n+10
 .rw[if_pos e];generalize(s x).fB=b at*;go_enter ar,κ;go_wp2_with fail;go_ret;exact⟨U,H.out⟩
 .rw[if_neg e];generalize(s.fB x ((s x).fB-(n+10)) y).fB=b2 at*;generalize(s x).fB=b at*;go_enter ar,κ;go_wp2_with fail;go_region;go_wp2_with fail;go_region;go_wp2_with fail;go_ret;refine⟨U,?_⟩;first
   |exact((H.out.fB ok a _).fB ok d _).fP<|fe.iV _ _ _
   |exact(((H.out.fP<|fe.iV _ _ _).fB ok a _).fB ok d _)
   |exact(((H.out.fP<|fe.fY _ _).fB ok a _).fP<|fe.fY _ _).fB ok d _
   |exact((H.out.fB ok a _).fB ok d _).still<|(Keep.drew _ _).trans<|Keep.drew _ _
end
def ana(a:ko w)(p:ă)(n:Nat):ko (w.freeze p n):=by
 unfold Đ;split
 .exact a
 .intro i o h;simp only[Û]at h;split at h
  .cases b:w.heap[i]? with
   |none=>rw[b]at h;cases h
   |some d=>
    have:=a _ _ b;rw[b]at h;cases d with
    |cells c t z=>simp only[ñ,è]at h;subst h;exact λx=>x
    |_=>exact absurd trivial this
  .exact a i o h
def aap(a:sj m w)(p:ă)(n:Nat):sj m (w.freeze p n):=by
 unfold Đ;split
 .exact a
 .intro i c T f e h b;simp only[Û]at h;split at h
  .cases d:w.heap[i]? with
   |none=>rw[d]at h;cases h
   |some g=>
    rw[d]at h;cases g with
    |cells j t z=>
     simp only[ñ,è,ģ]at h;rw[<-h.1];rw[<-h.2.1]at b;exact a _ _ _ _ e d b
    |_=>cases h
  .exact a i c T f e h b
theorem anb{w w1:World}{g:Nat}{cur Y:Array Value}{e:TypeId}{z:Nat×Nat}(hw:fe fh w w1)(hg:w1.heap[g]?=some (.cells cur e z))(avv:w.heap.size<=g)(he:my e=false:=by decide):fe fh w (w1.setRow g Y):=by
 refine⟨by simpa using hw.M,λk hk _=>(ė w1 g k Y Z).trans<|hw.N k hk id,λal i o ho=> ?_,λm a i c T fr hm h hT=> ?_⟩;rotate_left
 .by_cases hi:i=g
  .subst hi;rw[ĝ w1 i cur Y e z hg]at h;grind
  .rw[ė w1 g i Y hi]at h;exact hw.Y m a i c T fr hm h hT
 by_cases hi:i=g
 .subst hi;rw[ĝ w1 i cur Y e z hg]at ho;cases ho;exact λx=>x
 .rw[ė w1 g i Y hi]at ho;exact hw.gW al i o ho
def anc(b:fe fh w u)(e:w.heap.size<=p.block):fe fh w (u.freeze p n):=by
 refine⟨?_,λk c _=> ?_,λd=>ana (b.gW d) p n,λm a=>aap (b.Y m a) p n⟩
 .unfold Đ;split
  .exact b.M
  .simpa using b.M
 .unfold Đ;split
  .exact b.N k c id
  .simp only[Û];rw[if_neg Z];exact b.N k c id
def TL:(À.info? 5).map (λi=>(i.zero,i.size,i.bytes))=Ã (Ã<|Â aU 0,1,1):=fw
def ane(n:Nat)(e:n<=1000000):∃M:Array È,M.size=n/\∀W:É,(Instr.makeSlice 107 (Â Ë (n:Int))<|Â Ë (n:Int)).run À W=φ (Ê (Ã ⟨W.heap.size,0,Ä⟩) n n) (W.alloc<|Ð M 5):=by let⟨i,a,b,c,d⟩:=í TL;refine⟨madeCells (Â aU 0).cells<|(n:Int).toNat*i.size,by rw[size_madeCells,c];simp,λW=> ?_⟩;simpa using run_make W 107 5 i (Â aU 0) ý a b Ë Ë n n Z Z (by rw[d];omega) Z
theorem anf{M:Array È}(e:M.size=B.size)(b:W.heap[i]?=Ã (Ð M 5 (0,0))): (ν #[107,9] 3 #[Ê (Ã ⟨i,0,Ä⟩) B.size B.size,Í B]).run À W=φ (goInt B.size) (W.setRow i (ô B.data.toList).toArray):=by let⟨a,c,_,d,_⟩:=í TL;have h:=Lib.run_copy_row_string W 107 9 3 5 i 0 B.size B.size B M 5 ý (by rw[c];simp[d]) b (Þ _) Z;grind [List.drop_of_length_le]
def ang(d:B.size≠0)(m:B.size<=1000000)(c:W.heap[i]?=Ã (Ð (ô B.data.toList).toArray 5 (0,0))): (Ő #[177,3] 9 #[Å<|Ã ⟨i,0,Ä⟩,Â Ë (B.size:Int)]).run À W=φ (Í B) (W.freeze ⟨i,0,Ä⟩ B.size):=by
 let⟨a,f,_,k,_⟩:=í TL;have b:=Lib.size_eq B;have l:(ô B.data.toList).toArray.size=B.size:=by rw[ć,Ř,<-b]
 have h:=Ĺ W 177 3 9 5 Ū (by simp[Program.cellsOf,f,k]) i B.size (by unfold Ÿ;rw[c];simp only[l]) B.data.toList (by intro e;rw[e]at b;exact d b) Z Z (λj x e=>Lib.cells_of_row c _ j _<|by rw[List.take_of_length_le<|Þ _];simp[ô,e]);rwa[<-b]at h
def anh(s:ByteArray)(a:s.size<=1000000)(w:É):Ò À 196 #[Í s] w λe c=>e=Ç (Í s)/\fe fh w c:=by
 by_cases b:s.size=0
 .have d:=bq<|Array.eq_empty_of_size_eq_zero b;subst d;go_enter au,ξ;go_wp2;go_ret;exact⟨U,fe.gd _ _⟩
 .let⟨M,d,mk⟩:=ane s.size a;have g:=anf d<|ì w<|Ð M 5;have h:=ang b a<|ĝ (w.alloc<|Ð M 5) w.heap.size M (ô s.data.toList).toArray 5 (0,0)<|ì w _;have f:=fg<|anc (p:=⟨w.heap.size,0,Ä⟩) (n:=s.size) (anb (Y:=(ô s.data.toList).toArray) (fe.gL fh w M 5) (ì w _)<|Þ _)<|Þ _;generalize(ô s.data.toList).toArray=Y at*;go_enter au,ξ;go_wp2;go_ret;exact⟨U,f.out⟩
def ani(s:ByteArray)(a:s.size<=1000000)(w:É):Ò À 186 #[Í s] w λe b=>e=Ç (Í s)/\fe fh w b:=by go_enter Tryz.func186,Tryz.ntmps186;go_wp2_with (go_at_call 196;refine(anh s a _).mono ?_;rintro e d ⟨rfl,c⟩);go_ret;exact⟨U,c⟩
def yj(s:St)(x:Nat)(p:ByteArray):Bool×St:=
 if(s x).fB<20 then(Ï,s)else(Ú,(s.fB x<|(s x).fB-20).C x p)
def Aa{t u:Tmp}{cs:List È}{d:TypeDesc}(h:s.results=#[.cell t T,.tmp u])(a:q.getD t ā=Å (Ã ⟨b,0,Ä⟩))(c:w.rangeAt b 0 cs)(e:P.underlying T=Ã d)(f:d.isRow=Ú)(g:(P.info? T).map (·.size)=Ã cs.length): (ak s q).run P w=φ (æ #[Ē cs.toArray,q.getD u ā]) w:=by have i:=Ν w b 0 T cs d c e f g;rw[ī]at a;simp only[ak,h];simp[a,asAddr,i]
def Iy:(À.underlying 246).map İ=Ã Ú:=fw
def Cs:(À.info? 246).map (·.size)=Ã 2:=fw
section
variable{E:iZ}{lv:È}{s:St}{ls:List (Nat×Int)}
def anj(ok:E.Ok)(a:iF E.r E.T E.C s lv w)(h:w.ownsRow 0 257 2 lv ls.length (ku ls))(f:gM s)(x:Nat)(p:ByteArray)(c:x<8)(i:p.size<=1000000): Ò À 169 #[Å<|Ã ⟨E.r,0,Ä⟩,Â Ë x,Í p] w λe d=>e=Ç (Ñ (yj s x p).1)/\iy E lv ls.length w (yj s x p).2 ls d lv:=by
 have k:=fj.M a;have l:=a.fB c;have m:=fj.C a<|x*18;have n:=(f.fB x).1;have o:=(f.fB x).2;have q:(0:Int)<=(x:Int):=Z
 have r:(x:Int)<8:=Z
 have H:=fg<|iy.gd a h;unfold yj;by_cases g:(s x).fB<20
 .rw[if_pos g];generalize(s x).fB=b at*;go_enter av,ο;go_wp2_with fail;go_ret;exact⟨U,H.out⟩
 .rw[if_neg g];generalize(s x).fB=b at*;go_enter av,ο;go_wp2_with fail;go_region;go_wp2_with fail;go_region_held3 (λ_=>True) (trivial) (first
    |(go_at_call 186;refine(ani p i _).mono ?_;rintro e t ⟨rfl,j⟩;dsimp only;have d:=((H.out.fB ok c (b-20)).fP (fe.iV fh _ 2)).fP j;have u:=d.r.Mg c;have v:=fj.C d.r (x*18+1)))
  go_wp2_with fail
  go_ret;exact⟨U,d.Mg ok c p⟩
def Ab(s:St)(ls:List (Nat×Int))(x y:Nat)(n k:Int):(Int×Bool)×Bool×St×List (Nat×Int):=
 if n<10\/400<n\/(s x).fB<n then((0,Ï),Ï,s,ls)
 else(((fX (s.fB x<|(s x).fB-n) ls x y (n-10) k).r+10,(fX (s.fB x<|(s x).fB-n) ls x y (n-10) k).C),Ú,
  (fX (s.fB x ((s x).fB-n)) ls x y (n-10) k).s.fB x (wu (((fX (s.fB x ((s x).fB-n)) ls x y (n-10) k).s x).fB+(n-((fX (s.fB x ((s x).fB-n)) ls x y (n-10) k).r+10)))),(fX (s.fB x ((s x).fB-n)) ls x y (n-10) k).I)
def ank(a:iF E.r E.T E.C s lv w)(c:w.ownsRow 0 257 2 lv ls.length (ku ls))(x y:Nat)(n k:Int)(d:x<8)(j:0<=n)(l:n<10\/400<n\/(s x).fB<n): Ò À 170 #[Å<|Ã ⟨E.r,0,Ä⟩,Â Ë x,Â Ë y,Â Æ n,Â Æ k] w λe H=>e=Ç (æ #[Ē #[Â Æ 0,Ñ Ï],Ñ Ï])/\iy E lv ls.length w s ls H lv:=by
 have m:=fj.M a;have o:=a.fB d;have p:(0:Int)<=(x:Int):=Z
 have q:(x:Int)<8:=Z
 let⟨r,f,g⟩:=Ì.1 Iy;have H:=fg<|Á (iy.gd a c)<|Á f g;generalize(s x).fB=b at*;by_cases h:n<10
 .go_enter Ņ,ĺ;go_wp2_with fail;have e:=fe.gL fh w #[Â Æ 0,Ñ Ï] 246;apply ð (Aa U U (fj.Y (vs:=[Â Æ 0,Ñ Ï])<|fj.N w [Â Æ 0,Ñ Ï] 246) H.out.2.1 H.out.2.2 Cs) U;exact⟨U,H.out.1.fP e⟩
 .have t:=decide_eq_false h;by_cases i:400<n
  .go_enter Ņ,ĺ;go_wp2_with fail;have e:=fe.gL fh w #[Â Æ 0,Ñ Ï] 246;apply ð (Aa U U (fj.Y (vs:=[Â Æ 0,Ñ Ï])<|fj.N w [Â Æ 0,Ñ Ï] 246) H.out.2.1 H.out.2.2 Cs) U;exact⟨U,H.out.1.fP e⟩
  .have u:=decide_eq_false i;have v:b<n:=Z
   go_enter Ņ,ĺ;go_wp2_with fail;have e:=fe.gL fh w #[Â Æ 0,Ñ Ï] 246;apply ð (Aa U U (fj.Y (vs:=[Â Æ 0,Ñ Ï])<|fj.N w [Â Æ 0,Ñ Ï] 246) H.out.2.1 H.out.2.2 Cs) U;exact⟨U,H.out.1.fP e⟩
def anl(ok:E.Ok)(a:iF E.r E.T E.C s lv w)(l:w.ownsRow 0 257 2 lv ls.length (ku ls))(m:iP w)(g:gM s)(x y:Nat)(n k:Int)(c:x<8)(B:y<8)(D:gp k)(H5:10<=n)(vV:n<=400)(avw:n<=(s x).fB)(hlen:(ls.length:Int)+n<=1000000)(r:uU)(o:r=fX (s.fB x<|(s x).fB-n) ls x y (n-10) k): Ò À 170 #[Å<|Ã ⟨E.r,0,Ä⟩,Â Ë x,Â Ë y,Â Æ n,Â Æ k] w λe t=>e=Ç (æ #[Ē #[Â Æ<|r.r+10,Ñ r.C],Ñ Ú])/\∃u,iy E lv ls.length w (r.s.fB x<|wu<|(r.s x).fB+(n-(r.r+10))) r.I t u:=by
 have gV:=fj.M a;have d1:=a.fB c;have f1:=fj.C a<|x*18;have YA:(0:Int)<=(x:Int):=Z
 have Bb:(x:Int)<8:=Z
 have b0:=(g.fB x).1;have b1:=(g.fB x).2;have v:gM (s.fB x<|(s x).fB-n):=g.r x ⟨Z,Z⟩;have h:=Ix _ ls x y (n-10) k v c B D Z Z Z;have F:=iy.gd a l;have C:∀W j,iy E lv ls.length w (s.fB x<|(s x).fB-n) ls W j->iP W->Ò À 173 #[Å<|Ã ⟨E.r,0,Ä⟩,Â Ë x,Â Ë y,Â Æ<|n-10,Â Æ k,Â Ë 1] W λe t=>e=Ç (Ē #[Â Æ r.r,Ñ r.C,Â Æ r.M])/\∃u,iy E j ls.length W r.s r.I t u:=λW j G P=>by rw[o];exact aao E ok _ j ls x y (n-10) k W G.r G.I P v c B Z Z D Z
 rw[<-o]at h;have u0:=h.C;have u1:=h.r;let⟨d2,I,J⟩:=Ì.1 Iy;have K:∀i,iP (w.setCell ⟨E.r,i,Ä⟩<|Â Æ<|(s x).fB-n):=λi=>m.r (fe.I (X:=λk=>k=E.r) U _) λq=>m.C a ok.N q.symm;have H:=fg<|Á F<|Á C<|Á K<|Á I<|Á J l;clear a l m g v h F C K I J o;generalize(s x).fB=b at*;have e1:decide (n<10)=Ï:=decide_eq_false Z;have e2:decide (400<n)=Ï:=decide_eq_false Z;have e3:decide (b<n)=Ï:=decide_eq_false Z;generalize Q:(r.s x).fB=b2;go_enter Ņ,ĺ;go_wp2_with fail;have L:=(H.out.1.fB ok c<|b-n).fP<|fe.gL fh _ #[Â Æ 0,Ñ Ï] 246;go_at_call 173;refine(H.out.2.1 _ _ L<|(H.out.2.2.1 _).r (fe.gL fh _ _ _) id).mono ?_;rintro e S ⟨rfl,V,f⟩;have d:fj w.heap.size [Â Æ 0,Ñ Ï] 246 S:=by
  have z:fj w.heap.size [Â Æ 0,Ñ Ï] 246 ((w.setCell ⟨E.r,x*18,Ä⟩<|Â Æ<|b-n).alloc<|Ð #[Â Æ 0,Ñ Ï] 246):=by have:=fj.N (w.setCell ⟨E.r,x*18,Ä⟩<|Â Æ<|b-n) [Â Æ 0,Ñ Ï] 246;simpa using this
  refine z.I f.C ?_;rintro(q|q)
  .omega
  .have:=(H.out.2.2.2.2.2.lt _ q).2;omega
 have Y:=f.r.fB c;have z1:=fj.C f.r<|x*18;have E2:=fj.M f.r;have TM:=d.M;have c0:=d.r 0 _ U;have c1:=d.r 1 _ U;have y0:=d.C 0;have y1:=d.C 1;have M:=fg<|Á (L.fi f) d;rw[Q]at Y;go_wp2_with fail;go_region;go_wp2_with fail;have q1:=M.out.1.fB ok c<|wu<|b2+(n-(r.r+10));have N:=M.out.2.I (fe.I (X:=λk=>k=E.r) (p:=⟨E.r,x*18,Ä⟩) U<|Â Æ<|wu<|b2+(n-(r.r+10))) Z;have q2:=q1.N ((fe.I (X:=λk=>k=w.heap.size) (p:=⟨w.heap.size,0,Ä⟩) U<|Â Æ<|r.r+10).fi<|fe.I (X:=λk=>k=w.heap.size) (p:=⟨w.heap.size,1,Ä⟩) U<|Ñ r.C) (λi q=>by omega) (λi cur q O=>by have z:=N;rw[q,z]at O;cases O) Z;have z:∀W:É,∀O,fe fh W ((W.alloc<|Ð O 252).drew):=λW O=>(fe.gL _ _ _ _).fi<|fe.fY _ _;have hb:=(((N.fV 0<|Â Æ<|r.r+10).fV 1<|Ñ r.C)).I (z _ #[Â Æ<|r.r+10,Ñ r.C,Â Æ r.M]) id;apply ð (Aa U U (fj.Y (vs:=[Â Æ<|r.r+10,Ñ r.C]) hb) H.out.2.2.2.1 H.out.2.2.2.2.1 Cs) U;exact⟨U,V,q2.fP<|z _ _⟩
end
structure Tx where
 x:Nat
 y:Nat
 n:Int
 k:Int
 r:Int
 C:ByteArray
structure mg(a:Nat)(t:Tx)(w:É):Prop where
 b:∃cs fz,w.heap[a]?=Ã (Ð cs 200 fz)
 r:w.cell? ⟨a,0,Ä⟩=Ã (Â Ë t.x)
 C:w.cell? ⟨a,1,Ä⟩=Ã (Â Ë t.y)
 I:w.cell? ⟨a,2,Ä⟩=Ã (Â Ë t.n)
 M:w.cell? ⟨a,3,Ä⟩=Ã (Â Ë t.k)
 Y:w.cell? ⟨a,4,Ä⟩=Ã (Â Ë t.r)
 N:w.cell? ⟨a,5,Ä⟩=Ã (Í t.C)
structure Tx.Ok(t:Tx):Prop where
 x:t.x<8
 y:t.y<8
 I:0<=t.n
 M:t.n<1000000
 r:0<=t.k
 C:t.k<1000000
 N:t.C.size<=40/\∀c∈t.C.data.toList,ye c=Ú
def mg.G{t:Tx}(h:mg i t w):i<w.heap.size:=á w _ h.r
def mg.S{t:Tx}(h:mg i t w)(k:fe X w u)(b:¬X i):mg i t u:=by let⟨c,d,e⟩:=h.b;exact⟨⟨c,d,by rwa[k.N i h.G b]⟩,k.r h.r b,k.r h.C b,k.r h.I b,k.r h.M b,k.r h.Y b,k.r h.N b⟩
def mg.iX{t:Tx}(h:mg i t w)(c:w.heap[j]?=Ã (Ð d T xJ))(e:T≠200):i≠j:=by rintro rfl;let⟨f,g,b⟩:=h.b;rw[c]at b;cases b;exact e U
def mg.yf{E:iZ}{t:Tx}{s c:St}{ls b:List (Nat×Int)}(d:E.T≠200)(h:mg i t w)(e:iF E.r E.T E.C c v w)(f:w.ownsRow 0 257 2 v b.length (ku b))(r:iy E v n w s ls u x):mg i t u:=by
 refine h.S r.C ?_;rintro(q|q)
 .exact h.iX e d q
 .let⟨j,g⟩:=mb f q;exact h.iX g A U
def mD(s:St)(ls:List (Nat×Int))(t:Tx):(Int×Bool)×Bool×St×List (Nat×Int):=
 if t.r=1 then((10,Ú),(yi s t.x t.y t.n).1,(yi s t.x t.y t.n).2,ls)
 else if t.r=2 then((20,Ú),(yj s t.x t.C).1,(yj s t.x t.C).2,ls)
 else Ab s ls t.x t.y t.n t.k
def E3(a:0<=h)(b:h<1000000):Æ.wrap h=h:=by show wu h=h;exact al1 a Z
def Iz(E:iZ)(a:È)(n:Nat)(w:É)(o:(Int×Bool)×Bool×St×List (Nat×Int))(e:ax)(b:É):Prop:=
 e=Ç (æ #[Ē #[Â Æ o.1.1,Ñ o.1.2],Ñ o.2.1])/\∃c,iy E a n w o.2.2.1 o.2.2.2 b c
def anm{E:iZ}{s:St}{ls:List (Nat×Int)}(ok:E.Ok)(b:iF E.r E.T E.C s v w)(c:w.ownsRow 0 257 2 v ls.length (ku ls))(f:iP w)(g:gM s)(x y:Nat)(n k:Int)(d:x<8)(i:y<8)(j:gp k)(l:0<=n)(m:(ls.length:Int)+400<=1000000): Ò À 170 #[Å<|Ã ⟨E.r,0,Ä⟩,Â Ë x,Â Ë y,Â Æ n,Â Æ k] w (Iz E v ls.length w<|Ab s ls x y n k):=by
 unfold Ab;by_cases a:n<10\/400<n\/(s x).fB<n
 .rw[if_pos a];exact(ank b c x y n k d l a).mono λe o h=>⟨h.1,v,h.2⟩
 .rw[if_neg a];exact anl ok b c f g x y n k d i j Z Z Z Z _ U
def iy.S{E:iZ}{s:St}{ls:List (Nat×Int)}(k:fe fh w W)(r:iy E v n W s ls u x):iy E v n w s ls u x:= ⟨r.r,r.I,(k.S λ_ _=>ę).C r.C λ_ _ q=>q,λj q=>(r.l j q).imp id λe=>ë k.M e,λa b c d f=>r.M a b c (ik d k λ_ _=>id) f⟩
section
variable{E:iZ}{lv:È}{s:St}{ls:List (Nat×Int)}{a:Nat}{t:Tx}
def TN{zM:Value}{w1:World}{n:Nat}{s1:St}{ls1:List (Nat×Int)}(r:iy E lv n w s1 ls1 w1 zM)(hB:fj w.heap.size [.int .u64 0,.bool false] 246 w1)(hlb:E.r<w.heap.size)(v0 v1:Value)(hf0:kt v0=true:=by rfl)(hf1:kt v1=true:=by rfl): iy E lv n w s1 ls1 ((w1.setCell ⟨w.heap.size,0,none⟩ v0).setCell ⟨w.heap.size,1,none⟩ v1) zM/\fj w.heap.size [v0,v1] 246 ((w1.setCell ⟨w.heap.size,0,none⟩ v0).setCell ⟨w.heap.size,1,none⟩ v1):=by refine⟨r.N (Y:=λk=>k=w.heap.size) ((fe.I (X:=λk=>k=w.heap.size) (p:=⟨w.heap.size,0,Ä⟩) U v0<|Ø hf0).fi<|fe.I (X:=λk=>k=w.heap.size) (p:=⟨w.heap.size,1,Ä⟩) U v1<|Ø hf1) (λi q=>by omega) (λi cur q hc=> ?_) Z,(hB.fV 0 v0).fV 1 v1⟩;rw[q,hB]at hc;cases hc
def TO{W:É}{a:St}{b:List (Nat×Int)}{cs:List È}(c:jX=(w.alloc<|Ð cs.toArray T).drewN 1\/jX=w.alloc (Ð cs.toArray T))(d:w.ownsRow 0 257 2 lv ls.length (ku ls))(f:E.r<w.heap.size)(r:iy E lv n jX a b u v):fj w.heap.size cs T u:=by
 have e:fj w.heap.size cs T jX:=by
  rcases c with rfl|rfl
  .exact fj.N w cs T
  .exact fj.N w cs T
 refine e.I r.C ?_;rintro(q|q)
 .omega
 .have:=(d.lt _ q).2;omega
def ano(ok:E.Ok)(Q:E.T≠200)(l:iF E.r E.T E.C s lv w)(m:w.ownsRow 0 257 2 lv ls.length (ku ls))(z:iP w)(B:gM s)(c:mg a t w)(d:t.Ok)(hlen:(ls.length:Int)+400<=1000000)(D:t.r=1): Ò À 154 #[Å<|Ã ⟨E.r,0,Ä⟩,Å<|Ã ⟨a,0,Ä⟩] w (Iz E lv ls.length w<|mD s ls t):=by
 have F:=fj.M l;have hla:=c.G;have S:=c.r;have V:=c.C;have Y:=c.I;have c3:=c.M;have c4:=c.Y;have c5:=c.N;have hn:=E3 d.I d.M;have hk:=E3 d.r d.C;let⟨d2,G,I⟩:=Ì.1 Iy;have J:=fg<|Á G I;clear G I;have g:=(fe.gL fh w #[Â Æ 0,Ñ Ï] 246).fi<|fe.fY _ _;have o:=l.n7 g id;have u:=ik m g λ_ _=>id;have b:=c.S g id;have RA:=z.r g id;rw[D]at c4;have L:mD s ls t=((10,Ú),(yi s t.x t.y t.n).1,(yi s t.x t.y t.n).2,ls):=by unfold mD;rw[if_pos D]
 rw[L];have C:=am9 (ls:=ls) ok o u B t.x t.y t.n d.x d.y d.I (by have:=d.M;omega);have M:∀(j:É) (N:St) (O:List (Nat×Int)) (P:È),iy E lv ls.length _ N O j P->mg a t j:=λj N O P r=>mg.yf Q b o u r;have H:=fg<|Á C<|Á m M;clear C M l m z B c d o u RA L;go_enter Ź,ť;go_wp2_with fail;have HS:=fg<|Á b.r<|Á b.C<|Á b.I<|Á b.M b.N;clear S V Y c3 c5 b;refine mC (λe=>e.cell? ⟨a,0,Ä⟩=Ã (Â Ë t.x)/\e.cell? ⟨a,1,Ä⟩=Ã (Â Ë t.y)/\e.cell? ⟨a,2,Ä⟩=Ã (Â Ë t.n)/\e.cell? ⟨a,3,Ä⟩=Ã (Â Ë t.k)/\e.cell? ⟨a,5,Ä⟩=Ã (Í t.C)) [22] fw ?_;iterate 20 apply tk HS.out
 apply gE 20;intro K f;go_simp;go_at_call 168;apply H.out.1.mono;rintro e j ⟨rfl,v⟩;dsimp only;have b:=H.out.2.2 _ _ _ _ v;apply f.out _ _ λ_=>⟨b.r,b.C,b.I,b.M,b.N⟩;clear f K;have h:=TO (W:=w) (cs:=[Â Æ 0,Ñ Ï]) (Ø U) H.out.2.1 F v;have e0:=h.r 0 _ U;have e1:=h.r 1 _ U;have y0:=h.C 0;have y1:=h.C 1;have i:=b.S ((fe.I (X:=λk=>k=w.heap.size) (p:=⟨w.heap.size,0,Ä⟩) U<|Â Æ 10).fi<|fe.I (X:=λk=>k=w.heap.size) (p:=⟨w.heap.size,1,Ä⟩) U<|Ñ Ú) Z;apply gE 21;intro K f;go_simp;apply f.out _ _ λ_=>⟨i.r,i.C,i.I,i.M,i.N⟩;clear f K;apply gE 22;intro K f;go_simp;apply f.out _ _ λq=>absurd fq q;clear f K;try simp only[ĵ,Õ,ã,ä]
 refine mf fw ?_ _;go_wp2_with fail;let⟨q,q2⟩:=TN (iy.S g v) h F (Â Æ 10)<|Ñ Ú;apply ð (Aa U U (fj.Y (tl:=[]) (vs:=[Â Æ 10,Ñ Ú]) q2) J.out.1 J.out.2 Cs) U;exact⟨U,lv,q⟩
def anp(ok:E.Ok)(Q:E.T≠200)(l:iF E.r E.T E.C s lv w)(m:w.ownsRow 0 257 2 lv ls.length (ku ls))(z:iP w)(B:gM s)(c:mg a t w)(f:t.Ok)(hlen:(ls.length:Int)+400<=1000000)(D:t.r=2): Ò À 154 #[Å<|Ã ⟨E.r,0,Ä⟩,Å<|Ã ⟨a,0,Ä⟩] w (Iz E lv ls.length w<|mD s ls t):=by
 have F:=fj.M l;have hla:=c.G;have S:=c.r;have V:=c.C;have Y:=c.I;have c3:=c.M;have c4:=c.Y;have c5:=c.N;have hn:=E3 f.I f.M;have hk:=E3 f.r f.C;let⟨d2,G,I⟩:=Ì.1 Iy;have J:=fg<|Á G I;clear G I;have g:=(fe.gL fh w #[Â Æ 0,Ñ Ï] 246).fi<|fe.fY _ _;have o:=l.n7 g id;have u:=ik m g λ_ _=>id;have b:=c.S g id;have RA:=z.r g id;rw[D]at c4;have L:mD s ls t=((20,Ú),(yj s t.x t.C).1,(yj s t.x t.C).2,ls):=by unfold mD;rw[if_neg Z,if_pos D]
 rw[L];have C:=anj (ls:=ls) ok o u B t.x t.C f.x (by have:=f.N.1;omega);have M:∀(j:É) (N:St) (O:List (Nat×Int)) (P:È),iy E lv ls.length _ N O j P->mg a t j:=λj N O P r=>mg.yf Q b o u r;have H:=fg<|Á C<|Á m M;clear C M l m z B c f o u RA L;go_enter Ź,ť;go_wp2_with fail;have HS:=fg<|Á b.r<|Á b.C<|Á b.I<|Á b.M b.N;clear S V Y c3 c5 b;refine mC (λd=>d.cell? ⟨a,0,Ä⟩=Ã (Â Ë t.x)/\d.cell? ⟨a,1,Ä⟩=Ã (Â Ë t.y)/\d.cell? ⟨a,2,Ä⟩=Ã (Â Ë t.n)/\d.cell? ⟨a,3,Ä⟩=Ã (Â Ë t.k)/\d.cell? ⟨a,5,Ä⟩=Ã (Í t.C)) [15] fw ?_;iterate 13 apply tk HS.out
 apply gE 13;intro K d;go_simp;go_at_call 169;apply H.out.1.mono;rintro e j ⟨rfl,v⟩;dsimp only;have b:=H.out.2.2 _ _ _ _ v;apply d.out _ _ λ_=>⟨b.r,b.C,b.I,b.M,b.N⟩;clear d K;have h:=TO (W:=w) (cs:=[Â Æ 0,Ñ Ï]) (Ø U) H.out.2.1 F v;have e0:=h.r 0 _ U;have e1:=h.r 1 _ U;have y0:=h.C 0;have y1:=h.C 1;have i:=b.S ((fe.I (X:=λk=>k=w.heap.size) (p:=⟨w.heap.size,0,Ä⟩) U<|Â Æ 20).fi<|fe.I (X:=λk=>k=w.heap.size) (p:=⟨w.heap.size,1,Ä⟩) U<|Ñ Ú) Z;apply gE 14;intro K d;go_simp;apply d.out _ _ λ_=>⟨i.r,i.C,i.I,i.M,i.N⟩;clear d K;apply gE 15;intro K d;go_simp;apply d.out _ _ λq=>absurd fq q;clear d K;try simp only[ĵ,Õ,ã,ä]
 refine mf fw ?_ _;go_wp2_with fail;let⟨q,q2⟩:=TN (iy.S g v) h F (Â Æ 20)<|Ñ Ú;apply ð (Aa U U (fj.Y (tl:=[]) (vs:=[Â Æ 20,Ñ Ú]) q2) J.out.1 J.out.2 Cs) U;exact⟨U,lv,q⟩
def anq(ok:E.Ok)(X:E.T≠200)(l:iF E.r E.T E.C s lv w)(m:w.ownsRow 0 257 2 lv ls.length (ku ls))(B:iP w)(D:gM s)(d:mg a t w)(c:t.Ok)(Y:(ls.length:Int)+400<=1000000)(F:t.r≠1)(G:t.r≠2): Ò À 154 #[Å<|Ã ⟨E.r,0,Ä⟩,Å<|Ã ⟨a,0,Ä⟩] w (Iz E lv ls.length w<|mD s ls t):=by
 have I:=fj.M l;have hla:=d.G;have c0:=d.r;have c1:=d.C;have c2:=d.I;have c3:=d.M;have c4:=d.Y;have c5:=d.N;have hn:=E3 c.I c.M;have hk:=E3 c.r c.C;let⟨d2,J,L⟩:=Ì.1 Iy;have M:=fg<|Á J L;clear J L;have g:=(fe.gL fh w #[Â Æ 0,Ñ Ï] 246).fi<|fe.fY _ _;have p:=l.n7 g id;have u:=ik m g λ_ _=>id;have b:=d.S g id;have N:=B.r g id;have z1:(t.r==1)=Ï:=by rwa[beq_eq_false_iff_ne]
 have z2:(t.r==2)=Ï:=by rwa[beq_eq_false_iff_ne]
 have O:mD s ls t=Ab s ls t.x t.y t.n t.k:=by unfold mD;rw[if_neg F,if_neg G]
 rw[O];have C:=anm (ls:=ls) ok p u N D t.x t.y t.n t.k c.x c.y ⟨c.r,by have:=c.C;omega⟩ c.I Y;have P:∀(i:É) (Q:St) (S:List (Nat×Int)) (j:È),iy E lv ls.length _ Q S i j->mg a t i:=λi Q S j r=>mg.yf X b p u r;have H:=fg<|Á C<|Á m P;clear C P l m B D d c p u N O;generalize Ab s ls t.x t.y t.n t.k=o at*;go_enter Ź,ť;go_wp2_with fail;have v:=fg<|Á b.r<|Á b.C<|Á b.I<|Á b.M b.N;clear c0 c1 c2 c3 c5 b;refine mC (λe=>e.cell? ⟨a,0,Ä⟩=Ã (Â Ë t.x)/\e.cell? ⟨a,1,Ä⟩=Ã (Â Ë t.y)/\e.cell? ⟨a,2,Ä⟩=Ã (Â Ë t.n)/\e.cell? ⟨a,3,Ä⟩=Ã (Â Ë t.k)/\e.cell? ⟨a,5,Ä⟩=Ã (Í t.C)) [26,27] fw ?_;iterate 23 apply tk v.out
 apply gE 23;intro K f;go_simp;go_at_call 170;apply H.out.1.mono;rintro e i ⟨rfl,j,z⟩;dsimp only;have b:=H.out.2.2 _ _ _ _ z;apply f.out _ _ λ_=>⟨b.r,b.C,b.I,b.M,b.N⟩;clear f K;have h:=TO (W:=w) (cs:=[Â Æ 0,Ñ Ï]) (Ø U) H.out.2.1 I z;have e0:=h.r 0 _ U;have e1:=h.r 1 _ U;have y0:=h.C 0;have y1:=h.C 1;have V:=Á b.r<|Á b.C<|Á b.I<|Á b.M b.N;have v:=fg V;clear V b;iterate 2 apply tk v.out
 apply gE 26;intro K f;go_simp;apply f.out _ _ λq=>absurd fq q;clear f K;apply gE 27;intro K f;go_simp;apply f.out _ _ λq=>absurd fq q;clear f K;try simp only[ĵ,Õ,ã,ä]
 refine mf fw ?_ _;go_wp2_with fail;let⟨q,q2⟩:=TN (iy.S g z) h I (Â Æ o.1.1)<|Ñ o.1.2;apply ð (Aa U U (fj.Y (tl:=[]) (vs:=[Â Æ o.1.1,Ñ o.1.2]) q2) M.out.1 M.out.2 Cs) U;exact⟨U,j,q⟩
def aaq(ok:E.Ok)(b:E.T≠200)(c:iF E.r E.T E.C s lv w)(d:w.ownsRow 0 257 2 lv ls.length (ku ls))(e:iP w)(f:gM s)(g:mg a t w)(h:t.Ok)(i:(ls.length:Int)+400<=1000000): Ò À 154 #[Å<|Ã ⟨E.r,0,Ä⟩,Å<|Ã ⟨a,0,Ä⟩] w (Iz E lv ls.length w<|mD s ls t):=by
 by_cases j:t.r=1
 .exact ano ok b c d e f g h i j
 .by_cases k:t.r=2
  .exact anp ok b c d e f g h i k
  .exact anq ok b c d e f g h i j k
end
def aar:∀(d a b c:List È) (k:Nat),b.length=d.length->(d.zipIdx k).foldl (λ(q:Array È) (p:Value×Nat)=>q.setIfInBounds (a.length-k+p.2) p.1) (a++b++c).toArray=(a++d++c).toArray\/a.length<k
 |[],a,b,c,k,h=>by have:b=[]:=ß (by simpa using h);subst this;exact Ø U
 |v::r,a,b,c,k,h=>by
  rcases ů a.length k with q|q
  .exact Ù q
  .match b,h with
   |x::b,h=>
    apply Ø;have p:=(aar r (a++[v]) b c (k+1)<|by simpa using h).resolve_right (by simp;omega);simp only[List.zipIdx_cons,List.foldl_cons];rw[show a.length-k+k=a.length by omega,Õ,show(a++x::b++c).set a.length v=a++[v]++b++c by simp];rw[show(a++[v]).length-(k+1)=a.length-k by simp]at p;rw[p];simp
theorem Mr{place:Nat->Option (Nat×Nat)}{pre old suf:List È}{rest:List (Nat×Value)}(a:place i=Ã (pre.length,n))(b:v.cells.size=n)(c:old.length=n): ı place (pre++old++suf).toArray ((i,v)::rest)=ı place (pre++v.cells.toList++suf).toArray rest:=by rw[Instr.fill.eq_2];simp only[a];rw[if_neg (by simp only[ć,Ó,Bool.or_eq_true,decide_eq_true_eq,not_or];omega)];have:=(aar v.cells.toList pre old suf 0<|by rw[c,š,b]).resolve_right Z;simp only[Nat.sub_zero]at this;grind [Array.toList_zipIdx]
def anr:((À.info? 144).bind (·.zero)).map (λz=>z.cells.toList.drop 144)=Ã [Ê Ä 0 0]:=fw
def ant:((À.info? 144).bind (·.zero)).map (λz=>z.cells.size)=Ã 145:=fw
def aas:((À.info? 147).bind (·.zero)).map (λz=>z.cells.toList.drop 145)=Ã [Â Ë 0,Ê Ä 0 0]:=fw
def aat:((À.info? 147).bind (·.zero)).map (λz=>z.cells.size)=Ã 147:=fw
def Ms(P:aF)(t:õ):Option (List<|Nat×Nat):=match P.underlying t with
 |some (.struct fs)=>fs.toList.mapM λf=>(P.info? f.type).map λi=>(f.offset,i.size)
 |_=>Ä
def anu:Ms À 144=Ã [(0,144),(144,1)]:=fw
def aau:Ms À 147=Ã [(0,145),(145,1),(146,1)]:=fw
def TP{c:List (Nat×Nat)}(a:Ms P t=Ã c)(b:(P.info? t).bind (·.zero)=Ã z)(e:List (Nat×Value)):P.built t e=ı (c.toArray[·]?) z.cells e:=by
 unfold Ms at a;unfold Program.built;cases f:P.info? t with
 |none=>rw[f]at b;cases b
 |some h=>
  rw[f]at b;have b:h.zero=Ã z:=b;cases g:P.underlying t with
  |none=>rw[g]at a;cases a
  |some d=>
   rw[g]at a;cases d<;>first|(cases a;done)|skip
   simp only at a;simp only[b,a]
theorem TQ{suf:List È}(h:((P.info? t).bind (·.zero)).map (λz=>z.cells.toList.drop n)=Ã suf)(a:((P.info? t).bind (·.zero)).map (λz=>z.cells.size)=Ã m)(c:n<=m):∃z old,(P.info? t).bind (·.zero)=Ã z/\old.length=n/\z.cells=(old++suf).toArray:=by
 let⟨z,b,d⟩:=Ì.1 h;rw[b]at a;have a:z.cells.size=m:=by injection a
 refine⟨z,z.cells.toList.take n,b,by rw[List.length_take,š,a];omega,?_⟩;grind
theorem anv(h:l.length=144):À.built 144 [(0,Ē l.toArray)]=Ã (l++[Ê Ä 0 0]).toArray:=by let⟨z,d,a,b,c⟩:=TQ anr ant A;rw[TP anu a,c];have:=Mr (place:=λi=>[(0,144),(144,1)].toArray[i]?) (pre:=[]) (suf:=[Ê Ä 0 0]) (i:=0) (v:=Ē l.toArray) (rest:=[]) U (by show l.toArray.size=144;simp[h]) b;simpa[ı,ğ]using this
theorem anw(h:l.length=145)(a:v.cells=#[v]):À.built 147 [(0,Ē l.toArray),(1,v)]=Ã (l++[v,Ê Ä 0 0]).toArray:=by let⟨z,g,c,d,f⟩:=TQ aas aat A;rw[TP aau c,f];have b:=Mr (place:=λi=>[(0,145),(145,1),(146,1)].toArray[i]?) (pre:=[]) (suf:=[Â Ë 0,Ê Ä 0 0]) (i:=0) (v:=Ē l.toArray) (rest:=[(1,v)]) U (by show l.toArray.size=145;simp[h]) d;simp only[Ξ]at b;rw[b];have e:(Ē l.toArray).cells.toList=l:=rfl;rw[e];rw[show(l++[Â Ë 0,Ê Ä 0 0])=l++[Â Ë 0]++[Ê Ä 0 0] by simp,(Mr (place:=λi=>[(0,145),(145,1),(146,1)].toArray[i]?) (old:=[Â Ë 0]) (suf:=[Ê Ä 0 0]) (i:=1) (rest:=[]) (by show Ã (145,1)=Ã (l.length,1);rw[h]) (by rw[a];rfl) U)];simp[ı,a]
def iA(s:St):List È:=(ċ 144).map<|qw s
def sw(s:St):(iA s).length=144:=by simp[iA]
theorem Ac(s:St)(lv:È):jm s lv=iA s++[lv]:=by unfold jm iA;grind [Ŏ,List.map_congr_left,rp,Mf]
def aav(a:o.op=.box T qQ)(b:xX qQ=Ē d):(Ĥ xX o).run P w=φ (.value<|Å<|Ã ⟨w.heap.size,0,Ä⟩) (w.alloc<|Ð d T):=by unfold Ĥ;simp[a,b,Instr.box,newVar,newRow,ğ]
theorem TR{a:Array (Nat×Operand)}(b:o.op=Χ T a)(h:P.built T (a.map λ(i,x)=>(i,xX x)).toList=Ã d):(Ĥ xX o).run P w=φ (.value<|Ē d) w:=by have:=run_build w T (a.map λ(i,x)=>(i,xX x)) d h;unfold Ĥ;simp_all
theorem TS(a:o.op=Χ 144 #[(0,qQ)])(b:xX qQ=Ē l.toArray)(c:l.length=144):(Ĥ xX o).run À w=φ (.value<|Ē (l++[Ê Ä 0 0]).toArray) w:=by grind [TR,anv]
theorem anx{y:Ů}(a:o.op=Χ 147 #[(0,qQ),(1,y)])(b:xX qQ=Ē l.toArray)(c:xX y=v)(d:l.length=145)(e:v.cells=#[v]):(Ĥ xX o).run À w=φ (.value<|Ē (l++[v,Ê Ä 0 0]).toArray) w:=by apply TR a;grind [anw]
def TT:(À.underlying 140).map İ=Ã Ú:=fw
def aaw:(À.info? 140).map (·.size)=Ã 144:=fw
structure mE(vb:Nat)(s:St)(h:Int)(w:É):Prop where
 C:w.rangeAt vb 0 (iA s)
 h:w.cell? ⟨vb,145,Ä⟩=Ã (Â Ë h)
def mE.r{s:St}(a:mE i s h w)(k:fe X w u)(b:¬X i):mE i s h u:= ⟨λj v c=>k.r (a.C j v c) b,k.r a.h b⟩
def uX(l:List (Int×Bool)):List È:=l.flatMap λp=>[Â Æ p.1,Ñ p.2]
structure NX(B:Nat)(h:Int)(lv uv:È)(s:St)(ls:List (Nat×Int))(us:List (Int×Bool))(w0 w:É):Prop where
 r:iF B 147 [Â Ë h,uv] s lv w
 C:w.ownsRow 0 257 2 lv ls.length (ku ls)
 I:w.ownsRow 0 246 2 uv us.length (uX us)
 M:fe fh w0 w
 N:w0.heap.size<=B
 S:∀j,lv.ownBlock=Ã j->w0.heap.size<=j
 Y:∀j,uv.ownBlock=Ã j->w0.heap.size<=j
def NX.jc(w:É)(s:St)(h:Int):NX w.heap.size h (Ê Ä 0 0) (Ê Ä 0 0) s [] [] w ((Ă w<|Ð (iA s++[Ê Ä 0 0,Â Ë h,Ê Ä 0 0]).toArray 147).drew):=by refine⟨?_,ĉ _ _ _ _,ĉ _ _ _ _,(fe.gL _ _ _ _).fi<|fe.fY _ _,Þ _,(λj q=>nomatch q),(λj q=>nomatch q)⟩;unfold iF;rw[Ac,show iA s++[Ê Ä 0 0]++[Â Ë h,Ê Ä 0 0]=iA s++[Ê Ä 0 0,Â Ë h,Ê Ä 0 0] by simp];exact fj.N w _ 147
noncomputable def IA:ŏ:=(Tryz.f115.body.bind kv).getD Ķ
def Ad(c m B:Nat)(a:Option ă)(n b:Nat)(i:Int)(u:Nat->È):é:=⟨#[Å<|Ã ⟨c,0,Ä⟩,Â Ë m,Ê a n b,ā,ā,ā,Å Ä,Å<|Ã ⟨B,0,Ä⟩,u 8,u 9,u 10,u 11,u 12,u 13,u 14,u 15,u 16,u 17,u 18,u 19,u 20,u 21,u 22,u 23,u 24,Ê a n b,Â Ë n,Â Ë i,u 28,u 29,u 30,u 31,u 32,u 33,u 34,u 35,u 36,u 37,u 38,u 39,u 40,u 41,u 42,u 43,u 44,u 45,u 46,u 47,u 48,u 49,u 50,u 51,u 52,u 53,u 54,u 55,u 56,u 57,u 58,u 59,u 60,u 61,u 62,u 63,u 64,u 65,u 66,u 67,u 68,u 69,u 70,u 71,u 72,u 73,u 74,u 75,u 76,u 77,u 78,u 79,u 80,u 81,u 82],[]⟩
def IB(b m B:Nat)(c:Option ă)(n d:Nat)(i:Int)(a:é):Prop:=∃u,a=Ad b m B c n d i u
def QN(X Y:é->É->Prop):aT->é->É->Prop
 |.exit 0,a,w=>X a w
 |.ret,a,w=>Y a w
 |_,_,_=>False
section
variable{lv:È}{s d:St}{ls f:List (Nat×Int)}{c:List (Int×Bool)}
def TU(j:Nat)(h:Int)(x:È):iZ:=⟨j,147,[Â Ë h,x]⟩
def TV(j:Nat)(h:Int)(x:È):(TU j h x).Ok:=⟨by show(147:Nat)≠36;decide,by show(147:Nat)≠257;decide,by show(147:Nat)≠282;decide,by show(147:Nat)≠300;decide,by show(147:Nat)≠252;decide,by show(147:Nat)≠246;decide⟩
def NX.fP(a:NX j h lv x s ls c u w)(k:fe fh w W):NX j h lv x s ls c u W:= ⟨a.r.n7 k id,ik a.C k λ_ _=>id,ik a.I k λ_ _=>id,a.M.fi k,a.N,a.S,a.Y⟩
def NX.yf(a:NX j h lv x s ls c u w)(r:iy (TU j h x) lv ls.length w d f W v):NX j h v x d f c u W:=by
 have k:=a.r;refine⟨r.r,r.I,ik a.I r.C ?_,a.M.C r.C ?_,a.N,λb q=> ?_,a.Y⟩
 .rintro b i (q|q)
  .let⟨m,g⟩:=mb a.I i;have e:b=j:=q;rw[e,k]at g;cases g
  .exact alS a.I a.C A i q
 .rintro i g (q|q)
  .have:=a.N;have e:i=j:=q;omega
  .have:=a.S i q;omega
 .rcases r.l b q with e|e
  .exact a.S b e
  .exact ë a.M.M e
def NX.fB(a:NX j h lv x s ls c u w)(b:i<8)(v:Int):NX j h lv x (s.fB i v) ls c u (w.setCell ⟨j,i*18,Ä⟩<|Â Æ v):= a.yf<|(iy.gd (E:=TU j h x) a.r a.C).fB (TV _ _ _) b v
def aax(c:List (Int×Bool)):∀u∈uX c,kt u=Ú:=λu a=>by unfold uX at a;let⟨e,_,h⟩:=Β.1 a;simp at h;rcases h with rfl|rfl<;>rfl
def anz:(À.info? 246).map (λi=>(i.zero,i.size,i.bytes))=Ã (Ã<|Ē #[Â Æ 0,Ñ Ï],2,16):=fw
def NX.G(a:NX j h lv x s ls c u w):w.cell? ⟨j,146,Ä⟩=Ã x:= fj.r a.r 146 _<|by rw[ü (by rw[mO];omega),mO];rfl
def NX.anB{g:Int}(b:NX j h lv x s ls c u w)(a:qt w 0 246 2 x c.length (uX c) 1 [Â Æ g,Ñ yQ] v W): NX j h lv x s ls c u W/\NX j h lv v s ls (c++[(g,yQ)]) u (W.setCell ⟨j,146,Ä⟩ v):=by
 have m:∀{i:Nat} {n:Array È} {T:õ},x.ownBlock=Ã i->w.heap[i]?=Ã (Ð n T (0,0))->T=246:=λ{i n T} q hc=>by let⟨k,e⟩:=mb b.I q;rw[hc]at e;cases e;rfl
 have o:=b.M.C a.r λi y q=>by have:=b.Y i q;omega
 have f:NX j h lv x s ls c u W:=⟨b.r.n7 a.r λq=>absurd (m q b.r) A,ik b.C a.r (λd q r=>by let⟨k,e⟩:=mb b.C q;exact absurd (m r e) A),a.I _ _ _ b.I λ_=>Þ _,o,b.N,b.S,b.Y⟩;have t:W.ownsRow 0 246 2 v (c++[(g,yQ)]).length (uX<|c++[(g,yQ)]):=by have:=a.ft;rwa[show uX c++[Â Æ g,Ñ yQ]=uX (c++[(g,yQ)]) by simp[uX],show c.length+1=(c++[(g,yQ)]).length by simp]at this
 have l:fe (λk=>k=j) W (W.setCell ⟨j,146,Ä⟩ v):=fe.I (X:=λk=>k=j) (p:=⟨j,146,Ä⟩) U v<|Ù<|fj.G f.r;have k:=fj.fV f.r 146 v;rw[List.set_append_right _ _ (by rw[mO];omega),mO]at k;refine⟨f,k,ik f.C l λd q r=>jG f.C f.r A (by rw[q,r]),ik t l λd q r=>jG t f.r A (by rw[q,r]),o.C l λi y q=>by have:=b.N;omega,b.N,b.S,λd q=> ?_⟩;rcases a.C with e|e
 .exact b.Y d<|by rwa[<-e]
 .rw[e]at q;cases q;exact b.M.M
end
section
variable{X:é->É->Prop}{cp:Nat}{lv:È}{s:St}{ls:List (Nat×Int)}{c:List (Int×Bool)}
def anC(d:Nat->È)(e:NX j h lv x s ls c u w)(i:Int)(f:i=n) (g:∀a,IB b m j O n cp i a->X a w): Î À IA (Exit.then K<|QN X H) (Ad b m j O n cp i d) w:=by
 unfold Ad;conv=>arg 2;whnf
 subst f;go_wp2_with fail;exact g _ (gu _)
def anD(d:Nat->È)(f:NX j h lv x s ls c u w)(i:Int)(k:Nat)(q:i=k)(P:k<n)(Q:n<=1000)(tb o a:Nat)(r:O=Ã ⟨tb,o,Ä⟩)(S:w.cell? ⟨tb,o+k,Ä⟩=Ã (Å<|Ã ⟨a,0,Ä⟩))(t:Tx)(v:mg a t w)(y:t.Ok)(z:iP w)(B:gM s)(D:(ls.length:Int)+400<=1000000)(g:Int)(E:Bool)(F:St)(G:List (Nat×Int))(I:mD s ls t=((g,E),Ï,F,G)) (J:∀a p,a.tmps.getD 6 ā=Å Ä->a.defers=[]->fe fh u p->H a p): Î À IA (Exit.then K<|QN X H) (Ad b m j O n cp i d) w:=by
 unfold Ad;conv=>arg 2;whnf
 subst q r;have C:=aaq (TV _ _ _) (by show(147:Nat)≠200;decide) f.r f.C z B v y D;rw[I]at C;have T:(0:Int)<=(k:Int):=Z
 have V:(k:Int)<(n:Int):=Z
 have W:=fj.M f.r;have l:=fg<|Á f C;go_wp2_with fail;go_at_call 154;apply l.out.2.mono;rintro e Y ⟨rfl,zM,L⟩;have M:=l.out.1.yf L;have N:=fg M;go_wp2_with fail;exact J _ _ U U<|N.out.M.fi<|fe.gL _ _ _ _
def anE(d:Nat->È)(f:NX j h lv x s ls c u w)(i:Int)(k:Nat)(V:i=k)(hj:k<n)(hn:n<=1000)(tb M a:Nat)(W:O=Ã ⟨tb,M,Ä⟩)(hc:w.cell? ⟨tb,M+k,Ä⟩=Ã (Å<|Ã ⟨a,0,Ä⟩))(t:Tx)(Y:mg a t w)(LJ:t.Ok)(hr:iP w)(hs:gM s)(hlen:(ls.length:Int)+400<=1000000)(g:Int)(o:Bool)(z:St)(N:List (Nat×Int))(ho:mD s ls t=((g,o),Ú,z,N))(P:m<8)(E:gM z)(xu:0<=g)(wi:g<=1000)(Lf:c.length<=1000) (p:∀a v jF TW,IB b m j O n cp (i+1) a->NX j h jF TW (z.fB m<|wu<|(z m).fB+g) N (c++[(g,o)]) u v->K a v): Î À IA (Exit.then K<|QN X H) (Ad b m j O n cp i d) w:=by
 unfold Ad;conv=>arg 2;whnf
 subst V W;have C:=aaq (TV _ _ _) (by show(147:Nat)≠200;decide) f.r f.C hr hs Y LJ hlen;rw[ho]at C;have e1:(0:Int)<=(k:Int):=Z
 have e2:(k:Int)<(n:Int):=Z
 have avx:=fj.M f.r;have l:=fg<|Á f C;go_wp2_with fail;go_at_call 154;apply l.out.2.mono;rintro e r ⟨rfl,zM,r1⟩;have B:=l.out.1.yf r1;have m1:=B.r.fB P;have z1:=fj.C B.r<|m*18;have E2:=fj.M B.r;have b0:=(E.fB m).1;have b1:=(E.fB m).2;have hub:x.ownBlock≠Ã r.heap.size:=λq=>by have:=(B.I.lt _ q).2;omega
 have HX:=fg<|Á B E;generalize hb:(z m).fB=b at*;have hm0:(0:Int)<=(m:Int):=Z
 have hm1:(m:Int)<8:=Z
 go_wp2_with fail
 go_region
 have hx8:=(HX.out.1.fB P<|wu<|b+g).fP<|(fe.gL fh _ #[Â Æ g,Ñ o] 246).fi<|fe.fY _ _;have hU:fj r.heap.size [Â Æ g,Ñ o] 246 (Č<|Ă (r.setCell ⟨j,m*18,Ä⟩<|Â Æ<|wu<|b+g)<|Ð #[Â Æ g,Ñ o] 246):=by
  have:=fj.N (r.setCell ⟨j,m*18,Ä⟩<|Â Æ<|wu<|b+g) [Â Æ g,Ñ o] 246;have y:fj r.heap.size [Â Æ g,Ñ o] 246 (Ă (r.setCell ⟨j,m*18,Ä⟩<|Â Æ<|wu<|b+g)<|Ð #[Â Æ g,Ñ o] 246):=by simpa using this
  exact y
 go_wp2_with fail
 change Î À _ _ _ (Č<|Ă (r.setCell ⟨j,m*18,Ä⟩<|Â Æ<|wu<|b+g)<|Ð #[Â Æ g,Ñ o] 246);generalize Č (Ă (r.setCell ⟨j,m*18,Ä⟩<|Â Æ<|wu<|b+g)<|Ð #[Â Æ g,Ñ o] 246)=w8 at*;generalize r.heap.size=ub at*;have Q:=hx8.fP<|fe.fY fh w8;have F:=hU.I (fe.fY fh w8) id;let⟨i0,hi0,Iv,anF,anG⟩:=í anz;have D:=fg<|Á hi0<|Á Iv<|Á anF anG;have HS:=fg<|Á Q.G<|Á (F.r 0 _ rfl)<|F.r 1 _ rfl;have S:=fg<|Á Q F;refine mC (λv=>v.cell? ⟨j,146,Ä⟩=Ã x/\v.cell? ⟨ub,0,Ä⟩=Ã (Â Æ g)/\v.cell? ⟨ub,1,Ä⟩=Ã (Ñ o)) [10] fw ?_;iterate 6 apply tk HS.out
 have G:=S.out.1.fP<|fe.gL fh _ #[Â Æ g,Ñ o] 246;have I:=S.out.2.I (fe.gL fh _ #[Â Æ g,Ñ o] 246) id;refine gE 6 ?_;intro K p;go_simp;refine p.out _ _ (λ_=>⟨G.G,I.r 0 _ U,I.r 1 _ U⟩) ?_;refine gE 7 ?_;intro K p;refine Mk (hfl:=Ù ⟨fq,λd y=>(ú.1 y).elim (aax c d) (λq=>by simp at q;rcases q with rfl|rfl<;>rfl),by simp[kt,ğ]⟩) fS _ _ 145 fS Tryz.underlying145 D.out.1 D.out.2.1 D.out.2.2.1 D.out.2.2.2 U fS G.I ⟨_,0,Ä⟩ [Â Æ g,Ñ o] fS Z U (ŵ _ _ _ _) (λd y=>by simp at y;rcases y with rfl|rfl<;>rfl) (by unfold Ą;omega) Z (â _) ?_;intro uv1 w9 J;obtain⟨a2,cp2,rfl⟩:=jl J.ft;let⟨L,n2⟩:=G.anB J;have y:=I.I J.r hub;refine p.out _ _ (λ_=>⟨L.G,y.r 0 _ U,y.r 1 _ U⟩) ?_;have T:=L.G;have fz:=fj.C L.r 146;refine gE 8 ?_;intro K p;go_simp;refine p.out _ _ (λ_=>⟨T,y.r 0 _ U,y.r 1 _ U⟩) ?_;refine gE 9 ?_;intro K p;go_simp;refine p.out _ _ (λ_=>⟨T,y.r 0 _ U,y.r 1 _ U⟩) ?_;refine gE 10 ?_;intro K p;go_simp;refine p.out _ _ (λq=>absurd fq q) ?_;refine mf fw ?_ _;go_wp2_with fail;subst hb;exact p _ _ _ _ (gu _) n2
end
def uY(m:Nat):St->List (Nat×Int)->List (Int×Bool)->List Tx->Option (St×List (Nat×Int)×List (Int×Bool))
 |s,ls,us,[]=>Ã (s,ls,us)
 |s,ls,us,t::r=>if(mD s ls t).2.1 then uY m ((mD s ls t).2.2.1.fB m<|wu<|((mD s ls t).2.2.1 m).fB+(mD s ls t).1.1) (mD s ls t).2.2.2 (us++[(mD s ls t).1]) r else Ä
def anH{s:St}(b:gM s)(x y:Nat)(c:0<=h):gM (yi s x y h).2:=by
 unfold yi;split
 .exact b
 .rename_i a;have:=(b.fB x).2;exact(b.r x ⟨Z,Z⟩).r y<|zY _
def anI{s:St}(a:gM s)(x:Nat)(e:B.size<=40/\∀c∈B.data.toList,ye c=Ú):gM (yj s x B).2:=by
 unfold yj;split
 .exact a
 .rename_i h;have:=(a.fB x).2;have d:=a.r x (b:=(s x).fB-20) ⟨Z,Z⟩;exact d.fV (d.fB x) (d.C x) e
structure aay(r:List (Nat×Int))(o:(Int×Bool)×Bool×St×List (Nat×Int)):Prop where
 g0:0<=o.1.1
 C:o.1.1<=400
 s:gM o.2.2.1
 r:o.2.2.2.length<=r.length+400
def anJ{s:St}(f:gM s){d:List (Nat×Int)}(g:i<8)(l:j<8)(m:gp c)(p:(d.length:Int)+400<=1000000):aay d (Ab s d i j h c):=by
 unfold Ab;split
 .exact⟨Ö _,by show(0:Int)<=400;decide,f,Ŀ _ _⟩
 .rename_i a;have q:=(f.fB i).2;have o:=f.r i (b:=(s i).fB-h) ⟨Z,Z⟩;have e:=Ix _ d i j (h-10) c o g l m Z Z Z;have r:=e.C;have t:=e.r;have u:=e.I;exact⟨by show 0<=_+10;omega,by show _+10<=400;omega,e.N.r i<|zY _,by show(fX _ _ _ _ _ _).I.length<=_;omega⟩
def aaz{s:St}(b:gM s){ls:List (Nat×Int)}{t:Tx}(a:t.Ok)(c:(ls.length:Int)+400<=1000000):aay ls (mD s ls t):=by
 unfold mD;split
 .exact⟨by show(0:Int)<=10;decide,by show(10:Int)<=400;decide,anH b _ _ a.I,Ŀ _ _⟩
 .split
  .exact⟨by show(0:Int)<=20;decide,by show(20:Int)<=400;decide,anI b _ a.N,Ŀ _ _⟩
  .exact anJ b a.x a.y ⟨a.r,by have:=a.C;omega⟩ c
structure Ct(bp:Option ă)(n:Nat)(gN:List (Nat×Tx))(w:É):Prop where
 r:n=gN.length
 C:∀(j a:Nat) (t:Tx),gN[j]?=Ã (a,t)->∃tb te,bp=Ã ⟨tb,te,Ä⟩/\w.cell? ⟨tb,te+j,Ä⟩=Ã (Å<|Ã ⟨a,0,Ä⟩)/\mg a t w/\t.Ok
def Ct.I{gN:List (Nat×Tx)}(h:Ct O n gN w)(k:fe fh w u):Ct O n gN u:= ⟨h.r,λj a t q=>by let⟨tb,b,c,d,e,f⟩:=h.C j a t q;exact⟨tb,b,c,k.r d id,e.S k id,f⟩⟩
def lR(gN:List (Nat×Tx)):List Tx:=gN.map (·.2)
section
variable{bp:Option ă}{cp:Nat}{gN:List (Nat×Tx)}{d:Option (St×List (Nat×Int)×List (Int×Bool))}
def TX(n:Nat)(a:é)(_:É):Nat:=match a.tmps.getD 27 ā with
 |Â _ i=>n-i.toNat
 |_=>0
def NI(b m i:Nat)(bp:Option ă)(n cp:Nat)(h:Int)(u:É)(gN:List (Nat×Tx))(d:Option (St×List (Nat×Int)×List (Int×Bool)))(a:é)(w:É):Prop:=
 ∃(j:Nat) (s:St) (c:List (Nat×Int)) (e:List (Int×Bool)) (f g:È),IB b m i bp n cp j a/\j<=n/\NX i h f g s c e u w/\gM s/\c.length<=400*j/\e.length=j/\uY m s c e ((lR gN).drop j)=d
def NE(b m i:Nat)(bp:Option ă)(n cp:Nat)(h:Int)(u:É)(d:Option (St×List (Nat×Int)×List (Int×Bool)))(a:é)(w:É):Prop:=
 ∃(s:St) (c:List (Nat×Int)) (e:List (Int×Bool)) (f g:È),IB b m i bp n cp n a/\NX i h f g s c e u w/\gM s/\d=Ã (s,c,e)
def NR(u:É)(d:Option (St×List (Nat×Int)×List (Int×Bool)))(a:é)(w:É):Prop:=
 a.tmps.getD 6 ā=Å Ä/\a.defers=[]/\fe fh u w/\d=Ä
theorem anK(C:Ct bp n gN u)(K:iP u)(L:n<=1000)(V:m<8)(a:é)(w:É)(W:NI b m i bp n cp h u gN d a w): Î À IA (Exit.then (λo q=>NI b m i bp n cp h u gN d o q/\TX n o q<TX n a w)<|QN (NE b m i bp n cp h u d)<|NR u d) a w:=by
 let⟨j,s,r,M,X,Y,hfr,hj,x,y,TA,Lf,e⟩:=W;obtain⟨c,rfl⟩:=hfr;by_cases vE:j=n
 .have D:(lR gN).drop j=[]:=Ę (by unfold lR;rw[Ο,<-C.r];omega);rw[D]at e;refine anC c x j (by rw[vE]) λa v=>⟨s,r,M,X,Y,?_,x,y,e.symm⟩;grind
 .have E:j<n:=Z
  obtain⟨⟨a,t⟩,N⟩:∃p,gN[j]?=Ã p:=⟨_,Ô<|by rwa[<-C.r]⟩;have D:(lR gN).drop j=t::(lR gN).drop (j+1):=by
   have v:(lR gN)[j]?=Ã t:=by unfold lR;rw[ķ,N];rfl
   grind [ē]
  let⟨tb,O,P,Q,S,F⟩:=(C.I x.M).C j a t N;have G:(r.length:Int)+400<=1000000:=Z
  have k:=aaz y F G;rw[D]at e;unfold uY at e;obtain⟨g,l,H,z,f,I⟩:∃g l H z f,mD s r t=((g,l),H,z,f):=⟨_,_,_,_,_,U⟩;rw[I]at e k;have g0:=k.g0;have g1:g<=400:=k.C;have T:=k.s;have E2:f.length<=r.length+400:=k.r;cases H with
  |false=>
   simp only[ĭ,if_false]at e;exact anD c x j j U E L tb O a P Q t S F (K.r x.M id) y G g l z f I λo q B J v=>⟨B,J,v,e.symm⟩
  |true=>
   simp only[if_true]at e;refine anE c x j j U E L tb O a P Q t S F (K.r x.M id) y G g l z f I V T g0 Z Z λo q jF TW B J=>⟨⟨j+1,_,f,M++[(g,l)],jF,TW,by simpa using B,Z,J,T.r m<|zY _,Z,by simp[Lf],e⟩,?_⟩;obtain⟨v,rfl⟩:=B;show n-((j:Int)+1).toNat<n-((j:Int)).toNat;omega
def wj(m:Nat)(s:St)(gN:List Tx):Option (St×List (Nat×Int)×List (Int×Bool)):=
 (uY m s [] [] gN).map λr=>(r.1.fB m<|wu<|(r.1 m).fB+50,r.2)
def E4(h:Int)(w:É)(r:Option (St×List (Nat×Int)×List (Int×Bool)))(e:ax)(a:É):Prop:=
 (r=Ä/\e=Ç (Å Ä)/\fe fh w a)\/
 ∃s b c i d f,r=Ã (s,b,c)/\e=Ç (Å<|Ã ⟨i,0,Ä⟩)/\NX i (h+1) d f s b c w a/\gM s
def anL{s:St}(e:mE b s h w)(Y:0<=h)(hh1:h<=1000)(y:gM s)(z:Ct bp n gN w)(B:iP w)(J:n<=1000)(f:m<8): Ò À 115 #[Å<|Ã ⟨b,0,Ä⟩,Â Ë m,Ê bp n cp] w (E4 h w<|wj m s<|lR gN):=by
 let⟨M,C,D⟩:=Ì.1 TT;have E:(À.info? 140).map (·.size)=Ã (iA s).length:=by rw[sw];exact aaw
 have k:=fg<|Á C<|Á D E;have F:=(e.r (fe.fY fh w) id).C;have G:=(e.r (fe.fY fh w) id).h;have oY:Ë.wrap (h+1)=h+1:=Ir Z Z;have c:=fg<|Á F G;have gV:=á w _ e.h;have L:∀l a,NX w.heap.size (h+1) (Ê Ä 0 0) (Ê Ä 0 0) s [] [] w l->IB b m w.heap.size bp n cp 0 a->Î À (à IA) (QN (NE b m w.heap.size bp n cp (h+1) w<|uY m s [] []<|lR gN)<|NR w<|uY m s [] []<|lR gN) a l:=λl a x N=>
  Ĉ (NI b m w.heap.size bp n cp (h+1) w gN<|uY m s [] []<|lR gN) (TX n) ⟨0,s,[],[],_,_,N,â _,x,y,fq,U,U⟩<|anK z B J f
 have H:=fg<|Á e L;have I:wj m s (lR gN)=(uY m s [] []<|lR gN).map λr=>(r.1.fB m<|wu<|(r.1 m).fB+50,r.2):=U;rw[I];clear C D F G e E L y z B I;generalize uY m s [] [] (lR gN)=d at*;go_enter Tryz.func115,Tryz.ntmps115;go_wp2_with fail;refine mC (λg=>g.rangeAt b 0 (iA s)/\g.cell? ⟨b,145,Ä⟩=Ã (Â Ë h)) [] fw ?_;iterate 4 apply tk c.out
 refine Iq (i:=4) (oi:={dst:=Ã 16,op:=Go.Op.load 140<|î 15,type:=140,pos:= "block.go:30",after:=#[{on:=3,ground:=ï}],guard:=Ä}) U fw fw fw fw (λ_ _ _ h=>h) c.out (yieldsIf_load_mid fS 140 _ U b 0 U (iA s) M (λw h=>h.1) k.out.1 k.out.2.1 k.out.2.2) ?_;refine Iq (i:=5) (oi:={dst:=Ã 17,op:=Χ 144 #[(0,î 16)],type:=144,pos:= "block.go:30",after:=#[{on:=4,ground:=ï}],guard:=Ä}) U fw fw fw fw (λ_ _ _ h=>h) c.out (Ø ⟨fS,λ_ _=>TS U U<|sw s⟩) ?_;apply tk c.out 6;apply tk c.out 7;apply tk c.out 8;apply tk c.out 9;apply tk c.out 10;refine Iq (i:=11) U fw fw fw fw (λ_ _ _ h=>h) c.out (Ø ⟨fS,λ_ _=>anx U U U (by simp[sw]) U⟩) ?_;have g:=fg<|(H.out.1.r (fe.fY fh w) id).r (fe.gL fh _ ((iA s++[Ê Ä 0 0])++[Â Ë<|h+1,Ê Ä 0 0]).toArray 147) id;refine gE 12 ?_;intro K o;rw[if_pos fS];unfold Ń;rw[aav U U,Ħ];refine o.out _ _ (λ_=>⟨g.out.C,g.out.h⟩) ?_;refine gE 13 ?_;intro K o;go_simp;refine o.out _ _ (λ_=>⟨g.out.C,g.out.h⟩) ?_;refine mf fw ?_ _;go_wp2_with fail;have O:=NX.jc w s<|h+1;refine Ý ?_ (H.out.2 _ _ O (gu _));rintro(_|(_|_)|_|_|_|_) a v hq;all_goals first|exact absurd hq id|skip
 .let⟨p,P,Q,S,T,V,j,q,W⟩:=hq;subst W;have d1:=j.r.fB f;have f1:=fj.C j.r<|m*18;have E2:=fj.M j.r;have b0:=(q.fB m).1;have b1:=(q.fB m).2;have hm0:(0:Int)<=(m:Int):=Z
  have hm1:(m:Int)<8:=Z
  have t:=fg<|Á j q;generalize X:(p m).fB=b at*;obtain⟨u,rfl⟩:=V;unfold Ad;go_wp2_with fail;go_region;go_wp2_with fail;go_ret;refine Ù ⟨p.fB m<|wu<|(p m).fB+50,P,Q,w.heap.size,S,T,U,U,?_,t.out.2.r m<|zY _⟩;rw[X];first
   |exact(t.out.1.fB f<|wu<|b+50).fP<|fe.fY _ _
   |exact(t.out.1.still<|Keep.drew _ _).fB f<|wu<|b+50
 .let⟨j,p,q,t⟩:=hq;simp only[Exit.inBlock,Exit.then];apply ð (results_tmp U _ _ _) p;exact Ø ⟨by rw[t];rfl,by rw[j],q⟩
end
def oG(i:Nat):ByteArray:=if i<10 then⟨#[(48+i).toUInt8]⟩else⟨#[(48+i/10).toUInt8,(48+i%10).toUInt8]⟩
def anM:∀k:Fin 10,(⟨#[48,49,50,51,52,53,54,55,56,57,97,98,99,100,101,102,103,104,105,106,107,108,109,110,111,112,113,114,115,116,117,118,119,120,121,122]⟩:ByteArray).extract k.val (k.val+1)=oG k.val:=by decide+kernel
def anN:∀k:Fin 100,k.val<10\/(⟨#[48,48,48,49,48,50,48,51,48,52,48,53,48,54,48,55,48,56,48,57,49,48,49,49,49,50,49,51,49,52,49,53,49,54,49,55,49,56,49,57,50,48,50,49,50,50,50,51,50,52,50,53,50,54,50,55,50,56,50,57,51,48,51,49,51,50,51,51,51,52,51,53,51,54,51,55,51,56,51,57,52,48,52,49,52,50,52,51,52,52,52,53,52,54,52,55,52,56,52,57,53,48,53,49,53,50,53,51,53,52,53,53,53,54,53,55,53,56,53,57,54,48,54,49,54,50,54,51,54,52,54,53,54,54,54,55,54,56,54,57,55,48,55,49,55,50,55,51,55,52,55,53,55,54,55,55,55,56,55,57,56,48,56,49,56,50,56,51,56,52,56,53,56,54,56,55,56,56,56,57,57,48,57,49,57,50,57,51,57,52,57,53,57,54,57,55,57,56,57,57]⟩:ByteArray).extract (k.val*2) (k.val*2+2)=oG k.val:=by decide+kernel
theorem anO(i:Nat)(h:i<10)(w:É):Ò À 187 #[Â Ë i] w λe a=>e=Ç (Í<|oG i)/\a=w:=by
 go_enter ź,π;go_wp2;all_goals go_ret
 refine⟨M'<|anM ⟨i,h⟩,U⟩
theorem anP(i:Nat)(h:i<100)(b:10<=i)(w:É):Ò À 187 #[Â Ë i] w λe a=>e=Ç (Í<|oG i)/\a=w:=by
 go_enter ź,π;go_wp2;all_goals go_ret
 refine⟨M' ((anN ⟨i,h⟩).resolve_left<|by show¬i<10;omega),U⟩
theorem anQ(i:Nat)(h:i<100)(w:É):Ò À 187 #[Â Ë i] w λe a=>e=Ç (Í<|oG i)/\a=w:=by grind [anO,anP]
def anR(i:Nat)(h:i<100)(w:É):Ò À 171 #[Â Ë i,Â Ë 10] w λe a=>e=Ç (Í<|oG i)/\a=w:=by go_enter Tryz.func171,Tryz.ntmps171;go_wp2_with (go_at_call 187;refine(anQ i h _).mono ?_;rintro e a ⟨rfl,rfl⟩);go_ret;exact⟨U,U⟩
def aaA(i:Nat)(h:i<100)(w:É):Ò À 117 #[Â Ë i] w λe a=>e=Ç (Í<|oG i)/\a=w:=by
 go_enter Tryz.func117,Tryz.ntmps117;go_wp2_with (first
  |(go_at_call 171;refine(anR i h _).mono ?_;rintro e a ⟨rfl,rfl⟩)
  |go_in)
 go_ret;exact⟨U,U⟩
def nY(i:Nat):ByteArray:=⟨#[33]⟩++oG i
def E5(i:Nat)(h:i<10)(w:É):Ò À 114 #[Â Ë i] w λe a=>e=Ç (Í<|nY i)/\a=w:=by
 have b:(oG i).size=1:=by unfold oG;rw[if_pos h];rfl
 go_enter Tryz.func114,Tryz.ntmps114;go_wp2_with (go_at_call 117;refine(aaA i Z _).mono ?_;rintro e a ⟨rfl,rfl⟩);go_ret;exact⟨U,U⟩
def tb(n c:Nat):Nat:=(n^^^c)*1099511628211%18446744073709551616
def Mt(n c:Nat):tb n c<18446744073709551616:=aO _ Z
def aaB(n c:Nat)(a:n<18446744073709551616)(f:c<256)(w:É):Ò À 178 #[Â Æ n,Â aU c] w λe b=>e=Ç (Â Æ<|tb n c)/\b=w:=by
 go_enter Tryz.func178,Tryz.ntmps178;go_wp2_with fail;go_ret;refine⟨?_,U⟩;have d:Æ.wrap (((n^^^c:Nat):Int)*1099511628211)=((tb n c:Nat):Int):=by rw[aY];unfold tb;omega
 rw[bits_xor_u64_nat n c a Z,d];rfl
def tn(m:Nat):Nat->Nat->Nat
 |n,0=>n
 |n,j+1=>tn m (tb n<|m/2^(8*j)%256) j
def aaC(m:Nat):∀(j n:Nat),n<18446744073709551616->tn m n j<18446744073709551616
 |0,_,h=>h
 |j+1,_,_=>aaC m j _<|Mt _ _
noncomputable def Mv:ŏ:=(Tryz.f177.body.bind kv).getD Ķ
def E6(m n:Nat)(i:Int)(u:Nat->È):é:=⟨#[Â Æ n,Â Æ m,u 2,u 3,u 4,Â Ë i,u 6,u 7,u 8,u 9,u 10,u 11,u 12,u 13,u 14,u 15,u 16],[]⟩
def E7(m n:Nat)(i:Int)(a:é):Prop:=∃u,a=E6 m n i u
section
variable{X:é->É->Prop}
def anS(m n j:Nat)(f:j<8)(d:n<18446744073709551616)(g:m<18446744073709551616)(u:Nat->È)(b:∀a,E7 m (tb n<|m/2^(8*j)%256) (((8*j:Nat):Int)-8) a->K a w): Î À Mv (Exit.then K<|QQ X) (E6 m n (8*j:Nat) u) w:=by
 unfold E6;conv=>arg 2;whnf
 have h:(0:Int)<=((8*j:Nat):Int):=Z
 have i:((8*j:Nat):Int)<64:=Z
 have T:=aaB n (m/2^(8*j)%256) d Z w;generalize 8*j=j8 at*;have c:((m/2^j8%256:Nat):Int)=(m:Int)/2^j8%256:=fq
 rw[c]at T;have H:=fg<|Á T b;clear T b c;go_wp2_with (go_at_call 178;apply H.out.1.mono;rintro e k ⟨rfl,rfl⟩);exact H.out.2 _ (gu _)
def anT(m n:Nat)(u:Nat->È)(b:∀a,E7 m n (-8) a->X a w): Î À Mv (Exit.then K<|QQ X) (E6 m n (-8) u) w:=by
 unfold E6;conv=>arg 2;whnf
 go_wp2_with fail
 exact b _ (gu _)
def TI(m:Nat)(b:É)(c:Nat)(a:é)(w:É):Prop:=∃n j:Nat,E7 m n (((8*j:Nat):Int)-8) a/\j<=8/\n<18446744073709551616/\w=b/\tn m n j=c
def TE(m:Nat)(b:É)(c:Nat)(a:é)(w:É):Prop:=E7 m c (-8) a/\w=b
def yk(a:é)(_:É):Nat:=match a.tmps.getD 5 ā with
 |Â _ i=>(i+8).toNat
 |_=>0
def IC(b:E7 m n h y):yk y w=(h+8).toNat:=by obtain⟨u,rfl⟩:=b;rfl
def anU(f:m<18446744073709551616)(a:é)(w:É)(g:TI m u i a w): Î À Mv (Exit.then (λb e=>TI m u i b e/\yk b e<yk a w)<|QQ<|TE m u i) a w:=by
 obtain⟨n,j,c,k,h,rfl,d⟩:=g;rw[IC (w:=w) c];obtain⟨b,rfl⟩:=c;cases j with
 |zero=>
  subst d;exact anT m n b λa q=>⟨q,U⟩
 |succ j=>
  have e:(((8*(j+1):Nat):Int)-8)=((8*j:Nat):Int):=Z
  rw[e];refine anS m n j Z h f b λa q=>⟨⟨_,j,q,Z,Mt _ _,U,d⟩,?_⟩;rw[IC q];omega
end
def oH(n m:Nat):Nat:=tn m n 8
theorem E8(n m:Nat)(a:n<18446744073709551616):oH n m<18446744073709551616:=aaC m 8 n a
def IF(n m:Nat)(b:n<18446744073709551616)(c:m<18446744073709551616)(w:É):Ò À 177 #[Â Æ n,Â Æ m] w λe d=>e=Ç (Â Æ<|oH n m)/\d=w:=by
 have L:∀a,E7 m n 56 a->Î À (à Mv) (QQ<|TE m w<|oH n m) a w:=λa f=>
  Ĉ (TI m w<|oH n m) yk ⟨n,8,f,Þ _,b,U,U⟩<|anU c
 generalize oH n m=r at*;go_enter Tryz.func177,Tryz.ntmps177;go_wp2_with fail;refine Ý ?_ ((fg L).out _ (gu _));rintro(_|(_|_)|_|_|_|_) a v hq;all_goals first|exact absurd hq id|skip
 obtain⟨g,rfl⟩:=hq;obtain⟨u,rfl⟩:=g;unfold E6;go_wp2_with fail;go_ret;exact⟨U,U⟩
def IG(p q:Nat):Nat:=oH (oH 14695981039346656037 p) q
def anV(p q:Nat):IG p q<18446744073709551616:=E8 _ _<|E8 _ _ Z
noncomputable def IH:ŏ:=(Tryz.f162.body.bind kv).getD Ķ
noncomputable def IJ:ŏ:=(kv IH).getD Ķ
def Q2(X:é->É->Prop):aT->é->É->Prop
 |.exit 2,a,w=>X a w
 |_,_,_=>False
def vN(b c d:Nat)(a:Nat)(i:Int)(u:Nat->È):é:=⟨#[Ê (Ã ⟨b,0,Ä⟩) c d,u 1,u 2,Â Ë a,u 4,u 5,u 6,u 7,u 8,u 9,u 10,Â Ë a,Â Ë i,u 13,u 14,u 15,u 16,u 17,u 18,u 19,u 20,u 21,u 22,u 23,u 24,u 25,u 26,u 27,u 28,u 29,u 30,u 31,u 32,u 33,u 34,u 35,u 36,u 37],[]⟩
def Cu(b c d:Nat)(e:Nat)(i:Int)(a:é):Prop:=∃u,a=vN b c d e i u
section
variable{X:é->É->Prop}{cp:Nat}
def anW(u:Nat->È)(c:∀a,Cu b n cp i i a->X a w): Î À IJ (Exit.then K<|Q2 X) (vN b n cp i i u) w:=by
 unfold vN;conv=>arg 2;whnf
 go_wp2_with fail
 exact c _ (gu _)
def anX(c p q z:Nat)(k:IG p q=z)(t:c<i)(x:2*i<=n)(y:n<=16)(l:p<18446744073709551616)(m:q<18446744073709551616)(u:Nat->È) (o:w.cell? ⟨b,2*c,Ä⟩=Ã (Â Æ p)) (r:w.cell? ⟨b,2*c+1,Ä⟩=Ã (Â Æ q)) (h:∃v,w.cell? ⟨b,c,Ä⟩=Ã v) (B:w.frozen? ⟨b,c,Ä⟩=Ï) (d:∀a,Cu b n cp i ((c+1:Nat):Int) a->K a (w.setCell ⟨b,c,Ä⟩<|Â Æ z).drew): Î À IJ (Exit.then K<|Q2 X) (vN b n cp i c u) w:=by
 unfold vN;conv=>arg 2;whnf
 subst k;unfold IG at d;let⟨C,h⟩:=h;have D:(0:Int)<=(c:Int):=Z
 have E:(c:Int)<(i:Int):=Z
 have F:(2:Int)*(c:Int)+1<(n:Int):=Z
 have G:((2:Int)*(c:Int)).toNat=2*c:=Z
 have H:((2:Int)*(c:Int)+1).toNat=2*c+1:=Z
 have I:Ë.wrap (2*(c:Int))=2*(c:Int):=Ir Z Z;have j:Ë.wrap (2*(c:Int)+1)=2*(c:Int)+1:=Ir Z Z;have J:(0:Int)<=2*(c:Int):=Z
 have L:2*(c:Int)<(n:Int):=Z
 have M:(0:Int)<=2*(c:Int)+1:=Z
 have N:(c:Int)<(n:Int):=Z
 have s:=fg d;clear d;go_wp2_with fail;have f:=fg<|Á o r;refine mC (λe=>e.cell? ⟨b,2*c,Ä⟩=Ã (Â Æ p)/\e.cell? ⟨b,2*c+1,Ä⟩=Ã (Â Æ q)) [16] fw ?_;iterate 7 apply tk f.out
 apply tk f.out 8;apply tk f.out 9;apply tk f.out 10;apply tk f.out 11;apply tk f.out 12;apply tk f.out 13;refine gE 7 ?_;intro K d;go_simp;go_at_call 177;refine(IF 14695981039346656037 p Z l _).mono ?_;rintro e g ⟨rfl,j⟩;subst g;refine d.out _ _ (λ_=>f.out) ?_;refine gE 14 ?_;intro K d;go_simp;go_at_call 177;refine(IF (oH 14695981039346656037 p) q (E8 _ _ Z) m _).mono ?_;rintro e g ⟨rfl,j⟩;subst g;refine d.out _ _ (λ_=>f.out) ?_;refine gE 15 ?_;intro K d;go_simp;refine d.out _ _ (λ_=>f.out) ?_;refine gE 16 ?_;intro K d;go_simp;refine d.out _ _ (λq=>absurd fq q) ?_;refine mf fw ?_ _;go_wp2_with fail;exact s.out _ (gu _)
end
def pr(l:List Nat)(t:Nat):Nat:=IG (l.getD (2*t) 0)<|l.getD (2*t+1) 0
def aaD(l:List Nat)(t:Nat):IG (l.getD (2*t) 0) (l.getD (2*t+1) 0)=pr l t:=by unfold pr;exact Eq.refl _
def jT(l:List Nat)(i:Nat):List Nat:=(ċ l.length).map λt=>if t<i then pr l t else l.getD t 0
def uZ(l:List Nat):List Nat:=(ċ<|l.length/2).map<|pr l
def kC(l:List Nat):List È:=l.map λ(x:Nat)=>Â Æ x
def sx(l:List Nat):Prop:=∀t,l.getD t 0<18446744073709551616
theorem IK(l:List Nat)(i:Nat):(jT l i).length=l.length:=by simp[jT]
theorem Mw(l:List Nat)(i t:Nat)(h:t<l.length):(jT l i)[t]?=Ã (if t<i then pr l t else l.getD t 0):=by simp[jT,û h]
theorem anY(l:List Nat):jT l 0=l:=by refine þ λt=> ?_;grind [Mw,IK]
theorem anZ(l:List Nat)(i:Nat)(h:i<l.length):(jT l i).set i (pr l i)=jT l (i+1):=by refine þ λt=> ?_;grind [Mw,IK,ĕ]
theorem an0(l:List Nat):jT l (l.length/2)=uZ l++l.drop (l.length/2):=by
 refine þ λt=> ?_;have b:(uZ l).length=l.length/2:=by simp[uZ]
 by_cases a:t<l.length
 .rw[Mw _ _ t a];by_cases q:t<l.length/2
  .rw[if_pos q,ç Z];simp[uZ,û q]
  .grind
 .grind [IK,Ó,List.length_drop]
def an1(l:List Nat)(t:Nat):pr l t<18446744073709551616:=by rw[<-aaD];exact anV _ _
def Mx{N:Nat}(a:0<N)(h:∀x∈jJ,x<N)(t:Nat):jJ.getD t 0<N:=by
 rw[Ĳ];cases e:jJ[t]? with
 |none=>exact a
 |some x=>exact h x<|Ġ e
def aaE(l:List Nat):sx (uZ l):=Mx Z λx a=>by unfold uZ at a;obtain⟨t,_,rfl⟩:=ņ.1 a;exact an1 l t
def sy:Nat->List Nat->Nat
 |0,l=>l.getD 0 0
 |k+1,l=>sy k<|uZ l
def TY(l:List Nat)(i x:Nat):kC (l.set i x)=(kC l).set i (Â Æ x):=by simp[kC,List.map_set]
theorem IL(l:List Nat)(i x:Nat)(h:l[i]?=Ã x):(kC l)[i]?=Ã (Â Æ x):=by simp[kC,h]
section
variable{cp:Nat}{l:List Nat}{junk:List È}
def II(b n cp i:Nat)(T:õ)(l:List Nat)(junk:List È)(d:É)(a:é)(w:É):Prop:=
 ∃c:Nat,Cu b n cp i c a/\c<=i/\fe (λk=>k=b) d w/\fj b (kC (jT l c)++junk) T w
def IE(b n cp i:Nat)(T:õ)(l:List Nat)(junk:List È)(c:É)(a:é)(w:É):Prop:=
 Cu b n cp i i a/\fe (λk=>k=b) c w/\fj b (kC (jT l i)++junk) T w
def My(i:Nat)(a:é)(_:É):Nat:=match a.tmps.getD 12 ā with
 |Â _ b=>i-b.toNat
 |_=>0
def aaF(c:Cu b n cp i j y):My i y w=i-j:=by obtain⟨u,rfl⟩:=c;show i-(j:Int).toNat=_;simp
def an2(g:sx l)(r:l.length=n)(s:2*i=n)(m:n<=16)(a:é)(w:É)(o:II b n cp i T l junk u a w): Î À IJ (Exit.then (λc d=>II b n cp i T l junk u c d/\My i c d<My i a w)<|Q2<|IE b n cp i T l junk u) a w:=by
 let⟨c,h,v,j,e⟩:=o;rw[aaF h];obtain⟨d,rfl⟩:=h;by_cases p:c=i
 .subst p;exact anW d λa q=>⟨q,j,e⟩
 .have f:=λt x y=>
   e.r t _<|by rw[ç (by simp[kC,IK];omega)];exact IL _ _ _<|by rw[Mw l c t Z,if_neg Z]
  refine anX c (l.getD (2*c) 0) (l.getD (2*c+1) 0) (pr l c) (aaD l c) Z Z m (g _) (g _) d (f _ Z Z) (f _ Z Z) ⟨_,f c Z Z⟩ (e.C c) λa q=>⟨⟨c+1,q,Z,(j.fi<|fe.I (X:=λk=>k=b) U _).fi<|fe.fY _ _,?_⟩,by rw[aaF q];omega⟩;rw[<-anZ l c Z,TY,<-Ğ _ _ (by simp[kC,IK];omega)];exact((e.fV c<|Â Æ<|pr l c).I (fe.fY fh _) id)
def an3(c:sx l)(d:l.length=n)(e:2*i=n)(f:n<=16)(g:fj b (kC l++junk) T w)(h:Cu b n cp i (0:Nat) y): Î À (à IJ) (Q2<|IE b n cp i T l junk w) y w:= Ĉ (II b n cp i T l junk w) (My i) ⟨0,h,â _,fe.gd _ _,by rwa[anY]⟩<|an2 c d e f
end
def E9(b a c:Nat)(u:Nat->È):é:=⟨#[Ê (Ã ⟨b,0,Ä⟩) a c,u 1,u 2,u 3,u 4,u 5,u 6,u 7,u 8,u 9,u 10,u 11,u 12,u 13,u 14,u 15,u 16,u 17,u 18,u 19,u 20,u 21,u 22,u 23,u 24,u 25,u 26,u 27,u 28,u 29,u 30,u 31,u 32,u 33,u 34,u 35,u 36,u 37],[]⟩
def Fa(b c d:Nat)(a:é):Prop:=∃u,a=E9 b c d u
section
variable{cp:Nat}{l:List Nat}{junk:List È}
def an4(c:n=1)(u:Nat->È)(d:∀a,Fa b n cp a->H a w): Î À IH (Exit.then K<|QQ H) (E9 b n cp u) w:=by
 unfold E9;conv=>arg 2;whnf
 subst c;go_wp2_with fail;exact d _ (gu _)
def an5(u:Nat->È)(g:sx l)(h:l.length=n)(j:2*i=n)(s:0<i)(m:n<=16)(t:n<=cp)(d:fj b (kC l++junk) T w) (o:∀a e,Fa b i cp a->fe (λk=>k=b) w e->fj b (kC (jT l i)++junk) T e->K a e): Î À IH (Exit.then K<|QQ H) (E9 b n cp u) w:=by
 have L:∀a,Cu b n cp i (0:Nat) a->Î À (à IJ) (Q2<|IE b n cp i T l junk w) a w:=λa p=>an3 g h j m d p;unfold E9;conv=>arg 2;whnf
 have x:(n:Int).tdiv 2=(i:Int):=by rw[Int.tdiv_eq_ediv_of_nonneg Z];omega
 have y:(0:Int)<=(i:Int):=Z
 have z:(i:Int)<=(cp:Int):=Z
 have c:=fg<|Á L o;go_wp2_with fail;refine Ý ?_ (c.out.1 _ (gu _));rintro(_|(_|_|_|_)|_|_|_|_) a v hq;all_goals first|exact absurd hq id|skip
 let⟨q,r,d⟩:=hq;obtain⟨u,rfl⟩:=q;unfold vN;have f:=fg<|Á r d;go_wp2_with fail;exact c.out.2 _ _ (gu _) f.out.1 f.out.2
def OI(b cp:Nat)(T:õ)(c:É)(d:Nat)(a:é)(w:É):Prop:=
 ∃(k:Nat) (l:List Nat) (junk:List È),Fa b l.length cp a/\l.length=2^k/\l.length<=16/\l.length<=cp/\sx l/\fe (λk=>k=b) c w/\fj b (kC l++junk) T w/\sy k l=d
def OE(b cp:Nat)(c:É)(d:Nat)(a:é)(w:É):Prop:=Fa b 1 cp a/\1<=cp/\fe (λk=>k=b) c w/\w.cell? ⟨b,0,Ä⟩=Ã (Â Æ d)
def yl(a:é)(_:É):Nat:=match a.tmps.getD 0 ā with
 |Ê _ n _=>n
 |_=>0
def IN(c:Fa b n cp y):yl y w=n:=by obtain⟨u,rfl⟩:=c;rfl
def an6(a:é)(w:É)(r:OI b cp T u i a w): Î À IH (Exit.then (λc d=>OI b cp T u i c d/\yl c d<yl a w)<|QQ<|OE b cp u i) a w:=by
 let⟨k,l,junk,g,h,s,t,v,j,m,n⟩:=r;rw[IN g];obtain⟨c,rfl⟩:=g;cases k with
 |zero=>
  have e:=h;have f:w.cell? ⟨b,0,Ä⟩=Ã (Â Æ<|l.getD 0 0):=m.r 0 _ (by rw[ç (by simp[kC];omega)];exact IL _ _ _<|by rw[Ĳ,Ô Z];rfl);have o:l.getD 0 0=i:=n;rw[o]at f;refine an4 e c λa q=>⟨by rwa[e]at q,Z,j,f⟩
 |succ k=>
  have x:2*2^k=l.length:=by rw[h,Nat.pow_succ];omega
  have y:0<2^k:=Nat.pow_pos Z;have f:l.length/2=2^k:=Z
  have o:(uZ l).length=2^k:=by simp[uZ,f]
  refine an5 c v U x y s t m λa d q z p=>⟨⟨k,uZ l,kC (l.drop<|l.length/2)++junk,by rwa[o],o,Z,Z,aaE l,j.fi z,?_,n⟩,by rw[IN q];omega⟩;have e:=an0 l;rw[f]at e;rw[e]at p;rw[f,<-Ċ];simpa[kC]using p
end
def aaG{cp:Nat}{l:List Nat}{junk:List È}(c:l.length=2^k)(d:l.length<=16)(f:l.length<=cp)(g:sx l)(h:fj b (kC l++junk) T w): Ò À 162 #[Ê (Ã ⟨b,0,Ä⟩) l.length cp] w λe a=>e=Ç (Â Æ<|sy k l)/\fe (λi=>i=b) w a:=by
 have L:∀a,Fa b l.length cp a->Î À (à IH) (QQ<|OE b cp w<|sy k l) a w:=λa e=>
  Ĉ (OI b cp T w<|sy k l) yl ⟨k,l,junk,e,c,d,f,g,fe.gd _ _,h,U⟩ an6
 generalize sy k l=r at*;generalize l.length=n at*;go_enter Tryz.func162,Tryz.ntmps162;go_wp2_with fail;refine Ý ?_ ((fg L).out _ (gu _));rintro(_|(_|_)|_|_|_|_) a v hq;all_goals first|exact absurd hq id|skip
 let⟨i,j,m,o⟩:=hq;obtain⟨u,rfl⟩:=i;unfold E9;go_wp2_with fail;go_ret;simp_all
def an7:À.underlying 118=Ã (.array 16 36):=fw
def an8(w:É)(c:i<16)(e:d[i]?=Ã (Â Æ h)):(Κ 118 (Ē d)<|Â Ë (i:Int)).run À w=φ (Â Æ h) w:=by
 have a:(0:Int)<=(i:Int):=Z
 have b:(i:Int)<16:=Z
 simp[Κ,ř an7,asIntOf,go_sem,a,b];go_simp
noncomputable def IP:ŏ:=(aZ.body.bind kv).getD Ķ
def Fb(c o b:Nat)(a:Array È)(i:Int)(u:Nat->È):é:=⟨#[Å<|Ã ⟨c,o,Ä⟩,u 1,u 2,Å<|Ã ⟨b,0,Ä⟩,u 4,u 5,u 6,u 7,u 8,u 9,u 10,Ē a,Â Ë i,u 13,u 14,u 15,u 16,u 17,u 18,u 19,u 20,u 21,u 22,u 23,u 24,u 25,u 26,u 27,u 28,u 29,u 30,u 31,u 32,u 33,u 34,u 35,u 36,u 37,u 38,u 39,u 40,u 41,u 42,u 43,u 44,u 45,u 46,u 47],[]⟩
def Cv(d o b:Nat)(c:Array È)(i:Int)(a:é):Prop:=∃u,a=Fb d o b c i u
section
variable{X:é->É->Prop}
def an9(u:Nat->È)(c:∀a,Cv n i b d 16 a->X a w): Î À IP (Exit.then K<|QQ X) (Fb n i b d 16 u) w:=by
 unfold Fb;conv=>arg 2;whnf
 go_wp2_with fail
 exact c _ (gu _)
def aoa(c p z:Nat)(j:oH 14695981039346656037 p=z)(k:c<16)(l:p<18446744073709551616)(f:d[c]?=Ã (Â Æ p))(g:∃v,w.cell? ⟨b,c,Ä⟩=Ã v)(o:w.frozen? ⟨b,c,Ä⟩=Ï)(u:Nat->È) (h:∀a,Cv n i b d ((c+1:Nat):Int) a->K a (w.setCell ⟨b,c,Ä⟩<|Â Æ z)): Î À IP (Exit.then K<|QQ X) (Fb n i b d c u) w:=by
 unfold Fb;conv=>arg 2;whnf
 let⟨q,g⟩:=g;have r:=λW=>an8 W k f;have m:=fg h;clear h f;go_wp2_with (go_at_call 177;refine(IF 14695981039346656037 p Z l _).mono ?_;rintro e s ⟨rfl,rfl⟩;rw[j]);exact m.out _ (gu _)
def lf(x:Nat):Nat:=oH 14695981039346656037 x
theorem Mz(x:Nat):lf x<18446744073709551616:=E8 _ _ Z
def aaH(x:Nat):oH 14695981039346656037 x=lf x:=by unfold lf;exact Eq.refl _
def oI(l:List Nat)(i:Nat):List Nat:=(ċ 16).map λt=>if t<i then lf (l.getD t 0)else 0
theorem IQ(l:List Nat)(i:Nat):(oI l i).length=16:=by simp[oI]
theorem aaI(l:List Nat)(i t:Nat)(h:t<16):(oI l i)[t]?=Ã (if t<i then lf (l.getD t 0)else 0):=by simp[oI,û h]
theorem aob(l:List Nat)(i:Nat)(h:i<16):(oI l i).set i (lf<|l.getD i 0)=oI l (i+1):=by refine þ λt=> ?_;grind [aaI,IQ,ĕ]
def aaJ(l:List Nat):sx (oI l 16):=Mx Z λx a=>by
 unfold oI at a;obtain⟨t,_,rfl⟩:=ņ.1 a;split
 .exact Mz _
 .omega
def AI(n i b:Nat)(l:List Nat)(d:É)(a:é)(w:É):Prop:=
 ∃c:Nat,Cv n i b (kC l).toArray c a/\c<=16/\fe (λk=>k=b) d w/\fj b (kC<|oI l c) 118 w
def AE(n i b:Nat)(l:List Nat)(c:É)(a:é)(w:É):Prop:=
 Cv n i b (kC l).toArray 16 a/\fe (λk=>k=b) c w/\fj b (kC<|oI l 16) 118 w
def MA(a:é)(_:É):Nat:=match a.tmps.getD 12 ā with
 |Â _ i=>16-i.toNat
 |_=>0
def aaK(c:Cv n i b d j y):MA y w=16-j:=by obtain⟨u,rfl⟩:=c;show 16-(j:Int).toNat=_;simp
theorem aoc(h:sx jJ)(p:jJ.length=16)(a:é)(w:É)(j:AI n i b jJ u a w): Î À IP (Exit.then (λc d=>AI n i b jJ u c d/\MA c d<MA a w)<|QQ<|AE n i b jJ u) a w:=by
 let⟨c,f,r,g,e⟩:=j;rw[aaK f];obtain⟨d,rfl⟩:=f;by_cases m:c=16
 .subst m;exact an9 d λa q=>⟨q,g,e⟩
 .have o:(kC jJ).toArray[c]?=Ã (Â Æ<|jJ.getD c 0):=by
   grind [IL]
  refine aoa c (jJ.getD c 0) (lf<|jJ.getD c 0) (aaH _) Z (h _) o ⟨_,(e.r c _<|IL _ _ _<|by rw[aaI jJ c c Z,if_neg Z])⟩ (e.C c) d λa q=>⟨⟨c+1,q,Z,g.fi (fe.I (X:=λk=>k=b) U _),?_⟩,by rw[aaK q];omega⟩;rw[<-aob jJ c Z,TY];exact e.fV c<|Â Æ<|lf<|jJ.getD c 0
def aod{l:List Nat}(c:sx l)(d:l.length=16)(e:fj b (kC<|oI l 0) 118 w)(f:Cv n i b (kC l).toArray (0:Nat) y): Î À (à IP) (QQ<|AE n i b l w) y w:= Ĉ (AI n i b l w) MA ⟨0,f,â _,fe.gd _ _,e⟩<|aoc c d
end
def Cw:ŏ->List ŏ
 |à c=>[c]
 |.seq a b=>Cw a++Cw b
 |.block _ c=>Cw c
 |.scope c=>Cw c
 |.cond _ a b=>Cw a++Cw b
 |_=>[]
noncomputable def IT:ŏ:=((aZ.body.map Cw).getD []).getD 1 Ķ
def Fc(a o:Nat)(P:ByteArray)(n:Nat)(i:Int)(u:Nat->È):é:=⟨#[Å<|Ã ⟨a,o,Ä⟩,u 1,u 2,u 3,u 4,u 5,Â Æ n,u 7,u 8,u 9,u 10,u 11,u 12,u 13,u 14,u 15,u 16,u 17,u 18,u 19,u 20,u 21,u 22,u 23,u 24,u 25,u 26,u 27,u 28,u 29,u 30,u 31,u 32,u 33,Â Ë P.size,Â Ë i,u 36,u 37,u 38,u 39,u 40,u 41,u 42,u 43,u 44,u 45,u 46,u 47],[]⟩
def Cx(b o:Nat)(P:ByteArray)(n:Nat)(i:Int)(a:é):Prop:=∃u,a=Fc b o P n i u
def Ae(n:Nat)(l:List UInt8):Nat:=l.foldl (λn c=>tb n c.toNat) n
def aoe(b:Nat)(c:Int)(d:c=B.size)(u:Nat->È)(e:∀a,Cx n i B b c a->H a w): Î À IT (Exit.then K<|Q2 H) (Fc n i B b c u) w:=by
 unfold Fc;conv=>arg 2;whnf
 subst d;go_wp2_with fail;exact e _ (gu _)
def aof{B:ByteArray}{c:UInt8}(w:É)(a:B.data.toList[i]?=Ã c):(Κ 9 (Í B)<|Â Ë (i:Int)).run À w=φ (Â aU (c.toNat:Nat)) w:=by
 have e:(0:Int)<=(i:Int):=Z
 let⟨b,d⟩:=Ü.1 a;have f:i<B.size:=by simpa using b
 have g:B[i]=c:=by rw[<-d];exact(Array.getElem_toList _).symm
 go_simp
def aog(b d z:Nat)(c:UInt8)(g:tb b c.toNat=z)(l:d<B.size)(m:B.size<=1000000)(k:b<18446744073709551616)(h:B.data.toList[d]?=Ã c)(o:w.cell? ⟨n,i+1,Ä⟩=Ã (Í B))(u:Nat->È) (j:∀a,Cx n i B z ((d+1:Nat):Int) a->K a w): Î À IT (Exit.then K<|Q2 H) (Fc n i B b d u) w:=by
 unfold Fc;conv=>arg 2;whnf
 have p:(0:Int)<=(d:Int):=Z
 have q:(d:Int)<(B.size:Int):=Z
 have r:(B.size:Int)<=1000000:=Z
 have s:=λW=>aof W h;have t:=c.toNat_lt;have T:=aaB b c.toNat k Z w;rw[g]at T;generalize c.toNat=cn at*;have f:=fg<|Á T j;clear j T h g;go_wp2_with (go_at_call 178;apply f.out.1.mono;rintro e v ⟨rfl,rfl⟩);exact f.out.2 _ (gu _)
def BI(n i:Nat)(B:ByteArray)(d:É)(e:Nat)(a:é)(w:É):Prop:=
 ∃b c:Nat,Cx n i B b c a/\c<=B.size/\b<18446744073709551616/\w=d/\Ae b (B.data.toList.drop c)=e
def BE(n i:Nat)(B:ByteArray)(b:É)(c:Nat)(a:é)(w:É):Prop:=Cx n i B c B.size a/\w=b
def MB(m:Nat)(a:é)(_:É):Nat:=match a.tmps.getD 35 ā with
 |Â _ i=>m-i.toNat
 |_=>0
def aaL(c:Cx n i B j b y):MB m y w=m-b:=by obtain⟨u,rfl⟩:=c;show m-(b:Int).toNat=_;simp
def aoh(h:B.size<=1000000)(k:u.cell? ⟨n,i+1,Ä⟩=Ã (Í B))(a:é)(w:É)(l:BI n i B u j a w): Î À IT (Exit.then (λb c=>BI n i B u j b c/\MB B.size b c<MB B.size a w)<|Q2<|BE n i B u j) a w:=by
 obtain⟨b,c,f,p,m,rfl,e⟩:=l;rw[aaL f];obtain⟨d,rfl⟩:=f;have r:B.data.toList.length=B.size:=fq
 by_cases o:c=B.size
 .rw[Ę Z]at e;subst e;exact aoe b c Z d λa q=>⟨by rwa[o]at q,U⟩
 .have g:c<B.data.toList.length:=Z
  rw[ē g]at e;refine aog b c (tb b (B.data.toList[c]).toNat) (B.data.toList[c]) (Eq.refl _) Z h m (Ô g) k d λa q=>⟨⟨_,c+1,q,Z,Mt _ _,U,e⟩,by rw[aaL q];omega⟩
def aoi(b:B.size<=1000000)(c:j<18446744073709551616)(d:w.cell? ⟨n,i+1,Ä⟩=Ã (Í B))(e:Cx n i B j (0:Nat) y): Î À (à IT) (Q2<|BE n i B w<|Ae j B.data.toList) y w:= Ĉ (BI n i B w<|Ae j B.data.toList) (MB B.size) ⟨j,0,e,â _,c,U,U⟩<|aoh b d
abbrev zA:List È:=[Â Æ 0,Â Æ 0,Â Æ 0,Â Æ 0,Â Æ 0,Â Æ 0,Â Æ 0,Â Æ 0,Â Æ 0,Â Æ 0,Â Æ 0,Â Æ 0,Â Æ 0,Â Æ 0,Â Æ 0,Â Æ 0]
def Cy(B:Nat)(P:ByteArray)(a:List Nat):Nat:=Ae (oH (lf B)<|sy 4<|oI a 16) P.data.toList
def T0:∀(k:Nat) (l:List Nat),sx l->sy k l<18446744073709551616
 |0,_,h=>h 0
 |k+1,l,_=>T0 k (uZ l)<|aaE l
def aoj(l:List Nat):kC (oI l 0)=zA:=by rfl
def aok{P:ByteArray}(d f g p r s x y z C D E F G I J:Nat)(Y:(kC jJ).toArray=#[Â Æ d,Â Æ f,Â Æ g,Â Æ p,Â Æ r,Â Æ s,Â Æ x,Â Æ y,Â Æ z,Â Æ C,Â Æ D,Â Æ E,Â Æ F,Â Æ G,Â Æ I,Â Æ J])(hl:jJ.length=16)(hB:m<18446744073709551616)(hP:P.size<=1000000)(hs:sx jJ) (K:w.cell? ⟨n,j,Ä⟩=Ã (Â Æ m)) (c1:w.cell? ⟨n,j+1,Ä⟩=Ã (Í P)) (r0:w.cell? ⟨n,j+2,Ä⟩=Ã (Â Æ d)) (r1:w.cell? ⟨n,j+2+1,Ä⟩=Ã (Â Æ f)) (r2:w.cell? ⟨n,j+2+2,Ä⟩=Ã (Â Æ g)) (r3:w.cell? ⟨n,j+2+3,Ä⟩=Ã (Â Æ p)) (r4:w.cell? ⟨n,j+2+4,Ä⟩=Ã (Â Æ r)) (r5:w.cell? ⟨n,j+2+5,Ä⟩=Ã (Â Æ s)) (r6:w.cell? ⟨n,j+2+6,Ä⟩=Ã (Â Æ x)) (r7:w.cell? ⟨n,j+2+7,Ä⟩=Ã (Â Æ y)) (r8:w.cell? ⟨n,j+2+8,Ä⟩=Ã (Â Æ z)) (r9:w.cell? ⟨n,j+2+9,Ä⟩=Ã (Â Æ C)) (r10:w.cell? ⟨n,j+2+10,Ä⟩=Ã (Â Æ D)) (r11:w.cell? ⟨n,j+2+11,Ä⟩=Ã (Â Æ E)) (r12:w.cell? ⟨n,j+2+12,Ä⟩=Ã (Â Æ F)) (r13:w.cell? ⟨n,j+2+13,Ä⟩=Ã (Â Æ G)) (r14:w.cell? ⟨n,j+2+14,Ä⟩=Ã (Â Æ I)) (r15:w.cell? ⟨n,j+2+15,Ä⟩=Ã (Â Æ J)): Ò À 161 #[Å<|Ã ⟨n,j,Ä⟩] w λe c=>e=Ç (Â Æ<|Cy m P jJ)/\fe fh w c:=by
 have gV:=á w _ K;have L1:∀a,Cv n j w.heap.size #[Â Æ d,Â Æ f,Â Æ g,Â Æ p,Â Æ r,Â Æ s,Â Æ x,Â Æ y,Â Æ z,Â Æ C,Â Æ D,Â Æ E,Â Æ F,Â Æ G,Â Æ I,Â Æ J] (0:Nat) a->Î À (à IP) (QQ<|AE n j w.heap.size jJ<|w.alloc<|Ð zA.toArray 118) a (w.alloc<|Ð zA.toArray 118):=λa L=>
  aod hs hl (by rw[aoj];exact fj.N w zA 118)<|by rwa[Y]
 have M:∀W,fj w.heap.size (kC<|oI jJ 16) 118 W->Ò À 162 #[Ê (Ã ⟨w.heap.size,0,Ä⟩) 16 16] W λe c=>e=Ç (Â Æ<|sy 4<|oI jJ 16)/\fe (λi=>i=w.heap.size) W c:=λW hW=>by have t:=aaG (w:=W) (b:=w.heap.size) (cp:=16) (k:=4) (T:=118) (l:=oI jJ 16) (junk:=[]) (by rw[IQ]) (by rw[IQ];omega) (by rw[IQ];omega) (aaJ jJ) (by rwa[ò]);rwa[IQ]at t
 have N:=T0 4 (oI jJ 16)<|aaJ jJ;obtain⟨t,O⟩:∃t,sy 4 (oI jJ 16)=t:=⟨_,U⟩;have hac:Cy m P jJ=Ae (oH (lf m) t) P.data.toList:=by unfold Cy;rw[O]
 rw[hac];rw[O]at M N;have L2:∀W a,W.cell? ⟨n,j+1,Ä⟩=Ã (Í P)->Cx n j P (oH (lf m) t) (0:Nat) a->Î À (à IT) (Q2<|BE n j P W<|Ae (oH (lf m) t) P.data.toList) a W:=λW a h L=>
  aoi hP (E8 _ _<|Mz m) h L
 have C1:∀W,Ò À 177 #[Â Æ 14695981039346656037,Â Æ m] W λe c=>e=Ç (Â Æ<|lf m)/\c=W:=λW=>by rw[<-aaH];exact IF 14695981039346656037 m Z hB W
 have C2:∀W,Ò À 177 #[Â Æ<|lf m,Â Æ t] W λe c=>e=Ç (Â Æ<|oH (lf m) t)/\c=W:=λW=>IF (lf m) t (Mz m) N W;have H:=fg<|Á K<|Á c1<|Á L1<|Á M<|Á L2<|Á C1 C2;clear L1 M L2 C1 C2 hac O N hs K c1 Y;generalize Ae (oH (lf m) t) P.data.toList=res at*;generalize oH (lf m) t=n2 at*;generalize lf m=n1 at*;go_enter Tryz.func161,Tryz.ntmps161;go_wp2_with fail;refine Ý (Q:=QQ<|AE n j w.heap.size jJ<|w.alloc<|Ð zA.toArray 118) ?_ (H.out.2.2.1 _ (gu _));rintro(_|(_|_)|_|_|_|_) a v hq;all_goals first|exact absurd hq id|skip
 let⟨S,hk,hBv⟩:=hq;have V:fe fh w v:=(fe.gL fh w zA.toArray 118).C hk λi hi q=>by omega
 have g0:=V.r H.out.1 id;obtain⟨u,rfl⟩:=S;unfold Fb;have HV:=fg<|Á V hBv;clear V hBv hk r0 r1 r2 r3 r4 r5 r6 r7 r8 r9 r10 r11 r12 r13 r14 r15;go_wp2_with (first
  |(go_at_call 162;refine(H.out.2.2.2.1 _ HV.out.2).mono ?_;rintro e w2 ⟨rfl,zq⟩;have X:=HV.out.1.C zq (λi hi q=>by omega);have g1:=X.r H.out.2.1 id;have HK:=fg X;clear zq X)
  |(go_at_call 177;with_reducible refine(H.out.2.2.2.2.2.2 _).mono ?_;rintro e X ⟨rfl,rfl⟩)
  |(go_at_call 177;refine(H.out.2.2.2.2.2.1 _).mono ?_;rintro e X ⟨rfl,rfl⟩))
 refine Ý (Q:=Q2<|BE n j P _ res) ?_ (H.out.2.2.2.2.1 _ _ g1 (gu _));rintro(_|(_|_|_|_)|_|_|_|_) a v2 hq;all_goals first|exact absurd hq id|skip
 obtain⟨S,rfl⟩:=hq;obtain⟨u,rfl⟩:=S;unfold Fc;go_wp2_with fail;go_ret;exact⟨U,HK.out⟩
def aol{P:ByteArray}(c:j<18446744073709551616)(d:P.size<=1000000)(f:jJ.length=16)(g:sx jJ) (h:w.cell? ⟨i,n,Ä⟩=Ã (Â Æ j)) (k:w.cell? ⟨i,n+1,Ä⟩=Ã (Í P)) (b:∀(a x:Nat),jJ[a]?=Ã x->w.cell? ⟨i,n+2+a,Ä⟩=Ã (Â Æ x)): Ò À 161 #[Å<|Ã ⟨i,n,Ä⟩] w λe l=>e=Ç (Â Æ<|Cy j P jJ)/\fe fh w l:=by
 match jJ,f with
 |[a0,a1,a2,a3,a4,a5,a6,a7,a8,a9,a10,a11,a12,a13,a14,a15],_=>exact aok a0 a1 a2 a3 a4 a5 a6 a7 a8 a9 a10 a11 a12 a13 a14 a15 fS fS c d g h k (b 0 a0 U) (b 1 a1 U) (b 2 a2 U) (b 3 a3 U) (b 4 a4 U) (b 5 a5 U) (b 6 a6 U) (b 7 a7 U) (b 8 a8 U) (b 9 a9 U) (b 10 a10 U) (b 11 a11 U) (b 12 a12 U) (b 13 a13 U) (b 14 a14 U)<|b 15 a15 U
abbrev zB:List È:=[Â Æ 0,Â Æ 0,Â Æ 0,Â Æ 0,Â Æ 0,Â Æ 0,Â Æ 0,Â Æ 0]
noncomputable def MC:ŏ:=(Tryz.f122.body.bind kv).getD Ķ
def Fe(a b:Nat)(i:Int)(u:Nat->È):é:=⟨#[Å<|Ã ⟨a,0,Ä⟩,u 1,u 2,Å<|Ã ⟨b,0,Ä⟩,u 4,Â Ë i,u 6,u 7,u 8,u 9,u 10,u 11,u 12,u 13,u 14,u 15,u 16,u 17],[]⟩
def Ff(c b:Nat)(i:Int)(a:é):Prop:=∃u,a=Fe c b i u
section
variable{X:é->É->Prop}
def aom(u:Nat->È)(c:∀a,Ff i b 8 a->X a w): Î À MC (Exit.then K<|QQ X) (Fe i b 8 u) w:=by
 unfold Fe;conv=>arg 2;whnf
 go_wp2_with fail
 exact c _ (gu _)
def aon(c z:Nat)(o:c<8)(T:Ò À 161 #[Å<|Ã ⟨i,c*18,Ä⟩] w λe j=>e=Ç (Â Æ z)/\fe fh w j)(g:List È)(h:È)(k:g[c]?=Ã h)(l:fj b g 116 w)(u:Nat->È) (m:∀a f,Ff i b ((c+1:Nat):Int) a->fe fh w f->K a (f.setCell ⟨b,c,Ä⟩<|Â Æ z)): Î À MC (Exit.then K<|QQ X) (Fe i b c u) w:=by
 unfold Fe;conv=>arg 2;whnf
 have H:=fg<|Á T<|Á m l;go_wp2_with (go_at_call 161;apply H.out.1.mono;rintro e f ⟨rfl,d⟩;have p:=(H.out.2.2.I d id).r c h k;have q:=(H.out.2.2.I d id).C c;have n:=fg d;clear d);exact H.out.2.1 _ _ (gu _) n.out
def qC(D:Nat->Nat)(i:Nat):List Nat:=(ċ 8).map λt=>if t<i then D t else 0
theorem IU(D:Nat->Nat)(i:Nat):(qC D i).length=8:=by simp[qC]
theorem aaM(D:Nat->Nat)(i t:Nat)(h:t<8):(qC D i)[t]?=Ã (if t<i then D t else 0):=by simp[qC,û h]
theorem aoo(D:Nat->Nat)(i:Nat)(h:i<8):(qC D i).set i (D i)=qC D (i+1):=by refine þ λt=> ?_;grind [aaM,IU,ĕ]
def aaN(b:∀i,D i<18446744073709551616):sx (qC D 8):=Mx Z λx a=>by
 unfold qC at a;obtain⟨t,_,rfl⟩:=ņ.1 a;split
 .exact b _
 .omega
def aop(D:Nat->Nat):kC (qC D 0)=zB:=by rfl
def DI(i b:Nat)(D:Nat->Nat)(d:É)(a:é)(w:É):Prop:=
 ∃c:Nat,Ff i b c a/\c<=8/\fe (λk=>k=b) d w/\fj b (kC<|qC D c) 116 w
def DE(i b:Nat)(D:Nat->Nat)(c:É)(a:é)(w:É):Prop:=
 Ff i b 8 a/\fe (λk=>k=b) c w/\fj b (kC<|qC D 8) 116 w
def MD(a:é)(_:É):Nat:=match a.tmps.getD 5 ā with
 |Â _ i=>8-i.toNat
 |_=>0
def aaO(c:Ff i b n y):MD y w=8-n:=by obtain⟨u,rfl⟩:=c;show 8-(n:Int).toNat=_;simp
def aoq(C:∀c,c<8->∀W,fe (λk=>k=b) u W->Ò À 161 #[Å<|Ã ⟨i,c*18,Ä⟩] W λe f=>e=Ç (Â Æ<|D c)/\fe fh W f)(a:é)(w:É)(m:DI i b D u a w): Î À MC (Exit.then (λd f=>DI i b D u d f/\MD d f<MD a w)<|QQ<|DE i b D u) a w:=by
 let⟨c,j,o,g,h⟩:=m;rw[aaO j];obtain⟨d,rfl⟩:=j;by_cases n:c=8
 .subst n;exact aom d λa q=>⟨q,g,h⟩
 .refine aon c (D c) Z (C c Z w g) _ _ (IL _ _ _<|by rw[aaM D c c Z,if_neg Z]) h d λa p q l=>⟨⟨c+1,q,Z,(g.fi<|l.S λ_ _=>ę).fi (fe.I (X:=λk=>k=b) U _),?_⟩,by rw[aaO q];omega⟩;rw[<-aoo D c Z,TY];exact(h.I l id).fV c<|Â Æ<|D c
end
def ME(D:Nat->Nat):Nat:=sy 3<|qC D 8
def aor(h:∀b,D b<18446744073709551616)(C:∀b,b<8->∀W,fe (λk=>k=w.heap.size) (w.alloc<|Ð zB.toArray 116) W->Ò À 161 #[Å<|Ã ⟨i,b*18,Ä⟩] W λe c=>e=Ç (Â Æ<|D b)/\fe fh W c): Ò À 122 #[Å<|Ã ⟨i,0,Ä⟩] w λe c=>e=Ç (Â Æ<|ME D)/\fe fh w c:=by
 have L:∀a,Ff i w.heap.size (0:Nat) a->Î À (à MC) (QQ<|DE i w.heap.size D<|w.alloc<|Ð zB.toArray 116) a (w.alloc<|Ð zB.toArray 116):=λa j=>
  Ĉ (DI i w.heap.size D<|w.alloc<|Ð zB.toArray 116) MD ⟨0,j,â _,fe.gd _ _,by rw[aop];exact fj.N w zB 116⟩<|aoq C
 have T:∀W,fj w.heap.size (kC<|qC D 8) 116 W->Ò À 162 #[Ê (Ã ⟨w.heap.size,0,Ä⟩) 8 8] W λe c=>e=Ç (Â Æ<|sy 3<|qC D 8)/\fe (λb=>b=w.heap.size) W c:=λW l=>by have t:=aaG (cp:=8) (k:=3) (by rw[IU]) (by rw[IU];omega) (by rw[IU];omega) (aaN h) (by rwa[ò]);rwa[IU]at t
 unfold ME;have H:=fg<|Á L T;generalize sy 3 (qC D 8)=t at*;go_enter Tryz.func122,Tryz.ntmps122;go_wp2_with fail;refine Ý (Q:=QQ<|DE i w.heap.size D<|w.alloc<|Ð zB.toArray 116) ?_ (H.out.1 _ (gu _));rintro(_|(_|_)|_|_|_|_) a v hq;all_goals first|exact absurd hq id|skip
 let⟨m,n,o⟩:=hq;have p:=(fe.gL fh w zB.toArray 116).C n λb r q=>by omega
 obtain⟨u,rfl⟩:=m;unfold Fe;have d:=fg<|Á p o;go_wp2_with (go_at_call 162;refine(H.out.2 _ d.out.2).mono ?_;rintro e x ⟨rfl,f⟩;have g:=d.out.1.C f (λb r q=>by omega);have s:=fg g;clear f g);go_ret;exact⟨U,s.out⟩
def IV(a:Ik):List Nat:=(ċ 16).map λj=>(a.C j).toNat
def aaP(a:Ik):Nat:=Cy a.fB.toNat a.r<|IV a
def Fg(s:St):Nat:=ME λi=>aaP<|s i
theorem aos(l:List UInt8):∀n,n<18446744073709551616->Ae n l<18446744073709551616:=by
 induction l with
 |nil=>exact λn h=>h
 |cons c r h=>exact λn _=>h _<|Mt _ _
theorem aaQ(B:Nat)(P:ByteArray)(a:List Nat):Cy B P a<18446744073709551616:=by unfold Cy;grind [aos,E8,Mz]
def T1(s:St)(h:i<144):(iA s)[i]?=Ã (qw s i):=by simp[iA,û h]
def mE.aot{s:St}(m:mE n s h W)(a:gM s)(i:Nat)(f:i<8): Ò À 161 #[Å<|Ã ⟨n,i*18,Ä⟩] W λe b=>e=Ç (Â Æ<|aaP<|s i)/\fe fh W b:=by
 have g:=λj d=>by have:=m.C j _<|T1 s d;simpa using this
 have b:=a.fB i;have k:=g (i*18) Z;have l:=g (i*18+1) Z;rw[<-rp s (Ê Ä 0 0) Z,Im _ _ f]at k;rw[<-rp s (Ê Ä 0 0) Z,Md _ _ f]at l;refine aol (by have e:=b.1;have c:=b.2;omega) (by have:=(a.I i).1;omega) (by simp[IV]) ?_ ?_ l ?_
 .refine Mx Z λx e=> ?_;unfold IV at e;obtain⟨t,_,rfl⟩:=ņ.1 e;have c:=(a.C i t).2;omega
 .rw[k];unfold qu;rw[Ĕ b.1]
 .intro j x e;have d:j<16:=by have:=(Ü.1 e).1;simpa[IV]using this
  have c:=g (i*18+2+j) Z;rw[<-rp s (Ê Ä 0 0) Z,Me _ _ f d]at c;have t:((s i).C j).toNat=x:=by simpa[IV,û d]using e
  rw[c,<-t];unfold qu;rw[Ĕ (a.C i j).1]
def aou{s:St}(b:mE i s h w)(c:gM s): Ò À 122 #[Å<|Ã ⟨i,0,Ä⟩] w λe d=>e=Ç (Â Æ<|Fg s)/\fe fh w d:=aor (λa=>aaQ _ _ _) λa f W k=>((b.r (fe.gL fh w _ _) id).r k<|by show i≠w.heap.size;exact Nat.ne_of_lt<|á w _ b.h).aot c a f
def kj(i:Nat):St:=λj=>⟨if j<i then 1000 else 0,⟨#[]⟩,λ_=>0⟩
theorem aov(i:Nat):kj (i+1)=(kj i).fB i 1000:=by funext j;unfold kj St.fB St.fV;grind
theorem aow(s:St)(a:i<8)(x:Int):(iA s).set (i*18) (Â Æ x)=iA (s.fB i x):=by have h:=N' s (Ê Ä 0 0) a x;rw[Ac,Ac,Ğ _ _ (by rw[sw];omega)]at h;exact List.append_cancel_right h
def aox(s:St)(a:i<8):(iA s)[i*18]?=Ã (Â Æ (s i).fB):=by rw[T1 s Z,<-rp s (Ê Ä 0 0) Z,Im _ _ a];rfl
noncomputable def MG:ŏ:=(Tryz.f60.body.bind kv).getD Ķ
def Fh(r b:Nat)(i:Int)(u:Nat->È):é:=⟨#[Å<|Ã ⟨r,0,Ä⟩,Å<|Ã ⟨b,0,Ä⟩,u 2,Â Ë i,u 4,u 5,u 6,u 7,u 8,u 9,u 10],[]⟩
def Fi(r b:Nat)(i:Int)(a:é):Prop:=∃u,a=Fh r b i u
section
variable{X:é->É->Prop}
def aoy(u:Nat->È)(c:∀a,Fi i b 8 a->X a w): Î À MG (Exit.then K<|QQ X) (Fh i b 8 u) w:=by
 unfold Fh;conv=>arg 2;whnf
 go_wp2_with fail
 exact c _ (gu _)
def aoz(c:Nat)(g:c<8)(e:È)(h:w.cell? ⟨b,c*18,Ä⟩=Ã e)(j:w.frozen? ⟨b,c*18,Ä⟩=Ï)(u:Nat->È) (d:∀a,Fi i b ((c+1:Nat):Int) a->K a (w.setCell ⟨b,c*18,Ä⟩<|Â Æ 1000)): Î À MG (Exit.then K<|QQ X) (Fh i b c u) w:=by
 unfold Fh;conv=>arg 2;whnf
 have f:=fg d;clear d;go_wp2_with fail;exact f.out _ (gu _)
def T3(i b:Nat)(d:É)(a:é)(w:É):Prop:=∃c:Nat,Fi i b c a/\c<=8/\fe (λk=>k=b) d w/\fj b (iA<|kj c) 140 w
def FE0(i b:Nat)(c:É)(a:é)(w:É):Prop:=Fi i b 8 a/\fe (λk=>k=b) c w/\fj b (iA<|kj 8) 140 w
def MH(a:é)(_:É):Nat:=match a.tmps.getD 3 ā with
 |Â _ i=>8-i.toNat
 |_=>0
def aaR(c:Fi i b n y):MH y w=8-n:=by obtain⟨u,rfl⟩:=c;show 8-(n:Int).toNat=_;simp
theorem aoA(a:é)(w:É)(h:T3 i b u a w): Î À MG (Exit.then (λc d=>T3 i b u c d/\MH c d<MH a w)<|QQ<|FE0 i b u) a w:=by
 let⟨c,f,l,g,e⟩:=h;rw[aaR f];obtain⟨d,rfl⟩:=f;by_cases j:c=8
 .subst j;exact aoy d λa q=>⟨q,g,e⟩
 .refine aoz c Z _ (e.r _ _<|aox _ Z) (e.C _) d λa q=>⟨⟨c+1,q,Z,g.fi (fe.I (X:=λk=>k=b) U _),?_⟩,by rw[aaR q];omega⟩;have k:=e.fV (c*18)<|Â Æ 1000;grind [aow,aov]
end
def aoB:(À.info? 140).map (λi=>(i.size,i.zero.map λz=>z.cells.toList))=Ã (144,Ã<|iA<|kj 0):=fw
def aoC(s:St):∀v∈iA s,v.oneCell'=Ú:=λv a=>TD s (lv:=Ê Ä 0 0) U v<|by rw[Ac];exact œ _ a
def aoD(w:É):Ò À 60 #[] w λe l=>e=Ç (Ē (iA<|kj 8).toArray)/\fe fh w l:=by
 let⟨m,n,o⟩:=Ì.1 TT;let⟨O,h,c⟩:=Ì.1 aoB;simp only[Prod.mk.injEq]at c;let⟨p,r⟩:=c;let⟨t,x,y⟩:=Ì.1 r;have z:t.cells=(iA<|kj 0).toArray:=by rw[<-y]
 have B:∀s,(À.info? 140).map (·.size)=Ã (iA s).length:=λs=>by rw[h,sw];simp[p]
 have L:∀W a,fj (w.heap.size+1) (iA<|kj 0) 140 W->Fi w.heap.size (w.heap.size+1) (0:Nat) a->Î À (à MG) (QQ<|FE0 w.heap.size (w.heap.size+1) W) a W:=λW a f C=>
  Ĉ (T3 w.heap.size (w.heap.size+1) W) MH ⟨0,C,â _,fe.gd _ _,f⟩ aoA
 have j:=fe.gL fh (w.alloc<|Ð (iA<|kj 0).toArray 140) (iA<|kj 0).toArray 140;have D:=(fj.N w (iA<|kj 0) 140).I j id;have E:fj (w.heap.size+1) (iA<|kj 0) 140 ((w.alloc<|Ð (iA<|kj 0).toArray 140).alloc<|Ð (iA<|kj 0).toArray 140):=by have:=fj.N (w.alloc<|Ð (iA<|kj 0).toArray 140) (iA<|kj 0) 140;simpa using this
 have b:=fg<|Á n<|Á o<|Á h<|Á x<|Á z B;have H:=fg<|Á L<|Á ((fe.gL fh w (iA<|kj 0).toArray 140).fi j)<|Á D E;go_enter Tryz.func60,Tryz.ntmps60;go_wp2_with (first
  |(with_reducible refine Ć U (Ã 0) U _ _ (TB U b.out.2.2.1 b.out.2.2.2.1) ?_;rw[b.out.2.2.2.2.1])
  |(with_reducible refine Ć U (Ã 1) U _ _ (TB U b.out.2.2.1 b.out.2.2.2.1) ?_;rw[b.out.2.2.2.2.1]))
 refine Ý ?_ (H.out.1 _ _ H.out.2.2.2 (gu _));rintro(_|(_|_)|_|_|_|_) a v c;all_goals first|exact absurd c id|skip
 let⟨F,k,f⟩:=c;have g:=H.out.2.2.1.I k Z;obtain⟨u,rfl⟩:=F;unfold Fh;have G:=fj.Y (by rw[ò];exact f);have I:v.there w.heap.size 0 (iA<|kj 8).toArray.size:=g.TC (by simp[sw]);have J:=Mn (iA<|kj 8) [] [] v (iA<|kj 0) (by rw[sw,sw]) (by simpa using g);have K:=(H.out.2.1.C k λi M q=>by omega).C (Iu (iA<|kj 8) 0 v g.G) λi M q=>by omega
 have d:=fg<|Á K<|Á J<|Á G I;go_wp2_with (first
  |(with_reducible refine ĥ U 140 _ U (w.heap.size+1) 0 U (iA<|kj 8) m d.out.2.2.1 b.out.1 b.out.2.1 (b.out.2.2.2.2.2 _) ?_)
  |(with_reducible refine ľ U 140 _ _ U w.heap.size 0 (iA (kj 8)).toArray U U d.out.2.2.2 (by rw[b.out.2.2.2.2.2 (kj 8)];simp) (Ī (aoC _)) ?_))
 have N:fj w.heap.size (iA (kj 8)++[]) 140 (v.setCells w.heap.size 0<|iA<|kj 8):=by simpa using d.out.2.1
 refine ð (TF U U (fj.Y N) b.out.1 b.out.2.1<|b.out.2.2.2.2.2 _) U<|⟨U,d.out.1⟩
structure fL where
 s:St
 r:List (Nat×Int)
 C:List (Int×Bool)
 h:Int
def Af(a:ă)(k:Nat)(d:List È)(w:É):Prop:=
 ∃p c,w.cell? a=Ã (Ê p k c)/\∀(j:Nat) (x:È),d[j]?=Ã x->∃b o,p=Ã ⟨b,o,Ä⟩/\w.cell? ⟨b,o+j,Ä⟩=Ã x
def Af.r(h:Af a k l w)(q:fe fh w u):Af a k l u:=by let⟨p,c,d,e⟩:=h;exact⟨p,c,q.r d id,λj x f=>by let⟨b,o,g,i⟩:=e j x f;exact⟨b,o,g,q.r i id⟩⟩
structure sB(b:Nat)(v:fL)(w:É):Prop where
 r:mE b v.s v.h w
 C:gM v.s
 I:0<=v.h
 M:v.h<=40
 N:Af ⟨b,144,Ä⟩ v.r.length (ku v.r) w
 S:Af ⟨b,146,Ä⟩ v.C.length (uX v.C) w
def sB.Y{v:fL}(h:sB b v w)(q:fe fh w u):sB b v u:= ⟨h.r.r q id,h.C,h.I,h.M,h.N.r q,h.S.r q⟩
structure qD(bp:Option ă)(n:Nat)(vs:List (Nat×fL))(w:É):Prop where
 r:n=vs.length
 C:∀(j b:Nat) (v:fL),vs[j]?=Ã (b,v)->∃sb so,bp=Ã ⟨sb,so,Ä⟩/\w.cell? ⟨sb,so+j,Ä⟩=Ã (Å<|Ã ⟨b,0,Ä⟩)/\sB b v w
def qD.I{a:List (Nat×fL)}(h:qD O n a w)(q:fe fh w u):qD O n a u:= ⟨h.r,λj b v e=>by let⟨c,d,f,g,i⟩:=h.C j b v e;exact⟨c,d,f,q.r g id,i.Y q⟩⟩
def Ag(a b:Nat×fL):Nat×fL:=if a.2.h<b.2.h then b else a
def u7(d:Nat×fL)(a:List (Nat×fL)):Nat×fL:=a.foldl Ag d
noncomputable def MI:ŏ:=(Tryz.f153.body.bind kv).getD Ķ
def Fj(a:Option ă)(n b:Nat)(c:Nat)(i:Int)(u:Nat->È):é:=⟨#[Ê a n b,ā,Å Ä,Å<|Ã ⟨c,0,Ä⟩,u 4,u 5,u 6,u 7,u 8,Ê a n b,Â Ë n,Â Ë i,u 12,u 13,u 14,u 15,u 16,u 17,u 18,u 19,u 20,u 21,u 22,u 23,u 24,u 25,u 26],[]⟩
def IW(b:Option ă)(n c:Nat)(d:Nat)(i:Int)(a:é):Prop:=∃u,a=Fj b n c d i u
section
variable{X:é->É->Prop}{bp:Option ă}{cp:Nat}
def aoE(u:Nat->È)(b:Int)(c:b=n)(d:∀a,IW bp n cp i b a->X a w): Î À MI (Exit.then K<|QQ X) (Fj bp n cp i b u) w:=by
 unfold Fj;conv=>arg 2;whnf
 subst c;go_wp2_with fail;exact d _ (gu _)
def aoF(u:Nat->È)(c:Int)(j:Nat)(o:c=j)(q:j<n)(r:n<=1000)(h k b:Nat)(p:bp=Ã ⟨h,k,Ä⟩)(s:w.cell? ⟨h,k+j,Ä⟩=Ã (Å<|Ã ⟨b,0,Ä⟩))(e f:Int)(t:w.cell? ⟨b,145,Ä⟩=Ã (Â Ë e))(v:w.cell? ⟨i,145,Ä⟩=Ã (Â Ë f)) (d:∀a m,IW bp n cp (if f<e then b else i) (c+1) a->K a (w.drewN m)): Î À MI (Exit.then K<|QQ X) (Fj bp n cp i c u) w:=by
 unfold Fj;conv=>arg 2;whnf
 subst o p;by_cases l:f<e
 .rw[if_pos l]at d;have g:=fg d;clear d;go_wp2_with fail;go_quiet (fail);go_wp2_with fail;exact g.out _ _ (gu _)
 .rw[if_neg l]at d;have g:=fg d;clear d;go_wp2_with fail;go_quiet (fail);go_wp2_with fail;exact g.out _ _ (gu _)
def HI(bp:Option ă)(n cp:Nat)(vs:List (Nat×fL))(b:É)(c:Nat×fL)(a:é)(w:É):Prop:=
 ∃(j:Nat) (d:Nat×fL),IW bp n cp d.1 j a/\j<=n/\fe fh b w/\sB d.1 d.2 b/\u7 d (vs.drop j)=c
def HE(bp:Option ă)(n cp:Nat)(b:É)(c:Nat×fL)(a:é)(w:É):Prop:=IW bp n cp c.1 n a/\fe fh b w
def T4(n:Nat)(a:é)(_:É):Nat:=match a.tmps.getD 11 ā with
 |Â _ i=>n-i.toNat
 |_=>0
theorem aoG{f:List (Nat×fL)}{i:Nat×fL}(k:qD bp n f W)(t:n<=1000)(a:é)(w:É)(x:HI bp n cp f W i a w): Î À MI (Exit.then (λl b=>HI bp n cp f W i l b/\T4 n l b<T4 n a w)<|QQ<|HE bp n cp W i) a w:=by
 let⟨j,d,y,H,c,z,g⟩:=x;obtain⟨u,rfl⟩:=y;by_cases o:j=n
 .rw[(Ę<|by rw[<-k.r];omega)]at g;subst g;refine aoE u j (by rw[o]) λa b=>⟨?_,c⟩;rwa[o]at b
 .have r:j<n:=Z
  obtain⟨⟨b,v⟩,s⟩:∃p,f[j]?=Ã p:=⟨_,Ô<|by rwa[<-k.r]⟩;let⟨B,C,D,E,F⟩:=k.C j b v s;let⟨G,e⟩:=Ü.1 s;rw[ē G,e]at g;refine aoF u j j U r t B C b D (c.r E id) v.h d.2.h (c.r F.r.h id) (c.r z.r.h id) λl m q=> ?_;have I:Ag d (b,v)=(if d.2.h<v.h then b else d.1,if d.2.h<v.h then v else d.2):=by unfold Ag;split<;>rfl
  refine⟨⟨j+1,Ag d (b,v),?_,Z,c.fi<|fe.iV _ _ _,?_,g⟩,?_⟩
  .grind
  .grind
  .obtain⟨v,rfl⟩:=q;show n-((j:Int)+1).toNat<n-((j:Int)).toNat;omega
def aoH{b:List (Nat×fL)}{d:Nat×fL}(c:qD bp n b w)(g:n<=1000)(f:b[0]?=Ã d): Ò À 153 #[Ê bp n cp] w λe a=>e=Ç (Å<|Ã ⟨(u7 d b).1,0,Ä⟩)/\fe fh w a:=by
 let⟨l,m,e,h,i⟩:=c.C 0 d.1 d.2 f;have o:0<n:=by rw[c.r];exact(Ü.1 f).1
 have L:∀a,IW bp n cp d.1 0 a->Î À (à MI) (QQ<|HE bp n cp w<|u7 d b) a w:=λa j=>
  Ĉ (HI bp n cp b w<|u7 d b) (T4 n) ⟨0,d,j,â _,fe.gd _ _,i,U⟩<|aoG c g
 subst e;generalize u7 d b=r at*;simp only[Nat.add_zero]at h;go_enter Tryz.func153,Tryz.ntmps153;go_wp2_with fail;refine Ý ?_ ((fg L).out _ (gu _));rintro(_|(_|_)|_|_|_|_) a v hq;all_goals first|exact absurd hq id|skip
 let⟨k,p⟩:=hq;obtain⟨u,rfl⟩:=k;unfold Fj;go_wp2_with fail;go_ret;simp_all
end
def mF(a:List (Nat×fL))(b:Int):Option (Nat×fL):=
 if b=-1 then(a[0]?).map λd=>u7 d a else a[b.toNat]?
def j1(b:Option Nat):È:=Å<|b.map λb=>⟨b,0,Ä⟩
section
variable{cp:Nat}{a:List (Nat×fL)}
def MJ(f:qD O n a w)(i:n<=1000)(j:0<n)(c:Int)(m:-1<=c): Ò À 113 #[Ê O n cp,Â Ë c] w λe b=>e=Ç (j1 ((mF a c).map (·.1)))/\fe fh w b:=by
 by_cases h:c=-1
 .subst h;obtain⟨d,b⟩:∃d,a[0]?=Ã d:=⟨_,Ô<|by rwa[<-f.r]⟩;have e:mF a (-1)=Ã (u7 d a):=by unfold mF;rw[if_pos U,b];rfl
  rw[e];go_enter Ż,Ŧ;go_wp2_with (go_at_call 153;refine(fg<|aoH (cp:=cp) f i b).out.mono ?_;rintro e k ⟨rfl,g⟩);go_ret;exact⟨U,g⟩
 .obtain⟨k,rfl⟩:∃k:Nat,c=k:=⟨c.toNat,Z⟩;have e:mF a (k:Int)=a[k]?:=by unfold mF;rw[if_neg h,Ŷ]
  rw[e];by_cases g:k<n
  .obtain⟨⟨b,v⟩,d⟩:∃p,a[k]?=Ã p:=⟨_,Ô<|by rwa[<-f.r]⟩;let⟨o,q,l,r,s⟩:=f.C k b v d;rw[d];subst l;go_enter Ż,Ŧ;go_wp2_with fail;go_ret;exact⟨U,fe.gd _ _⟩
  .rw[(List.getElem?_eq_none<|by rw[<-f.r];omega)];go_enter Ż,Ŧ;go_wp2_with fail;go_ret;exact⟨U,fe.gd _ _⟩
end
theorem aaS(a:List (Nat×fL)):∀(l:List (Nat×fL)) (d:Nat×fL),d∈a->(∀x∈l,x∈a)->u7 d l∈a
 |[],d,hd,_=>hd
 |x::l,d,hd,hl=>by
  show u7 (Ag d x) l∈a;refine aaS a l _ ?_ λy b=>hl y<|Ś _ b;unfold Ag;split
  .exact hl x List.mem_cons_self
  .exact hd
theorem IX{a:List (Nat×fL)}{p:Nat×fL}(h:mF a c=Ã p):p∈a:=by unfold mF at h;grind [Ì,aaS,List.mem_of_getElem]
def qD.M{a:List (Nat×fL)}(h:qD O n a w){p:Nat×fL}(b:p∈a):sB p.1 p.2 w:=by let⟨j,c⟩:=List.getElem?_of_mem b;let⟨_,_,_,_,d⟩:=h.C j p.1 p.2 c;exact d
theorem aaT(c:w.cell? ⟨b,i,Ä⟩=Ã v)(h:w.ownsRow 0 e j v n l):Af ⟨b,i,Ä⟩ n l w:=by
 rcases h.2 with⟨rfl,rfl⟩|⟨g,f,k,rfl,_,m,_,_,_,o⟩
 .have d:=ß (by simpa using h.1);subst d;exact⟨Ä,0,c,λa x q=>by simp at q⟩
 .refine⟨_,_,c,λa x q=>⟨g,0,U,?_⟩⟩;have:=h.cells U a x q;grind [Addr.add_mid]
def NX.aoI{s:St}{b:List (Nat×Int)}{c:List (Int×Bool)}(x:NX i h v z s b c u w)(d:gM s)(e:0<=h)(f:h<=40):sB i ⟨s,b,c,h⟩ w:=by have a:fj i (jm s v++[Â Ë h,z]) 147 w:=x.r;refine⟨⟨?_,a.r 145 _<|by rw[ü (by rw[mO];omega),mO];rfl⟩,d,e,f,aaT x.r.Cn x.C,aaT x.G x.I⟩;rw[Ac,Ċ]at a;exact a.Y
def aoJ:(À.info? 136).map (λi=>(i.zero,i.size,i.bytes))=Ã (Ã<|Å Ä,1,8):=fw
def aoK{p:Array ş}{r:List ş}(C:o.guard=Ä)(s x:Ů)(t:õ) (D:o.op=aE {callee:=.builtin .append,args:=#[s,x],argTypes:=#[t,t]}) (E:P.underlying t=Ã (bm e)) (F:P.info? e=Ã zJ) (G:zJ.zero=Ã z) (B:zJ.size=1) (H:zJ.bytes=8) (g k n:Nat) (b:List È) (I:b.length=n) (J:∀j v,b[j]?=Ã v->w.cell? ((⟨g,k,Ä⟩:ă).add j)=Ã v) (L:y.eval s=Ê (Ã ⟨g,k,Ä⟩) n n) (l:Nat) (v:È) (M:y.eval x=Ê (Ã ⟨l,0,Ä⟩) 1 1) (N:∀j u,[v][j]?=Ã u->w.cell? ((⟨l,0,Ä⟩:ă).add j)=Ã u) (X:n<=1000) (O:my e=Ï) (h:∀c f,n+1<=c->fe fh w f->(∃m:Array È,f.heap[w.heap.size]?=Ã (Ð m e (0,0))/\0<m.size/\∀u∈m.toList,u∈b\/u=v\/u∈z.cells.toList)->(∀j u,(b++[v])[j]?=Ã u->f.cell? ⟨w.heap.size,0+j,Ä⟩=Ã u)->aR P p vJ r (y.put o.dst<|Ê (Ã ⟨w.heap.size,0,Ä⟩) (n+1) c) f):aR P p vJ (o::r) y w:=by refine ű C λK S=> ?_;have T:=Λ w t o.type e zJ z E F G ⟨g,k,Ä⟩ n n b (by rw[I,B];omega) J ⟨l,0,Ä⟩ 1 1 [v] (by rw[B];rfl) N Z Z (ŕ Z<|by rw[H];omega);unfold Ń Ĥ;simp only[D,ae,aP,ag,Ų,ų,Ĵ,ļ,Ť,Ŵ,L,M,T];refine S _ _ (h _ _ (Θ w (n+1) n e) ((fe.fY _ _).fi<|fe.gL _ _ _ _<|Ø O) ⟨_,ì w.drew _,by simp;omega,λu d=>by simp only[Š,ú]at d;rcases d with(q|q)|q;exact Ø q;exact Ù (Ø<|by simpa using q);exact Ù<|Ù<|Ta q⟩ λj u d=> ?_);have V:(w.drew.alloc<|Ð (b.toArray++[v].toArray++ö z.cells (Œ w (n+1) n e-(n+1))) e).heap[w.heap.size]?=_:=ì w.drew _;simp only[Η,V,ũ,ĭ,if_false,ł];have W:=(Ü.1 d).1;rw[Array.getElem?_append_left (by simpa using W)];simpa using d
def tE(v:È)(T:õ)(w:É):Prop:=v=Ê Ä 0 0\/∃g n c a,v=Ê (Ã ⟨g,0,Ä⟩) n c/\w.heap[g]?=Ã (Ð a T (0,0))
def tE.I(h:w.ownsRow 0 T i v n l):tE v T w:=by
 rcases h.2 with⟨q,_⟩|⟨g,a,b,c,_,d,_⟩
 .exact Ø q
 .exact Ù ⟨g,_,a,b,c,d⟩
def tE.C(h:tE v T w)(k:fe fh w u):tE v T u:=by
 rcases h with q|⟨g,n,c,b,d,a⟩
 .exact Ø q
 .refine Ù ⟨g,n,c,b,d,?_⟩;rwa[k.N g (Array.getElem?_eq_some_iff.1 a).1 id]
def sC(a:List (Nat×fL)):List È:=a.map λp=>Å<|Ã ⟨p.1,0,Ä⟩
structure T5(vs:List (Nat×fL))(B:Nat)(w w':É)(g:Nat):Prop where
 C:w.heap.size<=g
 r:∃cur:Array È,w'.heap[g]?=Ã (Ð cur 136 (0,0))/\0<cur.size/\∀u∈cur.toList,u∈sC vs\/u=Å (Ã ⟨B,0,Ä⟩)\/u=Å Ä
structure T8(B:Nat)(s:St)(h:Int)(w w':É):Prop where
 C:w.heap.size<=B
 r:∃lv uv,fj B (jm s lv++[Â Ë h,uv]) 147 w'/\tE lv 257 w'/\tE uv 246 w'/\(∀j,lv.ownBlock=Ã j->w.heap.size<=j)/\∀j,uv.ownBlock=Ã j->w.heap.size<=j
section
variable{bp:Option ă}{cp:Nat}{vs:List (Nat×fL)}
def aoL(a b:Nat)(d:n<=1000)(f:n<=cp):Ò À 155 #[Ê (Ã ⟨a,b,Ä⟩) n cp] w λe c=>e=Ç (Ê (Ã ⟨a,b,Ä⟩) n n)/\c=w:=by go_enter Tryz.func155,Tryz.ntmps155;go_wp2;go_ret;exact⟨U,U⟩
def aoM(b:qD bp n vs w)(h:n<=1000)(l:0<n)(m:n<=cp)(B:Nat): Ò À 116 #[Ê bp n cp,Å<|Ã ⟨B,0,Ä⟩] w λe a=>∃g c,e=Ç (Ê (Ã ⟨g,0,Ä⟩) (n+1) c)/\n+1<=c/\fe fh w a/\T5 vs B w a g/\∀j u,(sC vs++[Å<|Ã ⟨B,0,Ä⟩])[j]?=Ã u->a.cell? ⟨g,0+j,Ä⟩=Ã u:=by
 let⟨G,r,s,t,x⟩:=í aoJ;obtain⟨d,y⟩:∃d,vs[0]?=Ã d:=⟨_,Ô<|by rwa[<-b.r]⟩;let⟨g,f,i,_,_⟩:=b.C 0 d.1 d.2 y;have z:∀(o:Obj) (j:Nat) (v:È),(sC vs)[j]?=Ã v->(w.alloc o).cell? ((⟨g,f,Ä⟩:ă).add j)=Ã v:=λo j v q=>by unfold sC at q;rw[ķ]at q;obtain⟨p,C,rfl⟩:=Ì.1 q;let⟨D,E,H,k,_⟩:=b.C j p.1 p.2 C;rw[i]at H;cases H;rwa[Addr.add_mid,World.cell?_alloc_lt _ _ _<|á w _ k]
 have H:=fg (Á z<|Á r<|Á s<|Á t<|Á x<|show(sC vs).length=n by unfold sC;rw[Ο];exact b.r.symm);subst i;go_enter Tryz.func116,Tryz.ntmps116;go_wp2_with (first
  |(go_at_call 155;refine(aoL g f h m).mono ?_;rintro e a ⟨rfl,k⟩;subst a)
  |(at_builtin;refine aoK U _ _ 65 U Tryz.underlying65 H.out.2.1 H.out.2.2.1 H.out.2.2.2.1 H.out.2.2.2.2.1 g f n (sC vs) H.out.2.2.2.2.2 (H.out.1 _) U w.heap.size (Å (Ã ⟨B,0,Ä⟩)) U (ÿ _ _ _) h A ?_;intro c C a e k p))
 go_ret;refine⟨_,_,U,a,(fe.gL _ _ _ _).fi e,⟨fq,by let⟨c,C,D,E⟩:=k;exact⟨c,by simpa using C,D,λu F=>(E u F).elim Ø λq=>q.elim (λq=>Ù<|Ø q) λq=>Ù<|Ù<|by simpa[ğ]using q⟩⟩,λj u q=>by have:=p j u q;simpa using this⟩
end
structure Cz(r:Nat)(v:Int)(x:Nat)(bp:Option ă)(n cp:Nat)(w:É):Prop where
 M:w.cell? ⟨r,0,Ä⟩=Ã (Â Ë x)
 N:w.cell? ⟨r,5,Ä⟩=Ã (Â Ë v)
 I:w.cell? ⟨r,8,Ä⟩=Ã (Ê bp n cp)
def Cz.C{r:Nat}(h:Cz r c i O n j w)(k:fe fh w u):Cz r c i O n j u:=⟨k.r h.M id,k.r h.N id,k.r h.I id⟩
def ry(a:List (Nat×fL))(v:Int)(x:Nat)(gN:List Tx):Option fL×ByteArray:=
 match mF a v with
 |none=>(Ä,nY 3)
 |some p=>if a.length=40 then(Ä,nY 4)else match wj x p.2.s gN with
  |none=>(Ä,nY 5)
  |some r=>(Ã ⟨r.1,r.2.1,r.2.2,p.2.h+1⟩,oG a.length)
def MK(c:È)(d:List (Nat×fL))(w:É):Prop:=∃a n b,c=Ê a n b/\n<=b/\qD a n d w
def Ua(f:List (Nat×fL))(i:È)(w:É)(o:Option fL×ByteArray)(e:ax)(a:É):Prop:=
 fe fh w a/\((o.1=Ä/\e=Ç (æ #[i,Í o.2]))\/∃v b d,o.1=Ã v/\e=Ç (æ #[d,Í o.2])/\MK d (f++[(b,v)]) a/\T8 b v.s v.h w a/\∃g n c,d=Ê (Ã ⟨g,0,Ä⟩) n c/\T5 f b w a g)
def aoN{c:List (Nat×fL)}{v:fL}(e:qD O n c w)(f:sB j v w)(h:∀a u,(sC c++[Å<|Ã ⟨j,0,Ä⟩])[a]?=Ã u->w.cell? ⟨i,0+a,Ä⟩=Ã u):qD (Ã ⟨i,0,Ä⟩) (n+1) (c++[(j,v)]) w:=by
 refine⟨by rw[e.r];simp,λa b u q=>⟨i,0,U,?_,?_⟩⟩
 .apply h a _;have:sC c++[Å<|Ã ⟨j,0,Ä⟩]=sC (c++[(j,v)]):=by simp[sC]
  rw[this];unfold sC;rw[ķ,q];rfl
 .rcases ů a c.length with d|d
  .rw[ç d]at q;let⟨_,_,_,_,k⟩:=e.C a b u q;exact k
  .rw[ü d]at q;have k:a-c.length=0:=by
    have:=(Ü.1 q).1;simp at this;omega
   rw[k]at q;cases q;exact f
def aoO{e:ax}(a:E4 h W Ä e u)(k:fe fh w W):e=Ç (Å Ä)/\fe fh w u:=by
 rcases a with⟨_,b,c⟩|⟨_,_,_,_,_,_,q,_⟩
 .exact⟨b,k.fi c⟩
 .cases q
def aoP{e:ax}{s:St}{a:List (Nat×Int)}{b:List (Int×Bool)}(c:E4 h W (Ã (s,a,b)) e u)(l:0<=h)(m:h<40)(k:fe fh w W):∃B,e=Ç (Å<|Ã ⟨B,0,Ä⟩)/\fe fh w u/\sB B ⟨s,a,b,h+1⟩ u/\T8 B s (h+1) w u:=by
 rcases c with⟨q,_⟩|⟨n,o,p,B,d,f,q,g,x,i⟩
 .cases q
 .cases q;exact⟨B,g,k.fi x.M,x.aoI i Z Z,ë k.M x.N,d,f,x.r,tE.I x.C,tE.I x.I,λj q=>ë k.M<|x.S j q,λj q=>ë k.M<|x.Y j q⟩
section
variable{bp:Option ă}{cp r x:Nat}{v:Int}{vs:List (Nat×fL)}{f:List (Nat×Tx)}
def aoQ{p:Nat×fL}(F:Ò À 113 #[Ê bp n cp,Â Ë v] w λe a=>e=Ç (j1<|Ã p.1)/\fe fh w a)(f:Cz r v x O b i w)(m:((n:Int)==40)=Ï)(N:∀W,fe fh w W->Ò À 115 #[Å<|Ã ⟨p.1,0,Ä⟩,Â Ë x,Ê O b i] W (E4 p.2.h W Ä)): Ò À 66 #[Ê bp n cp,Å<|Ã ⟨r,0,Ä⟩] w (Ua vs (Ê bp n cp) w (Ä,nY 5)):=by
 have o:=f.N;have H:=fg<|Á F<|Á N f;go_enter ś,Ň;go_wp2_with (go_at_call 113;refine H.out.1.mono ?_;rintro e d ⟨rfl,c⟩;dsimp only[j1,ū]);have g:=fg<|Á ((H.out.2.2.C c).C<|fe.fY fh _).M ((H.out.2.2.C c).C<|fe.fY fh _).I;go_region_held3 (λa=>a.cell? ⟨r,0,Ä⟩=Ã (Â Ë x)/\a.cell? ⟨r,8,Ä⟩=Ã (Ê O b i)) (first|exact g.out|exact j.out) (first
   |(go_at_call 115;refine(H.out.2.1 _ (c.fi kp)).mono ?_;rintro e k l;obtain⟨rfl,d⟩:e=Ç (Å Ä)/\fe fh w k:=aoO l (c.fi kp);dsimp only;have j:=fg (Á (H.out.2.2.C d).M (H.out.2.2.C d).I)))
 go_wp2_with (first
  |(go_at_call 114;refine(E5 5 A _).mono ?_;rintro e a ⟨rfl,c⟩;subst a))
 go_ret2;exact⟨d,Ø ⟨U,U⟩⟩
def aoR{p:Nat×fL}{f:St}{g:List (Nat×Int)}{j:List (Int×Bool)}(k:qD bp n vs w)(Q:n<=40)(q:0<n)(s:n<=cp)(t:0<=p.2.h)(u:p.2.h<40)(F:Ò À 113 #[Ê bp n cp,Â Ë v] w λe a=>e=Ç (j1<|Ã p.1)/\fe fh w a)(l:Cz r v x O b i w)(S:((n:Int)==40)=Ï)(N:∀W,fe fh w W->Ò À 115 #[Å<|Ã ⟨p.1,0,Ä⟩,Â Ë x,Ê O b i] W (E4 p.2.h W<|Ã (f,g,j))): Ò À 66 #[Ê bp n cp,Å<|Ã ⟨r,0,Ä⟩] w (Ua vs (Ê bp n cp) w (Ã ⟨f,g,j,p.2.h+1⟩,oG vs.length)):=by
 have T:=l.N;rw[<-k.r];have H:=fg<|Á F<|Á N<|Á l k;go_enter ś,Ň;go_wp2_with (go_at_call 113;refine H.out.1.mono ?_;rintro e o ⟨rfl,d⟩;dsimp only[j1,ū]);have y:=fg<|Á ((H.out.2.2.1.C d).C<|fe.fY fh _).M ((H.out.2.2.1.C d).C<|fe.fY fh _).I;go_region_held3 (λa=>a.cell? ⟨r,0,Ä⟩=Ã (Â Ë x)/\a.cell? ⟨r,8,Ä⟩=Ã (Ê O b i)) (first|exact y.out|exact o.out) (first
   |(go_at_call 115;refine(H.out.2.1 _ (d.fi kp)).mono ?_;rintro e D z;obtain⟨B,rfl,c,C,m⟩:=aoP (w:=w) z t u (d.fi kp);dsimp only;have o:=fg (Á (H.out.2.2.1.C c).M (H.out.2.2.1.C c).I)))
 have W:=aoM (H.out.2.2.2.I c) Z q s B;have z:=fg W;go_wp2_with (first
  |(go_at_call 116;refine z.out.mono ?_;rintro e G ⟨I,J,rfl,D,d,o,E⟩)
  |(go_at_call 117;refine(aaA n Z _).mono ?_;rintro e a ⟨rfl,G⟩;subst a))
 go_ret2;refine⟨c.fi d,Ù ⟨_,B,_,U,U,⟨_,_,_,U,D,?_⟩,⟨m.C,by let⟨G,I,J,K,L,M,P⟩:=m.r;exact⟨G,I,J.I d id,K.C d,L.C d,M,P⟩⟩,_,_,_,U,ë c.M o.C,o.r⟩⟩;exact aoN ((H.out.2.2.2.I c).I d) (C.Y d) E
def aoS(a:qD bp n vs w)(C:n<=40)(j:0<n)(D:n<=cp)(t:∀p∈vs,p.2.h<40)(d:Cz r v x O b i w)(u:Ct O b f w)(E:b<=1000)(y:iP w)(G:x<8)(z:-1<=v): Ò À 66 #[Ê bp n cp,Å<|Ã ⟨r,0,Ä⟩] w (Ua vs (Ê bp n cp) w<|ry vs v x<|lR f):=by
 have L:=d.N;unfold ry;cases g:mF vs v with
 |none=>
  have F:=MJ (cp:=cp) a Z j v z;rw[g]at F;have H:=fg F;go_enter ś,Ň;go_wp2_with (first
   |(go_at_call 113;refine H.out.mono ?_;rintro e I ⟨rfl,q⟩;dsimp only[j1,ū])
   |(go_at_call 114;refine(E5 3 A _).mono ?_;rintro e l ⟨rfl,J⟩;subst l))
  go_ret2;exact⟨q,Ø ⟨U,U⟩⟩
 |some p=>
  have m:=IX g;have c:=a.M m;have F:=MJ (cp:=cp) a Z j v z;rw[g]at F;have N:∀W,fe fh w W->Ò À 115 #[Å<|Ã ⟨p.1,0,Ä⟩,Â Ë x,Ê O b i] W (E4 p.2.h W<|wj x p.2.s<|lR f):=λW k=>
   anL (c.r.r k id) c.I (by have:=c.M;omega) c.C (u.I k) (y.r k id) E G
  have K:=a.r;by_cases B:n=40
  .simp only;rw[if_pos Z];have H:=fg F;clear F N a d u y t c g m K;have o:((n:Int)==40)=Ú:=by rw[B];rfl
   clear B;go_enter ś,Ň;go_wp2_with (first
    |(go_at_call 113;refine H.out.mono ?_;rintro e I ⟨rfl,q⟩;dsimp only[j1,ū])
    |(go_at_call 114;refine(E5 4 A _).mono ?_;rintro e l ⟨rfl,J⟩;subst l))
   go_ret2;exact⟨q,Ø ⟨U,U⟩⟩
  .simp only;rw[if_neg Z];have o:((n:Int)==40)=Ï:=by rw[beq_eq_false_iff_ne];omega
   have l:=t p m;have H:=c.I;cases e:wj x p.2.s (lR f)with
   |none=>
    rw[e]at N;exact aoQ F d o N
   |some q=>
    let⟨I,J,M⟩:=q;rw[e]at N;exact aoR a C j D H l F d o N
end
theorem aoT(h:l.length=145):À.built 147 [(0,Ē l.toArray)]=Ã (l++[Â Ë 0,Ê Ä 0 0]).toArray:=by let⟨z,d,a,b,c⟩:=TQ aas aat A;rw[TP aau a,c];have:=Mr (place:=λi=>[(0,145),(145,1),(146,1)].toArray[i]?) (pre:=[]) (suf:=[Â Ë 0,Ê Ä 0 0]) (i:=0) (v:=Ē l.toArray) (rest:=[]) U (by show l.toArray.size=145;simp[h]) b;simpa[ı,ğ]using this
theorem aoU(a:o.op=Χ 147 #[(0,qQ)])(b:xX qQ=Ē l.toArray)(c:l.length=145):(Ĥ xX o).run À w=φ (.value<|Ē (l++[Â Ë 0,Ê Ä 0 0]).toArray) w:=by grind [TR,aoT]
def je:fL:=⟨kj 8,[],[],0⟩
def aaU:gM (kj 8):=by refine⟨λi=> ?_,λi j=>⟨Ö _,show(0:Int)<18446744073709551616 by decide⟩,λi=>⟨show(0:Nat)<=40 by decide,λc a=>by cases a⟩⟩;show gp (if i<8 then 1000 else 0);split<;>exact⟨A,A⟩
theorem aoV{s:St}(b:gM s)(h:fj i (iA s++[Ê Ä 0 0]++[Â Ë 0,Ê Ä 0 0]) 147 w):sB i ⟨s,[],[],0⟩ w:=by
 have c:=sw s;refine⟨⟨λj v d=> ?_,?_⟩,b,Ö _,show(0:Int)<=40 by decide,?_,?_⟩
 .rw[ł];apply h.r j v;grind
 .apply h.r 145 _;simp_all
 .refine⟨Ä,0,h.r 144 _ ?_,λj x a=>by cases a⟩;grind
 .refine⟨Ä,0,h.r 146 _ ?_,λj x a=>by cases a⟩;simp_all
def ym(ls:List (Nat×Int)):Prop:=∀e∈ls,e.1<8/\gp e.2
def Ub(J:St->List (Nat×Int)->Prop)(F:me):Prop:=∀s a x y g k,gM s->x<8->y<8->gp k->0<=g->g<=100000->(a.length:Int)+g<=1000000->J s a->J (F s a x y g k).s (F s a x y g k).I
structure aaV(J:St->List (Nat×Int)->Prop):Prop where
 st:∀{s ls} (y j:Nat) (v:Int),J s ls->J (s.r y j v) ls
 mv:∀{s ls y} (q:Int) {p:Int},gM s->y<8->gp p->J s ls->J (ru s y q p).2 ls
 lg:∀{s ls y p},y<8->gp p->J s ls->J s (ls++[(y,p)])
section
variable{c:RC}{F:me}{J:St->List (Nat×Int)->Prop}
theorem aoW(b:aaV J)(i:Ub J F)(d:c.y<8)(k:Nat)(t:RT)(o:k<=20)(a:ot t)(h:J t.s t.C):J (oE F c k t).s (oE F c k t).C:=by
 have f:=tC a.r;have g:=tC<|pN a.r;by_cases j:k=16
 .subst j;exact b.st _ _ _ h
 by_cases l:k=18
 .subst l;exact b.mv _ a.s d g h
 by_cases m:k=19
 .subst m;exact b.lg d f h
 by_cases n:k=20
 .subst n;show J (ja F c t _ _ _).2.2.s (ja F c t _ _ _).2.2.C;unfold ja;split
  .exact h
  .have e:=tC<|pN<|pN a.r;have p:=a.g0;have q:=a.C;have r:=a.I;have u:=f.1;have v:=g.1;exact i _ _ _ _ _ _ a.s d Z e Z Z Z h
 have e:(oE F c k t).s=t.s/\(oE F c k t).C=t.C:=by unfold oE;grind
 grind
def aaW(b:aaV J):∀n,Ub J<|z8 n
 |0=>λ_ _ _ _ _ _ _ _ _ _ _ _ _ h=>h
 |n+1=>λs d x y g k a f e i j l m h=>by
  show J (su (z8 n) ⟨x,y,k,4-(n:Int),g⟩ s d).s (su (z8 n) ⟨x,y,k,4-(n:Int),g⟩ s d).I;unfold su;simp only;split
  .exact(E1 (c:=⟨x,y,k,4-(n:Int),g⟩) (a.I y).1 (λn o=>Ty a y o) (Iw n) f e i (aoW b (aaW b n) e) _ _ _ uW ⟨fq,fq,a,j,l,m⟩ h).2
  .exact h
end
def Uc:Ub (λ_ e=>ym e) fX:=aaW ⟨λ_ _ _ h=>h,λ_ _ _ _ _ h=>h,λa b h e c=>by
 rcases ú.1 c with q|q
 .exact h e q
 .simp at q;subst q;exact⟨a,b⟩⟩ 4
def aoX{s:St}(b:gM s){ls:List (Nat×Int)}{t:Tx}(a:t.Ok)(c:(ls.length:Int)+400<=1000000)(h:ym ls):ym (mD s ls t).2.2.2:=by
 unfold mD;split
 .exact h
 .split
  .exact h
  .unfold Ab;split
   .exact h
   .rename_i d;have e:=(b.fB t.x).2;exact Uc _ ls t.x t.y (t.n-10) t.k (b.r t.x ⟨Z,Z⟩) a.x a.y ⟨a.r,by have:=a.C;omega⟩ Z Z Z h
def Ah(a:List (Int×Bool)):Prop:=∀e∈a,0<=e.1/\e.1<=400
def Ah.Pe{a:List (Int×Bool)}(h:Ah a){e:Int×Bool}(b:0<=e.1)(c:e.1<=400):Ah (a++[e]):=λx d=>by
 rcases ú.1 d with q|q
 .exact h x q
 .simp at q;subst q;exact⟨b,c⟩
structure Ud(v:fL):Prop where
 C:ym v.r
 r:Ah v.C
 I:v.r.length<=400000
 M:v.C.length<=1000
def Ue:∀(gN:List Tx) {s:St} {ls:List (Nat×Int)} {a:List (Int×Bool)} {r:St×List (Nat×Int)×List (Int×Bool)},(∀t∈gN,t.Ok)->gM s->ym ls->Ah a->ls.length+400*gN.length<=400000->a.length+gN.length<=1000->uY m s ls a gN=Ã r->gM r.1/\ym r.2.1/\Ah r.2.2/\r.2.1.length<=400000/\r.2.2.length<=1000
 |[],s,ls,a,r,_,hs,hl,hu,n1,n2,h=>by cases h;exact⟨hs,hl,hu,by simpa using n1,by simpa using n2⟩
 |t::q,s,ls,a,r,ht,hs,hl,hu,n1,n2,h=>by
  unfold uY at h;simp only[Ľ]at n1 n2;split at h
  .have d:=aaz (ls:=ls) hs (ht t fq) Z;have e:=d.r;exact Ue q (λb c=>ht b<|Ś _ c) (d.s.r m<|zY _) (aoX hs (ht t fq) Z hl) (hu.Pe d.g0 d.C) Z (by simp;omega) h
  .cases h
def aoY{s:St}{gN:List Tx}{r:St×List (Nat×Int)×List (Int×Bool)}(a:∀t∈gN,t.Ok)(b:gM s)(j:gN.length<=1000)(e:wj m s gN=Ã r):Ud ⟨r.1,r.2.1,r.2.2,h⟩:=by unfold wj at e;obtain⟨k,c,rfl⟩:=Ì.1 e;let⟨_,d,f,g,i⟩:=Ue gN a b (λ_ q=>by cases q) (λ_ q=>by cases q) (by simp;omega) (by simp;omega) c;exact⟨d,f,g,i⟩
end Go.Proofs.Y.fR
namespace Go.Proofs
open Go.Shelf
def Tryz.lays283_ren:Ĭ:=⟨fun|283=>187|n=>n,fun|3=>3|9=>9|4=>4|n=>n,fun|n=>n⟩
def Tryz.lays283:aK À Tryz.lays283_ren:={
 mixed:=fw
 f283:=ź.trans<|congrArg Ã fw
 t3:=Ě
 a3:=Ŝ
 z3:=ň
 v3:=ħ
 t4:=ě
 a4:=ŝ
 z4:=ŉ
 v4:=Ĩ
 t9:=đ
 a9:=Ş
 z9:=Ŋ
 v9:=ĩ}
open Go.Lib in
def Tryz.internal_strconv_small(i:Nat)(h:i<100)(w:É):
 Ò À 187 #[Â Ë i] w λe a=>e=Ç (Í ⟨(Ļ i).toArray⟩)/\a=w:=Any.internal_strconv_small Tryz.lays283 i h w
def Tryz.laysM284_ren:Ĭ:=⟨fun|284=>188|129=>198|317=>197|318=>199|n=>n,fun|53=>36|3=>3|212=>291|0=>0|4=>4|46=>168|5=>5|9=>9|n=>n,fun|17=>1|n=>n⟩
def Tryz.laysM284:Go.Proofs.LaysM.n284 À Tryz.laysM284_ren:={
 mixed:=fw
 f129:=Tryz.func198.trans<|congrArg Ã fw
 f284:=Tryz.func188.trans<|congrArg Ã fw
 f317:=Tryz.func197.trans<|congrArg Ã fw
 f318:=Tryz.func199.trans<|congrArg Ã fw
 t0:=Δ
 a0:=aH
 z0:=ay
 v0:=Ρ
 t3:=Ě
 a3:=Ŝ
 z3:=ň
 v3:=ħ
 t4:=ě
 a4:=ŝ
 z4:=ŉ
 v4:=Ĩ
 t5:=Ε
 a5:=aI
 z5:=az
 v5:=Τ
 t9:=đ
 a9:=Ş
 z9:=Ŋ
 v9:=ĩ
 t46:=Ŭ
 a46:=ρ
 z46:=ε
 v46:=Ž
 t53:=ĸ
 a53:=ž
 z53:=ŧ
 v53:=ŀ
 t212:=Tryz.underlying291
 a212:=Tryz.isAgg291
 z212:=Tryz.sizeOf291
 v212:=Tryz.zeroValue291
 g17:=fw
 i0:=fw
 i3:=fw
 i4:=fw
 i5:=fw
 i9:=fw
 i46:=fw
 i53:=fw
 i212:=fw
 m17:=by kernel_rfl}
open Go.Lib in
def Tryz.internal_strconv_numDigits(u:Nat)(a:1<=u)(b:u<18446744073709551616)(w:É)(c:ω À w "internal/strconv.uint64pow10" Æ aA):
 Ò À 188 #[Â Æ u] w λe d=>e=Ç (Â Ë<|č u)/\d=w:=Any.internal_strconv_numDigits Tryz.laysM284 u a b w c
def Tryz.lays285_ren:Ĭ:=⟨fun|285=>189|n=>n,fun|37=>107|53=>36|3=>3|4=>4|51=>95|9=>9|5=>5|0=>0|n=>n,fun|n=>n⟩
def Tryz.lays285:aL À Tryz.lays285_ren:={
 mixed:=fw
 f285:=Tryz.func189.trans<|congrArg Ã fw
 t0:=Δ
 a0:=aH
 z0:=ay
 v0:=Ρ
 t3:=Ě
 a3:=Ŝ
 z3:=ň
 v3:=ħ
 t4:=ě
 a4:=ŝ
 z4:=ŉ
 v4:=Ĩ
 t5:=Ε
 a5:=aI
 z5:=az
 v5:=Τ
 t9:=đ
 a9:=Ş
 z9:=Ŋ
 v9:=ĩ
 t37:=ý
 a37:=Tryz.isAgg107
 z37:=Tryz.sizeOf107
 v37:=Tryz.zeroValue107
 t51:=ſ
 a51:=aB
 z51:=ς
 v51:=Ζ
 t53:=ĸ
 a53:=ž
 z53:=ŧ
 v53:=ŀ}
open Go.RowKit Go.Sort Go.Lib in
def Tryz.internal_strconv_formatBase10(a c f:Nat)(u:Nat)(d:Array UInt8)(w:É)(h:Holds (λ(b:UInt8)=>Â aU (b.toNat:Int)) w a c d)(i:u<10^d.size)(j:u<18446744073709551616)(k:d.size<4611686018427387904):
 Ò À 189 #[Ê (Ã ⟨a,c,Ä⟩) d.size f,Â Æ u] w λe l=>
  e=Ç (æ #[])/\∃(n m:Nat) (g:Array UInt8),l=(ζ (λ(b:UInt8)=>Â aU (b.toNat:Int)) w a c g).drewN n/\FmtInv d.size u 0 m g:=Any.internal_strconv_formatBase10 Tryz.lays285 a c f u d w h i j k
def Tryz.lays99_ren:Ĭ:=⟨fun|99=>175|206=>194|n=>n,fun|9=>9|4=>4|3=>3|n=>n,fun|n=>n⟩
def Tryz.lays99:aS À Tryz.lays99_ren:={
 mixed:=fw
 f99:=Tryz.func175.trans<|congrArg Ã fw
 f206:=Tryz.func194.trans<|congrArg Ã fw
 t3:=Ě
 a3:=Ŝ
 z3:=ň
 v3:=ħ
 t4:=ě
 a4:=ŝ
 z4:=ŉ
 v4:=Ĩ
 t9:=đ
 a9:=Ş
 z9:=Ŋ
 v9:=ĩ}
open Go.RowKit Go.Lib in
def Tryz.strings_HasPrefix(s p:ByteArray)(w:É):
 Ò À 175 #[Í s,Í p] w λe a=>e=Ç (Ñ<|Lib.hasPrefix s.data.toList p.data.toList)/\a=w:=Any.strings_HasPrefix Tryz.lays99 s p w
def Tryz.lays212_ren:Ĭ:=⟨fun|212=>174|263=>192|264=>193|n=>n,fun|46=>168|51=>95|146=>285|53=>36|148=>287|n=>n,fun|n=>n⟩
def Tryz.lays212:aN À Tryz.lays212_ren:={
 mixed:=fw
 f212:=Tryz.func174.trans<|congrArg Ã fw
 f263:=Tryz.func192.trans<|congrArg Ã fw
 f264:=Tryz.func193.trans<|congrArg Ã fw
 t46:=Ŭ
 a46:=ρ
 z46:=ε
 v46:=Ž
 t51:=ſ
 a51:=aB
 z51:=ς
 v51:=Ζ
 t53:=ĸ
 a53:=ž
 z53:=ŧ
 v53:=ŀ
 t146:=Tryz.underlying285
 a146:=Tryz.isAgg285
 z146:=Tryz.sizeOf285
 v146:=Tryz.zeroValue285
 t148:=Tryz.underlying287
 a148:=Tryz.isAgg287
 z148:=Tryz.sizeOf287
 v148:=Tryz.zeroValue287}
open Go.RowKit Go.Lib in
def Tryz.bits_Mul(x y:Nat)(a:x<18446744073709551616)(b:y<18446744073709551616)(w:É):
 Ò À 174 #[Â Æ x,Â Æ y] w λe c=>e=Ç (æ #[Â Æ ((x*y/18446744073709551616:Nat):Int),Â Æ ((x*y%18446744073709551616:Nat):Int)])/\c=w:=Any.bits_Mul Tryz.lays212 x y a b w
end Go.Proofs
namespace Go.Proofs.Y.fR
open Go Go.Proofs Go.RowKit Go.Sort Go.Proofs.Y.Lift
def Ai:UInt8->È:=λb=>Â aU (b.toNat:Int)
def lS(w:É):Prop:=ω À w "internal/strconv.uint64pow10" Æ aA
def aoZ(a:ko w)(b:Nat)(f:Array È->Array È):ko (Ł w b f):=by
 intro i o h;unfold Ł at h;simp only[Û]at h;split at h
 .cases d:w.heap[i]? with
  |none=>rw[d]at h;cases h
  |some e=>
   have:=a _ _ d;rw[d]at h;cases e with
   |cells c t z=>simp only[ñ,è]at h;subst h;exact λx=>x
   |_=>exact absurd trivial this
 .exact a i o h
def ao0(a:sj m w)(b:Nat)(f:Array È->Array È)(j:NF b w):sj m (Ł w b f):=by
 intro i c T k l h g;unfold Ł at h;simp only[Û]at h;split at h
 .rename_i e;subst e;cases d:w.heap[b]? with
  |none=>rw[d]at h;cases h
  |some n=>
   rw[d]at h;cases n with
   |cells o t z=>
    simp only[ñ,è,onCells,ģ]at h;have:=j _ _ _ d;rw[h.2.1,g]at this;cases this
   |_=>simp only[ñ,è,onCells]at h;cases h
 .exact a i c T k l h g
def fe.fV(w:World)(T:TypeId)(cs:Array Value)(off:Nat)(d:Array UInt8)(n:Nat)(hT:my T=false:=by decide):fe fh w ((putRow Ai (w.alloc<|.cells cs T) w.heap.size off d).drewN n):= ⟨by simp[ζ,Ł,World.drewN],λk hk _=>by show(Ł (w.alloc<|Ð cs T) w.heap.size _).heap[k]?=_;unfold Ł;simp only[Û];rw[if_neg Z];exact ď _ _ _ hk,λa=>aoZ (Ih a cs T (0,0)) _ _,λ_ a=>ao0 (Ii a cs T (0,0)<|Ø hT) _ _<|fj.G (fj.N w cs.toList T) hT⟩
def ao1(w:É)(T:õ)(a:Nat)(c:a<=24):Holds Ai (w.alloc<|Ð ġ T) w.heap.size 0 (ō a (0:UInt8)):=λj b=>by
 have d:j<a:=by simpa using b
 refine⟨?_,World.frozen?_alloc_new _ _ _ _⟩;rw[World.cell?_alloc_new,Lib.zeros24_at _ Z,getElem!_pos _ j b];simp[Ai]
def fy(u:Nat):ByteArray:=⟨(Ļ u).toArray⟩
def ao2(u:Nat)(h:u<100)(w:É):Ò À 172 #[Â Æ u,Â Ë 10] w λe a=>e=Ç (Í<|fy u)/\a=w:=by go_enter aC,σ;go_wp2_with (go_at_call 187;refine(Tryz.internal_strconv_small u h _).mono ?_;rintro e a ⟨rfl,rfl⟩);go_ret;exact⟨U,U⟩
def ao3(u:Nat)(h:¬u<100)(c:u<18446744073709551616)(w:É)(m:lS w):Ò À 172 #[Â Æ u,Â Ë 10] w λe b=>e=Ç (Í<|fy u)/\fe fh w b:=by
 have g:1<=u:=Z
 have o:č u<=20:=by have:=Lib.numDigits_eq u g c;split at this<;>omega
 have n:À.arrayLen 276=24:=fw
 have p:∀W,(Instr.sliceAt 276 (Å<|Ã ⟨w.heap.size,0,Ä⟩) Ä (Ã<|Â Ë (č u:Int)) Ä).run À W=φ (Ê (Ã ⟨w.heap.size,0,Ä⟩) (č u) 24) W:=λW=>by rw[run_sliceAt_array_h W 276 ⟨w.heap.size,0,Ä⟩ (by simp[Program.arrayLen,Program.elem,Tryz.type276]) Ë (č u:Int) Z (by rw[n];omega)];go_simp
 have i:=ao1 w 276 (č u) Z;have l:=Tryz.internal_strconv_formatBase10 w.heap.size 0 24 u (ō (č u) 0) (w.alloc<|Ð ġ 276) i (by rw[Ď];exact Lib.lt_pow_nDigits u) c (by rw[Ď];omega);rw[Ď]at l;go_enter aC,σ;go_wp2_with (go_at_call 188;refine(Tryz.internal_strconv_numDigits u g c _<|Lib.tabIs_alloc m _).mono ?_;rintro e b ⟨rfl,rfl⟩);go_at_call 189;apply l.mono;rintro e b ⟨rfl,k,q,a,d,hF⟩;replace d:b=(ζ Ai (w.alloc<|Ð ġ 276) w.heap.size 0 a).drewN k:=d;subst d;have r:(convert 107 9<|Ê (Ã ⟨w.heap.size,0,Ä⟩) (č u) 24).run À ((ζ Ai (w.alloc<|Ð ġ 276) w.heap.size 0 a).drewN k)=φ (Í<|fy u) ((ζ Ai (w.alloc<|Ð ġ 276) w.heap.size 0 a).drewN k):=by have h:=run_convert_bytes_back (P:=À) ((ζ Ai (w.alloc<|Ð ġ 276) w.heap.size 0 a).drewN k) 107 9 5 ⟨w.heap.size,0,Ä⟩ 24 (Ļ u) fw fw fw (λj f=>by rw[Lib.row_is_numeral hF j f,Lib.add_plain,World.cell?_drewN];exact cell?_putRow Ai _ w.heap.size 0 _ a (Lib.hid i).out (by rw[hF.size,Ď]) j<|by rw[hF.size];rwa[Ģ]at f);rwa[Ģ]at h
 go_wp2;go_ret;exact⟨U,fe.fV w 276 _ _ a k⟩
def ao4(u:Nat)(d:u<18446744073709551616)(w:É)(f:lS w):Ò À 172 #[Â Æ u,Â Ë 10] w λe c=>e=Ç (Í<|fy u)/\fe fh w c:=by
 by_cases h:u<100
 .exact(ao2 u h w).mono λe c ⟨a,b⟩=>⟨a,b▸fe.gd _ _⟩
 .exact ao3 u h d w f
def ao5(u:Nat)(b:u<18446744073709551616)(w:É)(c:lS w):Ò À 157 #[Â Æ u,Â Ë 10] w λe a=>e=Ç (Í<|fy u)/\fe fh w a:=by go_enter Tryz.func157,Tryz.ntmps157;go_wp2_with (go_at_call 172;refine(ao4 u b _ c).mono ?_;rintro e a ⟨rfl,d⟩);go_ret;exact⟨U,d⟩
def yn(u:Nat)(b:u<18446744073709551616)(w:É)(c:lS w):Ò À 118 #[Â Æ u] w λe a=>e=Ç (Í<|fy u)/\fe fh w a:=by go_enter Tryz.func118,Tryz.ntmps118;go_wp2_with (go_at_call 157;refine(ao5 u b _ c).mono ?_;rintro e a ⟨rfl,d⟩);go_ret;exact⟨U,d⟩
end Go.Proofs.Y.fR
namespace Go.Proofs.Y.fR
open Go Go.Proofs Go.RowKit Go.Proofs.Y.Lift
def Uf(B:Nat):iZ:=⟨B,144,[]⟩
def ao6(B:Nat):(Uf B).Ok:=⟨show(144:Nat)≠36 by decide,show(144:Nat)≠257 by decide,show(144:Nat)≠282 by decide,show(144:Nat)≠300 by decide,show(144:Nat)≠252 by decide,show(144:Nat)≠246 by decide⟩
def aaX{s:St}(l:mE n s h w)(z:gM s)(B:iP w)(x y:Nat)(g k:Int)(T:x<8)(V:y<8)(Y:0<=g)(wi:g<=100000)(hk:gp k)(r:uU)(D:r=fX s [] x y g k): Ò À 158 #[Å<|Ã ⟨n,0,Ä⟩,Â Ë x,Â Ë y,Â Æ g,Â Æ k] w λe f=>
  ∃lv,e=Ç (æ #[Ē #[Â Æ r.r,Ñ r.C,Â Æ r.M],lv])/\f.ownsRow 0 257 2 lv r.I.length (ku r.I)/\fe fh w f:=by
 let⟨dd,E,F⟩:=Ì.1 TT;have G:(À.info? 140).map (·.size)=Ã (iA s).length:=by rw[sw];exact aaw
 let⟨i0,z0,I,J,K,L⟩:=aah aag;have m:=TD s (lv:=Ê Ä 0 0) U;rw[Ac]at m;have o:(iA s++[Ê Ä 0 0]).length=145:=by rw[Ó,sw];rfl
 have M:=fe.gL fh w #[Â Æ 0,Ñ Ï,Â Æ 0] 252;have N:=(l.r M id).C;have gV:=á w _ l.h;have C:∀W,iF (w.heap.size+1) 144 [] s (Ê Ä 0 0) W->iP W->Ò À 173 #[Å<|Ã ⟨w.heap.size+1,0,Ä⟩,Â Ë x,Â Ë y,Â Æ g,Â Æ k,Â Ë 1] W λe f=>e=Ç (Ē #[Â Æ r.r,Ñ r.C,Â Æ r.M])/\∃jF,iy (Uf<|w.heap.size+1) (Ê Ä 0 0) 0 W r.s r.I f jF:=λW hW hrW=>by rw[D];exact aao (Uf<|w.heap.size+1) (ao6 _) s _ [] x y g k W hW (ĉ _ _ _ _) hrW z T V Y wi hk<|by simp;omega
 have a:=fg<|Á E<|Á F<|Á G<|Á N<|Á I<|Á K<|Á (J.trans o.symm)<|Á (L.trans o.symm) m;have H:=fg<|Á B C;clear E F G I J K L m o N l C B z M D;go_enter Tryz.func158,Tryz.ntmps158;go_wp2_with (first
  |(with_reducible refine ĥ U 140 _ U n 0 U (iA s) dd a.out.2.2.2.1 a.out.1 a.out.2.1 a.out.2.2.1 ?_)
  |(with_reducible refine Ć U (Ã 19) U _ _ (TS U U<|sw s) ?_)
  |(with_reducible refine aae U U 144 U 12 U _ _ U U a.out.2.2.2.2.1 a.out.2.2.2.2.2.1 (iA s++[Ê Ä 0 0]) a.out.2.2.2.2.2.2.1 a.out.2.2.2.2.2.2.2.1 U U a.out.2.2.2.2.2.2.2.2 ?_;intro t Mq O EM))
 have vT:t.heap.size=w.heap.size+1+1:=by simpa using EM
 have P:iF (w.heap.size+1) 144 [] s (Ê Ä 0 0) t:=by unfold iF;rw[ò,Ac];simpa using Mq
 have Q:=(fe.gL _ _ _ _).fi O;have Bg:=(fj.N w [Â Æ 0,Ñ Ï,Â Æ 0] 252).I O id;go_at_call 173;refine(H.out.2 t P<|H.out.1.r Q id).mono ?_;rintro e u ⟨rfl,lv,d⟩;have b:=Bg.I d.C (λq=>q.elim (λq=>absurd q<|by show w.heap.size≠w.heap.size+1;omega) λq=>by cases q);have sZ:=d.C.M;have hlv:u.cell? ⟨w.heap.size+1,144,Ä⟩=Ã lv:=d.r.Io Z;obtain⟨la,lc,rfl⟩:=jl d.I;have l0:=b.M;have y0:=b.C 0;have y1:=b.C 1;have y2:=b.C 2;have c0:=b.r 0 _ U;have c1:=b.r 1 _ U;have c2:=b.r 2 _ U;have TM:w.heap.size+1<u.heap.size:=Z
 have c:=fg<|Á d<|Á b<|Á Q P;go_wp2_with fail;go_region;go_wp2_with fail;let⟨d2,o6,xE⟩:=Ì.1 TG;have S:=((fe.I (X:=λk=>k=w.heap.size) (w:=u) (p:=⟨w.heap.size,0,Ä⟩) U<|Â Æ r.r).fi<|fe.I (X:=λk=>k=w.heap.size) (p:=⟨w.heap.size,1,Ä⟩) U<|Ñ r.C).fi (fe.I (X:=λk=>k=w.heap.size) (p:=⟨w.heap.size,2,Ä⟩) U<|Â Æ r.M);have v:=λW=>(fe.gL fh W #[Â Æ r.r,Ñ r.C,Â Æ r.M] 252).fi<|fe.fY _ _;apply ð (Aa U U (fj.Y (vs:=[Â Æ r.r,Ñ r.C,Â Æ r.M])<|(((c.out.2.1.fV 0<|Â Æ r.r).fV 1<|Ñ r.C).fV 2<|Â Æ r.M).I (v _) id) o6 xE TH) U;refine⟨_,U,ik (ik c.out.1.I S λj hj y=> ?_) (v _) λ_ _=>id,?_⟩
 .let⟨j,i⟩:=mb c.out.1.I hj;rw[y,c.out.2.1]at i;cases i
 .refine((c.out.2.2.1.C c.out.1.C λi j q=> ?_).C S λi j q=> ?_).fi<|v _
  .rcases q with q|q
   .exact absurd q<|by show i≠w.heap.size+1;omega
   .cases q
  .omega
def pO(s:St)(x y:Nat)(k:Int):Nat->Nat->ByteArray
 |_,0=>⟨#[45]⟩
 |i,n+1=>if(fX s [] x y i k).C then fy i else pO s x y k (i+1) n
noncomputable def ML:ŏ:=(Tryz.f120.body.bind kv).getD Ķ
def CB(a x y:Nat)(k:Int)(r:È)(i:Int)(u:Nat->È):é:=⟨#[Å<|Ã ⟨a,0,Ä⟩,Â Ë x,Â Ë y,Â Æ k,u 4,u 5,u 6,u 7,r,u 9,u 10,u 11,Â Æ i,u 13,u 14,u 15,u 16,u 17,u 18,u 19,u 20,u 21,u 22,u 23,u 24,u 25,u 26,u 27,u 28,u 29],[]⟩
def Aj(b x y:Nat)(k:Int)(r:È)(i:Int)(a:é):Prop:=∃u,a=CB b x y k r i u
theorem lS.r(h:lS w)(q:fe fh w u):lS u:=by
 unfold lS ω World.var? at*;cases a:À.globalNamed "internal/strconv.uint64pow10" with
 |none=>rw[a]at h;cases h
 |some g=>
  rw[a]at h;simp only[Option.bind_some]at h|-;have b:g<w.heap.size:=by grind
  rwa[q.N g b id]
section
variable{Y:é->É->Prop}{s:St}
def ao7(b:È)(u:Nat->È)(d:∀a,Aj j i n c b 401 a->H a w): Î À ML (Exit.then K<|QN H Y) (CB j i n c b 401 u) w:=by
 unfold CB;conv=>arg 2;whnf
 go_wp2_with fail
 exact d _ (gu _)
def ao8(p:È)(u:Nat->È)(b:Nat)(P:b<401)(B:mE j s h w)(C:gM s)(D:iP w)(E:lS w)(F:i<8)(G:n<8)(I:gp c) (q:(fX s [] i n b c).C=Ï->∀a g,Aj j i n c p ((b+1:Nat):Int) a->fe fh w g->K a g) (r:(fX s [] i n b c).C=Ú->∀a g,Aj j i n c (Í<|fy b) b a->fe fh w g->Y a g): Î À ML (Exit.then K<|QN H Y) (CB j i n c p b u) w:=by
 unfold CB;conv=>arg 2;whnf
 have T:=aaX B C D i n b c F G Z Z I _ U;obtain⟨t,o,v,x,y,J⟩:∃t o v x y,fX s [] i n b c=⟨t,o,v,x,y⟩:=⟨_,_,_,_,_,U⟩;rw[J]at T q r;have d:=fg<|Á T<|Á q<|Á r E;cases o with
 |true=>
  go_wp2_with (first
   |(go_at_call 158;refine d.out.1.mono ?_;rintro e l ⟨L,rfl,f,k⟩;obtain⟨M,N,rfl⟩:=jl f;have m:=fg<|Á k f;clear k f)
   |(go_at_call 118;refine(yn b Z _ (d.out.2.2.2.r (m.out.1.fi (fe.gL fh l _ _)))).mono ?_;rintro e Q ⟨rfl,z⟩;have O:=fg z;clear z))
  exact d.out.2.2.1 trivial _ _ (gu _)<|(m.out.1.fi<|fe.gL fh l _ _).fi O.out
 |false=>
  go_wp2_with (first
   |(go_at_call 158;refine d.out.1.mono ?_;rintro e l ⟨L,rfl,f,k⟩;obtain⟨M,N,rfl⟩:=jl f;have m:=fg (Á k f);clear k f))
  exact d.out.2.1 trivial _ _ (gu _)<|m.out.1.fi<|fe.gL fh l _ _
def LI(j i n:Nat)(c:Int)(d:È)(s:St)(e:É)(f:ByteArray)(a:é)(w:É):Prop:=
 ∃b:Nat,Aj j i n c d b a/\b<=401/\fe fh e w/\pO s i n c b (401-b)=f
def LE(j i n:Nat)(c:Int)(b:È)(d:É)(e:ByteArray)(a:é)(w:É):Prop:=Aj j i n c b 401 a/\fe fh d w/\e=⟨#[45]⟩
def LR(j i n:Nat)(c:Int)(d:É)(e:ByteArray)(a:é)(w:É):Prop:=∃b,Aj j i n c (Í e) b a/\fe fh d w
def MN(a:é)(_:É):Nat:=match a.tmps.getD 12 ā with
 |Â _ i=>401-i.toNat
 |_=>0
def aaY(d:Aj j i n c v b y):MN y w=401-b:=by obtain⟨u,rfl⟩:=d;show 401-(b:Int).toNat=_;simp
def ao9(p:mE j s h u)(r:gM s)(t:iP u)(x:lS u)(y:i<8)(z:n<8)(C:gp c)(a:é)(w:É)(D:LI j i n c v s u B a w): Î À ML (Exit.then (λg k=>LI j i n c v s u B g k/\MN g k<MN a w)<|QN (LE j i n c v u B)<|LR j i n c u B) a w:=by
 let⟨b,o,H,e,f⟩:=D;rw[aaY (w:=w) o];obtain⟨d,rfl⟩:=o;by_cases E:b=401
 .subst E;exact ao7 v d λa q=>⟨q,e,f.symm⟩
 .have F:401-b=(401-(b+1))+1:=Z
  rw[F,pO]at f;refine ao8 v d b Z (p.r e id) r (t.r e id) (x.r e) y z C ?_ ?_
  .intro l g k q m;rw[l]at f;exact⟨⟨b+1,q,Z,e.fi m,f⟩,by rw[aaY q];omega⟩
  .intro l g k q m;rw[l]at f;have G:fy b=B:=f;rw[G]at q;exact⟨b,q,e.fi m⟩
def apa(d:mE j s h w)(f:gM s)(g:iP w)(k:lS w)(l:i<8)(m:n<8)(o:gp c): Ò À 120 #[Å<|Ã ⟨j,0,Ä⟩,Â Ë i,Â Ë n,Â Æ c] w λe a=>e=Ç (Í<|pO s i n c 0 401)/\fe fh w a:=by
 have L:∀a,Aj j i n c (Í ⟨#[]⟩) 0 a->Î À (à ML) (QN (LE j i n c (Í ⟨#[]⟩) w<|pO s i n c 0 401)<|LR j i n c w<|pO s i n c 0 401) a w:=λa p=>
  Ĉ (LI j i n c (Í ⟨#[]⟩) s w<|pO s i n c 0 401) MN ⟨0,p,â _,fe.gd _ _,U⟩<|ao9 d f g k l m o
 generalize pO s i n c 0 401=r at*;go_enter Tryz.func120,Tryz.ntmps120;go_wp2_with fail;refine Ý ?_ ((fg L).out _ (gu _));rintro(_|(_|_)|_|_|_|_) a v hq;all_goals first|exact absurd hq id|skip
 .obtain⟨b,q,rfl⟩:=hq;obtain⟨u,rfl⟩:=b;unfold CB;go_wp2_with fail;go_ret;simp_all
 .let⟨e,b,q⟩:=hq;obtain⟨u,rfl⟩:=b;unfold CB;go_wp2_with fail;go_ret;simp_all
end
def Ak:(À.info? 9).map (λi=>(i.zero,i.size,i.bytes))=Ã (Ã<|Í ⟨#[]⟩,1,16):=fw
def jw(xs:List ByteArray):List È:=xs.map Í
structure il(w0:É)(tv:È)(xs:List ByteArray)(w:É):Prop where
 ft:w.ownsRow w0.heap.size 9 1 tv xs.length (jw xs)
 r:fe fh w0 w
section
variable{w0:É}{tv:È}{xs:List ByteArray}
def il.M(w0:É){w:É}(k:fe fh w0 w):il w0 (Ê Ä 0 0) [] w:=⟨ĉ _ _ _ _,k⟩
def il.fP(h:il w0 tv xs w)(k:fe fh w u):il w0 tv xs u:=⟨ik h.ft k λ_ _=>id,h.r.fi k⟩
def il.C(h:il w0 tv xs w)(a:qt w w0.heap.size 9 1 tv xs.length (jw xs) 1 [Í B] v u):il w0 v (xs++[B]) u:=by
 refine⟨?_,h.r.C a.r λi b q=> ?_⟩
 .have:=a.ft;rwa[show jw xs++[Í B]=jw (xs++[B]) by simp[jw],show xs.length+1=(xs++[B]).length by simp]at this
 .have:=(h.ft.lt i q).1;omega
end
theorem pP(u:Nat)(h:u<18446744073709551616):(fy u).size<=20:=by have:=Lib.nDigits_le20 u h;unfold fy;show(Ļ u).toArray.size<=20;grind [Ģ]
def nN(p:Option ă)(a:List È)(w:É):Prop:=∀(j:Nat) (x:È),a[j]?=Ã x->∃b o,p=Ã ⟨b,o,Ä⟩/\w.cell? ⟨b,o+j,Ä⟩=Ã x
def nN.C(h:nN O l w)(q:fe fh w u):nN O l u:=λj x a=>by let⟨b,o,c,d⟩:=h j x a;exact⟨b,o,c,q.r d id⟩
def nN.r{base:Nat}(h:w.ownsRow base e i (Ê O n j) n l):nN O l w:=λb x d=>by
 rcases h.2 with⟨f,k⟩|⟨g,m,o,f,_⟩
 .have:=h.1;rw[k,Nat.zero_mul]at this;rw[ß this]at d;cases d
 .cases f;refine⟨g,0,U,?_⟩;have:=h.cells (g:=g) U b x d;rwa[Addr.add_mid]at this
def Ug{α:Type}(f g:α->È):∀(l:List α) (j:Nat) (x:α),l[j]?=Ã x->(l.flatMap λp=>[f p,g p])[j*2]?=Ã (f x)/\(l.flatMap λp=>[f p,g p])[j*2+1]?=Ã (g x)
 |[],j,x,h=>by cases h
 |a::l,0,x,h=>by cases h;exact⟨U,U⟩
 |a::l,j+1,x,h=>by rw[show(j+1)*2=j*2+1+1 by omega];exact Ug f g l j x h
def iK(y:Nat):ByteArray:=ø ⟨#[97,98,99,100,101,102,103,104]⟩ y<|y+1
def oJ(e:Nat×Int):ByteArray:=iK e.1++fy e.2.toNat
noncomputable def MO:ŏ:=(Tryz.f124.body.bind kv).getD Ķ
def Fl(a:Option ă)(n b:Nat)(c:È)(i:Int)(u:Nat->È):é:=⟨#[Ê a n b,u 1,u 2,c,u 4,u 5,Ê a n b,Â Ë n,Â Ë i,u 9,u 10,u 11,u 12,u 13,u 14,u 15,u 16,u 17,u 18,u 19,u 20,u 21,u 22,u 23,u 24,u 25,u 26],[]⟩
def Fo(b:Option ă)(n c:Nat)(d:È)(i:Int)(a:é):Prop:=∃u,a=Fl b n c d i u
section
variable{X:é->É->Prop}{w0:É}{cp:Nat}{tv:È}{xs:List ByteArray}
def apb(u:Nat->È)(i:Int)(b:i=n)(c:∀a,Fo O n cp tv n a->X a w): Î À MO (Exit.then K<|QQ X) (Fl O n cp tv i u) w:=by
 unfold Fl;conv=>arg 2;whnf
 subst b;go_wp2_with fail;exact c _ (gu _)
def apc(u:Nat->È)(q:il w0 tv xs w)(j:Nat)(N:j<n)(P:n<=400000)(Q:xs.length<=400000)(y p:Nat)(S:y<8)(r:p<18446744073709551616)(z:lS w)(k l:Nat)(B:O=Ã ⟨k,l,Ä⟩)(T:w.cell? ⟨k,l+j*2,Ä⟩=Ã (Â Ë y))(V:w.cell? ⟨k,l+j*2+1,Ä⟩=Ã (Â Æ p)) (b:∀a c s,Fo O n cp s ((j+1:Nat):Int) a->il w0 s (xs++[iK y++fy p]) c->K a c): Î À MO (Exit.then K<|QQ X) (Fl O n cp tv j u) w:=by
 unfold Fl;conv=>arg 2;whnf
 subst B;have W:(0:Int)<=(j:Int):=Z
 have Y:(j:Int)<(n:Int):=Z
 have y0:(0:Int)<=(y:Int):=Z
 have y1:(y:Int)<8:=Z
 have kq:=pP p r;have oY:Ë.wrap ((y:Int)+1)=(y:Int)+1:=by rw[ó];omega
 have EC:(0:Int)<=(y:Int)+1:=Z
 have zu:(y:Int)+1<=8:=Z
 have rf:(y:Int)<=(y:Int)+1:=Z
 have uO:((y:Int)+1).toNat=y+1:=Z
 have IY:¬9223372036854775807<min (y+1) 8-y+(fy p).size:=Z
 obtain⟨ta,tc,rfl⟩:=jl q.ft;have H:=fg<|Á q<|Á z b;go_wp2_with fail;change Î À _ _ _ (w.alloc<|Ð #[Â Ë y,Â Æ p] 257);have t:=fe.gL fh w #[Â Ë y,Â Æ p] 257;have C:=(H.out.1.fP t).fP<|fe.fY _ _;have D:=(H.out.2.1.r t).r<|fe.fY _ _;have m:=(fj.N w [Â Ë y,Â Æ p] 257).I (fe.fY fh _) id;let⟨i0,E,F,G,I⟩:=í Ak;have f:=fg<|Á E<|Á F<|Á G I;refine mC (λc=>c.cell? ⟨w.heap.size,0,Ä⟩=Ã (Â Ë y)/\c.cell? ⟨w.heap.size,1,Ä⟩=Ã (Â Æ p)) [] fw ?_;have J:=fg<|Á (m.r 0 _ rfl)<|m.r 1 _ rfl;generalize w.heap.size=ub at*;generalize Č (w.alloc<|Ð #[Â Ë y,Â Æ p] 257)=w1 at*;iterate 9 apply tk J.out
 apply gE 9;intro K b;go_simp;go_at_call 118;refine(yn p r _ D).mono ?_;rintro e L ⟨rfl,v⟩;have M:=C.fP v;have d:=m.I v id;apply b.out _ _ λ_=>⟨d.r 0 _ U,d.r 1 _ U⟩;apply gE 10;intro K b;go_simp;apply b.out _ _ λ_=>⟨d.r 0 _ U,d.r 1 _ U⟩;have x:=fe.gL fh L #[Í<|iK y++fy p] 9;have g:=M.fP x;have h:=d.I x id;apply gE 11;intro K b;go_simp;apply b.out _ _ λ_=>⟨h.r 0 _ U,h.r 1 _ U⟩;apply gE 12;intro K b;refine Mk fS _ _ 25 fS ù f.out.1 f.out.2.1 f.out.2.2.1 f.out.2.2.2 U fS g.ft ⟨_,0,Ä⟩ [Í<|iK y++fy p] fS Z U (ÿ _ _ _) (λu i=>by simp at i;subst i;rfl) (by unfold Ą;omega) Z g.r.M ?_;intro tv1 w9 o;obtain⟨a2,cp2,rfl⟩:=jl o.ft;have i:=h.I o.r<|jG g.ft h A;apply b.out _ _ λ_=>⟨i.r 0 _ U,i.r 1 _ U⟩;apply gE 13;intro K b;go_simp;apply b.out _ _ λ_=>⟨i.r 0 _ U,i.r 1 _ U⟩;refine mf fw ?_ _;go_wp2_with fail;exact H.out.2.2 _ _ _ (gu _)<|g.C o
def Uh(O:Option ă)(n cp:Nat)(w0:É)(l:List (Nat×Int))(a:é)(w:É):Prop:=
 ∃(j:Nat) (tv:È),Fo O n cp tv j a/\j<=n/\il w0 tv ((l.take j).map oJ) w
def ltE(O:Option ă)(n cp:Nat)(w0:É)(l:List (Nat×Int))(a:é)(w:É):Prop:=
 ∃tv,Fo O n cp tv n a/\il w0 tv (l.map oJ) w
def MP(n:Nat)(a:é)(_:É):Nat:=match a.tmps.getD 8 ā with
 |Â _ i=>n-i.toNat
 |_=>0
def aaZ(b:Fo O n cp tv i y):MP n y w=n-i:=by obtain⟨u,rfl⟩:=b;show n-(i:Int).toNat=_;simp
theorem apd{l:List (Nat×Int)}(D:n=l.length)(k:n<=400000)(m:ym l)(o:lS w0)(f:nN O (ku l) w0)(a:é)(w:É)(p:Uh O n cp w0 l a w): Î À MO (Exit.then (λb d=>Uh O n cp w0 l b d/\MP n b d<MP n a w)<|QQ<|ltE O n cp w0 l) a w:=by
 let⟨j,tv,g,E,b⟩:=p;rw[aaZ g];obtain⟨u,rfl⟩:=g;by_cases r:j=n
 .subst r;refine apb u _ U λa q=>⟨tv,q,?_⟩;grind
 .obtain⟨x,e⟩:∃x,l[j]?=Ã x:=⟨_,Ô Z⟩;obtain⟨g0,s⟩:=Ug _ _ l j x e;let⟨t,v,h,y⟩:=f (j*2) _ g0;let⟨F,G,i,z⟩:=f (j*2+1) _ s;rw[h]at i;cases i;have c:=m x<|Ġ e;refine apc u b j Z k (by simp;omega) x.1 x.2.toNat c.1 (by have:=c.2.1;have:=c.2.2;omega) (o.r b.r) t v h (b.r.r y id) (by rw[Ĕ c.2.1];exact b.r.r z id) λa d B q C=>⟨⟨j+1,B,q,Z,?_⟩,by rw[aaZ q];omega⟩;rwa[Α,e,Υ]
def aa0{l:List (Nat×Int)}(b:n=l.length)(g:n<=400000)(c:ym l)(d:lS w)(f:nN O (ku l) w): Ò À 124 #[Ê O n cp] w λe a=>∃tv,e=Ç tv/\il w tv (l.map oJ) a:=by
 have L:∀a,Fo O n cp (Ê Ä 0 0) (0:Nat) a->Î À (à MO) (QQ<|ltE O n cp w l) a w:=λa e=>
  Ĉ (Uh O n cp w l) (MP n) ⟨0,_,e,â _,il.M w<|fe.gd _ _⟩<|apd b g c d f
 have H:=fg L;clear L c d f b;go_enter Tryz.func124,Tryz.ntmps124;go_wp2_with fail;refine Ý ?_ (H.out _ (gu _));rintro(_|(_|_)|_|_|_|_) a v hq;all_goals first|exact absurd hq id|skip
 let⟨tv,h,i⟩:=hq;obtain⟨u,rfl⟩:=h;unfold Fl;go_wp2_with fail;go_ret;simp_all
end
def aa1(b:Bool):yc b=((b.toNat:Nat):Int):=by cases b<;>rfl
def Fp(e:Int×Bool):ByteArray:=fy e.2.toNat++⟨#[58]⟩++fy e.1.toNat
noncomputable def MQ:ŏ:=(Tryz.f125.body.bind kv).getD Ķ
def Fq(a:Option ă)(n b:Nat)(c:È)(i:Int)(u:Nat->È):é:=⟨#[Ê a n b,u 1,u 2,c,u 4,u 5,Ê a n b,Â Ë n,Â Ë i,u 9,u 10,u 11,u 12,u 13,u 14,u 15,u 16,u 17,u 18,u 19,u 20,u 21,u 22,u 23,u 24,u 25],[]⟩
def Fs(b:Option ă)(n c:Nat)(d:È)(i:Int)(a:é):Prop:=∃u,a=Fq b n c d i u
section
variable{cp:Nat}{xs:List ByteArray}
def ape(u:Nat->È)(i:Int)(b:i=n)(c:∀a,Fs O n cp v n a->H a w): Î À MQ (Exit.then K<|QQ H) (Fq O n cp v i u) w:=by
 unfold Fq;conv=>arg 2;whnf
 subst b;go_wp2_with fail;exact c _ (gu _)
def apf(c:Nat->È)(r:il u v xs w)(j:Nat)(hj:j<n)(hn:n<=1000)(um:xs.length<=1000)(p:Nat)(b:Bool)(C:p<18446744073709551616)(D:lS w)(s t:Nat)(V:O=Ã ⟨s,t,Ä⟩)(W:w.cell? ⟨s,t+j*2,Ä⟩=Ã (Â Æ p))(X:w.cell? ⟨s,t+j*2+1,Ä⟩=Ã (Ñ b)) (f:∀a g E,Fs O n cp E ((j+1:Nat):Int) a->il u E (xs++[fy b.toNat++⟨#[58]⟩++fy p]) g->K a g): Î À MQ (Exit.then K<|QQ H) (Fq O n cp v j c) w:=by
 unfold Fq;conv=>arg 2;whnf
 subst V;have kq:=pP p C;have F:b.toNat<18446744073709551616:=by cases b<;>decide
 have hsb:=pP b.toNat F;have IY:¬9223372036854775807<(fy b.toNat).size+1:=Z
 have hw5:¬9223372036854775807<(fy b.toNat).size+1+(fy p).size:=Z
 obtain⟨ta,tc,rfl⟩:=jl r.ft;have d:=fg<|Á r<|Á D f;clear r D f;go_wp2_with fail;change Î À _ _ _ (w.alloc<|Ð #[Â Æ p,Ñ b] 246);have G:=fe.gL fh w #[Â Æ p,Ñ b] 246;have Y:=(d.out.1.fP G).fP<|fe.fY _ _;have I:=(d.out.2.1.r G).r<|fe.fY _ _;have x:fj w.heap.size [Â Æ p,Ñ b] 246 (Č<|w.alloc<|Ð #[Â Æ p,Ñ b] 246):=(fj.N w [Â Æ p,Ñ b] 246).I (fe.fY fh _) id;let⟨i0,J,L,M,N⟩:=í Ak;have i:=fg<|Á J<|Á L<|Á M N;clear J L M N W X;refine mC (λg=>g.cell? ⟨w.heap.size,0,Ä⟩=Ã (Â Æ p)/\g.cell? ⟨w.heap.size,1,Ä⟩=Ã (Ñ b)) [] fw ?_;have k:=fg<|Á (x.r 0 _ rfl)<|x.r 1 _ rfl;generalize w.heap.size=ub at*;generalize Č (w.alloc<|Ð #[Â Æ p,Ñ b] 246)=w1 at*;iterate 3 apply tk k.out
 apply tk k.out 6;apply tk k.out 7;apply gE 3;intro K f;go_simp;go_at_call 159;refine(Ip _ _).mono ?_;rintro e P ⟨rfl,rf⟩;subst P;dsimp only;rw[aa1];apply f.out _ _ λ_=>k.out;clear f K;apply gE 4;intro K f;go_simp;go_at_call 118;refine(yn b.toNat F _ I).mono ?_;rintro e P ⟨rfl,y⟩;have T2:=Y.fP y;have z:=x.I y id;have P2:=I.r y;have Q:=fg<|Á (z.r 0 _ rfl)<|z.r 1 _ rfl;dsimp only;apply f.out _ _ λ_=>Q.out;clear f K;apply tk Q.out 5;apply gE 8;intro K f;go_simp;go_at_call 118;refine(yn p C _ P2).mono ?_;rintro e w3 ⟨rfl,S⟩;have h:=z.I S id;dsimp only;apply f.out _ _ λ_=>⟨h.r 0 _ U,h.r 1 _ U⟩;clear f K;apply gE 9;intro K f;go_simp;apply f.out _ _ λ_=>⟨h.r 0 _ U,h.r 1 _ U⟩;clear f K;have T:=fe.gL fh w3 #[Í<|fy b.toNat++⟨#[58]⟩++fy p] 9;have l:=(T2.fP S).fP T;have o:=h.I T id;apply gE 10;intro K f;go_simp;apply f.out _ _ λ_=>⟨o.r 0 _ U,o.r 1 _ U⟩;clear f K;apply gE 11;intro K f;refine Mk (base:=u.heap.size) (n:=xs.length) (xs:=jw xs) (m:=1) fS _ _ 25 fS ù i.out.1 i.out.2.1 i.out.2.2.1 i.out.2.2.2 U fS l.ft ⟨_,0,Ä⟩ [Í<|fy b.toNat++⟨#[58]⟩++fy p] fS Z U (ÿ _ _ _) (λc q=>by simp at q;subst q;rfl) (by unfold Ą;omega) Z l.r.M ?_;intro tv1 w9 B;obtain⟨a2,cp2,rfl⟩:=jl B.ft;have q:=o.I B.r<|jG l.ft o A;apply f.out _ _ λ_=>⟨q.r 0 _ U,q.r 1 _ U⟩;clear f K;apply gE 12;intro K f;go_simp;apply f.out _ _ λ_=>⟨q.r 0 _ U,q.r 1 _ U⟩;clear f K;try simp only[ĵ,Õ,ã,ä]
 refine mf fw ?_ _;go_wp2_with fail;exact d.out.2.2 _ _ _ (gu _)<|l.C B
def Ui(O:Option ă)(n cp:Nat)(u:É)(l:List (Int×Bool))(a:é)(w:É):Prop:=
 ∃(j:Nat) (v:È),Fs O n cp v j a/\j<=n/\il u v ((l.take j).map Fp) w
def Uj(O:Option ă)(n cp:Nat)(u:É)(l:List (Int×Bool))(a:é)(w:É):Prop:=
 ∃v,Fs O n cp v n a/\il u v (l.map Fp) w
def MR(n:Nat)(a:é)(_:É):Nat:=match a.tmps.getD 8 ā with
 |Â _ i=>n-i.toNat
 |_=>0
def aa2(b:Fs O n cp v i y):MR n y w=n-i:=by obtain⟨u,rfl⟩:=b;show n-(i:Int).toNat=_;simp
def apg{l:List (Int×Bool)}(m:n=l.length)(o:n<=1000)(p:Ah l)(r:lS u)(g:nN O (uX l) u)(a:é)(w:É)(s:Ui O n cp u l a w): Î À MQ (Exit.then (λb d=>Ui O n cp u l b d/\MR n b d<MR n a w)<|QQ<|Uj O n cp u l) a w:=by
 let⟨j,v,h,G,c⟩:=s;rw[aa2 h];obtain⟨b,rfl⟩:=h;by_cases t:j=n
 .subst t;refine ape b _ U λa q=>⟨v,q,?_⟩;rwa[m,List.take_length]at c
 .obtain⟨x,e⟩:∃x,l[j]?=Ã x:=⟨_,Ô Z⟩;obtain⟨g0,y⟩:=Ug _ _ l j x e;let⟨z,B,i,C⟩:=g (j*2) _ g0;let⟨H,I,k,D⟩:=g (j*2+1) _ y;rw[i]at k;cases k;have f:=p x<|Ġ e;refine apf b c j Z o (by simp;omega) x.1.toNat x.2 (by have:=f.1;have:=f.2;omega) (r.r c.r) z B i (by rw[Ĕ f.1];exact c.r.r C id) (c.r.r D id) λa d E q F=>⟨⟨j+1,E,q,Z,?_⟩,by rw[aa2 q];omega⟩;rwa[Α,e,Υ]
def aph{l:List (Int×Bool)}(b:n=l.length)(g:n<=1000)(c:Ah l)(d:lS w)(f:nN O (uX l) w): Ò À 125 #[Ê O n cp] w λe a=>∃v,e=Ç v/\il w v (l.map Fp) a:=by
 have L:∀a,Fs O n cp (Ê Ä 0 0) (0:Nat) a->Î À (à MQ) (QQ<|Uj O n cp w l) a w:=λa h=>
  Ĉ (Ui O n cp w l) (MR n) ⟨0,_,h,â _,il.M w<|fe.gd _ _⟩<|apg b g c d f
 have H:=fg L;clear L c d f b;go_enter Tryz.func125,Tryz.ntmps125;go_wp2_with fail;refine Ý (Q:=QQ<|Uj O n cp w l) ?_ (H.out _ (gu _));rintro(_|(_|_)|_|_|_|_) a v hq;all_goals first|exact absurd hq id|skip
 let⟨v,i,e⟩:=hq;obtain⟨u,rfl⟩:=i;unfold Fq;have j:=fg e;clear e;go_wp2_with fail;go_ret;exact⟨_,U,j.out⟩
end
def CC(j:Nat):ByteArray:=ø ⟨#[48,49,50,51,52,53,54,55,56,57,97,98,99,100,101,102]⟩ j<|j+1
def CF(s t:St)(i j:Nat):List ByteArray:=if(s i).C j=(t i).C j then[]else[iK i++CC j]
def rz(s t:St)(i j:Nat):List ByteArray:=(ċ j).flatMap<|CF s t i
def yo(b a:Int)(p c:ByteArray)(i:Nat):List ByteArray:=(if b=a then[]else[iK i++⟨#[36]⟩])++(if p.toList=c.toList then[]else[iK i++⟨#[123]⟩])
def Al(s t:St)(i:Nat):List ByteArray:=yo (s i).fB (t i).fB (s i).r (t i).r i++rz s t i 16
def rA(s t:St)(n:Nat):List ByteArray:=(ċ n).flatMap<|Al s t
def apj(s t:St)(i j:Nat):(CF s t i j).length<=1:=by unfold CF;split<;>simp
def Uk(s t:St)(i j:Nat):rz s t i (j+1)=rz s t i j++CF s t i j:=by unfold rz;rw[Ŏ,Ţ];simp
theorem MS(s t:St)(i:Nat):∀j,(rz s t i j).length<=j
 |0=>by simp[rz]
 |j+1=>by rw[Uk,Ó];have:=MS s t i j;have:=apj s t i j;omega
theorem aa3(b a:Int)(p c:ByteArray)(i:Nat):(yo b a p c i).length<=2:=by unfold yo;rw[Ó];split<;>split<;>simp
def aa4(s t:St)(n:Nat):rA s t (n+1)=rA s t n++Al s t n:=by unfold rA;rw[Ŏ,Ţ];simp
def Ul(s t:St):∀n,(rA s t n).length<=18*n
 |0=>by simp[rA]
 |n+1=>by rw[aa4,Ó];have:=Ul s t n;unfold Al;rw[Ó];have:=MS s t n 16;have:=aa3 (s n).fB (t n).fB (s n).r (t n).r n;omega
def yp(i:Nat):(iK i).size<=1:=by unfold iK;rw[ŋ];omega
def aa5(i:Nat):(CC i).size<=1:=by unfold CC;rw[ŋ];omega
def mE.gW{s:St}(c:mE n s h W)(a:i<8):W.cell? ⟨n,i*18,Ä⟩=Ã (Â Æ (s i).fB)/\W.cell? ⟨n,i*18+1,Ä⟩=Ã (Í (s i).r)/\∀j,j<16->W.cell? ⟨n,i*18+2+j,Ä⟩=Ã (Â Æ<|(s i).C j):=by
 have g:∀j,j<144->W.cell? ⟨n,j,Ä⟩=Ã (qw s j):=λj b=>by have:=c.C j _<|T1 s b;simpa using this
 refine⟨?_,?_,λj b=> ?_⟩
 .rw[g _ Z,<-rp s (Ê Ä 0 0) Z,Im _ _ a];rfl
 .rw[g _ Z,<-rp s (Ê Ä 0 0) Z,Md _ _ a]
 .rw[g _ Z,<-rp s (Ê Ä 0 0) Z,Me _ _ a b];rfl
noncomputable def Am:ŏ:=(Tryz.f126.body.bind kv).getD Ķ
noncomputable def yq:ŏ:=(kv Am).getD Ķ
def u9(a b i:Nat)(c:È)(j:Int)(u:Nat->È):é:=⟨#[Å<|Ã ⟨a,0,Ä⟩,Å<|Ã ⟨b,0,Ä⟩,u 2,u 3,u 4,c,Â Ë i,Í<|iK i,Å<|Ã ⟨a,i*18,Ä⟩,Å<|Ã ⟨b,i*18,Ä⟩,u 10,Â Ë i,u 12,u 13,u 14,u 15,u 16,u 17,u 18,u 19,u 20,u 21,u 22,u 23,u 24,u 25,u 26,u 27,u 28,u 29,u 30,u 31,u 32,u 33,u 34,u 35,u 36,u 37,u 38,u 39,u 40,u 41,u 42,u 43,u 44,u 45,u 46,u 47,u 48,u 49,u 50,u 51,u 52,u 53,Â Ë j,u 55,u 56,u 57,u 58,u 59,u 60,u 61,u 62,u 63,u 64,u 65,u 66,u 67,u 68,u 69,u 70,u 71,u 72,u 73,u 74,u 75,u 76,u 77,u 78,u 79,u 80,u 81],[]⟩
def va(b c i:Nat)(d:È)(j:Int)(a:é):Prop:=∃u,a=u9 b c i d j u
def tF(a b:Nat)(c:È)(i:Int)(u:Nat->È):é:=⟨#[Å<|Ã ⟨a,0,Ä⟩,Å<|Ã ⟨b,0,Ä⟩,u 2,u 3,u 4,c,u 6,u 7,u 8,u 9,u 10,Â Ë i,u 12,u 13,u 14,u 15,u 16,u 17,u 18,u 19,u 20,u 21,u 22,u 23,u 24,u 25,u 26,u 27,u 28,u 29,u 30,u 31,u 32,u 33,u 34,u 35,u 36,u 37,u 38,u 39,u 40,u 41,u 42,u 43,u 44,u 45,u 46,u 47,u 48,u 49,u 50,u 51,u 52,u 53,u 54,u 55,u 56,u 57,u 58,u 59,u 60,u 61,u 62,u 63,u 64,u 65,u 66,u 67,u 68,u 69,u 70,u 71,u 72,u 73,u 74,u 75,u 76,u 77,u 78,u 79,u 80,u 81],[]⟩
def wm(b c:Nat)(d:È)(i:Int)(a:é):Prop:=∃u,a=tF b c d i u
section
variable{X:é->É->Prop}{w0:É}{xs:List ByteArray}{s t:St}
def apk(u:Nat->È)(b:∀a,va n j i v (16:Nat) a->X a w): Î À yq (Exit.then K<|Q2 X) (u9 n j i v (16:Nat) u) w:=by
 unfold u9;conv=>arg 2;whnf
 go_wp2_with fail
 exact b _ (gu _)
def apl(u:Nat->È)(b:Nat)(d:i<8)(e:b<16)(p:Int)(f:w.cell? ⟨n,i*18+2+b,Ä⟩=Ã (Â Æ p))(g:w.cell? ⟨j,i*18+2+b,Ä⟩=Ã (Â Æ p)) (c:∀a,va n j i v ((b+1:Nat):Int) a->K a w.drew): Î À yq (Exit.then K<|Q2 X) (u9 n j i v b u) w:=by
 unfold u9;conv=>arg 2;whnf
 have h:(0:Int)<=(b:Int):=Z
 have k:(b:Int)<16:=Z
 have H:=fg c;clear c;go_wp2_with fail;go_region;go_wp2_with fail;exact H.out _ (gu _)
def apm(u:Nat->È)(d:il w0 v xs w)(t:xs.length<=1000)(b:Nat)(x:i<8)(y:b<16)(p q:Int)(z:(p==q)=Ï)(B:w.cell? ⟨n,i*18+2+b,Ä⟩=Ã (Â Æ p))(C:w.cell? ⟨j,i*18+2+b,Ä⟩=Ã (Â Æ q)) (f:∀a g h,va n j i g ((b+1:Nat):Int) a->il w0 g (xs++[iK i++CC b]) h->K a h): Î À yq (Exit.then K<|Q2 X) (u9 n j i v b u) w:=by
 unfold u9;conv=>arg 2;whnf
 have D:(0:Int)<=(b:Int):=Z
 have E:(b:Int)<16:=Z
 have F:Ë.wrap ((b:Int)+1)=(b:Int)+1:=by rw[ó];omega
 have G:(0:Int)<=(b:Int)+1:=Z
 have I:(b:Int)+1<=16:=Z
 have J:(b:Int)<=(b:Int)+1:=Z
 have L:((b:Int)+1).toNat=b+1:=Z
 have M:¬9223372036854775807<(iK i).size+(CC b).size:=by have:=yp i;have:=aa5 b;omega
 have N:ø ⟨#[48,49,50,51,52,53,54,55,56,57,97,98,99,100,101,102]⟩ b (b+1)=CC b:=U;obtain⟨O,P,rfl⟩:=jl d.ft;let⟨Q,k,l,o,r⟩:=í Ak;have c:=fg<|Á k<|Á l<|Á o r;have H:=fg<|Á d f;clear d f k l o r;go_wp2_with fail;go_region;go_wp2_with (at_builtin;refine Ck (base:=w0.heap.size) (n:=xs.length) (xs:=jw xs) (m:=1) U _ _ 25 U ù c.out.1 c.out.2.1 c.out.2.2.1 c.out.2.2.2 U U ((H.out.1).fP kp).ft ⟨_,0,Ä⟩ [Í<|iK i++CC b] U Z U (ÿ _ _ _) (λu e=>by simp at e;subst e;rfl) (by unfold Ą;omega) Z ((H.out.1).fP kp).r.M ?_;intro S T e;obtain⟨V,W,rfl⟩:=jl e.ft;have s:=fg<|((H.out.1).fP kp).C e;clear e);exact H.out.2 _ _ _ (gu _) s.out
def DJ(n j i:Nat)(w0:É)(xs:List ByteArray)(s t:St)(a:é)(w:É):Prop:=
 ∃(b:Nat) (v:È),va n j i v b a/\b<=16/\il w0 v (xs++rz s t i b) w
def wo(n j i:Nat)(w0:É)(xs:List ByteArray)(s t:St)(a:é)(w:É):Prop:=
 ∃(v:È),va n j i v (16:Nat) a/\il w0 v (xs++rz s t i 16) w
def MU(a:é)(_:É):Nat:=match a.tmps.getD 54 ā with
 |Â _ i=>16-i.toNat
 |_=>0
def Um(c:va n j i v b y):MU y w=16-b:=by obtain⟨u,rfl⟩:=c;show 16-(b:Int).toNat=_;simp
def apn(o:mE n s h w0)(p:mE j t c w0)(e:i<8)(B:xs.length<=900)(a:é)(w:É)(r:DJ n j i w0 xs s t a w): Î À yq (Exit.then (λb g=>DJ n j i w0 xs s t b g/\MU b g<MU a w)<|Q2<|wo n j i w0 xs s t) a w:=by
 let⟨b,v,l,C,d⟩:=r;rw[Um l];obtain⟨u,rfl⟩:=l;by_cases x:b=16
 .subst x;exact apk u λa q=>⟨v,q,d⟩
 .have m:=d.r.r ((o.gW e).2.2 b Z) id;have k:=d.r.r ((p.gW e).2.2 b Z) id;by_cases q:(s i).C b=(t i).C b
  .rw[<-q]at k;refine apl u b e Z _ m k λa f=>⟨⟨b+1,v,f,Z,?_⟩,by rw[Um f];omega⟩;rw[Uk,CF,if_pos q,ò];exact d.fP<|fe.fY _ _
  .refine apm u d (by rw[Ó];have:=MS s t i b;omega) b e Z _ _ (by simpa using q) m k λa y g f z=>⟨⟨b+1,y,f,Z,?_⟩,by rw[Um f];omega⟩;rwa[Uk,CF,if_neg q,<-Ċ]
def apo(u:Nat->È)(b:∀a,wm n j v (8:Nat) a->X a w): Î À Am (Exit.then K<|QQ X) (tF n j v (8:Nat) u) w:=by
 unfold tF;conv=>arg 2;whnf
 go_wp2_with fail
 exact b _ (gu _)
def apq(u:Nat->È)(d:il w0 v xs w)(E:xs.length<=800)(F:i<8)(b h:Int)(p k:ByteArray)(G:(b==h)=Ú)(I:(p.toList==k.toList)=Ú)(l:w0.cell? ⟨n,i*18,Ä⟩=Ã (Â Æ b))(m:w0.cell? ⟨j,i*18,Ä⟩=Ã (Â Æ h))(f:w0.cell? ⟨n,i*18+1,Ä⟩=Ã (Í p))(g:w0.cell? ⟨j,i*18+1,Ä⟩=Ã (Í k)) (L:∀a e W,va n j i e (0:Nat) a->il w0 e xs W->Î À (à yq) (Q2<|wo n j i w0 xs s t) a W) (o:∀a e q,wm n j e ((i+1:Nat):Int) a->il w0 e (xs++rz s t i 16) q->K a q): Î À Am (Exit.then K<|QQ X) (tF n j v i u) w:=by
 unfold tF;conv=>arg 2;whnf
 have J:=d.r.r l id;have M:=d.r.r m id;have N:=d.r.r f id;have O:=d.r.r g id;have P:(0:Int)<=(i:Int):=Z
 have S:(i:Int)<8:=Z
 have T:Ë.wrap ((i:Int)+1)=(i:Int)+1:=by rw[ó];omega
 have V:(0:Int)<=(i:Int)+1:=Z
 have Y:(i:Int)+1<=8:=Z
 have rf:(i:Int)<=(i:Int)+1:=Z
 have uO:((i:Int)+1).toNat=i+1:=Z
 have IY:¬9223372036854775807<(iK i).size+1:=by have:=yp i;omega
 have Un:ø ⟨#[97,98,99,100,101,102,103,104]⟩ i (i+1)=iK i:=U;obtain⟨ta,tc,rfl⟩:=jl d.ft;let⟨i0,r,x,y,z⟩:=í Ak;have HI:=fg<|Á r<|Á x<|Á y z;have H:=fg<|Á d<|Á f<|Á g<|Á L o;clear d r x y z L o l m f g;go_wp2_with fail;go_region;go_wp2_with fail;go_region;go_wp2_with fail;go_region;go_wp2_with fail;refine Ý (Q:=Q2<|wo n j i w0 xs s t) ?_ (H.out.2.2.2.1 _ _ _ (gu _)<|(H.out.1).fP kp);rintro(_|(_|_|_|_)|_|_|_|_) a c hq;all_goals first|exact absurd hq id|skip
 let⟨Uo,C,B⟩:=hq;obtain⟨c,rfl⟩:=C;unfold u9;have D:=fg B;clear B;go_wp2_with fail;exact H.out.2.2.2.2 _ _ _ (gu _) D.out
def apr(u:Nat->È)(d:il w0 v xs w)(G:xs.length<=800)(I:i<8)(b l:Int)(p o:ByteArray)(J:(b==l)=Ú)(M:(p.toList==o.toList)=Ï)(q:w0.cell? ⟨n,i*18,Ä⟩=Ã (Â Æ b))(r:w0.cell? ⟨j,i*18,Ä⟩=Ã (Â Æ l))(h:w0.cell? ⟨n,i*18+1,Ä⟩=Ã (Í p))(k:w0.cell? ⟨j,i*18+1,Ä⟩=Ã (Í o)) (L:∀a e W,va n j i e (0:Nat) a->il w0 e (xs++[iK i++⟨#[123]⟩]) W->Î À (à yq) (Q2<|wo n j i w0 (xs++[iK i++⟨#[123]⟩]) s t) a W) (x:∀a e y,wm n j e ((i+1:Nat):Int) a->il w0 e ((xs++[iK i++⟨#[123]⟩])++rz s t i 16) y->K a y): Î À Am (Exit.then K<|QQ X) (tF n j v i u) w:=by
 unfold tF;conv=>arg 2;whnf
 have N:=d.r.r q id;have O:=d.r.r r id;have P:=d.r.r h id;have S:=d.r.r k id;have T:(0:Int)<=(i:Int):=Z
 have V:(i:Int)<8:=Z
 have Y:Ë.wrap ((i:Int)+1)=(i:Int)+1:=by rw[ó];omega
 have EC:(0:Int)<=(i:Int)+1:=Z
 have zu:(i:Int)+1<=8:=Z
 have rf:(i:Int)<=(i:Int)+1:=Z
 have uO:((i:Int)+1).toNat=i+1:=Z
 have IY:¬9223372036854775807<(iK i).size+1:=by have:=yp i;omega
 have Un:ø ⟨#[97,98,99,100,101,102,103,104]⟩ i (i+1)=iK i:=U;obtain⟨ta,tc,rfl⟩:=jl d.ft;let⟨i0,z,B,C,D⟩:=í Ak;have f:=fg<|Á z<|Á B<|Á C D;have H:=fg<|Á d<|Á h<|Á k<|Á L x;clear d z B C D L x q r h k;go_wp2_with fail;go_region;go_wp2_with fail;go_region;go_wp2_with fail;go_region;go_wp2_with (at_builtin;refine Ck (base:=w0.heap.size) (n:=xs.length) (xs:=jw xs) (m:=1) U _ _ 25 U ù f.out.1 f.out.2.1 f.out.2.2.1 f.out.2.2.2 U U ((H.out.1).fP kp).ft ⟨_,0,Ä⟩ [Í<|iK i++⟨#[123]⟩] U Z U (λc u g=>fe.r (X:=fh) kp (ÿ w (Í<|iK i++⟨#[123]⟩) 9 c u g) id) (λu g=>by simp at g;subst g;rfl) (by unfold Ą;omega) Z ((H.out.1).fP kp).r.M ?_;intro E F c;obtain⟨ta2,tc2,rfl⟩:=jl c.ft;have g:=fg<|((H.out.1).fP kp).C c;clear c);refine Ý (Q:=Q2<|wo n j i w0 (xs++[iK i++⟨#[123]⟩]) s t) ?_ (H.out.2.2.2.1 _ _ _ (gu _)<|(g.out).fP kp);rintro(_|(_|_|_|_)|_|_|_|_) a c hq;all_goals first|exact absurd hq id|skip
 let⟨Uo,E,g⟩:=hq;obtain⟨c,rfl⟩:=E;unfold u9;have F:=fg g;clear g;go_wp2_with fail;exact H.out.2.2.2.2 _ _ _ (gu _) F.out
def aps(u:Nat->È)(d:il w0 v xs w)(I:xs.length<=800)(J:i<8)(b l:Int)(p o:ByteArray)(M:(b==l)=Ï)(N:(p.toList==o.toList)=Ú)(q:w0.cell? ⟨n,i*18,Ä⟩=Ã (Â Æ b))(r:w0.cell? ⟨j,i*18,Ä⟩=Ã (Â Æ l))(h:w0.cell? ⟨n,i*18+1,Ä⟩=Ã (Í p))(k:w0.cell? ⟨j,i*18+1,Ä⟩=Ã (Í o)) (L:∀a e W,va n j i e (0:Nat) a->il w0 e (xs++[iK i++⟨#[36]⟩]) W->Î À (à yq) (Q2<|wo n j i w0 (xs++[iK i++⟨#[36]⟩]) s t) a W) (x:∀a e y,wm n j e ((i+1:Nat):Int) a->il w0 e ((xs++[iK i++⟨#[36]⟩])++rz s t i 16) y->K a y): Î À Am (Exit.then K<|QQ X) (tF n j v i u) w:=by
 unfold tF;conv=>arg 2;whnf
 have O:=d.r.r q id;have P:=d.r.r r id;have S:=d.r.r h id;have T:=d.r.r k id;have V:(0:Int)<=(i:Int):=Z
 have Y:(i:Int)<8:=Z
 have oY:Ë.wrap ((i:Int)+1)=(i:Int)+1:=by rw[ó];omega
 have EC:(0:Int)<=(i:Int)+1:=Z
 have zu:(i:Int)+1<=8:=Z
 have rf:(i:Int)<=(i:Int)+1:=Z
 have uO:((i:Int)+1).toNat=i+1:=Z
 have IY:¬9223372036854775807<(iK i).size+1:=by have:=yp i;omega
 have Un:ø ⟨#[97,98,99,100,101,102,103,104]⟩ i (i+1)=iK i:=U;have E2:(xs++[iK i++⟨#[36]⟩]).length=xs.length+1:=fq
 obtain⟨ta,tc,rfl⟩:=jl d.ft;let⟨i0,z,B,C,D⟩:=í Ak;have f:=fg<|Á z<|Á B<|Á C D;have H:=fg<|Á d<|Á h<|Á k<|Á L x;clear d z B C D L x q r h k;go_wp2_with fail;go_region;go_wp2_with fail;go_region;go_wp2_with (at_builtin;refine Ck (base:=w0.heap.size) (n:=xs.length) (xs:=jw xs) (m:=1) U _ _ 25 U ù f.out.1 f.out.2.1 f.out.2.2.1 f.out.2.2.2 U U ((H.out.1).fP kp).ft ⟨_,0,Ä⟩ [Í<|iK i++⟨#[36]⟩] U Z U (λc u g=>fe.r (X:=fh) kp (ÿ w (Í<|iK i++⟨#[36]⟩) 9 c u g) id) (λu g=>by simp at g;subst g;rfl) (by unfold Ą;omega) Z ((H.out.1).fP kp).r.M ?_;intro E F c;obtain⟨G,tc1,rfl⟩:=jl c.ft;have g:=fg<|((H.out.1).fP kp).C c;clear c);have d3:=g.out.r.r H.out.2.1 id;have d4:=g.out.r.r H.out.2.2.1 id;go_region;go_wp2_with fail;refine Ý (Q:=Q2<|wo n j i w0 (xs++[iK i++⟨#[36]⟩]) s t) ?_ (H.out.2.2.2.1 _ _ _ (gu _)<|(g.out).fP kp);rintro(_|(_|_|_|_)|_|_|_|_) a c hq;all_goals first|exact absurd hq id|skip
 let⟨Uo,F,E⟩:=hq;obtain⟨c,rfl⟩:=F;unfold u9;have G:=fg E;clear E;go_wp2_with fail;exact H.out.2.2.2.2 _ _ _ (gu _) G.out
def apt(u:Nat->È)(f:il w0 v xs w)(N:xs.length<=800)(O:i<8)(b q:Int)(p r:ByteArray)(P:(b==q)=Ï)(S:(p.toList==r.toList)=Ï)(x:w0.cell? ⟨n,i*18,Ä⟩=Ã (Â Æ b))(y:w0.cell? ⟨j,i*18,Ä⟩=Ã (Â Æ q))(k:w0.cell? ⟨n,i*18+1,Ä⟩=Ã (Í p))(l:w0.cell? ⟨j,i*18+1,Ä⟩=Ã (Í r)) (L:∀a g W,va n j i g (0:Nat) a->il w0 g ((xs++[iK i++⟨#[36]⟩])++[iK i++⟨#[123]⟩]) W->Î À (à yq) (Q2<|wo n j i w0 ((xs++[iK i++⟨#[36]⟩])++[iK i++⟨#[123]⟩]) s t) a W) (z:∀a g B,wm n j g ((i+1:Nat):Int) a->il w0 g (((xs++[iK i++⟨#[36]⟩])++[iK i++⟨#[123]⟩])++rz s t i 16) B->K a B): Î À Am (Exit.then K<|QQ X) (tF n j v i u) w:=by
 unfold tF;conv=>arg 2;whnf
 have T:=f.r.r x id;have V:=f.r.r y id;have Y:=f.r.r k id;have c4:=f.r.r l id;have e0:(0:Int)<=(i:Int):=Z
 have e1:(i:Int)<8:=Z
 have oY:Ë.wrap ((i:Int)+1)=(i:Int)+1:=by rw[ó];omega
 have EC:(0:Int)<=(i:Int)+1:=Z
 have zu:(i:Int)+1<=8:=Z
 have rf:(i:Int)<=(i:Int)+1:=Z
 have uO:((i:Int)+1).toNat=i+1:=Z
 have IY:¬9223372036854775807<(iK i).size+1:=by have:=yp i;omega
 have Un:ø ⟨#[97,98,99,100,101,102,103,104]⟩ i (i+1)=iK i:=U;have G:(xs++[iK i++⟨#[36]⟩]).length=xs.length+1:=fq
 obtain⟨ta,tc,rfl⟩:=jl f.ft;let⟨i0,C,D,E,F⟩:=í Ak;have e:=fg<|Á C<|Á D<|Á E F;have H:=fg<|Á f<|Á k<|Á l<|Á L z;clear f C D E F L z x y k l;go_wp2_with fail;go_region;go_wp2_with fail;go_region;go_wp2_with (at_builtin;refine Ck (base:=w0.heap.size) (n:=xs.length) (xs:=jw xs) (m:=1) U _ _ 25 U ù e.out.1 e.out.2.1 e.out.2.2.1 e.out.2.2.2 U U ((H.out.1).fP kp).ft ⟨_,0,Ä⟩ [Í<|iK i++⟨#[36]⟩] U Z U (λc u d=>fe.r (X:=fh) kp (ÿ w (Í<|iK i++⟨#[36]⟩) 9 c u d) id) (λu d=>by simp at d;subst d;rfl) (by unfold Ą;omega) Z ((H.out.1).fP kp).r.M ?_;intro J I o;obtain⟨M,tc1,rfl⟩:=jl o.ft;have h:=fg<|((H.out.1).fP kp).C o;clear o);have d3:=h.out.r.r H.out.2.1 id;have d4:=h.out.r.r H.out.2.2.1 id;go_region;go_wp2_with (at_builtin;refine Ck (base:=w0.heap.size) (n:=(xs++[iK i++⟨#[36]⟩]).length) (xs:=jw<|xs++[iK i++⟨#[36]⟩]) (m:=1) U _ _ 25 U ù e.out.1 e.out.2.1 e.out.2.2.1 e.out.2.2.2 U U ((h.out).fP kp).ft ⟨_,0,Ä⟩ [Í<|iK i++⟨#[123]⟩] U Z U (λc u d=>fe.r (X:=fh) kp (ÿ I (Í<|iK i++⟨#[123]⟩) 9 c u d) id) (λu d=>by simp at d;subst d;rfl) (by unfold Ą;omega) Z ((h.out).fP kp).r.M ?_;intro d o c;obtain⟨J,M,rfl⟩:=jl c.ft;have I:=fg<|((h.out).fP kp).C c;clear c);have d:=I.out;rw[G]at d;refine Ý (Q:=Q2<|wo n j i w0 ((xs++[iK i++⟨#[36]⟩])++[iK i++⟨#[123]⟩]) s t) ?_ (H.out.2.2.2.1 _ _ _ (gu _)<|(d).fP kp);rintro(_|(_|_|_|_)|_|_|_|_) a c hq;all_goals first|exact absurd hq id|skip
 let⟨Uo,J,o⟩:=hq;obtain⟨c,rfl⟩:=J;unfold u9;have M:=fg o;clear o;go_wp2_with fail;exact H.out.2.2.2.2 _ _ _ (gu _) M.out
def DO(n j:Nat)(w0:É)(s t:St)(a:é)(w:É):Prop:=
 ∃(i:Nat) (v:È),wm n j v i a/\i<=8/\il w0 v (rA s t i) w
def Up(n j:Nat)(w0:É)(s t:St)(a:é)(w:É):Prop:=
 ∃(v:È),wm n j v (8:Nat) a/\il w0 v (rA s t 8) w
def IZ(a:é)(_:É):Nat:=match a.tmps.getD 11 ā with
 |Â _ i=>8-i.toNat
 |_=>0
def aa6(b:wm n j v i y):IZ y w=8-i:=by obtain⟨u,rfl⟩:=b;show 8-(i:Int).toNat=_;simp
def apu(B:mE n s h w0)(C:mE j t c w0)(a:é)(w:É)(E:DO n j w0 s t a w): Î À Am (Exit.then (λq g=>DO n j w0 s t q g/\IZ q g<IZ a w)<|QQ<|Up n j w0 s t) a w:=by
 let⟨i,v,D,H,l⟩:=E;rw[aa6 D];obtain⟨u,rfl⟩:=D;by_cases F:i=8
 .subst F;exact apo u λa q=>⟨v,q,l⟩
 have k:i<8:=Z
 have I:=Ul s t i;let⟨m,o,_⟩:=B.gW k;let⟨p,r,_⟩:=C.gW k;have L:∀q:List ByteArray,q.length<=900->∀a b W,va n j i b (0:Nat) a->il w0 b q W->Î À (à yq) (Q2<|wo n j i w0 q s t) a W:=λq y a b W G z=>
  Ĉ (DJ n j i w0 q s t) MU ⟨0,b,G,Z,by show il w0 b (q++[]) W;rwa[ò]⟩<|apn B C k y
 have x:∀q:List ByteArray,rA s t i++yo (s i).fB (t i).fB (s i).r (t i).r i=q->∀a b g,wm n j b ((i+1:Nat):Int) a->il w0 b (q++rz s t i 16) g->DO n j w0 s t a g/\IZ a g<8-i:=λq y a b g f z=>⟨⟨i+1,b,f,Z,by rwa[aa4,Al,<-Ċ,y]⟩,by rw[aa6 f];omega⟩;by_cases d:(s i).fB=(t i).fB<;>by_cases e:(s i).r.toList=(t i).r.toList
 .exact apq u l Z k _ _ _ _ (by simpa using d) (by simpa using e) m p o r (L _ Z)<|x _<|by unfold yo;rw[if_pos d,if_pos e,ò,ò]
 .exact apr u l Z k _ _ _ _ (by simpa using d) (by simpa using e) m p o r (L _<|by rw[Ó];simp;omega)<|x _<|by unfold yo;rw[if_pos d,if_neg e,Ξ]
 .exact aps u l Z k _ _ _ _ (by simpa using d) (by simpa using e) m p o r (L _<|by rw[Ó];simp;omega)<|x _<|by unfold yo;rw[if_neg d,if_pos e,ò]
 .exact apt u l Z k _ _ _ _ (by simpa using d) (by simpa using e) m p o r (L _<|by rw[Ó,Ó];simp;omega)<|x _<|by unfold yo;rw[if_neg d,if_neg e,Ċ]
def apv(b:mE n s h w)(d:mE j t c w): Ò À 126 #[Å<|Ã ⟨n,0,Ä⟩,Å<|Ã ⟨j,0,Ä⟩] w λe a=>∃v,e=Ç v/\il w v (rA s t 8) a:=by
 have L:∀a,wm n j (Ê Ä 0 0) (0:Nat) a->Î À (à Am) (QQ<|Up n j w s t) a w:=λa f=>
  Ĉ (DO n j w s t) IZ ⟨0,_,f,â _,il.M w<|fe.gd _ _⟩<|apu b d
 have H:=fg L;clear L b d;go_enter Tryz.func126,Tryz.ntmps126;go_wp2_with fail;refine Ý (Q:=QQ<|Up n j w s t) ?_ (H.out _ (gu _));rintro(_|(_|_)|_|_|_|_) a v hq;all_goals first|exact absurd hq id|skip
 let⟨k,g,e⟩:=hq;obtain⟨u,rfl⟩:=g;unfold tF;have i:=fg e;clear e;go_wp2_with fail;go_ret;exact⟨_,U,i.out⟩
end
def apw:(À.info? 5).map (λi=>(i.zero,i.size,i.bytes))=Ã (Ã<|Â aU 0,1,1):=fw
theorem fe.G(f:X p.block)(n:Nat):fe X w (w.freeze p n):=by
 by_cases b:n=0
 .rw[Đ,if_pos b];exact fe.gd _ _
 rw[Đ,if_neg b];refine⟨fq,λk _ g=> ?_,λa i o h=> ?_,λ_ a=>by have:=aap a p n;rwa[Đ,if_neg b]at this⟩
 .grind
 .simp only[Û]at h;split at h
  .cases d:w.heap[i]? with
   |none=>rw[d]at h;cases h
   |some e=>
    have:=a _ _ d;rw[d]at h;cases e with
    |cells c t z=>simp only[ñ,è]at h;subst h;exact λx=>x
    |_=>exact absurd trivial this
  .exact a i o h
def aa7:(À.info? 109).map (·.size)=Ã 2:=fw
def apx:liesAt À À.depth 109 (2/À.cellsOf 109) 0 109 1=Ú:=fw
def apy(b:Nat)(w:É)(d:w.cell? ⟨b,0,Ä⟩=Ã (Å<|Ã ⟨b,0,Ä⟩)):Ò À 78 #[Å<|Ã ⟨b,0,Ä⟩] w λe a=>e=Ç (æ #[])/\a=w:=by let⟨j,c,_⟩:=Ì.1 aa7;go_enter aJ,aD;go_wp2;rw[Lib.run_neq_ptr_same w _ ĳ c];go_wp2;go_end0;exact⟨U,U⟩
def apz(b:Nat)(w:É)(g:w.cell? ⟨b,0,Ä⟩=Ã (Å Ä))(a:w.shape? b=Ã (109,2))(h:w.frozen? ⟨b,0,Ä⟩=Ï):Ò À 78 #[Å<|Ã ⟨b,0,Ä⟩] w λe d=>e=Ç (æ #[])/\d=w.setCell ⟨b,0,Ä⟩ (Å<|Ã ⟨b,0,Ä⟩):=by let⟨j,c,f⟩:=Ì.1 aa7;go_enter aJ,aD;go_wp2;rw[Lib.run_to_unsafe w ⟨b,0,Ä⟩ ĳ ŭ c (by rw[f];decide) a<|Nat.zero_lt_succ 1];simp only[į];rw[Ħ];go_wp2;rw[ţ Tryz.func129 fw fw fw fw];rw[Lib.run_noEscape];simp only[į];rw[Ħ];go_wp2;rw[Lib.run_from_unsafe w ⟨b,0,Ä⟩ ŭ ĳ c a apx];simp only[į];rw[Ħ];go_wp2;go_end0;exact⟨U,U⟩
theorem aa8{base:Nat}{u h:õ}(j:P.underlying t=Ã (bm e))(k:P.underlying u=Ã .string)(p:P.info? e=Ã zJ)(G:zJ.zero=Ã (Â aU 0)) (D:zJ.size=1) (H:zJ.bytes=1) (E:w.ownsRow base e 1 v n l) (s:ByteArray) (J:n+s.size<=Ą) (Q:n+s.size<=140737488355328) (r:(Ō #[t,u] h #[v,Í s]).run P w=φ z W) (I:my e=Ï):(ko w->ko W)/\(∀m,sj m w->sj m W):=by
 have S:n+s.size<=9223372036854775807:=by simp only[Ą]at J;omega
 have K:l.length=n:=by simpa using E.1
 rcases E.2 with⟨rfl,rfl⟩|⟨g,y,B,rfl,V,F,X,Y,L,htake⟩
 .by_cases C:s.size=0
  .have a:=Lib.run_firstCells_string (P:=P) w 1 s;rw[C]at a;simp[Ō,ř j,ř k,sizeOf,typeInfo,p,D,bu,C,a]at r;grind
  .have b:=run_append_nil_string w t u h e zJ (Â aU 0) j k p G s Z Z (by rw[H];omega);rw[r]at b;cases b;exact⟨λa=>Ih a _ _ _,λ_ a=>Ii a _ _ _<|Ø I⟩
 .by_cases M:n+s.size<=y
  .have avy:B.size=y:=by simpa using L
   have b:=Lib.run_append_room_string w t u h e zJ j k p D g n y B F s M Z;rw[r]at b;cases b;refine⟨λa q o d=> ?_,λm a q c T N C d O=> ?_⟩
   .by_cases f:q=g
    .subst f;rw[ĝ w q B _ e _ F]at d;cases d;exact λx=>x
    .rw[ė w g q _ f]at d;exact a q o d
   .by_cases f:q=g
    .subst f;rw[ĝ w q B _ e _ F]at d;grind
    .rw[ė w g q _ f]at d;exact a q c T N C d O
  .have c:=E.cells U;have b:=Lib.run_append_grow_string w t u h e zJ (Â aU 0) j k p G ⟨g,0,Ä⟩ n y l (by rw[D];simpa using K) c s Z Z (by rw[H];exact ŕ Z Z);rw[r]at b;cases b;exact⟨λa=>Ih a _ _ _,λ_ a=>Ii a _ _ _<|Ø I⟩
def apA{P:Program}{ops:Array Oper}{rest:List Oper}{o:Oper}{a:Act}{Q:Exit->Act->World->Prop}{w:World}(Tf:o.guard=none)(sl x:Operand)(t u:TypeId) (ho:o.op=.call {callee:=.builtin .append,args:=#[sl,x],argTypes:=#[t,u]}) {base:Nat} {e:TypeId} {i:TypeInfo} (ht:P.underlying t=some (.slice e)) (hu:P.underlying u=some .string) (hi:P.info? e=some i) (hz:i.zero=some (.int .u8 0)) (xY:i.size=1) (xZ:i.bytes=1) {v:Value} {n:Nat} {xs:List Value} (hs:a.eval sl=v) (lO:w.ownsRow base e 1 v n xs) (s:ByteArray) (hx:a.eval x=.string s) (Cl:n+s.size<=maxLen) (Cm:n+s.size<=140737488355328) (Cj:base<=w.heap.size) (h:∀v' w',w'.ownsRow base e 1 v' (n+s.size) (xs++Lib.strCells s)->fe (λk=>v.ownBlock=some k) w w'->wpList P ops Q rest (a.put o.dst v') w') (hT:my e=false:=by decide):wpList P ops Q (o::rest) a w:=by refine ű Tf λK hK=> ?_;let⟨v',w',hr,h2,h3,_⟩:=Lib.run_append_own_string w base t u o.type e i ht hu hi hz xY xZ v n xs lO s Cl Cm Cj;have kp:fe (λk=>v.ownBlock=Ã k) w w':=⟨h3.size,λk hk q=>h3.block k hk λe=>q e.symm,(aa8 ht hu hi hz xY xZ lO s Cl Cm hr hT).1,(aa8 ht hu hi hz xY xZ lO s Cl Cm hr hT).2⟩;unfold Ń Ĥ;simp only[ho,ae,aP,ag,Ų,ų,Ĵ,ļ,Ť,Ŵ,hs,hx,hr];exact hK _ _<|h v' w' h2 kp
structure pd(w0:É)(b:Nat)(bs:List È)(w:É):Prop where
 I:w0.heap.size<=b
 r:fe fh w0 w
 C:∃v,fj b [Å<|Ã ⟨b,0,Ä⟩,v] 109 w/\w.ownsRow w0.heap.size 5 1 v bs.length bs
def pd.fP(h:pd u b l w)(k:fe fh w W):pd u b l W:=by let⟨v,a,c⟩:=h.C;exact⟨h.I,h.r.fi k,v,a.I k id,ik c k λ_ _=>id⟩
theorem Uq(h:pd u b l w)(s:ByteArray)(m:l.length+s.size<=140737488355328): Ò À 55 #[Å<|Ã ⟨b,0,Ä⟩,Í s] w λe i=>e=Ç (æ #[Â Ë s.size,.nilIface])/\pd u b (l++Lib.strCells s) i:=by
 let⟨B,c,n,o,p⟩:=í apw;let⟨v,a,d⟩:=h.C;obtain⟨C,D,rfl⟩:=jl d;have t:=a.r 0 _ U;have E:=a.r 1 _ U;have x:=h.r.M;have y:=jG d a A;have H:=fg<|Á h<|Á c<|Á n<|Á o<|Á p<|Á a d;go_enter Tryz.func55,Tryz.ntmps55;go_wp2_with (first
  |(go_at_call 78;refine(apy b _ t).mono ?_;rintro e i ⟨rfl,j⟩;subst i)
  |(at_builtin;refine apA U _ _ 107 9 U ý đ H.out.2.1 H.out.2.2.1 H.out.2.2.2.1 H.out.2.2.2.2.1 U H.out.2.2.2.2.2.2 s U (by unfold Ą;omega) m x ?_;intro g f j k;obtain⟨q,r,rfl⟩:=jl j;have i:=H.out.2.2.2.2.2.1.I k y;have z:=i.r 0 _ U;have F:=i.r 1 _ U;have G:=i.C 1;have e:=fg (Á k (Á i j));clear k i j))
 go_ret2;have z:=e.out.2.1.fV 1<|Ê q (l.length+s.size) r;have g:fe (λk=>k=b) f (f.setCell ⟨b,1,Ä⟩<|Ê q (l.length+s.size) r):=fe.I (X:=λk=>k=b) U _<|Ù e.out.2.1.G;refine⟨U,H.out.1.I,(H.out.1.r.C e.out.1 λi c q=> ?_).C g λi c q=> ?_,_,z,?_⟩
 .have:=(H.out.2.2.2.2.2.2.lt i q).1;omega
 .have:=H.out.1.I;omega
 .have:=ik e.out.2.2 g λj q r=>jG e.out.2.2 e.out.2.1 A (by rw[q,r]);grind [Ó,Lib.strCells_length]
def apB:(À.info? 5).map (·.size)=Ã 1:=fw
def apC:À.cellsOf 5=1:=fw
structure I0(w0:É)(b:Nat)(p:È)(w:É):Prop where
 C:w0.heap.size<=b
 I:fe fh w0 w
 r:fj b [p,Ê Ä 0 0] 109 w
section
variable{w0:É}{p:È}
def I0.D7(h:I0 w0 b (Å<|Ã ⟨b,0,Ä⟩) w)(f:d.size<=Ą):pd w0 b [] ((w.alloc<|Ð d 5).setCell ⟨b,1,Ä⟩<|Ê (Ã ⟨w.heap.size,0,Ä⟩) 0 d.size).drew.drew.drew:=by have a:=fe.gL fh w d 5;have c:fe (λk=>k=b) (w.alloc<|Ð d 5) ((w.alloc<|Ð d 5).setCell ⟨b,1,Ä⟩<|Ê (Ã ⟨w.heap.size,0,Ä⟩) 0 d.size):=fe.I (X:=λk=>k=b) U _<|Ù (h.r.I a id).G;have k:=(h.r.I a id).fV 1<|Ê (Ã ⟨w.heap.size,0,Ä⟩) 0 d.size;have m:=h.r.M;have g:(w.alloc<|Ð d 5).ownsRow w0.heap.size 5 1 (Ê (Ã ⟨w.heap.size,0,Ä⟩) 0 d.size) 0 []:= ⟨U,Ù ⟨w.heap.size,d.size,d,U,h.I.M,ì w _,â _,f,fq,fq⟩⟩;have l:pd w0 b [] ((w.alloc<|Ð d 5).setCell ⟨b,1,Ä⟩<|Ê (Ã ⟨w.heap.size,0,Ä⟩) 0 d.size):= ⟨h.C,(h.I.fi a).C c λi n q=>by have:=h.C;omega,_,k,ik g c λj q r=>by cases q;have e:w.heap.size=b:=r;omega⟩;exact((l.fP<|fe.fY _ _).fP<|fe.fY _ _).fP<|fe.fY _ _
theorem apD(h:I0 w0 b (Å<|Ã ⟨b,0,Ä⟩) w)(n:Nat)(j:n<=281474976710656): Ò À 79 #[Å<|Ã ⟨b,0,Ä⟩,Â Ë n] w λe c=>e=Ç (æ #[])/\pd w0 b [] c:=by
 let⟨a,g,o,k⟩:=Lib.run_makeNoZero w.drew #[3] 107 5 ý n j;have i:Ë.wrap (Ë.wrap 0+(n:Int))=n:=by grind [ó]
 have p:(callFunc 130 #[Â Ë<|Ë.wrap<|Ë.wrap 0+(n:Int)]).run À w.drew=φ (.value<|Ê (Ã ⟨w.drew.heap.size,0,Ä⟩) n a.size) (w.drew.drew.drew.alloc<|Ð a 5):=by rw[i,ţ Tryz.func130 fw fw fw fw,g];rfl
 have e:=fg (Á (show w.drew.cell? ⟨b,1,Ä⟩=Ã (Ê Ä 0 0)from h.r.r 1 _ rfl) trivial);have d:=h.r.I (fe.gL fh w a 5) id;have l:=d.r 1 _ U;have f:=l;have q:=d.C 1;have r:∀W:É,(ν #[107,107] 3 #[Ê (Ã ⟨w.heap.size,0,Ä⟩) 0 a.size,Ê Ä 0 0]).run À W=φ (goInt 0) W:= λW=>run_copy_none W 107 107 3 5 _ _ 0 a.size 0 0 ý apB U;have m:=fg (h.D7<|k<|by unfold Ą;omega);clear i h d g;go_enter Tryz.func79,Tryz.ntmps79;go_wp2;refine mC (λc=>c.cell? ⟨b,1,Ä⟩=Ã (Ê Ä 0 0)/\True) [] fw ?_;iterate 8 apply tk e.out
 apply tk e.out 9;apply tk e.out 10;apply tk e.out 11;apply tk e.out 12;apply tk e.out 13;refine gE 8 ?_;intro K c;go_simp;refine c.out _ _ (λ_=>⟨f,trivial⟩) ?_;refine gE 14 ?_;intro K c;go_simp;refine c.out _ _ (λ_=>⟨f,trivial⟩) ?_;refine gE 15 ?_;intro K c;go_simp;refine c.out _ _ (λ_=>⟨f,trivial⟩) ?_;refine mf fw ?_ _;go_wp2;go_end0;exact⟨U,m.out⟩
def apE(h:I0 w0 b (Å Ä) w)(n:Nat)(l:0<n)(d:n<=281474976710656): Ò À 54 #[Å<|Ã ⟨b,0,Ä⟩,Â Ë n] w λe a=>e=Ç (æ #[])/\pd w0 b [] a:=by
 have f:w.shape? b=Ã (109,2):=by have i:w.heap[b]?=_:=h.r;simp[Ÿ,i]
 have c:=fg (show I0 w0 b (Å<|Ã ⟨b,0,Ä⟩) (w.setCell ⟨b,0,Ä⟩<|Å<|Ã ⟨b,0,Ä⟩).drew from⟨h.C,(h.I.C (fe.I (X:=λk=>k=b) U _<|Ù h.r.G) λi k q=>by have:=h.C;omega).fi<|fe.fY _ _,(h.r.fV 0 _).I (fe.fY fh _) id⟩);have k:=fg<|Á (c.out.r.r 1 _ rfl) trivial;have q:=h.r.r 0 _ U;have g:=h.r.C 0;have m:¬((n:Int)<0):=Z
 have o:(0:Int)<(n:Int):=Z
 have p:Ë.wrap 0<(n:Int):=by rw[ó];omega
 go_enter Tryz.func54,Tryz.ntmps54;go_wp2_with (go_at_call 78;refine(apz b w q f g).mono ?_;rintro e a ⟨rfl,i⟩;subst a);refine mC (λa=>a.cell? ⟨b,1,Ä⟩=Ã (Ê Ä 0 0)/\True) [] fw ?_;iterate 13 apply tk k.out
 refine mf fw ?_ _;go_wp2_with (go_at_call 79;refine(apD c.out n d).mono ?_;rintro e a ⟨rfl,i⟩;have j:=fg i;clear i);go_end0;exact⟨U,j.out⟩
def apF{l:List UInt8}(h:pd w0 b (ô l) w)(d:l≠[]): Ò À 56 #[Å<|Ã ⟨b,0,Ä⟩] w λe K=>e=Ç (Í ⟨l.toArray⟩)/\fe fh w0 K:=by
 let⟨v,f,c⟩:=h.C;have n:l.length≠0:=by simpa using d
 rw[Ř]at c;obtain⟨g,e,a,rfl,t,o,u,s,y,z⟩:∃g e a,v=Ê (Ã ⟨g,0,Ä⟩) l.length e/\w0.heap.size<=g/\w.heap[g]?=Ã (Ð a 5 (0,0))/\l.length<=e/\e<=Ą/\a.size=e*1/\a.toList.take (l.length*1)=ô l:=by
  rcases c.2 with⟨_,i⟩|⟨g,e,a,j,r⟩
  .exact absurd i n
  .exact⟨g,e,a,j,r⟩
 have m:=fg (Á (show w.drew.cell? ⟨b,1,Ä⟩=Ã (Ê (Ã ⟨g,0,Ä⟩) l.length e)from f.r 1 _ rfl) trivial);have B:∀W:É,(υ #[107] 177 #[Ê (Ã ⟨g,0,Ä⟩) l.length e]).run À W=φ (Å<|Ã ⟨g,0,Ä⟩) W:=λW=>
  Lib.run_unsafeSliceData_row _ _ _ _ _ _ Z
 have C:(Ő #[177,3] 9 #[Å<|Ã ⟨g,0,Ä⟩,Â Ë l.length]).run À w.drew=φ (Í ⟨l.toArray⟩) (w.drew.freeze ⟨g,0,Ä⟩ l.length):=by refine Ĺ w.drew 177 3 9 5 Ū apC g a.size (by have i:w.drew.heap[g]?=Ã (Ð a 5 (0,0)):=o;simp[Ÿ,i]) l d Z (by unfold Ą at s;omega) ?_;intro j x i;have:=c.cells U j (Â aU x.toNat) (by simp[ô,i]);exact this
 have x:=fg ((h.r.fi<|fe.fY _ _).C (fe.G (X:=λk=>k=g) (p:=⟨g,0,Ä⟩) U l.length) λi j q=>by omega);have j:=fg (Á ((fe.G (X:=λk=>k=g) (p:=⟨g,0,Ä⟩) rfl l.length).r m.out.1 λq=>jG c f A<|by show Ã g=Ã b;rw[show g=b from(show b=g from q).symm]) trivial);go_enter Tryz.func56,Tryz.ntmps56;go_wp2;refine mC (λK=>K.cell? ⟨b,1,Ä⟩=Ã (Ê (Ã ⟨g,0,Ä⟩) l.length e)/\True) [] fw ?_;iterate 10 apply tk m.out
 apply gE 10;intro K i;go_simp;apply i.out _ _ λ_=>j.out;apply gE 11;intro K i;go_simp;apply i.out _ _ λ_=>j.out;refine mf fw ?_ _;go_wp2;go_ret;exact⟨U,x.out⟩
end
end Go.Proofs.Y.fR
