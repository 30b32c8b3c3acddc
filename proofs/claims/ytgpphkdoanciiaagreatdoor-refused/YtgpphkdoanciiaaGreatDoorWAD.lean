import Derived.Test.YtgpphkdoanciiaaGreatDoorWAC
import Derived.Test.YtgpphkdoanciiaaGreatDoorChecked
import Derived.WalkKit
import Derived.WalkSpells
import Derived.WalkLawsBesides
import Derived.Deep.Light
import Derived.Maps.AppendAt
import Derived.RegionTactic
import Derived.Deep.RegionWith
import Derived.Deep.QuietTactic
import Derived.BigQuiet
import Derived.Deep.RegionHeld3
import Derived.WalkMore
import Derived.Deep.MidRow
import Derived.Great.Walk
import Derived.Lib.UnsafeStr
import Derived.Lib.BufferWrite
import Derived.Laws.Tables
import Derived.Laws.Bits64
import Derived.Shelf.Strconv.Itoa0
import Derived.Shelf.Strconv.Itoa1
import Derived.Shelf.LaysM
import Derived.Shelf.Strconv.Itoa2
import Derived.Shelf.Strconv.Itoa3
import Derived.Shelf.Strings.Repeat
import Derived.Shelf.Strings.OnBuilder
import Derived.Shelf.Strconv.Clone
import Derived.Shelf.Strings.Prefix
import Derived.Shelf.Bits.Mul64
import Derived.Test.YtgpphkdoanciiaaGreatDoorProg
import Derived.Lib.ItoaLen
set_option linter.all false
set_option maxRecDepth 1000000
set_option maxHeartbeats 8000000
open Go.Proofs.Tryz renaming prog->À,ntmps205->å,func205->ê,underlying25->ù,underlying107->ý,underlying9->đ,underlying3->Ě,underlying4->ě,zeroValue3->ħ,zeroValue4->Ĩ,zeroValue9->ĩ,underlying106->ĳ,underlying36->ĸ,ntmps170->ĺ,zeroValue36->ŀ,func170->Ņ,ntmps66->Ň,sizeOf3->ň,sizeOf4->ŉ,sizeOf9->Ŋ,func66->ś,isAgg3->Ŝ,isAgg4->ŝ,isAgg9->Ş,ntmps154->ť,ntmps113->Ŧ,sizeOf36->ŧ,underlying177->Ū,underlying168->Ŭ,underlying170->ŭ,func154->Ź,func187->ź,func113->Ż,zeroValue168->Ž,isAgg36->ž,underlying95->ſ,underlying0->Δ,underlying5->Ε,zeroValue95->Ζ,zeroValue0->Ρ,zeroValue5->Τ,sizeOf168->ε,ntmps209->η,ntmps210->θ,ntmps168->κ,ntmps196->ξ,ntmps169->ο,ntmps187->π,isAgg168->ρ,sizeOf95->ς,ntmps172->σ,func209->ag,func210->ai,func168->ak,func196->ar,func169->au,sizeOf0->ax,sizeOf5->ay,isAgg95->aA,func172->aB,ntmps78->aC,isAgg0->aG,isAgg5->aH,func78->aI,f161->aY
open And renaming intro->Á
open Go.Value renaming int->Â,pointer->Å,slice->Ê,string->Í,bool->Ñ,tuple->æ,agg->Ē,cells->ğ,ownBlock->Į
open Option renaming some->Ã,none->Ä,map_eq_some_iff->Ì,map_some->ñ,isSome_none->ũ,map->ū
open Go.IntKind renaming u64->Æ,i64->Ë,wrap_i64->ó,u8->aT,wrap_u64->aX
open Go.Ending renaming returned->Ç
open Go renaming Value->È,World->É,Calls->Ò,Act->é,heap_alloc_new->ì,info_parts->í,bodyPost_ret->ð,TypeId->õ,cell_one_new->ÿ,undef->ā,Addr->ă,maxLen->Ą,wp_loop->Ĉ,setRow_other->ė,setRow_heap->ĝ,execOp->Ĥ,wpList_load_mid->ĥ,all_oneCell_toArray->Ī,wpList_store_mid->ľ,Code->ŏ,grownCap->Œ,growslice_fits->ŕ,run_underlying->ř,Oper->ş,run_callFunc_extern->ţ,Operand->Ů,wpList_plain->ű,cell_two_new->ŵ,grownCap_ge->Θ,run_append_grow->Λ,run_loadVar_mid->Ν,ready_mono->Ω,wpOp_step->χ,resolve->ae,builtin->af,yielded->ah,results->aj,Ending->av,Program->aE,invoke->aO,wpList->aQ,Exit->aS
open Go.Code renaming wp->Î,wp_mono->Ý,loop->à,skip->Ķ
open Bool renaming false->Ï,true->Ú,false_eq_true->ĭ
open Go.Obj renaming cells->Ð
open List renaming length_append->Ó,getElem?_eq_getElem->Ô,setIfInBounds_toArray->Õ,getElem?_eq_some_iff->Ü,eq_nil_of_length_eq_zero->ß,set_cons_zero->ã,set_cons_succ->ä,getElem?_append_left->ç,append_nil->ò,mem_append->ú,getElem?_range->û,getElem?_append_right->ü,ext_getElem?->þ,size_toArray->ć,append_assoc->Ċ,range->ċ,drop_eq_getElem_cons->ē,length_set->ĕ,drop_eq_nil_of_le->Ę,set_append_left->Ğ,mem_of_getElem?->Ġ,getD_eq_getElem?_getD->Ĳ,getElem?_map->ķ,map_toArray->ļ,length_cons->Ľ,mem_map->ņ,range_succ->Ŏ,mem_append_left->œ,getElem?_set_ne->Ŗ,mem_cons_of_mem->Ś,flatMap_append->Ţ,map_cons->Ť,map_nil->Ŵ,take_add_one->Α,mem_flatMap->Β,length_nil->Μ,nil_append->Ξ,length_map->Ο,map_append->Υ
open Int renaming le_refl->Ö,toNat_of_nonneg->Ĕ,toNat_natCast->Ŷ,le_trans->ŷ
open Or renaming inl->Ø,inr->Ù
open Array renaming getElem?_modify->Û,size_replicate->Ď,getD_eq_getD_getElem?->ī,replicate->ō,toList_append->Š,length_toList->š,size_append->Ű
open Nat renaming le_refl->Þ,zero_le->â,le_trans->ë,le_add_right->Ŀ,zero_add->ł,add_mul->ő,mul_le_mul_right->Ŕ,mul_one->ŗ,lt_of_lt_of_le->Ũ,lt_or_ge->ů,mod_lt->aN
open Go.World renaming block_lt_of_cell?->á,alloc->Ă,setCell->ą,ownsRow_nil->ĉ,drew->Č,freeze->Đ,shape?->Ÿ,cell?->Η
open Option.some renaming injEq->è
open Go.Operand renaming tmp->î,func->bg
open Go.Ground renaming data->ï
open Go.Lib renaming byteCells->ô,nDigits->č,zeros24->ġ,decDigits_length->Ģ,run_unsafeString_row->Ĺ,decDigits->Ļ,byteCells_length->Ř,TabIs->ω,pow10Tab->az
open Go.Builtin renaming zeroCells->ö,append_->Ō,unsafeString_->Ő,copy_->ν,unsafeSliceData_->υ,min->bm,lenOf->br
open ByteArray renaming extract->ø,size_extract->ŋ,ext->bn
open Go.Region renaming ready->Ā,wanted->Ĝ,binds->ń,Mode->Ι
open Go.Great renaming wpList_runTo->Ć
open Go.RowKit.Below renaming heap_alloc->ď,heap_setCell->Ė
open False renaming elim->ę
open Go.Obj.cells renaming injEq->ģ
open Go.Oper renaming upon_value->Ħ,wp->Ń
open Go.Shelf renaming Ren->Ĭ
open Go.Result renaming andThen->į,andThen_ok->Ĵ,ok->φ
open Go.TypeDesc renaming isRow->İ,slice->bl
open Go.Instr renaming fill->ı,index->Κ
open Go.Act renaming put->ĵ
open Go.Sort renaming mapBlock->Ł,putRow->ζ
open Go.Sem renaming run_bind->Ų,run_pure->ų
open Go.Op renaming build->Χ,call->aD,alloc->bh
open Go.Proofs.Lays renaming n283->aJ,n285->aK,n212->aL,n99->aR
variable{i n j b k m J j9 j7 j6:Nat}{w u W jX:É}{v x z jQ:È}{a p:ă}{h c:Int}{e t T:õ}{d q:Array È}{P:aE}{y:é}{B:ByteArray}{X:Nat->Prop}{O:Option ă}{l:List È}{yQ:Bool}{K H:é->É->Prop}{o:ş}{D:Nat->Nat}{jJ:List Nat}{qQ:Ů}{zQ:List Int}{zJ:Go.TypeInfo}{xX:Ů->È}{xJ:Nat×Nat}{vX:List ByteArray}{vJ:aS->é->É->Prop}{s:Go.Func}
namespace Go.Proofs.Y.iz
open Go Go.Proofs Go.RowKit Go.Proofs.Y.Lift
def e8{p:Prop}(h:p):Hid p:=h
def YY{b:Bool}(h:yQ=b):Ç (Ñ yQ)=Ç (Ñ b):=by rw[h]
def Dt{k:IntKind}{b:Int}(h:c=b):Ç (Â k c)=Ç (Â k b):=by rw[h]
def YZ{b:ByteArray}(h:B=b):Ç (Í B)=Ç (Í b):=by rw[h]
def jZ:È->Bool
 |Â aT _=>Ï
 |Â _ _=>Ú
 |Ñ _=>Ú
 |_=>Ï
def lM(T:õ):Bool:=T==257||T==246
def qT(m:Nat)(w:É):Prop:=∀(b:Nat) (c:Array È) (T:õ) (v:Nat×Nat),m<=b->w.heap[b]?=Ã (Ð c T v)->lM T=Ú->0<c.size/\∀v∈c.toList,jZ v=Ú
def NF(b:Nat)(w:É):Prop:=∀(c:Array È) (T:õ) (a:Nat×Nat),w.heap[b]?=Ã (Ð c T a)->lM T=Ï
structure eZ(X:Nat->Prop)(w w':É):Prop where
 M:w.heap.size<=w'.heap.size
 N:∀k,k<w.heap.size->¬X k->w'.heap[k]?=w.heap[k]?
 gN:jW w->jW w'
 Y:∀m,qT m w->qT m w'
section
variable{Y:Nat->Prop}{w' d:É}
theorem eZ.fQ(X:Nat->Prop)(w:É):eZ X w w:=⟨Þ _,λ_ _ _=>rfl,id,λ_=>id⟩
def eZ.fc(h:eZ X W jX)(k:eZ X jX d):eZ X W d:= ⟨ë h.M k.M,λi b c=>(k.N i (Ũ b h.M) c).trans<|h.N i b c,λa=>k.gN<|h.gN a,λm a=>k.Y m<|h.Y m a⟩
def eZ.S(h:eZ X w w')(b:∀k,k<w.heap.size->X k->Y k):eZ Y w w':= ⟨h.M,λk a c=>h.N k a λx=>c<|b k a x,h.gN,h.Y⟩
def eZ.C(h:eZ X W jX)(k:eZ Y jX d)(e:∀i,i<W.heap.size->Y i->X i):eZ X W d:= ⟨ë h.M k.M,λi b c=>(k.N i (Ũ b h.M) λy=>c<|e i b y).trans<|h.N i b c,λa=>k.gN<|h.gN a,λm a=>k.Y m<|h.Y m a⟩
def ajG(a:jW w)(p:ă)(v:È):jW (w.setCell p v):=by
 intro i o h;by_cases e:i=p.block
 .subst e;unfold ą at h;simp only[Û,if_true]at h;cases b:w.heap[p.block]? with
  |none=>rw[b]at h;cases h
  |some d=>
   have:=a _ _ b;rw[b]at h;cases d with
   |cells c t z=>simp only[ñ,è]at h;subst h;exact λx=>x
   |_=>exact absurd trivial this
 .rw[Ė _ _ _ _ (by simpa using e)]at h;exact a i o h
theorem GK(a:jW w)(b:Array È)(t:õ)(z:Nat×Nat):jW (w.alloc<|Ð b t z):=by
 intro i o h;by_cases e:i<w.heap.size
 .rw[ď _ _ _ e]at h;exact a i o h
 .by_cases c:i=w.heap.size
  .subst c;rw[ì]at h;cases h;exact λx=>x
  .have:(w.alloc<|Ð b t z).heap.size<=i:=by simp;omega
   grind
def ajH(a:qT m w)(p:ă)(v:È)(f:jZ v=Ú\/NF p.block w):qT m (w.setCell p v):=by
 intro i c T k g h b;by_cases e:i=p.block
 .subst e;unfold ą at h;simp only[Û,if_true]at h;cases d:w.heap[p.block]? with
  |none=>rw[d]at h;cases h
  |some l=>
   rw[d]at h;cases l with
   |cells o t z=>
    simp only[ñ,è,ģ]at h;obtain⟨n,rfl,rfl⟩:=h;rcases f with f|f
    .subst n;split
     .exact a _ _ _ _ g d b
     .refine⟨by rw[Array.size_setIfInBounds];exact(a _ _ _ _ g d b).1,λu j=> ?_⟩;rw[Array.toList_setIfInBounds]at j;rcases List.mem_or_eq_of_mem_set j with q|q
      .exact(a _ _ _ _ g d b).2 u q
      .rwa[q]
    .rw[f _ _ _ d]at b;cases b
   |_=>cases h
 .rw[Ė _ _ _ _ (by simpa using e)]at h;exact a i c T k g h b
theorem GM(a:qT m w)(b:Array È)(t:õ)(z:Nat×Nat)(j:lM t=Ï\/0<b.size/\∀v∈b.toList,jZ v=Ú):qT m (w.alloc<|Ð b t z):=by
 intro i c T d f h g;by_cases e:i<w.heap.size
 .rw[ď _ _ _ e]at h;exact a i c T d f h g
 .by_cases k:i=w.heap.size
  .grind [ì]
  .have:(w.alloc<|Ð b t z).heap.size<=i:=by simp;omega
   grind
def eZ.I{p:Addr}(hx:X p.block)(v:Value)(hv:jZ v=true\/NF p.block w:=by first|exact Or.inl (by rfl)|exact Or.inr<|by assumption):eZ X w (w.setCell p v):= ⟨fh,λk _ hk=>Ė _ _ _ _ (by intro e;subst e;exact hk hx),λa=>ajG a p v,λ_ a=>ajH a p v hv⟩
def eZ.gC(X:Nat->Prop)(w:World)(cs:Array Value)(t:TypeId)(hf:lM t=false\/0<cs.size/\∀v∈cs.toList,jZ v=true:=by first|exact Or.inl (by decide)|exact Or.inr ⟨by simp,by simp[jZ]⟩):eZ X w (w.alloc<|.cells cs t):= ⟨fh,λk hk _=>ď _ _ _ hk,λa=>GK a cs t (0,0),λ_ a=>GM a cs t (0,0) hf⟩
def eZ.iJ(X:Nat->Prop)(w:É)(n:Nat):eZ X w (w.drewN n):=⟨Þ _,λ_ _ _=>rfl,id,λ_=>id⟩
def eZ.fN(X:Nat->Prop)(w:É):eZ X w w.drew:=⟨Þ _,λ_ _ _=>rfl,id,λ_=>id⟩
def kp{X:Nat->Prop}{w w':World}(h:eZ X w w':=by repeat' (first|(with_reducible exact eZ.fQ _ _)|(with_reducible refine eZ.fc ?_<|eZ.iJ _ _ _)|(with_reducible refine eZ.fc ?_<|eZ.fN _ _)|(with_reducible refine eZ.fc ?_<|eZ.gC _ _ _ _))):eZ X w w':=h
def eZ.r(h:eZ X w w')(b:w.cell? a=Ã v)(c:¬X a.block):w'.cell? a=Ã v:=by rwa[World.cell?_of_block<|h.N _ (á w a b) c]
end
def GN{u:È}(h:j≠b):(w.setCell ⟨j,i,Ä⟩ u).cell? ⟨b,n,Ä⟩=w.cell? ⟨b,n,Ä⟩:= World.cell?_setCell_other _ _ _ _<|by intro e;injection e with e1 e2;exact h e1
def fe(j:Nat)(vs:List È)(T:õ)(w:É):Prop:=w.heap[j]?=Ã (Ð vs.toArray T (0,0))
section
variable{vs:List È}{w':É}
def fe.N(w:É)(vs:List È)(T:õ):fe w.heap.size vs T (w.alloc<|Ð vs.toArray T):=ì w _
def fe.M(h:fe j vs T w):j<w.heap.size:=by
 rcases ů j w.heap.size with a|a
 .exact a
 .unfold fe at h;rw[Array.getElem?_eq_none a]at h;cases h
def fe.r(h:fe j vs T w)(i:Nat)(v:È)(a:vs[i]?=Ã v):w.cell? ⟨j,i,Ä⟩=Ã v:=by unfold fe at h;simp only[Η,h,ũ,ĭ,if_false,List.getElem?_toArray];exact a
def fe.C(h:fe j vs T w)(i:Nat):w.frozen? ⟨j,i,Ä⟩=Ï:=by unfold fe at h;simp[World.frozen?,h]
def fe.zC(h:fe j vs T w)(e:w'.heap[j]?=w.heap[j]?):fe j vs T w':=by unfold fe;rwa[e]
def fe.I(h:fe j vs T w)(k:eZ X w w')(a:¬X j):fe j vs T w':=h.zC<|k.N j h.M a
theorem fe.fX(h:fe j vs T w)(i:Nat)(u:È):fe j (vs.set i u) T (w.setCell ⟨j,i,Ä⟩ u):=by unfold fe at h|-;unfold ą;grind
def fe.G(h:fe j vs T w)(hT:lM T=false:=by decide):NF j w:=λc T' fr q=>by unfold fe at h;rw[h]at q;cases q;exact hT
theorem fe.S(h:fe j vs T w)(k:fe i l e w)(a:T≠e):j≠i:=by rintro rfl;unfold fe at h k;grind
end
section
variable{w':É}{base:Nat}{size:Nat}{xs:List È}
def ajI(h:w.ownsRow base e size v n xs)(k:∀j,v.ownBlock=Ã j->w'.heap[j]?=w.heap[j]?):w'.ownsRow base e size v n xs:=by
 let⟨c,a⟩:=h;refine⟨c,?_⟩;rcases a with a|⟨g,d,f,b,i,l,r⟩
 .exact Ø a
 .refine Ù ⟨g,d,f,b,i,?_,r⟩;rw[k g (by rw[b];rfl)];exact l
def gW(h:w.ownsRow base e size v n xs)(k:eZ X w w')(b:∀j,v.ownBlock=Ã j->¬X j):w'.ownsRow base e size v n xs:= ajI h λj a=>k.N j (h.lt j a).2<|b j a
theorem jy(h:w.ownsRow base e size v n xs):∃a c,v=Ê a n c:=by rcases h.2 with⟨b,d⟩|⟨g,f,i,b,_⟩;all_goals grind
theorem ly(h:w.ownsRow base e size v n xs)(a:v.ownBlock=Ã j):∃b,w.heap[j]?=Ã (Ð b e (0,0)):=by
 rcases h.2 with⟨c,_⟩|⟨g,f,b,c,_,d,_⟩
 .rw[c]at a;cases a
 .rw[c]at a;cases a;exact⟨b,d⟩
theorem jo(h:w.ownsRow base e size v n xs)(k:fe j l T w)(a:e≠T):v.ownBlock≠Ã j:=by intro q;let⟨b,c⟩:=ly h q;unfold fe at k;grind
theorem ajJ(h:w.ownsRow base e size v n xs)(k:w.ownsRow i t b x m l)(a:e≠t)(c:v.ownBlock=Ã j):x.ownBlock≠Ã j:=by grind [ly]
theorem Ri{n:Nat}(h:v∈(ö d n).toList):v∈d.toList:=by unfold ö at h;grind [Array.toList_map,getElem,aN]
structure pA(w:É)(base:Nat)(e:õ)(size:Nat)(v:È)(n:Nat)(xs:List È)(m:Nat)(news:List È)(v':È)(w':É):Prop where
 fi:w'.ownsRow base e size v' (n+m) (xs++news)
 r:eZ (λk=>v.ownBlock=Ã k) w w'
 C:v'.ownBlock=v.ownBlock\/v'.ownBlock=Ã w.heap.size
 I:∀v0 n0 wK,w.ownsRow base e size v0 n0 wK->(v0.ownBlock=v.ownBlock->n0<=n)->w'.ownsRow base e size v0 n0 wK
def pA.ajK(c:w.ownsRow base e size v n xs)(f:l.length=m*size)(g:base<=w.heap.size)(j:n+m<=i)(o:i<=Ą)(p:d.size=i*size)(q:d.toList.take ((n+m)*size)=xs++l)(r:lM e=Ï\/0<d.size/\∀v∈d.toList,jZ v=Ú): pA w base e size v n xs m l (Ê (Ã ⟨w.heap.size,0,Ä⟩) (n+m) i) (w.drew.alloc<|Ð d e):=by have b:∀X,eZ X w (w.drew.alloc<|Ð d e):=λX=>⟨fh,λk s _=>ď _ _ _ s,λa=>GK a d e (0,0),λ_ a=>GM a d e (0,0) r⟩;refine⟨⟨by rw[Ó,c.1,f,ő],Ù ⟨w.heap.size,i,d,U,g,ì w.drew _,j,o,p,q⟩⟩,b _,Ù U,λt u x h _=>gW h (b λ_=>False) λ_ _=>id⟩
theorem Rj{ty:õ}{bytes:Nat}(F:P.underlying t=Ã (bl e))(G:P.info? e=Ã zJ)(Q:zJ.zero=Ã z) (wL:zJ.size=size) (wM:zJ.bytes=bytes) (qP:z.cells.size=size) (p:w.ownsRow base e size v n xs) (a:ă) (c:Nat) (b:List È) (hm:0<m) (r:b.length=m*size) (H:∀j u,b[j]?=Ã u->w.cell? (a.add j)=Ã u) (h1:∀u∈b,u.oneCell'=Ú) (S:n+m<=Ą) (V:(n+m)*bytes<=140737488355328) (Bj:base<=w.heap.size) (W:lM e=Ï\/(0<b.length/\(∀u∈xs++b,jZ u=Ú)/\∀u∈z.cells.toList,jZ u=Ú)): ∃x w',(Ō #[t,t] ty #[v,Ê (Ã a) m c]).run P w=φ x w'/\pA w base e size v n xs m b x w':=by
 subst wL;subst wM;have ajL:n+m<=9223372036854775807:=by simp only[Ą]at S;omega
 have hlen:(xs++b).length=(n+m)*zJ.size:=by rw[Ó,p.1,r,ő]
 have ash:=p;have tk:∀d,((xs.toArray++b.toArray++ö z.cells (Œ w (n+m) d e-(n+m))).toList.take ((n+m)*zJ.size)=xs++b):=λd=>by grind
 have sz:∀d,(xs.toArray++b.toArray++ö z.cells (Œ w (n+m) d e-(n+m))).size=Œ w (n+m) d e*zJ.size:=λd=>by have x:=Θ w (n+m) d e;simp only[Ű,ć,size_zeroCells,qP,p.1,r,<-ő];congr 1;omega
 have ajM:∀d,lM e=Ï\/0<(xs.toArray++b.toArray++ö z.cells (Œ w (n+m) d e-(n+m))).size/\∀v∈(xs.toArray++b.toArray++ö z.cells (Œ w (n+m) d e-(n+m))).toList,jZ v=Ú:=λd=>by
  cases s:lM e with
  |false=>exact Ø U
  |true=>
   rcases W with q|⟨x,B,I⟩
   .rw[q]at s;cases s
   .refine Ù ⟨by simp only[Ű,ć];omega,λv f=> ?_⟩;simp only[Š,ú]at f;rcases f with(f|f)|f
    .exact B v<|œ _ f
    .exact B v<|List.mem_append_right _ f
    .exact I v<|Ri f
 have gr:=λd=>pA.ajK p r Bj (Θ w (n+m) d e) (grownCap_le_maxLen w (n+m) d e S) (sz d) (tk d)<|ajM d;rcases p.2 with⟨rfl,rfl⟩|⟨g,y,h,rfl,hbg,C,hnc,hcm,X,htake⟩
 .have J:=ß (by simpa using p.1);subst J;have Y:=run_append_nil w t ty e zJ z F G Q a m c b r H hm Z (by have x:=V;simp only[ł]at x;omega);grind
 .by_cases K:n+m<=y
  .have Rk:n*zJ.size+b.length<=h.size:=by rw[r,X,<-ő];exact Ŕ _ K
   have Y:=run_append_room w t ty e zJ F G g n y h C a m c b r H h1 K Rk;have E:=ĝ w g h (h.toList.take (n*zJ.size)++b++h.toList.drop (n*zJ.size+b.length)).toArray e _ C;have L:=λk (M:k≠g)=>ė w g k (h.toList.take (n*zJ.size)++b++h.toList.drop (n*zJ.size+b.length)).toArray M;have N:(h.toList.take (n*zJ.size)++b++h.toList.drop (n*zJ.size+b.length)).toArray.size=h.size:=by grind
   have kp:eZ (λk=>Į (Ê (Ã ⟨g,0,Ä⟩) n y)=Ã k) w (w.setRow g (h.toList.take (n*zJ.size)++b++h.toList.drop (n*zJ.size+b.length)).toArray):=by
    refine⟨fh,λk _ M=>L k λe=>M (by simp[Į,e]),λal q o l=> ?_,λm' hF q c T fr O l s=> ?_⟩;rotate_left
    .by_cases D:q=g
     .subst D;rw[E]at l;cases l;rcases W with qq|⟨_,B,_⟩
      .grind
      .refine⟨by rw[N];exact(hF _ _ _ _ O C s).1,λu x=> ?_⟩;simp only[ú]at x;rcases x with(x|x)|x
       .grind
       .grind
       .exact(hF _ _ _ _ O C s).2 u<|List.mem_of_mem_drop x
     .rw[L q D]at l;exact hF q c T fr O l s
    by_cases D:q=g
    .subst D;rw[E]at l;cases l;exact λx=>x
    .rw[L q D]at l;exact al q o l
   refine⟨_,_,Y,⟨hlen,Ù ⟨g,y,_,U,hbg,E,K,hcm,by rw[N,X],?_⟩⟩,kp,Ø U,λo q wK x s=> ?_⟩
   .grind
   .by_cases f:o.ownBlock=Ã g
    .let⟨B,I⟩:=x;refine⟨B,?_⟩;rcases I with⟨rfl,_⟩|⟨g0,D,asi,rfl,O,l,T,b4,b5,b6⟩
     .cases f
     .have:g0=g:=by simpa[Į]using f
      subst this;rw[C]at l;cases l;refine Ù ⟨g0,D,_,U,O,E,T,b4,by rw[N,b5],?_⟩;rw[htake];have asj:q*zJ.size<=n*zJ.size:=Ŕ _<|s f;grind
    .exact gW x kp λj l J=>f<|by rw[l];simpa[Į]using J.symm
  .exact⟨_,_,(Λ w t ty e zJ z F G Q ⟨g,0,Ä⟩ n y xs p.1 (p.cells U) a m c b r H Z Z<|ŕ Z V),gr y⟩
def Bl{P:Program}{ops:Array Oper}{rest:List Oper}{o:Oper}{a:Act}{Q:Exit->Act->World->Prop}(Rl:o.guard=none)(s x:Operand)(t:TypeId) (ho:o.op=.call {callee:=.builtin .append,args:=#[s,x],argTypes:=#[t,t]}) {i:TypeInfo} {z:Value} {bytes:Nat} (ht:P.underlying t=some (.slice e)) (hi:P.info? e=some i) (hz:i.zero=some z) (wL:i.size=size) (wM:i.bytes=bytes) (qP:z.cells.size=size) (hs:a.eval s=v) (kY:w.ownsRow base e size v n xs) (ad:Addr) {m c:Nat} (news:List Value) (hx:a.eval x=.slice (some ad) m c) (hm:0<m) (hl:news.length=m*size) (Rm:∀j u,news[j]?=some u->w.cell? (ad.add j)=some u) (h1:∀u∈news,u.oneCell'=true) (Bm:n+m<=maxLen) (Bn:(n+m)*bytes<=140737488355328) (Bj:base<=w.heap.size) (h:∀v' w',pA w base e size v n xs m news v' w'->wpList P ops Q rest (a.put o.dst v') w') (hfl:lM e=false\/(0<news.length/\(∀u∈xs++news,jZ u=true)/\∀u∈z.cells.toList,jZ u=true):=by first|exact Or.inl (by decide)|exact Or.inr ⟨by simp,by simp[jZ],by simp[jZ,Value.cells]⟩): wpList P ops Q (o::rest) a w:=by refine ű Rl λK hK=> ?_;let⟨v',w',hr,h2⟩:=Rj (ty:=o.type) ht hi hz wL wM qP kY ad c news hm hl Rm h1 Bm Bn Bj hfl;unfold Ń Ĥ;simp only[ho,ae,aO,af,Ų,ų,Ĵ,ļ,Ť,Ŵ,hs,hx,hr];exact hK _ _<|h v' w' h2
end
structure GO where
 fp:Int
 r:ByteArray
 C:Nat->Int
abbrev St:=Nat->GO
def St.fX(s:St)(i:Nat)(a:GO):St:=λj=>if j=i then a else s j
def St.fp(s:St)(i:Nat)(b:Int):St:=s.fX i {s i with fp:=b}
def St.C(s:St)(i:Nat)(p:ByteArray):St:=s.fX i {s i with r:=p}
def St.r(s:St)(i j:Nat)(v:Int):St:=s.fX i {s i with C:=λk=>if k=j then v else(s i).C k}
def pB(n:Int):È:=Â Æ n
def Rn(n:Int):È:=Â Ë n
def pC(s:St)(i:Nat):È:=if i%18=0 then pB (s<|i/18).fp else if i%18=1 then Í (s<|i/18).r else pB ((s<|i/18).C<|i%18-2)
def qU(s:St)(a:È)(i:Nat):È:=if 144<=i then a else pC s i
theorem qg(s:St)(a:È)(h:i<144):qU s a i=pC s i:=by unfold qU;rw[if_neg Z]
def jb(s:St)(lv:È):List È:=(ċ 145).map<|qU s lv
theorem mb(s:St)(lv:È):(jb s lv).length=145:=by simp[jb]
theorem GQ(s:St)(a:È)(h:i<145):(jb s a)[i]?=Ã (qU s a i):=by unfold jb;grind
theorem Y0{s:St}(h:l.length=145)(a:∀i,i<145->l[i]?=Ã (qU s v i)):l=jb s v:=by apply þ;grind [GQ,mb]
section
variable(s:St)(lv:È)
def GR(h:i<8):qU s lv (i*18)=pB (s i).fp:=by rw[qg _ _ Z,pC,if_pos Z,show i*18/18=i from by omega]
def Kx(h:i<8):qU s lv (i*18+1)=Í (s i).r:=by rw[qg _ _ Z,pC,if_neg Z,if_pos Z,show(i*18+1)/18=i from by omega]
def Ky(h:i<8)(a:j<16):qU s lv (i*18+2+j)=pB ((s i).C j):=by rw[qg _ _ Z,pC,if_neg Z,if_neg Z,show(i*18+2+j)/18=i from by omega,show(i*18+2+j)%18-2=j from by omega]
theorem Kz:qU s lv 144=lv:=by unfold qU;grind
theorem ajN(v:È):(jb s lv).set 144 v=jb s v:=by
 refine Y0 (by rw[ĕ,mb]) λi a=> ?_;by_cases e:i=144
 .grind [mb,Kz]
 .rw[Ŗ<|Ne.symm e,GQ _ _ a,qg _ _ Z,qg _ _ Z]
theorem Ro(f:i<144){c:St}(g:qU c lv i=v)(h:∀b,b<144->b≠i->pC c b=pC s b):(jb s lv).set i v=jb c lv:=by
 refine Y0 (by rw[ĕ,mb]) λb d=> ?_;by_cases e:b=i
 .grind [mb]
 .rw[Ŗ<|Ne.symm e,GQ _ _ d];grind [qg,Kz]
def Y1(h:i<8)(b:Int):(jb s lv).set (i*18) (pB b)=jb (s.fp i b) lv:=by
 refine Ro s lv Z ?_ λk a c=> ?_
 .rw[GR _ _ h];simp[St.fp,St.fX]
 .unfold pC;by_cases e:k/18=i
  .have:k%18≠0:=Z
   simp[St.fp,St.fX,e,this]
  .simp[St.fp,St.fX,e]
def ajO(h:i<8)(p:ByteArray):(jb s lv).set (i*18+1) (Í p)=jb (s.C i p) lv:=by
 refine Ro s lv Z ?_ λk a b=> ?_
 .rw[Kx _ _ h];simp[St.C,St.fX]
 .unfold pC;by_cases e:k/18=i
  .have:k%18≠1:=Z
   simp[St.C,St.fX,e,this]
  .simp[St.C,St.fX,e]
def ajP(h:i<8)(c:j<16)(v:Int):(jb s lv).set (i*18+2+j) (pB v)=jb (s.r i j v) lv:=by
 refine Ro s lv Z ?_ λk d f=> ?_
 .rw[Ky _ _ h c];simp[St.r,St.fX]
 .unfold pC;by_cases e:k/18=i
  .by_cases a:k%18=0
   .simp[St.r,St.fX,e,a]
   .by_cases b:k%18=1
    .simp[St.r,St.fX,e,b]
    .have:k%18-2≠j:=Z
     simp[St.r,St.fX,e,a,b,this]
  .simp[St.r,St.fX,e]
end
def iq(b:Nat)(T:õ)(tl:List È)(s:St)(lv:È)(w:É):Prop:=fe b (jb s lv++tl) T w
section
variable{tl:List È}{s:St}{lv:È}
def iq.GU(h:iq b T tl s lv w)(a:i<145):w.cell? ⟨b,i,Ä⟩=Ã (qU s lv i):= fe.r h i _<|by rw[ç (by rwa[mb]),GQ _ _ a]
def iq.pO(h:iq b T tl s lv w)(c:i<145){a:St}(e:(jb s lv).set i v=jb a x):iq b T tl a x (w.setCell ⟨b,i,Ä⟩ v):=by have:=fe.fX h i v;rw[Ğ _ _ (show i<(jb s lv).length by rwa[mb]),e]at this;exact this
def iq.fp(h:iq b T tl s lv w)(a:i<8):w.cell? ⟨b,i*18,Ä⟩=Ã (Â Æ (s i).fp):=by rw[h.GU Z,GR _ _ a];rfl
def iq.KA(h:iq b T tl s lv w)(a:i<8):w.cell? ⟨b,i*18+1,Ä⟩=Ã (Í (s i).r):=by rw[h.GU Z,Kx _ _ a]
def iq.Y2(h:iq b T tl s lv w)(a:i<8)(c:j<16):w.cell? ⟨b,i*18+2+j,Ä⟩=Ã (Â Æ<|(s i).C j):=by rw[h.GU Z,Ky _ _ a c];rfl
def iq.Bo(h:iq b T tl s lv w):w.cell? ⟨b,144,Ä⟩=Ã lv:=by rw[h.GU Z,Kz]
def iq.yD(h:iq b T tl s lv w)(a:i<8)(x:Int):iq b T tl (s.fp i x) lv (w.setCell ⟨b,i*18,Ä⟩<|Â Æ x):=h.pO Z<|Y1 s lv a x
def iq.ajQ(h:iq b T tl s lv w)(a:i<8)(x:ByteArray):iq b T tl (s.C i x) lv (w.setCell ⟨b,i*18+1,Ä⟩<|Í x):=h.pO Z<|ajO s lv a x
def iq.Rp(h:iq b T tl s lv w)(a:i<8)(c:j<16)(x:Int):iq b T tl (s.r i j x) lv (w.setCell ⟨b,i*18+2+j,Ä⟩<|Â Æ x):=h.pO Z<|ajP s lv a c x
def iq.ajR(h:iq b T tl s lv w)(v:È):iq b T tl s v (w.setCell ⟨b,144,Ä⟩ v):=h.pO Z<|ajN s lv v
end
def wN(b:Bool):Int:=if b then 1 else 0
def GV(b:Bool)(w:É):Ò À 159 #[Ñ b] w λe a=>e=Ç (Â Æ<|wN b)/\a=w:=by
 go_enter Tryz.func159,Tryz.ntmps159;go_wp2;all_goals go_ret
 all_goals refine⟨Dt ?_,U⟩
 all_goals simp[wN, *]
def Y3(b o:Nat)(s:Int)(c:0<=s)(d:s<18446744073709551616)(w:É):Ò À 208 #[Å<|Ã ⟨b,o,Ä⟩,Â Æ s] w λe a=>e=Ç (Å<|Ã ⟨b,o+2+(s%16).toNat,Ä⟩)/\a=w:=by
 go_enter Tryz.func208,Tryz.ntmps208;go_wp2;all_goals go_ret
 exact⟨U,U⟩
def wu(n:Int):Int:=Æ.wrap n
theorem ajS(a:0<=h)(b:h<18446744073709551616):wu h=h:=by show h%18446744073709551616=h;omega
def Y4(n:Int):wu n=n%18446744073709551616:=rfl
def ajT(n:Int):0<=wu n:=by rw[Y4];omega
def ajU(n:Int):wu n<18446744073709551616:=by rw[Y4];omega
def wO(k p q:Int):Int:=
 if k=2 then wu (p+q)else if k=3 then wu (p-q)else if k=4 then wu (p*q)
 else if k=5 then(if q=0 then 0 else p/q)else if k=6 then wN (decide<|p<q)else wN (decide<|p=q)
def ajV(k p q:Int)(b:0<=p)(c:p<18446744073709551616)(d:0<=q)(f:q<18446744073709551616)(w:É):Ò À 211 #[Â Ë k,Â Æ p,Â Æ q] w λe a=>e=Ç (Â Æ<|wO k p q)/\a=w:=by
 go_enter Tryz.func211,Tryz.ntmps211;go_wp2_with (go_at_call 159;refine(GV _ _).mono ?_;rintro e a ⟨rfl,rfl⟩);all_goals simp only[beq_iff_eq,beq_eq_false_iff_ne,ne_eq]at*
 all_goals first
  |(exfalso;simp_all;done)
  |(go_ret;refine⟨Dt ?_,U⟩;unfold wO;simp[wu, *];done)
  |(go_ret;refine⟨Dt ?_,U⟩;unfold wO;simp[wu, *];rfl)
structure RC where
 x:Nat
 y:Nat
 k:Int
 d:Int
 g:Int
def Du(a:Nat)(c:RC)(b:È):List È:=[Å<|Ã ⟨a,0,Ä⟩,Â Ë c.x,Â Ë c.y,Â Æ c.k,Â Ë c.d,Â Æ c.g,b]
def oO(l:List Int):List È:=l.map pB
theorem ajW{base:Nat}(h:w.ownsRow base e 1 (Ê O (n+1) i) (n+1) (l++[x])):w.ownsRow base e 1 (Ê O n i) n l:=by
 let⟨d,b⟩:=h;simp only[Ó,Ľ,Μ,ŗ]at d;refine⟨Z,?_⟩;rcases b with⟨b,_⟩|⟨g,q,f,b,j,k,r,m,o,p⟩
 .cases b
 .cases b;refine Ù ⟨g,i,f,U,j,k,Z,m,o,?_⟩;have:=congrArg (List.take n) p;grind
def KB{base:Nat}(h:w.ownsRow base e 1 (Ê O (n+1) i) (n+1) (l++[x])):∃g,O=Ã ⟨g,0,Ä⟩/\w.cell? ⟨g,n,Ä⟩=Ã x/\n+1<=i:=by
 let⟨f,d⟩:=h;simp only[Ó,Ľ,Μ,ŗ]at f;rcases d with⟨d,_⟩|⟨g,o,p,d,q,j,k,r,s,m⟩
 .cases d
 .cases d;refine⟨g,U,?_,k⟩;have:=congrArg (λb=>b[n]?) m;simp only[ŗ]at this;rw[List.getElem?_take_of_lt Z,ü Z,show n-l.length=0 by omega]at this;simp only[Η,j];simpa using this
def KC(j d:Nat)(c:RC)(f:È)(base:Nat)(b:List Int)(p:Int)(w:É)(i:fe d (Du j c f) 282 w)(h:w.ownsRow base 36 1 f (b.length+1) (oO b++[pB p]))(k:b.length<=1000): Ò À 204 #[Å<|Ã ⟨d,0,Ä⟩] w λe g=>e=Ç (Â Æ p)/\∃a,g=w.setCell ⟨d,6,Ä⟩ a/\w.ownsRow base 36 1 a b.length (oO b)/\a.ownBlock=f.ownBlock:=by obtain⟨a,l,rfl⟩:=jy h;obtain⟨g,rfl,m,o⟩:=KB h;have e:=ajW h;have q:=i.r 6 _ U;have r:=i.C 6;have H:=e8 e;generalize b.length=n at*;go_enter Tryz.func204,Tryz.ntmps204;go_wp2;go_ret;refine⟨U,_,U,?_,U⟩;simpa using H.out
def ajX:(À.info? 36).map (λi=>(i.zero,i.size,i.bytes))=Ã (Ã<|Â Æ 0,1,8):=fl
def Y5(p b:Nat)(c:RC)(d:È)(base:Nat)(k:List È)(n:Nat)(f m:Nat)(q:Nat)(a:List È)(w:É)(g:fe b (Du p c d) 282 w)(l:w.ownsRow base 36 1 d n k)(E:n+m<=1000) (r:0<m) (s:a.length=m) (t:∀j u,a[j]?=Ã u->w.cell? ((⟨f,0,Ä⟩:ă).add j)=Ã u) (v:∀u∈a,u.oneCell'=Ú) (x:base<=w.heap.size): Ò À 203 #[Å<|Ã ⟨b,0,Ä⟩,Ê (Ã ⟨f,0,Ä⟩) m q] w λe o=>e=Ç (æ #[])/\∃h i,pA w base 36 1 d n k m a h i/\o=i.setCell ⟨b,6,Ä⟩ h:=by let⟨F,y,z,B,C⟩:=í ajX;have D:=g.r 6 _ U;have o:=jo l g A;have H:=e8 g;go_enter Tryz.func203,Tryz.ntmps203;go_wp2_with (at_builtin;refine Bl U _ _ 231 U Tryz.underlying231 y z B C U U l ⟨f,0,Ä⟩ a U r (by rw[s,ŗ]) t v (by unfold Ą;omega) Z x ?_;intro h i e;obtain⟨G,I,rfl⟩:=jy e.fi;have J:=e.r.r D o;have K:=(H.out.I e.r o).C 6);go_end0;exact⟨U,_,_,e,U⟩
def j0(l:List (Nat×Int)):List È:=l.flatMap λp=>[Rn p.1,pB p.2]
structure iO where
 r:Nat
 T:õ
 C:List È
structure iO.Ok(E:iO):Prop where
 M:E.T≠36
 r:E.T≠257
 I:E.T≠282
 N:E.T≠300
 ajY:E.T≠252
 ajZ:E.T≠246
def iO.Ok.C{E:iO}(h:E.Ok):lM E.T=Ï:=by unfold lM;rw[beq_eq_false_iff_ne.2 h.r,beq_eq_false_iff_ne.2 h.ajZ];rfl
structure R(E:iO)(rb:Nat)(c:RC)(sv lv:È)(ss:List Int)(s:St)(ls:List (Nat×Int))(w:É):Prop where
 r:fe rb (Du E.r c sv) 282 w
 I:w.ownsRow 0 36 1 sv ss.length (oO ss)
 C:iq E.r E.T E.C s lv w
 M:w.ownsRow 0 257 2 lv ls.length (j0 ls)
structure Tr(E:iO)(rb:Nat)(sv lv:È)(n:Nat)(w:É)(jR jm:È)(n':Nat)(w':É):Prop where
 r:eZ (λk=>k=E.r\/k=rb\/sv.ownBlock=Ã k\/lv.ownBlock=Ã k) w w'
 s:∀j,jR.ownBlock=Ã j->sv.ownBlock=Ã j\/w.heap.size<=j
 l:∀j,jm.ownBlock=Ã j->lv.ownBlock=Ã j\/w.heap.size<=j
 C:∀v0 n0 wK,w.ownsRow 0 257 2 v0 n0 wK->(v0.ownBlock=lv.ownBlock->n0<=n)->w'.ownsRow 0 257 2 v0 n0 wK/\(v0.ownBlock=jm.ownBlock->n0<=n')
section
variable{E:iO}{rb:Nat}{c:RC}{sv lv f o:È}{ss:List Int}{s:St}{ls:List (Nat×Int)}
theorem Tr.fQ(E:iO)(rb:Nat)(sv lv:È)(n:Nat)(w:É):Tr E rb sv lv n w sv lv n w:= ⟨eZ.fQ _ _,λ_ h=>Ø h,λ_ h=>Ø h,λ_ _ _ h k=>⟨h,k⟩⟩
theorem Tr.fc(h:Tr E rb sv lv n w f z b u)(k:Tr E rb f z b u o jQ m W):Tr E rb sv lv n w o jQ m W:=by
 refine⟨h.r.C k.r ?_,λj a=> ?_,λj a=> ?_,λc d g p q=> ?_⟩
 .rintro i r (e|e|e|e)
  .exact Ø e
  .grind
  .exact Ù<|Ù<|Ø<|(h.s i e).resolve_right Z
  .exact Ù<|Ù<|Ù<|(h.l i e).resolve_right Z
 .rcases k.s j a with e|e
  .exact h.s j e
  .exact Ù<|ë h.r.M e
 .rcases k.l j a with e|e
  .exact h.l j e
  .exact Ù<|ë h.r.M e
 .let⟨e,i⟩:=h.C c d g p q;exact k.C c d g e i
def Tr.I(k:eZ X w u)(c:∀i,i<w.heap.size->X i->i=E.r\/i=rb\/sv.ownBlock=Ã i)(d:∀j,f.ownBlock=Ã j->sv.ownBlock=Ã j\/w.heap.size<=j)(g:∀i a,X i->w.heap[i]?≠Ã (Ð a 257 (0,0))):Tr E rb sv lv n w f lv n u:= ⟨k.S λi h q=>(c i h q).elim Ø λe=>Ù (e.elim Ø λe=>Ù<|Ø e),d,λj q=>Ø q,λp r s b l=>⟨gW b k λj m q=>by let⟨a,o⟩:=ly b m;exact g j a q o,l⟩⟩
def Tr.aj0{Y:Nat->Prop}(t:Tr E rb sv lv n w f z b u)(k:eZ Y u W)(m:∀i,Y i->w.heap.size<=i)(o:∀i a,Y i->u.heap[i]?≠Ã (Ð a 257 (0,0))):Tr E rb sv lv n w f z b W:= ⟨t.r.C k λi v q=>absurd (m i q) Z,t.s,t.l,λc d e g h=>⟨gW (t.C c d e g h).1 k λj p q=>by let⟨a,r⟩:=ly (t.C c d e g h).1 p;exact o j a q r,(t.C c d e g h).2⟩⟩
def R.aj1(ok:E.Ok)(h:R E rb c sv lv ss s ls w)(a:fe j l 252 w)(k:eZ (λi=>i=j) w u):R E rb c sv lv ss s ls u:= ⟨h.r.I k<|fe.S h.r a A,gW h.I k λi q r=>jo h.I a A (by rw[q,r]),h.C.I k<|fe.S h.C a ok.ajY,gW h.M k λi q r=>jo h.M a A<|by rw[q,r]⟩
theorem R.N(ok:E.Ok)(h:R E rb c sv lv ss s ls w)(i:Nat){c':RC}{jR:È}{ss':List Int}(e:(Du E.r c sv).set i v=Du E.r c' jR)(b:w.ownsRow 0 36 1 jR ss'.length (oO ss'))(d:∀j,jR.ownBlock=Ã j->sv.ownBlock=Ã j): R E rb c' jR lv ss' s ls (w.setCell ⟨rb,i,Ä⟩ v)/\Tr E rb sv lv ls.length w jR lv ls.length (w.setCell ⟨rb,i,Ä⟩ v):=by have a:=eZ.I (X:=λk=>k=rb) (p:=⟨rb,i,Ä⟩) U v<|Ù h.r.G;refine⟨⟨by have:=h.r.fX i v;rwa[e]at this,gW b a λj q r=>jo b h.r A (by rw[q,r]),h.C.I a<|fe.S h.C h.r ok.I,gW h.M a λj q r=>jo h.M h.r A<|by rw[q,r]⟩,Tr.I a (λi _ q=>Ù<|Ø q) (λj q=>Ø<|d j q) λi f q g=> ?_⟩;have k:=h.r;unfold fe at k;grind
def R.S(ok:E.Ok)(h:R E rb c sv lv ss s ls w)(i:Nat){d:St}(k:iq E.r E.T E.C d lv (w.setCell ⟨E.r,i,Ä⟩ v)): R E rb c sv lv ss d ls (w.setCell ⟨E.r,i,Ä⟩ v)/\Tr E rb sv lv ls.length w sv lv ls.length (w.setCell ⟨E.r,i,Ä⟩ v):=by have b:=eZ.I (X:=λk=>k=E.r) (p:=⟨E.r,i,Ä⟩) U v<|Ù<|fe.G h.C ok.C;refine⟨⟨h.r.I b (fe.S h.C h.r ok.I).symm,gW h.I b λj q r=>jo h.I h.C ok.M.symm (by rw[q,r]),k,gW h.M b λj q r=>jo h.M h.C ok.r.symm<|by rw[q,r]⟩,Tr.I b (λi _ q=>Ø q) (λj q=>Ø q) λi e q a=> ?_⟩;rw[q,h.C]at a;injection a with a;injection a with _ a;exact ok.r a
theorem R.Y(ok:E.Ok)(h:R E rb c sv lv ss s ls w){ns:List Int}{u:É}(o:ns.length=m)(a:pA w 0 36 1 sv ss.length (oO ss) m (oO ns) v u): R E rb c v lv (ss++ns) s ls (u.setCell ⟨rb,6,Ä⟩ v)/\Tr E rb sv lv ls.length w v lv ls.length (u.setCell ⟨rb,6,Ä⟩ v):=by
 subst o;have d:∀{i:Nat} {f:Array È} {T:õ},sv.ownBlock=Ã i->w.heap[i]?=Ã (Ð f T (0,0))->T=36:=λ{i f T} q l=>by let⟨g,e⟩:=ly h.I q;grind
 have b:R E rb c sv lv ss s ls u:=⟨h.r.I a.r λq=>absurd (d q h.r) A,a.I _ _ _ h.I λ_=>Þ _,h.C.I a.r λq=>ok.M<|d q h.C,gW h.M a.r λj q r=>by let⟨g,e⟩:=ly h.M q;exact absurd (d r e) A⟩;have n:u.ownsRow 0 36 1 v (ss++ns).length (oO<|ss++ns):=by have:=a.fi;rwa[show oO ss++oO ns=oO (ss++ns) by simp[oO],show ss.length+ns.length=(ss++ns).length by simp]at this
 have g:=eZ.I (X:=λk=>k=rb) (p:=⟨rb,6,Ä⟩) U v<|Ù b.r.G;refine⟨⟨b.r.fX 6 v,gW n g λj q r=>jo n b.r A (by rw[q,r]),b.C.I g<|fe.S b.C b.r ok.I,gW b.M g λj q r=>jo b.M b.r A<|by rw[q,r]⟩,(Tr.I a.r (λi _ q=>Ù<|Ù q) (λj q=>a.C.elim (λe=>Ø<|by rwa[<-e]) λe=>Ù<|by rw[e]at q;cases q;exact Þ _) λi f q l=>absurd (d q l) A).fc<|Tr.I g (λi _ q=>Ù<|Ø q) (λj q=>Ø q) λi f q l=> ?_⟩;have e:=b.r;unfold fe at e;grind
end
section
variable{E:iO}{rb:Nat}{c:RC}{sv lv:È}{s:St}{ls:List (Nat×Int)}
def R.fG(h:R E rb c sv lv zQ s ls w)(k:eZ e9 w W):R E rb c sv lv zQ s ls W:= ⟨h.r.I k id,gW h.I k λ_ _=>id,h.C.I k id,gW h.M k λ_ _=>id⟩
def Tr.fG(k:eZ e9 w W):Tr E rb sv lv n w sv lv n W:=Tr.I k (λ_ _=>ę) (λ_ q=>Ø q) λ_ _=>ę
end
def iT:List (Int×Int×Int):=[(0,0,0),(1,0,1),(1,2,1),(1,2,1),(2,2,1),(2,2,1),(1,2,1),(1,2,1),(1,1,2),(1,2,2),(1,1,0),(1,0,1),(1,0,1),(1,0,1),(1,0,1),(3,1,1),(6,2,0),(2,2,0),(8,2,1),(4,1,0),(8,3,2),(1,1,0),(1,0,0)]
structure iF(w:É):Prop where
 M:∃cs fz,w.heap[2]?=Ã (Ð cs 300 fz)
 I:∀(k:Nat) (r:Int×Int×Int),iT[k]?=Ã r->w.cell? ⟨2,k*3,Ä⟩=Ã (Â Æ r.1)/\w.cell? ⟨2,k*3+1,Ä⟩=Ã (Â Ë r.2.1)/\w.cell? ⟨2,k*3+2,Ä⟩=Ã (Â Ë r.2.2)
theorem iF.r(h:iF w)(k:eZ X w u)(a:¬X 2):iF u:=by
 let⟨b,c,d⟩:=h.M;have e:2<w.heap.size:=by grind
 refine⟨⟨b,c,by rwa[k.N 2 e a]⟩,λi r f=> ?_⟩;let⟨g,j,l⟩:=h.I i r f;exact⟨k.r g a,k.r j a,k.r l a⟩
theorem iF.C(h:iF w)(a:w.heap[j]?=Ã (Ð d T xJ))(b:T≠300):j≠2:=by rintro rfl;let⟨c,e,f⟩:=h.M;grind
def iF.N{E:iO}(ok:E.Ok){rb:Nat}{c:RC}{sv lv:È}{s:St}{a:List (Nat×Int)}(h:iF w)(r:R E rb c sv lv zQ s a w)(t:Tr E rb sv lv n w v x i u):iF u:=by
 refine h.r t.r ?_;rintro(e|e|e|e)
 .exact h.C r.C ok.N e.symm
 .exact h.C r.r A e.symm
 .let⟨b,q⟩:=ly r.I e;exact h.C q A U
 .let⟨b,q⟩:=ly r.M e;exact h.C q A U
theorem KD:∀(k:Nat) (r:Int×Int×Int),iT[k]?=Ã r->0<=r.1/\r.1<=8/\0<=r.2.1/\r.2.1<=3/\0<=r.2.2/\r.2.2<=2:=by
 have h:∀r∈iT,0<=r.1/\r.1<=8/\0<=r.2.1/\r.2.1<=3/\0<=r.2.2/\r.2.2<=2:=A
 grind
def lN(g:Int)(n:Nat)(b a c:Int):Bool:= !(decide (g<b)||(decide ((n:Int)-a<0)||decide (32<(n:Int)-a+c)))
def Rq(E:iO)(f:Nat)(c:RC)(a d:È)(i:List Int)(s:St)(e:List (Nat×Int))(w:É)(j:Int)(b:Bool)(h:É):Prop:=
 R E f (if b then{c with g:=c.g-j}else c) a d i s e h/\Tr E f a d e.length w a d e.length h
section
variable{E:iO}{rb:Nat}{c:RC}{sv lv:È}{s:St}{ls:List (Nat×Int)}
def Rr(a:R E rb c sv lv zQ s ls w)(k:eZ e9 w u):Rq E rb c sv lv zQ s ls w h Ï u:=⟨a.fG k,Tr.fG k⟩
def aj2(ok:E.Ok)(a:R E rb c sv lv zQ s ls w){g:Int}(d:c.g=g)(e:u=W.setCell ⟨rb,5,Ä⟩ (Â Æ<|g-h))(k:eZ e9 w W):Rq E rb c sv lv zQ s ls w h Ú u:=by subst d e;have b:=a.fG k;let⟨f,i⟩:=b.N ok 5 (c':={c with g:=c.g-h}) U b.I λ_ q=>q;exact⟨f,(Tr.fG k).fc i⟩
end
def Bp(E:iO)(ok:E.Ok)(m:Nat)(c:RC)(q r:È)(d:List Int)(s:St)(t:List (Nat×Int))(w:É)(h:R E m c q r d s t w)(u:iF w)(k:Nat)(f b i:Int)(o:iT[k]?=Ã (f,b,i))(y:d.length<=1000)(P:0<=c.g)(Q:c.g<18446744073709551616): Ò À 202 #[Å<|Ã ⟨m,0,Ä⟩,Â Ë k] w λe a=>e=Ç (Ñ<|lN c.g d.length f b i)/\Rq E m c q r d s t w f (lN c.g d.length f b i) a:=by
 let⟨z,B,C⟩:=u.I k _ o;obtain⟨a,S,rfl⟩:=jy h.I;have D:=h.r.r 6 _ U;have T:=h.r.r 5 _ U;have V:=h.r.C 5;have W:=h.r.M;have X:k<23:=(Ü.1 o).1;let⟨F,G,I,J,K,L⟩:=KD k _ o;simp only at F G I J K L z B C;obtain⟨n,j⟩:∃n,d.length=n:=⟨_,U⟩;rw[j]at D y;have e:lN c.g d.length f b i= !(decide (c.g<f)||(decide ((n:Int)-b<0)||decide (32<(n:Int)-b+i))):=by rw[j];rfl
 have H:=e8<|Á h<|Á j e;clear u h j e;generalize M:c.g=g at*;go_enter Tryz.func202,Tryz.ntmps202;go_wp2;go_quiet (fail);go_wp2;by_cases v:g<f
 .go_quiet (fail)
  go_wp2;let⟨h,j,e⟩:=H.out;have l:lN g d.length f b i=Ï:=by rw[e];simp[v]
  go_ret;rw[l];refine⟨U,Rr h ?_⟩;exact kp
 .have N:=decide_eq_false v;by_cases x:(n:Int)-b<0
  .go_quiet (fail)
   go_wp2;let⟨h,j,e⟩:=H.out;have l:lN g d.length f b i=Ï:=by rw[e];simp[x]
   go_ret;rw[l];refine⟨U,Rr h ?_⟩;exact kp
  .have O:=decide_eq_false x;go_quiet (fail);go_wp2
   .have p:32<(n:Int)-b+i:=by assumption
    let⟨h,j,e⟩:=H.out;have l:lN g d.length f b i=Ï:=by rw[e];simp[p]
    go_ret;rw[l];refine⟨U,Rr h ?_⟩;exact kp
   .go_region
    go_wp2;have p:(n:Int)-b+i<=32:=by assumption
    let⟨h,j,e⟩:=H.out;have l:lN g d.length f b i=Ú:=by rw[e];simp[N,O,p]
    go_ret;rw[l];refine⟨U,aj2 ok h M U ?_⟩;exact kp
def qh(s:St)(y:Nat)(q p:Int):Int×St:=
 if(s y).fp<p then(0,s)else(1,(s.fp y<|(s y).fp-p).fp (q%8).toNat<|wu<|(s.fp y ((s y).fp-p) (q%8).toNat).fp+p)
def yE(E:iO)(e:Nat)(c:RC)(a b:È)(g:List Int)(s:St)(d:List (Nat×Int))(w:É)(h:St)(f:É):Prop:=
 R E e c a b g h d f/\Tr E e a b d.length w a b d.length f
section
variable{E:iO}{rb:Nat}{c:RC}{sv lv:È}{s d f:St}{a:List (Nat×Int)}
def yE.fG(h:R E rb c sv lv zQ s a w)(k:eZ e9 w u):yE E rb c sv lv zQ s a w s u:=⟨h.fG k,Tr.fG k⟩
def yE.fp(ok:E.Ok)(h:yE E rb c sv lv zQ s a w d W)(e:i<8)(x:Int):yE E rb c sv lv zQ s a w (d.fp i x) (W.setCell ⟨E.r,i*18,Ä⟩<|Â Æ x):=by let⟨b,f⟩:=h;let⟨g,j⟩:=b.S ok (i*18)<|b.C.yD e x;exact⟨g,f.fc j⟩
end
def aj3(E:iO)(ok:E.Ok)(d:Nat)(c:RC)(f g:È)(i:List Int)(s:St)(j:List (Nat×Int))(w:É)(h:R E d c f g i s j w)(q p:Int)(n:0<=q)(o:q<18446744073709551616)(r:0<=p)(t:p<18446744073709551616)(a:c.y<8)(u:0<=(s c.y).fp)(v:(s c.y).fp<18446744073709551616): Ò À 209 #[Å<|Ã ⟨d,0,Ä⟩,Â Æ q,Â Æ p] w λe k=>e=Ç (Â Æ (qh s c.y q p).1)/\yE E d c f g i s j w (qh s c.y q p).2 k:=by
 have x:=h.r.r 0 _ U;have z:=h.r.r 2 _ U;have B:=h.r.M;have C:=fe.M h.C;have D:=h.C.fp a;have F:=fe.C h.C<|c.y*18;have k:(q%8).toNat<8:=Z
 have H:=e8 h;by_cases l:(s c.y).fp<p
 .have e:qh s c.y q p=(0,s):=by unfold qh;rw[if_pos l]
  rw[e];generalize(s c.y).fp=b at*;generalize c.y=y at*;go_enter ag,η;go_wp2;go_quiet (fail);go_wp2;go_ret;refine⟨U,yE.fG H.out ?_⟩;exact kp
 .have e:qh s c.y q p=(1,(s.fp c.y<|(s c.y).fp-p).fp (q%8).toNat<|wu<|(s.fp c.y ((s c.y).fp-p) (q%8).toNat).fp+p):=by unfold qh;rw[if_neg l]
  rw[e];have G:=λm=>((h.fG<|eZ.iJ _ w m).C.yD a<|(s c.y).fp-p).fp k;have I:∀m,((w.drewN m).setCell ⟨E.r,c.y*18,Ä⟩<|Â Æ<|(s c.y).fp-p).frozen? ⟨E.r,(q%8).toNat*18,Ä⟩=Ï:=λm=>fe.C ((h.fG<|eZ.iJ _ w m).C.yD a<|(s c.y).fp-p) _;generalize(s.fp c.y ((s c.y).fp-p) (q%8).toNat).fp=b2 at*;generalize(s c.y).fp=b at*;go_enter ag,η;go_wp2;go_quiet (fail);go_wp2;go_ret;refine⟨U,((yE.fG H.out ?_).fp ok a _).fp ok k _⟩;exact kp
def kC(E:iO)(rb:Nat)(sv lv:È)(n:Nat)(w:É)(c:RC)(f:List Int)(s:St)(a:List (Nat×Int))(b:É):Prop:=
 ∃d e,R E rb c d e f s a b/\Tr E rb sv lv n w d e a.length b
section
variable{E:iO}{rb:Nat}{c a:RC}{sv lv:È}{w':É}{b:List Int}{s d:St}{ls f:List (Nat×Int)}{p:Int}
def R.jH(h:R E rb c sv lv zQ s ls w):kC E rb sv lv ls.length w c zQ s ls w:=⟨sv,lv,h,Tr.fQ _ _ _ _ _ _⟩
def mR(ok:E.Ok)(h:R E rb c sv lv (zQ++[p]) s ls w)(g:zQ.length<=900):Ò À 204 #[Å<|Ã ⟨rb,0,Ä⟩] w λe w'=>e=Ç (Â Æ p)/\ ∃a,R E rb c a lv zQ s ls w'/\Tr E rb sv lv ls.length w a lv ls.length w':=by have b:=h.I;rw[show oO (zQ++[p])=oO zQ++[pB p] by simp[oO],show(zQ++[p]).length=zQ.length+1 by simp]at b;refine(KC E.r rb c sv 0 zQ p w h.r b Z).mono ?_;rintro e w' ⟨rfl,a,rfl,d,f⟩;exact⟨U,a,h.N ok 6 U d λj q=>by rwa[<-f]⟩
def yF(ok:E.Ok)(h:R E rb c sv lv zQ s ls w)(i:zQ.length<=900)(x:Int):Ò À 203 #[Å<|Ã ⟨rb,0,Ä⟩,Ê (Ã ⟨w.heap.size,0,Ä⟩) 1 1] (w.alloc<|Ð #[Â Æ x] 36) λe w'=>e=Ç (æ #[])/\ ∃b,R E rb c b lv (zQ++[x]) s ls w'/\Tr E rb sv lv ls.length w b lv ls.length w':=by have k:=eZ.gC e9 w #[Â Æ x] 36;have d:=h.fG k;refine(Y5 E.r rb c sv 0 (oO zQ) zQ.length w.heap.size 1 1 [Â Æ x] _ d.r d.I Z Z U (ÿ _ _ _) (λa f=>by simp at f;subst f;rfl)<|â _).mono ?_;rintro e w' ⟨rfl,b,u,a,rfl⟩;let⟨f,g⟩:=d.Y ok (ns:=[x]) U a;exact⟨U,b,f,(Tr.fG k).fc g⟩
def Rs(ok:E.Ok)(h:R E rb c sv lv zQ s ls w)(i:zQ.length<=900)(x y:Int):Ò À 203 #[Å<|Ã ⟨rb,0,Ä⟩,Ê (Ã ⟨w.heap.size,0,Ä⟩) 2 2] (w.alloc<|Ð #[Â Æ x,Â Æ y] 36) λe w'=>e=Ç (æ #[])/\ ∃b,R E rb c b lv (zQ++[x,y]) s ls w'/\Tr E rb sv lv ls.length w b lv ls.length w':=by have k:=eZ.gC e9 w #[Â Æ x,Â Æ y] 36;have d:=h.fG k;refine(Y5 E.r rb c sv 0 (oO zQ) zQ.length w.heap.size 2 2 [Â Æ x,Â Æ y] _ d.r d.I Z Z U (ŵ _ _ _ _) (λa f=>by simp at f;rcases f with rfl|rfl<;>rfl)<|â _).mono ?_;rintro e w' ⟨rfl,b,u,a,rfl⟩;let⟨f,g⟩:=d.Y ok (ns:=[x,y]) U a;exact⟨U,b,f,(Tr.fG k).fc g⟩
end
structure ia(E:iO)(lv:È)(n:Nat)(w:É)(s:St)(ls:List (Nat×Int))(w':É)(jm:È):Prop where
 r:iq E.r E.T E.C s jm w'
 I:w'.ownsRow 0 257 2 jm ls.length (j0 ls)
 C:eZ (λk=>k=E.r\/lv.ownBlock=Ã k) w w'
 l:∀j,jm.ownBlock=Ã j->lv.ownBlock=Ã j\/w.heap.size<=j
 M:∀v0 n0 wK,w.ownsRow 0 257 2 v0 n0 wK->(v0.ownBlock=lv.ownBlock->n0<=n)->w'.ownsRow 0 257 2 v0 n0 wK/\(v0.ownBlock=jm.ownBlock->n0<=ls.length)
structure Bq where
 r:Int
 C:Bool
 M:Int
 s:St
 I:List (Nat×Int)
abbrev lO:=St->List (Nat×Int)->Nat->Nat->Int->Int->Bq
def fW(n:Int):Prop:=0<=n/\n<18446744073709551616
def lz(c:Int):Nat:=
 if 48<=c/\c<=57 then 1 else if c=43 then 2 else if c=45 then 3 else if c=42 then 4 else if c=47 then 5 else if c=60 then 6 else if c=61 then 7
 else if c=100 then 8 else if c=120 then 9 else if c=112 then 10 else if c=107 then 11 else if c=99 then 12 else if c=121 then 13 else if c=98 then 14
 else if c=108 then 15 else if c=116 then 16 else if c=106 then 17 else if c=118 then 18 else if c=101 then 19 else if c=111 then 20 else if c=114 then 21 else if c=102 then 22 else 0
def wP(c:UInt8):Bool:=decide<|lz (c.toNat:Int)≠0
structure gD(s:St):Prop where
 fp:∀i,fW (s i).fp
 C:∀i j,fW<|(s i).C j
 I:∀i,(s i).r.size<=40/\∀c∈(s i).r.data.toList,wP c=Ú
def fU(l:List Int):Int:=l.getLastD 0
theorem Y6(l:List Int)(h:0<l.length):l=l.dropLast++[fU l]:=by
 have a:l≠[]:=by intro e;subst e;simp at h
 unfold fU;grind [List.dropLast_concat_getLast]
section
variable{E:iO}{c:RC}{s:St}{a:List (Nat×Int)}{q r:Int}
def aj4(ok:E.Ok)(b:R E i c x v (zQ++[h]) s a w)(k:zQ.length<=800)(l:c.y<8): Ò À 205 #[Å<|Ã ⟨i,0,Ä⟩,Â Ë 8] w λe H=>e=Ç (æ #[])/\kC E i x v a.length w c (zQ++[h,h]) s a H:=by have m:=b.r.r 0 _ U;have n:=b.r.r 2 _ U;have o:=b.r.M;have p:=fe.M b.C;have H:=e8 b;go_enter ê,å;go_wp2_with fail;go_quiet (fail);go_wp2_with fail;go_at_call 204;refine(mR ok (H.out.fG<|eZ.iJ _ _ _) (by first|omega|(simp;omega))).mono ?_;rintro e q ⟨rfl,r,d,f⟩;go_wp2_with fail;go_at_call 203;refine(Rs ok d (by first|omega|(simp;omega)) _ _).mono ?_;rintro e t ⟨rfl,u,g,j⟩;go_wp2_with fail;go_end0;exact⟨U,_,_,g,(((Tr.fG<|eZ.iJ _ _ _).fc f).fc j)⟩
def aj5(ok:E.Ok)(b:R E i c x v ((zQ++[h])++[q]) s a w)(m:zQ.length<=800)(n:c.y<8): Ò À 205 #[Å<|Ã ⟨i,0,Ä⟩,Â Ë 9] w λe H=>e=Ç (æ #[])/\kC E i x v a.length w c (zQ++[q,h]) s a H:=by have o:=b.r.r 0 _ U;have p:=b.r.r 2 _ U;have r:=b.r.M;have t:=fe.M b.C;have H:=e8 b;go_enter ê,å;go_wp2_with fail;go_quiet (fail);go_wp2_with fail;go_at_call 204;refine(mR ok (H.out.fG<|eZ.iJ _ _ _) (by first|omega|(simp;omega))).mono ?_;rintro e u ⟨rfl,z,d,f⟩;go_wp2_with fail;go_at_call 204;refine(mR ok d (by first|omega|(simp;omega))).mono ?_;rintro e B ⟨rfl,C,g,j⟩;go_wp2_with fail;go_at_call 203;refine(Rs ok g (by first|omega|(simp;omega)) _ _).mono ?_;rintro e D ⟨rfl,F,k,l⟩;go_wp2_with fail;go_end0;exact⟨U,_,_,k,((((Tr.fG<|eZ.iJ _ _ _).fc f).fc j).fc l)⟩
def aj6(ok:E.Ok)(b:R E i c x v (zQ++[h]) s a w)(g:zQ.length<=800)(j:c.y<8): Ò À 205 #[Å<|Ã ⟨i,0,Ä⟩,Â Ë 10] w λe H=>e=Ç (æ #[])/\kC E i x v a.length w c zQ s a H:=by have k:=b.r.r 0 _ U;have l:=b.r.r 2 _ U;have m:=b.r.M;have n:=fe.M b.C;have H:=e8 b;go_enter ê,å;go_wp2_with fail;go_quiet (fail);go_wp2_with fail;go_at_call 204;refine(mR ok (H.out.fG<|eZ.iJ _ _ _) (by first|omega|(simp;omega))).mono ?_;rintro e o ⟨rfl,p,d,f⟩;go_wp2_with fail;go_end0;exact⟨U,_,_,d,((Tr.fG<|eZ.iJ _ _ _).fc f)⟩
def aj7(ok:E.Ok)(h:R E i c x v zQ s a w)(f:zQ.length<=800)(g:c.y<8): Ò À 205 #[Å<|Ã ⟨i,0,Ä⟩,Â Ë 11] w λe H=>e=Ç (æ #[])/\kC E i x v a.length w c (zQ++[c.k]) s a H:=by have j:=h.r.r 0 _ U;have l:=h.r.r 2 _ U;have m:=h.r.M;have n:=fe.M h.C;have o:=h.r.r 3 _ U;have H:=e8 h;go_enter ê,å;go_wp2_with fail;go_quiet (fail);go_wp2_with fail;go_at_call 203;refine(yF ok (H.out.fG<|eZ.iJ _ _ _) (by first|omega|(simp;omega)) _).mono ?_;rintro e p ⟨rfl,q,b,d⟩;go_wp2_with fail;go_end0;exact⟨U,_,_,b,((Tr.fG<|eZ.iJ _ _ _).fc d)⟩
def aj8(ok:E.Ok)(h:R E i c x v zQ s a w)(f:zQ.length<=800)(g:c.y<8)(j:c.x<8): Ò À 205 #[Å<|Ã ⟨i,0,Ä⟩,Â Ë 12] w λe H=>e=Ç (æ #[])/\kC E i x v a.length w c (zQ++[(c.x:Int)]) s a H:=by have k:=h.r.r 0 _ U;have l:=h.r.r 2 _ U;have m:=h.r.M;have n:=fe.M h.C;have o:=h.r.r 1 _ U;have H:=e8 h;go_enter ê,å;go_wp2_with fail;go_quiet (fail);go_wp2_with fail;go_at_call 203;refine(yF ok (H.out.fG<|eZ.iJ _ _ _) (by first|omega|(simp;omega)) _).mono ?_;rintro e p ⟨rfl,q,b,d⟩;go_wp2_with fail;go_end0;exact⟨U,_,_,b,((Tr.fG<|eZ.iJ _ _ _).fc d)⟩
def aj9(ok:E.Ok)(h:R E i c x v zQ s a w)(f:zQ.length<=800)(g:c.y<8): Ò À 205 #[Å<|Ã ⟨i,0,Ä⟩,Â Ë 13] w λe H=>e=Ç (æ #[])/\kC E i x v a.length w c (zQ++[(c.y:Int)]) s a H:=by have j:=h.r.r 0 _ U;have k:=h.r.r 2 _ U;have l:=h.r.M;have m:=fe.M h.C;have H:=e8 h;go_enter ê,å;go_wp2_with fail;go_quiet (fail);go_wp2_with fail;go_at_call 203;refine(yF ok (H.out.fG<|eZ.iJ _ _ _) (by first|omega|(simp;omega)) _).mono ?_;rintro e n ⟨rfl,o,b,d⟩;go_wp2_with fail;go_end0;exact⟨U,_,_,b,((Tr.fG<|eZ.iJ _ _ _).fc d)⟩
def akb(ok:E.Ok)(h:R E i c x v zQ s a w)(g:zQ.length<=800)(b:c.y<8): Ò À 205 #[Å<|Ã ⟨i,0,Ä⟩,Â Ë 14] w λe H=>e=Ç (æ #[])/\kC E i x v a.length w c (zQ++[(s c.y).fp]) s a H:=by have j:=h.r.r 0 _ U;have k:=h.r.r 2 _ U;have l:=h.r.M;have m:=fe.M h.C;have n:=h.C.fp b;have H:=e8 h;go_enter ê,å;go_wp2_with fail;go_quiet (fail);go_wp2_with fail;go_at_call 203;refine(yF ok (H.out.fG<|eZ.iJ _ _ _) (by first|omega|(simp;omega)) _).mono ?_;rintro e o ⟨rfl,p,d,f⟩;go_wp2_with fail;go_end0;exact⟨U,_,_,d,((Tr.fG<|eZ.iJ _ _ _).fc f)⟩
def akc(ok:E.Ok)(b:R E i c x v (zQ++[h]) s a w)(o:zQ.length<=800)(g:c.y<8)(d:fW h): Ò À 205 #[Å<|Ã ⟨i,0,Ä⟩,Â Ë 15] w λe f=>e=Ç (æ #[])/\kC E i x v a.length w c (zQ++[(s c.y).C (h%16).toNat]) s a f:=by have p:=b.r.r 0 _ U;have q:=b.r.r 2 _ U;have r:=b.r.M;have t:=fe.M b.C;have H:=e8 b;go_enter ê,å;go_wp2_with fail;go_quiet (fail);go_wp2_with fail;go_at_call 204;refine(mR ok (H.out.fG<|eZ.iJ _ _ _) (by first|omega|(simp;omega))).mono ?_;rintro e u ⟨rfl,z,f,k⟩;have B:=f.C.Y2 g (j:=(h%16).toNat) Z;have C:=d.1;have D:=d.2;go_wp2_with fail;go_at_call 208;refine(Y3 E.r (c.y*18) h d.1 d.2 _).mono ?_;rintro e l ⟨rfl,F⟩;subst l;go_wp2_with fail;go_at_call 203;refine(yF ok f (by first|omega|(simp;omega)) _).mono ?_;rintro e G ⟨rfl,I,m,n⟩;go_wp2_with fail;go_end0;exact⟨U,_,_,m,(((Tr.fG<|eZ.iJ _ _ _).fc k).fc n)⟩
def akd(ok:E.Ok)(b:R E i c x v ((zQ++[h])++[q]) s a w)(r:zQ.length<=800)(g:c.y<8)(d:fW q): Ò À 205 #[Å<|Ã ⟨i,0,Ä⟩,Â Ë 16] w λe f=>e=Ç (æ #[])/\kC E i x v a.length w c zQ (s.r c.y (q%16).toNat h) a f:=by have t:=b.r.r 0 _ U;have u:=b.r.r 2 _ U;have z:=b.r.M;have B:=fe.M b.C;have H:=e8 b;go_enter ê,å;go_wp2_with fail;go_quiet (fail);go_wp2_with fail;go_at_call 204;refine(mR ok (H.out.fG<|eZ.iJ _ _ _) (by first|omega|(simp;omega))).mono ?_;rintro e C ⟨rfl,D,k,l⟩;go_wp2_with fail;go_at_call 204;refine(mR ok k (by first|omega|(simp;omega))).mono ?_;rintro e F ⟨rfl,G,f,m⟩;have I:=f.C.Y2 g (j:=(q%16).toNat) (by have:=d.1;omega);have J:=fe.C f.C<|c.y*18+2+(q%16).toNat;go_wp2_with fail;go_at_call 208;refine(Y3 E.r (c.y*18) q d.1 d.2 _).mono ?_;rintro e n ⟨rfl,K⟩;subst n;go_wp2_with fail;go_end0;let⟨o,p⟩:=f.S ok (c.y*18+2+(q%16).toNat) (f.C.Rp g (by have:=d.1;omega) h);exact⟨U,_,_,o,(((Tr.fG<|eZ.iJ _ _ _).fc l).fc m).fc p⟩
def ake(ok:E.Ok)(b:R E i c x v ((zQ++[h])++[q]) s a w)(u:zQ.length<=800)(j:c.y<8)(d:fW h)(f:fW q)(g:gD s): Ò À 205 #[Å<|Ã ⟨i,0,Ä⟩,Â Ë 18] w λe H=>e=Ç (æ #[])/\kC E i x v a.length w c (zQ++[(qh s c.y q h).1]) (qh s c.y q h).2 a H:=by have z:=b.r.r 0 _ U;have B:=b.r.r 2 _ U;have C:=b.r.M;have D:=fe.M b.C;have H:=e8 b;go_enter ê,å;go_wp2_with fail;go_quiet (fail);go_wp2_with fail;go_at_call 204;refine(mR ok (H.out.fG<|eZ.iJ _ _ _) (by first|omega|(simp;omega))).mono ?_;rintro e F ⟨rfl,G,k,l⟩;go_wp2_with fail;go_at_call 204;refine(mR ok k (by first|omega|(simp;omega))).mono ?_;rintro e I ⟨rfl,J,m,n⟩;go_wp2_with fail;go_at_call 209;refine(aj3 E ok i c _ v _ s a _ m q h f.1 f.2 d.1 d.2 j (g.fp _).1 (g.fp _).2).mono ?_;rintro e K ⟨rfl,o,p⟩;go_wp2_with fail;go_at_call 203;refine(yF ok o (by first|omega|(simp;omega)) _).mono ?_;rintro e L ⟨rfl,M,r,t⟩;go_wp2_with fail;go_end0;exact⟨U,_,_,r,(((((Tr.fG<|eZ.iJ _ _ _).fc l).fc n).fc p).fc t)⟩
def akf{k:Int}(ok:E.Ok)(b:R E i c x v ((zQ++[h])++[q]) s a w)(r:zQ.length<=800)(t:c.y<8)(d:fW h)(f:fW q)(u:2<=k)(z:k<=7): Ò À 205 #[Å<|Ã ⟨i,0,Ä⟩,Â Ë k] w λe H=>e=Ç (æ #[])/\kC E i x v a.length w c (zQ++[wO k h q]) s a H:=by
 have B:=b.r.r 0 _ U;have C:=b.r.r 2 _ U;have D:=b.r.M;have F:=fe.M b.C;have G:(k==8)=Ï:=by rw[beq_eq_false_iff_ne];omega
 have I:(k==9)=Ï:=by rw[beq_eq_false_iff_ne];omega
 have J:(k==10)=Ï:=by rw[beq_eq_false_iff_ne];omega
 have K:(k==11)=Ï:=by rw[beq_eq_false_iff_ne];omega
 have L:(k==12)=Ï:=by rw[beq_eq_false_iff_ne];omega
 have M:(k==13)=Ï:=by rw[beq_eq_false_iff_ne];omega
 have N:(k==14)=Ï:=by rw[beq_eq_false_iff_ne];omega
 have O:(k==15)=Ï:=by rw[beq_eq_false_iff_ne];omega
 have P:(k==16)=Ï:=by rw[beq_eq_false_iff_ne];omega
 have Q:(k==18)=Ï:=by rw[beq_eq_false_iff_ne];omega
 have S:(k==19)=Ï:=by rw[beq_eq_false_iff_ne];omega
 have T:(k==20)=Ï:=by rw[beq_eq_false_iff_ne];omega
 have H:=e8 b;go_enter ê,å;go_wp2_with fail;go_quiet (fail);go_wp2_with fail;go_at_call 204;refine(mR ok (H.out.fG<|eZ.iJ _ _ _) (by first|omega|(simp;omega))).mono ?_;rintro e V ⟨rfl,W,g,j⟩;go_wp2_with fail;go_at_call 204;refine(mR ok g (by first|omega|(simp;omega))).mono ?_;rintro e X ⟨rfl,Y,l,m⟩;go_wp2_with fail;go_at_call 211;refine(ajV k h q d.1 d.2 f.1 f.2 _).mono ?_;rintro e n ⟨rfl,tE⟩;subst n;go_wp2_with fail;go_at_call 203;refine(yF ok l (by first|omega|(simp;omega)) _).mono ?_;rintro e w4 ⟨rfl,sv4,o,p⟩;go_wp2_with fail;go_end0;exact⟨U,_,_,o,((((Tr.fG<|eZ.iJ _ _ _).fc j).fc m).fc p)⟩
end
def KE{P:Program}{ops:Array Oper}{o:Oper}{a:Act}{w:World}{K:Act->World->Prop}{Q:Exit->Act->World->Prop}{E:Prop}{base:Nat}{e:TypeId}{size n:Nat}{v:Value}{xs:List Value} (hg:o.guard=none) (s x:Operand) (t:TypeId) (EZ:o.op=Op.call {callee:=Callee.builtin Builtin.append,args:=#[s,x],argTypes:=#[t,t]}) {i:TypeInfo} {z:Value} {bytes:Nat} (ht:P.underlying t=some (.slice e)) (hi:P.info? e=some i) (hz:i.zero=some z) (wL:i.size=size) (wM:i.bytes=bytes) (qP:z.cells.size=size) (hs:a.eval s=v) (kY:w.ownsRow base e size v n xs) (ad:Addr) {m c:Nat} (news:List Value) (hx:a.eval x=.slice (some ad) m c) (hm:0<m) (hl:news.length=m*size) (Rm:∀j u,news[j]?=some u->w.cell? (ad.add j)=some u) (h1:∀u∈news,u.oneCell'=true) (Bm:n+m<=maxLen) (Bn:(n+m)*bytes<=140737488355328) (Bj:base<=w.heap.size) (h:∀v' w',pA w base e size v n xs m news v' w'->K (a.put o.dst v') w') (hfl:lM e=false\/(0<news.length/\(∀u∈xs++news,jZ u=true)/\∀u∈z.cells.toList,jZ u=true):=by first|exact Or.inl (by decide)|exact Or.inr ⟨by simp,by simp[jZ],by simp[jZ,Value.cells]⟩): if Region.wanted o (yielded ops a.tmps)=true then Oper.wp P o a w K Q else E:=by
 have hw:Ĝ o (ah ops a.tmps)=Ú:=by simp[Ĝ,hg]
 rw[if_pos hw];let⟨v',w',hr,h2⟩:=Rj (ty:=o.type) ht hi hz wL wM qP kY ad c news hm hl Rm h1 Bm Bn Bj hfl;unfold Ń;simp[Ĥ,EZ,ae,aO,af,hs,hx,hr,į];exact h v' w' h2
def akg:(À.info? 257).map (λi=>(i.zero,i.size,i.bytes))=Ã (Ã<|Ē #[Â Ë 0,Â Æ 0],2,16):=fl
def Y7(b:List (Nat×Int)):∀u∈j0 b,jZ u=Ú:=λu a=>by unfold j0 at a;let⟨e,_,h⟩:=Β.1 a;simp[Rn,pB]at h;rcases h with rfl|rfl<;>rfl
section
variable{E:iO}{c:RC}{g d:È}{s:St}{ls:List (Nat×Int)}{p:Int}
theorem R.akh(ok:E.Ok)(h:R E k c g jQ zQ s ls w)(a:pA w 0 257 2 jQ ls.length (j0 ls) 1 [Â Ë b,Â Æ p] d W): (R E k c g jQ zQ s ls W/\W.ownsRow 0 257 2 d (ls++[(b,p)]).length (j0<|ls++[(b,p)]))/\ R E k c g d zQ s (ls++[(b,p)]) (W.setCell ⟨E.r,144,Ä⟩ d)/\Tr E k g jQ ls.length w g d (ls++[(b,p)]).length (W.setCell ⟨E.r,144,Ä⟩ d):=by
 have m:∀{i:Nat} {o:Array È} {T:õ},jQ.ownBlock=Ã i->w.heap[i]?=Ã (Ð o T (0,0))->T=257:=λ{i o T} q hc=>by let⟨l,e⟩:=ly h.M q;grind
 have f:R E k c g jQ zQ s ls W:=⟨h.r.I a.r λq=>absurd (m q h.r) A,gW h.I a.r (λj q r=>by let⟨l,e⟩:=ly h.I q;exact absurd (m r e) A),h.C.I a.r λq=>ok.r<|m q h.C,a.I _ _ _ h.M λ_=>Þ _⟩;have n:W.ownsRow 0 257 2 d (ls++[(b,p)]).length (j0<|ls++[(b,p)]):=by have:=a.fi;rwa[show j0 ls++[Â Ë b,Â Æ p]=j0 (ls++[(b,p)]) by simp[j0,Rn,pB],show ls.length+1=(ls++[(b,p)]).length by simp]at this
 have l:=eZ.I (X:=λe=>e=E.r) (p:=⟨E.r,144,Ä⟩) U d<|Ù<|fe.G f.C ok.C;refine⟨⟨f,n⟩,⟨f.r.I l (fe.S f.C f.r ok.I).symm,gW f.I l λj q r=>jo f.I f.C ok.M.symm (by rw[q,r]),f.C.ajR d,gW n l λj q r=>jo n f.C ok.r.symm<|by rw[q,r]⟩,?_,λj q=>Ø q,λj q=> ?_,λv x y t z=> ?_⟩
 .refine(a.r.S λe _ q=>Ù<|Ù<|Ù q).C l λi _ q=>Ø q
 .rcases a.C with e|e;all_goals grind
 .have u:=a.I v x y t z;refine⟨gW u l λj q r=>jo u f.C ok.r.symm (by rw[q,r]),λq=> ?_⟩;rcases a.C with e|e
  .grind
  .rw[e]at q;have:=(t.lt _ q).2;omega
end
def gl{f:(Nat->Value)->Act}(a:Act)(h:a=f (λn=>a.tmps.getD n undef):=by rfl):∃u,a=f u:=⟨_,h⟩
section
variable{md:Ι}{ops:Array ş}{Q:aS->é->É->Prop}{S:É->Prop}{X:List Nat}
def oe(P:aE)(md:Ι)(ops:Array ş)(Q:aS->é->É->Prop)(S:É->Prop)(X:List Nat):Nat->Array Bool->é->É->Prop
 |0,listed,a,w=>Ā md ops listed=[]/\Q .normal a w
 |fuel+1,listed,a,w=>(Ā md ops listed=[]->Q .normal a w)/\
  ∀i∈Ā md ops listed,wpOp P ops Q i (λc b=>(i∉X->S b)/\oe P md ops Q S X fuel (listed.setIfInBounds i Ú) c b) a w
def Y8:∀(b:Nat) (listed:Array Bool) (a:é) (w:É),oe P md ops Q S X b listed a w->wpAny P md ops Q b listed a w
 |0,_,_,_,h=>h
 |b+1,_,_,_,h=>⟨h.1,λi c=>wpOp_mono (λd e q=>Y8 b _ d e q.2)<|h.2 i c⟩
def rI(md:Ι)(ops:Array ş)(X:List Nat)(i:Nat):Bool:=X.all λx=>match ops[x]? with
 |some o=>o.after.toList.any λe=>ń md e&&e.on==i
 |none=>Ú
theorem aki{listed:Array Bool}(a:rI md ops X i=Ú)(c:ops[j]?=Ã o)(d:listed.getD i Ï=Ï)(f:∀e∈o.after,ń md e=Ú->listed.getD e.on Ï=Ú):j∉X:=by intro b;have g:=List.all_eq_true.1 a j b;grind
theorem akj{m:ş}(x:ops[i]?=Ã m)(y:∀(j:Nat) (o:ş) n b,ops[j]?=Ã o->o.op≠.select n b)(E:rI md ops X i=Ú) (F:∀c a w,Q (.panic c) (a.put m.dst v) w->Q (.panic c) a w): ∀(p:Nat) (d:Array Bool) (a:é) (w:É),(∀j g,ops[j]?=Ã g->j≠i->d.getD j Ú=Ï->(∀e∈g.after,ń md e=Ú->e.on≠i)->m.apart ops g=Ú)-> i∈Ā md ops d->YieldsIf P ops S m v a->S w->oe P md ops Q S X p (d.setIfInBounds i Ú) (a.put m.dst v) w->oe P md ops Q S X (p+1) d a w:=by
 have G:∀{d:Array Bool},i∈Ā md ops d->d.getD i Ï=Ï:=λ{d} l=>by have D:=(mem_ready.1 l).1;grind
 intro p
 induction p with
 |zero=>
  intro d a w _ l s r H;refine⟨λh=>absurd (h▸l) fh,λj t=> ?_⟩;by_cases f:j=i
  .subst f;exact s.wpOp x r ⟨λ_=>r,H⟩
  .exact absurd (H.1▸Ω t f) fh
 |succ p I=>
  intro d a w z l s r H;refine⟨λh=>absurd (h▸l) fh,λj t=> ?_⟩;by_cases f:j=i
  .subst f;exact s.wpOp x r ⟨λ_=>r,H⟩
  .let⟨B,g,u,J⟩:=mem_ready.1 t;have K:∀e∈g.after,ń md e=Ú->e.on≠i:=λe V W Y=>by
    grind
   refine wpOp_mono (λD L q=>⟨q.2.1,I (d.setIfInBounds j Ú) D L (λk M N O C T=>z k M N O ?_ T) (Ω l<|Ne.symm f) q.1 (q.2.1<|aki E u (G l) J) ?_⟩)<|wpOp_putIf u (z j g u f B K) (λn b=>y i m n b x) (λn b=>y j g n b u) F s<|H.2 j<|Ω t f
   .by_cases D:j=k
    .subst D;exact B
    .rwa[getD_set_ne Ú D]at C
   .rw[Array.setIfInBounds_comm _ _ f];exact q.2.2
def GX{oi:ş}{listed:Array Bool}(b:ops[i]?=Ã oi) (d:Region.noSelect ops=Ú) (e:Region.free md ops listed i=Ú) (f:(Ā md ops listed).contains i=Ú) (g:rI md ops X i=Ú) (j:∀c y w,Q (.panic c) (y.put oi.dst v) w->Q (.panic c) y w) (k:S w) (l:YieldsIf P ops S oi v y) (h:oe P md ops Q S X n (listed.setIfInBounds i Ú) (y.put oi.dst v) w):oe P md ops Q S X (n+1) listed y w:= akj b (Region.noSelect_spec d) g j n listed y w (Region.free_spec b e) (by simpa using f) l k h
def akk{listed:Array Bool}(c:Ā md ops listed=[i])(e:ops[i]?=Ã o) (h:∀b:é->É->Prop,Shut (∀y w,(i∉X->S w)->oe P md ops Q S X n (listed.setIfInBounds i Ú) y w->b y w)->if Ĝ o (ah ops y.tmps)=Ú then Ń P o y w b Q else b (y.put o.dst ā) w):oe P md ops Q S X (n+1) listed y w:=by
 refine⟨λq=>absurd (c▸q) fh,λj d=> ?_⟩;rw[c]at d;have:j=i:=by simpa using d
 subst this;exact χ e λb f=>h b λy w g k=>f y w ⟨g,k⟩
def ix:List ş->Nat->Option ş
 |[],_=>Ä
 |o::_,0=>Ã o
 |_::l,n+1=>ix l n
def Y9:∀{l:List ş} {i:Nat} {o:ş},ix l i=Ã o->l.toArray[i]?=Ã o
 |[],_,_,h=>by cases h
 |o::l,0,_,h=>by simpa[ix]using h
 |o::l,n+1,_,h=>by simpa using Y9 (l:=l) h
def Za(h:ix ops.toList i=Ã o):ops[i]?=Ã o:=by simpa using Y9 h
def tk{oi:Oper}{v:Value}{fuel:Nat}{listed:Array Bool}{a0 a a':Act}{w:World}(hS:S w)(i:Nat:=ops.size-1-fuel)(h:oe P md ops Q S X fuel (listed.setIfInBounds i true) a' w) (h0:a0=a:=by(try simp only[Act.put,List.setIfInBounds_toArray,List.set_cons_zero,List.set_cons_succ]);rfl) (hi:ix ops.toList i=some oi:=by rfl) (hs:Region.noSelect ops=true:=by kernel_rfl) (hf:Region.free md ops listed i=true:=by kernel_rfl) (hr:(Region.ready md ops listed).contains i=true:=by kernel_rfl) (hw:rI md ops X i=true:=by kernel_rfl) (hQ:∀v c a w,Q (.panic c) (a.put oi.dst v) w->Q (.panic c) a w:=by exact λ_ _ _ _ h=>h) (hn:Region.wanted oi (yielded ops a.tmps)=true:=by rfl) (hy:∀w,S w->(execOp a.eval oi).run P w=.ok (.value v) w:=by intro w h;revert h;simp only[and_imp];intros;go_simp;try(with_reducible rfl)) (ha:a.put oi.dst v=a':=by(try simp only[Act.put,List.setIfInBounds_toArray,List.set_cons_zero,List.set_cons_succ]);rfl):oe P md ops Q S X (fuel+1) listed a0 w:= h0▸GX (Za hi) hs hf hr hw (hQ v) hS (Ø ⟨hn,hy⟩) (ha▸h)
def gu(i:Nat){o:Oper}{fuel:Nat}{listed:Array Bool}{a0 a:Act}{w:World} (h:∀K':Act->World->Prop,Shut (∀a w,(i∉X->S w)->oe P md ops Q S X fuel (listed.setIfInBounds i true) a w->K' a w)->if Region.wanted o (yielded ops a.tmps)=true then Oper.wp P o a w K' Q else K' (a.put o.dst undef) w) (h0:a0=a:=by(try simp only[Act.put,List.setIfInBounds_toArray,List.set_cons_zero,List.set_cons_succ]);rfl) (hr:Region.ready md ops listed=[i]:=by kernel_rfl) (ho:ix ops.toList i=some o:=by rfl):oe P md ops Q S X (fuel+1) listed a0 w:=h0▸akk hr (Za ho) h
def akl{oi oj:ş}{listed:Array Bool}(g:Ā md ops listed=[i,j])(h:ops[i]?=Ã oi)(l:ops[j]?=Ã oj) (m:∀b:é->É->Prop,Shut (∀y w,(i∉X->S w)->oe P md ops Q S X n (listed.setIfInBounds i Ú) y w->b y w)->if Ĝ oi (ah ops y.tmps)=Ú then Ń P oi y w b Q else b (y.put oi.dst ā) w) (o:∀b:é->É->Prop,Shut (∀y w,(j∉X->S w)->oe P md ops Q S X n (listed.setIfInBounds j Ú) y w->b y w)->if Ĝ oj (ah ops y.tmps)=Ú then Ń P oj y w b Q else b (y.put oj.dst ā) w):oe P md ops Q S X (n+1) listed y w:=by
 refine⟨λq=>absurd (g▸q) fh,λk c=> ?_⟩;rw[g]at c;rcases List.mem_cons.1 c with rfl|c
 .exact χ h λb d=>m b λy w e f=>d y w ⟨e,f⟩
 .have:k=j:=by simpa using c
  subst this;exact χ l λb d=>o b λy w e f=>d y w ⟨e,f⟩
def lA{listed:Array Bool}(b:Ā md ops listed=[])(h:Q .normal y w):∀c,oe P md ops Q S X c listed y w
 |0=>⟨b,h⟩
 |_+1=>⟨λ_=>h,by rw[b];simp⟩
def lP{id:Nat}(S:É->Prop)(X:List Nat)(b:P.follows .mixedOrders=Ú) (h:oe P .any ops Q S X ops.size (ō ops.size Ï) y w.drew):(Code.region id ops Ú).wp P Q y w:= wp_region_any b<|Y8 _ _ _ _ h
end
section
variable{E:iO}{c:RC}{s:St}{a:List (Nat×Int)}
def akm(ok:E.Ok)(b:R E i c x v (zQ++[h]) s a w)(G:zQ.length<=800)(I:c.y<8)(J:a.length<=1000000): Ò À 205 #[Å<|Ã ⟨i,0,Ä⟩,Â Ë 19] w λe u=>e=Ç (æ #[])/\kC E i x v a.length w c zQ s (a++[(c.y,h)]) u:=by
 have L:w.cell? ⟨i,0,Ä⟩=Ã (Å<|Ã ⟨E.r,0,Ä⟩):=b.r.r 0 _ U;have M:w.cell? ⟨i,2,Ä⟩=Ã (Â Ë c.y):=b.r.r 2 _ U;have N:=b.r.M;have O:=fe.M b.C;let⟨P,l,o,p,r⟩:=í akg;have j:=e8<|Á l<|Á o<|Á p r;have H:=e8 b;clear b l o p r;go_enter ê,å;go_wp2_with fail;go_quiet (fail);go_wp2_with fail;have B:=e8<|Á ((H.out.fG<|(eZ.iJ _ _ nq).fc<|eZ.fN _ _).r.r 0 _ rfl)<|Á ((H.out.fG<|(eZ.iJ _ _ nq).fc<|eZ.fN _ _).r.r 2 _ rfl) (H.out.fG<|(eZ.iJ _ _ nq).fc<|eZ.fN _ _).C.Bo;refine lP (λu=>u.cell? ⟨i,0,Ä⟩=Ã (Å<|Ã ⟨E.r,0,Ä⟩)/\u.cell? ⟨i,2,Ä⟩=Ã (Â Ë c.y)/\u.cell? ⟨E.r,144,Ä⟩=Ã v) [22] fl ?_;iterate 16 apply tk B.out
 refine gu 16 ?_;intro K d;go_simp;go_at_call 204;refine(mR ok (H.out.fG<|eZ.iJ _ _ _) Z).mono ?_;rintro e t ⟨rfl,Q,f,C⟩;dsimp only;refine d.out _ _ (λ_=>⟨f.r.r 0 _ U,f.r.r 2 _ U,f.C.Bo⟩) ?_;clear d K;refine gu 17 ?_;intro K d;go_simp;refine d.out _ _ (λ_=>⟨f.r.r 0 _ U,f.r.r 2 _ U,f.C.Bo⟩) ?_;clear d K;have g:=f.fG<|eZ.gC e9 t #[Â Ë c.y,Â Æ h] 257;refine gu 18 ?_;intro K d;go_simp;refine d.out _ _ (λ_=>⟨g.r.r 0 _ U,g.r.r 2 _ U,g.C.Bo⟩) ?_;clear d K;refine gu 19 ?_;intro K d;refine KE (hfl:=Ù ⟨fh,λu k=>(ú.1 k).elim (Y7 a u) (λq=>by simp at q;rcases q with rfl|rfl<;>rfl),by simp[jZ,ğ]⟩) (base:=0) (n:=a.length) (xs:=j0 a) (m:=1) fP _ _ 142 fP Tryz.underlying142 j.out.1 j.out.2.1 j.out.2.2.1 j.out.2.2.2 U fP g.M ⟨t.heap.size,0,Ä⟩ [Â Ë c.y,Â Æ h] fP Z U (ŵ _ _ _ _) (λu k=>by simp at k;rcases k with rfl|rfl<;>rfl) (by unfold Ą;omega) Z (â _) ?_;intro S T k;obtain⟨V,W,rfl⟩:=jy k.fi;let⟨⟨u,_⟩,D,F⟩:=g.akh ok k;refine d.out _ _ (λ_=>⟨u.r.r 0 _ U,u.r.r 2 _ U,u.C.Bo⟩) ?_;clear d K;have z:=u.C.Bo;have X:=fe.C u.C 144;refine gu 20 ?_;intro K d;go_simp;refine d.out _ _ (λ_=>⟨u.r.r 0 _ U,u.r.r 2 _ U,z⟩) ?_;clear d K;refine gu 21 ?_;intro K d;go_simp;refine d.out _ _ (λ_=>⟨u.r.r 0 _ U,u.r.r 2 _ U,z⟩) ?_;clear d K;refine gu 22 ?_;intro K d;go_simp;refine d.out _ _ (λq=>absurd fh q) ?_;clear d K;try simp only[ĵ,Õ,ã,ä]
 refine lA fl ?_ _;go_wp2_with fail;go_end0;exact⟨U,_,_,D,(((Tr.fG<|(eZ.iJ _ _ _).fc<|eZ.fN _ _).fc C).fc<|Tr.fG<|eZ.gC _ _ _ _).fc F⟩
end
structure RT where
 r:List Int
 s:St
 C:List (Nat×Int)
 g:Int
def iP(F:lO)(c:RC)(t:RT)(q p k:Int):Int×Int×RT:=
 if c.d=4 then(0,0,t)else
  ((F t.s t.C c.y (q%8).toNat (min p t.g) k).M,wN (F t.s t.C c.y (q%8).toNat (min p t.g) k).C,
    {t with s:=(F t.s t.C c.y (q%8).toNat (min p t.g) k).s,C:=(F t.s t.C c.y (q%8).toNat (min p t.g) k).I,g:=t.g-(F t.s t.C c.y (q%8).toNat (min p t.g) k).r})
def fS(l:List Int):List Int:=l.dropLast
def nN(F:lO)(c:RC)(a:Nat)(t:RT):RT:=
 if a=8 then{t with r:=fS t.r++[fU t.r,fU t.r]}
 else if a=9 then{t with r:=fS (fS t.r)++[fU t.r,fU<|fS t.r]}
 else if a=10 then{t with r:=fS t.r}
 else if a=11 then{t with r:=t.r++[c.k]}
 else if a=12 then{t with r:=t.r++[(c.x:Int)]}
 else if a=13 then{t with r:=t.r++[(c.y:Int)]}
 else if a=14 then{t with r:=t.r++[(t.s c.y).fp]}
 else if a=15 then{t with r:=fS t.r++[(t.s c.y).C (fU t.r%16).toNat]}
 else if a=16 then{t with r:=fS<|fS t.r,s:=t.s.r c.y (fU t.r%16).toNat (fU<|fS t.r)}
 else if a=18 then{t with r:=fS (fS t.r)++[(qh t.s c.y (fU t.r)<|fU<|fS t.r).1],s:=(qh t.s c.y (fU t.r)<|fU<|fS t.r).2}
 else if a=19 then{t with r:=fS t.r,C:=t.C++[(c.y,fU t.r)]}
 else if a=20 then
  {(iP F c t (fU t.r) (fU<|fS t.r)<|fU<|fS<|fS t.r).2.2 with r:=fS (fS<|fS t.r)++[(iP F c t (fU t.r) (fU<|fS t.r)<|fU<|fS<|fS t.r).1,(iP F c t (fU t.r) (fU<|fS t.r)<|fU<|fS<|fS t.r).2.1]}
 else{t with r:=fS (fS t.r)++[wO a (fU<|fS t.r)<|fU t.r]}
structure Zb(ls:List (Nat×Int))(g:Int)(e:Bq):Prop where
 C:0<=e.r
 r:e.r<=g
 N:gD e.s
 M:fW e.M
 I:(e.I.length:Int)<=ls.length+e.r
def pD(F:lO):Prop:=∀s a x y g k,gD s->x<8->y<8->fW k->0<=g->g<=100000->(a.length:Int)+g<=1000000->Zb a g (F s a x y g k)
def rZ(F:lO)(d:Int):Prop:=∀(E:iO),E.Ok->∀(s:St) (b:È) (a:List (Nat×Int)) (x y:Nat) (g k:Int) (w:É),iq E.r E.T E.C s b w->w.ownsRow 0 257 2 b a.length (j0 a)->iF w->gD s->x<8->y<8->0<=g->g<=100000->fW k->(a.length:Int)+g<=1000000->
 Ò À 173 #[Å<|Ã ⟨E.r,0,Ä⟩,Â Ë x,Â Ë y,Â Æ g,Â Æ k,Â Ë d] w λe c=>
  e=Ç (Ē #[Â Æ (F s a x y g k).r,Ñ (F s a x y g k).C,Â Æ (F s a x y g k).M])/\∃f,ia E b a.length w (F s a x y g k).s (F s a x y g k).I c f
section
variable{E:iO}{rb:Nat}{c:RC}{sv lv:È}{s b:St}{ls a:List (Nat×Int)}{q p:Int}
theorem R.wR(ok:E.Ok)(d:R E rb c sv lv zQ s ls w)(r:ia E lv ls.length w b a u v):R E rb c sv v zQ b a u/\Tr E rb sv lv ls.length w sv v a.length u:=by
 have g:∀{j:Nat} {i:Array È} {T:õ},w.heap[j]?=Ã (Ð i T (0,0))->T≠E.T->T≠257->¬(j=E.r\/lv.ownBlock=Ã j):=λ{j i T} f h1 h2=>by
  rintro(e|e)
  .rw[e,d.C]at f;grind
  .let⟨m,k⟩:=ly d.M e;grind
 refine⟨⟨d.r.I r.C<|g d.r ok.I.symm A,gW d.I r.C λj f=> ?_,r.r,r.I⟩,r.C.S λh _ q=>q.elim Ø λq=>Ù<|Ù<|Ù q,λj q=>Ø q,r.l,r.M⟩;let⟨m,k⟩:=ly d.I f;exact g k ok.M.symm A
def akn(ok:E.Ok)(a:R E rb c sv lv zQ s ls w)(b:c.d=4): Ò À 210 #[Å<|Ã ⟨rb,0,Ä⟩,Â Æ q,Â Æ p,Â Æ h] w λe u=>e=Ç (æ #[Â Æ 0,Â Æ 0])/\u=w:=by
 have e:w.cell? ⟨rb,4,Ä⟩=Ã (Â Ë 4):=by have:=a.r.r 4 (Â Ë c.d) U;rwa[b]at this
 go_enter ai,θ;go_wp2_with fail;go_ret2;exact⟨U,U⟩
end
section
variable{E:iO}{c:RC}{w':É}{s f:St}{a l:List (Nat×Int)}{q p:Int}{F:lO}
def ako(E:iO)(n:Nat)(c:RC)(jQ x:È)(zQ:List Int)(a:List (Nat×Int))(w W:É)(r:Bq)(w':É):Prop:=
 ∃z,ia E x a.length W r.s r.I w' z/\R E n c jQ z zQ r.s r.I w'/\Tr E n jQ x a.length w jQ z r.I.length w'
def akp(p g:Int):(if g<p then g else p)=min p g:=by rw[Int.min_def];split<;>split<;>omega
def GY(a:0<=h)(b:h<9223372036854775808):Ë.wrap h=h:=by show(if(Ë.signed&&decide (h%(2^64:Int)≥(2^63:Int)))=Ú then h%(2^64:Int)-2^64 else h%(2^64:Int))=h;rw[(Int.emod_eq_of_lt a Z),if_neg];simp;omega
def akq{q:Int}(h:fW q):Ë.wrap (q.tmod 8)=((q%8).toNat:Int):=by
 rw[Int.tmod_eq_emod_of_nonneg h.1];have:Ë.wrap (q%8)=q%8:=by exact GY Z Z
 rw[this];omega
def akr(a:0<=h)(b:h<4):Ë.wrap (h+1)=h+1:=by exact GY Z Z
def uS(ok:E.Ok)(b:R E n c jQ x zQ s a w)(j:0<=c.d)(k:c.d<4)(hF:rZ F (c.d+1))(l:iF w)(m:gD s)(o:c.y<8)(i:fW q)(t:fW p)(u:fW h)(C:0<=c.g)(D:c.g<=100000)(G:(a.length:Int)+c.g<=1000000)(W:É)(kW:eZ e9 w W): Ò À 173 #[Å<|Ã ⟨E.r,0,Ä⟩,Â Ë c.y,Â Ë<|Ë.wrap<|q.tmod 8,Â Æ<|min p c.g,Â Æ h,Â Ë<|Ë.wrap<|c.d+1] W λe w'=>
  e=Ç (Ē #[Â Æ (F s a c.y (q%8).toNat (min p c.g) h).r,Ñ (F s a c.y (q%8).toNat (min p c.g) h).C,Â Æ (F s a c.y (q%8).toNat (min p c.g) h).M])/\ako E n c jQ x zQ a w W (F s a c.y (q%8).toNat (min p c.g) h) w':=by
 have f:=b.fG kW;rw[akq i,akr j k];have H:=t.1;have I:=i.1;refine(hF E ok s x a c.y (q%8).toNat (min p c.g) h W f.C f.M (l.r kW id) m o Z Z Z u Z).mono ?_;rintro e w' ⟨rfl,z,r⟩;let⟨v,B⟩:=f.wR ok r;exact⟨U,z,r,v,(Tr.fG kW).fc B⟩
def aks{b:List È}(h:R E n c jQ x zQ s a w)(r:ia E x i (Č<|Ă w<|Ð b.toArray T) f l u z):fe w.heap.size b T u:=by
 refine fe.I (w:=Č<|Ă w<|Ð b.toArray T) (fe.N w b T) r.C ?_;rintro(e|e)
 .have:=fe.M h.C;omega
 .have:=(h.M.lt _ e).2;omega
def Rt{f:List È}{jR:È}(ok:E.Ok)(d:R E n c jQ x zQ s a u)(t:Tr E n jR z b w jQ x k u)(m:w.heap.size<=j)(e:fe j f 252 u)(i:Nat)(v:È): R E n c jQ x zQ s a (u.setCell ⟨j,i,Ä⟩ v)/\Tr E n jR z b w jQ x k (u.setCell ⟨j,i,Ä⟩ v)/\fe j (f.set i v) 252 (u.setCell ⟨j,i,Ä⟩ v):=by have g:eZ (λh=>h=j) u (u.setCell ⟨j,i,Ä⟩ v):=eZ.I (X:=λh=>h=j) (p:=⟨j,i,Ä⟩) U v<|Ù e.G;refine⟨d.aj1 ok e g,t.aj0 g (λi q=>by omega) λi o q l=> ?_,e.fX i v⟩;unfold fe at e;rw[q,e]at l;cases l
def akt(ok:E.Ok)(f:R E n c jQ x zQ s a w)(oI:0<=c.d)(hd:c.d<4)(hF:rZ F (c.d+1))(hI:pD F)(hr:iF w)(P:gD s)(hx:c.x<8)(hy:c.y<8)(Q:fW q)(S:fW p)(hk:fW h)(vW:0<=c.g)(va:c.g<=100000)(hlen:(a.length:Int)+c.g<=1000000): Ò À 210 #[Å<|Ã ⟨n,0,Ä⟩,Â Æ q,Â Æ p,Â Æ h] w λe w'=>e=Ç (æ #[Â Æ (F s a c.y (q%8).toNat (min p c.g) h).M,Â Æ<|wN (F s a c.y (q%8).toNat (min p c.g) h).C])/\kC E n jQ x a.length w {c with g:=c.g-(F s a c.y (q%8).toNat (min p c.g) h).r} zQ (F s a c.y (q%8).toNat (min p c.g) h).s (F s a c.y (q%8).toNat (min p c.g) h).I w':=by
 have c0:w.cell? ⟨n,0,Ä⟩=Ã (Å<|Ã ⟨E.r,0,Ä⟩):=f.r.r 0 _ U;have c2:w.cell? ⟨n,2,Ä⟩=Ã (Â Ë c.y):=f.r.r 2 _ U;have c4:w.cell? ⟨n,4,Ä⟩=Ã (Â Ë c.d):=f.r.r 4 _ U;have c5:w.cell? ⟨n,5,Ä⟩=Ã (Â Æ c.g):=f.r.r 5 _ U;have gI:=f.r.M;have JX:=fe.M f.C;have hq0:=Q.1;have AT:=Q.2;have Zc:=S.1;have hp1:=S.2;have call:=uS ok f oI hd hF hr P hy Q S hk vW va hlen;have T:=hI s a c.y (q%8).toNat (min p c.g) h P hy Z hk Z Z Z;have M:=T.C;have N:=T.r;clear T;generalize F s a c.y (q%8).toNat (min p c.g) h=r at*;have H:=e8<|Á f<|Á call<|Á M N;have Ru:(c.d==4)=Ï:=by rw[beq_eq_false_iff_ne];omega
 clear f hr P hlen call M N;go_enter ai,θ;go_wp2_with fail;have l:=e8<|Á ((H.out.1.fG<|eZ.fN _ _).r.r 0 _ rfl)<|Á ((H.out.1.fG<|eZ.fN _ _).r.r 2 _ rfl)<|Á ((H.out.1.fG<|eZ.fN _ _).r.r 4 _ rfl)<|(H.out.1.fG<|eZ.fN _ _).r.r 5 _ rfl;refine lP (λw'=>w'.cell? ⟨n,0,Ä⟩=Ã (Å<|Ã ⟨E.r,0,Ä⟩)/\w'.cell? ⟨n,2,Ä⟩=Ã (Â Ë c.y)/\w'.cell? ⟨n,4,Ä⟩=Ã (Â Ë c.d)/\w'.cell? ⟨n,5,Ä⟩=Ã (Â Æ c.g)) [25] fl ?_;iterate 16 apply tk l.out
 refine GX (i:=16) (oi:={dst:=Ã 32,op:=aD {callee:=Go.Callee.builtin bm,args:=#[î 27,î 31],argTypes:=#[36,36]},type:=36,pos:= "run.go:186",after:=#[{on:=11,ground:=ï},{on:=15,ground:=ï}],guard:=Ä}) (v:=Â Æ<|min p c.g) U fl fl fl fl (λ_ _ _ f=>f) l.out (Ø ⟨fP,?aku⟩) ?asl
 case aku=>(intro w hSw;let⟨q0,q2,q4,q5⟩:=hSw;go_simp<;>rw[akp])
 apply tk l.out 17;apply tk l.out 18;apply tk l.out 19;apply tk l.out 20;apply tk l.out 21;apply tk l.out 22;refine akl (i:=23) (j:=24) (oi:={dst:=Ã 39,op:=aD {callee:=Go.Callee.value<|bg 173,args:=#[î 19,î 23,î 26,î 32,î 33,î 38],argTypes:=#[267,3,3,36,36,3]},type:=252,pos:= "run.go:186",after:=#[{on:=3,ground:=ï},{on:=7,ground:=ï},{on:=10,ground:=ï},{on:=16,ground:=ï},{on:=17,ground:=ï},{on:=22,ground:=ï}],guard:=Ä}) (oj:={dst:=Ã 10,op:=bh 252,type:=0,pos:= "run.go:186",after:=#[],guard:=Ä}) fl U U ?_ ?_
 .intro K k;go_simp;go_at_call 173;refine(H.out.2.1 _ kp).mono ?_;rintro e z ⟨rfl,yy,O,o,D⟩;dsimp only;refine k.out _ _ (λ_=>⟨o.r.r 0 _ U,o.r.r 2 _ U,o.r.r 4 _ U,o.r.r 5 _ U⟩) ?_;clear k K;have G:=o.fG<|eZ.gC e9 z #[Â Æ 0,Ñ Ï,Â Æ 0] 252;refine gu 24 ?_;intro K k;go_simp;refine k.out _ _ (λ_=>⟨G.r.r 0 _ U,G.r.r 2 _ U,G.r.r 4 _ U,G.r.r 5 _ U⟩) ?_;clear k K;refine gu 25 ?_;intro K k;go_simp;refine k.out _ _ (λq=>absurd fh q) ?_;clear k K;try simp only[ĵ,Õ,ã,ä]
  refine lA fl ?_ _;have V:=eZ.gC e9 z #[Â Æ r.r,Ñ r.C,Â Æ r.M] 252;have t:=o.fG V;have I:=D.fc<|Tr.fG V;have m:fe z.heap.size [Â Æ r.r,Ñ r.C,Â Æ r.M] 252 _:=fe.N z _ 252;generalize Ă z (Ð #[Â Æ r.r,Ñ r.C,Â Æ r.M] 252)=W at*;generalize z.heap.size=b at*;clear G V o D O;have v0:=m.r 0 _ U;have X:=m.r 1 _ U;have Y:=m.r 2 _ U;have z5:W.cell? ⟨n,5,Ä⟩=Ã (Â Æ c.g):=t.r.r 5 _ U;have y5:=t.r.C 5;have zl:=t.r.M;have zb:=m.M;have M:=H.out.2.2.1;have N:=H.out.2.2.2;have J:=fe.S t.r m A;have y1:=(GN (w:=W) (i:=5) (u:=Â Æ<|c.g-r.r) J).trans X;have y2:=(GN (w:=W) (i:=5) (u:=Â Æ<|c.g-r.r) J).trans Y;have C:=e8<|Á t I;clear t I m l;go_wp2_with fail;go_region;go_wp2_with fail;have l:=e8<|Á y1 y2;refine lP (λw'=>w'.cell? ⟨b,1,Ä⟩=Ã (Ñ r.C)/\w'.cell? ⟨b,2,Ä⟩=Ã (Â Æ r.M)) [] fl ?_;iterate 5 apply tk l.out
  refine gu 5 ?_;intro K k;go_simp;go_at_call 159;refine(GV _ _).mono ?_;rintro e w2 ⟨rfl,p9⟩;subst w2;dsimp only;refine k.out _ _ (λ_=>l.out) ?_;clear k K;refine gu 6 ?_;intro K k;go_simp;refine k.out _ _ (λ_=>l.out) ?_;clear k K;refine gu 7 ?_;intro K k;go_simp;refine k.out _ _ (λ_=>l.out) ?_;clear k K;try simp only[ĵ,Õ,ã,ä]
  refine lA fl ?_ _;go_wp2_with fail;go_ret2;let⟨n1,n2⟩:=C.out.1.N ok 5 (v:=Â Æ<|c.g-r.r) (c':={c with g:=c.g-r.r}) (jR:=jQ) (ss':=zQ) U C.out.1.I λ_ q=>q;have L:=(eZ.fN e9<|W.setCell ⟨n,5,Ä⟩<|Â Æ<|c.g-r.r).fc<|eZ.fN e9 _;exact⟨U,_,_,n1.fG L,(C.out.2.fc n2).fc<|Tr.fG L⟩
 .intro K k;go_simp;refine k.out _ _ (λ_=>⟨(H.out.1.fG<|((eZ.fN _ _).fc<|eZ.gC _ _ _ _)).r.r 0 _ U,(H.out.1.fG<|((eZ.fN _ _).fc<|eZ.gC _ _ _ _)).r.r 2 _ U,(H.out.1.fG<|((eZ.fN _ _).fc<|eZ.gC _ _ _ _)).r.r 4 _ U,(H.out.1.fG<|((eZ.fN _ _).fc<|eZ.gC _ _ _ _)).r.r 5 _ U⟩) ?_;clear k K;refine gu 23 ?_;intro K k;go_simp;go_at_call 173;refine(H.out.2.1 (Č<|Ă w<|Ð #[Â Æ 0,Ñ Ï,Â Æ 0] 252) kp).mono ?_;rintro e z ⟨rfl,yy,O,o,D⟩;dsimp only;refine k.out _ _ (λ_=>⟨o.r.r 0 _ U,o.r.r 2 _ U,o.r.r 4 _ U,o.r.r 5 _ U⟩) ?_;clear k K;have B:=aks H.out.1 O;have k0:=B.r 0 _ U;have k1:=B.r 1 _ U;have k2:=B.r 2 _ U;have f0:=B.C 0;have f1:=B.C 1;have f2:=B.C 2;refine gu 25 ?_;intro K k;go_simp;refine k.out _ _ (λq=>absurd fh q) ?_;clear k K;try simp only[ĵ,Õ,ã,ä]
  refine lA fl ?_ _;let⟨a1,a2,a3⟩:=Rt ok o D (Þ _) B 0<|Â Æ r.r;let⟨b1,b2,b3⟩:=Rt ok a1 a2 (Þ _) a3 1<|Ñ r.C;let⟨t,I,m⟩:=Rt ok b1 b2 (Þ _) b3 2<|Â Æ r.M;generalize ą (ą (ą z ⟨w.heap.size,0,Ä⟩<|Â Æ r.r) ⟨w.heap.size,1,Ä⟩<|Ñ r.C) ⟨w.heap.size,2,Ä⟩ (Â Æ r.M)=W at*;replace m:fe w.heap.size [Â Æ r.r,Ñ r.C,Â Æ r.M] 252 W:=m;clear a1 a2 a3 b1 b2 b3 B k0 k1 k2 f0 f1 f2 o D O;have v0:=m.r 0 _ U;have X:=m.r 1 _ U;have Y:=m.r 2 _ U;have z5:W.cell? ⟨n,5,Ä⟩=Ã (Â Æ c.g):=t.r.r 5 _ U;have y5:=t.r.C 5;have zl:=t.r.M;have zb:=m.M;have M:=H.out.2.2.1;have N:=H.out.2.2.2;have J:=fe.S t.r m A;have y1:=(GN (w:=W) (i:=5) (u:=Â Æ<|c.g-r.r) J).trans X;have y2:=(GN (w:=W) (i:=5) (u:=Â Æ<|c.g-r.r) J).trans Y;have C:=e8<|Á t I;clear t I m l;go_wp2_with fail;go_region;go_wp2_with fail;have l:=e8<|Á y1 y2;refine lP (λw'=>w'.cell? ⟨w.heap.size,1,Ä⟩=Ã (Ñ r.C)/\w'.cell? ⟨w.heap.size,2,Ä⟩=Ã (Â Æ r.M)) [] fl ?_;iterate 5 apply tk l.out
  refine gu 5 ?_;intro K k;go_simp;go_at_call 159;refine(GV _ _).mono ?_;rintro e w2 ⟨rfl,p9⟩;subst w2;dsimp only;refine k.out _ _ (λ_=>l.out) ?_;clear k K;refine gu 6 ?_;intro K k;go_simp;refine k.out _ _ (λ_=>l.out) ?_;clear k K;refine gu 7 ?_;intro K k;go_simp;refine k.out _ _ (λ_=>l.out) ?_;clear k K;try simp only[ĵ,Õ,ã,ä]
  refine lA fl ?_ _;go_wp2_with fail;go_ret2;let⟨n1,n2⟩:=C.out.1.N ok 5 (v:=Â Æ<|c.g-r.r) (c':={c with g:=c.g-r.r}) (jR:=jQ) (ss':=zQ) U C.out.1.I λ_ q=>q;have L:=(eZ.fN e9<|W.setCell ⟨n,5,Ä⟩<|Â Æ<|c.g-r.r).fc<|eZ.fN e9 _;exact⟨U,_,_,n1.fG L,(C.out.2.fc n2).fc<|Tr.fG L⟩
end
section
variable{E:iO}{rb:Nat}{c:RC}{sv lv:È}{s i:St}{f j:List (Nat×Int)}{q p:Int}{F:lO}
def oh(c:RC)(g:Int):RC:={c with g:=g}
def akv(ok:E.Ok)(a:R E rb c sv lv zQ s f w)(i:0<=c.d)(G:c.d<=4)(hF:c.d<4->rZ F (c.d+1))(j:pD F)(k:iF w)(l:gD s)(m:c.x<8)(n:c.y<8)(o:fW q)(r:fW p)(v:fW h)(z:0<=c.g)(B:c.g<=100000)(C:(f.length:Int)+c.g<=1000000)(t:RT)(D:t=(iP F c ⟨zQ,s,f,c.g⟩ q p h).2.2): Ò À 210 #[Å<|Ã ⟨rb,0,Ä⟩,Â Æ q,Â Æ p,Â Æ h] w λe u=>e=Ç (æ #[Â Æ (iP F c ⟨zQ,s,f,c.g⟩ q p h).1,Â Æ (iP F c ⟨zQ,s,f,c.g⟩ q p h).2.1])/\kC E rb sv lv f.length w (oh c t.g) zQ t.s t.C u:=by
 subst D;by_cases b:c.d=4
 .have e:iP F c ⟨zQ,s,f,c.g⟩ q p h=(0,0,⟨zQ,s,f,c.g⟩):=by unfold iP;rw[if_pos b]
  rw[e];refine(akn ok a b).mono ?_;rintro e u ⟨rfl,rfl⟩;exact⟨U,a.jH⟩
 .have e:iP F c ⟨zQ,s,f,c.g⟩ q p h=((F s f c.y (q%8).toNat (min p c.g) h).M,wN (F s f c.y (q%8).toNat (min p c.g) h).C,⟨zQ,(F s f c.y (q%8).toNat (min p c.g) h).s,(F s f c.y (q%8).toNat (min p c.g) h).I,c.g-(F s f c.y (q%8).toNat (min p c.g) h).r⟩):=by unfold iP;rw[if_neg b]
  rw[e];exact akt ok a i Z (hF Z) j k l m n o r v z B C
def akw(ok:E.Ok)(i:R E rb c sv lv (((zQ++[h])++[p])++[q]) s f w)(hn:zQ.length<=800)(o:0<=c.d)(r:c.d<=4)(hF:c.d<4->rZ F (c.d+1))(v:pD F)(z:iF w)(B:gD s)(C:c.x<8)(D:c.y<8)(G:fW q)(I:fW p)(J:fW h)(K:0<=c.g)(L:c.g<=100000)(M:(f.length:Int)+c.g<=1000000)(t:RT)(N:t=(iP F c ⟨zQ,s,f,c.g⟩ q p h).2.2)(a b:Int)(j:a=(iP F c ⟨zQ,s,f,c.g⟩ q p h).1)(k:b=(iP F c ⟨zQ,s,f,c.g⟩ q p h).2.1): Ò À 205 #[Å<|Ã ⟨rb,0,Ä⟩,Â Ë 20] w λe u=>e=Ç (æ #[])/\kC E rb sv lv f.length w (oh c t.g) (zQ++[a,b]) t.s t.C u:=by have c0:=i.r.r 0 _ U;have c2:=i.r.r 2 _ U;have gI:=i.r.M;have JX:=fe.M i.C;have H:=e8<|Á i<|Á z<|Á hF v;go_enter ê,å;go_wp2_with fail;go_quiet (fail);go_wp2_with fail;have O:=Tr.fG (E:=E) (rb:=rb) (sv:=sv) (lv:=lv) (n:=f.length)<|eZ.iJ e9 w nq;have P:=H.out.1.fG<|eZ.iJ e9 w nq;go_at_call 204;refine(mR ok P (by first|omega|(simp;omega))).mono ?_;rintro e w1 ⟨rfl,sv1,Q,S⟩;go_wp2_with fail;go_at_call 204;refine(mR ok Q (by first|omega|(simp;omega))).mono ?_;rintro e w2 ⟨rfl,GZ,T,V⟩;go_wp2_with fail;go_at_call 204;refine(mR ok T (by first|omega|(simp;omega))).mono ?_;rintro e w3 ⟨rfl,Rv,W,X⟩;have l:=((O.fc S).fc V).fc X;go_wp2_with fail;go_at_call 210;refine(akv ok W o r H.out.2.2.1 H.out.2.2.2 (H.out.2.1.N ok H.out.1 l) B C D G I J K L M t N).mono ?_;rintro e w4 ⟨rfl,sv4,lv4,Y,t4⟩;rw[<-j,<-k];go_wp2_with fail;go_at_call 203;refine(Rs ok Y (by first|omega|(simp;omega)) _ _).mono ?_;rintro e w5 ⟨rfl,sv5,m,t5⟩;go_wp2_with fail;go_end0;rw[<-j,<-k]at m;exact⟨U,_,_,m,(l.fc t4).fc t5⟩
end
def sd(h:∀p∈zQ,fW p):fW (fU zQ):=by
 by_cases a:0<zQ.length
 .apply h _;rw[Y6 zQ a];simp[fU]
 .have:zQ=[]:=ß Z;subst this;exact⟨A,A⟩
def oP(h:∀p∈zQ,fW p):∀p∈fS zQ,fW p:=λp a=>h p<|List.dropLast_subset zQ a
def pE(l:List Int):(fS l).length=l.length-1:=by simp[fS]
def wS(h:0<zQ.length):fS zQ++[fU zQ]=zQ:=(Y6 zQ h).symm
theorem akx(F:lO)(c:RC)(l b:List Int)(s:St)(a:List (Nat×Int))(g q p k:Int): (iP F c ⟨l,s,a,g⟩ q p k).1=(iP F c ⟨b,s,a,g⟩ q p k).1/\(iP F c ⟨l,s,a,g⟩ q p k).2.1=(iP F c ⟨b,s,a,g⟩ q p k).2.1/\(iP F c ⟨l,s,a,g⟩ q p k).2.2.s=(iP F c ⟨b,s,a,g⟩ q p k).2.2.s/\ (iP F c ⟨l,s,a,g⟩ q p k).2.2.C=(iP F c ⟨b,s,a,g⟩ q p k).2.2.C/\(iP F c ⟨l,s,a,g⟩ q p k).2.2.g=(iP F c ⟨b,s,a,g⟩ q p k).2.2.g:=by unfold iP;grind
section
variable{E:iO}{rb:Nat}{c:RC}{sv lv:È}{s:St}{f:List (Nat×Int)}{F:lO}
def aky(ok:E.Ok)(h:R E rb c sv lv zQ s f w)(Y:zQ.length<=700)(C:0<=c.d)(D:c.d<=4)(hF:c.d<4->rZ F (c.d+1))(G:pD F)(H:iF w)(v:gD s)(z:c.x<8)(a:c.y<8)(r:∀p∈zQ,fW p)(I:0<=c.g)(J:c.g<=100000)(K:(f.length:Int)+c.g<=1000000) (k:Nat) (tN:2<=k) (sY:k<=20) (Zd:k≠17) (L B M:Int) (b:iT[k]?=Ã (L,B,M)) (Br:B<=zQ.length) (t:RT) (N:t=nN F c k ⟨zQ,s,f,c.g⟩): Ò À 205 #[Å<|Ã ⟨rb,0,Ä⟩,Â Ë k] w λe i=>e=Ç (æ #[])/\kC E rb sv lv f.length w (oh c t.g) t.r t.s t.C i:=by
 subst N;have i:=sd r;have u:=sd<|oP r;have O:=sd<|oP<|oP r;have j:1<=zQ.length->R E rb c sv lv (fS zQ++[fU zQ]) s f w:=λq=>by rwa[wS Z]
 have l:2<=zQ.length->R E rb c sv lv ((fS (fS zQ)++[fU<|fS zQ])++[fU zQ]) s f w:=λq=>by rw[wS (by rw[pE];omega),wS Z];exact h
 have P:3<=zQ.length->R E rb c sv lv (((fS (fS<|fS zQ)++[fU<|fS<|fS zQ])++[fU<|fS zQ])++[fU zQ]) s f w:=λq=>by rw[wS (by rw[pE,pE];omega),wS (by rw[pE];omega),wS Z];exact h
 have m:zQ.length<=800:=Z
 have n:(fS zQ).length<=800:=by rw[pE];omega
 have o:(fS<|fS zQ).length<=800:=by rw[pE];omega
 have Q:(fS<|fS<|fS zQ).length<=800:=by rw[pE];omega
 have cases:(k=2\/k=3\/k=4\/k=5\/k=6\/k=7)\/k=8\/k=9\/k=10\/k=11\/k=12\/k=13\/k=14\/k=15\/k=16\/k=18\/k=19\/k=20:=Z
 rcases cases with hq|rfl|rfl|rfl|rfl|rfl|rfl|rfl|rfl|rfl|rfl|rfl|rfl
 .have S:2<=zQ.length:=by
   rcases hq with rfl|rfl|rfl|rfl|rfl|rfl<;>(simp[iT]at b;omega)
  have e:nN F c k ⟨zQ,s,f,c.g⟩=⟨fS (fS zQ)++[wO k (fU<|fS zQ)<|fU zQ],s,f,c.g⟩:=by rcases hq with rfl|rfl|rfl|rfl|rfl|rfl<;>rfl
  rw[e];exact akf ok (l S) o a u i Z Z
 .exact aj4 ok (j<|by simp[iT]at b;omega) n a
 .exact aj5 ok (l<|by simp[iT]at b;omega) o a
 .exact aj6 ok (j<|by simp[iT]at b;omega) n a
 .exact aj7 ok h m a
 .exact aj8 ok h m a z
 .exact aj9 ok h m a
 .exact akb ok h m a
 .exact akc ok (j<|by simp[iT]at b;omega) n a i
 .exact akd ok (l<|by simp[iT]at b;omega) o a i
 .exact ake ok (l<|by simp[iT]at b;omega) o a u i v
 .exact akm ok (j<|by simp[iT]at b;omega) n a Z
 .let⟨S,T,V,W,X⟩:=akx F c zQ (fS<|fS<|fS zQ) s f c.g (fU zQ) (fU<|fS zQ)<|fU<|fS<|fS zQ;have e:nN F c 20 ⟨zQ,s,f,c.g⟩=⟨fS (fS<|fS zQ)++[(iP F c ⟨zQ,s,f,c.g⟩ (fU zQ) (fU<|fS zQ)<|fU<|fS<|fS zQ).1,(iP F c ⟨zQ,s,f,c.g⟩ (fU zQ) (fU<|fS zQ)<|fU<|fS<|fS zQ).2.1],(iP F c ⟨zQ,s,f,c.g⟩ (fU zQ) (fU<|fS zQ)<|fU<|fS<|fS zQ).2.2.s,(iP F c ⟨zQ,s,f,c.g⟩ (fU zQ) (fU<|fS zQ)<|fU<|fS<|fS zQ).2.2.C,(iP F c ⟨zQ,s,f,c.g⟩ (fU zQ) (fU<|fS zQ)<|fU<|fS<|fS zQ).2.2.g⟩:=U;rw[e,S,T,V,W,X];exact akw ok (P<|by simp[iT]at b;omega) Q C D hF G H v z a i u O I J K _ U _ _ U U
end
def pF(c:Int)(w:É):Ò À 103 #[Â aT c] w λe a=>e=Ç (Â Ë<|lz c)/\a=w:=by
 go_enter Tryz.func103,Tryz.ntmps103;go_wp2;all_goals go_ret
 all_goals refine⟨Dt ?_,U⟩
 all_goals simp only[beq_iff_eq,beq_eq_false_iff_ne,ne_eq]at*
 all_goals(try subst c)
 all_goals first|rfl|(unfold lz;simp[*];done)|(unfold lz;rw[if_neg Z];simp[*])
def kr:ŏ->Option ŏ
 |à c=>Ã c
 |.seq a b=>match kr a with
  |some c=>Ã c
  |none=>kr b
 |.block _ c=>kr c
 |.scope c=>kr c
 |.cond _ a b=>match kr a with
  |some c=>Ã c
  |none=>kr b
 |_=>Ä
noncomputable def tO:ŏ:=(Tryz.f191.body.bind kr).getD Ķ
def nu(a:Nat)(P:ByteArray)(b:Int)(u:Nat->È):é:=⟨#[Å<|Ã ⟨a,0,Ä⟩,ā,Â Æ 0,Ñ Ï,Í P,Â Æ P.size,Â Æ b,u 7,u 8,u 9,u 10,u 11,u 12,u 13,u 14,u 15,u 16,u 17,u 18,u 19,u 20,u 21,u 22,u 23,u 24,u 25,u 26,u 27,u 28,u 29,u 30,u 31,u 32,u 33,u 34,u 35,u 36,u 37,u 38,u 39,u 40,u 41,u 42,u 43,u 44,u 45,u 46,u 47,u 48,u 49,u 50,u 51,u 52,u 53,u 54,u 55,u 56,u 57,u 58,u 59,u 60,u 61,u 62,u 63,u 64,u 65,u 66,u 67,u 68,u 69,u 70,u 71,u 72,u 73,u 74,u 75,u 76,u 77,u 78,u 79,u 80],[]⟩
def Bs(b:Nat)(P:ByteArray)(c:Int)(a:é):Prop:=∃u,a=nu b P c u
def Ze(a:Nat)(P:ByteArray)(v:Int)(b:Bool)(u:Nat->È):é:=⟨#[Å<|Ã ⟨a,0,Ä⟩,ā,Â Æ v,Ñ b,Í P,Â Æ P.size,u 6,u 7,u 8,u 9,u 10,u 11,u 12,u 13,u 14,u 15,u 16,u 17,u 18,u 19,u 20,u 21,u 22,u 23,u 24,u 25,u 26,u 27,u 28,u 29,u 30,u 31,u 32,u 33,u 34,u 35,u 36,u 37,u 38,u 39,u 40,u 41,u 42,u 43,u 44,u 45,u 46,u 47,u 48,u 49,u 50,u 51,u 52,u 53,u 54,u 55,u 56,u 57,u 58,u 59,u 60,u 61,u 62,u 63,u 64,u 65,u 66,u 67,u 68,u 69,u 70,u 71,u 72,u 73,u 74,u 75,u 76,u 77,u 78,u 79,u 80],[]⟩
def Dv(c:Nat)(P:ByteArray)(v:Int)(b:Bool)(a:é):Prop:=∃u,a=Ze c P v b u
def QQ(X:é->É->Prop):aS->é->É->Prop
 |.exit 0,a,w=>X a w
 |_,_,_=>False
section
variable{X:é->É->Prop}{E:iO}{c:RC}{s:St}{f:List (Nat×Int)}{F:lO}
def akz(ok:E.Ok)(u:Nat->È)(b:R E i c z x zQ s f w)(j:B.size<=40)(e:h=B.size) (g:∀a d,Dv i B 0 Ú a->kC E i z x f.length w c zQ s f d->X a d): Î À tO (Exit.then K<|QQ X) (nu i B h u) w:=by
 unfold nu;conv=>arg 2;whnf
 subst e;go_wp2_with fail;exact g _ _ (gl _) b.jH
def akA(ok:E.Ok)(u:Nat->È)(b:R E i c z x zQ s f w)(l:B.size<=40)(m:(B.size:Int)<h) (e:∀a d,Dv i B 0 Ï a->kC E i z x f.length w (oh c 0) zQ s f d->X a d): Î À tO (Exit.then K<|QQ X) (nu i B h u) w:=by
 unfold nu;conv=>arg 2;whnf
 have n:w.cell? ⟨i,5,Ä⟩=Ã (Â Æ c.g):=b.r.r 5 _ U;have o:=b.r.C 5;have p:(h==(B.size:Int))=Ï:=by rw[beq_eq_false_iff_ne];omega
 have H:=e8 b;clear b;go_wp2_with fail;let⟨j,k⟩:=H.out.N ok 5 (v:=Â Æ 0) (c':=oh c 0) (jR:=z) (ss':=zQ) U H.out.I λ_ q=>q;exact e _ _ (gl _) ⟨_,_,j,k⟩
def akB(ok:E.Ok)(u:Nat->È)(b:R E i c z x zQ s f w)(P:B.size<=40)(n:Nat)(G:h=n)(I:n<B.size)(y:iF w)(m o p:Int)(Q:zQ.length<=700)(J:0<=c.g)(S:c.g<=100000)(k:Nat)(C:lz ((B[n]'I).toNat:Int)=k)(r:iT[k]?=Ã (m,o,p))(D:lN c.g zQ.length m o p=Ï) (L:∀a j,Dv i B 0 Ï a->kC E i z x f.length w (oh c 0) zQ s f j->X a j): Î À tO (Exit.then K<|QQ X) (nu i B h u) w:=by
 unfold nu;conv=>arg 2;whnf
 subst G;have T:((n:Int)==(B.size:Int))=Ï:=by rw[beq_eq_false_iff_ne];omega
 have V:decide ((B.size:Int)<(n:Int))=Ï:=decide_eq_false Z;have W:(0:Int)<=(n:Int):=Z
 have Y:(n:Int)<(B.size:Int):=Z
 have d:=Bp E ok i c z x zQ s f w b y k m o p r Z J Z;rw[D]at d;have H:=e8<|Á b<|Á d<|Á r C;clear b d y r D C;go_wp2_with (go_at_call 103;refine(pF _ _).mono ?_;rintro e j ⟨rfl,l⟩;subst j;rw[H.out.2.2.2]);go_at_call 202;apply H.out.2.1.mono;rintro e M ⟨rfl,l,F⟩;have k5:M.cell? ⟨i,5,Ä⟩=Ã (Â Æ c.g):=l.r.r 5 _ U;have g5:=l.r.C 5;have t:=e8<|Á l F;clear l F;go_wp2_with fail;let⟨N,O⟩:=R.N ok t.out.1 5 (v:=Â Æ 0) (c':=oh c 0) (jR:=z) (ss':=zQ) U t.out.1.I λ_ q=>q;exact L _ _ (gl _) ⟨_,_,N,t.out.2.fc O⟩
def akC(ok:E.Ok)(u:Nat->È)(b:R E i c z x zQ s f w)(J:B.size<=40)(n:Nat)(C:h=n)(D:n<B.size)(q:iF w)(k l m:Int)(L:zQ.length<=700)(F:0<=c.g)(M:c.g<=100000)(r:lz ((B[n]'D).toNat:Int)=22)(o:iT[(22:Nat)]?=Ã (k,l,m))(t:lN c.g zQ.length k l m=Ú) (G:∀a j,Dv i B 0 Ï a->kC E i z x f.length w (oh c<|c.g-k) zQ s f j->X a j): Î À tO (Exit.then K<|QQ X) (nu i B h u) w:=by
 unfold nu;conv=>arg 2;whnf
 subst C;have N:((n:Int)==(B.size:Int))=Ï:=by rw[beq_eq_false_iff_ne];omega
 have O:decide ((B.size:Int)<(n:Int))=Ï:=decide_eq_false Z;have P:(0:Int)<=(n:Int):=Z
 have Q:(n:Int)<(B.size:Int):=Z
 have d:=Bp E ok i c z x zQ s f w b q 22 k l m o Z F Z;rw[t]at d;have H:=e8<|Á b<|Á d<|Á o r;clear b d q o t r;go_wp2_with (go_at_call 103;refine(pF _ _).mono ?_;rintro e j ⟨rfl,I⟩;subst j;rw[H.out.2.2.2]);go_at_call 202;apply H.out.2.1.mono;rintro e S ⟨rfl,p,v⟩;rw[if_pos U]at p;have y:=e8<|Á p v;clear p v;go_wp2_with (go_at_call 103;refine(pF _ _).mono ?_;rintro e j ⟨rfl,I⟩;subst j;rw[H.out.2.2.2]);exact G _ _ (gl _) ⟨_,_,y.out.1,y.out.2⟩
def akD(ok:E.Ok)(u:Nat->È)(b:R E i c z x zQ s f w)(P:B.size<=40)(n:Nat)(F:h=n)(G:n<B.size)(r:iF w)(k l m:Int)(I:zQ.length<=700)(J:0<=c.g)(Q:c.g<=100000)(p:Int)(t:List Int)(L:zQ=t++[p])(v:lz ((B[n]'G).toNat:Int)=21)(o:iT[(21:Nat)]?=Ã (k,l,m))(y:lN c.g zQ.length k l m=Ú) (M:∀a j,Dv i B p Ú a->kC E i z x f.length w (oh c<|c.g-k) t s f j->X a j): Î À tO (Exit.then K<|QQ X) (nu i B h u) w:=by
 unfold nu;conv=>arg 2;whnf
 subst F;have S:((n:Int)==(B.size:Int))=Ï:=by rw[beq_eq_false_iff_ne];omega
 have T:decide ((B.size:Int)<(n:Int))=Ï:=decide_eq_false Z;have V:(0:Int)<=(n:Int):=Z
 have W:(n:Int)<(B.size:Int):=Z
 have d:=Bp E ok i c z x zQ s f w b r 21 k l m o Z J Z;rw[y]at d;have H:=e8<|Á b<|Á d<|Á o v;clear b d r o y v;go_wp2_with (go_at_call 103;refine(pF _ _).mono ?_;rintro e j ⟨rfl,N⟩;subst j;rw[H.out.2.2.2]);go_at_call 202;apply H.out.2.1.mono;rintro e Y ⟨rfl,q,C⟩;rw[if_pos U]at q;have D:=e8<|Á q C;clear q C;subst L;go_wp2_with (go_at_call 103;refine(pF _ _).mono ?_;rintro e j ⟨rfl,N⟩;subst j;rw[H.out.2.2.2]);go_at_call 204;refine(mR ok D.out.1<|by simp at I;omega).mono ?_;rintro e w2 ⟨rfl,GZ,N,O⟩;go_wp2_with fail;exact M _ _ (gl _) ⟨_,_,N,D.out.2.fc O⟩
def akE(ok:E.Ok)(u:Nat->È)(b:R E i c z x zQ s f w)(L:B.size<=40)(n:Nat)(D:h=n)(k:n<B.size)(r:iF w)(l m o:Int)(M:zQ.length<=700)(F:0<=c.g)(N:c.g<=100000)(O:(48:Int)<=((B[n]'k).toNat:Int))(P:((B[n]'k).toNat:Int)<=57)(t:lz ((B[n]'k).toNat:Int)=1)(p:iT[(1:Nat)]?=Ã (l,m,o))(v:lN c.g zQ.length l m o=Ú) (G:∀a j,Bs i B ((n:Int)+1) a->kC E i z x f.length w (oh c<|c.g-l) (zQ++[((B[n]'k).toNat:Int)-48]) s f j->K a j): Î À tO (Exit.then K<|QQ X) (nu i B h u) w:=by
 unfold nu;conv=>arg 2;whnf
 subst D;have Q:((n:Int)==(B.size:Int))=Ï:=by rw[beq_eq_false_iff_ne];omega
 have S:decide ((B.size:Int)<(n:Int))=Ï:=decide_eq_false Z;have T:(0:Int)<=(n:Int):=Z
 have V:(n:Int)<(B.size:Int):=Z
 have d:=Bp E ok i c z x zQ s f w b r 1 l m o p Z F Z;rw[v]at d;have H:=e8<|Á b<|Á d<|Á p t;clear b d r p v t;go_wp2_with (go_at_call 103;refine(pF _ _).mono ?_;rintro e j ⟨rfl,I⟩;subst j;rw[H.out.2.2.2]);go_at_call 202;apply H.out.2.1.mono;rintro e W ⟨rfl,q,y⟩;rw[if_pos U]at q;have C:=e8<|Á q y;clear q y;go_wp2_with (go_at_call 103;refine(pF _ _).mono ?_;rintro e j ⟨rfl,I⟩;subst j;rw[H.out.2.2.2]);go_at_call 203;refine(yF ok C.out.1 Z _).mono ?_;rintro e Y ⟨rfl,GZ,I,J⟩;go_wp2_with fail;exact G _ _ (gl _) ⟨_,_,I,C.out.2.fc J⟩
def akF(ok:E.Ok)(u:Nat->È)(b:R E i c z x zQ s f w)(W:B.size<=40)(n:Nat)(M:h=n)(N:n<B.size)(t:iF w)(k l m:Int)(v:zQ.length<=700)(O:0<=c.g)(Y:c.g<=100000)(p q:Int)(y:List Int)(P:zQ=(y++[p])++[q])(Q:¬p=0)(C:lz ((B[n]'N).toNat:Int)=17)(o:iT[(17:Nat)]?=Ã (k,l,m))(D:lN c.g zQ.length k l m=Ú) (S:∀a j,Bs i B q a->kC E i z x f.length w (oh c<|c.g-k) y s f j->K a j): Î À tO (Exit.then K<|QQ X) (nu i B h u) w:=by
 unfold nu;conv=>arg 2;whnf
 subst M;have e1:((n:Int)==(B.size:Int))=Ï:=by rw[beq_eq_false_iff_ne];omega
 have e2:decide ((B.size:Int)<(n:Int))=Ï:=decide_eq_false Z;have Gw:(0:Int)<=(n:Int):=Z
 have uZ:(n:Int)<(B.size:Int):=Z
 have d:=Bp E ok i c z x zQ s f w b t 17 k l m o Z O Z;rw[D]at d;have H:=e8<|Á b<|Á d<|Á o C;clear b d t o D C;go_wp2_with (go_at_call 103;refine(pF _ _).mono ?_;rintro e j ⟨rfl,I⟩;subst j;rw[H.out.2.2.2]);go_at_call 202;apply H.out.2.1.mono;rintro e w1 ⟨rfl,r,F⟩;rw[if_pos U]at r;have G:=e8<|Á r F;clear r F;subst P;have e3:(p !=0)=Ú:=by rwa[bne_iff_ne]
 go_wp2_with (go_at_call 103;refine(pF _ _).mono ?_;rintro e j ⟨rfl,I⟩;subst j;rw[H.out.2.2.2])
 go_at_call 204;refine(mR ok G.out.1<|by simp at v|-;omega).mono ?_;rintro e w2 ⟨rfl,GZ,I,J⟩;go_wp2_with fail;go_at_call 204;refine(mR ok I<|by simp at v;omega).mono ?_;rintro e w3 ⟨rfl,Rv,V,L⟩;have T:=(G.out.2.fc J).fc L;clear I J L;go_wp2_with fail;exact S _ _ (gl _) ⟨_,_,V,T⟩
def akG(ok:E.Ok)(u:Nat->È)(b:R E i c z x zQ s f w)(W:B.size<=40)(n:Nat)(M:h=n)(N:n<B.size)(t:iF w)(k l m:Int)(v:zQ.length<=700)(O:0<=c.g)(Y:c.g<=100000)(p q:Int)(y:List Int)(P:zQ=(y++[p])++[q])(Q:p=0)(C:lz ((B[n]'N).toNat:Int)=17)(o:iT[(17:Nat)]?=Ã (k,l,m))(D:lN c.g zQ.length k l m=Ú) (S:∀a j,Bs i B ((n:Int)+1) a->kC E i z x f.length w (oh c<|c.g-k) y s f j->K a j): Î À tO (Exit.then K<|QQ X) (nu i B h u) w:=by
 unfold nu;conv=>arg 2;whnf
 subst M;have e1:((n:Int)==(B.size:Int))=Ï:=by rw[beq_eq_false_iff_ne];omega
 have e2:decide ((B.size:Int)<(n:Int))=Ï:=decide_eq_false Z;have Gw:(0:Int)<=(n:Int):=Z
 have uZ:(n:Int)<(B.size:Int):=Z
 have d:=Bp E ok i c z x zQ s f w b t 17 k l m o Z O Z;rw[D]at d;have H:=e8<|Á b<|Á d<|Á o C;clear b d t o D C;go_wp2_with (go_at_call 103;refine(pF _ _).mono ?_;rintro e j ⟨rfl,I⟩;subst j;rw[H.out.2.2.2]);go_at_call 202;apply H.out.2.1.mono;rintro e w1 ⟨rfl,r,F⟩;rw[if_pos U]at r;have G:=e8<|Á r F;clear r F;subst P;subst Q;go_wp2_with (go_at_call 103;refine(pF _ _).mono ?_;rintro e j ⟨rfl,I⟩;subst j;rw[H.out.2.2.2]);go_at_call 204;refine(mR ok G.out.1<|by simp at v|-;omega).mono ?_;rintro e w2 ⟨rfl,GZ,I,J⟩;go_wp2_with fail;go_at_call 204;refine(mR ok I<|by simp at v;omega).mono ?_;rintro e w3 ⟨rfl,Rv,V,L⟩;have T:=(G.out.2.fc J).fc L;clear I J L;go_wp2_with fail;exact S _ _ (gl _) ⟨_,_,V,T⟩
def akH(ok:E.Ok)(u:Nat->È)(b:R E i c z x zQ s f w)(hP:B.size<=40)(n:Nat)(Q:h=n)(S:n<B.size)(r:iF w)(l o q:Int)(T:zQ.length<=700)(V:0<=c.g)(va:c.g<=100000)(k:Nat)(W:2<=k)(Y:k<=20)(Zd:k≠17)(Br:o<=zQ.length)(oI:0<=c.d)(hd:c.d<=4)(hF:c.d<4->rZ F (c.d+1))(I:pD F)(J:gD s)(hx:c.x<8)(hy:c.y<8)(L:∀p∈zQ,fW p)(hlen:(f.length:Int)+c.g<=1000000)(t:RT)(M:t=nN F c k ⟨zQ,s,f,c.g-l⟩)(Zf:0<=l)(Rw:l<=c.g)(N:lz ((B[n]'S).toNat:Int)=k)(v:iT[(k:Nat)]?=Ã (l,o,q))(O:lN c.g zQ.length l o q=Ú) (hK:∀a m,Bs i B ((n:Int)+1) a->kC E i z x f.length w (oh c t.g) t.r t.s t.C m->K a m): Î À tO (Exit.then K<|QQ X) (nu i B h u) w:=by
 unfold nu;conv=>arg 2;whnf
 subst Q;have e1:((n:Int)==(B.size:Int))=Ï:=by rw[beq_eq_false_iff_ne];omega
 have e2:decide ((B.size:Int)<(n:Int))=Ï:=decide_eq_false Z;have Gw:(0:Int)<=(n:Int):=Z
 have uZ:(n:Int)<(B.size:Int):=Z
 have j:=Bp E ok i c z x zQ s f w b r k l o q v Z V Z;rw[O]at j;have H:=e8<|Á b<|Á j<|Á r<|Á v N;clear b j r v O N;go_wp2_with (go_at_call 103;refine(pF _ _).mono ?_;rintro e m ⟨rfl,hw⟩;subst m;rw[H.out.2.2.2.2]);go_at_call 202;apply H.out.2.1.mono;rintro e w1 ⟨rfl,C,P⟩;rw[if_pos U]at C;have G:=e8<|Á C P;clear C P;have e11:((k:Int)==1)=Ï:=by rw[beq_eq_false_iff_ne];omega
 have e27:((k:Int)==17)=Ï:=by rw[beq_eq_false_iff_ne];omega
 have e31:((k:Int)==21)=Ï:=by rw[beq_eq_false_iff_ne];omega
 have e32:((k:Int)==22)=Ï:=by rw[beq_eq_false_iff_ne];omega
 have D:=aky (t:=t) ok G.out.1 T oI hd hF I (H.out.2.2.1.N ok H.out.1 G.out.2) J hx hy L (by show 0<=c.g-l;omega) (by show c.g-l<=100000;omega) (by show(f.length:Int)+(c.g-l)<=1000000;omega) k W Y Zd l o q H.out.2.2.2.1 Br M;have HD:=e8 D;clear D hF I J L hlen M;go_wp2_with (go_at_call 103;refine(pF _ _).mono ?_;rintro e m ⟨rfl,hw⟩;subst m;rw[H.out.2.2.2.2]);go_at_call 205;apply HD.out.mono;rintro e w2 ⟨rfl,GZ,Kl,h2,t2⟩;go_wp2_with fail;exact hK _ _ (gl _) ⟨_,_,h2,G.out.2.fc t2⟩
end
def pG(k:Nat):Int×Int×Int:=(iT[k]?).getD (0,0,0)
def Dw(P:ByteArray)(a:Int):Int:=((P.data.getD a.toNat 0).toNat:Int)
def k9(P:ByteArray)(a:Int):Nat:=lz<|Dw P a
def se(F:lO)(c:RC)(P:ByteArray):Nat->Int->RT->Int×Bool×RT
 |0,_,t=>(0,Ï,t)
 |f+1,pl,t=>
  if pl=P.size then(0,Ú,t)
  else if(P.size:Int)<pl then(0,Ï,{t with g:=0})
  else if lN t.g t.r.length (pG<|k9 P pl).1 (pG<|k9 P pl).2.1 (pG<|k9 P pl).2.2=Ï then(0,Ï,{t with g:=0})
  else if k9 P pl=1 then se F c P f (pl+1) {t with r:=t.r++[Dw P pl-48],g:=t.g-(pG<|k9 P pl).1}
  else if k9 P pl=17 then
   if fU (fS t.r)=0 then se F c P f (pl+1) {t with r:=fS<|fS t.r,g:=t.g-(pG<|k9 P pl).1}else se F c P f (fU t.r) {t with r:=fS<|fS t.r,g:=t.g-(pG<|k9 P pl).1}
  else if k9 P pl=21 then(fU t.r,Ú,{t with r:=fS t.r,g:=t.g-(pG<|k9 P pl).1})
  else if k9 P pl=22 then(0,Ï,{t with g:=t.g-(pG<|k9 P pl).1})
  else se F c P f (pl+1) (nN F c (k9 P pl) {t with g:=t.g-(pG<|k9 P pl).1})
structure ny(t:RT):Prop where
 r:∀p∈t.r,fW p
 M:t.r.length<=32
 s:gD t.s
 g0:0<=t.g
 C:t.g<=100000
 I:(t.C.length:Int)+t.g<=1000000
def akI{p:Prop}[Decidable p](c:i<=m)(d:b<=m):(if p then i else b)<=m:=by split;exact c;exact d
def Zg(c:Int):lz c<=22:=by unfold lz;repeat' (first|refine akI A ?_|decide)
def tP:fW 0:=⟨A,A⟩
def akJ:fW 1:=⟨A,A⟩
theorem Zh(h:k<=22):iT[k]?=Ã (pG k):=by
 unfold pG;have:k<iT.length:=by show k<23;omega
 grind
def yH(n:Int):fW (wu n):=⟨ajT n,ajU n⟩
def Zi(b:Bool):fW (wN b):=by cases b<;>exact⟨A,A⟩
def akK{q:Int}(a:fW c)(d:fW q):fW (wO h c q):=by
 unfold wO;repeat' split
 all_goals first|exact yH _|exact Zi _|exact⟨A,A⟩|skip
 rename_i e;have b:=a.1;exact⟨Int.ediv_nonneg b d.1,Int.lt_of_le_of_lt (Int.ediv_le_self _ b) a.2⟩
def gD.fX{s:St}(h:gD s){a:GO}(b:fW a.fp)(d:∀j,fW<|a.C j)(e:a.r.size<=40/\∀c∈a.r.data.toList,wP c=Ú):gD (s.fX i a):=by
 refine⟨λj=> ?_,λj k=> ?_,λj=> ?_⟩<;>unfold St.fX<;>split
 .exact b
 .exact h.fp j
 .exact d k
 .exact h.C j k
 .exact e
 .exact h.I j
def gD.r{s:St}(h:gD s)(i:Nat){b:Int}(a:fW b):gD (s.fp i b):=h.fX a (h.C i)<|h.I i
def gD.Rp{s:St}(h:gD s)(i j:Nat)(a:fW c):gD (s.r i j c):=by
 refine h.fX (h.fp i) (λk=> ?_)<|h.I i;show fW (if k=j then c else(s i).C k);split
 .exact a
 .exact h.C i k
def akL{s:St}(h:gD s)(y:Nat){p:Int}(a:fW p):fW (qh s y c p).1/\gD (qh s y c p).2:=by
 unfold qh;split
 .exact⟨tP,h⟩
 .rename_i d;have b:=h.fp y;have e:=a.1;refine⟨akJ,gD.r (gD.r h y ⟨Z,by have:=b.2;omega⟩) _<|yH _⟩
def Zj(h:n<8):fW (n:Int):=⟨Z,Z⟩
section
variable{F:lO}{c:RC}{t:RT}
def sf{m:List Int}(h:∀p∈zQ,fW p)(k:∀p∈m,fW p):∀p∈zQ++m,fW p:=λp a=>(ú.1 a).elim (h p)<|k p
def wT{a:Int}(h:fW a):∀p∈[a],fW p:=λp b=>by simp at b;subst b;exact h
def Rx{a b:Int}(h:fW a)(k:fW b):∀p∈[a,b],fW p:=λp c=>by simp at c;rcases c with rfl|rfl;exact h;exact k
def akM(b:pD F)(a:ny t)(d:c.y<8){p k:Int}(f:fW h)(i:fW p)(j:fW k): fW (iP F c t h p k).1/\fW (iP F c t h p k).2.1/\gD (iP F c t h p k).2.2.s/\0<=(iP F c t h p k).2.2.g/\(iP F c t h p k).2.2.g<=t.g/\((iP F c t h p k).2.2.C.length:Int)+(iP F c t h p k).2.2.g<=(t.C.length:Int)+t.g:=by
 unfold iP;split
 .exact⟨tP,tP,a.s,a.g0,Ö _,Ö _⟩
 .have l:0<=min p t.g:=by have:=i.1;have:=a.g0;omega
  have m:=a.C;have n:=a.I;have o:=f.1;have e:=b t.s t.C c.y (h%8).toNat (min p t.g) k a.s d Z j l Z Z;have r:=e.C;have u:=e.r;have v:=e.I;refine⟨e.M,Zi _,e.N,?_,?_,?_⟩;all_goals simp only
  all_goals have:=a.g0
  all_goals omega
theorem Zk(v:pD F)(w:c.x<8)(r:c.y<8)(z:fW c.k)(P:2<=k)(Q:k<=20)(S:k≠17){o u:Int}(d:iT[k]?=Ã (h,o,u)){g:Int}(T:t.g=g-h)(a:ny t)(V:(t.C.length:Int)+g<=1000000)(W:o<=t.r.length)(X:(t.r.length:Int)-o+u<=32): ny (nN F c k t)/\(nN F c k t).g<=t.g/\((nN F c k t).C.length:Int)+(nN F c k t).g<=t.C.length+g:=by
 have i:=sd a.r;have j:=sd<|oP a.r;have B:=sd<|oP<|oP a.r;have m:=oP a.r;have n:=oP m;have C:=oP n;have f:=pE t.r;have q:=pE<|fS t.r;have Y:=pE<|fS<|fS t.r;have g1:=a.C;obtain⟨D,E,G,H,I,J⟩:=KD k _ d;simp only at D E G H I J;have len:=a.M;have b:∀{l:List Int},(∀p∈l,fW p)->l.length<=32->ny {t with r:=l}:=λp K=>⟨p,K,a.s,a.g0,a.C,a.I⟩;have cases:(k=2\/k=3\/k=4\/k=5\/k=6\/k=7)\/k=8\/k=9\/k=10\/k=11\/k=12\/k=13\/k=14\/k=15\/k=16\/k=18\/k=19\/k=20:=Z
 rcases cases with hq|rfl|rfl|rfl|rfl|rfl|rfl|rfl|rfl|rfl|rfl|rfl|rfl
 .have e:nN F c k t={t with r:=fS (fS t.r)++[wO k (fU<|fS t.r)<|fU t.r]}:=by
   rcases hq with rfl|rfl|rfl|rfl|rfl|rfl<;>rfl
  rw[e];exact⟨b (sf n<|wT<|akK j i) (by simp[f,q];omega),Ö _,by simp only;omega⟩
 .exact⟨b (sf m<|Rx i i) (by simp[f];simp[iT]at d;omega),Ö _,by show(t.C.length:Int)+t.g<=_;omega⟩
 .exact⟨b (sf n<|Rx i j) (by simp[f,q];omega),Ö _,by show(t.C.length:Int)+t.g<=_;omega⟩
 .exact⟨b m (by rw[f];omega),Ö _,by show(t.C.length:Int)+t.g<=_;omega⟩
 .exact⟨b (sf a.r<|wT z) (by simp;simp[iT]at d;omega),Ö _,by show(t.C.length:Int)+t.g<=_;omega⟩
 .exact⟨b (sf a.r<|wT<|Zj w) (by simp;simp[iT]at d;omega),Ö _,by show(t.C.length:Int)+t.g<=_;omega⟩
 .exact⟨b (sf a.r<|wT<|Zj r) (by simp;simp[iT]at d;omega),Ö _,by show(t.C.length:Int)+t.g<=_;omega⟩
 .exact⟨b (sf a.r<|wT<|a.s.fp _) (by simp;simp[iT]at d;omega),Ö _,by show(t.C.length:Int)+t.g<=_;omega⟩
 .exact⟨b (sf m<|wT<|a.s.C _ _) (by simp[f];omega),Ö _,by show(t.C.length:Int)+t.g<=_;omega⟩
 .exact⟨⟨n,by show(fS<|fS t.r).length<=32;omega,a.s.Rp _ _ j,a.g0,a.C,a.I⟩,Ö _,by show(t.C.length:Int)+t.g<=_;omega⟩
 .obtain⟨e,L⟩:=akL a.s c.y j;exact⟨⟨sf n<|wT e,by show(fS (fS t.r)++[_]).length<=32;simp[f,q];omega,L,a.g0,a.C,a.I⟩,Ö _,by show(t.C.length:Int)+t.g<=_;omega⟩
 .have e:h=4:=by simp[iT]at d;omega
  refine⟨⟨m,by show(fS t.r).length<=32;omega,a.s,a.g0,a.C,?_⟩,Ö _,?_⟩
  .show((t.C++[_]).length:Int)+t.g<=_;simp;omega
  .show((t.C++[_]).length:Int)+t.g<=_;simp;omega
 .obtain⟨e,L,M,N,O,w6⟩:=akM v a r i j B;refine⟨⟨sf C<|Rx e L,?_,M,N,?_,?_⟩,O,?_⟩
  .show(fS (fS<|fS t.r)++[_,_]).length<=32;grind
  .show(iP F c t _ _ _).2.2.g<=_;omega
  .show((iP F c t _ _ _).2.2.C.length:Int)+(iP F c t _ _ _).2.2.g<=_;omega
  .show((iP F c t _ _ _).2.2.C.length:Int)+(iP F c t _ _ _).2.2.g<=_;omega
end
def Bt(a:Nat)(w:É):Nat:=match w.cell? ⟨a,5,Ä⟩with
 |some (Â _ n)=>n.toNat
 |_=>0
def R.G{E:iO}{c:RC}{s:St}{a:List (Nat×Int)}(h:R E i c v x zQ s a w):Bt i w=c.g.toNat:=by unfold Bt;rw[h.r.r 5 _ U]
def SI(E:iO)(d:Nat)(c:RC)(P:ByteArray)(F:lO)(f h:È)(i:Nat)(j:É)(k:Int×Bool×RT)(a:é)(w:É):Prop:=
 ∃(b:Int) (t:RT) (e:Nat),Bs d P b a/\fW b/\kC E d f h i j (oh c t.g) t.r t.s t.C w/\ny t/\iF w/\t.g.toNat<e/\se F c P e b t=k
def SX(E:iO)(d:Nat)(c:RC)(P:ByteArray)(e f:È)(h:Nat)(i:É)(b:Int×Bool×RT)(a:é)(w:É):Prop:=
 Dv d P b.1 b.2.1 a/\kC E d e f h i (oh c b.2.2.g) b.2.2.r b.2.2.s b.2.2.C w
def Ry(a:n<B.size):Dw B (n:Int)=((B[n]'a).toNat:Int):=by unfold Dw;rw[Ŷ];have b:n<B.data.size:=a;simp only[Array.getD,b,dif_pos];rfl
theorem Rz{s:St}(b:gD s)(y:Nat)(a:n<(s y).r.size):1<=k9 (s y).r (n:Int):=by
 unfold k9;rw[Ry a];have c:((s y).r[n]'a)∈(s y).r.data.toList:=by have:(s y).r[n]'a=(s y).r.data[n]'a:=U;grind [Array.getElem_mem]
 have:=(b.I y).2 _ c;unfold wP at this;have:=of_decide_eq_true this;omega
def Zl{b a d:Int}(h:lN c n b a d=Ú):b<=c/\a<=n/\(n:Int)-a+d<=32:=by unfold lN at h;simp at h;omega
def akN{p:Prop}[Decidable p](c:i≠m)(d:b≠m):(if p then i else b)≠m:=by split;exact c;exact d
def Zm(h:lz c=1):48<=c/\c<=57:=by
 by_cases a:48<=c/\c<=57
 .exact a
 .exfalso;revert h;unfold lz;rw[if_neg a];repeat' (first|refine akN A ?_|decide)
def akO(a:1<=k)(b:k<=22):1<=(pG k).1:=by
 have h:∀k:Fin 23,1<=k.val->1<=(pG k.val).1:=A
 exact h ⟨k,Z⟩ a
section
variable{E:iO}{c:RC}{F:lO}{l:Int×Bool×RT}
def akP(ok:E.Ok)(hP:B.size<=40)(akQ:∀n,n<B.size->1<=k9 B (n:Int))(oI:0<=c.d)(hd:c.d<=4)(hF:c.d<4->rZ F (c.d+1))(hI:pD F)(hx:c.x<8)(hy:c.y<8)(KF:fW c.k)(a:é)(w:É)(h:SI E j c B F z v i W l a w): Î À tO (Exit.then (λa' w'=>SI E j c B F z v i W l a' w'/\Bt j w'<Bt j w)<|QQ<|SX E j c B z v i W l) a w:=by
 let⟨pl,t,fuel,hfr,sP,⟨sv,lv,hR,hT⟩,ht,hr,hfu,hres⟩:=h;have g0:=ht.g0;have g1:=ht.C;have hl:=ht.M;have akR:=hR.G;obtain⟨f,rfl⟩:∃f,fuel=f+1:=⟨fuel-1,Z⟩;unfold se at hres;obtain⟨u,rfl⟩:=hfr;by_cases h1:pl=B.size
 .rw[if_pos h1]at hres;subst hres;apply akz ok u hR hP h1;rintro a' w' q1 ⟨jR,jm,r1,r2⟩;exact⟨q1,jR,jm,r1,hT.fc r2⟩
 rw[if_neg h1]at hres;by_cases h2:(B.size:Int)<pl
 .rw[if_pos h2]at hres;subst hres;apply akA ok u hR hP h2;rintro a' w' q1 ⟨jR,jm,r1,r2⟩;exact⟨q1,jR,jm,r1,hT.fc r2⟩
 rw[if_neg h2]at hres;have Zc:=sP.1;obtain⟨n,rfl⟩:∃n:Nat,pl=n:=⟨pl.toNat,Z⟩;have hn:n<B.size:=Z
 have k1:=akQ n hn;have tN:lz ((B[n]'hn).toNat:Int)=k9 B (n:Int):=by unfold k9;rw[Ry hn]
 have k2:k9 B (n:Int)<=22:=Zg _;have hk:=Zh k2;have Zf:=akO k1 k2;let⟨b1,b2,b3,b4,b5,b6⟩:=KD _ _ hk;have akS:=Ry hn;generalize k9 B (n:Int)=k at*;generalize hro:pG k=ro at*;let⟨co,ta,pu⟩:=ro;simp only at hres hk Zf b1 b2 b3 b4 b5 b6;by_cases h3:lN t.g t.r.length co ta pu=Ï
 .rw[if_pos h3]at hres;subst hres;apply akB ok u hR hP n U hn hr co ta pu Z g0 g1 k tN hk h3;rintro a' w' q1 ⟨jR,jm,r1,r2⟩;exact⟨q1,jR,jm,r1,hT.fc r2⟩
 rw[if_neg h3]at hres;have n9:lN t.g t.r.length co ta pu=Ú:=by cases e:lN t.g t.r.length co ta pu with
  |true=>rfl
  |false=>exact absurd e h3
 let⟨Rw,Br,RE⟩:=Zl n9;have RG:=ht.I;have uZ:fW ((n:Int)+1):=⟨Z,Z⟩;have KG:∀{a':é} {w':É} {G0:Int} {t':RT} {jR jm:È},Bs j B G0 a'->fW G0->R E j (oh c t'.g) jR jm t'.r t'.s t'.C w'->Tr E j sv lv t.C.length w jR jm t'.C.length w'->ny t'->t'.g<=t.g-co->se F c B f G0 t'=l->SI E j c B F z v i W l a' w'/\Bt j w'<Bt j w:=by intro a' w' G0 t' jR jm q1 q2 q3 q4 q5 q6 q7;refine⟨⟨G0,t',f,q1,q2,⟨jR,jm,q3,hT.fc q4⟩,q5,hr.N ok hR q4,Z,q7⟩,?_⟩;rw[q3.G,akR];show t'.g.toNat<t.g.toNat;omega
 by_cases h4:k=1
 .rw[if_pos h4]at hres;subst h4;have Zn:=Zm tN;apply akE ok u hR hP n U hn hr co ta pu Z g0 g1 Zn.1 Zn.2 tN hk n9;rintro a' w' q1 ⟨jR,jm,r1,r2⟩;rw[akS]at hres;refine KG (t':={t with r:=t.r++[((B[n]'hn).toNat:Int)-48],g:=t.g-co}) q1 uZ r1 r2 ⟨sf ht.r<|wT ⟨Z,Z⟩,?_,ht.s,by show 0<=t.g-co;omega,by show t.g-co<=100000;omega,by show(t.C.length:Int)+(t.g-co)<=1000000;omega⟩ (Ö _) hres;simp[iT]at hk;simp;omega
 rw[if_neg h4]at hres;by_cases h5:k=17
 .rw[if_pos h5]at hres;subst h5;have akT:ta=2:=by simp[iT]at hk;omega
  have e2:t.r=(fS (fS t.r)++[fU<|fS t.r])++[fU t.r]:=by rw[wS (by rw[pE];omega),wS Z]
  have tok:ny {t with r:=fS<|fS t.r,g:=t.g-co}:=⟨oP<|oP ht.r,by show(fS<|fS t.r).length<=32;rw[pE,pE];omega,ht.s,by show 0<=t.g-co;omega,by show t.g-co<=100000;omega,by show(t.C.length:Int)+(t.g-co)<=1000000;omega⟩;by_cases h6:fU (fS t.r)=0
  .rw[if_pos h6]at hres;apply akG ok u hR hP n U hn hr co ta pu Z g0 g1 _ _ _ e2 h6 tN hk n9;rintro a' w' q1 ⟨jR,jm,r1,r2⟩;exact KG (t':={t with r:=fS<|fS t.r,g:=t.g-co}) q1 uZ r1 r2 tok (Ö _) hres
  .rw[if_neg h6]at hres;apply akF ok u hR hP n U hn hr co ta pu Z g0 g1 _ _ _ e2 h6 tN hk n9;rintro a' w' q1 ⟨jR,jm,r1,r2⟩;exact KG (t':={t with r:=fS<|fS t.r,g:=t.g-co}) q1 (sd ht.r) r1 r2 tok (Ö _) hres
 rw[if_neg h5]at hres;by_cases h6:k=21
 .rw[if_pos h6]at hres;subst h6 hres;have akT:ta=1:=by simp[iT]at hk;omega
  apply akD ok u hR hP n U hn hr co ta pu Z g0 g1 _ _ (wS Z).symm tN hk n9;rintro a' w' q1 ⟨jR,jm,r1,r2⟩;exact⟨q1,jR,jm,r1,hT.fc r2⟩
 rw[if_neg h6]at hres;by_cases h7:k=22
 .rw[if_pos h7]at hres;subst h7 hres;apply akC ok u hR hP n U hn hr co ta pu Z g0 g1 tN hk n9;rintro a' w' q1 ⟨jR,jm,r1,r2⟩;exact⟨q1,jR,jm,r1,hT.fc r2⟩
 rw[if_neg h7]at hres;let⟨d1,d2,d3⟩:=Zk (t:={t with g:=t.g-co}) hI hx hy KF Z Z h5 hk U ⟨ht.r,ht.M,ht.s,by show 0<=t.g-co;omega,by show t.g-co<=100000;omega,by show(t.C.length:Int)+(t.g-co)<=1000000;omega⟩ RG Br RE;apply akH ok u hR hP n U hn hr co ta pu Z g0 g1 k Z Z h5 Br oI hd hF hI ht.s hx hy ht.r RG (nN F c k {t with g:=t.g-co}) U b1 Rw tN hk n9;rintro a' w' q1 ⟨jR,jm,r1,r2⟩;exact KG q1 uZ r1 r2 d1 d2 hres
end
section
variable{E:iO}{c:RC}{F:lO}{lv:È}{s:St}{b:List (Nat×Int)}
def nO(F:lO)(c:RC)(s:St)(b:List (Nat×Int)):Int×Bool×RT:=se F c (s c.y).r (c.g.toNat+1) 0 ⟨[],s,b,c.g⟩
def akU(ok:E.Ok)(h:R E i c v lv [] s b w)(l:0<=c.d)(o:c.d<=4)(hF:c.d<4->rZ F (c.d+1))(p:pD F)(q:iF w)(f:gD s)(r:c.x<8)(j:c.y<8)(t:fW c.k)(z:0<=c.g)(B:c.g<=100000)(C:(b.length:Int)+c.g<=1000000): Ò À 191 #[Å<|Ã ⟨i,0,Ä⟩] w λe a=>e=Ç (æ #[Â Æ (nO F c s b).1,Ñ (nO F c s b).2.1])/\kC E i v lv b.length w (oh c (nO F c s b).2.2.g) (nO F c s b).2.2.r (nO F c s b).2.2.s (nO F c s b).2.2.C a:=by
 have G:=h.r.r 0 _ U;have I:=h.r.r 2 _ U;have J:=h.C.KA j;have K:=h.r.M;have M:=fe.M h.C;have e:=(f.I c.y).1;have L:∀m,∀a,Bs i (s c.y).r 0 a->Î À (à tO) (QQ<|SX E i c (s c.y).r v lv b.length w<|nO F c s b) a (w.drewN m):=λm a D=>by refine Ĉ (SI E i c (s c.y).r F v lv b.length w<|nO F c s b) (λ_ w=>Bt i w) ?_ (akP ok e (λn u=>Rz f c.y u) l o hF p r j t);have k:=eZ.iJ e9 w m;exact⟨0,⟨[],s,b,c.g⟩,c.g.toNat+1,D,tP,⟨v,lv,h.fG k,Tr.fG k⟩,⟨fh,fh,f,z,B,C⟩,q.r k id,fh,U⟩
 have H:=e8 L;generalize nO F c s b=res at*;generalize N:(s c.y).r=P at*;go_enter Tryz.func191,Tryz.ntmps191;go_wp2_with fail;go_step3;go_wp2_with fail;go_quiet (fail);go_wp2_with fail;go_step3;go_wp2_with fail;refine Ý ?_ (H.out _ _ (gl _));rintro(_|(_|_)|_|_|_|_) a v hq;all_goals first|exact absurd hq id|skip
 let⟨n,O⟩:=hq;obtain⟨u,rfl⟩:=n;unfold Ze;go_wp2_with fail;(try rw[Exit.noGoto_ret]);go_ret2;simp_all
end
def RH(a:o.op=bh T)(b:P.info? T=Ã zJ)(c:zJ.zero=Ã z): (Ĥ xX o).run P w=φ (.value<|Å<|Ã ⟨w.heap.size,0,Ä⟩) (w.alloc<|Ð z.cells T):=by unfold Ĥ;simp[a,Instr.alloc,zeroValue,typeInfo,b,c,newVar,newRow]
def KH:∀(e a d:List È) (w:É) (c:List È),c.length=e.length->fe b (a++c++d) T w->fe b (a++e++d) T (w.setCells b a.length e)
 |[],a,d,w,c,hl,h=>by have:c=[]:=ß (by simpa using hl);subst this;exact h
 |v::r,a,d,w,c,hl,h=>by
  match c,hl,h with
  |x::c,hl,h=>
   have f:=h.fX a.length v;rw[show(a++x::c++d).set a.length v=(a++[v])++c++d by simp]at f;have:=KH r (a++[v]) d _ c (by simpa using hl) f;rw[show(a++[v]).length=a.length+1 by simp]at this;rw[show a++v::r++d=a++[v]++r++d by simp];exact this
def NF.pO(h:NF b w)(p:ă)(v:È):NF b (w.setCell p v):=λc T d q=>by
 by_cases e:b=p.block
 .subst e;unfold ą at q;simp only[Û,if_true]at q;cases a:w.heap[p.block]? with
  |none=>rw[a]at q;cases q
  |some f=>
   rw[a]at q;cases f with
   |cells g t z=>
    simp only[ñ,è,ģ]at q;rw[<-q.2.1];exact h _ _ _ a
   |_=>cases q
 .rw[Ė _ _ _ _ (by simpa using e)]at q;exact h c T d q
def G1:∀(vs:List È) (o:Nat) (w:É),NF b w->eZ (λk=>k=b) w (w.setCells b o vs)
 |[],_,w,_=>eZ.fQ _ w
 |v::r,o,w,h=>(eZ.I (X:=λk=>k=b) (p:=⟨b,o,Ä⟩) U v<|Ù h).fc<|G1 r (o+1) _<|h.pO _ _
def fe.RJ{vs:List È}(h:fe j vs T w)(a:n<=vs.length):w.there j 0 n:=λi b=>by refine⟨?_,h.C _⟩;rw[h.r (0+i) (vs[0+i]'Z)<|Ô Z];rfl
def fe.Y{vs tl:List È}(h:fe j (vs++tl) T w):w.rangeAt j 0 vs:=λi v a=>by apply h.r (0+i) v;rwa[ł,ç (Ü.1 a).1]
def Zo{P:Program}{ops:Array Oper}{rest:List Oper}{o1 o2:Oper}{a:Act}{w:World}{Q:Exit->Act->World->Prop}(g1:o1.guard=none)(g2:o2.guard=none)(T:TypeId)(h1:o1.op=.alloc T)(d:Tmp)(hd:o1.dst=some d)(x y:Operand)(h2:o2.op=.store T x y)(oc:o2.dst=none) {i:TypeInfo} {z:Value} (hi:P.info? T=some i) (hz:i.zero=some z) (cs:List Value) (jC:i.size=cs.length) (qP:z.cells.size=cs.length) (hx:(a.put (some d)<|.pointer<|some ⟨w.heap.size,0,none⟩).eval x=.pointer (some ⟨w.heap.size,0,none⟩)) (hy:(a.put (some d)<|.pointer<|some ⟨w.heap.size,0,none⟩).eval y=.agg cs.toArray) (KI:∀v∈cs,v.oneCell'=true) (h:∀w',fe w.heap.size cs T w'->eZ e9 w w'->w'.heap.size=w.heap.size+1->wpList P ops Q rest (a.put (some d)<|.pointer<|some ⟨w.heap.size,0,none⟩) w') (hT:lM T=false:=by decide):wpList P ops Q (o1::o2::rest) a w:=by
 apply Ć g1 (Ã d) hd _ _ (RH h1 hi hz);have hB:fe w.heap.size z.cells.toList T (w.alloc<|Ð z.cells T):=by have:=fe.N w z.cells.toList T;simpa using this
 refine ľ g2 T x y h2 w.heap.size 0 cs.toArray hx hy (hB.RJ<|by simp[qP]) (by rw[hi];simp[jC]) (Ī KI) ?_;rw[oc];have hB2:=KH cs [] [] (w.alloc<|Ð z.cells T) z.cells.toList (by simpa using qP) (by simpa using hB);refine h _ (by simpa using hB2) ?_ ?_
 .refine(eZ.gC e9 w _ _<|Ø hT).C (G1 _ _ _<|hB.G hT) λk hk e=> ?_;omega
 .have:∀(vs:List È) (o:Nat) (w:É) (b:Nat),(w.setCells b o vs).heap.size=w.heap.size:=by
   intro vs
   induction vs with
   |nil=>intro o w b;rfl
   |cons v r ih=>intro o w b;rw[World.setCells,ih];simp
  simp[this]
section
variable{c:RC}{F:lO}
structure yI(t:RT)(r:Int×Bool×RT):Prop where
 M:fW r.1
 s:gD r.2.2.s
 g0:0<=r.2.2.g
 C:r.2.2.g<=t.g
 I:(r.2.2.C.length:Int)+r.2.2.g<=t.C.length+t.g
def yI.r{t a:RT}{r:Int×Bool×RT}(h:yI a r)(b:a.g<=t.g)(c:(a.C.length:Int)+a.g<=t.C.length+t.g):yI t r:= ⟨h.M,h.s,h.g0,ŷ h.C b,ŷ h.I c⟩
def Dx{J:St->List (Nat×Int)->Prop}(u:B.size<=40)(d:∀n,n<B.size->1<=k9 B (n:Int))(h:pD F)(i:c.x<8)(j:c.y<8)(m:fW c.k)(o:∀(k:Nat) (t:RT),k<=20->ny t->J t.s t.C->J (nN F c k t).s (nN F c k t).C):∀(p:Nat) (b:Int) (t:RT),fW b->ny t->J t.s t.C->yI t (se F c B p b t)/\J (se F c B p b t).2.2.s (se F c B p b t).2.2.C
 |0,_,t,_,ht,hj=>⟨⟨tP,ht.s,ht.g0,Ö _,Ö _⟩,hj⟩
 |f+1,b,t,sP,ht,hj=>by
  have S:=ht.g0;have g1:=ht.C;have T:=ht.M;have V:=ht.I;have L:yI t (0,Ï,{t with g:=0})/\J t.s t.C:=⟨⟨tP,ht.s,Ö _,S,by show(t.C.length:Int)+0<=_;omega⟩,hj⟩;unfold se;by_cases M:b=B.size
  .rw[if_pos M];exact⟨⟨tP,ht.s,ht.g0,Ö _,Ö _⟩,hj⟩
  rw[if_neg M];by_cases N:(B.size:Int)<b
  .rwa[if_pos N]
  rw[if_neg N];have Zc:=sP.1;obtain⟨n,rfl⟩:∃n:Nat,b=n:=⟨b.toNat,Z⟩;have W:n<B.size:=Z
  have k1:=d n W;have X:k9 B (n:Int)<=22:=Zg _;have v:=Zh X;let⟨Y,b2,b3,b4,b5,b6⟩:=KD _ _ v;have akV:k9 B (n:Int)=1->48<=Dw B (n:Int)/\Dw B (n:Int)<=57:=Zm;generalize k9 B (n:Int)=k at*;generalize hro:pG k=ro at*;let⟨a,w,z⟩:=ro;simp only at v Y b2 b3 b4 b5 b6|-;by_cases C:lN t.g t.r.length a w z=Ï
  .rwa[if_pos C]
  rw[if_neg C];have n9:lN t.g t.r.length a w z=Ú:=by cases e:lN t.g t.r.length a w z with
   |true=>rfl
   |false=>exact absurd e C
  let⟨Rw,Br,RE⟩:=Zl n9;have D:fW ((n:Int)+1):=⟨Z,Z⟩;have E:∀{l:List Int},(∀p∈l,fW p)->l.length<=32->ny {t with r:=l,g:=t.g-a}:=λG H=>⟨G,H,ht.s,by show 0<=t.g-a;omega,by show t.g-a<=100000;omega,by show(t.C.length:Int)+(t.g-a)<=1000000;omega⟩;have I:∀{l:List Int} {r:Int×Bool×RT},yI {t with r:=l,g:=t.g-a} r/\J r.2.2.s r.2.2.C->yI t r/\J r.2.2.s r.2.2.C:=λq=>⟨q.1.r (by show t.g-a<=t.g;omega) (by show(t.C.length:Int)+(t.g-a)<=_;omega),q.2⟩;by_cases p:k=1
  .rw[if_pos p];have:=akV p;subst p;refine I<|Dx u d h i j m o f _ _ D (E (sf ht.r<|wT ⟨Z,Z⟩) ?_) hj;simp[iT]at v;simp;omega
  rw[if_neg p];by_cases K:k=17
  .rw[if_pos K];have O:=E (oP<|oP ht.r) (by rw[pE,pE];omega);split
   .exact I<|Dx u d h i j m o f _ _ D O hj
   .exact I<|Dx u d h i j m o f _ _ (sd ht.r) O hj
  rw[if_neg K];by_cases O:k=21
  .rw[if_pos O];exact⟨⟨sd ht.r,ht.s,by show 0<=t.g-a;omega,by show t.g-a<=t.g;omega,by show(t.C.length:Int)+(t.g-a)<=_;omega⟩,hj⟩
  rw[if_neg O];by_cases P:k=22
  .rw[if_pos P];exact⟨⟨tP,ht.s,by show 0<=t.g-a;omega,by show t.g-a<=t.g;omega,by show(t.C.length:Int)+(t.g-a)<=_;omega⟩,hj⟩
  rw[if_neg P];have Q:=E ht.r T;let⟨d1,d2,d3⟩:=Zk (t:={t with g:=t.g-a}) h i j m Z Z K v U Q V Br RE;let⟨G,H⟩:=Dx u d h i j m o f _ _ D d1<|o k _ Z Q hj;exact⟨G.r (ŷ d2<|by show t.g-a<=t.g;omega) d3,H⟩
def Zp{s:St}{a:List (Nat×Int)}(d:pD F)(b:gD s)(e:c.x<8)(f:c.y<8)(h:fW c.k)(i:0<=c.g)(j:c.g<=100000)(l:(a.length:Int)+c.g<=1000000):yI ⟨[],s,a,c.g⟩ (nO F c s a):= (Dx (J:=λ_ _=>True) (b.I c.y).1 (λn m=>Rz b c.y m) d e f h (λ_ _ _ _ _=>trivial) _ _ _ tP ⟨fh,fh,b,i,j,l⟩ trivial).1
end
def akW:(À.underlying 144).map İ=Ã Ú:=fl
def Zq:(À.info? 144).map (λi=>(i.size,i.zero.map (·.cells.size)))=Ã (145,Ã 145):=fl
def Zr(h:(P.info? e).map (λi=>(i.size,i.zero.map (·.cells.size)))=Ã (n,Ã m)):∃i z,P.info? e=Ã i/\i.size=n/\i.zero=Ã z/\z.cells.size=m:=by let⟨i,a,h⟩:=Ì.1 h;simp only[Prod.mk.injEq,Ì]at h;let⟨b,z,c,d⟩:=h;exact⟨i,z,a,b,c,d⟩
def RL(s:St){lv:È}(b:lv.oneCell'=Ú):∀v∈jb s lv,v.oneCell'=Ú:=λv c=>by
 obtain⟨i,a,rfl⟩:=List.getElem_of_mem c;rw[mb]at a;have:=GQ s lv a;rw[Ô (by rwa[mb])]at this;injection this with this;rw[this];unfold qU pC;repeat' split
 all_goals first|exact b|rfl
def RN{t:Tmp}{d:TypeDesc}(h:s.results=#[.cell t T])(a:q.getD t ā=Å (Ã ⟨b,0,Ä⟩))(c:w.rangeAt b 0 l)(e:P.underlying T=Ã d)(f:d.isRow=Ú)(g:(P.info? T).map (·.size)=Ã l.length): (aj s q).run P w=φ (Ē l.toArray) w:=by rw[ī]at a;simp only[aj,h];simp[a,asAddr,Ν w b 0 T l d c e f g]
def RO:(À.underlying 252).map İ=Ã Ú:=fl
def RP:(À.info? 252).map (·.size)=Ã 3:=fl
def akX{e:Array ş}{f:List ş}{a:é}(i:o.guard=Ä)(d:õ)(x y:Ů)(j:o.op=.store d x y) (b:Nat) (c:List È) (k:a.eval x=Å (Ã ⟨b,0,Ä⟩)) (l:a.eval y=Ē c.toArray) (m:w.there b 0 c.toArray.size) (n:(P.info? d).map (·.size)=Ã c.toArray.size) (p:c.toArray.all (·.oneCell')=Ú) (h:∀g,g=w.setCells b 0 c->aQ P e vJ f (a.put o.dst ā) g):aQ P e vJ (o::f) a w:= ľ i d x y j b 0 c.toArray k l m n p<|h _ U
def qV(F:lO)(c:RC)(s:St)(a:List (Nat×Int)):Bq:=
 ⟨c.g-(nO F c s a).2.2.g,(nO F c s a).2.1,(nO F c s a).1,if(nO F c s a).2.1 then(nO F c s a).2.2.s else s,if(nO F c s a).2.1 then(nO F c s a).2.2.C else a⟩
section
variable{E:iO}{c:RC}{lv:È}{s:St}{f:List (Nat×Int)}{F:lO}
def akY(k:eZ e9 w u)(t:Tr E i (Ê Ä 0 0) lv n u x v f.length W)(o:w.heap.size<=i)(r:R E i c x v zQ s f W):ia E lv n w s f W v:=by
 refine⟨r.C,r.M,?_,λj q=>(t.l j q).imp id λe=>ë k.M e,λb d g h m=>t.C b d g (gW h k λ_ _=>id) m⟩;refine(k.S λ_ _=>ę).C t.r ?_;rintro a p (e|e|e|e)
 .exact Ø e
 .omega
 .cases e
 .exact Ù e
def ia.N{Y:Nat->Prop}(r:ia E lv n w s f W v)(k:eZ Y W jX)(m:∀i,Y i->w.heap.size<=i)(o:∀i d,Y i->W.heap[i]?≠Ã (Ð d 257 (0,0)))(p:¬Y E.r):ia E lv n w s f jX v:=by
 have e:∀{a b c},W.ownsRow 0 257 2 a b c->jX.ownsRow 0 257 2 a b c:=λ{a b c} q=>gW q k λj t y=>by let⟨d,u⟩:=ly q t;exact o j d y u
 exact⟨r.r.I k p,e r.I,r.C.C k λi x y=>absurd (m i y) Z,r.l,λa b c g h=>⟨e (r.M a b c g h).1,(r.M a b c g h).2⟩⟩
def ia.pX{a:St}{c:List (Nat×Int)}(ok:E.Ok)(m:w.ownsRow 0 257 2 lv c.length (j0 c))(r:ia E lv c.length w s f W v):ia E lv c.length w a c (W.setCells E.r 0<|jb a lv) lv:=by have k:=G1 (b:=E.r) (jb a lv) 0 W<|fe.G r.r ok.C;have l:∀{d e g},W.ownsRow 0 257 2 d e g->(W.setCells E.r 0<|jb a lv).ownsRow 0 257 2 d e g:=λ{d e g} q=>gW q k λj n y=>jo q r.r ok.r.symm (by rw[n,y]);have o:=KH (T:=E.T) (b:=E.r) (jb a lv) [] E.C W (jb s v) (by rw[mb,mb]) (by have h:=r.r;unfold iq at h;simpa using h);refine⟨by unfold iq;simpa using o,l (r.M _ _ _ m λ_=>Þ _).1,r.C.C k λi _ q=>Ø q,λj q=>Ø q,λd e g p h=>⟨l (r.M d e g p h).1,h⟩⟩
def Zs(ok:E.Ok)(oI:0<=c.d)(hd:c.d<=4)(hF:c.d<4->rZ F (c.d+1))(hI:pD F)(B:iq E.r E.T E.C s lv w)(G:w.ownsRow 0 257 2 lv f.length (j0 f))(hr:iF w)(hs:gD s)(hx:c.x<8)(hy:c.y<8)(KF:fW c.k)(vW:0<=c.g)(va:c.g<=100000)(hlen:(f.length:Int)+c.g<=1000000): Ò À 173 #[Å<|Ã ⟨E.r,0,Ä⟩,Â Ë c.x,Â Ë c.y,Â Æ c.g,Â Æ c.k,Â Ë c.d] w λe a=>
  e=Ç (Ē #[Â Æ (qV F c s f).r,Ñ (qV F c s f).C,Â Æ (qV F c s f).M])/\∃v,ia E lv f.length w (qV F c s f).s (qV F c s f).I a v:=by
 let⟨dd,Zt,Zu⟩:=Ì.1 akW;let⟨i0,z0,I,J,G2,qP⟩:=Zr Zq;have KI:=RL s (lv:=lv) (by obtain⟨a,o,rfl⟩:=jy G;rfl);have gI:=fe.M B;have Zv:(À.info? 144).map (·.size)=Ã (jb s lv).length:=by rw[I,mb];simp[J]
 have k0:=eZ.gC e9 w #[Â Æ 0,Ñ Ï,Â Æ 0] 252;have Oh:(w.alloc<|Ð #[Â Æ 0,Ñ Ï,Â Æ 0] 252).rangeAt E.r 0 (jb s lv):=fe.Y<|B.I k0 id;have h:=e8<|Á Zt<|Á Zu<|Á Zv<|Á Oh<|Á I<|Á G2<|Á (J.trans (mb s lv).symm)<|Á (qP.trans (mb s lv).symm) KI;have H:=e8<|Á B<|Á G<|Á hr<|Á hF<|Á hI hs;clear Zt Zu I J G2 qP KI Zv Oh B G hr hF hI hs k0;obtain⟨a,b,t,K⟩:∃a b t,nO F c s f=(a,b,t):=⟨_,_,_,U⟩;have iD:qV F c s f=⟨c.g-t.g,b,a,if b then t.s else s,if b then t.C else f⟩:=by unfold qV;rw[K]
 rw[iD];have C:=Zp H.out.2.2.2.2.1 H.out.2.2.2.2.2 hx hy KF vW va hlen;rw[K]at C;have tg0:0<=t.g:=C.g0;have tg1:t.g<=c.g:=C.C;clear C;go_enter Tryz.func173,Tryz.ntmps173;go_wp2_with (first
  |(with_reducible refine ĥ U 144 _ U E.r 0 U (jb s lv) dd h.out.2.2.2.1 h.out.1 h.out.2.1 h.out.2.2.1 ?_)
  |(with_reducible refine Zo U U 144 U 13 U _ _ U U h.out.2.2.2.2.1 h.out.2.2.2.2.2.1 (jb s lv) h.out.2.2.2.2.2.2.1 h.out.2.2.2.2.2.2.2.1 U U h.out.2.2.2.2.2.2.2.2 ?_;intro m KJ L Dj))
 have uY:m.heap.size=w.heap.size+1+1:=by simpa using Dj
 have mQ:fe (w.heap.size+1) (jb s lv) 144 m:=by simpa using KJ
 have r:eZ e9 w (m.alloc<|Ð #[Å<|Ã ⟨E.r,0,Ä⟩,Â Ë c.x,Â Ë c.y,Â Æ c.k,Â Ë c.d,Â Æ c.g,Ê Ä 0 0] 282):=((eZ.gC _ _ _ _).fc L).fc<|eZ.gC _ _ _ _;have k1:=eZ.gC e9 m #[Å<|Ã ⟨E.r,0,Ä⟩,Â Ë c.x,Â Ë c.y,Â Æ c.k,Â Ë c.d,Â Æ c.g,Ê Ä 0 0] 282;have hR:R E (w.heap.size+1+1) c (Ê Ä 0 0) lv [] s f (m.alloc<|Ð #[Å<|Ã ⟨E.r,0,Ä⟩,Â Ë c.x,Â Ë c.y,Â Æ c.k,Â Ë c.d,Â Æ c.g,Ê Ä 0 0] 282):= ⟨by rw[<-uY];exact fe.N m (Du E.r c<|Ê Ä 0 0) 282,ĉ _ _ _ _,H.out.1.I r id,gW H.out.2.1 r λ_ _=>id⟩;have Ad:fe w.heap.size [Â Æ 0,Ñ Ï,Â Æ 0] 252 m:=(fe.N w [Â Æ 0,Ñ Ï,Â Æ 0] 252).I L id;have S:=akU (F:=F) ok hR oI hd H.out.2.2.2.1 H.out.2.2.2.2.1 (H.out.2.2.1.r r id) H.out.2.2.2.2.2 hx hy KF vW va hlen;rw[K]at S;go_at_call 191;apply S.mono;clear S;rintro e W ⟨rfl,Rv,RR,u,M⟩;have Zw:=akY r M Z u;have N:∀{j:Nat} {O:List È} {T:õ},fe j O T m->w.heap.size<=j->fe j O T W:=λ{j O T} hB hj=>by
  refine(hB.I k1 id).I M.r ?_;have:=hB.M;rintro(q|q|q|q)
  .omega
  .omega
  .cases q
  .have:=(H.out.2.1.lt j q).2;omega
 have n:=N Ad<|Þ _;have Zx:=N mQ Z;have e0:=n.r 0 _ U;have e1:=n.r 1 _ U;have e2:=n.r 2 _ U;have f0:=n.C 0;have f1:=n.C 1;have f2:=n.C 2;have g5:W.cell? ⟨w.heap.size+1+1,5,Ä⟩=Ã (Â Æ t.g):=u.r.r 5 _ U;have ahM:=u.r.M;have l:=e8<|Á Zw<|Á u<|Á n Zx;clear Zw u M n Zx N hR Ad mQ r k1 KJ L Dj uY;cases b with
 |true=>
  go_wp2_with fail
  let⟨d2,P,Q⟩:=Ì.1 RO;have o:=((l.out.2.2.1.fX 0<|Â Æ<|c.g-t.g).fX 1<|Ñ Ú).fX 2<|Â Æ a;apply ð (RN U U (fe.Y (tl:=[]) (vs:=[Â Æ<|c.g-t.g,Ñ Ú,Â Æ a]) o) P Q RP) U;refine⟨U,RR,l.out.1.N (Y:=λk=>k=w.heap.size) (((eZ.I (X:=λk=>k=w.heap.size) (p:=⟨w.heap.size,0,Ä⟩) U _).fc<|eZ.I (X:=λk=>k=w.heap.size) (p:=⟨w.heap.size,1,Ä⟩) U _).fc<|eZ.I (X:=λk=>k=w.heap.size) (p:=⟨w.heap.size,2,Ä⟩) U _) (λi q=>by omega) (λi cur q z=> ?_) Z⟩;have D:W.heap[w.heap.size]?=_:=l.out.2.2.1;rw[q,D]at z;cases z
 |false=>
  have rg:W.rangeAt (w.heap.size+1) 0 (jb s lv):=fe.Y (tl:=[]) (by simpa using l.out.2.2.2);have th:W.there E.r 0 (jb s lv).toArray.size:=by have:=l.out.1.r;unfold iq at this;exact this.RJ<|by simp only[ć,Ó,mb];omega
  have Zy:(À.info? 144).map (·.size)=Ã (jb s lv).toArray.size:=by rw[h.out.2.2.1];simp
  have py:=Ī h.out.2.2.2.2.2.2.2.2;have HNF:=e8<|fe.G l.out.2.1.C ok.C;have D:=e8<|Á rg<|Á th<|Á Zy py;clear rg th Zy py;go_wp2_with (first
   |(with_reducible refine ĥ U 144 _ U (w.heap.size+1) 0 U (jb s lv) dd D.out.1 h.out.1 h.out.2.1 h.out.2.2.1 ?_)
   |(with_reducible refine akX U 144 _ _ U E.r (jb s lv) U U D.out.2.1 D.out.2.2.1 D.out.2.2.2 ?_;intro jX V;have kb:eZ (λk=>k=E.r) W jX:=(by rw[V];exact G1 _ _ _ HNF.out);have o:=l.out.2.2.1.I kb Z;have p0:=o.r 0 _ U;have p1:=o.r 1 _ U;have p2:=o.r 2 _ U;have y0:=o.C 0;have y1:=o.C 1;have y2:=o.C 2;have RU:=l.out.2.1.r.I kb Z;have p5:jX.cell? ⟨w.heap.size+1+1,5,Ä⟩=Ã (Â Æ t.g):=RU.r 5 _ U;have hl4:=RU.M;have Zz:=e8 o;clear kb o RU;have HW:=e8 V;clear V))
  let⟨d2,P,Q⟩:=Ì.1 RO;apply ð (RN U U (fe.Y (tl:=[]) (vs:=[Â Æ<|c.g-t.g,Ñ Ï,Â Æ a])<|((Zz.out.fX 0<|Â Æ<|c.g-t.g).fX 1<|Ñ Ï).fX 2<|Â Æ a) P Q RP) U;have o:ia E lv f.length w s f jX lv:=by rw[HW.out];exact l.out.1.pX ok H.out.2.1
  refine⟨U,lv,o.N (Y:=λk=>k=w.heap.size) (((eZ.I (X:=λk=>k=w.heap.size) (p:=⟨w.heap.size,0,Ä⟩) U _).fc<|eZ.I (X:=λk=>k=w.heap.size) (p:=⟨w.heap.size,1,Ä⟩) U _).fc<|eZ.I (X:=λk=>k=w.heap.size) (p:=⟨w.heap.size,2,Ä⟩) U _) (λi q=>by omega) (λi cur q z=> ?_) Z⟩;rw[q,Zz.out]at z;cases z
end
def yJ:Nat->lO
 |0=>λs a _ _ _ _=>⟨0,Ï,0,s,a⟩
 |n+1=>λs a x y g k=>qV (yJ n) ⟨x,y,k,4-(n:Int),g⟩ s a
theorem akZ{F:lO}(d:pD F){c:RC}{s:St}{a:List (Nat×Int)}(b:gD s)(e:c.x<8)(f:c.y<8)(i:fW c.k)(j:0<=c.g)(l:c.g<=100000)(m:(a.length:Int)+c.g<=1000000):Zb a c.g (qV F c s a):=by
 have h:=Zp d b e f i j l m;have p:=h.g0;have n:=h.C;have o:=h.I;simp only at n o;unfold qV;refine⟨by simp only;omega,by simp only;omega,?_,h.M,?_⟩
 .simp only;split
  .exact h.s
  .exact b
 .grind
def G3:∀n,pD<|yJ n
 |0=>λs a x y g k b _ _ _ d _ _=>⟨Ö _,d,b,tP,by show(a.length:Int)<=a.length+0;omega⟩
 |n+1=>λs a x y g k b d e f h i j=>akZ (c:=⟨x,y,k,4-(n:Int),g⟩) (G3 n) b d e f h i j
def ZA:∀n,n<=3->rZ (yJ<|n+1) (4-(n:Int))
 |0,_=>λE a s t u x y g k w b d f i j l m o p r=>Zs (c:=⟨x,y,k,4-((0:Nat):Int),g⟩) (F:=yJ 0) a (show(0:Int)<=4-((0:Nat):Int) by decide) (show(4:Int)-((0:Nat):Int)<=4 by decide) (λq=>absurd q<|show¬(4:Int)-((0:Nat):Int)<4 by decide) (G3 0) b d f i j l p m o r
 |n+1,h=>λE a s t u x y g k w b d f i j l m o p r=>by
  have e:(4:Int)-((n+1:Nat):Int)+1=4-(n:Int):=Z
  exact Zs a (by show 0<=4-((n+1:Nat):Int);omega) (by show 4-((n+1:Nat):Int)<=4;omega) (λ_=>by show rZ _ (4-((n+1:Nat):Int)+1);rw[e];exact(ZA n Z)) (G3<|n+1) b d f i j l p m o r
def gd:lO:=yJ 4
def KL:pD gd:=G3 4
def ZB:rZ gd 1:=ZA 3 A
def iq.ni{tl:List È}{s:St}(h:iq b T tl s v w)(k:eZ X w u)(a:¬X b):iq b T tl s v u:=fe.I h k a
section
variable{E:iO}{lv:È}{w1:É}{s B d:St}{ls f r:List (Nat×Int)}
theorem ia.fQ(a:iq E.r E.T E.C s lv w)(b:w.ownsRow 0 257 2 lv ls.length (j0 ls)):ia E lv ls.length w s ls w lv:= ⟨a,b,eZ.fQ _ _,λ_ q=>Ø q,λ_ _ _ c d=>⟨c,d⟩⟩
def ia.fc(h:ia E lv n w B f w1 v)(k:ia E v f.length w1 d r u jQ):ia E lv n w d r u jQ:=by
 refine⟨k.r,k.I,h.C.C k.C ?_,λj q=> ?_,λa b c g m=> ?_⟩
 .rintro i o (e|e)
  .exact Ø e
  .exact Ù<|(h.l i e).resolve_right Z
 .rcases k.l j q with e|e
  .exact h.l j e
  .exact Ù<|ë h.C.M e
 .let⟨e,i⟩:=h.M a b c g m;exact k.M a b c e i
def ia.fG(h:ia E lv n w s ls w1 v)(k:eZ e9 w1 u):ia E lv n w s ls u v:= h.N k (λ_=>ę) (λ_ _=>ę) id
def ia.Y(ok:E.Ok)(h:ia E lv n w s ls w1 v)(i:Nat)(k:iq E.r E.T E.C d v (w1.setCell ⟨E.r,i,Ä⟩ x)):ia E lv n w d ls (w1.setCell ⟨E.r,i,Ä⟩ x) v:=by have e:=eZ.I (X:=λk=>k=E.r) (p:=⟨E.r,i,Ä⟩) U x<|Ù<|fe.G h.r ok.C;have f:∀{a b c},w1.ownsRow 0 257 2 a b c->(w1.setCell ⟨E.r,i,Ä⟩ x).ownsRow 0 257 2 a b c:=λ{a b c} q=>gW q e λj o y=>jo q h.r ok.r.symm (by rw[o,y]);exact⟨k,f h.I,h.C.C e λi _ q=>Ø q,h.l,λa b c g m=>⟨f (h.M a b c g m).1,(h.M a b c g m).2⟩⟩
def ia.fp(ok:E.Ok)(h:ia E lv n w s ls w1 v)(a:i<8)(x:Int):ia E lv n w (s.fp i x) ls (w1.setCell ⟨E.r,i*18,Ä⟩<|Â Æ x) v:=h.Y ok _<|h.r.yD a x
def ia.KA(ok:E.Ok)(h:ia E lv n w s ls w1 v)(a:i<8)(x:ByteArray):ia E lv n w (s.C i x) ls (w1.setCell ⟨E.r,i*18+1,Ä⟩<|Í x) v:=h.Y ok _<|h.r.ajQ a x
end
def wU(s:St)(x y:Nat)(n:Int):Bool×St:=
 if(s x).fp<n+10 then(Ï,s)else(Ú,(s.fp x<|(s x).fp-(n+10)).fp y<|wu<|(s.fp x ((s x).fp-(n+10)) y).fp+n)
section
variable{E:iO}{lv:È}{s:St}{ls:List (Nat×Int)}
def ak0(ok:E.Ok)(c:iq E.r E.T E.C s lv w)(g:w.ownsRow 0 257 2 lv ls.length (j0 ls))(f:gD s)(x y:Nat)(n:Int)(a:x<8)(d:y<8)(h:0<=n)(i:n<=1000000): Ò À 168 #[Å<|Ã ⟨E.r,0,Ä⟩,Â Ë x,Â Ë y,Â Æ n] w λe m=>e=Ç (Ñ (wU s x y n).1)/\ia E lv ls.length w (wU s x y n).2 ls m lv:=by
 have j:=c.fp a;have k:=fe.C c<|x*18;have l:=(f.fp x).1;have o:=(f.fp x).2;have p:∀m,((w.drewN m).setCell ⟨E.r,x*18,Ä⟩<|Â Æ<|(s x).fp-(n+10)).cell? ⟨E.r,y*18,Ä⟩=Ã (Â Æ (s.fp x ((s x).fp-(n+10)) y).fp):=λm=>((c.ni (eZ.iJ e9 w m) id).yD a _).fp d;have q:∀m,((w.drewN m).setCell ⟨E.r,x*18,Ä⟩<|Â Æ<|(s x).fp-(n+10)).frozen? ⟨E.r,y*18,Ä⟩=Ï:=λm=>fe.C ((c.ni (eZ.iJ e9 w m) id).yD a _) _;have r:=(c.yD a<|(s x).fp-(n+10)).fp d;have t:=fe.C (c.yD a<|(s x).fp-(n+10))<|y*18;have H:=e8<|ia.fQ c g;unfold wU;by_cases e:(s x).fp<n+10
 .rw[if_pos e];generalize(s x).fp=b at*;go_enter ak,κ;go_wp2_with fail;go_ret;exact⟨U,H.out⟩
 .rw[if_neg e];generalize(s.fp x ((s x).fp-(n+10)) y).fp=b2 at*;generalize(s x).fp=b at*;go_enter ak,κ;go_wp2_with fail;go_region;go_wp2_with fail;go_region;go_wp2_with fail;go_ret;refine⟨U,?_⟩;first
   |exact((H.out.fp ok a _).fp ok d _).fG<|eZ.iJ _ _ _
   |exact(((H.out.fG<|eZ.iJ _ _ _).fp ok a _).fp ok d _)
   |exact(((H.out.fG<|eZ.fN _ _).fp ok a _).fG<|eZ.fN _ _).fp ok d _
   |exact((H.out.fp ok a _).fp ok d _).still<|(Keep.drew _ _).trans<|Keep.drew _ _
end
def ak1(a:jW w)(p:ă)(n:Nat):jW (w.freeze p n):=by
 unfold Đ;split
 .exact a
 .intro i o h;simp only[Û]at h;split at h
  .cases b:w.heap[i]? with
   |none=>rw[b]at h;cases h
   |some d=>
    have:=a _ _ b;rw[b]at h;cases d with
    |cells c t z=>simp only[ñ,è]at h;subst h;exact λx=>x
    |_=>exact absurd trivial this
  .exact a i o h
def ZC(a:qT m w)(p:ă)(n:Nat):qT m (w.freeze p n):=by
 unfold Đ;split
 .exact a
 .intro i c T f e h b;simp only[Û]at h;split at h
  .cases d:w.heap[i]? with
   |none=>rw[d]at h;cases h
   |some g=>
    rw[d]at h;cases g with
    |cells j t z=>
     simp only[ñ,è,ģ]at h;rw[<-h.1];rw[<-h.2.1]at b;exact a _ _ _ _ e d b
    |_=>cases h
  .exact a i c T f e h b
theorem ak2{w w1:World}{g:Nat}{cur Y:Array Value}{e:TypeId}{z:Nat×Nat}(hw:eZ e9 w w1)(hg:w1.heap[g]?=some (.cells cur e z))(asn:w.heap.size<=g)(he:lM e=false:=by decide):eZ e9 w (w1.setRow g Y):=by
 refine⟨by simpa using hw.M,λk hk _=>(ė w1 g k Y Z).trans<|hw.N k hk id,λal i o ho=> ?_,λm a i c T fr hm h hT=> ?_⟩;rotate_left
 .by_cases hi:i=g
  .subst hi;rw[ĝ w1 i cur Y e z hg]at h;grind
  .rw[ė w1 g i Y hi]at h;exact hw.Y m a i c T fr hm h hT
 by_cases hi:i=g
 .subst hi;rw[ĝ w1 i cur Y e z hg]at ho;cases ho;exact λx=>x
 .rw[ė w1 g i Y hi]at ho;exact hw.gN al i o ho
def ak3(b:eZ e9 w u)(e:w.heap.size<=p.block):eZ e9 w (u.freeze p n):=by
 refine⟨?_,λk c _=> ?_,λd=>ak1 (b.gN d) p n,λm a=>ZC (b.Y m a) p n⟩
 .unfold Đ;split
  .exact b.M
  .simpa using b.M
 .unfold Đ;split
  .exact b.N k c id
  .simp only[Û];rw[if_neg Z];exact b.N k c id
def RV:(À.info? 5).map (λi=>(i.zero,i.size,i.bytes))=Ã (Ã<|Â aT 0,1,1):=fl
def ak4(n:Nat)(e:n<=1000000):∃M:Array È,M.size=n/\∀W:É,(Instr.makeSlice 107 (Â Ë (n:Int))<|Â Ë (n:Int)).run À W=φ (Ê (Ã ⟨W.heap.size,0,Ä⟩) n n) (W.alloc<|Ð M 5):=by let⟨i,a,b,c,d⟩:=í RV;refine⟨madeCells (Â aT 0).cells<|(n:Int).toNat*i.size,by rw[size_madeCells,c];simp,λW=> ?_⟩;simpa using run_make W 107 5 i (Â aT 0) ý a b Ë Ë n n Z Z (by rw[d];omega) Z
theorem ak5{M:Array È}(e:M.size=B.size)(b:W.heap[i]?=Ã (Ð M 5 (0,0))): (ν #[107,9] 3 #[Ê (Ã ⟨i,0,Ä⟩) B.size B.size,Í B]).run À W=φ (goInt B.size) (W.setRow i (ô B.data.toList).toArray):=by let⟨a,c,_,d,_⟩:=í RV;have h:=Lib.run_copy_row_string W 107 9 3 5 i 0 B.size B.size B M 5 ý (by rw[c];simp[d]) b (Þ _) Z;grind [List.drop_of_length_le]
def ak6(d:B.size≠0)(m:B.size<=1000000)(c:W.heap[i]?=Ã (Ð (ô B.data.toList).toArray 5 (0,0))): (Ő #[177,3] 9 #[Å<|Ã ⟨i,0,Ä⟩,Â Ë (B.size:Int)]).run À W=φ (Í B) (W.freeze ⟨i,0,Ä⟩ B.size):=by
 let⟨a,f,_,k,_⟩:=í RV;have b:=Lib.size_eq B;have l:(ô B.data.toList).toArray.size=B.size:=by rw[ć,Ř,<-b]
 have h:=Ĺ W 177 3 9 5 Ū (by simp[Program.cellsOf,f,k]) i B.size (by unfold Ÿ;rw[c];simp only[l]) B.data.toList (by intro e;rw[e]at b;exact d b) Z Z (λj x e=>Lib.cells_of_row c _ j _<|by rw[List.take_of_length_le<|Þ _];simp[ô,e]);rwa[<-b]at h
def ak7(s:ByteArray)(a:s.size<=1000000)(w:É):Ò À 196 #[Í s] w λe c=>e=Ç (Í s)/\eZ e9 w c:=by
 by_cases b:s.size=0
 .have d:=bn<|Array.eq_empty_of_size_eq_zero b;subst d;go_enter ar,ξ;go_wp2;go_ret;exact⟨U,eZ.fQ _ _⟩
 .let⟨M,d,mk⟩:=ak4 s.size a;have g:=ak5 d<|ì w<|Ð M 5;have h:=ak6 b a<|ĝ (w.alloc<|Ð M 5) w.heap.size M (ô s.data.toList).toArray 5 (0,0)<|ì w _;have f:=e8<|ak3 (p:=⟨w.heap.size,0,Ä⟩) (n:=s.size) (ak2 (Y:=(ô s.data.toList).toArray) (eZ.gC e9 w M 5) (ì w _)<|Þ _)<|Þ _;generalize(ô s.data.toList).toArray=Y at*;go_enter ar,ξ;go_wp2;go_ret;exact⟨U,f.out⟩
def ak8(s:ByteArray)(a:s.size<=1000000)(w:É):Ò À 186 #[Í s] w λe b=>e=Ç (Í s)/\eZ e9 w b:=by go_enter Tryz.func186,Tryz.ntmps186;go_wp2_with (go_at_call 196;refine(ak7 s a _).mono ?_;rintro e d ⟨rfl,c⟩);go_ret;exact⟨U,c⟩
def wV(s:St)(x:Nat)(p:ByteArray):Bool×St:=
 if(s x).fp<20 then(Ï,s)else(Ú,(s.fp x<|(s x).fp-20).C x p)
def yK{t u:Tmp}{cs:List È}{d:TypeDesc}(h:s.results=#[.cell t T,.tmp u])(a:q.getD t ā=Å (Ã ⟨b,0,Ä⟩))(c:w.rangeAt b 0 cs)(e:P.underlying T=Ã d)(f:d.isRow=Ú)(g:(P.info? T).map (·.size)=Ã cs.length): (aj s q).run P w=φ (æ #[Ē cs.toArray,q.getD u ā]) w:=by have i:=Ν w b 0 T cs d c e f g;rw[ī]at a;simp only[aj,h];simp[a,asAddr,i]
def G4:(À.underlying 246).map İ=Ã Ú:=fl
def Bu:(À.info? 246).map (·.size)=Ã 2:=fl
section
variable{E:iO}{lv:È}{s:St}{ls:List (Nat×Int)}
def ak9(ok:E.Ok)(a:iq E.r E.T E.C s lv w)(h:w.ownsRow 0 257 2 lv ls.length (j0 ls))(f:gD s)(x:Nat)(p:ByteArray)(c:x<8)(i:p.size<=1000000): Ò À 169 #[Å<|Ã ⟨E.r,0,Ä⟩,Â Ë x,Í p] w λe d=>e=Ç (Ñ (wV s x p).1)/\ia E lv ls.length w (wV s x p).2 ls d lv:=by
 have k:=fe.M a;have l:=a.fp c;have m:=fe.C a<|x*18;have n:=(f.fp x).1;have o:=(f.fp x).2;have q:(0:Int)<=(x:Int):=Z
 have r:(x:Int)<8:=Z
 have H:=e8<|ia.fQ a h;unfold wV;by_cases g:(s x).fp<20
 .rw[if_pos g];generalize(s x).fp=b at*;go_enter au,ο;go_wp2_with fail;go_ret;exact⟨U,H.out⟩
 .rw[if_neg g];generalize(s x).fp=b at*;go_enter au,ο;go_wp2_with fail;go_region;go_wp2_with fail;go_region_held3 (λ_=>True) (trivial) (first
    |(go_at_call 186;refine(ak8 p i _).mono ?_;rintro e t ⟨rfl,j⟩;dsimp only;have d:=((H.out.fp ok c (b-20)).fG (eZ.iJ e9 _ 2)).fG j;have u:=d.r.KA c;have v:=fe.C d.r (x*18+1)))
  go_wp2_with fail
  go_ret;exact⟨U,d.KA ok c p⟩
def yL(s:St)(ls:List (Nat×Int))(x y:Nat)(n k:Int):(Int×Bool)×Bool×St×List (Nat×Int):=
 if n<10\/400<n\/(s x).fp<n then((0,Ï),Ï,s,ls)
 else(((gd (s.fp x<|(s x).fp-n) ls x y (n-10) k).r+10,(gd (s.fp x<|(s x).fp-n) ls x y (n-10) k).C),Ú,
  (gd (s.fp x ((s x).fp-n)) ls x y (n-10) k).s.fp x (wu (((gd (s.fp x ((s x).fp-n)) ls x y (n-10) k).s x).fp+(n-((gd (s.fp x ((s x).fp-n)) ls x y (n-10) k).r+10)))),(gd (s.fp x ((s x).fp-n)) ls x y (n-10) k).I)
def ala(a:iq E.r E.T E.C s lv w)(c:w.ownsRow 0 257 2 lv ls.length (j0 ls))(x y:Nat)(n k:Int)(d:x<8)(j:0<=n)(l:n<10\/400<n\/(s x).fp<n): Ò À 170 #[Å<|Ã ⟨E.r,0,Ä⟩,Â Ë x,Â Ë y,Â Æ n,Â Æ k] w λe H=>e=Ç (æ #[Ē #[Â Æ 0,Ñ Ï],Ñ Ï])/\ia E lv ls.length w s ls H lv:=by
 have m:=fe.M a;have o:=a.fp d;have p:(0:Int)<=(x:Int):=Z
 have q:(x:Int)<8:=Z
 let⟨r,f,g⟩:=Ì.1 G4;have H:=e8<|Á (ia.fQ a c)<|Á f g;generalize(s x).fp=b at*;by_cases h:n<10
 .go_enter Ņ,ĺ;go_wp2_with fail;have e:=eZ.gC e9 w #[Â Æ 0,Ñ Ï] 246;apply ð (yK U U (fe.Y (vs:=[Â Æ 0,Ñ Ï])<|fe.N w [Â Æ 0,Ñ Ï] 246) H.out.2.1 H.out.2.2 Bu) U;exact⟨U,H.out.1.fG e⟩
 .have t:=decide_eq_false h;by_cases i:400<n
  .go_enter Ņ,ĺ;go_wp2_with fail;have e:=eZ.gC e9 w #[Â Æ 0,Ñ Ï] 246;apply ð (yK U U (fe.Y (vs:=[Â Æ 0,Ñ Ï])<|fe.N w [Â Æ 0,Ñ Ï] 246) H.out.2.1 H.out.2.2 Bu) U;exact⟨U,H.out.1.fG e⟩
  .have u:=decide_eq_false i;have v:b<n:=Z
   go_enter Ņ,ĺ;go_wp2_with fail;have e:=eZ.gC e9 w #[Â Æ 0,Ñ Ï] 246;apply ð (yK U U (fe.Y (vs:=[Â Æ 0,Ñ Ï])<|fe.N w [Â Æ 0,Ñ Ï] 246) H.out.2.1 H.out.2.2 Bu) U;exact⟨U,H.out.1.fG e⟩
def alb(ok:E.Ok)(a:iq E.r E.T E.C s lv w)(l:w.ownsRow 0 257 2 lv ls.length (j0 ls))(m:iF w)(g:gD s)(x y:Nat)(n k:Int)(c:x<8)(B:y<8)(D:fW k)(Gw:10<=n)(uZ:n<=400)(aso:n<=(s x).fp)(hlen:(ls.length:Int)+n<=1000000)(r:Bq)(o:r=gd (s.fp x<|(s x).fp-n) ls x y (n-10) k): Ò À 170 #[Å<|Ã ⟨E.r,0,Ä⟩,Â Ë x,Â Ë y,Â Æ n,Â Æ k] w λe t=>e=Ç (æ #[Ē #[Â Æ<|r.r+10,Ñ r.C],Ñ Ú])/\∃u,ia E lv ls.length w (r.s.fp x<|wu<|(r.s x).fp+(n-(r.r+10))) r.I t u:=by
 have gI:=fe.M a;have d1:=a.fp c;have f1:=fe.C a<|x*18;have WA:(0:Int)<=(x:Int):=Z
 have z8:(x:Int)<8:=Z
 have b0:=(g.fp x).1;have b1:=(g.fp x).2;have v:gD (s.fp x<|(s x).fp-n):=g.r x ⟨Z,Z⟩;have h:=KL _ ls x y (n-10) k v c B D Z Z Z;have F:=ia.fQ a l;have C:∀W j,ia E lv ls.length w (s.fp x<|(s x).fp-n) ls W j->iF W->Ò À 173 #[Å<|Ã ⟨E.r,0,Ä⟩,Â Ë x,Â Ë y,Â Æ<|n-10,Â Æ k,Â Ë 1] W λe t=>e=Ç (Ē #[Â Æ r.r,Ñ r.C,Â Æ r.M])/\∃u,ia E j ls.length W r.s r.I t u:=λW j G P=>by rw[o];exact ZB E ok _ j ls x y (n-10) k W G.r G.I P v c B Z Z D Z
 rw[<-o]at h;have u0:=h.C;have u1:=h.r;let⟨d2,I,J⟩:=Ì.1 G4;have K:∀i,iF (w.setCell ⟨E.r,i,Ä⟩<|Â Æ<|(s x).fp-n):=λi=>m.r (eZ.I (X:=λk=>k=E.r) U _) λq=>m.C a ok.N q.symm;have H:=e8<|Á F<|Á C<|Á K<|Á I<|Á J l;clear a l m g v h F C K I J o;generalize(s x).fp=b at*;have e1:decide (n<10)=Ï:=decide_eq_false Z;have e2:decide (400<n)=Ï:=decide_eq_false Z;have e3:decide (b<n)=Ï:=decide_eq_false Z;generalize Q:(r.s x).fp=b2;go_enter Ņ,ĺ;go_wp2_with fail;have L:=(H.out.1.fp ok c<|b-n).fG<|eZ.gC e9 _ #[Â Æ 0,Ñ Ï] 246;go_at_call 173;refine(H.out.2.1 _ _ L<|(H.out.2.2.1 _).r (eZ.gC e9 _ _ _) id).mono ?_;rintro e S ⟨rfl,V,f⟩;have d:fe w.heap.size [Â Æ 0,Ñ Ï] 246 S:=by
  have z:fe w.heap.size [Â Æ 0,Ñ Ï] 246 ((w.setCell ⟨E.r,x*18,Ä⟩<|Â Æ<|b-n).alloc<|Ð #[Â Æ 0,Ñ Ï] 246):=by have:=fe.N (w.setCell ⟨E.r,x*18,Ä⟩<|Â Æ<|b-n) [Â Æ 0,Ñ Ï] 246;simpa using this
  refine z.I f.C ?_;rintro(q|q)
  .omega
  .have:=(H.out.2.2.2.2.2.lt _ q).2;omega
 have Y:=f.r.fp c;have z1:=fe.C f.r<|x*18;have KM:=fe.M f.r;have hl2:=d.M;have c0:=d.r 0 _ U;have c1:=d.r 1 _ U;have y0:=d.C 0;have y1:=d.C 1;have M:=e8<|Á (L.fc f) d;rw[Q]at Y;go_wp2_with fail;go_region;go_wp2_with fail;have q1:=M.out.1.fp ok c<|wu<|b2+(n-(r.r+10));have N:=M.out.2.I (eZ.I (X:=λk=>k=E.r) (p:=⟨E.r,x*18,Ä⟩) U<|Â Æ<|wu<|b2+(n-(r.r+10))) Z;have q2:=q1.N ((eZ.I (X:=λk=>k=w.heap.size) (p:=⟨w.heap.size,0,Ä⟩) U<|Â Æ<|r.r+10).fc<|eZ.I (X:=λk=>k=w.heap.size) (p:=⟨w.heap.size,1,Ä⟩) U<|Ñ r.C) (λi q=>by omega) (λi cur q O=>by have z:=N;rw[q,z]at O;cases O) Z;have z:∀W:É,∀O,eZ e9 W ((W.alloc<|Ð O 252).drew):=λW O=>(eZ.gC _ _ _ _).fc<|eZ.fN _ _;have hb:=(((N.fX 0<|Â Æ<|r.r+10).fX 1<|Ñ r.C)).I (z _ #[Â Æ<|r.r+10,Ñ r.C,Â Æ r.M]) id;apply ð (yK U U (fe.Y (vs:=[Â Æ<|r.r+10,Ñ r.C]) hb) H.out.2.2.2.1 H.out.2.2.2.2.1 Bu) U;exact⟨U,V,q2.fG<|z _ _⟩
end
structure Tx where
 x:Nat
 y:Nat
 n:Int
 k:Int
 r:Int
 C:ByteArray
structure lB(a:Nat)(t:Tx)(w:É):Prop where
 b:∃cs fz,w.heap[a]?=Ã (Ð cs 200 fz)
 r:w.cell? ⟨a,0,Ä⟩=Ã (Â Ë t.x)
 C:w.cell? ⟨a,1,Ä⟩=Ã (Â Ë t.y)
 I:w.cell? ⟨a,2,Ä⟩=Ã (Â Ë t.n)
 M:w.cell? ⟨a,3,Ä⟩=Ã (Â Ë t.k)
 Y:w.cell? ⟨a,4,Ä⟩=Ã (Â Ë t.r)
 N:w.cell? ⟨a,5,Ä⟩=Ã (Í t.C)
structure Tx.Ok(t:Tx):Prop where
 x:t.x<8
 y:t.y<8
 I:0<=t.n
 M:t.n<1000000
 r:0<=t.k
 C:t.k<1000000
 N:t.C.size<=40/\∀c∈t.C.data.toList,wP c=Ú
def lB.G{t:Tx}(h:lB i t w):i<w.heap.size:=á w _ h.r
def lB.S{t:Tx}(h:lB i t w)(k:eZ X w u)(b:¬X i):lB i t u:=by let⟨c,d,e⟩:=h.b;exact⟨⟨c,d,by rwa[k.N i h.G b]⟩,k.r h.r b,k.r h.C b,k.r h.I b,k.r h.M b,k.r h.Y b,k.r h.N b⟩
def lB.iM{t:Tx}(h:lB i t w)(c:w.heap[j]?=Ã (Ð d T xJ))(e:T≠200):i≠j:=by rintro rfl;let⟨f,g,b⟩:=h.b;rw[c]at b;cases b;exact e U
def lB.wR{E:iO}{t:Tx}{s c:St}{ls b:List (Nat×Int)}(d:E.T≠200)(h:lB i t w)(e:iq E.r E.T E.C c v w)(f:w.ownsRow 0 257 2 v b.length (j0 b))(r:ia E v n w s ls u x):lB i t u:=by
 refine h.S r.C ?_;rintro(q|q)
 .exact h.iM e d q
 .let⟨j,g⟩:=ly f q;exact h.iM g A U
def lQ(s:St)(ls:List (Nat×Int))(t:Tx):(Int×Bool)×Bool×St×List (Nat×Int):=
 if t.r=1 then((10,Ú),(wU s t.x t.y t.n).1,(wU s t.x t.y t.n).2,ls)
 else if t.r=2 then((20,Ú),(wV s t.x t.C).1,(wV s t.x t.C).2,ls)
 else yL s ls t.x t.y t.n t.k
def Dy(a:0<=h)(b:h<1000000):Æ.wrap h=h:=by show wu h=h;exact ajS a Z
def G5(E:iO)(a:È)(n:Nat)(w:É)(o:(Int×Bool)×Bool×St×List (Nat×Int))(e:av)(b:É):Prop:=
 e=Ç (æ #[Ē #[Â Æ o.1.1,Ñ o.1.2],Ñ o.2.1])/\∃c,ia E a n w o.2.2.1 o.2.2.2 b c
def alc{E:iO}{s:St}{ls:List (Nat×Int)}(ok:E.Ok)(b:iq E.r E.T E.C s v w)(c:w.ownsRow 0 257 2 v ls.length (j0 ls))(f:iF w)(g:gD s)(x y:Nat)(n k:Int)(d:x<8)(i:y<8)(j:fW k)(l:0<=n)(m:(ls.length:Int)+400<=1000000): Ò À 170 #[Å<|Ã ⟨E.r,0,Ä⟩,Â Ë x,Â Ë y,Â Æ n,Â Æ k] w (G5 E v ls.length w<|yL s ls x y n k):=by
 unfold yL;by_cases a:n<10\/400<n\/(s x).fp<n
 .rw[if_pos a];exact(ala b c x y n k d l a).mono λe o h=>⟨h.1,v,h.2⟩
 .rw[if_neg a];exact alb ok b c f g x y n k d i j Z Z Z Z _ U
def ia.S{E:iO}{s:St}{ls:List (Nat×Int)}(k:eZ e9 w W)(r:ia E v n W s ls u x):ia E v n w s ls u x:= ⟨r.r,r.I,(k.S λ_ _=>ę).C r.C λ_ _ q=>q,λj q=>(r.l j q).imp id λe=>ë k.M e,λa b c d f=>r.M a b c (gW d k λ_ _=>id) f⟩
section
variable{E:iO}{lv:È}{s:St}{ls:List (Nat×Int)}{a:Nat}{t:Tx}
def RY{yy:Value}{w1:World}{n:Nat}{s1:St}{ZD:List (Nat×Int)}(r:ia E lv n w s1 ZD w1 yy)(hB:fe w.heap.size [.int .u64 0,.bool false] 246 w1)(hlb:E.r<w.heap.size)(v0 v1:Value)(hf0:jZ v0=true:=by rfl)(hf1:jZ v1=true:=by rfl): ia E lv n w s1 ZD ((w1.setCell ⟨w.heap.size,0,none⟩ v0).setCell ⟨w.heap.size,1,none⟩ v1) yy/\fe w.heap.size [v0,v1] 246 ((w1.setCell ⟨w.heap.size,0,none⟩ v0).setCell ⟨w.heap.size,1,none⟩ v1):=by refine⟨r.N (Y:=λk=>k=w.heap.size) ((eZ.I (X:=λk=>k=w.heap.size) (p:=⟨w.heap.size,0,Ä⟩) U v0<|Ø hf0).fc<|eZ.I (X:=λk=>k=w.heap.size) (p:=⟨w.heap.size,1,Ä⟩) U v1<|Ø hf1) (λi q=>by omega) (λi cur q hc=> ?_) Z,(hB.fX 0 v0).fX 1 v1⟩;rw[q,hB]at hc;cases hc
def RZ{W:É}{a:St}{b:List (Nat×Int)}{cs:List È}(c:jX=(w.alloc<|Ð cs.toArray T).drewN 1\/jX=w.alloc (Ð cs.toArray T))(d:w.ownsRow 0 257 2 lv ls.length (j0 ls))(f:E.r<w.heap.size)(r:ia E lv n jX a b u v):fe w.heap.size cs T u:=by
 have e:fe w.heap.size cs T jX:=by
  rcases c with rfl|rfl
  .exact fe.N w cs T
  .exact fe.N w cs T
 refine e.I r.C ?_;rintro(q|q)
 .omega
 .have:=(d.lt _ q).2;omega
def ald(ok:E.Ok)(Q:E.T≠200)(l:iq E.r E.T E.C s lv w)(m:w.ownsRow 0 257 2 lv ls.length (j0 ls))(z:iF w)(B:gD s)(c:lB a t w)(d:t.Ok)(hlen:(ls.length:Int)+400<=1000000)(D:t.r=1): Ò À 154 #[Å<|Ã ⟨E.r,0,Ä⟩,Å<|Ã ⟨a,0,Ä⟩] w (G5 E lv ls.length w<|lQ s ls t):=by
 have F:=fe.M l;have ZE:=c.G;have S:=c.r;have V:=c.C;have Y:=c.I;have c3:=c.M;have c4:=c.Y;have c5:=c.N;have hn:=Dy d.I d.M;have hk:=Dy d.r d.C;let⟨d2,G,I⟩:=Ì.1 G4;have J:=e8<|Á G I;clear G I;have g:=(eZ.gC e9 w #[Â Æ 0,Ñ Ï] 246).fc<|eZ.fN _ _;have o:=l.ni g id;have u:=gW m g λ_ _=>id;have b:=c.S g id;have RA:=z.r g id;rw[D]at c4;have L:lQ s ls t=((10,Ú),(wU s t.x t.y t.n).1,(wU s t.x t.y t.n).2,ls):=by unfold lQ;rw[if_pos D]
 rw[L];have C:=ak0 (ls:=ls) ok o u B t.x t.y t.n d.x d.y d.I (by have:=d.M;omega);have M:∀(j:É) (N:St) (O:List (Nat×Int)) (P:È),ia E lv ls.length _ N O j P->lB a t j:=λj N O P r=>lB.wR Q b o u r;have H:=e8<|Á C<|Á m M;clear C M l m z B c d o u RA L;go_enter Ź,ť;go_wp2_with fail;have HS:=e8<|Á b.r<|Á b.C<|Á b.I<|Á b.M b.N;clear S V Y c3 c5 b;refine lP (λe=>e.cell? ⟨a,0,Ä⟩=Ã (Â Ë t.x)/\e.cell? ⟨a,1,Ä⟩=Ã (Â Ë t.y)/\e.cell? ⟨a,2,Ä⟩=Ã (Â Ë t.n)/\e.cell? ⟨a,3,Ä⟩=Ã (Â Ë t.k)/\e.cell? ⟨a,5,Ä⟩=Ã (Í t.C)) [22] fl ?_;iterate 20 apply tk HS.out
 apply gu 20;intro K f;go_simp;go_at_call 168;apply H.out.1.mono;rintro e j ⟨rfl,v⟩;dsimp only;have b:=H.out.2.2 _ _ _ _ v;apply f.out _ _ λ_=>⟨b.r,b.C,b.I,b.M,b.N⟩;clear f K;have h:=RZ (W:=w) (cs:=[Â Æ 0,Ñ Ï]) (Ø U) H.out.2.1 F v;have e0:=h.r 0 _ U;have e1:=h.r 1 _ U;have y0:=h.C 0;have y1:=h.C 1;have i:=b.S ((eZ.I (X:=λk=>k=w.heap.size) (p:=⟨w.heap.size,0,Ä⟩) U<|Â Æ 10).fc<|eZ.I (X:=λk=>k=w.heap.size) (p:=⟨w.heap.size,1,Ä⟩) U<|Ñ Ú) Z;apply gu 21;intro K f;go_simp;apply f.out _ _ λ_=>⟨i.r,i.C,i.I,i.M,i.N⟩;clear f K;apply gu 22;intro K f;go_simp;apply f.out _ _ λq=>absurd fh q;clear f K;try simp only[ĵ,Õ,ã,ä]
 refine lA fl ?_ _;go_wp2_with fail;let⟨q,q2⟩:=RY (ia.S g v) h F (Â Æ 10)<|Ñ Ú;apply ð (yK U U (fe.Y (tl:=[]) (vs:=[Â Æ 10,Ñ Ú]) q2) J.out.1 J.out.2 Bu) U;exact⟨U,lv,q⟩
def ale(ok:E.Ok)(Q:E.T≠200)(l:iq E.r E.T E.C s lv w)(m:w.ownsRow 0 257 2 lv ls.length (j0 ls))(z:iF w)(B:gD s)(c:lB a t w)(f:t.Ok)(hlen:(ls.length:Int)+400<=1000000)(D:t.r=2): Ò À 154 #[Å<|Ã ⟨E.r,0,Ä⟩,Å<|Ã ⟨a,0,Ä⟩] w (G5 E lv ls.length w<|lQ s ls t):=by
 have F:=fe.M l;have ZE:=c.G;have S:=c.r;have V:=c.C;have Y:=c.I;have c3:=c.M;have c4:=c.Y;have c5:=c.N;have hn:=Dy f.I f.M;have hk:=Dy f.r f.C;let⟨d2,G,I⟩:=Ì.1 G4;have J:=e8<|Á G I;clear G I;have g:=(eZ.gC e9 w #[Â Æ 0,Ñ Ï] 246).fc<|eZ.fN _ _;have o:=l.ni g id;have u:=gW m g λ_ _=>id;have b:=c.S g id;have RA:=z.r g id;rw[D]at c4;have L:lQ s ls t=((20,Ú),(wV s t.x t.C).1,(wV s t.x t.C).2,ls):=by unfold lQ;rw[if_neg Z,if_pos D]
 rw[L];have C:=ak9 (ls:=ls) ok o u B t.x t.C f.x (by have:=f.N.1;omega);have M:∀(j:É) (N:St) (O:List (Nat×Int)) (P:È),ia E lv ls.length _ N O j P->lB a t j:=λj N O P r=>lB.wR Q b o u r;have H:=e8<|Á C<|Á m M;clear C M l m z B c f o u RA L;go_enter Ź,ť;go_wp2_with fail;have HS:=e8<|Á b.r<|Á b.C<|Á b.I<|Á b.M b.N;clear S V Y c3 c5 b;refine lP (λd=>d.cell? ⟨a,0,Ä⟩=Ã (Â Ë t.x)/\d.cell? ⟨a,1,Ä⟩=Ã (Â Ë t.y)/\d.cell? ⟨a,2,Ä⟩=Ã (Â Ë t.n)/\d.cell? ⟨a,3,Ä⟩=Ã (Â Ë t.k)/\d.cell? ⟨a,5,Ä⟩=Ã (Í t.C)) [15] fl ?_;iterate 13 apply tk HS.out
 apply gu 13;intro K d;go_simp;go_at_call 169;apply H.out.1.mono;rintro e j ⟨rfl,v⟩;dsimp only;have b:=H.out.2.2 _ _ _ _ v;apply d.out _ _ λ_=>⟨b.r,b.C,b.I,b.M,b.N⟩;clear d K;have h:=RZ (W:=w) (cs:=[Â Æ 0,Ñ Ï]) (Ø U) H.out.2.1 F v;have e0:=h.r 0 _ U;have e1:=h.r 1 _ U;have y0:=h.C 0;have y1:=h.C 1;have i:=b.S ((eZ.I (X:=λk=>k=w.heap.size) (p:=⟨w.heap.size,0,Ä⟩) U<|Â Æ 20).fc<|eZ.I (X:=λk=>k=w.heap.size) (p:=⟨w.heap.size,1,Ä⟩) U<|Ñ Ú) Z;apply gu 14;intro K d;go_simp;apply d.out _ _ λ_=>⟨i.r,i.C,i.I,i.M,i.N⟩;clear d K;apply gu 15;intro K d;go_simp;apply d.out _ _ λq=>absurd fh q;clear d K;try simp only[ĵ,Õ,ã,ä]
 refine lA fl ?_ _;go_wp2_with fail;let⟨q,q2⟩:=RY (ia.S g v) h F (Â Æ 20)<|Ñ Ú;apply ð (yK U U (fe.Y (tl:=[]) (vs:=[Â Æ 20,Ñ Ú]) q2) J.out.1 J.out.2 Bu) U;exact⟨U,lv,q⟩
def alf(ok:E.Ok)(X:E.T≠200)(l:iq E.r E.T E.C s lv w)(m:w.ownsRow 0 257 2 lv ls.length (j0 ls))(B:iF w)(D:gD s)(d:lB a t w)(c:t.Ok)(Y:(ls.length:Int)+400<=1000000)(F:t.r≠1)(G:t.r≠2): Ò À 154 #[Å<|Ã ⟨E.r,0,Ä⟩,Å<|Ã ⟨a,0,Ä⟩] w (G5 E lv ls.length w<|lQ s ls t):=by
 have I:=fe.M l;have ZE:=d.G;have c0:=d.r;have c1:=d.C;have c2:=d.I;have c3:=d.M;have c4:=d.Y;have c5:=d.N;have hn:=Dy c.I c.M;have hk:=Dy c.r c.C;let⟨d2,J,L⟩:=Ì.1 G4;have M:=e8<|Á J L;clear J L;have g:=(eZ.gC e9 w #[Â Æ 0,Ñ Ï] 246).fc<|eZ.fN _ _;have p:=l.ni g id;have u:=gW m g λ_ _=>id;have b:=d.S g id;have N:=B.r g id;have z1:(t.r==1)=Ï:=by rwa[beq_eq_false_iff_ne]
 have z2:(t.r==2)=Ï:=by rwa[beq_eq_false_iff_ne]
 have O:lQ s ls t=yL s ls t.x t.y t.n t.k:=by unfold lQ;rw[if_neg F,if_neg G]
 rw[O];have C:=alc (ls:=ls) ok p u N D t.x t.y t.n t.k c.x c.y ⟨c.r,by have:=c.C;omega⟩ c.I Y;have P:∀(i:É) (Q:St) (S:List (Nat×Int)) (j:È),ia E lv ls.length _ Q S i j->lB a t i:=λi Q S j r=>lB.wR X b p u r;have H:=e8<|Á C<|Á m P;clear C P l m B D d c p u N O;generalize yL s ls t.x t.y t.n t.k=o at*;go_enter Ź,ť;go_wp2_with fail;have v:=e8<|Á b.r<|Á b.C<|Á b.I<|Á b.M b.N;clear c0 c1 c2 c3 c5 b;refine lP (λe=>e.cell? ⟨a,0,Ä⟩=Ã (Â Ë t.x)/\e.cell? ⟨a,1,Ä⟩=Ã (Â Ë t.y)/\e.cell? ⟨a,2,Ä⟩=Ã (Â Ë t.n)/\e.cell? ⟨a,3,Ä⟩=Ã (Â Ë t.k)/\e.cell? ⟨a,5,Ä⟩=Ã (Í t.C)) [26,27] fl ?_;iterate 23 apply tk v.out
 apply gu 23;intro K f;go_simp;go_at_call 170;apply H.out.1.mono;rintro e i ⟨rfl,j,z⟩;dsimp only;have b:=H.out.2.2 _ _ _ _ z;apply f.out _ _ λ_=>⟨b.r,b.C,b.I,b.M,b.N⟩;clear f K;have h:=RZ (W:=w) (cs:=[Â Æ 0,Ñ Ï]) (Ø U) H.out.2.1 I z;have e0:=h.r 0 _ U;have e1:=h.r 1 _ U;have y0:=h.C 0;have y1:=h.C 1;have V:=Á b.r<|Á b.C<|Á b.I<|Á b.M b.N;have v:=e8 V;clear V b;iterate 2 apply tk v.out
 apply gu 26;intro K f;go_simp;apply f.out _ _ λq=>absurd fh q;clear f K;apply gu 27;intro K f;go_simp;apply f.out _ _ λq=>absurd fh q;clear f K;try simp only[ĵ,Õ,ã,ä]
 refine lA fl ?_ _;go_wp2_with fail;let⟨q,q2⟩:=RY (ia.S g z) h I (Â Æ o.1.1)<|Ñ o.1.2;apply ð (yK U U (fe.Y (tl:=[]) (vs:=[Â Æ o.1.1,Ñ o.1.2]) q2) M.out.1 M.out.2 Bu) U;exact⟨U,j,q⟩
def ZF(ok:E.Ok)(b:E.T≠200)(c:iq E.r E.T E.C s lv w)(d:w.ownsRow 0 257 2 lv ls.length (j0 ls))(e:iF w)(f:gD s)(g:lB a t w)(h:t.Ok)(i:(ls.length:Int)+400<=1000000): Ò À 154 #[Å<|Ã ⟨E.r,0,Ä⟩,Å<|Ã ⟨a,0,Ä⟩] w (G5 E lv ls.length w<|lQ s ls t):=by
 by_cases j:t.r=1
 .exact ald ok b c d e f g h i j
 .by_cases k:t.r=2
  .exact ale ok b c d e f g h i k
  .exact alf ok b c d e f g h i j k
end
def ZG:∀(d a b c:List È) (k:Nat),b.length=d.length->(d.zipIdx k).foldl (λ(q:Array È) (p:Value×Nat)=>q.setIfInBounds (a.length-k+p.2) p.1) (a++b++c).toArray=(a++d++c).toArray\/a.length<k
 |[],a,b,c,k,h=>by have:b=[]:=ß (by simpa using h);subst this;exact Ø U
 |v::r,a,b,c,k,h=>by
  rcases ů a.length k with q|q
  .exact Ù q
  .match b,h with
   |x::b,h=>
    apply Ø;have p:=(ZG r (a++[v]) b c (k+1)<|by simpa using h).resolve_right (by simp;omega);simp only[List.zipIdx_cons,List.foldl_cons];rw[show a.length-k+k=a.length by omega,Õ,show(a++x::b++c).set a.length v=a++[v]++b++c by simp];rw[show(a++[v]).length-(k+1)=a.length-k by simp]at p;rw[p];simp
theorem KN{place:Nat->Option (Nat×Nat)}{pre old suf:List È}{rest:List (Nat×Value)}(a:place i=Ã (pre.length,n))(b:v.cells.size=n)(c:old.length=n): ı place (pre++old++suf).toArray ((i,v)::rest)=ı place (pre++v.cells.toList++suf).toArray rest:=by rw[Instr.fill.eq_2];simp only[a];rw[if_neg (by simp only[ć,Ó,Bool.or_eq_true,decide_eq_true_eq,not_or];omega)];have:=(ZG v.cells.toList pre old suf 0<|by rw[c,š,b]).resolve_right Z;simp only[Nat.sub_zero]at this;grind [Array.toList_zipIdx]
def alg:((À.info? 144).bind (·.zero)).map (λz=>z.cells.toList.drop 144)=Ã [Ê Ä 0 0]:=fl
def alh:((À.info? 144).bind (·.zero)).map (λz=>z.cells.size)=Ã 145:=fl
def ZH:((À.info? 147).bind (·.zero)).map (λz=>z.cells.toList.drop 145)=Ã [Â Ë 0,Ê Ä 0 0]:=fl
def ZI:((À.info? 147).bind (·.zero)).map (λz=>z.cells.size)=Ã 147:=fl
def KO(P:aE)(t:õ):Option (List<|Nat×Nat):=match P.underlying t with
 |some (.struct fs)=>fs.toList.mapM λf=>(P.info? f.type).map λi=>(f.offset,i.size)
 |_=>Ä
def ali:KO À 144=Ã [(0,144),(144,1)]:=fl
def ZJ:KO À 147=Ã [(0,145),(145,1),(146,1)]:=fl
def R0{c:List (Nat×Nat)}(a:KO P t=Ã c)(b:(P.info? t).bind (·.zero)=Ã z)(e:List (Nat×Value)):P.built t e=ı (c.toArray[·]?) z.cells e:=by
 unfold KO at a;unfold Program.built;cases f:P.info? t with
 |none=>rw[f]at b;cases b
 |some h=>
  rw[f]at b;have b:h.zero=Ã z:=b;cases g:P.underlying t with
  |none=>rw[g]at a;cases a
  |some d=>
   rw[g]at a;cases d<;>first|(cases a;done)|skip
   simp only at a;simp only[b,a]
theorem R1{suf:List È}(h:((P.info? t).bind (·.zero)).map (λz=>z.cells.toList.drop n)=Ã suf)(a:((P.info? t).bind (·.zero)).map (λz=>z.cells.size)=Ã m)(c:n<=m):∃z old,(P.info? t).bind (·.zero)=Ã z/\old.length=n/\z.cells=(old++suf).toArray:=by
 let⟨z,b,d⟩:=Ì.1 h;rw[b]at a;have a:z.cells.size=m:=by injection a
 refine⟨z,z.cells.toList.take n,b,by rw[List.length_take,š,a];omega,?_⟩;grind
theorem alj(h:l.length=144):À.built 144 [(0,Ē l.toArray)]=Ã (l++[Ê Ä 0 0]).toArray:=by let⟨z,d,a,b,c⟩:=R1 alg alh A;rw[R0 ali a,c];have:=KN (place:=λi=>[(0,144),(144,1)].toArray[i]?) (pre:=[]) (suf:=[Ê Ä 0 0]) (i:=0) (v:=Ē l.toArray) (rest:=[]) U (by show l.toArray.size=144;simp[h]) b;simpa[ı,ğ]using this
theorem alk(h:l.length=145)(a:v.cells=#[v]):À.built 147 [(0,Ē l.toArray),(1,v)]=Ã (l++[v,Ê Ä 0 0]).toArray:=by let⟨z,g,c,d,f⟩:=R1 ZH ZI A;rw[R0 ZJ c,f];have b:=KN (place:=λi=>[(0,145),(145,1),(146,1)].toArray[i]?) (pre:=[]) (suf:=[Â Ë 0,Ê Ä 0 0]) (i:=0) (v:=Ē l.toArray) (rest:=[(1,v)]) U (by show l.toArray.size=145;simp[h]) d;simp only[Ξ]at b;rw[b];have e:(Ē l.toArray).cells.toList=l:=rfl;rw[e];rw[show(l++[Â Ë 0,Ê Ä 0 0])=l++[Â Ë 0]++[Ê Ä 0 0] by simp,(KN (place:=λi=>[(0,145),(145,1),(146,1)].toArray[i]?) (old:=[Â Ë 0]) (suf:=[Ê Ä 0 0]) (i:=1) (rest:=[]) (by show Ã (145,1)=Ã (l.length,1);rw[h]) (by rw[a];rfl) U)];simp[ı,a]
def ic(s:St):List È:=(ċ 144).map<|pC s
def qW(s:St):(ic s).length=144:=by simp[ic]
theorem yM(s:St)(lv:È):jb s lv=ic s++[lv]:=by unfold jb ic;grind [Ŏ,List.map_congr_left,qg,Kz]
def ZK(a:o.op=.box T qQ)(b:xX qQ=Ē d):(Ĥ xX o).run P w=φ (.value<|Å<|Ã ⟨w.heap.size,0,Ä⟩) (w.alloc<|Ð d T):=by unfold Ĥ;simp[a,b,Instr.box,newVar,newRow,ğ]
theorem R2{a:Array (Nat×Operand)}(b:o.op=Χ T a)(h:P.built T (a.map λ(i,x)=>(i,xX x)).toList=Ã d):(Ĥ xX o).run P w=φ (.value<|Ē d) w:=by have:=run_build w T (a.map λ(i,x)=>(i,xX x)) d h;unfold Ĥ;simp_all
theorem R3(a:o.op=Χ 144 #[(0,qQ)])(b:xX qQ=Ē l.toArray)(c:l.length=144):(Ĥ xX o).run À w=φ (.value<|Ē (l++[Ê Ä 0 0]).toArray) w:=by grind [R2,alj]
theorem alm{y:Ů}(a:o.op=Χ 147 #[(0,qQ),(1,y)])(b:xX qQ=Ē l.toArray)(c:xX y=v)(d:l.length=145)(e:v.cells=#[v]):(Ĥ xX o).run À w=φ (.value<|Ē (l++[v,Ê Ä 0 0]).toArray) w:=by apply R2 a;grind [alk]
def R4:(À.underlying 140).map İ=Ã Ú:=fl
def ZL:(À.info? 140).map (·.size)=Ã 144:=fl
structure lR(vb:Nat)(s:St)(h:Int)(w:É):Prop where
 C:w.rangeAt vb 0 (ic s)
 h:w.cell? ⟨vb,145,Ä⟩=Ã (Â Ë h)
def lR.r{s:St}(a:lR i s h w)(k:eZ X w u)(b:¬X i):lR i s h u:= ⟨λj v c=>k.r (a.C j v c) b,k.r a.h b⟩
def tR(l:List (Int×Bool)):List È:=l.flatMap λp=>[Â Æ p.1,Ñ p.2]
structure NX(B:Nat)(h:Int)(lv uv:È)(s:St)(ls:List (Nat×Int))(us:List (Int×Bool))(w0 w:É):Prop where
 r:iq B 147 [Â Ë h,uv] s lv w
 C:w.ownsRow 0 257 2 lv ls.length (j0 ls)
 I:w.ownsRow 0 246 2 uv us.length (tR us)
 M:eZ e9 w0 w
 N:w0.heap.size<=B
 S:∀j,lv.ownBlock=Ã j->w0.heap.size<=j
 Y:∀j,uv.ownBlock=Ã j->w0.heap.size<=j
def NX.iR(w:É)(s:St)(h:Int):NX w.heap.size h (Ê Ä 0 0) (Ê Ä 0 0) s [] [] w ((Ă w<|Ð (ic s++[Ê Ä 0 0,Â Ë h,Ê Ä 0 0]).toArray 147).drew):=by refine⟨?_,ĉ _ _ _ _,ĉ _ _ _ _,(eZ.gC _ _ _ _).fc<|eZ.fN _ _,Þ _,(λj q=>nomatch q),(λj q=>nomatch q)⟩;unfold iq;rw[yM,show ic s++[Ê Ä 0 0]++[Â Ë h,Ê Ä 0 0]=ic s++[Ê Ä 0 0,Â Ë h,Ê Ä 0 0] by simp];exact fe.N w _ 147
noncomputable def G6:ŏ:=(Tryz.f115.body.bind kr).getD Ķ
def yN(c m B:Nat)(a:Option ă)(n b:Nat)(i:Int)(u:Nat->È):é:=⟨#[Å<|Ã ⟨c,0,Ä⟩,Â Ë m,Ê a n b,ā,ā,ā,Å Ä,Å<|Ã ⟨B,0,Ä⟩,u 8,u 9,u 10,u 11,u 12,u 13,u 14,u 15,u 16,u 17,u 18,u 19,u 20,u 21,u 22,u 23,u 24,Ê a n b,Â Ë n,Â Ë i,u 28,u 29,u 30,u 31,u 32,u 33,u 34,u 35,u 36,u 37,u 38,u 39,u 40,u 41,u 42,u 43,u 44,u 45,u 46,u 47,u 48,u 49,u 50,u 51,u 52,u 53,u 54,u 55,u 56,u 57,u 58,u 59,u 60,u 61,u 62,u 63,u 64,u 65,u 66,u 67,u 68,u 69,u 70,u 71,u 72,u 73,u 74,u 75,u 76,u 77,u 78,u 79,u 80,u 81,u 82],[]⟩
def G7(b m B:Nat)(c:Option ă)(n d:Nat)(i:Int)(a:é):Prop:=∃u,a=yN b m B c n d i u
def QN(X Y:é->É->Prop):aS->é->É->Prop
 |.exit 0,a,w=>X a w
 |.ret,a,w=>Y a w
 |_,_,_=>False
section
variable{lv:È}{s d:St}{ls f:List (Nat×Int)}{c:List (Int×Bool)}
def R5(j:Nat)(h:Int)(x:È):iO:=⟨j,147,[Â Ë h,x]⟩
def R6(j:Nat)(h:Int)(x:È):(R5 j h x).Ok:=⟨by show(147:Nat)≠36;decide,by show(147:Nat)≠257;decide,by show(147:Nat)≠282;decide,by show(147:Nat)≠300;decide,by show(147:Nat)≠252;decide,by show(147:Nat)≠246;decide⟩
def NX.fG(a:NX j h lv x s ls c u w)(k:eZ e9 w W):NX j h lv x s ls c u W:= ⟨a.r.ni k id,gW a.C k λ_ _=>id,gW a.I k λ_ _=>id,a.M.fc k,a.N,a.S,a.Y⟩
def NX.wR(a:NX j h lv x s ls c u w)(r:ia (R5 j h x) lv ls.length w d f W v):NX j h v x d f c u W:=by
 have k:=a.r;refine⟨r.r,r.I,gW a.I r.C ?_,a.M.C r.C ?_,a.N,λb q=> ?_,a.Y⟩
 .rintro b i (q|q)
  .let⟨m,g⟩:=ly a.I i;have e:b=j:=q;rw[e,k]at g;cases g
  .exact ajJ a.I a.C A i q
 .rintro i g (q|q)
  .have:=a.N;have e:i=j:=q;omega
  .have:=a.S i q;omega
 .rcases r.l b q with e|e
  .exact a.S b e
  .exact ë a.M.M e
def NX.fp(a:NX j h lv x s ls c u w)(b:i<8)(v:Int):NX j h lv x (s.fp i v) ls c u (w.setCell ⟨j,i*18,Ä⟩<|Â Æ v):= a.wR<|(ia.fQ (E:=R5 j h x) a.r a.C).fp (R6 _ _ _) b v
def ZM(c:List (Int×Bool)):∀u∈tR c,jZ u=Ú:=λu a=>by unfold tR at a;let⟨e,_,h⟩:=Β.1 a;simp at h;rcases h with rfl|rfl<;>rfl
def aln:(À.info? 246).map (λi=>(i.zero,i.size,i.bytes))=Ã (Ã<|Ē #[Â Æ 0,Ñ Ï],2,16):=fl
def NX.G(a:NX j h lv x s ls c u w):w.cell? ⟨j,146,Ä⟩=Ã x:= fe.r a.r 146 _<|by rw[ü (by rw[mb];omega),mb];rfl
def NX.alo{g:Int}(b:NX j h lv x s ls c u w)(a:pA w 0 246 2 x c.length (tR c) 1 [Â Æ g,Ñ yQ] v W): NX j h lv x s ls c u W/\NX j h lv v s ls (c++[(g,yQ)]) u (W.setCell ⟨j,146,Ä⟩ v):=by
 have m:∀{i:Nat} {n:Array È} {T:õ},x.ownBlock=Ã i->w.heap[i]?=Ã (Ð n T (0,0))->T=246:=λ{i n T} q hc=>by let⟨k,e⟩:=ly b.I q;rw[hc]at e;cases e;rfl
 have o:=b.M.C a.r λi y q=>by have:=b.Y i q;omega
 have f:NX j h lv x s ls c u W:=⟨b.r.ni a.r λq=>absurd (m q b.r) A,gW b.C a.r (λd q r=>by let⟨k,e⟩:=ly b.C q;exact absurd (m r e) A),a.I _ _ _ b.I λ_=>Þ _,o,b.N,b.S,b.Y⟩;have t:W.ownsRow 0 246 2 v (c++[(g,yQ)]).length (tR<|c++[(g,yQ)]):=by have:=a.fi;rwa[show tR c++[Â Æ g,Ñ yQ]=tR (c++[(g,yQ)]) by simp[tR],show c.length+1=(c++[(g,yQ)]).length by simp]at this
 have l:eZ (λk=>k=j) W (W.setCell ⟨j,146,Ä⟩ v):=eZ.I (X:=λk=>k=j) (p:=⟨j,146,Ä⟩) U v<|Ù<|fe.G f.r;have k:=fe.fX f.r 146 v;rw[List.set_append_right _ _ (by rw[mb];omega),mb]at k;refine⟨f,k,gW f.C l λd q r=>jo f.C f.r A (by rw[q,r]),gW t l λd q r=>jo t f.r A (by rw[q,r]),o.C l λi y q=>by have:=b.N;omega,b.N,b.S,λd q=> ?_⟩;rcases a.C with e|e
 .exact b.Y d<|by rwa[<-e]
 .rw[e]at q;cases q;exact b.M.M
end
section
variable{X:é->É->Prop}{cp:Nat}{lv:È}{s:St}{ls:List (Nat×Int)}{c:List (Int×Bool)}
def alp(d:Nat->È)(e:NX j h lv x s ls c u w)(i:Int)(f:i=n) (g:∀a,G7 b m j O n cp i a->X a w): Î À G6 (Exit.then K<|QN X H) (yN b m j O n cp i d) w:=by
 unfold yN;conv=>arg 2;whnf
 subst f;go_wp2_with fail;exact g _ (gl _)
def alq(d:Nat->È)(f:NX j h lv x s ls c u w)(i:Int)(k:Nat)(q:i=k)(P:k<n)(Q:n<=1000)(tb o a:Nat)(r:O=Ã ⟨tb,o,Ä⟩)(S:w.cell? ⟨tb,o+k,Ä⟩=Ã (Å<|Ã ⟨a,0,Ä⟩))(t:Tx)(v:lB a t w)(y:t.Ok)(z:iF w)(B:gD s)(D:(ls.length:Int)+400<=1000000)(g:Int)(E:Bool)(F:St)(G:List (Nat×Int))(I:lQ s ls t=((g,E),Ï,F,G)) (J:∀a p,a.tmps.getD 6 ā=Å Ä->a.defers=[]->eZ e9 u p->H a p): Î À G6 (Exit.then K<|QN X H) (yN b m j O n cp i d) w:=by
 unfold yN;conv=>arg 2;whnf
 subst q r;have C:=ZF (R6 _ _ _) (by show(147:Nat)≠200;decide) f.r f.C z B v y D;rw[I]at C;have T:(0:Int)<=(k:Int):=Z
 have V:(k:Int)<(n:Int):=Z
 have W:=fe.M f.r;have l:=e8<|Á f C;go_wp2_with fail;go_at_call 154;apply l.out.2.mono;rintro e Y ⟨rfl,yy,L⟩;have M:=l.out.1.wR L;have N:=e8 M;go_wp2_with fail;exact J _ _ U U<|N.out.M.fc<|eZ.gC _ _ _ _
def alr(d:Nat->È)(f:NX j h lv x s ls c u w)(i:Int)(k:Nat)(V:i=k)(hj:k<n)(hn:n<=1000)(tb M a:Nat)(W:O=Ã ⟨tb,M,Ä⟩)(hc:w.cell? ⟨tb,M+k,Ä⟩=Ã (Å<|Ã ⟨a,0,Ä⟩))(t:Tx)(Y:lB a t w)(Ka:t.Ok)(hr:iF w)(hs:gD s)(hlen:(ls.length:Int)+400<=1000000)(g:Int)(o:Bool)(z:St)(N:List (Nat×Int))(ho:lQ s ls t=((g,o),Ú,z,N))(P:m<8)(E:gD z)(vW:0<=g)(va:g<=1000)(JD:c.length<=1000) (p:∀a v jm R7,G7 b m j O n cp (i+1) a->NX j h jm R7 (z.fp m<|wu<|(z m).fp+g) N (c++[(g,o)]) u v->K a v): Î À G6 (Exit.then K<|QN X H) (yN b m j O n cp i d) w:=by
 unfold yN;conv=>arg 2;whnf
 subst V W;have C:=ZF (R6 _ _ _) (by show(147:Nat)≠200;decide) f.r f.C hr hs Y Ka hlen;rw[ho]at C;have e1:(0:Int)<=(k:Int):=Z
 have e2:(k:Int)<(n:Int):=Z
 have asq:=fe.M f.r;have l:=e8<|Á f C;go_wp2_with fail;go_at_call 154;apply l.out.2.mono;rintro e r ⟨rfl,yy,r1⟩;have B:=l.out.1.wR r1;have m1:=B.r.fp P;have z1:=fe.C B.r<|m*18;have KM:=fe.M B.r;have b0:=(E.fp m).1;have b1:=(E.fp m).2;have hub:x.ownBlock≠Ã r.heap.size:=λq=>by have:=(B.I.lt _ q).2;omega
 have HX:=e8<|Á B E;generalize hb:(z m).fp=b at*;have hm0:(0:Int)<=(m:Int):=Z
 have hm1:(m:Int)<8:=Z
 go_wp2_with fail
 go_region
 have hx8:=(HX.out.1.fp P<|wu<|b+g).fG<|(eZ.gC e9 _ #[Â Æ g,Ñ o] 246).fc<|eZ.fN _ _;have hU:fe r.heap.size [Â Æ g,Ñ o] 246 (Č<|Ă (r.setCell ⟨j,m*18,Ä⟩<|Â Æ<|wu<|b+g)<|Ð #[Â Æ g,Ñ o] 246):=by
  have:=fe.N (r.setCell ⟨j,m*18,Ä⟩<|Â Æ<|wu<|b+g) [Â Æ g,Ñ o] 246;have y:fe r.heap.size [Â Æ g,Ñ o] 246 (Ă (r.setCell ⟨j,m*18,Ä⟩<|Â Æ<|wu<|b+g)<|Ð #[Â Æ g,Ñ o] 246):=by simpa using this
  exact y
 go_wp2_with fail
 change Î À _ _ _ (Č<|Ă (r.setCell ⟨j,m*18,Ä⟩<|Â Æ<|wu<|b+g)<|Ð #[Â Æ g,Ñ o] 246);generalize Č (Ă (r.setCell ⟨j,m*18,Ä⟩<|Â Æ<|wu<|b+g)<|Ð #[Â Æ g,Ñ o] 246)=w8 at*;generalize r.heap.size=ub at*;have Q:=hx8.fG<|eZ.fN e9 w8;have F:=hU.I (eZ.fN e9 w8) id;let⟨i0,hi0,G2,als,alu⟩:=í aln;have D:=e8<|Á hi0<|Á G2<|Á als alu;have HS:=e8<|Á Q.G<|Á (F.r 0 _ rfl)<|F.r 1 _ rfl;have S:=e8<|Á Q F;refine lP (λv=>v.cell? ⟨j,146,Ä⟩=Ã x/\v.cell? ⟨ub,0,Ä⟩=Ã (Â Æ g)/\v.cell? ⟨ub,1,Ä⟩=Ã (Ñ o)) [10] fl ?_;iterate 6 apply tk HS.out
 have G:=S.out.1.fG<|eZ.gC e9 _ #[Â Æ g,Ñ o] 246;have I:=S.out.2.I (eZ.gC e9 _ #[Â Æ g,Ñ o] 246) id;refine gu 6 ?_;intro K p;go_simp;refine p.out _ _ (λ_=>⟨G.G,I.r 0 _ U,I.r 1 _ U⟩) ?_;refine gu 7 ?_;intro K p;refine KE (hfl:=Ù ⟨fh,λd y=>(ú.1 y).elim (ZM c d) (λq=>by simp at q;rcases q with rfl|rfl<;>rfl),by simp[jZ,ğ]⟩) fP _ _ 145 fP Tryz.underlying145 D.out.1 D.out.2.1 D.out.2.2.1 D.out.2.2.2 U fP G.I ⟨_,0,Ä⟩ [Â Æ g,Ñ o] fP Z U (ŵ _ _ _ _) (λd y=>by simp at y;rcases y with rfl|rfl<;>rfl) (by unfold Ą;omega) Z (â _) ?_;intro uv1 w9 J;obtain⟨a2,ZN,rfl⟩:=jy J.fi;let⟨L,n2⟩:=G.alo J;have y:=I.I J.r hub;refine p.out _ _ (λ_=>⟨L.G,y.r 0 _ U,y.r 1 _ U⟩) ?_;have T:=L.G;have fz:=fe.C L.r 146;refine gu 8 ?_;intro K p;go_simp;refine p.out _ _ (λ_=>⟨T,y.r 0 _ U,y.r 1 _ U⟩) ?_;refine gu 9 ?_;intro K p;go_simp;refine p.out _ _ (λ_=>⟨T,y.r 0 _ U,y.r 1 _ U⟩) ?_;refine gu 10 ?_;intro K p;go_simp;refine p.out _ _ (λq=>absurd fh q) ?_;refine lA fl ?_ _;go_wp2_with fail;subst hb;exact p _ _ _ _ (gl _) n2
end
def tS(m:Nat):St->List (Nat×Int)->List (Int×Bool)->List Tx->Option (St×List (Nat×Int)×List (Int×Bool))
 |s,ls,us,[]=>Ã (s,ls,us)
 |s,ls,us,t::r=>if(lQ s ls t).2.1 then tS m ((lQ s ls t).2.2.1.fp m<|wu<|((lQ s ls t).2.2.1 m).fp+(lQ s ls t).1.1) (lQ s ls t).2.2.2 (us++[(lQ s ls t).1]) r else Ä
def alv{s:St}(b:gD s)(x y:Nat)(c:0<=h):gD (wU s x y h).2:=by
 unfold wU;split
 .exact b
 .rename_i a;have:=(b.fp x).2;exact(b.r x ⟨Z,Z⟩).r y<|yH _
def alx{s:St}(a:gD s)(x:Nat)(e:B.size<=40/\∀c∈B.data.toList,wP c=Ú):gD (wV s x B).2:=by
 unfold wV;split
 .exact a
 .rename_i h;have:=(a.fp x).2;have d:=a.r x (b:=(s x).fp-20) ⟨Z,Z⟩;exact d.fX (d.fp x) (d.C x) e
structure ZO(r:List (Nat×Int))(o:(Int×Bool)×Bool×St×List (Nat×Int)):Prop where
 g0:0<=o.1.1
 C:o.1.1<=400
 s:gD o.2.2.1
 r:o.2.2.2.length<=r.length+400
def aly{s:St}(f:gD s){d:List (Nat×Int)}(g:i<8)(l:j<8)(m:fW c)(p:(d.length:Int)+400<=1000000):ZO d (yL s d i j h c):=by
 unfold yL;split
 .exact⟨Ö _,by show(0:Int)<=400;decide,f,Ŀ _ _⟩
 .rename_i a;have q:=(f.fp i).2;have o:=f.r i (b:=(s i).fp-h) ⟨Z,Z⟩;have e:=KL _ d i j (h-10) c o g l m Z Z Z;have r:=e.C;have t:=e.r;have u:=e.I;exact⟨by show 0<=_+10;omega,by show _+10<=400;omega,e.N.r i<|yH _,by show(gd _ _ _ _ _ _).I.length<=_;omega⟩
def ZQ{s:St}(b:gD s){ls:List (Nat×Int)}{t:Tx}(a:t.Ok)(c:(ls.length:Int)+400<=1000000):ZO ls (lQ s ls t):=by
 unfold lQ;split
 .exact⟨by show(0:Int)<=10;decide,by show(10:Int)<=400;decide,alv b _ _ a.I,Ŀ _ _⟩
 .split
  .exact⟨by show(0:Int)<=20;decide,by show(20:Int)<=400;decide,alx b _ a.N,Ŀ _ _⟩
  .exact aly b a.x a.y ⟨a.r,by have:=a.C;omega⟩ c
structure Bv(bp:Option ă)(n:Nat)(lC:List (Nat×Tx))(w:É):Prop where
 r:n=lC.length
 C:∀(j a:Nat) (t:Tx),lC[j]?=Ã (a,t)->∃tb te,bp=Ã ⟨tb,te,Ä⟩/\w.cell? ⟨tb,te+j,Ä⟩=Ã (Å<|Ã ⟨a,0,Ä⟩)/\lB a t w/\t.Ok
def Bv.I{b:List (Nat×Tx)}(h:Bv O n b w)(k:eZ e9 w u):Bv O n b u:= ⟨h.r,λj a t q=>by let⟨tb,c,d,e,f,g⟩:=h.C j a t q;exact⟨tb,c,d,k.r e id,f.S k id,g⟩⟩
def lb(a:List (Nat×Tx)):List Tx:=a.map (·.2)
section
variable{bp:Option ă}{cp:Nat}{lC:List (Nat×Tx)}{d:Option (St×List (Nat×Int)×List (Int×Bool))}
def R8(n:Nat)(a:é)(_:É):Nat:=match a.tmps.getD 27 ā with
 |Â _ i=>n-i.toNat
 |_=>0
def NI(b m i:Nat)(bp:Option ă)(n cp:Nat)(h:Int)(u:É)(lC:List (Nat×Tx))(d:Option (St×List (Nat×Int)×List (Int×Bool)))(a:é)(w:É):Prop:=
 ∃(j:Nat) (s:St) (c:List (Nat×Int)) (e:List (Int×Bool)) (f g:È),G7 b m i bp n cp j a/\j<=n/\NX i h f g s c e u w/\gD s/\c.length<=400*j/\e.length=j/\tS m s c e ((lb lC).drop j)=d
def NE(b m i:Nat)(bp:Option ă)(n cp:Nat)(h:Int)(u:É)(d:Option (St×List (Nat×Int)×List (Int×Bool)))(a:é)(w:É):Prop:=
 ∃(s:St) (c:List (Nat×Int)) (e:List (Int×Bool)) (f g:È),G7 b m i bp n cp n a/\NX i h f g s c e u w/\gD s/\d=Ã (s,c,e)
def NR(u:É)(d:Option (St×List (Nat×Int)×List (Int×Bool)))(a:é)(w:É):Prop:=
 a.tmps.getD 6 ā=Å Ä/\a.defers=[]/\eZ e9 u w/\d=Ä
theorem alz(C:Bv bp n lC u)(K:iF u)(L:n<=1000)(V:m<8)(a:é)(w:É)(W:NI b m i bp n cp h u lC d a w): Î À G6 (Exit.then (λo q=>NI b m i bp n cp h u lC d o q/\R8 n o q<R8 n a w)<|QN (NE b m i bp n cp h u d)<|NR u d) a w:=by
 let⟨j,s,r,M,X,Y,hfr,hj,x,y,RG,JD,e⟩:=W;obtain⟨c,rfl⟩:=hfr;by_cases uM:j=n
 .have D:(lb lC).drop j=[]:=Ę (by unfold lb;rw[Ο,<-C.r];omega);rw[D]at e;refine alp c x j (by rw[uM]) λa v=>⟨s,r,M,X,Y,?_,x,y,e.symm⟩;grind
 .have E:j<n:=Z
  obtain⟨⟨a,t⟩,N⟩:∃p,lC[j]?=Ã p:=⟨_,Ô<|by rwa[<-C.r]⟩;have D:(lb lC).drop j=t::(lb lC).drop (j+1):=by
   have v:(lb lC)[j]?=Ã t:=by unfold lb;rw[ķ,N];rfl
   grind [ē]
  let⟨tb,O,P,Q,S,F⟩:=(C.I x.M).C j a t N;have G:(r.length:Int)+400<=1000000:=Z
  have k:=ZQ y F G;rw[D]at e;unfold tS at e;obtain⟨g,l,H,z,f,I⟩:∃g l H z f,lQ s r t=((g,l),H,z,f):=⟨_,_,_,_,_,U⟩;rw[I]at e k;have g0:=k.g0;have g1:g<=400:=k.C;have T:=k.s;have KM:f.length<=r.length+400:=k.r;cases H with
  |false=>
   simp only[ĭ,if_false]at e;exact alq c x j j U E L tb O a P Q t S F (K.r x.M id) y G g l z f I λo q B J v=>⟨B,J,v,e.symm⟩
  |true=>
   simp only[if_true]at e;refine alr c x j j U E L tb O a P Q t S F (K.r x.M id) y G g l z f I V T g0 Z Z λo q jm R7 B J=>⟨⟨j+1,_,f,M++[(g,l)],jm,R7,by simpa using B,Z,J,T.r m<|yH _,Z,by simp[JD],e⟩,?_⟩;obtain⟨v,rfl⟩:=B;show n-((j:Int)+1).toNat<n-((j:Int)).toNat;omega
def wW(m:Nat)(s:St)(lC:List Tx):Option (St×List (Nat×Int)×List (Int×Bool)):=
 (tS m s [] [] lC).map λr=>(r.1.fp m<|wu<|(r.1 m).fp+50,r.2)
def Dz(h:Int)(w:É)(r:Option (St×List (Nat×Int)×List (Int×Bool)))(e:av)(a:É):Prop:=
 (r=Ä/\e=Ç (Å Ä)/\eZ e9 w a)\/
 ∃s b c i d f,r=Ã (s,b,c)/\e=Ç (Å<|Ã ⟨i,0,Ä⟩)/\NX i (h+1) d f s b c w a/\gD s
def alA{s:St}(e:lR b s h w)(Y:0<=h)(hh1:h<=1000)(y:gD s)(z:Bv bp n lC w)(B:iF w)(J:n<=1000)(f:m<8): Ò À 115 #[Å<|Ã ⟨b,0,Ä⟩,Â Ë m,Ê bp n cp] w (Dz h w<|wW m s<|lb lC):=by
 let⟨M,C,D⟩:=Ì.1 R4;have E:(À.info? 140).map (·.size)=Ã (ic s).length:=by rw[qW];exact ZL
 have k:=e8<|Á C<|Á D E;have F:=(e.r (eZ.fN e9 w) id).C;have G:=(e.r (eZ.fN e9 w) id).h;have n8:Ë.wrap (h+1)=h+1:=GY Z Z;have c:=e8<|Á F G;have gI:=á w _ e.h;have L:∀l a,NX w.heap.size (h+1) (Ê Ä 0 0) (Ê Ä 0 0) s [] [] w l->G7 b m w.heap.size bp n cp 0 a->Î À (à G6) (QN (NE b m w.heap.size bp n cp (h+1) w<|tS m s [] []<|lb lC)<|NR w<|tS m s [] []<|lb lC) a l:=λl a x N=>
  Ĉ (NI b m w.heap.size bp n cp (h+1) w lC<|tS m s [] []<|lb lC) (R8 n) ⟨0,s,[],[],_,_,N,â _,x,y,fh,U,U⟩<|alz z B J f
 have H:=e8<|Á e L;have I:wW m s (lb lC)=(tS m s [] []<|lb lC).map λr=>(r.1.fp m<|wu<|(r.1 m).fp+50,r.2):=U;rw[I];clear C D F G e E L y z B I;generalize tS m s [] [] (lb lC)=d at*;go_enter Tryz.func115,Tryz.ntmps115;go_wp2_with fail;refine lP (λg=>g.rangeAt b 0 (ic s)/\g.cell? ⟨b,145,Ä⟩=Ã (Â Ë h)) [] fl ?_;iterate 4 apply tk c.out
 refine GX (i:=4) (oi:={dst:=Ã 16,op:=Go.Op.load 140<|î 15,type:=140,pos:= "block.go:30",after:=#[{on:=3,ground:=ï}],guard:=Ä}) U fl fl fl fl (λ_ _ _ h=>h) c.out (yieldsIf_load_mid fP 140 _ U b 0 U (ic s) M (λw h=>h.1) k.out.1 k.out.2.1 k.out.2.2) ?_;refine GX (i:=5) (oi:={dst:=Ã 17,op:=Χ 144 #[(0,î 16)],type:=144,pos:= "block.go:30",after:=#[{on:=4,ground:=ï}],guard:=Ä}) U fl fl fl fl (λ_ _ _ h=>h) c.out (Ø ⟨fP,λ_ _=>R3 U U<|qW s⟩) ?_;apply tk c.out 6;apply tk c.out 7;apply tk c.out 8;apply tk c.out 9;apply tk c.out 10;refine GX (i:=11) U fl fl fl fl (λ_ _ _ h=>h) c.out (Ø ⟨fP,λ_ _=>alm U U U (by simp[qW]) U⟩) ?_;have g:=e8<|(H.out.1.r (eZ.fN e9 w) id).r (eZ.gC e9 _ ((ic s++[Ê Ä 0 0])++[Â Ë<|h+1,Ê Ä 0 0]).toArray 147) id;refine gu 12 ?_;intro K o;rw[if_pos fP];unfold Ń;rw[ZK U U,Ħ];refine o.out _ _ (λ_=>⟨g.out.C,g.out.h⟩) ?_;refine gu 13 ?_;intro K o;go_simp;refine o.out _ _ (λ_=>⟨g.out.C,g.out.h⟩) ?_;refine lA fl ?_ _;go_wp2_with fail;have O:=NX.iR w s<|h+1;refine Ý ?_ (H.out.2 _ _ O (gl _));rintro(_|(_|_)|_|_|_|_) a v hq;all_goals first|exact absurd hq id|skip
 .let⟨p,P,Q,S,T,V,j,q,W⟩:=hq;subst W;have d1:=j.r.fp f;have f1:=fe.C j.r<|m*18;have KM:=fe.M j.r;have b0:=(q.fp m).1;have b1:=(q.fp m).2;have hm0:(0:Int)<=(m:Int):=Z
  have hm1:(m:Int)<8:=Z
  have t:=e8<|Á j q;generalize X:(p m).fp=b at*;obtain⟨u,rfl⟩:=V;unfold yN;go_wp2_with fail;go_region;go_wp2_with fail;go_ret;refine Ù ⟨p.fp m<|wu<|(p m).fp+50,P,Q,w.heap.size,S,T,U,U,?_,t.out.2.r m<|yH _⟩;rw[X];first
   |exact(t.out.1.fp f<|wu<|b+50).fG<|eZ.fN _ _
   |exact(t.out.1.still<|Keep.drew _ _).fp f<|wu<|b+50
 .let⟨j,p,q,t⟩:=hq;simp only[Exit.inBlock,Exit.then];apply ð (results_tmp U _ _ _) p;exact Ø ⟨by rw[t];rfl,by rw[j],q⟩
end
def pH(i:Nat):ByteArray:=if i<10 then⟨#[(48+i).toUInt8]⟩else⟨#[(48+i/10).toUInt8,(48+i%10).toUInt8]⟩
def alB:∀k:Fin 10,(⟨#[48,49,50,51,52,53,54,55,56,57,97,98,99,100,101,102,103,104,105,106,107,108,109,110,111,112,113,114,115,116,117,118,119,120,121,122]⟩:ByteArray).extract k.val (k.val+1)=pH k.val:=by decide+kernel
def alC:∀k:Fin 100,k.val<10\/(⟨#[48,48,48,49,48,50,48,51,48,52,48,53,48,54,48,55,48,56,48,57,49,48,49,49,49,50,49,51,49,52,49,53,49,54,49,55,49,56,49,57,50,48,50,49,50,50,50,51,50,52,50,53,50,54,50,55,50,56,50,57,51,48,51,49,51,50,51,51,51,52,51,53,51,54,51,55,51,56,51,57,52,48,52,49,52,50,52,51,52,52,52,53,52,54,52,55,52,56,52,57,53,48,53,49,53,50,53,51,53,52,53,53,53,54,53,55,53,56,53,57,54,48,54,49,54,50,54,51,54,52,54,53,54,54,54,55,54,56,54,57,55,48,55,49,55,50,55,51,55,52,55,53,55,54,55,55,55,56,55,57,56,48,56,49,56,50,56,51,56,52,56,53,56,54,56,55,56,56,56,57,57,48,57,49,57,50,57,51,57,52,57,53,57,54,57,55,57,56,57,57]⟩:ByteArray).extract (k.val*2) (k.val*2+2)=pH k.val:=by decide+kernel
theorem alD(i:Nat)(h:i<10)(w:É):Ò À 187 #[Â Ë i] w λe a=>e=Ç (Í<|pH i)/\a=w:=by
 go_enter ź,π;go_wp2;all_goals go_ret
 refine⟨YZ<|alB ⟨i,h⟩,U⟩
theorem alE(i:Nat)(h:i<100)(b:10<=i)(w:É):Ò À 187 #[Â Ë i] w λe a=>e=Ç (Í<|pH i)/\a=w:=by
 go_enter ź,π;go_wp2;all_goals go_ret
 refine⟨YZ ((alC ⟨i,h⟩).resolve_left<|by show¬i<10;omega),U⟩
theorem alF(i:Nat)(h:i<100)(w:É):Ò À 187 #[Â Ë i] w λe a=>e=Ç (Í<|pH i)/\a=w:=by grind [alD,alE]
def alG(i:Nat)(h:i<100)(w:É):Ò À 171 #[Â Ë i,Â Ë 10] w λe a=>e=Ç (Í<|pH i)/\a=w:=by go_enter Tryz.func171,Tryz.ntmps171;go_wp2_with (go_at_call 187;refine(alF i h _).mono ?_;rintro e a ⟨rfl,rfl⟩);go_ret;exact⟨U,U⟩
def ZR(i:Nat)(h:i<100)(w:É):Ò À 117 #[Â Ë i] w λe a=>e=Ç (Í<|pH i)/\a=w:=by
 go_enter Tryz.func117,Tryz.ntmps117;go_wp2_with (first
  |(go_at_call 171;refine(alG i h _).mono ?_;rintro e a ⟨rfl,rfl⟩)
  |go_in)
 go_ret;exact⟨U,U⟩
def oC(i:Nat):ByteArray:=⟨#[33]⟩++pH i
def DC(i:Nat)(h:i<10)(w:É):Ò À 114 #[Â Ë i] w λe a=>e=Ç (Í<|oC i)/\a=w:=by
 have b:(pH i).size=1:=by unfold pH;rw[if_pos h];rfl
 go_enter Tryz.func114,Tryz.ntmps114;go_wp2_with (go_at_call 117;refine(ZR i Z _).mono ?_;rintro e a ⟨rfl,rfl⟩);go_ret;exact⟨U,U⟩
def tb(n c:Nat):Nat:=(n^^^c)*1099511628211%18446744073709551616
def KP(n c:Nat):tb n c<18446744073709551616:=aN _ Z
def ZS(n c:Nat)(a:n<18446744073709551616)(f:c<256)(w:É):Ò À 178 #[Â Æ n,Â aT c] w λe b=>e=Ç (Â Æ<|tb n c)/\b=w:=by
 go_enter Tryz.func178,Tryz.ntmps178;go_wp2_with fail;go_ret;refine⟨?_,U⟩;have d:Æ.wrap (((n^^^c:Nat):Int)*1099511628211)=((tb n c:Nat):Int):=by rw[aX];unfold tb;omega
 rw[bits_xor_u64_nat n c a Z,d];rfl
def tn(m:Nat):Nat->Nat->Nat
 |n,0=>n
 |n,j+1=>tn m (tb n<|m/2^(8*j)%256) j
def ZT(m:Nat):∀(j n:Nat),n<18446744073709551616->tn m n j<18446744073709551616
 |0,_,h=>h
 |j+1,_,_=>ZT m j _<|KP _ _
noncomputable def KQ:ŏ:=(Tryz.f177.body.bind kr).getD Ķ
def DF(m n:Nat)(i:Int)(u:Nat->È):é:=⟨#[Â Æ n,Â Æ m,u 2,u 3,u 4,Â Ë i,u 6,u 7,u 8,u 9,u 10,u 11,u 12,u 13,u 14,u 15,u 16],[]⟩
def DG(m n:Nat)(i:Int)(a:é):Prop:=∃u,a=DF m n i u
section
variable{X:é->É->Prop}
def alH(m n j:Nat)(f:j<8)(d:n<18446744073709551616)(g:m<18446744073709551616)(u:Nat->È)(b:∀a,DG m (tb n<|m/2^(8*j)%256) (((8*j:Nat):Int)-8) a->K a w): Î À KQ (Exit.then K<|QQ X) (DF m n (8*j:Nat) u) w:=by
 unfold DF;conv=>arg 2;whnf
 have h:(0:Int)<=((8*j:Nat):Int):=Z
 have i:((8*j:Nat):Int)<64:=Z
 have T:=ZS n (m/2^(8*j)%256) d Z w;generalize 8*j=j8 at*;have c:((m/2^j8%256:Nat):Int)=(m:Int)/2^j8%256:=fh
 rw[c]at T;have H:=e8<|Á T b;clear T b c;go_wp2_with (go_at_call 178;apply H.out.1.mono;rintro e k ⟨rfl,rfl⟩);exact H.out.2 _ (gl _)
def alI(m n:Nat)(u:Nat->È)(b:∀a,DG m n (-8) a->X a w): Î À KQ (Exit.then K<|QQ X) (DF m n (-8) u) w:=by
 unfold DF;conv=>arg 2;whnf
 go_wp2_with fail
 exact b _ (gl _)
def TI(m:Nat)(b:É)(c:Nat)(a:é)(w:É):Prop:=∃n j:Nat,DG m n (((8*j:Nat):Int)-8) a/\j<=8/\n<18446744073709551616/\w=b/\tn m n j=c
def TE(m:Nat)(b:É)(c:Nat)(a:é)(w:É):Prop:=DG m c (-8) a/\w=b
def KR(a:é)(_:É):Nat:=match a.tmps.getD 5 ā with
 |Â _ i=>(i+8).toNat
 |_=>0
def ZU(b:DG m n h y):KR y w=(h+8).toNat:=by obtain⟨u,rfl⟩:=b;rfl
def alJ(f:m<18446744073709551616)(a:é)(w:É)(g:TI m u i a w): Î À KQ (Exit.then (λb e=>TI m u i b e/\KR b e<KR a w)<|QQ<|TE m u i) a w:=by
 obtain⟨n,j,c,k,h,rfl,d⟩:=g;rw[ZU (w:=w) c];obtain⟨b,rfl⟩:=c;cases j with
 |zero=>
  subst d;exact alI m n b λa q=>⟨q,U⟩
 |succ j=>
  have e:(((8*(j+1):Nat):Int)-8)=((8*j:Nat):Int):=Z
  rw[e];refine alH m n j Z h f b λa q=>⟨⟨_,j,q,Z,KP _ _,U,d⟩,?_⟩;rw[ZU q];omega
end
def nP(n m:Nat):Nat:=tn m n 8
theorem DK(n m:Nat)(a:n<18446744073709551616):nP n m<18446744073709551616:=ZT m 8 n a
def G8(n m:Nat)(b:n<18446744073709551616)(c:m<18446744073709551616)(w:É):Ò À 177 #[Â Æ n,Â Æ m] w λe d=>e=Ç (Â Æ<|nP n m)/\d=w:=by
 have L:∀a,DG m n 56 a->Î À (à KQ) (QQ<|TE m w<|nP n m) a w:=λa f=>
  Ĉ (TI m w<|nP n m) KR ⟨n,8,f,Þ _,b,U,U⟩<|alJ c
 generalize nP n m=r at*;go_enter Tryz.func177,Tryz.ntmps177;go_wp2_with fail;refine Ý ?_ ((e8 L).out _ (gl _));rintro(_|(_|_)|_|_|_|_) a v hq;all_goals first|exact absurd hq id|skip
 obtain⟨g,rfl⟩:=hq;obtain⟨u,rfl⟩:=g;unfold DF;go_wp2_with fail;go_ret;exact⟨U,U⟩
def G9(p q:Nat):Nat:=nP (nP 14695981039346656037 p) q
def alK(p q:Nat):G9 p q<18446744073709551616:=DK _ _<|DK _ _ Z
noncomputable def Ha:ŏ:=(Tryz.f162.body.bind kr).getD Ķ
noncomputable def Hb:ŏ:=(kr Ha).getD Ķ
def Q2(X:é->É->Prop):aS->é->É->Prop
 |.exit 2,a,w=>X a w
 |_,_,_=>False
def uV(b c d:Nat)(a:Nat)(i:Int)(u:Nat->È):é:=⟨#[Ê (Ã ⟨b,0,Ä⟩) c d,u 1,u 2,Â Ë a,u 4,u 5,u 6,u 7,u 8,u 9,u 10,Â Ë a,Â Ë i,u 13,u 14,u 15,u 16,u 17,u 18,u 19,u 20,u 21,u 22,u 23,u 24,u 25,u 26,u 27,u 28,u 29,u 30,u 31,u 32,u 33,u 34,u 35,u 36,u 37],[]⟩
def Bw(b c d:Nat)(e:Nat)(i:Int)(a:é):Prop:=∃u,a=uV b c d e i u
section
variable{X:é->É->Prop}{cp:Nat}
def alL(u:Nat->È)(c:∀a,Bw b n cp i i a->X a w): Î À Hb (Exit.then K<|Q2 X) (uV b n cp i i u) w:=by
 unfold uV;conv=>arg 2;whnf
 go_wp2_with fail
 exact c _ (gl _)
def alM(c p q z:Nat)(k:G9 p q=z)(t:c<i)(x:2*i<=n)(y:n<=16)(l:p<18446744073709551616)(m:q<18446744073709551616)(u:Nat->È) (o:w.cell? ⟨b,2*c,Ä⟩=Ã (Â Æ p)) (r:w.cell? ⟨b,2*c+1,Ä⟩=Ã (Â Æ q)) (h:∃v,w.cell? ⟨b,c,Ä⟩=Ã v) (B:w.frozen? ⟨b,c,Ä⟩=Ï) (d:∀a,Bw b n cp i ((c+1:Nat):Int) a->K a (w.setCell ⟨b,c,Ä⟩<|Â Æ z).drew): Î À Hb (Exit.then K<|Q2 X) (uV b n cp i c u) w:=by
 unfold uV;conv=>arg 2;whnf
 subst k;unfold G9 at d;let⟨C,h⟩:=h;have D:(0:Int)<=(c:Int):=Z
 have E:(c:Int)<(i:Int):=Z
 have F:(2:Int)*(c:Int)+1<(n:Int):=Z
 have G:((2:Int)*(c:Int)).toNat=2*c:=Z
 have H:((2:Int)*(c:Int)+1).toNat=2*c+1:=Z
 have I:Ë.wrap (2*(c:Int))=2*(c:Int):=GY Z Z;have j:Ë.wrap (2*(c:Int)+1)=2*(c:Int)+1:=GY Z Z;have J:(0:Int)<=2*(c:Int):=Z
 have L:2*(c:Int)<(n:Int):=Z
 have M:(0:Int)<=2*(c:Int)+1:=Z
 have N:(c:Int)<(n:Int):=Z
 have s:=e8 d;clear d;go_wp2_with fail;have f:=e8<|Á o r;refine lP (λe=>e.cell? ⟨b,2*c,Ä⟩=Ã (Â Æ p)/\e.cell? ⟨b,2*c+1,Ä⟩=Ã (Â Æ q)) [16] fl ?_;iterate 7 apply tk f.out
 apply tk f.out 8;apply tk f.out 9;apply tk f.out 10;apply tk f.out 11;apply tk f.out 12;apply tk f.out 13;refine gu 7 ?_;intro K d;go_simp;go_at_call 177;refine(G8 14695981039346656037 p Z l _).mono ?_;rintro e g ⟨rfl,j⟩;subst g;refine d.out _ _ (λ_=>f.out) ?_;refine gu 14 ?_;intro K d;go_simp;go_at_call 177;refine(G8 (nP 14695981039346656037 p) q (DK _ _ Z) m _).mono ?_;rintro e g ⟨rfl,j⟩;subst g;refine d.out _ _ (λ_=>f.out) ?_;refine gu 15 ?_;intro K d;go_simp;refine d.out _ _ (λ_=>f.out) ?_;refine gu 16 ?_;intro K d;go_simp;refine d.out _ _ (λq=>absurd fh q) ?_;refine lA fl ?_ _;go_wp2_with fail;exact s.out _ (gl _)
end
def pr(l:List Nat)(t:Nat):Nat:=G9 (l.getD (2*t) 0)<|l.getD (2*t+1) 0
def ZV(l:List Nat)(t:Nat):G9 (l.getD (2*t) 0) (l.getD (2*t+1) 0)=pr l t:=by unfold pr;exact Eq.refl _
def jE(l:List Nat)(i:Nat):List Nat:=(ċ l.length).map λt=>if t<i then pr l t else l.getD t 0
def tT(l:List Nat):List Nat:=(ċ<|l.length/2).map<|pr l
def kg(l:List Nat):List È:=l.map λ(x:Nat)=>Â Æ x
def qY(l:List Nat):Prop:=∀t,l.getD t 0<18446744073709551616
theorem Hc(l:List Nat)(i:Nat):(jE l i).length=l.length:=by simp[jE]
theorem KS(l:List Nat)(i t:Nat)(h:t<l.length):(jE l i)[t]?=Ã (if t<i then pr l t else l.getD t 0):=by simp[jE,û h]
theorem alN(l:List Nat):jE l 0=l:=by refine þ λt=> ?_;grind [KS,Hc]
theorem alO(l:List Nat)(i:Nat)(h:i<l.length):(jE l i).set i (pr l i)=jE l (i+1):=by refine þ λt=> ?_;grind [KS,Hc,ĕ]
theorem alP(l:List Nat):jE l (l.length/2)=tT l++l.drop (l.length/2):=by
 refine þ λt=> ?_;have b:(tT l).length=l.length/2:=by simp[tT]
 by_cases a:t<l.length
 .rw[KS _ _ t a];by_cases q:t<l.length/2
  .rw[if_pos q,ç Z];simp[tT,û q]
  .grind
 .grind [Hc,Ó,List.length_drop]
def alQ(l:List Nat)(t:Nat):pr l t<18446744073709551616:=by rw[<-ZV];exact alK _ _
def KT{N:Nat}(a:0<N)(h:∀x∈jJ,x<N)(t:Nat):jJ.getD t 0<N:=by
 rw[Ĳ];cases e:jJ[t]? with
 |none=>exact a
 |some x=>exact h x<|Ġ e
def ZW(l:List Nat):qY (tT l):=KT Z λx a=>by unfold tT at a;obtain⟨t,_,rfl⟩:=ņ.1 a;exact alQ l t
def qZ:Nat->List Nat->Nat
 |0,l=>l.getD 0 0
 |k+1,l=>qZ k<|tT l
def R9(l:List Nat)(i x:Nat):kg (l.set i x)=(kg l).set i (Â Æ x):=by simp[kg,List.map_set]
theorem Hd(l:List Nat)(i x:Nat)(h:l[i]?=Ã x):(kg l)[i]?=Ã (Â Æ x):=by simp[kg,h]
section
variable{cp:Nat}{l:List Nat}{junk:List È}
def II(b n cp i:Nat)(T:õ)(l:List Nat)(junk:List È)(d:É)(a:é)(w:É):Prop:=
 ∃c:Nat,Bw b n cp i c a/\c<=i/\eZ (λk=>k=b) d w/\fe b (kg (jE l c)++junk) T w
def IE(b n cp i:Nat)(T:õ)(l:List Nat)(junk:List È)(c:É)(a:é)(w:É):Prop:=
 Bw b n cp i i a/\eZ (λk=>k=b) c w/\fe b (kg (jE l i)++junk) T w
def KU(i:Nat)(a:é)(_:É):Nat:=match a.tmps.getD 12 ā with
 |Â _ b=>i-b.toNat
 |_=>0
def ZX(c:Bw b n cp i j y):KU i y w=i-j:=by obtain⟨u,rfl⟩:=c;show i-(j:Int).toNat=_;simp
def alR(g:qY l)(r:l.length=n)(s:2*i=n)(m:n<=16)(a:é)(w:É)(o:II b n cp i T l junk u a w): Î À Hb (Exit.then (λc d=>II b n cp i T l junk u c d/\KU i c d<KU i a w)<|Q2<|IE b n cp i T l junk u) a w:=by
 let⟨c,h,v,j,e⟩:=o;rw[ZX h];obtain⟨d,rfl⟩:=h;by_cases p:c=i
 .subst p;exact alL d λa q=>⟨q,j,e⟩
 .have f:=λt x y=>
   e.r t _<|by rw[ç (by simp[kg,Hc];omega)];exact Hd _ _ _<|by rw[KS l c t Z,if_neg Z]
  refine alM c (l.getD (2*c) 0) (l.getD (2*c+1) 0) (pr l c) (ZV l c) Z Z m (g _) (g _) d (f _ Z Z) (f _ Z Z) ⟨_,f c Z Z⟩ (e.C c) λa q=>⟨⟨c+1,q,Z,(j.fc<|eZ.I (X:=λk=>k=b) U _).fc<|eZ.fN _ _,?_⟩,by rw[ZX q];omega⟩;rw[<-alO l c Z,R9,<-Ğ _ _ (by simp[kg,Hc];omega)];exact((e.fX c<|Â Æ<|pr l c).I (eZ.fN e9 _) id)
def alS(c:qY l)(d:l.length=n)(e:2*i=n)(f:n<=16)(g:fe b (kg l++junk) T w)(h:Bw b n cp i (0:Nat) y): Î À (à Hb) (Q2<|IE b n cp i T l junk w) y w:= Ĉ (II b n cp i T l junk w) (KU i) ⟨0,h,â _,eZ.fQ _ _,by rwa[alN]⟩<|alR c d e f
end
def DL(b a c:Nat)(u:Nat->È):é:=⟨#[Ê (Ã ⟨b,0,Ä⟩) a c,u 1,u 2,u 3,u 4,u 5,u 6,u 7,u 8,u 9,u 10,u 11,u 12,u 13,u 14,u 15,u 16,u 17,u 18,u 19,u 20,u 21,u 22,u 23,u 24,u 25,u 26,u 27,u 28,u 29,u 30,u 31,u 32,u 33,u 34,u 35,u 36,u 37],[]⟩
def DN(b c d:Nat)(a:é):Prop:=∃u,a=DL b c d u
section
variable{cp:Nat}{l:List Nat}{junk:List È}
def alT(c:n=1)(u:Nat->È)(d:∀a,DN b n cp a->H a w): Î À Ha (Exit.then K<|QQ H) (DL b n cp u) w:=by
 unfold DL;conv=>arg 2;whnf
 subst c;go_wp2_with fail;exact d _ (gl _)
def alU(u:Nat->È)(g:qY l)(h:l.length=n)(j:2*i=n)(s:0<i)(m:n<=16)(t:n<=cp)(d:fe b (kg l++junk) T w) (o:∀a e,DN b i cp a->eZ (λk=>k=b) w e->fe b (kg (jE l i)++junk) T e->K a e): Î À Ha (Exit.then K<|QQ H) (DL b n cp u) w:=by
 have L:∀a,Bw b n cp i (0:Nat) a->Î À (à Hb) (Q2<|IE b n cp i T l junk w) a w:=λa p=>alS g h j m d p;unfold DL;conv=>arg 2;whnf
 have x:(n:Int).tdiv 2=(i:Int):=by rw[Int.tdiv_eq_ediv_of_nonneg Z];omega
 have y:(0:Int)<=(i:Int):=Z
 have z:(i:Int)<=(cp:Int):=Z
 have c:=e8<|Á L o;go_wp2_with fail;refine Ý ?_ (c.out.1 _ (gl _));rintro(_|(_|_|_|_)|_|_|_|_) a v hq;all_goals first|exact absurd hq id|skip
 let⟨q,r,d⟩:=hq;obtain⟨u,rfl⟩:=q;unfold uV;have f:=e8<|Á r d;go_wp2_with fail;exact c.out.2 _ _ (gl _) f.out.1 f.out.2
def OI(b cp:Nat)(T:õ)(c:É)(d:Nat)(a:é)(w:É):Prop:=
 ∃(k:Nat) (l:List Nat) (junk:List È),DN b l.length cp a/\l.length=2^k/\l.length<=16/\l.length<=cp/\qY l/\eZ (λk=>k=b) c w/\fe b (kg l++junk) T w/\qZ k l=d
def OE(b cp:Nat)(c:É)(d:Nat)(a:é)(w:É):Prop:=DN b 1 cp a/\1<=cp/\eZ (λk=>k=b) c w/\w.cell? ⟨b,0,Ä⟩=Ã (Â Æ d)
def KV(a:é)(_:É):Nat:=match a.tmps.getD 0 ā with
 |Ê _ n _=>n
 |_=>0
def ZY(c:DN b n cp y):KV y w=n:=by obtain⟨u,rfl⟩:=c;rfl
def alV(a:é)(w:É)(r:OI b cp T u i a w): Î À Ha (Exit.then (λc d=>OI b cp T u i c d/\KV c d<KV a w)<|QQ<|OE b cp u i) a w:=by
 let⟨k,l,junk,g,h,s,t,v,j,m,n⟩:=r;rw[ZY g];obtain⟨c,rfl⟩:=g;cases k with
 |zero=>
  have e:=h;have f:w.cell? ⟨b,0,Ä⟩=Ã (Â Æ<|l.getD 0 0):=m.r 0 _ (by rw[ç (by simp[kg];omega)];exact Hd _ _ _<|by rw[Ĳ,Ô Z];rfl);have o:l.getD 0 0=i:=n;rw[o]at f;refine alT e c λa q=>⟨by rwa[e]at q,Z,j,f⟩
 |succ k=>
  have x:2*2^k=l.length:=by rw[h,Nat.pow_succ];omega
  have y:0<2^k:=Nat.pow_pos Z;have f:l.length/2=2^k:=Z
  have o:(tT l).length=2^k:=by simp[tT,f]
  refine alU c v U x y s t m λa d q z p=>⟨⟨k,tT l,kg (l.drop<|l.length/2)++junk,by rwa[o],o,Z,Z,ZW l,j.fc z,?_,n⟩,by rw[ZY q];omega⟩;have e:=alP l;rw[f]at e;rw[e]at p;rw[f,<-Ċ];simpa[kg]using p
end
def ZZ{cp:Nat}{l:List Nat}{junk:List È}(c:l.length=2^k)(d:l.length<=16)(f:l.length<=cp)(g:qY l)(h:fe b (kg l++junk) T w): Ò À 162 #[Ê (Ã ⟨b,0,Ä⟩) l.length cp] w λe a=>e=Ç (Â Æ<|qZ k l)/\eZ (λi=>i=b) w a:=by
 have L:∀a,DN b l.length cp a->Î À (à Ha) (QQ<|OE b cp w<|qZ k l) a w:=λa e=>
  Ĉ (OI b cp T w<|qZ k l) KV ⟨k,l,junk,e,c,d,f,g,eZ.fQ _ _,h,U⟩ alV
 generalize qZ k l=r at*;generalize l.length=n at*;go_enter Tryz.func162,Tryz.ntmps162;go_wp2_with fail;refine Ý ?_ ((e8 L).out _ (gl _));rintro(_|(_|_)|_|_|_|_) a v hq;all_goals first|exact absurd hq id|skip
 let⟨i,j,m,o⟩:=hq;obtain⟨u,rfl⟩:=i;unfold DL;go_wp2_with fail;go_ret;simp_all
def alW:À.underlying 118=Ã (.array 16 36):=fl
def alX(w:É)(c:i<16)(e:d[i]?=Ã (Â Æ h)):(Κ 118 (Ē d)<|Â Ë (i:Int)).run À w=φ (Â Æ h) w:=by
 have a:(0:Int)<=(i:Int):=Z
 have b:(i:Int)<16:=Z
 simp[Κ,ř alW,asIntOf,go_sem,a,b];go_simp
noncomputable def He:ŏ:=(aY.body.bind kr).getD Ķ
def DR(c o b:Nat)(a:Array È)(i:Int)(u:Nat->È):é:=⟨#[Å<|Ã ⟨c,o,Ä⟩,u 1,u 2,Å<|Ã ⟨b,0,Ä⟩,u 4,u 5,u 6,u 7,u 8,u 9,u 10,Ē a,Â Ë i,u 13,u 14,u 15,u 16,u 17,u 18,u 19,u 20,u 21,u 22,u 23,u 24,u 25,u 26,u 27,u 28,u 29,u 30,u 31,u 32,u 33,u 34,u 35,u 36,u 37,u 38,u 39,u 40,u 41,u 42,u 43,u 44,u 45,u 46,u 47],[]⟩
def Bx(d o b:Nat)(c:Array È)(i:Int)(a:é):Prop:=∃u,a=DR d o b c i u
section
variable{X:é->É->Prop}
def alY(u:Nat->È)(c:∀a,Bx n i b d 16 a->X a w): Î À He (Exit.then K<|QQ X) (DR n i b d 16 u) w:=by
 unfold DR;conv=>arg 2;whnf
 go_wp2_with fail
 exact c _ (gl _)
def alZ(c p z:Nat)(j:nP 14695981039346656037 p=z)(k:c<16)(l:p<18446744073709551616)(f:d[c]?=Ã (Â Æ p))(g:∃v,w.cell? ⟨b,c,Ä⟩=Ã v)(o:w.frozen? ⟨b,c,Ä⟩=Ï)(u:Nat->È) (h:∀a,Bx n i b d ((c+1:Nat):Int) a->K a (w.setCell ⟨b,c,Ä⟩<|Â Æ z)): Î À He (Exit.then K<|QQ X) (DR n i b d c u) w:=by
 unfold DR;conv=>arg 2;whnf
 let⟨q,g⟩:=g;have r:=λW=>alX W k f;have m:=e8 h;clear h f;go_wp2_with (go_at_call 177;refine(G8 14695981039346656037 p Z l _).mono ?_;rintro e s ⟨rfl,rfl⟩;rw[j]);exact m.out _ (gl _)
def lf(x:Nat):Nat:=nP 14695981039346656037 x
theorem KW(x:Nat):lf x<18446744073709551616:=DK _ _ Z
def Z0(x:Nat):nP 14695981039346656037 x=lf x:=by unfold lf;exact Eq.refl _
def nQ(l:List Nat)(i:Nat):List Nat:=(ċ 16).map λt=>if t<i then lf (l.getD t 0)else 0
theorem Hf(l:List Nat)(i:Nat):(nQ l i).length=16:=by simp[nQ]
theorem Z1(l:List Nat)(i t:Nat)(h:t<16):(nQ l i)[t]?=Ã (if t<i then lf (l.getD t 0)else 0):=by simp[nQ,û h]
theorem al0(l:List Nat)(i:Nat)(h:i<16):(nQ l i).set i (lf<|l.getD i 0)=nQ l (i+1):=by refine þ λt=> ?_;grind [Z1,Hf,ĕ]
def Z2(l:List Nat):qY (nQ l 16):=KT Z λx a=>by
 unfold nQ at a;obtain⟨t,_,rfl⟩:=ņ.1 a;split
 .exact KW _
 .omega
def AI(n i b:Nat)(l:List Nat)(d:É)(a:é)(w:É):Prop:=
 ∃c:Nat,Bx n i b (kg l).toArray c a/\c<=16/\eZ (λk=>k=b) d w/\fe b (kg<|nQ l c) 118 w
def AE(n i b:Nat)(l:List Nat)(c:É)(a:é)(w:É):Prop:=
 Bx n i b (kg l).toArray 16 a/\eZ (λk=>k=b) c w/\fe b (kg<|nQ l 16) 118 w
def KX(a:é)(_:É):Nat:=match a.tmps.getD 12 ā with
 |Â _ i=>16-i.toNat
 |_=>0
def Z3(c:Bx n i b d j y):KX y w=16-j:=by obtain⟨u,rfl⟩:=c;show 16-(j:Int).toNat=_;simp
theorem al1(h:qY jJ)(p:jJ.length=16)(a:é)(w:É)(j:AI n i b jJ u a w): Î À He (Exit.then (λc d=>AI n i b jJ u c d/\KX c d<KX a w)<|QQ<|AE n i b jJ u) a w:=by
 let⟨c,f,r,g,e⟩:=j;rw[Z3 f];obtain⟨d,rfl⟩:=f;by_cases m:c=16
 .subst m;exact alY d λa q=>⟨q,g,e⟩
 .have o:(kg jJ).toArray[c]?=Ã (Â Æ<|jJ.getD c 0):=by
   grind [Hd]
  refine alZ c (jJ.getD c 0) (lf<|jJ.getD c 0) (Z0 _) Z (h _) o ⟨_,(e.r c _<|Hd _ _ _<|by rw[Z1 jJ c c Z,if_neg Z])⟩ (e.C c) d λa q=>⟨⟨c+1,q,Z,g.fc (eZ.I (X:=λk=>k=b) U _),?_⟩,by rw[Z3 q];omega⟩;rw[<-al0 jJ c Z,R9];exact e.fX c<|Â Æ<|lf<|jJ.getD c 0
def al2{l:List Nat}(c:qY l)(d:l.length=16)(e:fe b (kg<|nQ l 0) 118 w)(f:Bx n i b (kg l).toArray (0:Nat) y): Î À (à He) (QQ<|AE n i b l w) y w:= Ĉ (AI n i b l w) KX ⟨0,f,â _,eZ.fQ _ _,e⟩<|al1 c d
end
def By:ŏ->List ŏ
 |à c=>[c]
 |.seq a b=>By a++By b
 |.block _ c=>By c
 |.scope c=>By c
 |.cond _ a b=>By a++By b
 |_=>[]
noncomputable def Hg:ŏ:=((aY.body.map By).getD []).getD 1 Ķ
def DU(a o:Nat)(P:ByteArray)(n:Nat)(i:Int)(u:Nat->È):é:=⟨#[Å<|Ã ⟨a,o,Ä⟩,u 1,u 2,u 3,u 4,u 5,Â Æ n,u 7,u 8,u 9,u 10,u 11,u 12,u 13,u 14,u 15,u 16,u 17,u 18,u 19,u 20,u 21,u 22,u 23,u 24,u 25,u 26,u 27,u 28,u 29,u 30,u 31,u 32,u 33,Â Ë P.size,Â Ë i,u 36,u 37,u 38,u 39,u 40,u 41,u 42,u 43,u 44,u 45,u 46,u 47],[]⟩
def Bz(b o:Nat)(P:ByteArray)(n:Nat)(i:Int)(a:é):Prop:=∃u,a=DU b o P n i u
def yO(n:Nat)(l:List UInt8):Nat:=l.foldl (λn c=>tb n c.toNat) n
def al3(b:Nat)(c:Int)(d:c=B.size)(u:Nat->È)(e:∀a,Bz n i B b c a->H a w): Î À Hg (Exit.then K<|Q2 H) (DU n i B b c u) w:=by
 unfold DU;conv=>arg 2;whnf
 subst d;go_wp2_with fail;exact e _ (gl _)
def al4{B:ByteArray}{c:UInt8}(w:É)(a:B.data.toList[i]?=Ã c):(Κ 9 (Í B)<|Â Ë (i:Int)).run À w=φ (Â aT (c.toNat:Nat)) w:=by
 have e:(0:Int)<=(i:Int):=Z
 let⟨b,d⟩:=Ü.1 a;have f:i<B.size:=by simpa using b
 have g:B[i]=c:=by rw[<-d];exact(Array.getElem_toList _).symm
 go_simp
def al5(b d z:Nat)(c:UInt8)(g:tb b c.toNat=z)(l:d<B.size)(m:B.size<=1000000)(k:b<18446744073709551616)(h:B.data.toList[d]?=Ã c)(o:w.cell? ⟨n,i+1,Ä⟩=Ã (Í B))(u:Nat->È) (j:∀a,Bz n i B z ((d+1:Nat):Int) a->K a w): Î À Hg (Exit.then K<|Q2 H) (DU n i B b d u) w:=by
 unfold DU;conv=>arg 2;whnf
 have p:(0:Int)<=(d:Int):=Z
 have q:(d:Int)<(B.size:Int):=Z
 have r:(B.size:Int)<=1000000:=Z
 have s:=λW=>al4 W h;have t:=c.toNat_lt;have T:=ZS b c.toNat k Z w;rw[g]at T;generalize c.toNat=cn at*;have f:=e8<|Á T j;clear j T h g;go_wp2_with (go_at_call 178;apply f.out.1.mono;rintro e v ⟨rfl,rfl⟩);exact f.out.2 _ (gl _)
def BI(n i:Nat)(B:ByteArray)(d:É)(e:Nat)(a:é)(w:É):Prop:=
 ∃b c:Nat,Bz n i B b c a/\c<=B.size/\b<18446744073709551616/\w=d/\yO b (B.data.toList.drop c)=e
def BE(n i:Nat)(B:ByteArray)(b:É)(c:Nat)(a:é)(w:É):Prop:=Bz n i B c B.size a/\w=b
def KY(m:Nat)(a:é)(_:É):Nat:=match a.tmps.getD 35 ā with
 |Â _ i=>m-i.toNat
 |_=>0
def Z4(c:Bz n i B j b y):KY m y w=m-b:=by obtain⟨u,rfl⟩:=c;show m-(b:Int).toNat=_;simp
def al6(h:B.size<=1000000)(k:u.cell? ⟨n,i+1,Ä⟩=Ã (Í B))(a:é)(w:É)(l:BI n i B u j a w): Î À Hg (Exit.then (λb c=>BI n i B u j b c/\KY B.size b c<KY B.size a w)<|Q2<|BE n i B u j) a w:=by
 obtain⟨b,c,f,p,m,rfl,e⟩:=l;rw[Z4 f];obtain⟨d,rfl⟩:=f;have r:B.data.toList.length=B.size:=fh
 by_cases o:c=B.size
 .rw[Ę Z]at e;subst e;exact al3 b c Z d λa q=>⟨by rwa[o]at q,U⟩
 .have g:c<B.data.toList.length:=Z
  rw[ē g]at e;refine al5 b c (tb b (B.data.toList[c]).toNat) (B.data.toList[c]) (Eq.refl _) Z h m (Ô g) k d λa q=>⟨⟨_,c+1,q,Z,KP _ _,U,e⟩,by rw[Z4 q];omega⟩
def al7(b:B.size<=1000000)(c:j<18446744073709551616)(d:w.cell? ⟨n,i+1,Ä⟩=Ã (Í B))(e:Bz n i B j (0:Nat) y): Î À (à Hg) (Q2<|BE n i B w<|yO j B.data.toList) y w:= Ĉ (BI n i B w<|yO j B.data.toList) (KY B.size) ⟨j,0,e,â _,c,U,U⟩<|al6 b d
abbrev zA:List È:=[Â Æ 0,Â Æ 0,Â Æ 0,Â Æ 0,Â Æ 0,Â Æ 0,Â Æ 0,Â Æ 0,Â Æ 0,Â Æ 0,Â Æ 0,Â Æ 0,Â Æ 0,Â Æ 0,Â Æ 0,Â Æ 0]
def BA(B:Nat)(P:ByteArray)(a:List Nat):Nat:=yO (nP (lf B)<|qZ 4<|nQ a 16) P.data.toList
def Sb:∀(k:Nat) (l:List Nat),qY l->qZ k l<18446744073709551616
 |0,_,h=>h 0
 |k+1,l,_=>Sb k (tT l)<|ZW l
def al8(l:List Nat):kg (nQ l 0)=zA:=by rfl
def al9{P:ByteArray}(d f g p r s x y z C D E F G I J:Nat)(Y:(kg jJ).toArray=#[Â Æ d,Â Æ f,Â Æ g,Â Æ p,Â Æ r,Â Æ s,Â Æ x,Â Æ y,Â Æ z,Â Æ C,Â Æ D,Â Æ E,Â Æ F,Â Æ G,Â Æ I,Â Æ J])(hl:jJ.length=16)(hB:m<18446744073709551616)(hP:P.size<=1000000)(hs:qY jJ) (K:w.cell? ⟨n,j,Ä⟩=Ã (Â Æ m)) (c1:w.cell? ⟨n,j+1,Ä⟩=Ã (Í P)) (r0:w.cell? ⟨n,j+2,Ä⟩=Ã (Â Æ d)) (r1:w.cell? ⟨n,j+2+1,Ä⟩=Ã (Â Æ f)) (r2:w.cell? ⟨n,j+2+2,Ä⟩=Ã (Â Æ g)) (r3:w.cell? ⟨n,j+2+3,Ä⟩=Ã (Â Æ p)) (r4:w.cell? ⟨n,j+2+4,Ä⟩=Ã (Â Æ r)) (r5:w.cell? ⟨n,j+2+5,Ä⟩=Ã (Â Æ s)) (r6:w.cell? ⟨n,j+2+6,Ä⟩=Ã (Â Æ x)) (r7:w.cell? ⟨n,j+2+7,Ä⟩=Ã (Â Æ y)) (r8:w.cell? ⟨n,j+2+8,Ä⟩=Ã (Â Æ z)) (r9:w.cell? ⟨n,j+2+9,Ä⟩=Ã (Â Æ C)) (r10:w.cell? ⟨n,j+2+10,Ä⟩=Ã (Â Æ D)) (r11:w.cell? ⟨n,j+2+11,Ä⟩=Ã (Â Æ E)) (r12:w.cell? ⟨n,j+2+12,Ä⟩=Ã (Â Æ F)) (r13:w.cell? ⟨n,j+2+13,Ä⟩=Ã (Â Æ G)) (r14:w.cell? ⟨n,j+2+14,Ä⟩=Ã (Â Æ I)) (r15:w.cell? ⟨n,j+2+15,Ä⟩=Ã (Â Æ J)): Ò À 161 #[Å<|Ã ⟨n,j,Ä⟩] w λe c=>e=Ç (Â Æ<|BA m P jJ)/\eZ e9 w c:=by
 have gI:=á w _ K;have L1:∀a,Bx n j w.heap.size #[Â Æ d,Â Æ f,Â Æ g,Â Æ p,Â Æ r,Â Æ s,Â Æ x,Â Æ y,Â Æ z,Â Æ C,Â Æ D,Â Æ E,Â Æ F,Â Æ G,Â Æ I,Â Æ J] (0:Nat) a->Î À (à He) (QQ<|AE n j w.heap.size jJ<|w.alloc<|Ð zA.toArray 118) a (w.alloc<|Ð zA.toArray 118):=λa L=>
  al2 hs hl (by rw[al8];exact fe.N w zA 118)<|by rwa[Y]
 have M:∀W,fe w.heap.size (kg<|nQ jJ 16) 118 W->Ò À 162 #[Ê (Ã ⟨w.heap.size,0,Ä⟩) 16 16] W λe c=>e=Ç (Â Æ<|qZ 4<|nQ jJ 16)/\eZ (λi=>i=w.heap.size) W c:=λW hW=>by have t:=ZZ (w:=W) (b:=w.heap.size) (cp:=16) (k:=4) (T:=118) (l:=nQ jJ 16) (junk:=[]) (by rw[Hf]) (by rw[Hf];omega) (by rw[Hf];omega) (Z2 jJ) (by rwa[ò]);rwa[Hf]at t
 have N:=Sb 4 (nQ jJ 16)<|Z2 jJ;obtain⟨t,O⟩:∃t,qZ 4 (nQ jJ 16)=t:=⟨_,U⟩;have Z5:BA m P jJ=yO (nP (lf m) t) P.data.toList:=by unfold BA;rw[O]
 rw[Z5];rw[O]at M N;have L2:∀W a,W.cell? ⟨n,j+1,Ä⟩=Ã (Í P)->Bz n j P (nP (lf m) t) (0:Nat) a->Î À (à Hg) (Q2<|BE n j P W<|yO (nP (lf m) t) P.data.toList) a W:=λW a h L=>
  al7 hP (DK _ _<|KW m) h L
 have C1:∀W,Ò À 177 #[Â Æ 14695981039346656037,Â Æ m] W λe c=>e=Ç (Â Æ<|lf m)/\c=W:=λW=>by rw[<-Z0];exact G8 14695981039346656037 m Z hB W
 have C2:∀W,Ò À 177 #[Â Æ<|lf m,Â Æ t] W λe c=>e=Ç (Â Æ<|nP (lf m) t)/\c=W:=λW=>G8 (lf m) t (KW m) N W;have H:=e8<|Á K<|Á c1<|Á L1<|Á M<|Á L2<|Á C1 C2;clear L1 M L2 C1 C2 Z5 O N hs K c1 Y;generalize yO (nP (lf m) t) P.data.toList=res at*;generalize nP (lf m) t=n2 at*;generalize lf m=n1 at*;go_enter Tryz.func161,Tryz.ntmps161;go_wp2_with fail;refine Ý (Q:=QQ<|AE n j w.heap.size jJ<|w.alloc<|Ð zA.toArray 118) ?_ (H.out.2.2.1 _ (gl _));rintro(_|(_|_)|_|_|_|_) a v hq;all_goals first|exact absurd hq id|skip
 let⟨S,hk,Z6⟩:=hq;have V:eZ e9 w v:=(eZ.gC e9 w zA.toArray 118).C hk λi hi q=>by omega
 have g0:=V.r H.out.1 id;obtain⟨u,rfl⟩:=S;unfold DR;have HV:=e8<|Á V Z6;clear V Z6 hk r0 r1 r2 r3 r4 r5 r6 r7 r8 r9 r10 r11 r12 r13 r14 r15;go_wp2_with (first
  |(go_at_call 162;refine(H.out.2.2.2.1 _ HV.out.2).mono ?_;rintro e w2 ⟨rfl,yd⟩;have X:=HV.out.1.C yd (λi hi q=>by omega);have g1:=X.r H.out.2.1 id;have HK:=e8 X;clear yd X)
  |(go_at_call 177;with_reducible refine(H.out.2.2.2.2.2.2 _).mono ?_;rintro e X ⟨rfl,rfl⟩)
  |(go_at_call 177;refine(H.out.2.2.2.2.2.1 _).mono ?_;rintro e X ⟨rfl,rfl⟩))
 refine Ý (Q:=Q2<|BE n j P _ res) ?_ (H.out.2.2.2.2.1 _ _ g1 (gl _));rintro(_|(_|_|_|_)|_|_|_|_) a v2 hq;all_goals first|exact absurd hq id|skip
 obtain⟨S,rfl⟩:=hq;obtain⟨u,rfl⟩:=S;unfold DU;go_wp2_with fail;go_ret;exact⟨U,HK.out⟩
def ama{P:ByteArray}(c:j<18446744073709551616)(d:P.size<=1000000)(f:jJ.length=16)(g:qY jJ) (h:w.cell? ⟨i,n,Ä⟩=Ã (Â Æ j)) (k:w.cell? ⟨i,n+1,Ä⟩=Ã (Í P)) (b:∀(a x:Nat),jJ[a]?=Ã x->w.cell? ⟨i,n+2+a,Ä⟩=Ã (Â Æ x)): Ò À 161 #[Å<|Ã ⟨i,n,Ä⟩] w λe l=>e=Ç (Â Æ<|BA j P jJ)/\eZ e9 w l:=by
 match jJ,f with
 |[a0,a1,a2,a3,a4,a5,a6,a7,a8,a9,Z7,Z8,a12,Z9,a_,b_],_=>exact al9 a0 a1 a2 a3 a4 a5 a6 a7 a8 a9 Z7 Z8 a12 Z9 a_ b_ fP fP c d g h k (b 0 a0 U) (b 1 a1 U) (b 2 a2 U) (b 3 a3 U) (b 4 a4 U) (b 5 a5 U) (b 6 a6 U) (b 7 a7 U) (b 8 a8 U) (b 9 a9 U) (b 10 Z7 U) (b 11 Z8 U) (b 12 a12 U) (b 13 Z9 U) (b 14 a_ U)<|b 15 b_ U
abbrev zB:List È:=[Â Æ 0,Â Æ 0,Â Æ 0,Â Æ 0,Â Æ 0,Â Æ 0,Â Æ 0,Â Æ 0]
noncomputable def KZ:ŏ:=(Tryz.f122.body.bind kr).getD Ķ
def DV(a b:Nat)(i:Int)(u:Nat->È):é:=⟨#[Å<|Ã ⟨a,0,Ä⟩,u 1,u 2,Å<|Ã ⟨b,0,Ä⟩,u 4,Â Ë i,u 6,u 7,u 8,u 9,u 10,u 11,u 12,u 13,u 14,u 15,u 16,u 17],[]⟩
def DW(c b:Nat)(i:Int)(a:é):Prop:=∃u,a=DV c b i u
section
variable{X:é->É->Prop}
def amb(u:Nat->È)(c:∀a,DW i b 8 a->X a w): Î À KZ (Exit.then K<|QQ X) (DV i b 8 u) w:=by
 unfold DV;conv=>arg 2;whnf
 go_wp2_with fail
 exact c _ (gl _)
def amc(c z:Nat)(o:c<8)(T:Ò À 161 #[Å<|Ã ⟨i,c*18,Ä⟩] w λe j=>e=Ç (Â Æ z)/\eZ e9 w j)(g:List È)(h:È)(k:g[c]?=Ã h)(l:fe b g 116 w)(u:Nat->È) (m:∀a f,DW i b ((c+1:Nat):Int) a->eZ e9 w f->K a (f.setCell ⟨b,c,Ä⟩<|Â Æ z)): Î À KZ (Exit.then K<|QQ X) (DV i b c u) w:=by
 unfold DV;conv=>arg 2;whnf
 have H:=e8<|Á T<|Á m l;go_wp2_with (go_at_call 161;apply H.out.1.mono;rintro e f ⟨rfl,d⟩;have p:=(H.out.2.2.I d id).r c h k;have q:=(H.out.2.2.I d id).C c;have n:=e8 d;clear d);exact H.out.2.1 _ _ (gl _) n.out
def pI(D:Nat->Nat)(i:Nat):List Nat:=(ċ 8).map λt=>if t<i then D t else 0
theorem Hh(D:Nat->Nat)(i:Nat):(pI D i).length=8:=by simp[pI]
theorem c_(D:Nat->Nat)(i t:Nat)(h:t<8):(pI D i)[t]?=Ã (if t<i then D t else 0):=by simp[pI,û h]
theorem amd(D:Nat->Nat)(i:Nat)(h:i<8):(pI D i).set i (D i)=pI D (i+1):=by refine þ λt=> ?_;grind [c_,Hh,ĕ]
def d_(b:∀i,D i<18446744073709551616):qY (pI D 8):=KT Z λx a=>by
 unfold pI at a;obtain⟨t,_,rfl⟩:=ņ.1 a;split
 .exact b _
 .omega
def ame(D:Nat->Nat):kg (pI D 0)=zB:=by rfl
def DI(i b:Nat)(D:Nat->Nat)(d:É)(a:é)(w:É):Prop:=
 ∃c:Nat,DW i b c a/\c<=8/\eZ (λk=>k=b) d w/\fe b (kg<|pI D c) 116 w
def DE(i b:Nat)(D:Nat->Nat)(c:É)(a:é)(w:É):Prop:=
 DW i b 8 a/\eZ (λk=>k=b) c w/\fe b (kg<|pI D 8) 116 w
def K0(a:é)(_:É):Nat:=match a.tmps.getD 5 ā with
 |Â _ i=>8-i.toNat
 |_=>0
def f_(c:DW i b n y):K0 y w=8-n:=by obtain⟨u,rfl⟩:=c;show 8-(n:Int).toNat=_;simp
def amf(C:∀c,c<8->∀W,eZ (λk=>k=b) u W->Ò À 161 #[Å<|Ã ⟨i,c*18,Ä⟩] W λe f=>e=Ç (Â Æ<|D c)/\eZ e9 W f)(a:é)(w:É)(m:DI i b D u a w): Î À KZ (Exit.then (λd f=>DI i b D u d f/\K0 d f<K0 a w)<|QQ<|DE i b D u) a w:=by
 let⟨c,j,o,g,h⟩:=m;rw[f_ j];obtain⟨d,rfl⟩:=j;by_cases n:c=8
 .subst n;exact amb d λa q=>⟨q,g,h⟩
 .refine amc c (D c) Z (C c Z w g) _ _ (Hd _ _ _<|by rw[c_ D c c Z,if_neg Z]) h d λa p q l=>⟨⟨c+1,q,Z,(g.fc<|l.S λ_ _=>ę).fc (eZ.I (X:=λk=>k=b) U _),?_⟩,by rw[f_ q];omega⟩;rw[<-amd D c Z,R9];exact(h.I l id).fX c<|Â Æ<|D c
end
def K1(D:Nat->Nat):Nat:=qZ 3<|pI D 8
def amg(h:∀b,D b<18446744073709551616)(C:∀b,b<8->∀W,eZ (λk=>k=w.heap.size) (w.alloc<|Ð zB.toArray 116) W->Ò À 161 #[Å<|Ã ⟨i,b*18,Ä⟩] W λe c=>e=Ç (Â Æ<|D b)/\eZ e9 W c): Ò À 122 #[Å<|Ã ⟨i,0,Ä⟩] w λe c=>e=Ç (Â Æ<|K1 D)/\eZ e9 w c:=by
 have L:∀a,DW i w.heap.size (0:Nat) a->Î À (à KZ) (QQ<|DE i w.heap.size D<|w.alloc<|Ð zB.toArray 116) a (w.alloc<|Ð zB.toArray 116):=λa j=>
  Ĉ (DI i w.heap.size D<|w.alloc<|Ð zB.toArray 116) K0 ⟨0,j,â _,eZ.fQ _ _,by rw[ame];exact fe.N w zB 116⟩<|amf C
 have T:∀W,fe w.heap.size (kg<|pI D 8) 116 W->Ò À 162 #[Ê (Ã ⟨w.heap.size,0,Ä⟩) 8 8] W λe c=>e=Ç (Â Æ<|qZ 3<|pI D 8)/\eZ (λb=>b=w.heap.size) W c:=λW l=>by have t:=ZZ (cp:=8) (k:=3) (by rw[Hh]) (by rw[Hh];omega) (by rw[Hh];omega) (d_ h) (by rwa[ò]);rwa[Hh]at t
 unfold K1;have H:=e8<|Á L T;generalize qZ 3 (pI D 8)=t at*;go_enter Tryz.func122,Tryz.ntmps122;go_wp2_with fail;refine Ý (Q:=QQ<|DE i w.heap.size D<|w.alloc<|Ð zB.toArray 116) ?_ (H.out.1 _ (gl _));rintro(_|(_|_)|_|_|_|_) a v hq;all_goals first|exact absurd hq id|skip
 let⟨m,n,o⟩:=hq;have p:=(eZ.gC e9 w zB.toArray 116).C n λb r q=>by omega
 obtain⟨u,rfl⟩:=m;unfold DV;have d:=e8<|Á p o;go_wp2_with (go_at_call 162;refine(H.out.2 _ d.out.2).mono ?_;rintro e x ⟨rfl,f⟩;have g:=d.out.1.C f (λb r q=>by omega);have s:=e8 g;clear f g);go_ret;exact⟨U,s.out⟩
def Hi(a:GO):List Nat:=(ċ 16).map λj=>(a.C j).toNat
def g_(a:GO):Nat:=BA a.fp.toNat a.r<|Hi a
def DX(s:St):Nat:=K1 λi=>g_<|s i
theorem amh(l:List UInt8):∀n,n<18446744073709551616->yO n l<18446744073709551616:=by
 induction l with
 |nil=>exact λn h=>h
 |cons c r h=>exact λn _=>h _<|KP _ _
theorem h_(B:Nat)(P:ByteArray)(a:List Nat):BA B P a<18446744073709551616:=by unfold BA;grind [amh,DK,KW]
def Sc(s:St)(h:i<144):(ic s)[i]?=Ã (pC s i):=by simp[ic,û h]
def lR.ami{s:St}(m:lR n s h W)(a:gD s)(i:Nat)(f:i<8): Ò À 161 #[Å<|Ã ⟨n,i*18,Ä⟩] W λe b=>e=Ç (Â Æ<|g_<|s i)/\eZ e9 W b:=by
 have g:=λj d=>by have:=m.C j _<|Sc s d;simpa using this
 have b:=a.fp i;have k:=g (i*18) Z;have l:=g (i*18+1) Z;rw[<-qg s (Ê Ä 0 0) Z,GR _ _ f]at k;rw[<-qg s (Ê Ä 0 0) Z,Kx _ _ f]at l;refine ama (by have e:=b.1;have c:=b.2;omega) (by have:=(a.I i).1;omega) (by simp[Hi]) ?_ ?_ l ?_
 .refine KT Z λx e=> ?_;unfold Hi at e;obtain⟨t,_,rfl⟩:=ņ.1 e;have c:=(a.C i t).2;omega
 .rw[k];unfold pB;rw[Ĕ b.1]
 .intro j x e;have d:j<16:=by have:=(Ü.1 e).1;simpa[Hi]using this
  have c:=g (i*18+2+j) Z;rw[<-qg s (Ê Ä 0 0) Z,Ky _ _ f d]at c;have t:((s i).C j).toNat=x:=by simpa[Hi,û d]using e
  rw[c,<-t];unfold pB;rw[Ĕ (a.C i j).1]
def amj{s:St}(b:lR i s h w)(c:gD s): Ò À 122 #[Å<|Ã ⟨i,0,Ä⟩] w λe d=>e=Ç (Â Æ<|DX s)/\eZ e9 w d:=amg (λa=>h_ _ _ _) λa f W k=>((b.r (eZ.gC e9 w _ _) id).r k<|by show i≠w.heap.size;exact Nat.ne_of_lt<|á w _ b.h).ami c a f
def jS(i:Nat):St:=λj=>⟨if j<i then 1000 else 0,⟨#[]⟩,λ_=>0⟩
theorem amk(i:Nat):jS (i+1)=(jS i).fp i 1000:=by funext j;unfold jS St.fp St.fX;grind
theorem aml(s:St)(a:i<8)(x:Int):(ic s).set (i*18) (Â Æ x)=ic (s.fp i x):=by have h:=Y1 s (Ê Ä 0 0) a x;rw[yM,yM,Ğ _ _ (by rw[qW];omega)]at h;exact List.append_cancel_right h
def amm(s:St)(a:i<8):(ic s)[i*18]?=Ã (Â Æ (s i).fp):=by rw[Sc s Z,<-qg s (Ê Ä 0 0) Z,GR _ _ a];rfl
noncomputable def K2:ŏ:=(Tryz.f60.body.bind kr).getD Ķ
def DY(r b:Nat)(i:Int)(u:Nat->È):é:=⟨#[Å<|Ã ⟨r,0,Ä⟩,Å<|Ã ⟨b,0,Ä⟩,u 2,Â Ë i,u 4,u 5,u 6,u 7,u 8,u 9,u 10],[]⟩
def DZ(r b:Nat)(i:Int)(a:é):Prop:=∃u,a=DY r b i u
section
variable{X:é->É->Prop}
def amn(u:Nat->È)(c:∀a,DZ i b 8 a->X a w): Î À K2 (Exit.then K<|QQ X) (DY i b 8 u) w:=by
 unfold DY;conv=>arg 2;whnf
 go_wp2_with fail
 exact c _ (gl _)
def amo(c:Nat)(g:c<8)(e:È)(h:w.cell? ⟨b,c*18,Ä⟩=Ã e)(j:w.frozen? ⟨b,c*18,Ä⟩=Ï)(u:Nat->È) (d:∀a,DZ i b ((c+1:Nat):Int) a->K a (w.setCell ⟨b,c*18,Ä⟩<|Â Æ 1000)): Î À K2 (Exit.then K<|QQ X) (DY i b c u) w:=by
 unfold DY;conv=>arg 2;whnf
 have f:=e8 d;clear d;go_wp2_with fail;exact f.out _ (gl _)
def Sd(i b:Nat)(d:É)(a:é)(w:É):Prop:=∃c:Nat,DZ i b c a/\c<=8/\eZ (λk=>k=b) d w/\fe b (ic<|jS c) 140 w
def h'(i b:Nat)(c:É)(a:é)(w:É):Prop:=DZ i b 8 a/\eZ (λk=>k=b) c w/\fe b (ic<|jS 8) 140 w
def K3(a:é)(_:É):Nat:=match a.tmps.getD 3 ā with
 |Â _ i=>8-i.toNat
 |_=>0
def i_(c:DZ i b n y):K3 y w=8-n:=by obtain⟨u,rfl⟩:=c;show 8-(n:Int).toNat=_;simp
theorem amq(a:é)(w:É)(h:Sd i b u a w): Î À K2 (Exit.then (λc d=>Sd i b u c d/\K3 c d<K3 a w)<|QQ<|h' i b u) a w:=by
 let⟨c,f,l,g,e⟩:=h;rw[i_ f];obtain⟨d,rfl⟩:=f;by_cases j:c=8
 .subst j;exact amn d λa q=>⟨q,g,e⟩
 .refine amo c Z _ (e.r _ _<|amm _ Z) (e.C _) d λa q=>⟨⟨c+1,q,Z,g.fc (eZ.I (X:=λk=>k=b) U _),?_⟩,by rw[i_ q];omega⟩;have k:=e.fX (c*18)<|Â Æ 1000;grind [aml,amk]
end
def amr:(À.info? 140).map (λi=>(i.size,i.zero.map λz=>z.cells.toList))=Ã (144,Ã<|ic<|jS 0):=fl
def ams(s:St):∀v∈ic s,v.oneCell'=Ú:=λv a=>RL s (lv:=Ê Ä 0 0) U v<|by rw[yM];exact œ _ a
def amt(w:É):Ò À 60 #[] w λe l=>e=Ç (Ē (ic<|jS 8).toArray)/\eZ e9 w l:=by
 let⟨m,n,o⟩:=Ì.1 R4;let⟨O,h,c⟩:=Ì.1 amr;simp only[Prod.mk.injEq]at c;let⟨p,r⟩:=c;let⟨t,x,y⟩:=Ì.1 r;have z:t.cells=(ic<|jS 0).toArray:=by rw[<-y]
 have B:∀s,(À.info? 140).map (·.size)=Ã (ic s).length:=λs=>by rw[h,qW];simp[p]
 have L:∀W a,fe (w.heap.size+1) (ic<|jS 0) 140 W->DZ w.heap.size (w.heap.size+1) (0:Nat) a->Î À (à K2) (QQ<|h' w.heap.size (w.heap.size+1) W) a W:=λW a f C=>
  Ĉ (Sd w.heap.size (w.heap.size+1) W) K3 ⟨0,C,â _,eZ.fQ _ _,f⟩ amq
 have j:=eZ.gC e9 (w.alloc<|Ð (ic<|jS 0).toArray 140) (ic<|jS 0).toArray 140;have D:=(fe.N w (ic<|jS 0) 140).I j id;have E:fe (w.heap.size+1) (ic<|jS 0) 140 ((w.alloc<|Ð (ic<|jS 0).toArray 140).alloc<|Ð (ic<|jS 0).toArray 140):=by have:=fe.N (w.alloc<|Ð (ic<|jS 0).toArray 140) (ic<|jS 0) 140;simpa using this
 have b:=e8<|Á n<|Á o<|Á h<|Á x<|Á z B;have H:=e8<|Á L<|Á ((eZ.gC e9 w (ic<|jS 0).toArray 140).fc j)<|Á D E;go_enter Tryz.func60,Tryz.ntmps60;go_wp2_with (first
  |(with_reducible refine Ć U (Ã 0) U _ _ (RH U b.out.2.2.1 b.out.2.2.2.1) ?_;rw[b.out.2.2.2.2.1])
  |(with_reducible refine Ć U (Ã 1) U _ _ (RH U b.out.2.2.1 b.out.2.2.2.1) ?_;rw[b.out.2.2.2.2.1]))
 refine Ý ?_ (H.out.1 _ _ H.out.2.2.2 (gl _));rintro(_|(_|_)|_|_|_|_) a v c;all_goals first|exact absurd c id|skip
 let⟨F,k,f⟩:=c;have g:=H.out.2.2.1.I k Z;obtain⟨u,rfl⟩:=F;unfold DY;have G:=fe.Y (by rw[ò];exact f);have I:v.there w.heap.size 0 (ic<|jS 8).toArray.size:=g.RJ (by simp[qW]);have J:=KH (ic<|jS 8) [] [] v (ic<|jS 0) (by rw[qW,qW]) (by simpa using g);have K:=(H.out.2.1.C k λi M q=>by omega).C (G1 (ic<|jS 8) 0 v g.G) λi M q=>by omega
 have d:=e8<|Á K<|Á J<|Á G I;go_wp2_with (first
  |(with_reducible refine ĥ U 140 _ U (w.heap.size+1) 0 U (ic<|jS 8) m d.out.2.2.1 b.out.1 b.out.2.1 (b.out.2.2.2.2.2 _) ?_)
  |(with_reducible refine ľ U 140 _ _ U w.heap.size 0 (ic (jS 8)).toArray U U d.out.2.2.2 (by rw[b.out.2.2.2.2.2 (jS 8)];simp) (Ī (ams _)) ?_))
 have N:fe w.heap.size (ic (jS 8)++[]) 140 (v.setCells w.heap.size 0<|ic<|jS 8):=by simpa using d.out.2.1
 refine ð (RN U U (fe.Y N) b.out.1 b.out.2.1<|b.out.2.2.2.2.2 _) U<|⟨U,d.out.1⟩
structure fJ where
 s:St
 r:List (Nat×Int)
 C:List (Int×Bool)
 h:Int
def yP(a:ă)(k:Nat)(d:List È)(w:É):Prop:=
 ∃p c,w.cell? a=Ã (Ê p k c)/\∀(j:Nat) (x:È),d[j]?=Ã x->∃b o,p=Ã ⟨b,o,Ä⟩/\w.cell? ⟨b,o+j,Ä⟩=Ã x
def yP.r(h:yP a k l w)(q:eZ e9 w u):yP a k l u:=by let⟨p,c,d,e⟩:=h;exact⟨p,c,q.r d id,λj x f=>by let⟨b,o,g,i⟩:=e j x f;exact⟨b,o,g,q.r i id⟩⟩
structure re(b:Nat)(v:fJ)(w:É):Prop where
 r:lR b v.s v.h w
 C:gD v.s
 I:0<=v.h
 M:v.h<=40
 N:yP ⟨b,144,Ä⟩ v.r.length (j0 v.r) w
 S:yP ⟨b,146,Ä⟩ v.C.length (tR v.C) w
def re.Y{v:fJ}(h:re b v w)(q:eZ e9 w u):re b v u:= ⟨h.r.r q id,h.C,h.I,h.M,h.N.r q,h.S.r q⟩
structure pJ(bp:Option ă)(n:Nat)(vs:List (Nat×fJ))(w:É):Prop where
 r:n=vs.length
 C:∀(j b:Nat) (v:fJ),vs[j]?=Ã (b,v)->∃sb so,bp=Ã ⟨sb,so,Ä⟩/\w.cell? ⟨sb,so+j,Ä⟩=Ã (Å<|Ã ⟨b,0,Ä⟩)/\re b v w
def pJ.I{a:List (Nat×fJ)}(h:pJ O n a w)(q:eZ e9 w u):pJ O n a u:= ⟨h.r,λj b v e=>by let⟨c,d,f,g,i⟩:=h.C j b v e;exact⟨c,d,f,q.r g id,i.Y q⟩⟩
def yR(a b:Nat×fJ):Nat×fJ:=if a.2.h<b.2.h then b else a
def tU(d:Nat×fJ)(a:List (Nat×fJ)):Nat×fJ:=a.foldl yR d
noncomputable def K4:ŏ:=(Tryz.f153.body.bind kr).getD Ķ
def D1(a:Option ă)(n b:Nat)(c:Nat)(i:Int)(u:Nat->È):é:=⟨#[Ê a n b,ā,Å Ä,Å<|Ã ⟨c,0,Ä⟩,u 4,u 5,u 6,u 7,u 8,Ê a n b,Â Ë n,Â Ë i,u 12,u 13,u 14,u 15,u 16,u 17,u 18,u 19,u 20,u 21,u 22,u 23,u 24,u 25,u 26],[]⟩
def Hj(b:Option ă)(n c:Nat)(d:Nat)(i:Int)(a:é):Prop:=∃u,a=D1 b n c d i u
section
variable{X:é->É->Prop}{bp:Option ă}{cp:Nat}
def amu(u:Nat->È)(b:Int)(c:b=n)(d:∀a,Hj bp n cp i b a->X a w): Î À K4 (Exit.then K<|QQ X) (D1 bp n cp i b u) w:=by
 unfold D1;conv=>arg 2;whnf
 subst c;go_wp2_with fail;exact d _ (gl _)
def amv(u:Nat->È)(c:Int)(j:Nat)(o:c=j)(q:j<n)(r:n<=1000)(h k b:Nat)(p:bp=Ã ⟨h,k,Ä⟩)(s:w.cell? ⟨h,k+j,Ä⟩=Ã (Å<|Ã ⟨b,0,Ä⟩))(e f:Int)(t:w.cell? ⟨b,145,Ä⟩=Ã (Â Ë e))(v:w.cell? ⟨i,145,Ä⟩=Ã (Â Ë f)) (d:∀a m,Hj bp n cp (if f<e then b else i) (c+1) a->K a (w.drewN m)): Î À K4 (Exit.then K<|QQ X) (D1 bp n cp i c u) w:=by
 unfold D1;conv=>arg 2;whnf
 subst o p;by_cases l:f<e
 .rw[if_pos l]at d;have g:=e8 d;clear d;go_wp2_with fail;go_quiet (fail);go_wp2_with fail;exact g.out _ _ (gl _)
 .rw[if_neg l]at d;have g:=e8 d;clear d;go_wp2_with fail;go_quiet (fail);go_wp2_with fail;exact g.out _ _ (gl _)
def HI(bp:Option ă)(n cp:Nat)(vs:List (Nat×fJ))(b:É)(c:Nat×fJ)(a:é)(w:É):Prop:=
 ∃(j:Nat) (d:Nat×fJ),Hj bp n cp d.1 j a/\j<=n/\eZ e9 b w/\re d.1 d.2 b/\tU d (vs.drop j)=c
def HE(bp:Option ă)(n cp:Nat)(b:É)(c:Nat×fJ)(a:é)(w:É):Prop:=Hj bp n cp c.1 n a/\eZ e9 b w
def Se(n:Nat)(a:é)(_:É):Nat:=match a.tmps.getD 11 ā with
 |Â _ i=>n-i.toNat
 |_=>0
theorem amw{f:List (Nat×fJ)}{i:Nat×fJ}(k:pJ bp n f W)(t:n<=1000)(a:é)(w:É)(x:HI bp n cp f W i a w): Î À K4 (Exit.then (λl b=>HI bp n cp f W i l b/\Se n l b<Se n a w)<|QQ<|HE bp n cp W i) a w:=by
 let⟨j,d,y,H,c,z,g⟩:=x;obtain⟨u,rfl⟩:=y;by_cases o:j=n
 .rw[(Ę<|by rw[<-k.r];omega)]at g;subst g;refine amu u j (by rw[o]) λa b=>⟨?_,c⟩;rwa[o]at b
 .have r:j<n:=Z
  obtain⟨⟨b,v⟩,s⟩:∃p,f[j]?=Ã p:=⟨_,Ô<|by rwa[<-k.r]⟩;let⟨B,C,D,E,F⟩:=k.C j b v s;let⟨G,e⟩:=Ü.1 s;rw[ē G,e]at g;refine amv u j j U r t B C b D (c.r E id) v.h d.2.h (c.r F.r.h id) (c.r z.r.h id) λl m q=> ?_;have I:yR d (b,v)=(if d.2.h<v.h then b else d.1,if d.2.h<v.h then v else d.2):=by unfold yR;split<;>rfl
  refine⟨⟨j+1,yR d (b,v),?_,Z,c.fc<|eZ.iJ _ _ _,?_,g⟩,?_⟩
  .grind
  .grind
  .obtain⟨v,rfl⟩:=q;show n-((j:Int)+1).toNat<n-((j:Int)).toNat;omega
def amx{b:List (Nat×fJ)}{d:Nat×fJ}(c:pJ bp n b w)(g:n<=1000)(f:b[0]?=Ã d): Ò À 153 #[Ê bp n cp] w λe a=>e=Ç (Å<|Ã ⟨(tU d b).1,0,Ä⟩)/\eZ e9 w a:=by
 let⟨l,m,e,h,i⟩:=c.C 0 d.1 d.2 f;have o:0<n:=by rw[c.r];exact(Ü.1 f).1
 have L:∀a,Hj bp n cp d.1 0 a->Î À (à K4) (QQ<|HE bp n cp w<|tU d b) a w:=λa j=>
  Ĉ (HI bp n cp b w<|tU d b) (Se n) ⟨0,d,j,â _,eZ.fQ _ _,i,U⟩<|amw c g
 subst e;generalize tU d b=r at*;simp only[Nat.add_zero]at h;go_enter Tryz.func153,Tryz.ntmps153;go_wp2_with fail;refine Ý ?_ ((e8 L).out _ (gl _));rintro(_|(_|_)|_|_|_|_) a v hq;all_goals first|exact absurd hq id|skip
 let⟨k,p⟩:=hq;obtain⟨u,rfl⟩:=k;unfold D1;go_wp2_with fail;go_ret;simp_all
end
def nR(a:List (Nat×fJ))(b:Int):Option (Nat×fJ):=
 if b=-1 then(a[0]?).map λd=>tU d a else a[b.toNat]?
def jK(b:Option Nat):È:=Å<|b.map λb=>⟨b,0,Ä⟩
section
variable{cp:Nat}{a:List (Nat×fJ)}
def K5(f:pJ O n a w)(i:n<=1000)(j:0<n)(c:Int)(m:-1<=c): Ò À 113 #[Ê O n cp,Â Ë c] w λe b=>e=Ç (jK ((nR a c).map (·.1)))/\eZ e9 w b:=by
 by_cases h:c=-1
 .subst h;obtain⟨d,b⟩:∃d,a[0]?=Ã d:=⟨_,Ô<|by rwa[<-f.r]⟩;have e:nR a (-1)=Ã (tU d a):=by unfold nR;rw[if_pos U,b];rfl
  rw[e];go_enter Ż,Ŧ;go_wp2_with (go_at_call 153;refine(e8<|amx (cp:=cp) f i b).out.mono ?_;rintro e k ⟨rfl,g⟩);go_ret;exact⟨U,g⟩
 .obtain⟨k,rfl⟩:∃k:Nat,c=k:=⟨c.toNat,Z⟩;have e:nR a (k:Int)=a[k]?:=by unfold nR;rw[if_neg h,Ŷ]
  rw[e];by_cases g:k<n
  .obtain⟨⟨b,v⟩,d⟩:∃p,a[k]?=Ã p:=⟨_,Ô<|by rwa[<-f.r]⟩;let⟨o,q,l,r,s⟩:=f.C k b v d;rw[d];subst l;go_enter Ż,Ŧ;go_wp2_with fail;go_ret;exact⟨U,eZ.fQ _ _⟩
  .rw[(List.getElem?_eq_none<|by rw[<-f.r];omega)];go_enter Ż,Ŧ;go_wp2_with fail;go_ret;exact⟨U,eZ.fQ _ _⟩
end
theorem j_(a:List (Nat×fJ)):∀(l:List (Nat×fJ)) (d:Nat×fJ),d∈a->(∀x∈l,x∈a)->tU d l∈a
 |[],d,hd,_=>hd
 |x::l,d,hd,hl=>by
  show tU (yR d x) l∈a;refine j_ a l _ ?_ λy b=>hl y<|Ś _ b;unfold yR;split
  .exact hl x List.mem_cons_self
  .exact hd
theorem Hk{a:List (Nat×fJ)}{p:Nat×fJ}(h:nR a c=Ã p):p∈a:=by unfold nR at h;grind [Ì,j_,List.mem_of_getElem]
def pJ.M{a:List (Nat×fJ)}(h:pJ O n a w){p:Nat×fJ}(b:p∈a):re p.1 p.2 w:=by let⟨j,c⟩:=List.getElem?_of_mem b;let⟨_,_,_,_,d⟩:=h.C j p.1 p.2 c;exact d
theorem k_(c:w.cell? ⟨b,i,Ä⟩=Ã v)(h:w.ownsRow 0 e j v n l):yP ⟨b,i,Ä⟩ n l w:=by
 rcases h.2 with⟨rfl,rfl⟩|⟨g,f,k,rfl,_,m,_,_,_,o⟩
 .have d:=ß (by simpa using h.1);subst d;exact⟨Ä,0,c,λa x q=>by simp at q⟩
 .refine⟨_,_,c,λa x q=>⟨g,0,U,?_⟩⟩;have:=h.cells U a x q;grind [Addr.add_mid]
def NX.amy{s:St}{b:List (Nat×Int)}{c:List (Int×Bool)}(x:NX i h v z s b c u w)(d:gD s)(e:0<=h)(f:h<=40):re i ⟨s,b,c,h⟩ w:=by have a:fe i (jb s v++[Â Ë h,z]) 147 w:=x.r;refine⟨⟨?_,a.r 145 _<|by rw[ü (by rw[mb];omega),mb];rfl⟩,d,e,f,k_ x.r.Bo x.C,k_ x.G x.I⟩;rw[yM,Ċ]at a;exact a.Y
def amz:(À.info? 136).map (λi=>(i.zero,i.size,i.bytes))=Ã (Ã<|Å Ä,1,8):=fl
def amA{p:Array ş}{r:List ş}(C:o.guard=Ä)(s x:Ů)(t:õ) (D:o.op=aD {callee:=.builtin .append,args:=#[s,x],argTypes:=#[t,t]}) (E:P.underlying t=Ã (bl e)) (F:P.info? e=Ã zJ) (G:zJ.zero=Ã z) (B:zJ.size=1) (H:zJ.bytes=8) (g k n:Nat) (b:List È) (I:b.length=n) (J:∀j v,b[j]?=Ã v->w.cell? ((⟨g,k,Ä⟩:ă).add j)=Ã v) (L:y.eval s=Ê (Ã ⟨g,k,Ä⟩) n n) (l:Nat) (v:È) (M:y.eval x=Ê (Ã ⟨l,0,Ä⟩) 1 1) (N:∀j u,[v][j]?=Ã u->w.cell? ((⟨l,0,Ä⟩:ă).add j)=Ã u) (X:n<=1000) (O:lM e=Ï) (h:∀c f,n+1<=c->eZ e9 w f->(∃m:Array È,f.heap[w.heap.size]?=Ã (Ð m e (0,0))/\0<m.size/\∀u∈m.toList,u∈b\/u=v\/u∈z.cells.toList)->(∀j u,(b++[v])[j]?=Ã u->f.cell? ⟨w.heap.size,0+j,Ä⟩=Ã u)->aQ P p vJ r (y.put o.dst<|Ê (Ã ⟨w.heap.size,0,Ä⟩) (n+1) c) f):aQ P p vJ (o::r) y w:=by refine ű C λK S=> ?_;have T:=Λ w t o.type e zJ z E F G ⟨g,k,Ä⟩ n n b (by rw[I,B];omega) J ⟨l,0,Ä⟩ 1 1 [v] (by rw[B];rfl) N Z Z (ŕ Z<|by rw[H];omega);unfold Ń Ĥ;simp only[D,ae,aO,af,Ų,ų,Ĵ,ļ,Ť,Ŵ,L,M,T];refine S _ _ (h _ _ (Θ w (n+1) n e) ((eZ.fN _ _).fc<|eZ.gC _ _ _ _<|Ø O) ⟨_,ì w.drew _,by simp;omega,λu d=>by simp only[Š,ú]at d;rcases d with(q|q)|q;exact Ø q;exact Ù (Ø<|by simpa using q);exact Ù<|Ù<|Ri q⟩ λj u d=> ?_);have V:(w.drew.alloc<|Ð (b.toArray++[v].toArray++ö z.cells (Œ w (n+1) n e-(n+1))) e).heap[w.heap.size]?=_:=ì w.drew _;simp only[Η,V,ũ,ĭ,if_false,ł];have W:=(Ü.1 d).1;rw[Array.getElem?_append_left (by simpa using W)];simpa using d
def si(v:È)(T:õ)(w:É):Prop:=v=Ê Ä 0 0\/∃g n c a,v=Ê (Ã ⟨g,0,Ä⟩) n c/\w.heap[g]?=Ã (Ð a T (0,0))
def si.I(h:w.ownsRow 0 T i v n l):si v T w:=by
 rcases h.2 with⟨q,_⟩|⟨g,a,b,c,_,d,_⟩
 .exact Ø q
 .exact Ù ⟨g,_,a,b,c,d⟩
def si.C(h:si v T w)(k:eZ e9 w u):si v T u:=by
 rcases h with q|⟨g,n,c,b,d,a⟩
 .exact Ø q
 .refine Ù ⟨g,n,c,b,d,?_⟩;rwa[k.N g (Array.getElem?_eq_some_iff.1 a).1 id]
def rf(a:List (Nat×fJ)):List È:=a.map λp=>Å<|Ã ⟨p.1,0,Ä⟩
structure Sf(vs:List (Nat×fJ))(B:Nat)(w w':É)(g:Nat):Prop where
 C:w.heap.size<=g
 r:∃cur:Array È,w'.heap[g]?=Ã (Ð cur 136 (0,0))/\0<cur.size/\∀u∈cur.toList,u∈rf vs\/u=Å (Ã ⟨B,0,Ä⟩)\/u=Å Ä
structure Sg(B:Nat)(s:St)(h:Int)(w w':É):Prop where
 C:w.heap.size<=B
 r:∃lv uv,fe B (jb s lv++[Â Ë h,uv]) 147 w'/\si lv 257 w'/\si uv 246 w'/\(∀j,lv.ownBlock=Ã j->w.heap.size<=j)/\∀j,uv.ownBlock=Ã j->w.heap.size<=j
section
variable{bp:Option ă}{cp:Nat}{vs:List (Nat×fJ)}
def amB(a b:Nat)(d:n<=1000)(f:n<=cp):Ò À 155 #[Ê (Ã ⟨a,b,Ä⟩) n cp] w λe c=>e=Ç (Ê (Ã ⟨a,b,Ä⟩) n n)/\c=w:=by go_enter Tryz.func155,Tryz.ntmps155;go_wp2;go_ret;exact⟨U,U⟩
def amC(b:pJ bp n vs w)(h:n<=1000)(l:0<n)(m:n<=cp)(B:Nat): Ò À 116 #[Ê bp n cp,Å<|Ã ⟨B,0,Ä⟩] w λe a=>∃g c,e=Ç (Ê (Ã ⟨g,0,Ä⟩) (n+1) c)/\n+1<=c/\eZ e9 w a/\Sf vs B w a g/\∀j u,(rf vs++[Å<|Ã ⟨B,0,Ä⟩])[j]?=Ã u->a.cell? ⟨g,0+j,Ä⟩=Ã u:=by
 let⟨G,r,s,t,x⟩:=í amz;obtain⟨d,y⟩:∃d,vs[0]?=Ã d:=⟨_,Ô<|by rwa[<-b.r]⟩;let⟨g,f,i,_,_⟩:=b.C 0 d.1 d.2 y;have z:∀(o:Obj) (j:Nat) (v:È),(rf vs)[j]?=Ã v->(w.alloc o).cell? ((⟨g,f,Ä⟩:ă).add j)=Ã v:=λo j v q=>by unfold rf at q;rw[ķ]at q;obtain⟨p,C,rfl⟩:=Ì.1 q;let⟨D,E,H,k,_⟩:=b.C j p.1 p.2 C;rw[i]at H;cases H;rwa[Addr.add_mid,World.cell?_alloc_lt _ _ _<|á w _ k]
 have H:=e8 (Á z<|Á r<|Á s<|Á t<|Á x<|show(rf vs).length=n by unfold rf;rw[Ο];exact b.r.symm);subst i;go_enter Tryz.func116,Tryz.ntmps116;go_wp2_with (first
  |(go_at_call 155;refine(amB g f h m).mono ?_;rintro e a ⟨rfl,k⟩;subst a)
  |(at_builtin;refine amA U _ _ 65 U Tryz.underlying65 H.out.2.1 H.out.2.2.1 H.out.2.2.2.1 H.out.2.2.2.2.1 g f n (rf vs) H.out.2.2.2.2.2 (H.out.1 _) U w.heap.size (Å (Ã ⟨B,0,Ä⟩)) U (ÿ _ _ _) h A ?_;intro c C a e k p))
 go_ret;refine⟨_,_,U,a,(eZ.gC _ _ _ _).fc e,⟨fh,by let⟨c,C,D,E⟩:=k;exact⟨c,by simpa using C,D,λu F=>(E u F).elim Ø λq=>q.elim (λq=>Ù<|Ø q) λq=>Ù<|Ù<|by simpa[ğ]using q⟩⟩,λj u q=>by have:=p j u q;simpa using this⟩
end
structure BB(r:Nat)(v:Int)(x:Nat)(bp:Option ă)(n cp:Nat)(w:É):Prop where
 M:w.cell? ⟨r,0,Ä⟩=Ã (Â Ë x)
 N:w.cell? ⟨r,5,Ä⟩=Ã (Â Ë v)
 I:w.cell? ⟨r,8,Ä⟩=Ã (Ê bp n cp)
def BB.C{r:Nat}(h:BB r c i O n j w)(k:eZ e9 w u):BB r c i O n j u:=⟨k.r h.M id,k.r h.N id,k.r h.I id⟩
def tV(a:List (Nat×fJ))(v:Int)(x:Nat)(b:List Tx):Option fJ×ByteArray:=
 match nR a v with
 |none=>(Ä,oC 3)
 |some p=>if a.length=40 then(Ä,oC 4)else match wW x p.2.s b with
  |none=>(Ä,oC 5)
  |some r=>(Ã ⟨r.1,r.2.1,r.2.2,p.2.h+1⟩,pH a.length)
def K6(c:È)(d:List (Nat×fJ))(w:É):Prop:=∃a n b,c=Ê a n b/\n<=b/\pJ a n d w
def Si(f:List (Nat×fJ))(i:È)(w:É)(o:Option fJ×ByteArray)(e:av)(a:É):Prop:=
 eZ e9 w a/\((o.1=Ä/\e=Ç (æ #[i,Í o.2]))\/∃v b d,o.1=Ã v/\e=Ç (æ #[d,Í o.2])/\K6 d (f++[(b,v)]) a/\Sg b v.s v.h w a/\∃g n c,d=Ê (Ã ⟨g,0,Ä⟩) n c/\Sf f b w a g)
def amD{c:List (Nat×fJ)}{v:fJ}(e:pJ O n c w)(f:re j v w)(h:∀a u,(rf c++[Å<|Ã ⟨j,0,Ä⟩])[a]?=Ã u->w.cell? ⟨i,0+a,Ä⟩=Ã u):pJ (Ã ⟨i,0,Ä⟩) (n+1) (c++[(j,v)]) w:=by
 refine⟨by rw[e.r];simp,λa b u q=>⟨i,0,U,?_,?_⟩⟩
 .apply h a _;have:rf c++[Å<|Ã ⟨j,0,Ä⟩]=rf (c++[(j,v)]):=by simp[rf]
  rw[this];unfold rf;rw[ķ,q];rfl
 .rcases ů a c.length with d|d
  .rw[ç d]at q;let⟨_,_,_,_,k⟩:=e.C a b u q;exact k
  .rw[ü d]at q;have k:a-c.length=0:=by
    have:=(Ü.1 q).1;simp at this;omega
   rw[k]at q;cases q;exact f
def amE{e:av}(a:Dz h W Ä e u)(k:eZ e9 w W):e=Ç (Å Ä)/\eZ e9 w u:=by
 rcases a with⟨_,b,c⟩|⟨_,_,_,_,_,_,q,_⟩
 .exact⟨b,k.fc c⟩
 .cases q
def amF{e:av}{s:St}{a:List (Nat×Int)}{b:List (Int×Bool)}(c:Dz h W (Ã (s,a,b)) e u)(l:0<=h)(m:h<40)(k:eZ e9 w W):∃B,e=Ç (Å<|Ã ⟨B,0,Ä⟩)/\eZ e9 w u/\re B ⟨s,a,b,h+1⟩ u/\Sg B s (h+1) w u:=by
 rcases c with⟨q,_⟩|⟨n,o,p,B,d,f,q,g,x,i⟩
 .cases q
 .cases q;exact⟨B,g,k.fc x.M,x.amy i Z Z,ë k.M x.N,d,f,x.r,si.I x.C,si.I x.I,λj q=>ë k.M<|x.S j q,λj q=>ë k.M<|x.Y j q⟩
section
variable{bp:Option ă}{cp r x:Nat}{v:Int}{vs:List (Nat×fJ)}{f:List (Nat×Tx)}
def amG{p:Nat×fJ}(F:Ò À 113 #[Ê bp n cp,Â Ë v] w λe a=>e=Ç (jK<|Ã p.1)/\eZ e9 w a)(f:BB r v x O b i w)(m:((n:Int)==40)=Ï)(N:∀W,eZ e9 w W->Ò À 115 #[Å<|Ã ⟨p.1,0,Ä⟩,Â Ë x,Ê O b i] W (Dz p.2.h W Ä)): Ò À 66 #[Ê bp n cp,Å<|Ã ⟨r,0,Ä⟩] w (Si vs (Ê bp n cp) w (Ä,oC 5)):=by
 have o:=f.N;have H:=e8<|Á F<|Á N f;go_enter ś,Ň;go_wp2_with (go_at_call 113;refine H.out.1.mono ?_;rintro e d ⟨rfl,c⟩;dsimp only[jK,ū]);have g:=e8<|Á ((H.out.2.2.C c).C<|eZ.fN e9 _).M ((H.out.2.2.C c).C<|eZ.fN e9 _).I;go_region_held3 (λa=>a.cell? ⟨r,0,Ä⟩=Ã (Â Ë x)/\a.cell? ⟨r,8,Ä⟩=Ã (Ê O b i)) (first|exact g.out|exact j.out) (first
   |(go_at_call 115;refine(H.out.2.1 _ (c.fc kp)).mono ?_;rintro e k l;obtain⟨rfl,d⟩:e=Ç (Å Ä)/\eZ e9 w k:=amE l (c.fc kp);dsimp only;have j:=e8 (Á (H.out.2.2.C d).M (H.out.2.2.C d).I)))
 go_wp2_with (first
  |(go_at_call 114;refine(DC 5 A _).mono ?_;rintro e a ⟨rfl,c⟩;subst a))
 go_ret2;exact⟨d,Ø ⟨U,U⟩⟩
def amH{p:Nat×fJ}{f:St}{g:List (Nat×Int)}{j:List (Int×Bool)}(k:pJ bp n vs w)(Q:n<=40)(q:0<n)(s:n<=cp)(t:0<=p.2.h)(u:p.2.h<40)(F:Ò À 113 #[Ê bp n cp,Â Ë v] w λe a=>e=Ç (jK<|Ã p.1)/\eZ e9 w a)(l:BB r v x O b i w)(S:((n:Int)==40)=Ï)(N:∀W,eZ e9 w W->Ò À 115 #[Å<|Ã ⟨p.1,0,Ä⟩,Â Ë x,Ê O b i] W (Dz p.2.h W<|Ã (f,g,j))): Ò À 66 #[Ê bp n cp,Å<|Ã ⟨r,0,Ä⟩] w (Si vs (Ê bp n cp) w (Ã ⟨f,g,j,p.2.h+1⟩,pH vs.length)):=by
 have T:=l.N;rw[<-k.r];have H:=e8<|Á F<|Á N<|Á l k;go_enter ś,Ň;go_wp2_with (go_at_call 113;refine H.out.1.mono ?_;rintro e o ⟨rfl,d⟩;dsimp only[jK,ū]);have y:=e8<|Á ((H.out.2.2.1.C d).C<|eZ.fN e9 _).M ((H.out.2.2.1.C d).C<|eZ.fN e9 _).I;go_region_held3 (λa=>a.cell? ⟨r,0,Ä⟩=Ã (Â Ë x)/\a.cell? ⟨r,8,Ä⟩=Ã (Ê O b i)) (first|exact y.out|exact o.out) (first
   |(go_at_call 115;refine(H.out.2.1 _ (d.fc kp)).mono ?_;rintro e D z;obtain⟨B,rfl,c,C,m⟩:=amF (w:=w) z t u (d.fc kp);dsimp only;have o:=e8 (Á (H.out.2.2.1.C c).M (H.out.2.2.1.C c).I)))
 have W:=amC (H.out.2.2.2.I c) Z q s B;have z:=e8 W;go_wp2_with (first
  |(go_at_call 116;refine z.out.mono ?_;rintro e G ⟨I,J,rfl,D,d,o,E⟩)
  |(go_at_call 117;refine(ZR n Z _).mono ?_;rintro e a ⟨rfl,G⟩;subst a))
 go_ret2;refine⟨c.fc d,Ù ⟨_,B,_,U,U,⟨_,_,_,U,D,?_⟩,⟨m.C,by let⟨G,I,J,K,L,M,P⟩:=m.r;exact⟨G,I,J.I d id,K.C d,L.C d,M,P⟩⟩,_,_,_,U,ë c.M o.C,o.r⟩⟩;exact amD ((H.out.2.2.2.I c).I d) (C.Y d) E
def amI(a:pJ bp n vs w)(C:n<=40)(j:0<n)(D:n<=cp)(t:∀p∈vs,p.2.h<40)(d:BB r v x O b i w)(u:Bv O b f w)(E:b<=1000)(y:iF w)(G:x<8)(z:-1<=v): Ò À 66 #[Ê bp n cp,Å<|Ã ⟨r,0,Ä⟩] w (Si vs (Ê bp n cp) w<|tV vs v x<|lb f):=by
 have L:=d.N;unfold tV;cases g:nR vs v with
 |none=>
  have F:=K5 (cp:=cp) a Z j v z;rw[g]at F;have H:=e8 F;go_enter ś,Ň;go_wp2_with (first
   |(go_at_call 113;refine H.out.mono ?_;rintro e I ⟨rfl,q⟩;dsimp only[jK,ū])
   |(go_at_call 114;refine(DC 3 A _).mono ?_;rintro e l ⟨rfl,J⟩;subst l))
  go_ret2;exact⟨q,Ø ⟨U,U⟩⟩
 |some p=>
  have m:=Hk g;have c:=a.M m;have F:=K5 (cp:=cp) a Z j v z;rw[g]at F;have N:∀W,eZ e9 w W->Ò À 115 #[Å<|Ã ⟨p.1,0,Ä⟩,Â Ë x,Ê O b i] W (Dz p.2.h W<|wW x p.2.s<|lb f):=λW k=>
   alA (c.r.r k id) c.I (by have:=c.M;omega) c.C (u.I k) (y.r k id) E G
  have K:=a.r;by_cases B:n=40
  .simp only;rw[if_pos Z];have H:=e8 F;clear F N a d u y t c g m K;have o:((n:Int)==40)=Ú:=by rw[B];rfl
   clear B;go_enter ś,Ň;go_wp2_with (first
    |(go_at_call 113;refine H.out.mono ?_;rintro e I ⟨rfl,q⟩;dsimp only[jK,ū])
    |(go_at_call 114;refine(DC 4 A _).mono ?_;rintro e l ⟨rfl,J⟩;subst l))
   go_ret2;exact⟨q,Ø ⟨U,U⟩⟩
  .simp only;rw[if_neg Z];have o:((n:Int)==40)=Ï:=by rw[beq_eq_false_iff_ne];omega
   have l:=t p m;have H:=c.I;cases e:wW x p.2.s (lb f)with
   |none=>
    rw[e]at N;exact amG F d o N
   |some q=>
    let⟨I,J,M⟩:=q;rw[e]at N;exact amH a C j D H l F d o N
end
theorem amJ(h:l.length=145):À.built 147 [(0,Ē l.toArray)]=Ã (l++[Â Ë 0,Ê Ä 0 0]).toArray:=by let⟨z,d,a,b,c⟩:=R1 ZH ZI A;rw[R0 ZJ a,c];have:=KN (place:=λi=>[(0,145),(145,1),(146,1)].toArray[i]?) (pre:=[]) (suf:=[Â Ë 0,Ê Ä 0 0]) (i:=0) (v:=Ē l.toArray) (rest:=[]) U (by show l.toArray.size=145;simp[h]) b;simpa[ı,ğ]using this
theorem amK(a:o.op=Χ 147 #[(0,qQ)])(b:xX qQ=Ē l.toArray)(c:l.length=145):(Ĥ xX o).run À w=φ (.value<|Ē (l++[Â Ë 0,Ê Ä 0 0]).toArray) w:=by grind [R2,amJ]
def mA:fJ:=⟨jS 8,[],[],0⟩
def m_:gD (jS 8):=by refine⟨λi=> ?_,λi j=>⟨Ö _,show(0:Int)<18446744073709551616 by decide⟩,λi=>⟨show(0:Nat)<=40 by decide,λc a=>by cases a⟩⟩;show fW (if i<8 then 1000 else 0);split<;>exact⟨A,A⟩
theorem amL{s:St}(b:gD s)(h:fe i (ic s++[Ê Ä 0 0]++[Â Ë 0,Ê Ä 0 0]) 147 w):re i ⟨s,[],[],0⟩ w:=by
 have c:=qW s;refine⟨⟨λj v d=> ?_,?_⟩,b,Ö _,show(0:Int)<=40 by decide,?_,?_⟩
 .rw[ł];apply h.r j v;grind
 .apply h.r 145 _;simp_all
 .refine⟨Ä,0,h.r 144 _ ?_,λj x a=>by cases a⟩;grind
 .refine⟨Ä,0,h.r 146 _ ?_,λj x a=>by cases a⟩;simp_all
def wY(ls:List (Nat×Int)):Prop:=∀e∈ls,e.1<8/\fW e.2
def Sj(J:St->List (Nat×Int)->Prop)(F:lO):Prop:=∀s a x y g k,gD s->x<8->y<8->fW k->0<=g->g<=100000->(a.length:Int)+g<=1000000->J s a->J (F s a x y g k).s (F s a x y g k).I
structure n_(J:St->List (Nat×Int)->Prop):Prop where
 st:∀{s ls} (y j:Nat) (v:Int),J s ls->J (s.r y j v) ls
 mv:∀{s ls y} (q:Int) {p:Int},gD s->y<8->fW p->J s ls->J (qh s y q p).2 ls
 lg:∀{s ls y p},y<8->fW p->J s ls->J s (ls++[(y,p)])
section
variable{c:RC}{F:lO}{J:St->List (Nat×Int)->Prop}
theorem amM(b:n_ J)(i:Sj J F)(d:c.y<8)(k:Nat)(t:RT)(o:k<=20)(a:ny t)(h:J t.s t.C):J (nN F c k t).s (nN F c k t).C:=by
 have f:=sd a.r;have g:=sd<|oP a.r;by_cases j:k=16
 .subst j;exact b.st _ _ _ h
 by_cases l:k=18
 .subst l;exact b.mv _ a.s d g h
 by_cases m:k=19
 .subst m;exact b.lg d f h
 by_cases n:k=20
 .subst n;show J (iP F c t _ _ _).2.2.s (iP F c t _ _ _).2.2.C;unfold iP;split
  .exact h
  .have e:=sd<|oP<|oP a.r;have p:=a.g0;have q:=a.C;have r:=a.I;have u:=f.1;have v:=g.1;exact i _ _ _ _ _ _ a.s d Z e Z Z Z h
 have e:(nN F c k t).s=t.s/\(nN F c k t).C=t.C:=by unfold nN;grind
 grind
def o_(b:n_ J):∀n,Sj J<|yJ n
 |0=>λ_ _ _ _ _ _ _ _ _ _ _ _ _ h=>h
 |n+1=>λs d x y g k a f e i j l m h=>by
  show J (qV (yJ n) ⟨x,y,k,4-(n:Int),g⟩ s d).s (qV (yJ n) ⟨x,y,k,4-(n:Int),g⟩ s d).I;unfold qV;simp only;split
  .exact(Dx (c:=⟨x,y,k,4-(n:Int),g⟩) (a.I y).1 (λn o=>Rz a y o) (G3 n) f e i (amM b (o_ b n) e) _ _ _ tP ⟨fh,fh,a,j,l,m⟩ h).2
  .exact h
end
def Sk:Sj (λ_ e=>wY e) gd:=o_ ⟨λ_ _ _ h=>h,λ_ _ _ _ _ h=>h,λa b h e c=>by
 rcases ú.1 c with q|q
 .exact h e q
 .simp at q;subst q;exact⟨a,b⟩⟩ 4
def amN{s:St}(b:gD s){ls:List (Nat×Int)}{t:Tx}(a:t.Ok)(c:(ls.length:Int)+400<=1000000)(h:wY ls):wY (lQ s ls t).2.2.2:=by
 unfold lQ;split
 .exact h
 .split
  .exact h
  .unfold yL;split
   .exact h
   .rename_i d;have e:=(b.fp t.x).2;exact Sk _ ls t.x t.y (t.n-10) t.k (b.r t.x ⟨Z,Z⟩) a.x a.y ⟨a.r,by have:=a.C;omega⟩ Z Z Z h
def yS(a:List (Int×Bool)):Prop:=∀e∈a,0<=e.1/\e.1<=400
def yS.Nq{a:List (Int×Bool)}(h:yS a){e:Int×Bool}(b:0<=e.1)(c:e.1<=400):yS (a++[e]):=λx d=>by
 rcases ú.1 d with q|q
 .exact h x q
 .simp at q;subst q;exact⟨b,c⟩
structure Sl(v:fJ):Prop where
 C:wY v.r
 r:yS v.C
 I:v.r.length<=400000
 M:v.C.length<=1000
def Sm:∀(b:List Tx) {s:St} {ls:List (Nat×Int)} {a:List (Int×Bool)} {r:St×List (Nat×Int)×List (Int×Bool)},(∀t∈b,t.Ok)->gD s->wY ls->yS a->ls.length+400*b.length<=400000->a.length+b.length<=1000->tS m s ls a b=Ã r->gD r.1/\wY r.2.1/\yS r.2.2/\r.2.1.length<=400000/\r.2.2.length<=1000
 |[],s,ls,a,r,_,hs,hl,hu,n1,n2,h=>by cases h;exact⟨hs,hl,hu,by simpa using n1,by simpa using n2⟩
 |t::q,s,ls,a,r,ht,hs,hl,hu,n1,n2,h=>by
  unfold tS at h;simp only[Ľ]at n1 n2;split at h
  .have d:=ZQ (ls:=ls) hs (ht t fh) Z;have f:=d.r;exact Sm q (λc e=>ht c<|Ś _ e) (d.s.r m<|yH _) (amN hs (ht t fh) Z hl) (hu.Nq d.g0 d.C) Z (by simp;omega) h
  .cases h
def amO{s:St}{a:List Tx}{r:St×List (Nat×Int)×List (Int×Bool)}(b:∀t∈a,t.Ok)(c:gD s)(k:a.length<=1000)(e:wW m s a=Ã r):Sl ⟨r.1,r.2.1,r.2.2,h⟩:=by unfold wW at e;obtain⟨l,d,rfl⟩:=Ì.1 e;let⟨_,f,g,i,j⟩:=Sm a b c (λ_ q=>by cases q) (λ_ q=>by cases q) (by simp;omega) (by simp;omega) d;exact⟨f,g,i,j⟩
end Go.Proofs.Y.iz
namespace Go.Proofs
open Go.Shelf
def Tryz.lays283_ren:Ĭ:=⟨fun|283=>187|n=>n,fun|3=>3|9=>9|4=>4|n=>n,fun|n=>n⟩
def Tryz.lays283:aJ À Tryz.lays283_ren:={
 mixed:=fl
 f283:=ź.trans<|congrArg Ã fl
 t3:=Ě
 a3:=Ŝ
 z3:=ň
 v3:=ħ
 t4:=ě
 a4:=ŝ
 z4:=ŉ
 v4:=Ĩ
 t9:=đ
 a9:=Ş
 z9:=Ŋ
 v9:=ĩ}
open Go.Lib in
def Tryz.internal_strconv_small(i:Nat)(h:i<100)(w:É):
 Ò À 187 #[Â Ë i] w λe a=>e=Ç (Í ⟨(Ļ i).toArray⟩)/\a=w:=Any.internal_strconv_small Tryz.lays283 i h w
def Tryz.laysM284_ren:Ĭ:=⟨fun|284=>188|129=>198|317=>197|318=>199|n=>n,fun|53=>36|3=>3|212=>291|0=>0|4=>4|46=>168|5=>5|9=>9|n=>n,fun|17=>1|n=>n⟩
def Tryz.laysM284:Go.Proofs.LaysM.n284 À Tryz.laysM284_ren:={
 mixed:=fl
 f129:=Tryz.func198.trans<|congrArg Ã fl
 f284:=Tryz.func188.trans<|congrArg Ã fl
 f317:=Tryz.func197.trans<|congrArg Ã fl
 f318:=Tryz.func199.trans<|congrArg Ã fl
 t0:=Δ
 a0:=aG
 z0:=ax
 v0:=Ρ
 t3:=Ě
 a3:=Ŝ
 z3:=ň
 v3:=ħ
 t4:=ě
 a4:=ŝ
 z4:=ŉ
 v4:=Ĩ
 t5:=Ε
 a5:=aH
 z5:=ay
 v5:=Τ
 t9:=đ
 a9:=Ş
 z9:=Ŋ
 v9:=ĩ
 t46:=Ŭ
 a46:=ρ
 z46:=ε
 v46:=Ž
 t53:=ĸ
 a53:=ž
 z53:=ŧ
 v53:=ŀ
 t212:=Tryz.underlying291
 a212:=Tryz.isAgg291
 z212:=Tryz.sizeOf291
 v212:=Tryz.zeroValue291
 g17:=fl
 i0:=fl
 i3:=fl
 i4:=fl
 i5:=fl
 i9:=fl
 i46:=fl
 i53:=fl
 i212:=fl
 m17:=by kernel_rfl}
open Go.Lib in
def Tryz.internal_strconv_numDigits(u:Nat)(a:1<=u)(b:u<18446744073709551616)(w:É)(c:ω À w "internal/strconv.uint64pow10" Æ az):
 Ò À 188 #[Â Æ u] w λe d=>e=Ç (Â Ë<|č u)/\d=w:=Any.internal_strconv_numDigits Tryz.laysM284 u a b w c
def Tryz.lays285_ren:Ĭ:=⟨fun|285=>189|n=>n,fun|37=>107|53=>36|3=>3|4=>4|51=>95|9=>9|5=>5|0=>0|n=>n,fun|n=>n⟩
def Tryz.lays285:aK À Tryz.lays285_ren:={
 mixed:=fl
 f285:=Tryz.func189.trans<|congrArg Ã fl
 t0:=Δ
 a0:=aG
 z0:=ax
 v0:=Ρ
 t3:=Ě
 a3:=Ŝ
 z3:=ň
 v3:=ħ
 t4:=ě
 a4:=ŝ
 z4:=ŉ
 v4:=Ĩ
 t5:=Ε
 a5:=aH
 z5:=ay
 v5:=Τ
 t9:=đ
 a9:=Ş
 z9:=Ŋ
 v9:=ĩ
 t37:=ý
 a37:=Tryz.isAgg107
 z37:=Tryz.sizeOf107
 v37:=Tryz.zeroValue107
 t51:=ſ
 a51:=aA
 z51:=ς
 v51:=Ζ
 t53:=ĸ
 a53:=ž
 z53:=ŧ
 v53:=ŀ}
open Go.RowKit Go.Sort Go.Lib in
def Tryz.internal_strconv_formatBase10(a c f:Nat)(u:Nat)(d:Array UInt8)(w:É)(h:Holds (λ(b:UInt8)=>Â aT (b.toNat:Int)) w a c d)(i:u<10^d.size)(j:u<18446744073709551616)(k:d.size<4611686018427387904):
 Ò À 189 #[Ê (Ã ⟨a,c,Ä⟩) d.size f,Â Æ u] w λe l=>
  e=Ç (æ #[])/\∃(n m:Nat) (g:Array UInt8),l=(ζ (λ(b:UInt8)=>Â aT (b.toNat:Int)) w a c g).drewN n/\FmtInv d.size u 0 m g:=Any.internal_strconv_formatBase10 Tryz.lays285 a c f u d w h i j k
def Tryz.lays99_ren:Ĭ:=⟨fun|99=>175|206=>194|n=>n,fun|9=>9|4=>4|3=>3|n=>n,fun|n=>n⟩
def Tryz.lays99:aR À Tryz.lays99_ren:={
 mixed:=fl
 f99:=Tryz.func175.trans<|congrArg Ã fl
 f206:=Tryz.func194.trans<|congrArg Ã fl
 t3:=Ě
 a3:=Ŝ
 z3:=ň
 v3:=ħ
 t4:=ě
 a4:=ŝ
 z4:=ŉ
 v4:=Ĩ
 t9:=đ
 a9:=Ş
 z9:=Ŋ
 v9:=ĩ}
open Go.RowKit Go.Lib in
def Tryz.strings_HasPrefix(s p:ByteArray)(w:É):
 Ò À 175 #[Í s,Í p] w λe a=>e=Ç (Ñ<|Lib.hasPrefix s.data.toList p.data.toList)/\a=w:=Any.strings_HasPrefix Tryz.lays99 s p w
def Tryz.lays212_ren:Ĭ:=⟨fun|212=>174|263=>192|264=>193|n=>n,fun|46=>168|51=>95|146=>285|53=>36|148=>287|n=>n,fun|n=>n⟩
def Tryz.lays212:aL À Tryz.lays212_ren:={
 mixed:=fl
 f212:=Tryz.func174.trans<|congrArg Ã fl
 f263:=Tryz.func192.trans<|congrArg Ã fl
 f264:=Tryz.func193.trans<|congrArg Ã fl
 t46:=Ŭ
 a46:=ρ
 z46:=ε
 v46:=Ž
 t51:=ſ
 a51:=aA
 z51:=ς
 v51:=Ζ
 t53:=ĸ
 a53:=ž
 z53:=ŧ
 v53:=ŀ
 t146:=Tryz.underlying285
 a146:=Tryz.isAgg285
 z146:=Tryz.sizeOf285
 v146:=Tryz.zeroValue285
 t148:=Tryz.underlying287
 a148:=Tryz.isAgg287
 z148:=Tryz.sizeOf287
 v148:=Tryz.zeroValue287}
open Go.RowKit Go.Lib in
def Tryz.bits_Mul(x y:Nat)(a:x<18446744073709551616)(b:y<18446744073709551616)(w:É):
 Ò À 174 #[Â Æ x,Â Æ y] w λe c=>e=Ç (æ #[Â Æ ((x*y/18446744073709551616:Nat):Int),Â Æ ((x*y%18446744073709551616:Nat):Int)])/\c=w:=Any.bits_Mul Tryz.lays212 x y a b w
end Go.Proofs
namespace Go.Proofs.Y.iz
open Go Go.Proofs Go.RowKit Go.Sort Go.Proofs.Y.Lift
def yT:UInt8->È:=λb=>Â aT (b.toNat:Int)
def lh(w:É):Prop:=ω À w "internal/strconv.uint64pow10" Æ az
def amP(a:jW w)(b:Nat)(f:Array È->Array È):jW (Ł w b f):=by
 intro i o h;unfold Ł at h;simp only[Û]at h;split at h
 .cases d:w.heap[i]? with
  |none=>rw[d]at h;cases h
  |some e=>
   have:=a _ _ d;rw[d]at h;cases e with
   |cells c t z=>simp only[ñ,è]at h;subst h;exact λx=>x
   |_=>exact absurd trivial this
 .exact a i o h
def amQ(a:qT m w)(b:Nat)(f:Array È->Array È)(j:NF b w):qT m (Ł w b f):=by
 intro i c T k l h g;unfold Ł at h;simp only[Û]at h;split at h
 .rename_i e;subst e;cases d:w.heap[b]? with
  |none=>rw[d]at h;cases h
  |some n=>
   rw[d]at h;cases n with
   |cells o t z=>
    simp only[ñ,è,onCells,ģ]at h;have:=j _ _ _ d;rw[h.2.1,g]at this;cases this
   |_=>simp only[ñ,è,onCells]at h;cases h
 .exact a i c T k l h g
def eZ.fX(w:World)(T:TypeId)(cs:Array Value)(off:Nat)(d:Array UInt8)(n:Nat)(hT:lM T=false:=by decide):eZ e9 w ((putRow yT (w.alloc<|.cells cs T) w.heap.size off d).drewN n):= ⟨by simp[ζ,Ł,World.drewN],λk hk _=>by show(Ł (w.alloc<|Ð cs T) w.heap.size _).heap[k]?=_;unfold Ł;simp only[Û];rw[if_neg Z];exact ď _ _ _ hk,λa=>amP (GK a cs T (0,0)) _ _,λ_ a=>amQ (GM a cs T (0,0)<|Ø hT) _ _<|fe.G (fe.N w cs.toList T) hT⟩
def amR(w:É)(T:õ)(a:Nat)(c:a<=24):Holds yT (w.alloc<|Ð ġ T) w.heap.size 0 (ō a (0:UInt8)):=λj b=>by
 have d:j<a:=by simpa using b
 refine⟨?_,World.frozen?_alloc_new _ _ _ _⟩;rw[World.cell?_alloc_new,Lib.zeros24_at _ Z,getElem!_pos _ j b];simp[yT]
def gH(u:Nat):ByteArray:=⟨(Ļ u).toArray⟩
def amS(u:Nat)(h:u<100)(w:É):Ò À 172 #[Â Æ u,Â Ë 10] w λe a=>e=Ç (Í<|gH u)/\a=w:=by go_enter aB,σ;go_wp2_with (go_at_call 187;refine(Tryz.internal_strconv_small u h _).mono ?_;rintro e a ⟨rfl,rfl⟩);go_ret;exact⟨U,U⟩
def amT(u:Nat)(h:¬u<100)(c:u<18446744073709551616)(w:É)(m:lh w):Ò À 172 #[Â Æ u,Â Ë 10] w λe b=>e=Ç (Í<|gH u)/\eZ e9 w b:=by
 have g:1<=u:=Z
 have o:č u<=20:=by have:=Lib.numDigits_eq u g c;split at this<;>omega
 have n:À.arrayLen 276=24:=fl
 have p:∀W,(Instr.sliceAt 276 (Å<|Ã ⟨w.heap.size,0,Ä⟩) Ä (Ã<|Â Ë (č u:Int)) Ä).run À W=φ (Ê (Ã ⟨w.heap.size,0,Ä⟩) (č u) 24) W:=λW=>by rw[run_sliceAt_array_h W 276 ⟨w.heap.size,0,Ä⟩ (by simp[Program.arrayLen,Program.elem,Tryz.type276]) Ë (č u:Int) Z (by rw[n];omega)];go_simp
 have i:=amR w 276 (č u) Z;have l:=Tryz.internal_strconv_formatBase10 w.heap.size 0 24 u (ō (č u) 0) (w.alloc<|Ð ġ 276) i (by rw[Ď];exact Lib.lt_pow_nDigits u) c (by rw[Ď];omega);rw[Ď]at l;go_enter aB,σ;go_wp2_with (go_at_call 188;refine(Tryz.internal_strconv_numDigits u g c _<|Lib.tabIs_alloc m _).mono ?_;rintro e b ⟨rfl,rfl⟩);go_at_call 189;apply l.mono;rintro e b ⟨rfl,k,q,a,d,hF⟩;replace d:b=(ζ yT (w.alloc<|Ð ġ 276) w.heap.size 0 a).drewN k:=d;subst d;have r:(convert 107 9<|Ê (Ã ⟨w.heap.size,0,Ä⟩) (č u) 24).run À ((ζ yT (w.alloc<|Ð ġ 276) w.heap.size 0 a).drewN k)=φ (Í<|gH u) ((ζ yT (w.alloc<|Ð ġ 276) w.heap.size 0 a).drewN k):=by have h:=run_convert_bytes_back (P:=À) ((ζ yT (w.alloc<|Ð ġ 276) w.heap.size 0 a).drewN k) 107 9 5 ⟨w.heap.size,0,Ä⟩ 24 (Ļ u) fl fl fl (λj f=>by rw[Lib.row_is_numeral hF j f,Lib.add_plain,World.cell?_drewN];exact cell?_putRow yT _ w.heap.size 0 _ a (Lib.hid i).out (by rw[hF.size,Ď]) j<|by rw[hF.size];rwa[Ģ]at f);rwa[Ģ]at h
 go_wp2;go_ret;exact⟨U,eZ.fX w 276 _ _ a k⟩
def amU(u:Nat)(d:u<18446744073709551616)(w:É)(f:lh w):Ò À 172 #[Â Æ u,Â Ë 10] w λe c=>e=Ç (Í<|gH u)/\eZ e9 w c:=by
 by_cases h:u<100
 .exact(amS u h w).mono λe c ⟨a,b⟩=>⟨a,b▸eZ.fQ _ _⟩
 .exact amT u h d w f
def amV(u:Nat)(b:u<18446744073709551616)(w:É)(c:lh w):Ò À 157 #[Â Æ u,Â Ë 10] w λe a=>e=Ç (Í<|gH u)/\eZ e9 w a:=by go_enter Tryz.func157,Tryz.ntmps157;go_wp2_with (go_at_call 172;refine(amU u b _ c).mono ?_;rintro e a ⟨rfl,d⟩);go_ret;exact⟨U,d⟩
def wZ(u:Nat)(b:u<18446744073709551616)(w:É)(c:lh w):Ò À 118 #[Â Æ u] w λe a=>e=Ç (Í<|gH u)/\eZ e9 w a:=by go_enter Tryz.func118,Tryz.ntmps118;go_wp2_with (go_at_call 157;refine(amV u b _ c).mono ?_;rintro e a ⟨rfl,d⟩);go_ret;exact⟨U,d⟩
end Go.Proofs.Y.iz
namespace Go.Proofs.Y.iz
open Go Go.Proofs Go.RowKit Go.Proofs.Y.Lift
def Sn(B:Nat):iO:=⟨B,144,[]⟩
def amW(B:Nat):(Sn B).Ok:=⟨show(144:Nat)≠36 by decide,show(144:Nat)≠257 by decide,show(144:Nat)≠282 by decide,show(144:Nat)≠300 by decide,show(144:Nat)≠252 by decide,show(144:Nat)≠246 by decide⟩
def p_{s:St}(l:lR n s h w)(z:gD s)(B:iF w)(x y:Nat)(g k:Int)(T:x<8)(V:y<8)(Y:0<=g)(va:g<=100000)(hk:fW k)(r:Bq)(D:r=gd s [] x y g k): Ò À 158 #[Å<|Ã ⟨n,0,Ä⟩,Â Ë x,Â Ë y,Â Æ g,Â Æ k] w λe f=>
  ∃lv,e=Ç (æ #[Ē #[Â Æ r.r,Ñ r.C,Â Æ r.M],lv])/\f.ownsRow 0 257 2 lv r.I.length (j0 r.I)/\eZ e9 w f:=by
 let⟨dd,E,F⟩:=Ì.1 R4;have G:(À.info? 140).map (·.size)=Ã (ic s).length:=by rw[qW];exact ZL
 let⟨i0,z0,I,J,K,L⟩:=Zr Zq;have m:=RL s (lv:=Ê Ä 0 0) U;rw[yM]at m;have o:(ic s++[Ê Ä 0 0]).length=145:=by rw[Ó,qW];rfl
 have M:=eZ.gC e9 w #[Â Æ 0,Ñ Ï,Â Æ 0] 252;have N:=(l.r M id).C;have gI:=á w _ l.h;have C:∀W,iq (w.heap.size+1) 144 [] s (Ê Ä 0 0) W->iF W->Ò À 173 #[Å<|Ã ⟨w.heap.size+1,0,Ä⟩,Â Ë x,Â Ë y,Â Æ g,Â Æ k,Â Ë 1] W λe f=>e=Ç (Ē #[Â Æ r.r,Ñ r.C,Â Æ r.M])/\∃jm,ia (Sn<|w.heap.size+1) (Ê Ä 0 0) 0 W r.s r.I f jm:=λW hW hrW=>by rw[D];exact ZB (Sn<|w.heap.size+1) (amW _) s _ [] x y g k W hW (ĉ _ _ _ _) hrW z T V Y va hk<|by simp;omega
 have a:=e8<|Á E<|Á F<|Á G<|Á N<|Á I<|Á K<|Á (J.trans o.symm)<|Á (L.trans o.symm) m;have H:=e8<|Á B C;clear E F G I J K L m o N l C B z M D;go_enter Tryz.func158,Tryz.ntmps158;go_wp2_with (first
  |(with_reducible refine ĥ U 140 _ U n 0 U (ic s) dd a.out.2.2.2.1 a.out.1 a.out.2.1 a.out.2.2.1 ?_)
  |(with_reducible refine Ć U (Ã 19) U _ _ (R3 U U<|qW s) ?_)
  |(with_reducible refine Zo U U 144 U 12 U _ _ U U a.out.2.2.2.2.1 a.out.2.2.2.2.2.1 (ic s++[Ê Ä 0 0]) a.out.2.2.2.2.2.2.1 a.out.2.2.2.2.2.2.2.1 U U a.out.2.2.2.2.2.2.2.2 ?_;intro t KJ O Dj))
 have uY:t.heap.size=w.heap.size+1+1:=by simpa using Dj
 have P:iq (w.heap.size+1) 144 [] s (Ê Ä 0 0) t:=by unfold iq;rw[ò,yM];simpa using KJ
 have Q:=(eZ.gC _ _ _ _).fc O;have Ad:=(fe.N w [Â Æ 0,Ñ Ï,Â Æ 0] 252).I O id;go_at_call 173;refine(H.out.2 t P<|H.out.1.r Q id).mono ?_;rintro e u ⟨rfl,lv,d⟩;have b:=Ad.I d.C (λq=>q.elim (λq=>absurd q<|by show w.heap.size≠w.heap.size+1;omega) λq=>by cases q);have rK:=d.C.M;have hlv:u.cell? ⟨w.heap.size+1,144,Ä⟩=Ã lv:=d.r.GU Z;obtain⟨la,lc,rfl⟩:=jy d.I;have l0:=b.M;have y0:=b.C 0;have y1:=b.C 1;have y2:=b.C 2;have c0:=b.r 0 _ U;have c1:=b.r 1 _ U;have c2:=b.r 2 _ U;have hl2:w.heap.size+1<u.heap.size:=Z
 have c:=e8<|Á d<|Á b<|Á Q P;go_wp2_with fail;go_region;go_wp2_with fail;let⟨d2,oc,wq⟩:=Ì.1 RO;have S:=((eZ.I (X:=λk=>k=w.heap.size) (w:=u) (p:=⟨w.heap.size,0,Ä⟩) U<|Â Æ r.r).fc<|eZ.I (X:=λk=>k=w.heap.size) (p:=⟨w.heap.size,1,Ä⟩) U<|Ñ r.C).fc (eZ.I (X:=λk=>k=w.heap.size) (p:=⟨w.heap.size,2,Ä⟩) U<|Â Æ r.M);have v:=λW=>(eZ.gC e9 W #[Â Æ r.r,Ñ r.C,Â Æ r.M] 252).fc<|eZ.fN _ _;apply ð (yK U U (fe.Y (vs:=[Â Æ r.r,Ñ r.C,Â Æ r.M])<|(((c.out.2.1.fX 0<|Â Æ r.r).fX 1<|Ñ r.C).fX 2<|Â Æ r.M).I (v _) id) oc wq RP) U;refine⟨_,U,gW (gW c.out.1.I S λj hj y=> ?_) (v _) λ_ _=>id,?_⟩
 .let⟨j,i⟩:=ly c.out.1.I hj;rw[y,c.out.2.1]at i;cases i
 .refine((c.out.2.2.1.C c.out.1.C λi j q=> ?_).C S λi j q=> ?_).fc<|v _
  .rcases q with q|q
   .exact absurd q<|by show i≠w.heap.size+1;omega
   .cases q
  .omega
def sj(s:St)(x y:Nat)(k:Int):Nat->Nat->ByteArray
 |_,0=>⟨#[45]⟩
 |i,n+1=>if(gd s [] x y i k).C then gH i else sj s x y k (i+1) n
noncomputable def K7:ŏ:=(Tryz.f120.body.bind kr).getD Ķ
def BD(a x y:Nat)(k:Int)(r:È)(i:Int)(u:Nat->È):é:=⟨#[Å<|Ã ⟨a,0,Ä⟩,Â Ë x,Â Ë y,Â Æ k,u 4,u 5,u 6,u 7,r,u 9,u 10,u 11,Â Æ i,u 13,u 14,u 15,u 16,u 17,u 18,u 19,u 20,u 21,u 22,u 23,u 24,u 25,u 26,u 27,u 28,u 29],[]⟩
def yU(b x y:Nat)(k:Int)(r:È)(i:Int)(a:é):Prop:=∃u,a=BD b x y k r i u
theorem lh.r(h:lh w)(q:eZ e9 w u):lh u:=by
 unfold lh ω World.var? at*;cases a:À.globalNamed "internal/strconv.uint64pow10" with
 |none=>rw[a]at h;cases h
 |some g=>
  rw[a]at h;simp only[Option.bind_some]at h|-;have b:g<w.heap.size:=by grind
  rwa[q.N g b id]
section
variable{Y:é->É->Prop}{s:St}
def amX(b:È)(u:Nat->È)(d:∀a,yU j i n c b 401 a->H a w): Î À K7 (Exit.then K<|QN H Y) (BD j i n c b 401 u) w:=by
 unfold BD;conv=>arg 2;whnf
 go_wp2_with fail
 exact d _ (gl _)
def amY(p:È)(u:Nat->È)(b:Nat)(P:b<401)(B:lR j s h w)(C:gD s)(D:iF w)(E:lh w)(F:i<8)(G:n<8)(I:fW c) (q:(gd s [] i n b c).C=Ï->∀a g,yU j i n c p ((b+1:Nat):Int) a->eZ e9 w g->K a g) (r:(gd s [] i n b c).C=Ú->∀a g,yU j i n c (Í<|gH b) b a->eZ e9 w g->Y a g): Î À K7 (Exit.then K<|QN H Y) (BD j i n c p b u) w:=by
 unfold BD;conv=>arg 2;whnf
 have T:=p_ B C D i n b c F G Z Z I _ U;obtain⟨t,o,v,x,y,J⟩:∃t o v x y,gd s [] i n b c=⟨t,o,v,x,y⟩:=⟨_,_,_,_,_,U⟩;rw[J]at T q r;have d:=e8<|Á T<|Á q<|Á r E;cases o with
 |true=>
  go_wp2_with (first
   |(go_at_call 158;refine d.out.1.mono ?_;rintro e l ⟨L,rfl,f,k⟩;obtain⟨M,N,rfl⟩:=jy f;have m:=e8<|Á k f;clear k f)
   |(go_at_call 118;refine(wZ b Z _ (d.out.2.2.2.r (m.out.1.fc (eZ.gC e9 l _ _)))).mono ?_;rintro e Q ⟨rfl,z⟩;have O:=e8 z;clear z))
  exact d.out.2.2.1 trivial _ _ (gl _)<|(m.out.1.fc<|eZ.gC e9 l _ _).fc O.out
 |false=>
  go_wp2_with (first
   |(go_at_call 158;refine d.out.1.mono ?_;rintro e l ⟨L,rfl,f,k⟩;obtain⟨M,N,rfl⟩:=jy f;have m:=e8 (Á k f);clear k f))
  exact d.out.2.1 trivial _ _ (gl _)<|m.out.1.fc<|eZ.gC e9 l _ _
def LI(j i n:Nat)(c:Int)(d:È)(s:St)(e:É)(f:ByteArray)(a:é)(w:É):Prop:=
 ∃b:Nat,yU j i n c d b a/\b<=401/\eZ e9 e w/\sj s i n c b (401-b)=f
def LE(j i n:Nat)(c:Int)(b:È)(d:É)(e:ByteArray)(a:é)(w:É):Prop:=yU j i n c b 401 a/\eZ e9 d w/\e=⟨#[45]⟩
def LR(j i n:Nat)(c:Int)(d:É)(e:ByteArray)(a:é)(w:É):Prop:=∃b,yU j i n c (Í e) b a/\eZ e9 d w
def K8(a:é)(_:É):Nat:=match a.tmps.getD 12 ā with
 |Â _ i=>401-i.toNat
 |_=>0
def q_(d:yU j i n c v b y):K8 y w=401-b:=by obtain⟨u,rfl⟩:=d;show 401-(b:Int).toNat=_;simp
def amZ(p:lR j s h u)(r:gD s)(t:iF u)(x:lh u)(y:i<8)(z:n<8)(C:fW c)(a:é)(w:É)(D:LI j i n c v s u B a w): Î À K7 (Exit.then (λg k=>LI j i n c v s u B g k/\K8 g k<K8 a w)<|QN (LE j i n c v u B)<|LR j i n c u B) a w:=by
 let⟨b,o,H,e,f⟩:=D;rw[q_ (w:=w) o];obtain⟨d,rfl⟩:=o;by_cases E:b=401
 .subst E;exact amX v d λa q=>⟨q,e,f.symm⟩
 .have F:401-b=(401-(b+1))+1:=Z
  rw[F,sj]at f;refine amY v d b Z (p.r e id) r (t.r e id) (x.r e) y z C ?_ ?_
  .intro l g k q m;rw[l]at f;exact⟨⟨b+1,q,Z,e.fc m,f⟩,by rw[q_ q];omega⟩
  .intro l g k q m;rw[l]at f;have G:gH b=B:=f;rw[G]at q;exact⟨b,q,e.fc m⟩
def am0(d:lR j s h w)(f:gD s)(g:iF w)(k:lh w)(l:i<8)(m:n<8)(o:fW c): Ò À 120 #[Å<|Ã ⟨j,0,Ä⟩,Â Ë i,Â Ë n,Â Æ c] w λe a=>e=Ç (Í<|sj s i n c 0 401)/\eZ e9 w a:=by
 have L:∀a,yU j i n c (Í ⟨#[]⟩) 0 a->Î À (à K7) (QN (LE j i n c (Í ⟨#[]⟩) w<|sj s i n c 0 401)<|LR j i n c w<|sj s i n c 0 401) a w:=λa p=>
  Ĉ (LI j i n c (Í ⟨#[]⟩) s w<|sj s i n c 0 401) K8 ⟨0,p,â _,eZ.fQ _ _,U⟩<|amZ d f g k l m o
 generalize sj s i n c 0 401=r at*;go_enter Tryz.func120,Tryz.ntmps120;go_wp2_with fail;refine Ý ?_ ((e8 L).out _ (gl _));rintro(_|(_|_)|_|_|_|_) a v hq;all_goals first|exact absurd hq id|skip
 .obtain⟨b,q,rfl⟩:=hq;obtain⟨u,rfl⟩:=b;unfold BD;go_wp2_with fail;go_ret;simp_all
 .let⟨e,b,q⟩:=hq;obtain⟨u,rfl⟩:=b;unfold BD;go_wp2_with fail;go_ret;simp_all
end
def yV:(À.info? 9).map (λi=>(i.zero,i.size,i.bytes))=Ã (Ã<|Í ⟨#[]⟩,1,16):=fl
def kt(xs:List ByteArray):List È:=xs.map Í
structure gX(w0:É)(tv:È)(xs:List ByteArray)(w:É):Prop where
 fi:w.ownsRow w0.heap.size 9 1 tv xs.length (kt xs)
 r:eZ e9 w0 w
section
variable{w0:É}{tv:È}{xs:List ByteArray}
def gX.M(w0:É){w:É}(k:eZ e9 w0 w):gX w0 (Ê Ä 0 0) [] w:=⟨ĉ _ _ _ _,k⟩
def gX.fG(h:gX w0 tv xs w)(k:eZ e9 w u):gX w0 tv xs u:=⟨gW h.fi k λ_ _=>id,h.r.fc k⟩
def gX.C(h:gX w0 tv xs w)(a:pA w w0.heap.size 9 1 tv xs.length (kt xs) 1 [Í B] v u):gX w0 v (xs++[B]) u:=by
 refine⟨?_,h.r.C a.r λi b q=> ?_⟩
 .have:=a.fi;rwa[show kt xs++[Í B]=kt (xs++[B]) by simp[kt],show xs.length+1=(xs++[B]).length by simp]at this
 .have:=(h.fi.lt i q).1;omega
end
theorem qi(u:Nat)(h:u<18446744073709551616):(gH u).size<=20:=by have:=Lib.nDigits_le20 u h;unfold gH;show(Ļ u).toArray.size<=20;grind [Ģ]
def mS(p:Option ă)(a:List È)(w:É):Prop:=∀(j:Nat) (x:È),a[j]?=Ã x->∃b o,p=Ã ⟨b,o,Ä⟩/\w.cell? ⟨b,o+j,Ä⟩=Ã x
def mS.C(h:mS O l w)(q:eZ e9 w u):mS O l u:=λj x a=>by let⟨b,o,c,d⟩:=h j x a;exact⟨b,o,c,q.r d id⟩
def mS.r{base:Nat}(h:w.ownsRow base e i (Ê O n j) n l):mS O l w:=λb x d=>by
 rcases h.2 with⟨f,k⟩|⟨g,m,o,f,_⟩
 .have:=h.1;rw[k,Nat.zero_mul]at this;rw[ß this]at d;cases d
 .cases f;refine⟨g,0,U,?_⟩;have:=h.cells (g:=g) U b x d;rwa[Addr.add_mid]at this
def So{α:Type}(f g:α->È):∀(l:List α) (j:Nat) (x:α),l[j]?=Ã x->(l.flatMap λp=>[f p,g p])[j*2]?=Ã (f x)/\(l.flatMap λp=>[f p,g p])[j*2+1]?=Ã (g x)
 |[],j,x,h=>by cases h
 |a::l,0,x,h=>by cases h;exact⟨U,U⟩
 |a::l,j+1,x,h=>by rw[show(j+1)*2=j*2+1+1 by omega];exact So f g l j x h
def iB(y:Nat):ByteArray:=ø ⟨#[97,98,99,100,101,102,103,104]⟩ y<|y+1
def rh(e:Nat×Int):ByteArray:=iB e.1++gH e.2.toNat
noncomputable def K9:ŏ:=(Tryz.f124.body.bind kr).getD Ķ
def D2(a:Option ă)(n b:Nat)(c:È)(i:Int)(u:Nat->È):é:=⟨#[Ê a n b,u 1,u 2,c,u 4,u 5,Ê a n b,Â Ë n,Â Ë i,u 9,u 10,u 11,u 12,u 13,u 14,u 15,u 16,u 17,u 18,u 19,u 20,u 21,u 22,u 23,u 24,u 25,u 26],[]⟩
def D3(b:Option ă)(n c:Nat)(d:È)(i:Int)(a:é):Prop:=∃u,a=D2 b n c d i u
section
variable{X:é->É->Prop}{w0:É}{cp:Nat}{tv:È}{xs:List ByteArray}
def am1(u:Nat->È)(i:Int)(b:i=n)(c:∀a,D3 O n cp tv n a->X a w): Î À K9 (Exit.then K<|QQ X) (D2 O n cp tv i u) w:=by
 unfold D2;conv=>arg 2;whnf
 subst b;go_wp2_with fail;exact c _ (gl _)
def am2(u:Nat->È)(q:gX w0 tv xs w)(j:Nat)(N:j<n)(P:n<=400000)(Q:xs.length<=400000)(y p:Nat)(S:y<8)(r:p<18446744073709551616)(z:lh w)(k l:Nat)(B:O=Ã ⟨k,l,Ä⟩)(T:w.cell? ⟨k,l+j*2,Ä⟩=Ã (Â Ë y))(V:w.cell? ⟨k,l+j*2+1,Ä⟩=Ã (Â Æ p)) (b:∀a c s,D3 O n cp s ((j+1:Nat):Int) a->gX w0 s (xs++[iB y++gH p]) c->K a c): Î À K9 (Exit.then K<|QQ X) (D2 O n cp tv j u) w:=by
 unfold D2;conv=>arg 2;whnf
 subst B;have W:(0:Int)<=(j:Int):=Z
 have Y:(j:Int)<(n:Int):=Z
 have y0:(0:Int)<=(y:Int):=Z
 have y1:(y:Int)<8:=Z
 have jC:=qi p r;have n8:Ë.wrap ((y:Int)+1)=(y:Int)+1:=by rw[ó];omega
 have C8:(0:Int)<=(y:Int)+1:=Z
 have yf:(y:Int)+1<=8:=Z
 have p9:(y:Int)<=(y:Int)+1:=Z
 have tE:((y:Int)+1).toNat=y+1:=Z
 have Hl:¬9223372036854775807<min (y+1) 8-y+(gH p).size:=Z
 obtain⟨ta,tc,rfl⟩:=jy q.fi;have H:=e8<|Á q<|Á z b;go_wp2_with fail;change Î À _ _ _ (w.alloc<|Ð #[Â Ë y,Â Æ p] 257);have t:=eZ.gC e9 w #[Â Ë y,Â Æ p] 257;have C:=(H.out.1.fG t).fG<|eZ.fN _ _;have D:=(H.out.2.1.r t).r<|eZ.fN _ _;have m:=(fe.N w [Â Ë y,Â Æ p] 257).I (eZ.fN e9 _) id;let⟨i0,E,F,G,I⟩:=í yV;have f:=e8<|Á E<|Á F<|Á G I;refine lP (λc=>c.cell? ⟨w.heap.size,0,Ä⟩=Ã (Â Ë y)/\c.cell? ⟨w.heap.size,1,Ä⟩=Ã (Â Æ p)) [] fl ?_;have J:=e8<|Á (m.r 0 _ rfl)<|m.r 1 _ rfl;generalize w.heap.size=ub at*;generalize Č (w.alloc<|Ð #[Â Ë y,Â Æ p] 257)=w1 at*;iterate 9 apply tk J.out
 apply gu 9;intro K b;go_simp;go_at_call 118;refine(wZ p r _ D).mono ?_;rintro e L ⟨rfl,v⟩;have M:=C.fG v;have d:=m.I v id;apply b.out _ _ λ_=>⟨d.r 0 _ U,d.r 1 _ U⟩;apply gu 10;intro K b;go_simp;apply b.out _ _ λ_=>⟨d.r 0 _ U,d.r 1 _ U⟩;have x:=eZ.gC e9 L #[Í<|iB y++gH p] 9;have g:=M.fG x;have h:=d.I x id;apply gu 11;intro K b;go_simp;apply b.out _ _ λ_=>⟨h.r 0 _ U,h.r 1 _ U⟩;apply gu 12;intro K b;refine KE fP _ _ 25 fP ù f.out.1 f.out.2.1 f.out.2.2.1 f.out.2.2.2 U fP g.fi ⟨_,0,Ä⟩ [Í<|iB y++gH p] fP Z U (ÿ _ _ _) (λu i=>by simp at i;subst i;rfl) (by unfold Ą;omega) Z g.r.M ?_;intro tv1 w9 o;obtain⟨a2,ZN,rfl⟩:=jy o.fi;have i:=h.I o.r<|jo g.fi h A;apply b.out _ _ λ_=>⟨i.r 0 _ U,i.r 1 _ U⟩;apply gu 13;intro K b;go_simp;apply b.out _ _ λ_=>⟨i.r 0 _ U,i.r 1 _ U⟩;refine lA fl ?_ _;go_wp2_with fail;exact H.out.2.2 _ _ _ (gl _)<|g.C o
def Sp(O:Option ă)(n cp:Nat)(w0:É)(l:List (Nat×Int))(a:é)(w:É):Prop:=
 ∃(j:Nat) (tv:È),D3 O n cp tv j a/\j<=n/\gX w0 tv ((l.take j).map rh) w
def q'(O:Option ă)(n cp:Nat)(w0:É)(l:List (Nat×Int))(a:é)(w:É):Prop:=
 ∃tv,D3 O n cp tv n a/\gX w0 tv (l.map rh) w
def La(n:Nat)(a:é)(_:É):Nat:=match a.tmps.getD 8 ā with
 |Â _ i=>n-i.toNat
 |_=>0
def r_(b:D3 O n cp tv i y):La n y w=n-i:=by obtain⟨u,rfl⟩:=b;show n-(i:Int).toNat=_;simp
theorem am3{l:List (Nat×Int)}(D:n=l.length)(k:n<=400000)(m:wY l)(o:lh w0)(f:mS O (j0 l) w0)(a:é)(w:É)(p:Sp O n cp w0 l a w): Î À K9 (Exit.then (λb d=>Sp O n cp w0 l b d/\La n b d<La n a w)<|QQ<|q' O n cp w0 l) a w:=by
 let⟨j,tv,g,E,b⟩:=p;rw[r_ g];obtain⟨u,rfl⟩:=g;by_cases r:j=n
 .subst r;refine am1 u _ U λa q=>⟨tv,q,?_⟩;grind
 .obtain⟨x,e⟩:∃x,l[j]?=Ã x:=⟨_,Ô Z⟩;obtain⟨g0,s⟩:=So _ _ l j x e;let⟨t,v,h,y⟩:=f (j*2) _ g0;let⟨F,G,i,z⟩:=f (j*2+1) _ s;rw[h]at i;cases i;have c:=m x<|Ġ e;refine am2 u b j Z k (by simp;omega) x.1 x.2.toNat c.1 (by have:=c.2.1;have:=c.2.2;omega) (o.r b.r) t v h (b.r.r y id) (by rw[Ĕ c.2.1];exact b.r.r z id) λa d B q C=>⟨⟨j+1,B,q,Z,?_⟩,by rw[r_ q];omega⟩;rwa[Α,e,Υ]
def t_{l:List (Nat×Int)}(b:n=l.length)(g:n<=400000)(c:wY l)(d:lh w)(f:mS O (j0 l) w): Ò À 124 #[Ê O n cp] w λe a=>∃tv,e=Ç tv/\gX w tv (l.map rh) a:=by
 have L:∀a,D3 O n cp (Ê Ä 0 0) (0:Nat) a->Î À (à K9) (QQ<|q' O n cp w l) a w:=λa e=>
  Ĉ (Sp O n cp w l) (La n) ⟨0,_,e,â _,gX.M w<|eZ.fQ _ _⟩<|am3 b g c d f
 have H:=e8 L;clear L c d f b;go_enter Tryz.func124,Tryz.ntmps124;go_wp2_with fail;refine Ý ?_ (H.out _ (gl _));rintro(_|(_|_)|_|_|_|_) a v hq;all_goals first|exact absurd hq id|skip
 let⟨tv,h,i⟩:=hq;obtain⟨u,rfl⟩:=h;unfold D2;go_wp2_with fail;go_ret;simp_all
end
def u_(b:Bool):wN b=((b.toNat:Nat):Int):=by cases b<;>rfl
def D4(e:Int×Bool):ByteArray:=gH e.2.toNat++⟨#[58]⟩++gH e.1.toNat
noncomputable def Lb:ŏ:=(Tryz.f125.body.bind kr).getD Ķ
def D5(a:Option ă)(n b:Nat)(c:È)(i:Int)(u:Nat->È):é:=⟨#[Ê a n b,u 1,u 2,c,u 4,u 5,Ê a n b,Â Ë n,Â Ë i,u 9,u 10,u 11,u 12,u 13,u 14,u 15,u 16,u 17,u 18,u 19,u 20,u 21,u 22,u 23,u 24,u 25],[]⟩
def D6(b:Option ă)(n c:Nat)(d:È)(i:Int)(a:é):Prop:=∃u,a=D5 b n c d i u
section
variable{cp:Nat}{xs:List ByteArray}
def am4(u:Nat->È)(i:Int)(b:i=n)(c:∀a,D6 O n cp v n a->H a w): Î À Lb (Exit.then K<|QQ H) (D5 O n cp v i u) w:=by
 unfold D5;conv=>arg 2;whnf
 subst b;go_wp2_with fail;exact c _ (gl _)
def am5(c:Nat->È)(r:gX u v xs w)(j:Nat)(hj:j<n)(hn:n<=1000)(FI:xs.length<=1000)(p:Nat)(b:Bool)(C:p<18446744073709551616)(D:lh w)(s t:Nat)(V:O=Ã ⟨s,t,Ä⟩)(W:w.cell? ⟨s,t+j*2,Ä⟩=Ã (Â Æ p))(X:w.cell? ⟨s,t+j*2+1,Ä⟩=Ã (Ñ b)) (f:∀a g E,D6 O n cp E ((j+1:Nat):Int) a->gX u E (xs++[gH b.toNat++⟨#[58]⟩++gH p]) g->K a g): Î À Lb (Exit.then K<|QQ H) (D5 O n cp v j c) w:=by
 unfold D5;conv=>arg 2;whnf
 subst V;have jC:=qi p C;have F:b.toNat<18446744073709551616:=by cases b<;>decide
 have hsb:=qi b.toNat F;have Hl:¬9223372036854775807<(gH b.toNat).size+1:=Z
 have hw5:¬9223372036854775807<(gH b.toNat).size+1+(gH p).size:=Z
 obtain⟨ta,tc,rfl⟩:=jy r.fi;have d:=e8<|Á r<|Á D f;clear r D f;go_wp2_with fail;change Î À _ _ _ (w.alloc<|Ð #[Â Æ p,Ñ b] 246);have G:=eZ.gC e9 w #[Â Æ p,Ñ b] 246;have Y:=(d.out.1.fG G).fG<|eZ.fN _ _;have I:=(d.out.2.1.r G).r<|eZ.fN _ _;have x:fe w.heap.size [Â Æ p,Ñ b] 246 (Č<|w.alloc<|Ð #[Â Æ p,Ñ b] 246):=(fe.N w [Â Æ p,Ñ b] 246).I (eZ.fN e9 _) id;let⟨i0,J,L,M,N⟩:=í yV;have i:=e8<|Á J<|Á L<|Á M N;clear J L M N W X;refine lP (λg=>g.cell? ⟨w.heap.size,0,Ä⟩=Ã (Â Æ p)/\g.cell? ⟨w.heap.size,1,Ä⟩=Ã (Ñ b)) [] fl ?_;have k:=e8<|Á (x.r 0 _ rfl)<|x.r 1 _ rfl;generalize w.heap.size=ub at*;generalize Č (w.alloc<|Ð #[Â Æ p,Ñ b] 246)=w1 at*;iterate 3 apply tk k.out
 apply tk k.out 6;apply tk k.out 7;apply gu 3;intro K f;go_simp;go_at_call 159;refine(GV _ _).mono ?_;rintro e P ⟨rfl,p9⟩;subst P;dsimp only;rw[u_];apply f.out _ _ λ_=>k.out;clear f K;apply gu 4;intro K f;go_simp;go_at_call 118;refine(wZ b.toNat F _ I).mono ?_;rintro e P ⟨rfl,y⟩;have T2:=Y.fG y;have z:=x.I y id;have P2:=I.r y;have Q:=e8<|Á (z.r 0 _ rfl)<|z.r 1 _ rfl;dsimp only;apply f.out _ _ λ_=>Q.out;clear f K;apply tk Q.out 5;apply gu 8;intro K f;go_simp;go_at_call 118;refine(wZ p C _ P2).mono ?_;rintro e w3 ⟨rfl,S⟩;have h:=z.I S id;dsimp only;apply f.out _ _ λ_=>⟨h.r 0 _ U,h.r 1 _ U⟩;clear f K;apply gu 9;intro K f;go_simp;apply f.out _ _ λ_=>⟨h.r 0 _ U,h.r 1 _ U⟩;clear f K;have T:=eZ.gC e9 w3 #[Í<|gH b.toNat++⟨#[58]⟩++gH p] 9;have l:=(T2.fG S).fG T;have o:=h.I T id;apply gu 10;intro K f;go_simp;apply f.out _ _ λ_=>⟨o.r 0 _ U,o.r 1 _ U⟩;clear f K;apply gu 11;intro K f;refine KE (base:=u.heap.size) (n:=xs.length) (xs:=kt xs) (m:=1) fP _ _ 25 fP ù i.out.1 i.out.2.1 i.out.2.2.1 i.out.2.2.2 U fP l.fi ⟨_,0,Ä⟩ [Í<|gH b.toNat++⟨#[58]⟩++gH p] fP Z U (ÿ _ _ _) (λc q=>by simp at q;subst q;rfl) (by unfold Ą;omega) Z l.r.M ?_;intro tv1 w9 B;obtain⟨a2,ZN,rfl⟩:=jy B.fi;have q:=o.I B.r<|jo l.fi o A;apply f.out _ _ λ_=>⟨q.r 0 _ U,q.r 1 _ U⟩;clear f K;apply gu 12;intro K f;go_simp;apply f.out _ _ λ_=>⟨q.r 0 _ U,q.r 1 _ U⟩;clear f K;try simp only[ĵ,Õ,ã,ä]
 refine lA fl ?_ _;go_wp2_with fail;exact d.out.2.2 _ _ _ (gl _)<|l.C B
def Sq(O:Option ă)(n cp:Nat)(u:É)(l:List (Int×Bool))(a:é)(w:É):Prop:=
 ∃(j:Nat) (v:È),D6 O n cp v j a/\j<=n/\gX u v ((l.take j).map D4) w
def Sr(O:Option ă)(n cp:Nat)(u:É)(l:List (Int×Bool))(a:é)(w:É):Prop:=
 ∃v,D6 O n cp v n a/\gX u v (l.map D4) w
def Lc(n:Nat)(a:é)(_:É):Nat:=match a.tmps.getD 8 ā with
 |Â _ i=>n-i.toNat
 |_=>0
def w_(b:D6 O n cp v i y):Lc n y w=n-i:=by obtain⟨u,rfl⟩:=b;show n-(i:Int).toNat=_;simp
def am6{l:List (Int×Bool)}(m:n=l.length)(o:n<=1000)(p:yS l)(r:lh u)(g:mS O (tR l) u)(a:é)(w:É)(s:Sq O n cp u l a w): Î À Lb (Exit.then (λb d=>Sq O n cp u l b d/\Lc n b d<Lc n a w)<|QQ<|Sr O n cp u l) a w:=by
 let⟨j,v,h,G,c⟩:=s;rw[w_ h];obtain⟨b,rfl⟩:=h;by_cases t:j=n
 .subst t;refine am4 b _ U λa q=>⟨v,q,?_⟩;rwa[m,List.take_length]at c
 .obtain⟨x,e⟩:∃x,l[j]?=Ã x:=⟨_,Ô Z⟩;obtain⟨g0,y⟩:=So _ _ l j x e;let⟨z,B,i,C⟩:=g (j*2) _ g0;let⟨H,I,k,D⟩:=g (j*2+1) _ y;rw[i]at k;cases k;have f:=p x<|Ġ e;refine am5 b c j Z o (by simp;omega) x.1.toNat x.2 (by have:=f.1;have:=f.2;omega) (r.r c.r) z B i (by rw[Ĕ f.1];exact c.r.r C id) (c.r.r D id) λa d E q F=>⟨⟨j+1,E,q,Z,?_⟩,by rw[w_ q];omega⟩;rwa[Α,e,Υ]
def am7{l:List (Int×Bool)}(b:n=l.length)(g:n<=1000)(c:yS l)(d:lh w)(f:mS O (tR l) w): Ò À 125 #[Ê O n cp] w λe a=>∃v,e=Ç v/\gX w v (l.map D4) a:=by
 have L:∀a,D6 O n cp (Ê Ä 0 0) (0:Nat) a->Î À (à Lb) (QQ<|Sr O n cp w l) a w:=λa h=>
  Ĉ (Sq O n cp w l) (Lc n) ⟨0,_,h,â _,gX.M w<|eZ.fQ _ _⟩<|am6 b g c d f
 have H:=e8 L;clear L c d f b;go_enter Tryz.func125,Tryz.ntmps125;go_wp2_with fail;refine Ý (Q:=QQ<|Sr O n cp w l) ?_ (H.out _ (gl _));rintro(_|(_|_)|_|_|_|_) a v hq;all_goals first|exact absurd hq id|skip
 let⟨v,i,e⟩:=hq;obtain⟨u,rfl⟩:=i;unfold D5;have j:=e8 e;clear e;go_wp2_with fail;go_ret;exact⟨_,U,j.out⟩
end
def BF(j:Nat):ByteArray:=ø ⟨#[48,49,50,51,52,53,54,55,56,57,97,98,99,100,101,102]⟩ j<|j+1
def BG(s t:St)(i j:Nat):List ByteArray:=if(s i).C j=(t i).C j then[]else[iB i++BF j]
def qj(s t:St)(i j:Nat):List ByteArray:=(ċ j).flatMap<|BG s t i
def w7(b a:Int)(p c:ByteArray)(i:Nat):List ByteArray:=(if b=a then[]else[iB i++⟨#[36]⟩])++(if p.toList=c.toList then[]else[iB i++⟨#[123]⟩])
def yW(s t:St)(i:Nat):List ByteArray:=w7 (s i).fp (t i).fp (s i).r (t i).r i++qj s t i 16
def qk(s t:St)(n:Nat):List ByteArray:=(ċ n).flatMap<|yW s t
def am8(s t:St)(i j:Nat):(BG s t i j).length<=1:=by unfold BG;split<;>simp
def Ss(s t:St)(i j:Nat):qj s t i (j+1)=qj s t i j++BG s t i j:=by unfold qj;rw[Ŏ,Ţ];simp
theorem Ld(s t:St)(i:Nat):∀j,(qj s t i j).length<=j
 |0=>by simp[qj]
 |j+1=>by rw[Ss,Ó];have:=Ld s t i j;have:=am8 s t i j;omega
theorem y_(b a:Int)(p c:ByteArray)(i:Nat):(w7 b a p c i).length<=2:=by unfold w7;rw[Ó];split<;>split<;>simp
def z_(s t:St)(n:Nat):qk s t (n+1)=qk s t n++yW s t n:=by unfold qk;rw[Ŏ,Ţ];simp
def Sv(s t:St):∀n,(qk s t n).length<=18*n
 |0=>by simp[qk]
 |n+1=>by rw[z_,Ó];have:=Sv s t n;unfold yW;rw[Ó];have:=Ld s t n 16;have:=y_ (s n).fp (t n).fp (s n).r (t n).r n;omega
def xa(i:Nat):(iB i).size<=1:=by unfold iB;rw[ŋ];omega
def A_(i:Nat):(BF i).size<=1:=by unfold BF;rw[ŋ];omega
def lR.gN{s:St}(c:lR n s h W)(a:i<8):W.cell? ⟨n,i*18,Ä⟩=Ã (Â Æ (s i).fp)/\W.cell? ⟨n,i*18+1,Ä⟩=Ã (Í (s i).r)/\∀j,j<16->W.cell? ⟨n,i*18+2+j,Ä⟩=Ã (Â Æ<|(s i).C j):=by
 have g:∀j,j<144->W.cell? ⟨n,j,Ä⟩=Ã (pC s j):=λj b=>by have:=c.C j _<|Sc s b;simpa using this
 refine⟨?_,?_,λj b=> ?_⟩
 .rw[g _ Z,<-qg s (Ê Ä 0 0) Z,GR _ _ a];rfl
 .rw[g _ Z,<-qg s (Ê Ä 0 0) Z,Kx _ _ a]
 .rw[g _ Z,<-qg s (Ê Ä 0 0) Z,Ky _ _ a b];rfl
noncomputable def yY:ŏ:=(Tryz.f126.body.bind kr).getD Ķ
noncomputable def xb:ŏ:=(kr yY).getD Ķ
def tW(a b i:Nat)(c:È)(j:Int)(u:Nat->È):é:=⟨#[Å<|Ã ⟨a,0,Ä⟩,Å<|Ã ⟨b,0,Ä⟩,u 2,u 3,u 4,c,Â Ë i,Í<|iB i,Å<|Ã ⟨a,i*18,Ä⟩,Å<|Ã ⟨b,i*18,Ä⟩,u 10,Â Ë i,u 12,u 13,u 14,u 15,u 16,u 17,u 18,u 19,u 20,u 21,u 22,u 23,u 24,u 25,u 26,u 27,u 28,u 29,u 30,u 31,u 32,u 33,u 34,u 35,u 36,u 37,u 38,u 39,u 40,u 41,u 42,u 43,u 44,u 45,u 46,u 47,u 48,u 49,u 50,u 51,u 52,u 53,Â Ë j,u 55,u 56,u 57,u 58,u 59,u 60,u 61,u 62,u 63,u 64,u 65,u 66,u 67,u 68,u 69,u 70,u 71,u 72,u 73,u 74,u 75,u 76,u 77,u 78,u 79,u 80,u 81],[]⟩
def tX(b c i:Nat)(d:È)(j:Int)(a:é):Prop:=∃u,a=tW b c i d j u
def sk(a b:Nat)(c:È)(i:Int)(u:Nat->È):é:=⟨#[Å<|Ã ⟨a,0,Ä⟩,Å<|Ã ⟨b,0,Ä⟩,u 2,u 3,u 4,c,u 6,u 7,u 8,u 9,u 10,Â Ë i,u 12,u 13,u 14,u 15,u 16,u 17,u 18,u 19,u 20,u 21,u 22,u 23,u 24,u 25,u 26,u 27,u 28,u 29,u 30,u 31,u 32,u 33,u 34,u 35,u 36,u 37,u 38,u 39,u 40,u 41,u 42,u 43,u 44,u 45,u 46,u 47,u 48,u 49,u 50,u 51,u 52,u 53,u 54,u 55,u 56,u 57,u 58,u 59,u 60,u 61,u 62,u 63,u 64,u 65,u 66,u 67,u 68,u 69,u 70,u 71,u 72,u 73,u 74,u 75,u 76,u 77,u 78,u 79,u 80,u 81],[]⟩
def vd(b c:Nat)(d:È)(i:Int)(a:é):Prop:=∃u,a=sk b c d i u
section
variable{X:é->É->Prop}{w0:É}{xs:List ByteArray}{s t:St}
def am9(u:Nat->È)(b:∀a,tX n j i v (16:Nat) a->X a w): Î À xb (Exit.then K<|Q2 X) (tW n j i v (16:Nat) u) w:=by
 unfold tW;conv=>arg 2;whnf
 go_wp2_with fail
 exact b _ (gl _)
def ana(u:Nat->È)(b:Nat)(d:i<8)(e:b<16)(p:Int)(f:w.cell? ⟨n,i*18+2+b,Ä⟩=Ã (Â Æ p))(g:w.cell? ⟨j,i*18+2+b,Ä⟩=Ã (Â Æ p)) (c:∀a,tX n j i v ((b+1:Nat):Int) a->K a w.drew): Î À xb (Exit.then K<|Q2 X) (tW n j i v b u) w:=by
 unfold tW;conv=>arg 2;whnf
 have h:(0:Int)<=(b:Int):=Z
 have k:(b:Int)<16:=Z
 have H:=e8 c;clear c;go_wp2_with fail;go_region;go_wp2_with fail;exact H.out _ (gl _)
def anb(u:Nat->È)(d:gX w0 v xs w)(t:xs.length<=1000)(b:Nat)(x:i<8)(y:b<16)(p q:Int)(z:(p==q)=Ï)(B:w.cell? ⟨n,i*18+2+b,Ä⟩=Ã (Â Æ p))(C:w.cell? ⟨j,i*18+2+b,Ä⟩=Ã (Â Æ q)) (f:∀a g h,tX n j i g ((b+1:Nat):Int) a->gX w0 g (xs++[iB i++BF b]) h->K a h): Î À xb (Exit.then K<|Q2 X) (tW n j i v b u) w:=by
 unfold tW;conv=>arg 2;whnf
 have D:(0:Int)<=(b:Int):=Z
 have E:(b:Int)<16:=Z
 have F:Ë.wrap ((b:Int)+1)=(b:Int)+1:=by rw[ó];omega
 have G:(0:Int)<=(b:Int)+1:=Z
 have I:(b:Int)+1<=16:=Z
 have J:(b:Int)<=(b:Int)+1:=Z
 have L:((b:Int)+1).toNat=b+1:=Z
 have M:¬9223372036854775807<(iB i).size+(BF b).size:=by have:=xa i;have:=A_ b;omega
 have N:ø ⟨#[48,49,50,51,52,53,54,55,56,57,97,98,99,100,101,102]⟩ b (b+1)=BF b:=U;obtain⟨O,P,rfl⟩:=jy d.fi;let⟨Q,k,l,o,r⟩:=í yV;have c:=e8<|Á k<|Á l<|Á o r;have H:=e8<|Á d f;clear d f k l o r;go_wp2_with fail;go_region;go_wp2_with (at_builtin;refine Bl (base:=w0.heap.size) (n:=xs.length) (xs:=kt xs) (m:=1) U _ _ 25 U ù c.out.1 c.out.2.1 c.out.2.2.1 c.out.2.2.2 U U ((H.out.1).fG kp).fi ⟨_,0,Ä⟩ [Í<|iB i++BF b] U Z U (ÿ _ _ _) (λu e=>by simp at e;subst e;rfl) (by unfold Ą;omega) Z ((H.out.1).fG kp).r.M ?_;intro S T e;obtain⟨V,W,rfl⟩:=jy e.fi;have s:=e8<|((H.out.1).fG kp).C e;clear e);exact H.out.2 _ _ _ (gl _) s.out
def DJ(n j i:Nat)(w0:É)(xs:List ByteArray)(s t:St)(a:é)(w:É):Prop:=
 ∃(b:Nat) (v:È),tX n j i v b a/\b<=16/\gX w0 v (xs++qj s t i b) w
def ve(n j i:Nat)(w0:É)(xs:List ByteArray)(s t:St)(a:é)(w:É):Prop:=
 ∃(v:È),tX n j i v (16:Nat) a/\gX w0 v (xs++qj s t i 16) w
def Le(a:é)(_:É):Nat:=match a.tmps.getD 54 ā with
 |Â _ i=>16-i.toNat
 |_=>0
def Sw(c:tX n j i v b y):Le y w=16-b:=by obtain⟨u,rfl⟩:=c;show 16-(b:Int).toNat=_;simp
def anc(o:lR n s h w0)(p:lR j t c w0)(e:i<8)(B:xs.length<=900)(a:é)(w:É)(r:DJ n j i w0 xs s t a w): Î À xb (Exit.then (λb g=>DJ n j i w0 xs s t b g/\Le b g<Le a w)<|Q2<|ve n j i w0 xs s t) a w:=by
 let⟨b,v,l,C,d⟩:=r;rw[Sw l];obtain⟨u,rfl⟩:=l;by_cases x:b=16
 .subst x;exact am9 u λa q=>⟨v,q,d⟩
 .have m:=d.r.r ((o.gN e).2.2 b Z) id;have k:=d.r.r ((p.gN e).2.2 b Z) id;by_cases q:(s i).C b=(t i).C b
  .rw[<-q]at k;refine ana u b e Z _ m k λa f=>⟨⟨b+1,v,f,Z,?_⟩,by rw[Sw f];omega⟩;rw[Ss,BG,if_pos q,ò];exact d.fG<|eZ.fN _ _
  .refine anb u d (by rw[Ó];have:=Ld s t i b;omega) b e Z _ _ (by simpa using q) m k λa y g f z=>⟨⟨b+1,y,f,Z,?_⟩,by rw[Sw f];omega⟩;rwa[Ss,BG,if_neg q,<-Ċ]
def ane(u:Nat->È)(b:∀a,vd n j v (8:Nat) a->X a w): Î À yY (Exit.then K<|QQ X) (sk n j v (8:Nat) u) w:=by
 unfold sk;conv=>arg 2;whnf
 go_wp2_with fail
 exact b _ (gl _)
def anf(u:Nat->È)(d:gX w0 v xs w)(E:xs.length<=800)(F:i<8)(b h:Int)(p k:ByteArray)(G:(b==h)=Ú)(I:(p.toList==k.toList)=Ú)(l:w0.cell? ⟨n,i*18,Ä⟩=Ã (Â Æ b))(m:w0.cell? ⟨j,i*18,Ä⟩=Ã (Â Æ h))(f:w0.cell? ⟨n,i*18+1,Ä⟩=Ã (Í p))(g:w0.cell? ⟨j,i*18+1,Ä⟩=Ã (Í k)) (L:∀a e W,tX n j i e (0:Nat) a->gX w0 e xs W->Î À (à xb) (Q2<|ve n j i w0 xs s t) a W) (o:∀a e q,vd n j e ((i+1:Nat):Int) a->gX w0 e (xs++qj s t i 16) q->K a q): Î À yY (Exit.then K<|QQ X) (sk n j v i u) w:=by
 unfold sk;conv=>arg 2;whnf
 have J:=d.r.r l id;have M:=d.r.r m id;have N:=d.r.r f id;have O:=d.r.r g id;have P:(0:Int)<=(i:Int):=Z
 have S:(i:Int)<8:=Z
 have T:Ë.wrap ((i:Int)+1)=(i:Int)+1:=by rw[ó];omega
 have V:(0:Int)<=(i:Int)+1:=Z
 have Y:(i:Int)+1<=8:=Z
 have p9:(i:Int)<=(i:Int)+1:=Z
 have tE:((i:Int)+1).toNat=i+1:=Z
 have Hl:¬9223372036854775807<(iB i).size+1:=by have:=xa i;omega
 have Sx:ø ⟨#[97,98,99,100,101,102,103,104]⟩ i (i+1)=iB i:=U;obtain⟨ta,tc,rfl⟩:=jy d.fi;let⟨i0,r,x,y,z⟩:=í yV;have HI:=e8<|Á r<|Á x<|Á y z;have H:=e8<|Á d<|Á f<|Á g<|Á L o;clear d r x y z L o l m f g;go_wp2_with fail;go_region;go_wp2_with fail;go_region;go_wp2_with fail;go_region;go_wp2_with fail;refine Ý (Q:=Q2<|ve n j i w0 xs s t) ?_ (H.out.2.2.2.1 _ _ _ (gl _)<|(H.out.1).fG kp);rintro(_|(_|_|_|_)|_|_|_|_) a c hq;all_goals first|exact absurd hq id|skip
 let⟨Sy,C,B⟩:=hq;obtain⟨c,rfl⟩:=C;unfold tW;have D:=e8 B;clear B;go_wp2_with fail;exact H.out.2.2.2.2 _ _ _ (gl _) D.out
def ang(u:Nat->È)(d:gX w0 v xs w)(G:xs.length<=800)(I:i<8)(b l:Int)(p o:ByteArray)(J:(b==l)=Ú)(M:(p.toList==o.toList)=Ï)(q:w0.cell? ⟨n,i*18,Ä⟩=Ã (Â Æ b))(r:w0.cell? ⟨j,i*18,Ä⟩=Ã (Â Æ l))(h:w0.cell? ⟨n,i*18+1,Ä⟩=Ã (Í p))(k:w0.cell? ⟨j,i*18+1,Ä⟩=Ã (Í o)) (L:∀a e W,tX n j i e (0:Nat) a->gX w0 e (xs++[iB i++⟨#[123]⟩]) W->Î À (à xb) (Q2<|ve n j i w0 (xs++[iB i++⟨#[123]⟩]) s t) a W) (x:∀a e y,vd n j e ((i+1:Nat):Int) a->gX w0 e ((xs++[iB i++⟨#[123]⟩])++qj s t i 16) y->K a y): Î À yY (Exit.then K<|QQ X) (sk n j v i u) w:=by
 unfold sk;conv=>arg 2;whnf
 have N:=d.r.r q id;have O:=d.r.r r id;have P:=d.r.r h id;have S:=d.r.r k id;have T:(0:Int)<=(i:Int):=Z
 have V:(i:Int)<8:=Z
 have Y:Ë.wrap ((i:Int)+1)=(i:Int)+1:=by rw[ó];omega
 have C8:(0:Int)<=(i:Int)+1:=Z
 have yf:(i:Int)+1<=8:=Z
 have p9:(i:Int)<=(i:Int)+1:=Z
 have tE:((i:Int)+1).toNat=i+1:=Z
 have Hl:¬9223372036854775807<(iB i).size+1:=by have:=xa i;omega
 have Sx:ø ⟨#[97,98,99,100,101,102,103,104]⟩ i (i+1)=iB i:=U;obtain⟨ta,tc,rfl⟩:=jy d.fi;let⟨i0,z,B,C,D⟩:=í yV;have f:=e8<|Á z<|Á B<|Á C D;have H:=e8<|Á d<|Á h<|Á k<|Á L x;clear d z B C D L x q r h k;go_wp2_with fail;go_region;go_wp2_with fail;go_region;go_wp2_with fail;go_region;go_wp2_with (at_builtin;refine Bl (base:=w0.heap.size) (n:=xs.length) (xs:=kt xs) (m:=1) U _ _ 25 U ù f.out.1 f.out.2.1 f.out.2.2.1 f.out.2.2.2 U U ((H.out.1).fG kp).fi ⟨_,0,Ä⟩ [Í<|iB i++⟨#[123]⟩] U Z U (λc u g=>eZ.r (X:=e9) kp (ÿ w (Í<|iB i++⟨#[123]⟩) 9 c u g) id) (λu g=>by simp at g;subst g;rfl) (by unfold Ą;omega) Z ((H.out.1).fG kp).r.M ?_;intro E F c;obtain⟨ta2,tc2,rfl⟩:=jy c.fi;have g:=e8<|((H.out.1).fG kp).C c;clear c);refine Ý (Q:=Q2<|ve n j i w0 (xs++[iB i++⟨#[123]⟩]) s t) ?_ (H.out.2.2.2.1 _ _ _ (gl _)<|(g.out).fG kp);rintro(_|(_|_|_|_)|_|_|_|_) a c hq;all_goals first|exact absurd hq id|skip
 let⟨Sy,E,g⟩:=hq;obtain⟨c,rfl⟩:=E;unfold tW;have F:=e8 g;clear g;go_wp2_with fail;exact H.out.2.2.2.2 _ _ _ (gl _) F.out
def anh(u:Nat->È)(d:gX w0 v xs w)(I:xs.length<=800)(J:i<8)(b l:Int)(p o:ByteArray)(M:(b==l)=Ï)(N:(p.toList==o.toList)=Ú)(q:w0.cell? ⟨n,i*18,Ä⟩=Ã (Â Æ b))(r:w0.cell? ⟨j,i*18,Ä⟩=Ã (Â Æ l))(h:w0.cell? ⟨n,i*18+1,Ä⟩=Ã (Í p))(k:w0.cell? ⟨j,i*18+1,Ä⟩=Ã (Í o)) (L:∀a e W,tX n j i e (0:Nat) a->gX w0 e (xs++[iB i++⟨#[36]⟩]) W->Î À (à xb) (Q2<|ve n j i w0 (xs++[iB i++⟨#[36]⟩]) s t) a W) (x:∀a e y,vd n j e ((i+1:Nat):Int) a->gX w0 e ((xs++[iB i++⟨#[36]⟩])++qj s t i 16) y->K a y): Î À yY (Exit.then K<|QQ X) (sk n j v i u) w:=by
 unfold sk;conv=>arg 2;whnf
 have O:=d.r.r q id;have P:=d.r.r r id;have S:=d.r.r h id;have T:=d.r.r k id;have V:(0:Int)<=(i:Int):=Z
 have Y:(i:Int)<8:=Z
 have n8:Ë.wrap ((i:Int)+1)=(i:Int)+1:=by rw[ó];omega
 have C8:(0:Int)<=(i:Int)+1:=Z
 have yf:(i:Int)+1<=8:=Z
 have p9:(i:Int)<=(i:Int)+1:=Z
 have tE:((i:Int)+1).toNat=i+1:=Z
 have Hl:¬9223372036854775807<(iB i).size+1:=by have:=xa i;omega
 have Sx:ø ⟨#[97,98,99,100,101,102,103,104]⟩ i (i+1)=iB i:=U;have KM:(xs++[iB i++⟨#[36]⟩]).length=xs.length+1:=fh
 obtain⟨ta,tc,rfl⟩:=jy d.fi;let⟨i0,z,B,C,D⟩:=í yV;have f:=e8<|Á z<|Á B<|Á C D;have H:=e8<|Á d<|Á h<|Á k<|Á L x;clear d z B C D L x q r h k;go_wp2_with fail;go_region;go_wp2_with fail;go_region;go_wp2_with (at_builtin;refine Bl (base:=w0.heap.size) (n:=xs.length) (xs:=kt xs) (m:=1) U _ _ 25 U ù f.out.1 f.out.2.1 f.out.2.2.1 f.out.2.2.2 U U ((H.out.1).fG kp).fi ⟨_,0,Ä⟩ [Í<|iB i++⟨#[36]⟩] U Z U (λc u g=>eZ.r (X:=e9) kp (ÿ w (Í<|iB i++⟨#[36]⟩) 9 c u g) id) (λu g=>by simp at g;subst g;rfl) (by unfold Ą;omega) Z ((H.out.1).fG kp).r.M ?_;intro E F c;obtain⟨G,tc1,rfl⟩:=jy c.fi;have g:=e8<|((H.out.1).fG kp).C c;clear c);have d3:=g.out.r.r H.out.2.1 id;have d4:=g.out.r.r H.out.2.2.1 id;go_region;go_wp2_with fail;refine Ý (Q:=Q2<|ve n j i w0 (xs++[iB i++⟨#[36]⟩]) s t) ?_ (H.out.2.2.2.1 _ _ _ (gl _)<|(g.out).fG kp);rintro(_|(_|_|_|_)|_|_|_|_) a c hq;all_goals first|exact absurd hq id|skip
 let⟨Sy,F,E⟩:=hq;obtain⟨c,rfl⟩:=F;unfold tW;have G:=e8 E;clear E;go_wp2_with fail;exact H.out.2.2.2.2 _ _ _ (gl _) G.out
def ani(u:Nat->È)(f:gX w0 v xs w)(N:xs.length<=800)(O:i<8)(b q:Int)(p r:ByteArray)(P:(b==q)=Ï)(S:(p.toList==r.toList)=Ï)(x:w0.cell? ⟨n,i*18,Ä⟩=Ã (Â Æ b))(y:w0.cell? ⟨j,i*18,Ä⟩=Ã (Â Æ q))(k:w0.cell? ⟨n,i*18+1,Ä⟩=Ã (Í p))(l:w0.cell? ⟨j,i*18+1,Ä⟩=Ã (Í r)) (L:∀a g W,tX n j i g (0:Nat) a->gX w0 g ((xs++[iB i++⟨#[36]⟩])++[iB i++⟨#[123]⟩]) W->Î À (à xb) (Q2<|ve n j i w0 ((xs++[iB i++⟨#[36]⟩])++[iB i++⟨#[123]⟩]) s t) a W) (z:∀a g B,vd n j g ((i+1:Nat):Int) a->gX w0 g (((xs++[iB i++⟨#[36]⟩])++[iB i++⟨#[123]⟩])++qj s t i 16) B->K a B): Î À yY (Exit.then K<|QQ X) (sk n j v i u) w:=by
 unfold sk;conv=>arg 2;whnf
 have T:=f.r.r x id;have V:=f.r.r y id;have Y:=f.r.r k id;have c4:=f.r.r l id;have e0:(0:Int)<=(i:Int):=Z
 have e1:(i:Int)<8:=Z
 have n8:Ë.wrap ((i:Int)+1)=(i:Int)+1:=by rw[ó];omega
 have C8:(0:Int)<=(i:Int)+1:=Z
 have yf:(i:Int)+1<=8:=Z
 have p9:(i:Int)<=(i:Int)+1:=Z
 have tE:((i:Int)+1).toNat=i+1:=Z
 have Hl:¬9223372036854775807<(iB i).size+1:=by have:=xa i;omega
 have Sx:ø ⟨#[97,98,99,100,101,102,103,104]⟩ i (i+1)=iB i:=U;have G:(xs++[iB i++⟨#[36]⟩]).length=xs.length+1:=fh
 obtain⟨ta,tc,rfl⟩:=jy f.fi;let⟨i0,C,D,E,F⟩:=í yV;have e:=e8<|Á C<|Á D<|Á E F;have H:=e8<|Á f<|Á k<|Á l<|Á L z;clear f C D E F L z x y k l;go_wp2_with fail;go_region;go_wp2_with fail;go_region;go_wp2_with (at_builtin;refine Bl (base:=w0.heap.size) (n:=xs.length) (xs:=kt xs) (m:=1) U _ _ 25 U ù e.out.1 e.out.2.1 e.out.2.2.1 e.out.2.2.2 U U ((H.out.1).fG kp).fi ⟨_,0,Ä⟩ [Í<|iB i++⟨#[36]⟩] U Z U (λc u d=>eZ.r (X:=e9) kp (ÿ w (Í<|iB i++⟨#[36]⟩) 9 c u d) id) (λu d=>by simp at d;subst d;rfl) (by unfold Ą;omega) Z ((H.out.1).fG kp).r.M ?_;intro J I o;obtain⟨M,tc1,rfl⟩:=jy o.fi;have h:=e8<|((H.out.1).fG kp).C o;clear o);have d3:=h.out.r.r H.out.2.1 id;have d4:=h.out.r.r H.out.2.2.1 id;go_region;go_wp2_with (at_builtin;refine Bl (base:=w0.heap.size) (n:=(xs++[iB i++⟨#[36]⟩]).length) (xs:=kt<|xs++[iB i++⟨#[36]⟩]) (m:=1) U _ _ 25 U ù e.out.1 e.out.2.1 e.out.2.2.1 e.out.2.2.2 U U ((h.out).fG kp).fi ⟨_,0,Ä⟩ [Í<|iB i++⟨#[123]⟩] U Z U (λc u d=>eZ.r (X:=e9) kp (ÿ I (Í<|iB i++⟨#[123]⟩) 9 c u d) id) (λu d=>by simp at d;subst d;rfl) (by unfold Ą;omega) Z ((h.out).fG kp).r.M ?_;intro d o c;obtain⟨J,M,rfl⟩:=jy c.fi;have I:=e8<|((h.out).fG kp).C c;clear c);have d:=I.out;rw[G]at d;refine Ý (Q:=Q2<|ve n j i w0 ((xs++[iB i++⟨#[36]⟩])++[iB i++⟨#[123]⟩]) s t) ?_ (H.out.2.2.2.1 _ _ _ (gl _)<|(d).fG kp);rintro(_|(_|_|_|_)|_|_|_|_) a c hq;all_goals first|exact absurd hq id|skip
 let⟨Sy,J,o⟩:=hq;obtain⟨c,rfl⟩:=J;unfold tW;have M:=e8 o;clear o;go_wp2_with fail;exact H.out.2.2.2.2 _ _ _ (gl _) M.out
def DO(n j:Nat)(w0:É)(s t:St)(a:é)(w:É):Prop:=
 ∃(i:Nat) (v:È),vd n j v i a/\i<=8/\gX w0 v (qk s t i) w
def Sz(n j:Nat)(w0:É)(s t:St)(a:é)(w:É):Prop:=
 ∃(v:È),vd n j v (8:Nat) a/\gX w0 v (qk s t 8) w
def Hm(a:é)(_:É):Nat:=match a.tmps.getD 11 ā with
 |Â _ i=>8-i.toNat
 |_=>0
def A'(b:vd n j v i y):Hm y w=8-i:=by obtain⟨u,rfl⟩:=b;show 8-(i:Int).toNat=_;simp
def anj(B:lR n s h w0)(C:lR j t c w0)(a:é)(w:É)(E:DO n j w0 s t a w): Î À yY (Exit.then (λq g=>DO n j w0 s t q g/\Hm q g<Hm a w)<|QQ<|Sz n j w0 s t) a w:=by
 let⟨i,v,D,H,l⟩:=E;rw[A' D];obtain⟨u,rfl⟩:=D;by_cases F:i=8
 .subst F;exact ane u λa q=>⟨v,q,l⟩
 have k:i<8:=Z
 have I:=Sv s t i;let⟨m,o,_⟩:=B.gN k;let⟨p,r,_⟩:=C.gN k;have L:∀q:List ByteArray,q.length<=900->∀a b W,tX n j i b (0:Nat) a->gX w0 b q W->Î À (à xb) (Q2<|ve n j i w0 q s t) a W:=λq y a b W G z=>
  Ĉ (DJ n j i w0 q s t) Le ⟨0,b,G,Z,by show gX w0 b (q++[]) W;rwa[ò]⟩<|anc B C k y
 have x:∀q:List ByteArray,qk s t i++w7 (s i).fp (t i).fp (s i).r (t i).r i=q->∀a b g,vd n j b ((i+1:Nat):Int) a->gX w0 b (q++qj s t i 16) g->DO n j w0 s t a g/\Hm a g<8-i:=λq y a b g f z=>⟨⟨i+1,b,f,Z,by rwa[z_,yW,<-Ċ,y]⟩,by rw[A' f];omega⟩;by_cases d:(s i).fp=(t i).fp<;>by_cases e:(s i).r.toList=(t i).r.toList
 .exact anf u l Z k _ _ _ _ (by simpa using d) (by simpa using e) m p o r (L _ Z)<|x _<|by unfold w7;rw[if_pos d,if_pos e,ò,ò]
 .exact ang u l Z k _ _ _ _ (by simpa using d) (by simpa using e) m p o r (L _<|by rw[Ó];simp;omega)<|x _<|by unfold w7;rw[if_pos d,if_neg e,Ξ]
 .exact anh u l Z k _ _ _ _ (by simpa using d) (by simpa using e) m p o r (L _<|by rw[Ó];simp;omega)<|x _<|by unfold w7;rw[if_neg d,if_pos e,ò]
 .exact ani u l Z k _ _ _ _ (by simpa using d) (by simpa using e) m p o r (L _<|by rw[Ó,Ó];simp;omega)<|x _<|by unfold w7;rw[if_neg d,if_neg e,Ċ]
def ank(b:lR n s h w)(d:lR j t c w): Ò À 126 #[Å<|Ã ⟨n,0,Ä⟩,Å<|Ã ⟨j,0,Ä⟩] w λe a=>∃v,e=Ç v/\gX w v (qk s t 8) a:=by
 have L:∀a,vd n j (Ê Ä 0 0) (0:Nat) a->Î À (à yY) (QQ<|Sz n j w s t) a w:=λa f=>
  Ĉ (DO n j w s t) Hm ⟨0,_,f,â _,gX.M w<|eZ.fQ _ _⟩<|anj b d
 have H:=e8 L;clear L b d;go_enter Tryz.func126,Tryz.ntmps126;go_wp2_with fail;refine Ý (Q:=QQ<|Sz n j w s t) ?_ (H.out _ (gl _));rintro(_|(_|_)|_|_|_|_) a v hq;all_goals first|exact absurd hq id|skip
 let⟨k,g,e⟩:=hq;obtain⟨u,rfl⟩:=g;unfold sk;have i:=e8 e;clear e;go_wp2_with fail;go_ret;exact⟨_,U,i.out⟩
end
def anl:(À.info? 5).map (λi=>(i.zero,i.size,i.bytes))=Ã (Ã<|Â aT 0,1,1):=fl
theorem eZ.G(f:X p.block)(n:Nat):eZ X w (w.freeze p n):=by
 by_cases b:n=0
 .rw[Đ,if_pos b];exact eZ.fQ _ _
 rw[Đ,if_neg b];refine⟨fh,λk _ g=> ?_,λa i o h=> ?_,λ_ a=>by have:=ZC a p n;rwa[Đ,if_neg b]at this⟩
 .grind
 .simp only[Û]at h;split at h
  .cases d:w.heap[i]? with
   |none=>rw[d]at h;cases h
   |some e=>
    have:=a _ _ d;rw[d]at h;cases e with
    |cells c t z=>simp only[ñ,è]at h;subst h;exact λx=>x
    |_=>exact absurd trivial this
  .exact a i o h
def B_:(À.info? 109).map (·.size)=Ã 2:=fl
def anm:liesAt À À.depth 109 (2/À.cellsOf 109) 0 109 1=Ú:=fl
def ano(b:Nat)(w:É)(d:w.cell? ⟨b,0,Ä⟩=Ã (Å<|Ã ⟨b,0,Ä⟩)):Ò À 78 #[Å<|Ã ⟨b,0,Ä⟩] w λe a=>e=Ç (æ #[])/\a=w:=by let⟨j,c,_⟩:=Ì.1 B_;go_enter aI,aC;go_wp2;rw[Lib.run_neq_ptr_same w _ ĳ c];go_wp2;go_end0;exact⟨U,U⟩
def anp(b:Nat)(w:É)(g:w.cell? ⟨b,0,Ä⟩=Ã (Å Ä))(a:w.shape? b=Ã (109,2))(h:w.frozen? ⟨b,0,Ä⟩=Ï):Ò À 78 #[Å<|Ã ⟨b,0,Ä⟩] w λe d=>e=Ç (æ #[])/\d=w.setCell ⟨b,0,Ä⟩ (Å<|Ã ⟨b,0,Ä⟩):=by let⟨j,c,f⟩:=Ì.1 B_;go_enter aI,aC;go_wp2;rw[Lib.run_to_unsafe w ⟨b,0,Ä⟩ ĳ ŭ c (by rw[f];decide) a<|Nat.zero_lt_succ 1];simp only[į];rw[Ħ];go_wp2;rw[ţ Tryz.func129 fl fl fl fl];rw[Lib.run_noEscape];simp only[į];rw[Ħ];go_wp2;rw[Lib.run_from_unsafe w ⟨b,0,Ä⟩ ŭ ĳ c a anm];simp only[į];rw[Ħ];go_wp2;go_end0;exact⟨U,U⟩
theorem B'{base:Nat}{u h:õ}(j:P.underlying t=Ã (bl e))(k:P.underlying u=Ã .string)(p:P.info? e=Ã zJ)(G:zJ.zero=Ã (Â aT 0)) (D:zJ.size=1) (H:zJ.bytes=1) (E:w.ownsRow base e 1 v n l) (s:ByteArray) (J:n+s.size<=Ą) (Q:n+s.size<=140737488355328) (r:(Ō #[t,u] h #[v,Í s]).run P w=φ z W) (I:lM e=Ï):(jW w->jW W)/\(∀m,qT m w->qT m W):=by
 have S:n+s.size<=9223372036854775807:=by simp only[Ą]at J;omega
 have K:l.length=n:=by simpa using E.1
 rcases E.2 with⟨rfl,rfl⟩|⟨g,y,B,rfl,V,F,X,Y,L,htake⟩
 .by_cases C:s.size=0
  .have a:=Lib.run_firstCells_string (P:=P) w 1 s;rw[C]at a;simp[Ō,ř j,ř k,sizeOf,typeInfo,p,D,br,C,a]at r;grind
  .have b:=run_append_nil_string w t u h e zJ (Â aT 0) j k p G s Z Z (by rw[H];omega);rw[r]at b;cases b;exact⟨λa=>GK a _ _ _,λ_ a=>GM a _ _ _<|Ø I⟩
 .by_cases M:n+s.size<=y
  .have asr:B.size=y:=by simpa using L
   have b:=Lib.run_append_room_string w t u h e zJ j k p D g n y B F s M Z;rw[r]at b;cases b;refine⟨λa q o d=> ?_,λm a q c T N C d O=> ?_⟩
   .by_cases f:q=g
    .subst f;rw[ĝ w q B _ e _ F]at d;cases d;exact λx=>x
    .rw[ė w g q _ f]at d;exact a q o d
   .by_cases f:q=g
    .subst f;rw[ĝ w q B _ e _ F]at d;grind
    .rw[ė w g q _ f]at d;exact a q c T N C d O
  .have c:=E.cells U;have b:=Lib.run_append_grow_string w t u h e zJ (Â aT 0) j k p G ⟨g,0,Ä⟩ n y l (by rw[D];simpa using K) c s Z Z (by rw[H];exact ŕ Z Z);rw[r]at b;cases b;exact⟨λa=>GK a _ _ _,λ_ a=>GM a _ _ _<|Ø I⟩
def anq{P:Program}{ops:Array Oper}{rest:List Oper}{o:Oper}{a:Act}{Q:Exit->Act->World->Prop}{w:World}(Rl:o.guard=none)(sl x:Operand)(t u:TypeId) (ho:o.op=.call {callee:=.builtin .append,args:=#[sl,x],argTypes:=#[t,u]}) {base:Nat} {e:TypeId} {i:TypeInfo} (ht:P.underlying t=some (.slice e)) (hu:P.underlying u=some .string) (hi:P.info? e=some i) (hz:i.zero=some (.int .u8 0)) (wL:i.size=1) (wM:i.bytes=1) {v:Value} {n:Nat} {xs:List Value} (hs:a.eval sl=v) (kY:w.ownsRow base e 1 v n xs) (s:ByteArray) (hx:a.eval x=.string s) (Bm:n+s.size<=maxLen) (Bn:n+s.size<=140737488355328) (Bj:base<=w.heap.size) (h:∀v' w',w'.ownsRow base e 1 v' (n+s.size) (xs++Lib.strCells s)->eZ (λk=>v.ownBlock=some k) w w'->wpList P ops Q rest (a.put o.dst v') w') (hT:lM e=false:=by decide):wpList P ops Q (o::rest) a w:=by refine ű Rl λK hK=> ?_;let⟨v',w',hr,h2,h3,_⟩:=Lib.run_append_own_string w base t u o.type e i ht hu hi hz wL wM v n xs kY s Bm Bn Bj;have kp:eZ (λk=>v.ownBlock=Ã k) w w':=⟨h3.size,λk hk q=>h3.block k hk λe=>q e.symm,(B' ht hu hi hz wL wM kY s Bm Bn hr hT).1,(B' ht hu hi hz wL wM kY s Bm Bn hr hT).2⟩;unfold Ń Ĥ;simp only[ho,ae,aO,af,Ų,ų,Ĵ,ļ,Ť,Ŵ,hs,hx,hr];exact hK _ _<|h v' w' h2 kp
structure om(w0:É)(b:Nat)(bs:List È)(w:É):Prop where
 I:w0.heap.size<=b
 r:eZ e9 w0 w
 C:∃v,fe b [Å<|Ã ⟨b,0,Ä⟩,v] 109 w/\w.ownsRow w0.heap.size 5 1 v bs.length bs
def om.fG(h:om u b l w)(k:eZ e9 w W):om u b l W:=by let⟨v,a,c⟩:=h.C;exact⟨h.I,h.r.fc k,v,a.I k id,gW c k λ_ _=>id⟩
theorem SA(h:om u b l w)(s:ByteArray)(m:l.length+s.size<=140737488355328): Ò À 55 #[Å<|Ã ⟨b,0,Ä⟩,Í s] w λe i=>e=Ç (æ #[Â Ë s.size,.nilIface])/\om u b (l++Lib.strCells s) i:=by
 let⟨B,c,n,o,p⟩:=í anl;let⟨v,a,d⟩:=h.C;obtain⟨C,D,rfl⟩:=jy d;have t:=a.r 0 _ U;have E:=a.r 1 _ U;have x:=h.r.M;have y:=jo d a A;have H:=e8<|Á h<|Á c<|Á n<|Á o<|Á p<|Á a d;go_enter Tryz.func55,Tryz.ntmps55;go_wp2_with (first
  |(go_at_call 78;refine(ano b _ t).mono ?_;rintro e i ⟨rfl,j⟩;subst i)
  |(at_builtin;refine anq U _ _ 107 9 U ý đ H.out.2.1 H.out.2.2.1 H.out.2.2.2.1 H.out.2.2.2.2.1 U H.out.2.2.2.2.2.2 s U (by unfold Ą;omega) m x ?_;intro g f j k;obtain⟨q,r,rfl⟩:=jy j;have i:=H.out.2.2.2.2.2.1.I k y;have z:=i.r 0 _ U;have F:=i.r 1 _ U;have G:=i.C 1;have e:=e8 (Á k (Á i j));clear k i j))
 go_ret2;have z:=e.out.2.1.fX 1<|Ê q (l.length+s.size) r;have g:eZ (λk=>k=b) f (f.setCell ⟨b,1,Ä⟩<|Ê q (l.length+s.size) r):=eZ.I (X:=λk=>k=b) U _<|Ù e.out.2.1.G;refine⟨U,H.out.1.I,(H.out.1.r.C e.out.1 λi c q=> ?_).C g λi c q=> ?_,_,z,?_⟩
 .have:=(H.out.2.2.2.2.2.2.lt i q).1;omega
 .have:=H.out.1.I;omega
 .have:=gW e.out.2.2 g λj q r=>jo e.out.2.2 e.out.2.1 A (by rw[q,r]);grind [Ó,Lib.strCells_length]
def anr:(À.info? 5).map (·.size)=Ã 1:=fl
def ant:À.cellsOf 5=1:=fl
structure Hn(w0:É)(b:Nat)(p:È)(w:É):Prop where
 C:w0.heap.size<=b
 I:eZ e9 w0 w
 r:fe b [p,Ê Ä 0 0] 109 w
section
variable{w0:É}{p:È}
def Hn.Cx(h:Hn w0 b (Å<|Ã ⟨b,0,Ä⟩) w)(f:d.size<=Ą):om w0 b [] ((w.alloc<|Ð d 5).setCell ⟨b,1,Ä⟩<|Ê (Ã ⟨w.heap.size,0,Ä⟩) 0 d.size).drew.drew.drew:=by have a:=eZ.gC e9 w d 5;have c:eZ (λk=>k=b) (w.alloc<|Ð d 5) ((w.alloc<|Ð d 5).setCell ⟨b,1,Ä⟩<|Ê (Ã ⟨w.heap.size,0,Ä⟩) 0 d.size):=eZ.I (X:=λk=>k=b) U _<|Ù (h.r.I a id).G;have k:=(h.r.I a id).fX 1<|Ê (Ã ⟨w.heap.size,0,Ä⟩) 0 d.size;have m:=h.r.M;have g:(w.alloc<|Ð d 5).ownsRow w0.heap.size 5 1 (Ê (Ã ⟨w.heap.size,0,Ä⟩) 0 d.size) 0 []:= ⟨U,Ù ⟨w.heap.size,d.size,d,U,h.I.M,ì w _,â _,f,fh,fh⟩⟩;have l:om w0 b [] ((w.alloc<|Ð d 5).setCell ⟨b,1,Ä⟩<|Ê (Ã ⟨w.heap.size,0,Ä⟩) 0 d.size):= ⟨h.C,(h.I.fc a).C c λi n q=>by have:=h.C;omega,_,k,gW g c λj q r=>by cases q;have e:w.heap.size=b:=r;omega⟩;exact((l.fG<|eZ.fN _ _).fG<|eZ.fN _ _).fG<|eZ.fN _ _
theorem anu(h:Hn w0 b (Å<|Ã ⟨b,0,Ä⟩) w)(n:Nat)(j:n<=281474976710656): Ò À 79 #[Å<|Ã ⟨b,0,Ä⟩,Â Ë n] w λe c=>e=Ç (æ #[])/\om w0 b [] c:=by
 let⟨a,g,o,k⟩:=Lib.run_makeNoZero w.drew #[3] 107 5 ý n j;have i:Ë.wrap (Ë.wrap 0+(n:Int))=n:=by grind [ó]
 have p:(callFunc 130 #[Â Ë<|Ë.wrap<|Ë.wrap 0+(n:Int)]).run À w.drew=φ (.value<|Ê (Ã ⟨w.drew.heap.size,0,Ä⟩) n a.size) (w.drew.drew.drew.alloc<|Ð a 5):=by rw[i,ţ Tryz.func130 fl fl fl fl,g];rfl
 have e:=e8 (Á (show w.drew.cell? ⟨b,1,Ä⟩=Ã (Ê Ä 0 0)from h.r.r 1 _ rfl) trivial);have d:=h.r.I (eZ.gC e9 w a 5) id;have l:=d.r 1 _ U;have f:=l;have q:=d.C 1;have r:∀W:É,(ν #[107,107] 3 #[Ê (Ã ⟨w.heap.size,0,Ä⟩) 0 a.size,Ê Ä 0 0]).run À W=φ (goInt 0) W:= λW=>run_copy_none W 107 107 3 5 _ _ 0 a.size 0 0 ý anr U;have m:=e8 (h.Cx<|k<|by unfold Ą;omega);clear i h d g;go_enter Tryz.func79,Tryz.ntmps79;go_wp2;refine lP (λc=>c.cell? ⟨b,1,Ä⟩=Ã (Ê Ä 0 0)/\True) [] fl ?_;iterate 8 apply tk e.out
 apply tk e.out 9;apply tk e.out 10;apply tk e.out 11;apply tk e.out 12;apply tk e.out 13;refine gu 8 ?_;intro K c;go_simp;refine c.out _ _ (λ_=>⟨f,trivial⟩) ?_;refine gu 14 ?_;intro K c;go_simp;refine c.out _ _ (λ_=>⟨f,trivial⟩) ?_;refine gu 15 ?_;intro K c;go_simp;refine c.out _ _ (λ_=>⟨f,trivial⟩) ?_;refine lA fl ?_ _;go_wp2;go_end0;exact⟨U,m.out⟩
def anv(h:Hn w0 b (Å Ä) w)(n:Nat)(l:0<n)(d:n<=281474976710656): Ò À 54 #[Å<|Ã ⟨b,0,Ä⟩,Â Ë n] w λe a=>e=Ç (æ #[])/\om w0 b [] a:=by
 have f:w.shape? b=Ã (109,2):=by have i:w.heap[b]?=_:=h.r;simp[Ÿ,i]
 have c:=e8 (show Hn w0 b (Å<|Ã ⟨b,0,Ä⟩) (w.setCell ⟨b,0,Ä⟩<|Å<|Ã ⟨b,0,Ä⟩).drew from⟨h.C,(h.I.C (eZ.I (X:=λk=>k=b) U _<|Ù h.r.G) λi k q=>by have:=h.C;omega).fc<|eZ.fN _ _,(h.r.fX 0 _).I (eZ.fN e9 _) id⟩);have k:=e8<|Á (c.out.r.r 1 _ rfl) trivial;have q:=h.r.r 0 _ U;have g:=h.r.C 0;have m:¬((n:Int)<0):=Z
 have o:(0:Int)<(n:Int):=Z
 have p:Ë.wrap 0<(n:Int):=by rw[ó];omega
 go_enter Tryz.func54,Tryz.ntmps54;go_wp2_with (go_at_call 78;refine(anp b w q f g).mono ?_;rintro e a ⟨rfl,i⟩;subst a);refine lP (λa=>a.cell? ⟨b,1,Ä⟩=Ã (Ê Ä 0 0)/\True) [] fl ?_;iterate 13 apply tk k.out
 refine lA fl ?_ _;go_wp2_with (go_at_call 79;refine(anu c.out n d).mono ?_;rintro e a ⟨rfl,i⟩;have j:=e8 i;clear i);go_end0;exact⟨U,j.out⟩
def anw{l:List UInt8}(h:om w0 b (ô l) w)(d:l≠[]): Ò À 56 #[Å<|Ã ⟨b,0,Ä⟩] w λe K=>e=Ç (Í ⟨l.toArray⟩)/\eZ e9 w0 K:=by
 let⟨v,f,c⟩:=h.C;have n:l.length≠0:=by simpa using d
 rw[Ř]at c;obtain⟨g,e,a,rfl,t,o,u,s,y,z⟩:∃g e a,v=Ê (Ã ⟨g,0,Ä⟩) l.length e/\w0.heap.size<=g/\w.heap[g]?=Ã (Ð a 5 (0,0))/\l.length<=e/\e<=Ą/\a.size=e*1/\a.toList.take (l.length*1)=ô l:=by
  rcases c.2 with⟨_,i⟩|⟨g,e,a,j,r⟩
  .exact absurd i n
  .exact⟨g,e,a,j,r⟩
 have m:=e8 (Á (show w.drew.cell? ⟨b,1,Ä⟩=Ã (Ê (Ã ⟨g,0,Ä⟩) l.length e)from f.r 1 _ rfl) trivial);have B:∀W:É,(υ #[107] 177 #[Ê (Ã ⟨g,0,Ä⟩) l.length e]).run À W=φ (Å<|Ã ⟨g,0,Ä⟩) W:=λW=>
  Lib.run_unsafeSliceData_row _ _ _ _ _ _ Z
 have C:(Ő #[177,3] 9 #[Å<|Ã ⟨g,0,Ä⟩,Â Ë l.length]).run À w.drew=φ (Í ⟨l.toArray⟩) (w.drew.freeze ⟨g,0,Ä⟩ l.length):=by refine Ĺ w.drew 177 3 9 5 Ū ant g a.size (by have i:w.drew.heap[g]?=Ã (Ð a 5 (0,0)):=o;simp[Ÿ,i]) l d Z (by unfold Ą at s;omega) ?_;intro j x i;have:=c.cells U j (Â aT x.toNat) (by simp[ô,i]);exact this
 have x:=e8 ((h.r.fc<|eZ.fN _ _).C (eZ.G (X:=λk=>k=g) (p:=⟨g,0,Ä⟩) U l.length) λi j q=>by omega);have j:=e8 (Á ((eZ.G (X:=λk=>k=g) (p:=⟨g,0,Ä⟩) rfl l.length).r m.out.1 λq=>jo c f A<|by show Ã g=Ã b;rw[show g=b from(show b=g from q).symm]) trivial);go_enter Tryz.func56,Tryz.ntmps56;go_wp2;refine lP (λK=>K.cell? ⟨b,1,Ä⟩=Ã (Ê (Ã ⟨g,0,Ä⟩) l.length e)/\True) [] fl ?_;iterate 10 apply tk m.out
 apply gu 10;intro K i;go_simp;apply i.out _ _ λ_=>j.out;apply gu 11;intro K i;go_simp;apply i.out _ _ λ_=>j.out;refine lA fl ?_ _;go_wp2;go_ret;exact⟨U,x.out⟩
end
end Go.Proofs.Y.iz
