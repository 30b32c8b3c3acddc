import Derived.Test.YtgpphkdoanciiaaGreatDoorWAC
import Derived.Test.YtgpphkdoanciiaaGreatDoorChecked
import Derived.WalkKit
import Derived.WalkSpells
import Derived.WalkLawsBesides
import Derived.Deep.Light
import Derived.Maps.AppendAt
import Derived.RegionTactic
import Derived.Deep.RegionWith
import Derived.Deep.QuietTactic
import Derived.BigQuiet
import Derived.Deep.RegionHeld3
import Derived.WalkMore
import Derived.Deep.MidRow
import Derived.Great.Walk
import Derived.Lib.UnsafeStr
import Derived.Lib.BufferWrite
import Derived.Laws.Tables
import Derived.Laws.Bits64
import Derived.Shelf.Strconv.Itoa0
import Derived.Shelf.Strconv.Itoa1
import Derived.Shelf.LaysM
import Derived.Shelf.Strconv.Itoa2
import Derived.Shelf.Strconv.Itoa3
import Derived.Shelf.Strings.Repeat
import Derived.Shelf.Strings.OnBuilder
import Derived.Shelf.Strconv.Clone
import Derived.Shelf.Strings.Prefix
import Derived.Shelf.Bits.Mul64
import Derived.Test.YtgpphkdoanciiaaGreatDoorProg
import Derived.Lib.ItoaLen
set_option linter.all false
set_option maxRecDepth 1000000
set_option maxHeartbeats 8000000
open Go.Proofs.Tryz renaming prog->À,ntmps205->å,func205->ê,underlying25->ù,underlying107->ý,underlying9->đ,underlying3->Ě,underlying4->ě,zeroValue3->ħ,zeroValue4->Ĩ,zeroValue9->ĩ,underlying106->ĳ,underlying36->ĸ,ntmps170->ĺ,zeroValue36->ŀ,func170->Ņ,ntmps66->Ň,sizeOf3->ň,sizeOf4->ŉ,sizeOf9->Ŋ,func66->ś,isAgg3->Ŝ,isAgg4->ŝ,isAgg9->Ş,ntmps154->ť,ntmps113->Ŧ,sizeOf36->ŧ,underlying177->Ū,underlying168->Ŭ,underlying170->ŭ,func154->Ź,func187->ź,func113->Ż,zeroValue168->Ž,isAgg36->ž,underlying95->ſ,underlying0->Δ,underlying5->Ε,zeroValue95->Ζ,zeroValue0->Ρ,zeroValue5->Τ,sizeOf168->ε,ntmps209->η,ntmps210->θ,ntmps168->κ,ntmps196->ξ,ntmps169->ο,ntmps187->π,isAgg168->ρ,sizeOf95->ς,ntmps172->σ,func209->ag,func210->ai,func168->ak,func196->ar,func169->au,sizeOf0->ax,sizeOf5->ay,isAgg95->aA,func172->aB,ntmps78->aC,isAgg0->aG,isAgg5->aH,func78->aI,f161->aY
open And renaming intro->Á
open Go.Value renaming int->Â,pointer->Å,slice->Ê,string->Í,bool->Ñ,tuple->æ,agg->Ē,cells->ğ,ownBlock->Į
open Option renaming some->Ã,none->Ä,map_eq_some_iff->Ì,map_some->ñ,isSome_none->ũ,map->ū
open Go.IntKind renaming u64->Æ,i64->Ë,wrap_i64->ó,u8->aT,wrap_u64->aX
open Go.Ending renaming returned->Ç
open Go renaming Value->È,World->É,Calls->Ò,Act->é,heap_alloc_new->ì,info_parts->í,bodyPost_ret->ð,TypeId->õ,cell_one_new->ÿ,undef->ā,Addr->ă,maxLen->Ą,wp_loop->Ĉ,setRow_other->ė,setRow_heap->ĝ,execOp->Ĥ,wpList_load_mid->ĥ,all_oneCell_toArray->Ī,wpList_store_mid->ľ,Code->ŏ,grownCap->Œ,growslice_fits->ŕ,run_underlying->ř,Oper->ş,run_callFunc_extern->ţ,Operand->Ů,wpList_plain->ű,cell_two_new->ŵ,grownCap_ge->Θ,run_append_grow->Λ,run_loadVar_mid->Ν,ready_mono->Ω,wpOp_step->χ,resolve->ae,builtin->af,yielded->ah,results->aj,Ending->av,Program->aE,invoke->aO,wpList->aQ,Exit->aS
open Go.Code renaming wp->Î,wp_mono->Ý,loop->à,skip->Ķ
open Bool renaming false->Ï,true->Ú,false_eq_true->ĭ
open Go.Obj renaming cells->Ð
open List renaming length_append->Ó,getElem?_eq_getElem->Ô,setIfInBounds_toArray->Õ,getElem?_eq_some_iff->Ü,eq_nil_of_length_eq_zero->ß,set_cons_zero->ã,set_cons_succ->ä,getElem?_append_left->ç,append_nil->ò,mem_append->ú,getElem?_range->û,getElem?_append_right->ü,ext_getElem?->þ,size_toArray->ć,append_assoc->Ċ,range->ċ,drop_eq_getElem_cons->ē,length_set->ĕ,drop_eq_nil_of_le->Ę,set_append_left->Ğ,mem_of_getElem?->Ġ,getD_eq_getElem?_getD->Ĳ,getElem?_map->ķ,map_toArray->ļ,length_cons->Ľ,mem_map->ņ,range_succ->Ŏ,mem_append_left->œ,getElem?_set_ne->Ŗ,mem_cons_of_mem->Ś,flatMap_append->Ţ,map_cons->Ť,map_nil->Ŵ,take_add_one->Α,mem_flatMap->Β,length_nil->Μ,nil_append->Ξ,length_map->Ο,map_append->Υ
open Int renaming le_refl->Ö,toNat_of_nonneg->Ĕ,toNat_natCast->Ŷ,le_trans->ŷ
open Or renaming inl->Ø,inr->Ù
open Array renaming getElem?_modify->Û,size_replicate->Ď,getD_eq_getD_getElem?->ī,replicate->ō,toList_append->Š,length_toList->š,size_append->Ű
open Nat renaming le_refl->Þ,zero_le->â,le_trans->ë,le_add_right->Ŀ,zero_add->ł,add_mul->ő,mul_le_mul_right->Ŕ,mul_one->ŗ,lt_of_lt_of_le->Ũ,lt_or_ge->ů,mod_lt->aN
open Go.World renaming block_lt_of_cell?->á,alloc->Ă,setCell->ą,ownsRow_nil->ĉ,drew->Č,freeze->Đ,shape?->Ÿ,cell?->Η
open Option.some renaming injEq->è
open Go.Operand renaming tmp->î,func->bg
open Go.Ground renaming data->ï
open Go.Lib renaming byteCells->ô,nDigits->č,zeros24->ġ,decDigits_length->Ģ,run_unsafeString_row->Ĺ,decDigits->Ļ,byteCells_length->Ř,TabIs->ω,pow10Tab->az
open Go.Builtin renaming zeroCells->ö,append_->Ō,unsafeString_->Ő,copy_->ν,unsafeSliceData_->υ,min->bm,lenOf->br
open ByteArray renaming extract->ø,size_extract->ŋ,ext->bn
open Go.Region renaming ready->Ā,wanted->Ĝ,binds->ń,Mode->Ι
open Go.Great renaming wpList_runTo->Ć
open Go.RowKit.Below renaming heap_alloc->ď,heap_setCell->Ė
open False renaming elim->ę
open Go.Obj.cells renaming injEq->ģ
open Go.Oper renaming upon_value->Ħ,wp->Ń
open Go.Shelf renaming Ren->Ĭ
open Go.Result renaming andThen->į,andThen_ok->Ĵ,ok->φ
open Go.TypeDesc renaming isRow->İ,slice->bl
open Go.Instr renaming fill->ı,index->Κ
open Go.Act renaming put->ĵ
open Go.Sort renaming mapBlock->Ł,putRow->ζ
open Go.Sem renaming run_bind->Ų,run_pure->ų
open Go.Op renaming build->Χ,call->aD,alloc->bh
open Go.Proofs.Lays renaming n283->aJ,n285->aK,n212->aL,n99->aR
variable{i n j b k m J j9 j7 j6:Nat}{w u W jX:É}{v x z jQ:È}{a p:ă}{h c:Int}{e t T:õ}{d q:Array È}{P:aE}{y:é}{B:ByteArray}{X:Nat->Prop}{O:Option ă}{l:List È}{yQ:Bool}{K H:é->É->Prop}{o:ş}{D:Nat->Nat}{jJ:List Nat}{qQ:Ů}{zQ:List Int}{zJ:Go.TypeInfo}{xX:Ů->È}{xJ:Nat×Nat}{vX:List ByteArray}{vJ:aS->é->É->Prop}{s:Go.Func}
namespace Go.Proofs.Y.iy
open Go Go.Proofs Go.RowKit Go.Proofs.Y.Lift
def e7{p:Prop}(h:p):Hid p:=h
def YQ{b:Bool}(h:yQ=b):Ç (Ñ yQ)=Ç (Ñ b):=by rw[h]
def Dz{k:IntKind}{b:Int}(h:c=b):Ç (Â k c)=Ç (Â k b):=by rw[h]
def YR{b:ByteArray}(h:B=b):Ç (Í B)=Ç (Í b):=by rw[h]
def jY:È->Bool
 |Â aT _=>Ï
 |Â _ _=>Ú
 |Ñ _=>Ú
 |_=>Ï
def lI(T:õ):Bool:=T==257||T==246
def rB(m:Nat)(w:É):Prop:=∀(b:Nat) (c:Array È) (T:õ) (v:Nat×Nat),m<=b->w.heap[b]?=Ã (Ð c T v)->lI T=Ú->0<c.size/\∀v∈c.toList,jY v=Ú
def NF(b:Nat)(w:É):Prop:=∀(c:Array È) (T:õ) (a:Nat×Nat),w.heap[b]?=Ã (Ð c T a)->lI T=Ï
structure eZ(X:Nat->Prop)(w w':É):Prop where
 M:w.heap.size<=w'.heap.size
 N:∀k,k<w.heap.size->¬X k->w'.heap[k]?=w.heap[k]?
 gM:jU w->jU w'
 Y:∀m,rB m w->rB m w'
section
variable{Y:Nat->Prop}{w' d:É}
theorem eZ.fO(X:Nat->Prop)(w:É):eZ X w w:=⟨Þ _,λ_ _ _=>rfl,id,λ_=>id⟩
def eZ.e8(h:eZ X W jX)(k:eZ X jX d):eZ X W d:= ⟨ë h.M k.M,λi b c=>(k.N i (Ũ b h.M) c).trans<|h.N i b c,λa=>k.gM<|h.gM a,λm a=>k.Y m<|h.Y m a⟩
def eZ.S(h:eZ X w w')(b:∀k,k<w.heap.size->X k->Y k):eZ Y w w':= ⟨h.M,λk a c=>h.N k a λx=>c<|b k a x,h.gM,h.Y⟩
def eZ.C(h:eZ X W jX)(k:eZ Y jX d)(e:∀i,i<W.heap.size->Y i->X i):eZ X W d:= ⟨ë h.M k.M,λi b c=>(k.N i (Ũ b h.M) λy=>c<|e i b y).trans<|h.N i b c,λa=>k.gM<|h.gM a,λm a=>k.Y m<|h.Y m a⟩
def ajw(a:jU w)(p:ă)(v:È):jU (w.setCell p v):=by
 intro i o h;by_cases e:i=p.block
 .subst e;unfold ą at h;simp only[Û,if_true]at h;cases b:w.heap[p.block]? with
  |none=>rw[b]at h;cases h
  |some d=>
   have:=a _ _ b;rw[b]at h;cases d with
   |cells c t z=>simp only[ñ,è]at h;subst h;exact λx=>x
   |_=>exact absurd trivial this
 .rw[Ė _ _ _ _ (by simpa using e)]at h;exact a i o h
theorem GR(a:jU w)(b:Array È)(t:õ)(z:Nat×Nat):jU (w.alloc<|Ð b t z):=by
 intro i o h;by_cases e:i<w.heap.size
 .rw[ď _ _ _ e]at h;exact a i o h
 .by_cases c:i=w.heap.size
  .subst c;rw[ì]at h;cases h;exact λx=>x
  .have:(w.alloc<|Ð b t z).heap.size<=i:=by simp;omega
   grind
def ajx(a:rB m w)(p:ă)(v:È)(f:jY v=Ú\/NF p.block w):rB m (w.setCell p v):=by
 intro i c T k g h b;by_cases e:i=p.block
 .subst e;unfold ą at h;simp only[Û,if_true]at h;cases d:w.heap[p.block]? with
  |none=>rw[d]at h;cases h
  |some l=>
   rw[d]at h;cases l with
   |cells o t z=>
    simp only[ñ,è,ģ]at h;obtain⟨n,rfl,rfl⟩:=h;rcases f with f|f
    .subst n;split
     .exact a _ _ _ _ g d b
     .refine⟨by rw[Array.size_setIfInBounds];exact(a _ _ _ _ g d b).1,λu j=> ?_⟩;rw[Array.toList_setIfInBounds]at j;rcases List.mem_or_eq_of_mem_set j with q|q
      .exact(a _ _ _ _ g d b).2 u q
      .rwa[q]
    .rw[f _ _ _ d]at b;cases b
   |_=>cases h
 .rw[Ė _ _ _ _ (by simpa using e)]at h;exact a i c T k g h b
theorem GU(a:rB m w)(b:Array È)(t:õ)(z:Nat×Nat)(j:lI t=Ï\/0<b.size/\∀v∈b.toList,jY v=Ú):rB m (w.alloc<|Ð b t z):=by
 intro i c T d f h g;by_cases e:i<w.heap.size
 .rw[ď _ _ _ e]at h;exact a i c T d f h g
 .by_cases k:i=w.heap.size
  .grind [ì]
  .have:(w.alloc<|Ð b t z).heap.size<=i:=by simp;omega
   grind
def eZ.I{p:Addr}(hx:X p.block)(v:Value)(hv:jY v=true\/NF p.block w:=by first|exact Or.inl (by rfl)|exact Or.inr<|by assumption):eZ X w (w.setCell p v):= ⟨fg,λk _ hk=>Ė _ _ _ _ (by intro e;subst e;exact hk hx),λa=>ajw a p v,λ_ a=>ajx a p v hv⟩
def eZ.gB(X:Nat->Prop)(w:World)(cs:Array Value)(t:TypeId)(hf:lI t=false\/0<cs.size/\∀v∈cs.toList,jY v=true:=by first|exact Or.inl (by decide)|exact Or.inr ⟨by simp,by simp[jY]⟩):eZ X w (w.alloc<|.cells cs t):= ⟨fg,λk hk _=>ď _ _ _ hk,λa=>GR a cs t (0,0),λ_ a=>GU a cs t (0,0) hf⟩
def eZ.iH(X:Nat->Prop)(w:É)(n:Nat):eZ X w (w.drewN n):=⟨Þ _,λ_ _ _=>rfl,id,λ_=>id⟩
def eZ.fM(X:Nat->Prop)(w:É):eZ X w w.drew:=⟨Þ _,λ_ _ _=>rfl,id,λ_=>id⟩
def kp{X:Nat->Prop}{w w':World}(h:eZ X w w':=by repeat' (first|(with_reducible exact eZ.fO _ _)|(with_reducible refine eZ.e8 ?_<|eZ.iH _ _ _)|(with_reducible refine eZ.e8 ?_<|eZ.fM _ _)|(with_reducible refine eZ.e8 ?_<|eZ.gB _ _ _ _))):eZ X w w':=h
def eZ.r(h:eZ X w w')(b:w.cell? a=Ã v)(c:¬X a.block):w'.cell? a=Ã v:=by rwa[World.cell?_of_block<|h.N _ (á w a b) c]
end
def GV{u:È}(h:j≠b):(w.setCell ⟨j,i,Ä⟩ u).cell? ⟨b,n,Ä⟩=w.cell? ⟨b,n,Ä⟩:= World.cell?_setCell_other _ _ _ _<|by intro e;injection e with e1 e2;exact h e1
def fc(j:Nat)(vs:List È)(T:õ)(w:É):Prop:=w.heap[j]?=Ã (Ð vs.toArray T (0,0))
section
variable{vs:List È}{w':É}
def fc.N(w:É)(vs:List È)(T:õ):fc w.heap.size vs T (w.alloc<|Ð vs.toArray T):=ì w _
def fc.M(h:fc j vs T w):j<w.heap.size:=by
 rcases ů j w.heap.size with a|a
 .exact a
 .unfold fc at h;rw[Array.getElem?_eq_none a]at h;cases h
def fc.r(h:fc j vs T w)(i:Nat)(v:È)(a:vs[i]?=Ã v):w.cell? ⟨j,i,Ä⟩=Ã v:=by unfold fc at h;simp only[Η,h,ũ,ĭ,if_false,List.getElem?_toArray];exact a
def fc.C(h:fc j vs T w)(i:Nat):w.frozen? ⟨j,i,Ä⟩=Ï:=by unfold fc at h;simp[World.frozen?,h]
def fc.zH(h:fc j vs T w)(e:w'.heap[j]?=w.heap[j]?):fc j vs T w':=by unfold fc;rwa[e]
def fc.I(h:fc j vs T w)(k:eZ X w w')(a:¬X j):fc j vs T w':=h.zH<|k.N j h.M a
theorem fc.fW(h:fc j vs T w)(i:Nat)(u:È):fc j (vs.set i u) T (w.setCell ⟨j,i,Ä⟩ u):=by unfold fc at h|-;unfold ą;grind
def fc.G(h:fc j vs T w)(hT:lI T=false:=by decide):NF j w:=λc T' fr q=>by unfold fc at h;rw[h]at q;cases q;exact hT
theorem fc.S(h:fc j vs T w)(k:fc i l e w)(a:T≠e):j≠i:=by rintro rfl;unfold fc at h k;grind
end
section
variable{w':É}{base:Nat}{size:Nat}{xs:List È}
def ajy(h:w.ownsRow base e size v n xs)(k:∀j,v.ownBlock=Ã j->w'.heap[j]?=w.heap[j]?):w'.ownsRow base e size v n xs:=by
 let⟨c,a⟩:=h;refine⟨c,?_⟩;rcases a with a|⟨g,d,f,b,i,l,r⟩
 .exact Ø a
 .refine Ù ⟨g,d,f,b,i,?_,r⟩;rw[k g (by rw[b];rfl)];exact l
def gV(h:w.ownsRow base e size v n xs)(k:eZ X w w')(b:∀j,v.ownBlock=Ã j->¬X j):w'.ownsRow base e size v n xs:= ajy h λj a=>k.N j (h.lt j a).2<|b j a
theorem jx(h:w.ownsRow base e size v n xs):∃a c,v=Ê a n c:=by rcases h.2 with⟨b,d⟩|⟨g,f,i,b,_⟩;all_goals grind
theorem lr(h:w.ownsRow base e size v n xs)(a:v.ownBlock=Ã j):∃b,w.heap[j]?=Ã (Ð b e (0,0)):=by
 rcases h.2 with⟨c,_⟩|⟨g,f,b,c,_,d,_⟩
 .rw[c]at a;cases a
 .rw[c]at a;cases a;exact⟨b,d⟩
theorem jl(h:w.ownsRow base e size v n xs)(k:fc j l T w)(a:e≠T):v.ownBlock≠Ã j:=by intro q;let⟨b,c⟩:=lr h q;unfold fc at k;grind
theorem ajz(h:w.ownsRow base e size v n xs)(k:w.ownsRow i t b x m l)(a:e≠t)(c:v.ownBlock=Ã j):x.ownBlock≠Ã j:=by grind [lr]
theorem Rc{n:Nat}(h:v∈(ö d n).toList):v∈d.toList:=by unfold ö at h;grind [Array.toList_map,getElem,aN]
structure pD(w:É)(base:Nat)(e:õ)(size:Nat)(v:È)(n:Nat)(xs:List È)(m:Nat)(news:List È)(v':È)(w':É):Prop where
 fh:w'.ownsRow base e size v' (n+m) (xs++news)
 r:eZ (λk=>v.ownBlock=Ã k) w w'
 C:v'.ownBlock=v.ownBlock\/v'.ownBlock=Ã w.heap.size
 I:∀v0 n0 wU,w.ownsRow base e size v0 n0 wU->(v0.ownBlock=v.ownBlock->n0<=n)->w'.ownsRow base e size v0 n0 wU
def pD.ajA(c:w.ownsRow base e size v n xs)(f:l.length=m*size)(g:base<=w.heap.size)(j:n+m<=i)(o:i<=Ą)(p:d.size=i*size)(q:d.toList.take ((n+m)*size)=xs++l)(r:lI e=Ï\/0<d.size/\∀v∈d.toList,jY v=Ú): pD w base e size v n xs m l (Ê (Ã ⟨w.heap.size,0,Ä⟩) (n+m) i) (w.drew.alloc<|Ð d e):=by have b:∀X,eZ X w (w.drew.alloc<|Ð d e):=λX=>⟨fg,λk s _=>ď _ _ _ s,λa=>GR a d e (0,0),λ_ a=>GU a d e (0,0) r⟩;refine⟨⟨by rw[Ó,c.1,f,ő],Ù ⟨w.heap.size,i,d,U,g,ì w.drew _,j,o,p,q⟩⟩,b _,Ù U,λt u x h _=>gV h (b λ_=>False) λ_ _=>id⟩
theorem Re{ty:õ}{bytes:Nat}(F:P.underlying t=Ã (bl e))(G:P.info? e=Ã zJ)(Q:zJ.zero=Ã z) (wV:zJ.size=size) (wW:zJ.bytes=bytes) (ry:z.cells.size=size) (p:w.ownsRow base e size v n xs) (a:ă) (c:Nat) (b:List È) (hm:0<m) (r:b.length=m*size) (H:∀j u,b[j]?=Ã u->w.cell? (a.add j)=Ã u) (h1:∀u∈b,u.oneCell'=Ú) (S:n+m<=Ą) (V:(n+m)*bytes<=140737488355328) (Bp:base<=w.heap.size) (W:lI e=Ï\/(0<b.length/\(∀u∈xs++b,jY u=Ú)/\∀u∈z.cells.toList,jY u=Ú)): ∃x w',(Ō #[t,t] ty #[v,Ê (Ã a) m c]).run P w=φ x w'/\pD w base e size v n xs m b x w':=by
 subst wV;subst wW;have ajB:n+m<=9223372036854775807:=by simp only[Ą]at S;omega
 have hlen:(xs++b).length=(n+m)*zJ.size:=by rw[Ó,p.1,r,ő]
 have ar0:=p;have tk:∀d,((xs.toArray++b.toArray++ö z.cells (Œ w (n+m) d e-(n+m))).toList.take ((n+m)*zJ.size)=xs++b):=λd=>by grind
 have sz:∀d,(xs.toArray++b.toArray++ö z.cells (Œ w (n+m) d e-(n+m))).size=Œ w (n+m) d e*zJ.size:=λd=>by have x:=Θ w (n+m) d e;simp only[Ű,ć,size_zeroCells,ry,p.1,r,<-ő];congr 1;omega
 have ajC:∀d,lI e=Ï\/0<(xs.toArray++b.toArray++ö z.cells (Œ w (n+m) d e-(n+m))).size/\∀v∈(xs.toArray++b.toArray++ö z.cells (Œ w (n+m) d e-(n+m))).toList,jY v=Ú:=λd=>by
  cases s:lI e with
  |false=>exact Ø U
  |true=>
   rcases W with q|⟨x,B,I⟩
   .rw[q]at s;cases s
   .refine Ù ⟨by simp only[Ű,ć];omega,λv f=> ?_⟩;simp only[Š,ú]at f;rcases f with(f|f)|f
    .exact B v<|œ _ f
    .exact B v<|List.mem_append_right _ f
    .exact I v<|Rc f
 have gr:=λd=>pD.ajA p r Bp (Θ w (n+m) d e) (grownCap_le_maxLen w (n+m) d e S) (sz d) (tk d)<|ajC d;rcases p.2 with⟨rfl,rfl⟩|⟨g,y,h,rfl,hbg,C,hnc,hcm,X,htake⟩
 .have J:=ß (by simpa using p.1);subst J;have Y:=run_append_nil w t ty e zJ z F G Q a m c b r H hm Z (by have x:=V;simp only[ł]at x;omega);grind
 .by_cases K:n+m<=y
  .have Rf:n*zJ.size+b.length<=h.size:=by rw[r,X,<-ő];exact Ŕ _ K
   have Y:=run_append_room w t ty e zJ F G g n y h C a m c b r H h1 K Rf;have E:=ĝ w g h (h.toList.take (n*zJ.size)++b++h.toList.drop (n*zJ.size+b.length)).toArray e _ C;have L:=λk (M:k≠g)=>ė w g k (h.toList.take (n*zJ.size)++b++h.toList.drop (n*zJ.size+b.length)).toArray M;have N:(h.toList.take (n*zJ.size)++b++h.toList.drop (n*zJ.size+b.length)).toArray.size=h.size:=by grind
   have kp:eZ (λk=>Į (Ê (Ã ⟨g,0,Ä⟩) n y)=Ã k) w (w.setRow g (h.toList.take (n*zJ.size)++b++h.toList.drop (n*zJ.size+b.length)).toArray):=by
    refine⟨fg,λk _ M=>L k λe=>M (by simp[Į,e]),λal q o l=> ?_,λm' hF q c T fr O l s=> ?_⟩;rotate_left
    .by_cases D:q=g
     .subst D;rw[E]at l;cases l;rcases W with qq|⟨_,B,_⟩
      .grind
      .refine⟨by rw[N];exact(hF _ _ _ _ O C s).1,λu x=> ?_⟩;simp only[ú]at x;rcases x with(x|x)|x
       .grind
       .grind
       .exact(hF _ _ _ _ O C s).2 u<|List.mem_of_mem_drop x
     .rw[L q D]at l;exact hF q c T fr O l s
    by_cases D:q=g
    .subst D;rw[E]at l;cases l;exact λx=>x
    .rw[L q D]at l;exact al q o l
   refine⟨_,_,Y,⟨hlen,Ù ⟨g,y,_,U,hbg,E,K,hcm,by rw[N,X],?_⟩⟩,kp,Ø U,λo q wU x s=> ?_⟩
   .grind
   .by_cases f:o.ownBlock=Ã g
    .let⟨B,I⟩:=x;refine⟨B,?_⟩;rcases I with⟨rfl,_⟩|⟨g0,D,ar1,rfl,O,l,T,b4,b5,b6⟩
     .cases f
     .have:g0=g:=by simpa[Į]using f
      subst this;rw[C]at l;cases l;refine Ù ⟨g0,D,_,U,O,E,T,b4,by rw[N,b5],?_⟩;rw[htake];have ar2:q*zJ.size<=n*zJ.size:=Ŕ _<|s f;grind
    .exact gV x kp λj l J=>f<|by rw[l];simpa[Į]using J.symm
  .exact⟨_,_,(Λ w t ty e zJ z F G Q ⟨g,0,Ä⟩ n y xs p.1 (p.cells U) a m c b r H Z Z<|ŕ Z V),gr y⟩
def Bq{P:Program}{ops:Array Oper}{rest:List Oper}{o:Oper}{a:Act}{Q:Exit->Act->World->Prop}(Rh:o.guard=none)(s x:Operand)(t:TypeId) (ho:o.op=.call {callee:=.builtin .append,args:=#[s,x],argTypes:=#[t,t]}) {i:TypeInfo} {z:Value} {bytes:Nat} (ht:P.underlying t=some (.slice e)) (hi:P.info? e=some i) (hz:i.zero=some z) (wV:i.size=size) (wW:i.bytes=bytes) (ry:z.cells.size=size) (hs:a.eval s=v) (kX:w.ownsRow base e size v n xs) (ad:Addr) {m c:Nat} (news:List Value) (hx:a.eval x=.slice (some ad) m c) (hm:0<m) (hl:news.length=m*size) (Ri:∀j u,news[j]?=some u->w.cell? (ad.add j)=some u) (h1:∀u∈news,u.oneCell'=true) (Br:n+m<=maxLen) (Bs:(n+m)*bytes<=140737488355328) (Bp:base<=w.heap.size) (h:∀v' w',pD w base e size v n xs m news v' w'->wpList P ops Q rest (a.put o.dst v') w') (hfl:lI e=false\/(0<news.length/\(∀u∈xs++news,jY u=true)/\∀u∈z.cells.toList,jY u=true):=by first|exact Or.inl (by decide)|exact Or.inr ⟨by simp,by simp[jY],by simp[jY,Value.cells]⟩): wpList P ops Q (o::rest) a w:=by refine ű Rh λK hK=> ?_;let⟨v',w',hr,h2⟩:=Re (ty:=o.type) ht hi hz wV wW ry kX ad c news hm hl Ri h1 Br Bs Bp hfl;unfold Ń Ĥ;simp only[ho,ae,aO,af,Ų,ų,Ĵ,ļ,Ť,Ŵ,hs,hx,hr];exact hK _ _<|h v' w' h2
end
structure GX where
 fp:Int
 r:ByteArray
 C:Nat->Int
abbrev St:=Nat->GX
def St.fW(s:St)(i:Nat)(a:GX):St:=λj=>if j=i then a else s j
def St.fp(s:St)(i:Nat)(b:Int):St:=s.fW i {s i with fp:=b}
def St.C(s:St)(i:Nat)(p:ByteArray):St:=s.fW i {s i with r:=p}
def St.r(s:St)(i j:Nat)(v:Int):St:=s.fW i {s i with C:=λk=>if k=j then v else(s i).C k}
def pE(n:Int):È:=Â Æ n
def Rj(n:Int):È:=Â Ë n
def pF(s:St)(i:Nat):È:=if i%18=0 then pE (s<|i/18).fp else if i%18=1 then Í (s<|i/18).r else pE ((s<|i/18).C<|i%18-2)
def rC(s:St)(a:È)(i:Nat):È:=if 144<=i then a else pF s i
theorem qp(s:St)(a:È)(h:i<144):rC s a i=pF s i:=by unfold rC;rw[if_neg Z]
def iY(s:St)(lv:È):List È:=(ċ 145).map<|rC s lv
theorem ma(s:St)(lv:È):(iY s lv).length=145:=by simp[iY]
theorem GY(s:St)(a:È)(h:i<145):(iY s a)[i]?=Ã (rC s a i):=by unfold iY;grind
theorem YS{s:St}(h:l.length=145)(a:∀i,i<145->l[i]?=Ã (rC s v i)):l=iY s v:=by apply þ;grind [GY,ma]
section
variable(s:St)(lv:È)
def GZ(h:i<8):rC s lv (i*18)=pE (s i).fp:=by rw[qp _ _ Z,pF,if_pos Z,show i*18/18=i from by omega]
def KC(h:i<8):rC s lv (i*18+1)=Í (s i).r:=by rw[qp _ _ Z,pF,if_neg Z,if_pos Z,show(i*18+1)/18=i from by omega]
def KD(h:i<8)(a:j<16):rC s lv (i*18+2+j)=pE ((s i).C j):=by rw[qp _ _ Z,pF,if_neg Z,if_neg Z,show(i*18+2+j)/18=i from by omega,show(i*18+2+j)%18-2=j from by omega]
theorem KE:rC s lv 144=lv:=by unfold rC;grind
theorem ajD(v:È):(iY s lv).set 144 v=iY s v:=by
 refine YS (by rw[ĕ,ma]) λi a=> ?_;by_cases e:i=144
 .grind [ma,KE]
 .rw[Ŗ<|Ne.symm e,GY _ _ a,qp _ _ Z,qp _ _ Z]
theorem Rk(f:i<144){c:St}(g:rC c lv i=v)(h:∀b,b<144->b≠i->pF c b=pF s b):(iY s lv).set i v=iY c lv:=by
 refine YS (by rw[ĕ,ma]) λb d=> ?_;by_cases e:b=i
 .grind [ma]
 .rw[Ŗ<|Ne.symm e,GY _ _ d];grind [qp,KE]
def YT(h:i<8)(b:Int):(iY s lv).set (i*18) (pE b)=iY (s.fp i b) lv:=by
 refine Rk s lv Z ?_ λk a c=> ?_
 .rw[GZ _ _ h];simp[St.fp,St.fW]
 .unfold pF;by_cases e:k/18=i
  .have:k%18≠0:=Z
   simp[St.fp,St.fW,e,this]
  .simp[St.fp,St.fW,e]
def ajE(h:i<8)(p:ByteArray):(iY s lv).set (i*18+1) (Í p)=iY (s.C i p) lv:=by
 refine Rk s lv Z ?_ λk a b=> ?_
 .rw[KC _ _ h];simp[St.C,St.fW]
 .unfold pF;by_cases e:k/18=i
  .have:k%18≠1:=Z
   simp[St.C,St.fW,e,this]
  .simp[St.C,St.fW,e]
def ajF(h:i<8)(c:j<16)(v:Int):(iY s lv).set (i*18+2+j) (pE v)=iY (s.r i j v) lv:=by
 refine Rk s lv Z ?_ λk d f=> ?_
 .rw[KD _ _ h c];simp[St.r,St.fW]
 .unfold pF;by_cases e:k/18=i
  .by_cases a:k%18=0
   .simp[St.r,St.fW,e,a]
   .by_cases b:k%18=1
    .simp[St.r,St.fW,e,b]
    .have:k%18-2≠j:=Z
     simp[St.r,St.fW,e,a,b,this]
  .simp[St.r,St.fW,e]
end
def im(b:Nat)(T:õ)(tl:List È)(s:St)(lv:È)(w:É):Prop:=fc b (iY s lv++tl) T w
section
variable{tl:List È}{s:St}{lv:È}
def im.G0(h:im b T tl s lv w)(a:i<145):w.cell? ⟨b,i,Ä⟩=Ã (rC s lv i):= fc.r h i _<|by rw[ç (by rwa[ma]),GY _ _ a]
def im.pS(h:im b T tl s lv w)(c:i<145){a:St}(e:(iY s lv).set i v=iY a x):im b T tl a x (w.setCell ⟨b,i,Ä⟩ v):=by have:=fc.fW h i v;rw[Ğ _ _ (show i<(iY s lv).length by rwa[ma]),e]at this;exact this
def im.fp(h:im b T tl s lv w)(a:i<8):w.cell? ⟨b,i*18,Ä⟩=Ã (Â Æ (s i).fp):=by rw[h.G0 Z,GZ _ _ a];rfl
def im.KF(h:im b T tl s lv w)(a:i<8):w.cell? ⟨b,i*18+1,Ä⟩=Ã (Í (s i).r):=by rw[h.G0 Z,KC _ _ a]
def im.YU(h:im b T tl s lv w)(a:i<8)(c:j<16):w.cell? ⟨b,i*18+2+j,Ä⟩=Ã (Â Æ<|(s i).C j):=by rw[h.G0 Z,KD _ _ a c];rfl
def im.Bt(h:im b T tl s lv w):w.cell? ⟨b,144,Ä⟩=Ã lv:=by rw[h.G0 Z,KE]
def im.yJ(h:im b T tl s lv w)(a:i<8)(x:Int):im b T tl (s.fp i x) lv (w.setCell ⟨b,i*18,Ä⟩<|Â Æ x):=h.pS Z<|YT s lv a x
def im.ajG(h:im b T tl s lv w)(a:i<8)(x:ByteArray):im b T tl (s.C i x) lv (w.setCell ⟨b,i*18+1,Ä⟩<|Í x):=h.pS Z<|ajE s lv a x
def im.Rl(h:im b T tl s lv w)(a:i<8)(c:j<16)(x:Int):im b T tl (s.r i j x) lv (w.setCell ⟨b,i*18+2+j,Ä⟩<|Â Æ x):=h.pS Z<|ajF s lv a c x
def im.ajH(h:im b T tl s lv w)(v:È):im b T tl s v (w.setCell ⟨b,144,Ä⟩ v):=h.pS Z<|ajD s lv v
end
def wY(b:Bool):Int:=if b then 1 else 0
def G1(b:Bool)(w:É):Ò À 159 #[Ñ b] w λe a=>e=Ç (Â Æ<|wY b)/\a=w:=by
 go_enter Tryz.func159,Tryz.ntmps159;go_wp2;all_goals go_ret
 all_goals refine⟨Dz ?_,U⟩
 all_goals simp[wY, *]
def YV(b o:Nat)(s:Int)(c:0<=s)(d:s<18446744073709551616)(w:É):Ò À 208 #[Å<|Ã ⟨b,o,Ä⟩,Â Æ s] w λe a=>e=Ç (Å<|Ã ⟨b,o+2+(s%16).toNat,Ä⟩)/\a=w:=by
 go_enter Tryz.func208,Tryz.ntmps208;go_wp2;all_goals go_ret
 exact⟨U,U⟩
def wu(n:Int):Int:=Æ.wrap n
theorem ajI(a:0<=h)(b:h<18446744073709551616):wu h=h:=by show h%18446744073709551616=h;omega
def YW(n:Int):wu n=n%18446744073709551616:=rfl
def ajJ(n:Int):0<=wu n:=by rw[YW];omega
def ajK(n:Int):wu n<18446744073709551616:=by rw[YW];omega
def wZ(k p q:Int):Int:=
 if k=2 then wu (p+q)else if k=3 then wu (p-q)else if k=4 then wu (p*q)
 else if k=5 then(if q=0 then 0 else p/q)else if k=6 then wY (decide<|p<q)else wY (decide<|p=q)
def ajL(k p q:Int)(b:0<=p)(c:p<18446744073709551616)(d:0<=q)(f:q<18446744073709551616)(w:É):Ò À 211 #[Â Ë k,Â Æ p,Â Æ q] w λe a=>e=Ç (Â Æ<|wZ k p q)/\a=w:=by
 go_enter Tryz.func211,Tryz.ntmps211;go_wp2_with (go_at_call 159;refine(G1 _ _).mono ?_;rintro e a ⟨rfl,rfl⟩);all_goals simp only[beq_iff_eq,beq_eq_false_iff_ne,ne_eq]at*
 all_goals first
  |(exfalso;simp_all;done)
  |(go_ret;refine⟨Dz ?_,U⟩;unfold wZ;simp[wu, *];done)
  |(go_ret;refine⟨Dz ?_,U⟩;unfold wZ;simp[wu, *];rfl)
structure RC where
 x:Nat
 y:Nat
 k:Int
 d:Int
 g:Int
def DC(a:Nat)(c:RC)(b:È):List È:=[Å<|Ã ⟨a,0,Ä⟩,Â Ë c.x,Â Ë c.y,Â Æ c.k,Â Ë c.d,Â Æ c.g,b]
def oQ(l:List Int):List È:=l.map pE
theorem ajM{base:Nat}(h:w.ownsRow base e 1 (Ê O (n+1) i) (n+1) (l++[x])):w.ownsRow base e 1 (Ê O n i) n l:=by
 let⟨d,b⟩:=h;simp only[Ó,Ľ,Μ,ŗ]at d;refine⟨Z,?_⟩;rcases b with⟨b,_⟩|⟨g,q,f,b,j,k,r,m,o,p⟩
 .cases b
 .cases b;refine Ù ⟨g,i,f,U,j,k,Z,m,o,?_⟩;have:=congrArg (List.take n) p;grind
def KG{base:Nat}(h:w.ownsRow base e 1 (Ê O (n+1) i) (n+1) (l++[x])):∃g,O=Ã ⟨g,0,Ä⟩/\w.cell? ⟨g,n,Ä⟩=Ã x/\n+1<=i:=by
 let⟨f,d⟩:=h;simp only[Ó,Ľ,Μ,ŗ]at f;rcases d with⟨d,_⟩|⟨g,o,p,d,q,j,k,r,s,m⟩
 .cases d
 .cases d;refine⟨g,U,?_,k⟩;have:=congrArg (λb=>b[n]?) m;simp only[ŗ]at this;rw[List.getElem?_take_of_lt Z,ü Z,show n-l.length=0 by omega]at this;simp only[Η,j];simpa using this
def KH(j d:Nat)(c:RC)(f:È)(base:Nat)(b:List Int)(p:Int)(w:É)(i:fc d (DC j c f) 282 w)(h:w.ownsRow base 36 1 f (b.length+1) (oQ b++[pE p]))(k:b.length<=1000): Ò À 204 #[Å<|Ã ⟨d,0,Ä⟩] w λe g=>e=Ç (Â Æ p)/\∃a,g=w.setCell ⟨d,6,Ä⟩ a/\w.ownsRow base 36 1 a b.length (oQ b)/\a.ownBlock=f.ownBlock:=by obtain⟨a,l,rfl⟩:=jx h;obtain⟨g,rfl,m,o⟩:=KG h;have e:=ajM h;have q:=i.r 6 _ U;have r:=i.C 6;have H:=e7 e;generalize b.length=n at*;go_enter Tryz.func204,Tryz.ntmps204;go_wp2;go_ret;refine⟨U,_,U,?_,U⟩;simpa using H.out
def ajN:(À.info? 36).map (λi=>(i.zero,i.size,i.bytes))=Ã (Ã<|Â Æ 0,1,8):=fj
def YX(p b:Nat)(c:RC)(d:È)(base:Nat)(k:List È)(n:Nat)(f m:Nat)(q:Nat)(a:List È)(w:É)(g:fc b (DC p c d) 282 w)(l:w.ownsRow base 36 1 d n k)(E:n+m<=1000) (r:0<m) (s:a.length=m) (t:∀j u,a[j]?=Ã u->w.cell? ((⟨f,0,Ä⟩:ă).add j)=Ã u) (v:∀u∈a,u.oneCell'=Ú) (x:base<=w.heap.size): Ò À 203 #[Å<|Ã ⟨b,0,Ä⟩,Ê (Ã ⟨f,0,Ä⟩) m q] w λe o=>e=Ç (æ #[])/\∃h i,pD w base 36 1 d n k m a h i/\o=i.setCell ⟨b,6,Ä⟩ h:=by let⟨F,y,z,B,C⟩:=í ajN;have D:=g.r 6 _ U;have o:=jl l g A;have H:=e7 g;go_enter Tryz.func203,Tryz.ntmps203;go_wp2_with (at_builtin;refine Bq U _ _ 231 U Tryz.underlying231 y z B C U U l ⟨f,0,Ä⟩ a U r (by rw[s,ŗ]) t v (by unfold Ą;omega) Z x ?_;intro h i e;obtain⟨G,I,rfl⟩:=jx e.fh;have J:=e.r.r D o;have K:=(H.out.I e.r o).C 6);go_end0;exact⟨U,_,_,e,U⟩
def jZ(l:List (Nat×Int)):List È:=l.flatMap λp=>[Rj p.1,pE p.2]
structure iM where
 r:Nat
 T:õ
 C:List È
structure iM.Ok(E:iM):Prop where
 M:E.T≠36
 r:E.T≠257
 I:E.T≠282
 N:E.T≠300
 ajO:E.T≠252
 ajP:E.T≠246
def iM.Ok.C{E:iM}(h:E.Ok):lI E.T=Ï:=by unfold lI;rw[beq_eq_false_iff_ne.2 h.r,beq_eq_false_iff_ne.2 h.ajP];rfl
structure R(E:iM)(rb:Nat)(c:RC)(sv lv:È)(ss:List Int)(s:St)(ls:List (Nat×Int))(w:É):Prop where
 r:fc rb (DC E.r c sv) 282 w
 I:w.ownsRow 0 36 1 sv ss.length (oQ ss)
 C:im E.r E.T E.C s lv w
 M:w.ownsRow 0 257 2 lv ls.length (jZ ls)
structure Tr(E:iM)(rb:Nat)(sv lv:È)(n:Nat)(w:É)(jO jk:È)(n':Nat)(w':É):Prop where
 r:eZ (λk=>k=E.r\/k=rb\/sv.ownBlock=Ã k\/lv.ownBlock=Ã k) w w'
 s:∀j,jO.ownBlock=Ã j->sv.ownBlock=Ã j\/w.heap.size<=j
 l:∀j,jk.ownBlock=Ã j->lv.ownBlock=Ã j\/w.heap.size<=j
 C:∀v0 n0 wU,w.ownsRow 0 257 2 v0 n0 wU->(v0.ownBlock=lv.ownBlock->n0<=n)->w'.ownsRow 0 257 2 v0 n0 wU/\(v0.ownBlock=jk.ownBlock->n0<=n')
section
variable{E:iM}{rb:Nat}{c:RC}{sv lv f o:È}{ss:List Int}{s:St}{ls:List (Nat×Int)}
theorem Tr.fO(E:iM)(rb:Nat)(sv lv:È)(n:Nat)(w:É):Tr E rb sv lv n w sv lv n w:= ⟨eZ.fO _ _,λ_ h=>Ø h,λ_ h=>Ø h,λ_ _ _ h k=>⟨h,k⟩⟩
theorem Tr.e8(h:Tr E rb sv lv n w f z b u)(k:Tr E rb f z b u o jQ m W):Tr E rb sv lv n w o jQ m W:=by
 refine⟨h.r.C k.r ?_,λj a=> ?_,λj a=> ?_,λc d g p q=> ?_⟩
 .rintro i r (e|e|e|e)
  .exact Ø e
  .grind
  .exact Ù<|Ù<|Ø<|(h.s i e).resolve_right Z
  .exact Ù<|Ù<|Ù<|(h.l i e).resolve_right Z
 .rcases k.s j a with e|e
  .exact h.s j e
  .exact Ù<|ë h.r.M e
 .rcases k.l j a with e|e
  .exact h.l j e
  .exact Ù<|ë h.r.M e
 .let⟨e,i⟩:=h.C c d g p q;exact k.C c d g e i
def Tr.I(k:eZ X w u)(c:∀i,i<w.heap.size->X i->i=E.r\/i=rb\/sv.ownBlock=Ã i)(d:∀j,f.ownBlock=Ã j->sv.ownBlock=Ã j\/w.heap.size<=j)(g:∀i a,X i->w.heap[i]?≠Ã (Ð a 257 (0,0))):Tr E rb sv lv n w f lv n u:= ⟨k.S λi h q=>(c i h q).elim Ø λe=>Ù (e.elim Ø λe=>Ù<|Ø e),d,λj q=>Ø q,λp r s b l=>⟨gV b k λj m q=>by let⟨a,o⟩:=lr b m;exact g j a q o,l⟩⟩
def Tr.ajQ{Y:Nat->Prop}(t:Tr E rb sv lv n w f z b u)(k:eZ Y u W)(m:∀i,Y i->w.heap.size<=i)(o:∀i a,Y i->u.heap[i]?≠Ã (Ð a 257 (0,0))):Tr E rb sv lv n w f z b W:= ⟨t.r.C k λi v q=>absurd (m i q) Z,t.s,t.l,λc d e g h=>⟨gV (t.C c d e g h).1 k λj p q=>by let⟨a,r⟩:=lr (t.C c d e g h).1 p;exact o j a q r,(t.C c d e g h).2⟩⟩
def R.ajR(ok:E.Ok)(h:R E rb c sv lv ss s ls w)(a:fc j l 252 w)(k:eZ (λi=>i=j) w u):R E rb c sv lv ss s ls u:= ⟨h.r.I k<|fc.S h.r a A,gV h.I k λi q r=>jl h.I a A (by rw[q,r]),h.C.I k<|fc.S h.C a ok.ajO,gV h.M k λi q r=>jl h.M a A<|by rw[q,r]⟩
theorem R.N(ok:E.Ok)(h:R E rb c sv lv ss s ls w)(i:Nat){c':RC}{jO:È}{ss':List Int}(e:(DC E.r c sv).set i v=DC E.r c' jO)(b:w.ownsRow 0 36 1 jO ss'.length (oQ ss'))(d:∀j,jO.ownBlock=Ã j->sv.ownBlock=Ã j): R E rb c' jO lv ss' s ls (w.setCell ⟨rb,i,Ä⟩ v)/\Tr E rb sv lv ls.length w jO lv ls.length (w.setCell ⟨rb,i,Ä⟩ v):=by have a:=eZ.I (X:=λk=>k=rb) (p:=⟨rb,i,Ä⟩) U v<|Ù h.r.G;refine⟨⟨by have:=h.r.fW i v;rwa[e]at this,gV b a λj q r=>jl b h.r A (by rw[q,r]),h.C.I a<|fc.S h.C h.r ok.I,gV h.M a λj q r=>jl h.M h.r A<|by rw[q,r]⟩,Tr.I a (λi _ q=>Ù<|Ø q) (λj q=>Ø<|d j q) λi f q g=> ?_⟩;have k:=h.r;unfold fc at k;grind
def R.S(ok:E.Ok)(h:R E rb c sv lv ss s ls w)(i:Nat){d:St}(k:im E.r E.T E.C d lv (w.setCell ⟨E.r,i,Ä⟩ v)): R E rb c sv lv ss d ls (w.setCell ⟨E.r,i,Ä⟩ v)/\Tr E rb sv lv ls.length w sv lv ls.length (w.setCell ⟨E.r,i,Ä⟩ v):=by have b:=eZ.I (X:=λk=>k=E.r) (p:=⟨E.r,i,Ä⟩) U v<|Ù<|fc.G h.C ok.C;refine⟨⟨h.r.I b (fc.S h.C h.r ok.I).symm,gV h.I b λj q r=>jl h.I h.C ok.M.symm (by rw[q,r]),k,gV h.M b λj q r=>jl h.M h.C ok.r.symm<|by rw[q,r]⟩,Tr.I b (λi _ q=>Ø q) (λj q=>Ø q) λi e q a=> ?_⟩;rw[q,h.C]at a;injection a with a;injection a with _ a;exact ok.r a
theorem R.Y(ok:E.Ok)(h:R E rb c sv lv ss s ls w){ns:List Int}{u:É}(o:ns.length=m)(a:pD w 0 36 1 sv ss.length (oQ ss) m (oQ ns) v u): R E rb c v lv (ss++ns) s ls (u.setCell ⟨rb,6,Ä⟩ v)/\Tr E rb sv lv ls.length w v lv ls.length (u.setCell ⟨rb,6,Ä⟩ v):=by
 subst o;have d:∀{i:Nat} {f:Array È} {T:õ},sv.ownBlock=Ã i->w.heap[i]?=Ã (Ð f T (0,0))->T=36:=λ{i f T} q l=>by let⟨g,e⟩:=lr h.I q;grind
 have b:R E rb c sv lv ss s ls u:=⟨h.r.I a.r λq=>absurd (d q h.r) A,a.I _ _ _ h.I λ_=>Þ _,h.C.I a.r λq=>ok.M<|d q h.C,gV h.M a.r λj q r=>by let⟨g,e⟩:=lr h.M q;exact absurd (d r e) A⟩;have n:u.ownsRow 0 36 1 v (ss++ns).length (oQ<|ss++ns):=by have:=a.fh;rwa[show oQ ss++oQ ns=oQ (ss++ns) by simp[oQ],show ss.length+ns.length=(ss++ns).length by simp]at this
 have g:=eZ.I (X:=λk=>k=rb) (p:=⟨rb,6,Ä⟩) U v<|Ù b.r.G;refine⟨⟨b.r.fW 6 v,gV n g λj q r=>jl n b.r A (by rw[q,r]),b.C.I g<|fc.S b.C b.r ok.I,gV b.M g λj q r=>jl b.M b.r A<|by rw[q,r]⟩,(Tr.I a.r (λi _ q=>Ù<|Ù q) (λj q=>a.C.elim (λe=>Ø<|by rwa[<-e]) λe=>Ù<|by rw[e]at q;cases q;exact Þ _) λi f q l=>absurd (d q l) A).e8<|Tr.I g (λi _ q=>Ù<|Ø q) (λj q=>Ø q) λi f q l=> ?_⟩;have e:=b.r;unfold fc at e;grind
end
section
variable{E:iM}{rb:Nat}{c:RC}{sv lv:È}{s:St}{ls:List (Nat×Int)}
def R.fF(h:R E rb c sv lv zQ s ls w)(k:eZ e9 w W):R E rb c sv lv zQ s ls W:= ⟨h.r.I k id,gV h.I k λ_ _=>id,h.C.I k id,gV h.M k λ_ _=>id⟩
def Tr.fF(k:eZ e9 w W):Tr E rb sv lv n w sv lv n W:=Tr.I k (λ_ _=>ę) (λ_ q=>Ø q) λ_ _=>ę
end
def iQ:List (Int×Int×Int):=[(0,0,0),(1,0,1),(1,2,1),(1,2,1),(2,2,1),(2,2,1),(1,2,1),(1,2,1),(1,1,2),(1,2,2),(1,1,0),(1,0,1),(1,0,1),(1,0,1),(1,0,1),(3,1,1),(6,2,0),(2,2,0),(8,2,1),(4,1,0),(8,3,2),(1,1,0),(1,0,0)]
structure iD(w:É):Prop where
 M:∃cs fz,w.heap[2]?=Ã (Ð cs 300 fz)
 I:∀(k:Nat) (r:Int×Int×Int),iQ[k]?=Ã r->w.cell? ⟨2,k*3,Ä⟩=Ã (Â Æ r.1)/\w.cell? ⟨2,k*3+1,Ä⟩=Ã (Â Ë r.2.1)/\w.cell? ⟨2,k*3+2,Ä⟩=Ã (Â Ë r.2.2)
theorem iD.r(h:iD w)(k:eZ X w u)(a:¬X 2):iD u:=by
 let⟨b,c,d⟩:=h.M;have e:2<w.heap.size:=by grind
 refine⟨⟨b,c,by rwa[k.N 2 e a]⟩,λi r f=> ?_⟩;let⟨g,j,l⟩:=h.I i r f;exact⟨k.r g a,k.r j a,k.r l a⟩
theorem iD.C(h:iD w)(a:w.heap[j]?=Ã (Ð d T xJ))(b:T≠300):j≠2:=by rintro rfl;let⟨c,e,f⟩:=h.M;grind
def iD.N{E:iM}(ok:E.Ok){rb:Nat}{c:RC}{sv lv:È}{s:St}{a:List (Nat×Int)}(h:iD w)(r:R E rb c sv lv zQ s a w)(t:Tr E rb sv lv n w v x i u):iD u:=by
 refine h.r t.r ?_;rintro(e|e|e|e)
 .exact h.C r.C ok.N e.symm
 .exact h.C r.r A e.symm
 .let⟨b,q⟩:=lr r.I e;exact h.C q A U
 .let⟨b,q⟩:=lr r.M e;exact h.C q A U
theorem KI:∀(k:Nat) (r:Int×Int×Int),iQ[k]?=Ã r->0<=r.1/\r.1<=8/\0<=r.2.1/\r.2.1<=3/\0<=r.2.2/\r.2.2<=2:=by
 have h:∀r∈iQ,0<=r.1/\r.1<=8/\0<=r.2.1/\r.2.1<=3/\0<=r.2.2/\r.2.2<=2:=A
 grind
def lJ(g:Int)(n:Nat)(b a c:Int):Bool:= !(decide (g<b)||(decide ((n:Int)-a<0)||decide (32<(n:Int)-a+c)))
def Rm(E:iM)(f:Nat)(c:RC)(a d:È)(i:List Int)(s:St)(e:List (Nat×Int))(w:É)(j:Int)(b:Bool)(h:É):Prop:=
 R E f (if b then{c with g:=c.g-j}else c) a d i s e h/\Tr E f a d e.length w a d e.length h
section
variable{E:iM}{rb:Nat}{c:RC}{sv lv:È}{s:St}{ls:List (Nat×Int)}
def Rn(a:R E rb c sv lv zQ s ls w)(k:eZ e9 w u):Rm E rb c sv lv zQ s ls w h Ï u:=⟨a.fF k,Tr.fF k⟩
def ajS(ok:E.Ok)(a:R E rb c sv lv zQ s ls w){g:Int}(d:c.g=g)(e:u=W.setCell ⟨rb,5,Ä⟩ (Â Æ<|g-h))(k:eZ e9 w W):Rm E rb c sv lv zQ s ls w h Ú u:=by subst d e;have b:=a.fF k;let⟨f,i⟩:=b.N ok 5 (c':={c with g:=c.g-h}) U b.I λ_ q=>q;exact⟨f,(Tr.fF k).e8 i⟩
end
def Bu(E:iM)(ok:E.Ok)(m:Nat)(c:RC)(q r:È)(d:List Int)(s:St)(t:List (Nat×Int))(w:É)(h:R E m c q r d s t w)(u:iD w)(k:Nat)(f b i:Int)(o:iQ[k]?=Ã (f,b,i))(y:d.length<=1000)(P:0<=c.g)(Q:c.g<18446744073709551616): Ò À 202 #[Å<|Ã ⟨m,0,Ä⟩,Â Ë k] w λe a=>e=Ç (Ñ<|lJ c.g d.length f b i)/\Rm E m c q r d s t w f (lJ c.g d.length f b i) a:=by
 let⟨z,B,C⟩:=u.I k _ o;obtain⟨a,S,rfl⟩:=jx h.I;have D:=h.r.r 6 _ U;have T:=h.r.r 5 _ U;have V:=h.r.C 5;have W:=h.r.M;have X:k<23:=(Ü.1 o).1;let⟨F,G,I,J,K,L⟩:=KI k _ o;simp only at F G I J K L z B C;obtain⟨n,j⟩:∃n,d.length=n:=⟨_,U⟩;rw[j]at D y;have e:lJ c.g d.length f b i= !(decide (c.g<f)||(decide ((n:Int)-b<0)||decide (32<(n:Int)-b+i))):=by rw[j];rfl
 have H:=e7<|Á h<|Á j e;clear u h j e;generalize M:c.g=g at*;go_enter Tryz.func202,Tryz.ntmps202;go_wp2;go_quiet (fail);go_wp2;by_cases v:g<f
 .go_quiet (fail)
  go_wp2;let⟨h,j,e⟩:=H.out;have l:lJ g d.length f b i=Ï:=by rw[e];simp[v]
  go_ret;rw[l];refine⟨U,Rn h ?_⟩;exact kp
 .have N:=decide_eq_false v;by_cases x:(n:Int)-b<0
  .go_quiet (fail)
   go_wp2;let⟨h,j,e⟩:=H.out;have l:lJ g d.length f b i=Ï:=by rw[e];simp[x]
   go_ret;rw[l];refine⟨U,Rn h ?_⟩;exact kp
  .have O:=decide_eq_false x;go_quiet (fail);go_wp2
   .have p:32<(n:Int)-b+i:=by assumption
    let⟨h,j,e⟩:=H.out;have l:lJ g d.length f b i=Ï:=by rw[e];simp[p]
    go_ret;rw[l];refine⟨U,Rn h ?_⟩;exact kp
   .go_region
    go_wp2;have p:(n:Int)-b+i<=32:=by assumption
    let⟨h,j,e⟩:=H.out;have l:lJ g d.length f b i=Ú:=by rw[e];simp[N,O,p]
    go_ret;rw[l];refine⟨U,ajS ok h M U ?_⟩;exact kp
def qt(s:St)(y:Nat)(q p:Int):Int×St:=
 if(s y).fp<p then(0,s)else(1,(s.fp y<|(s y).fp-p).fp (q%8).toNat<|wu<|(s.fp y ((s y).fp-p) (q%8).toNat).fp+p)
def yK(E:iM)(e:Nat)(c:RC)(a b:È)(g:List Int)(s:St)(d:List (Nat×Int))(w:É)(h:St)(f:É):Prop:=
 R E e c a b g h d f/\Tr E e a b d.length w a b d.length f
section
variable{E:iM}{rb:Nat}{c:RC}{sv lv:È}{s d f:St}{a:List (Nat×Int)}
def yK.fF(h:R E rb c sv lv zQ s a w)(k:eZ e9 w u):yK E rb c sv lv zQ s a w s u:=⟨h.fF k,Tr.fF k⟩
def yK.fp(ok:E.Ok)(h:yK E rb c sv lv zQ s a w d W)(e:i<8)(x:Int):yK E rb c sv lv zQ s a w (d.fp i x) (W.setCell ⟨E.r,i*18,Ä⟩<|Â Æ x):=by let⟨b,f⟩:=h;let⟨g,j⟩:=b.S ok (i*18)<|b.C.yJ e x;exact⟨g,f.e8 j⟩
end
def ajT(E:iM)(ok:E.Ok)(d:Nat)(c:RC)(f g:È)(i:List Int)(s:St)(j:List (Nat×Int))(w:É)(h:R E d c f g i s j w)(q p:Int)(n:0<=q)(o:q<18446744073709551616)(r:0<=p)(t:p<18446744073709551616)(a:c.y<8)(u:0<=(s c.y).fp)(v:(s c.y).fp<18446744073709551616): Ò À 209 #[Å<|Ã ⟨d,0,Ä⟩,Â Æ q,Â Æ p] w λe k=>e=Ç (Â Æ (qt s c.y q p).1)/\yK E d c f g i s j w (qt s c.y q p).2 k:=by
 have x:=h.r.r 0 _ U;have z:=h.r.r 2 _ U;have B:=h.r.M;have C:=fc.M h.C;have D:=h.C.fp a;have F:=fc.C h.C<|c.y*18;have k:(q%8).toNat<8:=Z
 have H:=e7 h;by_cases l:(s c.y).fp<p
 .have e:qt s c.y q p=(0,s):=by unfold qt;rw[if_pos l]
  rw[e];generalize(s c.y).fp=b at*;generalize c.y=y at*;go_enter ag,η;go_wp2;go_quiet (fail);go_wp2;go_ret;refine⟨U,yK.fF H.out ?_⟩;exact kp
 .have e:qt s c.y q p=(1,(s.fp c.y<|(s c.y).fp-p).fp (q%8).toNat<|wu<|(s.fp c.y ((s c.y).fp-p) (q%8).toNat).fp+p):=by unfold qt;rw[if_neg l]
  rw[e];have G:=λm=>((h.fF<|eZ.iH _ w m).C.yJ a<|(s c.y).fp-p).fp k;have I:∀m,((w.drewN m).setCell ⟨E.r,c.y*18,Ä⟩<|Â Æ<|(s c.y).fp-p).frozen? ⟨E.r,(q%8).toNat*18,Ä⟩=Ï:=λm=>fc.C ((h.fF<|eZ.iH _ w m).C.yJ a<|(s c.y).fp-p) _;generalize(s.fp c.y ((s c.y).fp-p) (q%8).toNat).fp=b2 at*;generalize(s c.y).fp=b at*;go_enter ag,η;go_wp2;go_quiet (fail);go_wp2;go_ret;refine⟨U,((yK.fF H.out ?_).fp ok a _).fp ok k _⟩;exact kp
def kC(E:iM)(rb:Nat)(sv lv:È)(n:Nat)(w:É)(c:RC)(f:List Int)(s:St)(a:List (Nat×Int))(b:É):Prop:=
 ∃d e,R E rb c d e f s a b/\Tr E rb sv lv n w d e a.length b
section
variable{E:iM}{rb:Nat}{c a:RC}{sv lv:È}{w':É}{b:List Int}{s d:St}{ls f:List (Nat×Int)}{p:Int}
def R.jF(h:R E rb c sv lv zQ s ls w):kC E rb sv lv ls.length w c zQ s ls w:=⟨sv,lv,h,Tr.fO _ _ _ _ _ _⟩
def mR(ok:E.Ok)(h:R E rb c sv lv (zQ++[p]) s ls w)(g:zQ.length<=900):Ò À 204 #[Å<|Ã ⟨rb,0,Ä⟩] w λe w'=>e=Ç (Â Æ p)/\ ∃a,R E rb c a lv zQ s ls w'/\Tr E rb sv lv ls.length w a lv ls.length w':=by have b:=h.I;rw[show oQ (zQ++[p])=oQ zQ++[pE p] by simp[oQ],show(zQ++[p]).length=zQ.length+1 by simp]at b;refine(KH E.r rb c sv 0 zQ p w h.r b Z).mono ?_;rintro e w' ⟨rfl,a,rfl,d,f⟩;exact⟨U,a,h.N ok 6 U d λj q=>by rwa[<-f]⟩
def yL(ok:E.Ok)(h:R E rb c sv lv zQ s ls w)(i:zQ.length<=900)(x:Int):Ò À 203 #[Å<|Ã ⟨rb,0,Ä⟩,Ê (Ã ⟨w.heap.size,0,Ä⟩) 1 1] (w.alloc<|Ð #[Â Æ x] 36) λe w'=>e=Ç (æ #[])/\ ∃b,R E rb c b lv (zQ++[x]) s ls w'/\Tr E rb sv lv ls.length w b lv ls.length w':=by have k:=eZ.gB e9 w #[Â Æ x] 36;have d:=h.fF k;refine(YX E.r rb c sv 0 (oQ zQ) zQ.length w.heap.size 1 1 [Â Æ x] _ d.r d.I Z Z U (ÿ _ _ _) (λa f=>by simp at f;subst f;rfl)<|â _).mono ?_;rintro e w' ⟨rfl,b,u,a,rfl⟩;let⟨f,g⟩:=d.Y ok (ns:=[x]) U a;exact⟨U,b,f,(Tr.fF k).e8 g⟩
def Ro(ok:E.Ok)(h:R E rb c sv lv zQ s ls w)(i:zQ.length<=900)(x y:Int):Ò À 203 #[Å<|Ã ⟨rb,0,Ä⟩,Ê (Ã ⟨w.heap.size,0,Ä⟩) 2 2] (w.alloc<|Ð #[Â Æ x,Â Æ y] 36) λe w'=>e=Ç (æ #[])/\ ∃b,R E rb c b lv (zQ++[x,y]) s ls w'/\Tr E rb sv lv ls.length w b lv ls.length w':=by have k:=eZ.gB e9 w #[Â Æ x,Â Æ y] 36;have d:=h.fF k;refine(YX E.r rb c sv 0 (oQ zQ) zQ.length w.heap.size 2 2 [Â Æ x,Â Æ y] _ d.r d.I Z Z U (ŵ _ _ _ _) (λa f=>by simp at f;rcases f with rfl|rfl<;>rfl)<|â _).mono ?_;rintro e w' ⟨rfl,b,u,a,rfl⟩;let⟨f,g⟩:=d.Y ok (ns:=[x,y]) U a;exact⟨U,b,f,(Tr.fF k).e8 g⟩
end
structure hD(E:iM)(lv:È)(n:Nat)(w:É)(s:St)(ls:List (Nat×Int))(w':É)(jk:È):Prop where
 r:im E.r E.T E.C s jk w'
 I:w'.ownsRow 0 257 2 jk ls.length (jZ ls)
 C:eZ (λk=>k=E.r\/lv.ownBlock=Ã k) w w'
 l:∀j,jk.ownBlock=Ã j->lv.ownBlock=Ã j\/w.heap.size<=j
 M:∀v0 n0 wU,w.ownsRow 0 257 2 v0 n0 wU->(v0.ownBlock=lv.ownBlock->n0<=n)->w'.ownsRow 0 257 2 v0 n0 wU/\(v0.ownBlock=jk.ownBlock->n0<=ls.length)
structure Bv where
 r:Int
 C:Bool
 M:Int
 s:St
 I:List (Nat×Int)
abbrev lL:=St->List (Nat×Int)->Nat->Nat->Int->Int->Bv
def fV(n:Int):Prop:=0<=n/\n<18446744073709551616
def lu(c:Int):Nat:=
 if 48<=c/\c<=57 then 1 else if c=43 then 2 else if c=45 then 3 else if c=42 then 4 else if c=47 then 5 else if c=60 then 6 else if c=61 then 7
 else if c=100 then 8 else if c=120 then 9 else if c=112 then 10 else if c=107 then 11 else if c=99 then 12 else if c=121 then 13 else if c=98 then 14
 else if c=108 then 15 else if c=116 then 16 else if c=106 then 17 else if c=118 then 18 else if c=101 then 19 else if c=111 then 20 else if c=114 then 21 else if c=102 then 22 else 0
def w7(c:UInt8):Bool:=decide<|lu (c.toNat:Int)≠0
structure gC(s:St):Prop where
 fp:∀i,fV (s i).fp
 C:∀i j,fV<|(s i).C j
 I:∀i,(s i).r.size<=40/\∀c∈(s i).r.data.toList,w7 c=Ú
def fT(l:List Int):Int:=l.getLastD 0
theorem YY(l:List Int)(h:0<l.length):l=l.dropLast++[fT l]:=by
 have a:l≠[]:=by intro e;subst e;simp at h
 unfold fT;grind [List.dropLast_concat_getLast]
section
variable{E:iM}{c:RC}{s:St}{a:List (Nat×Int)}{q r:Int}
def ajU(ok:E.Ok)(b:R E i c x v (zQ++[h]) s a w)(k:zQ.length<=800)(l:c.y<8): Ò À 205 #[Å<|Ã ⟨i,0,Ä⟩,Â Ë 8] w λe H=>e=Ç (æ #[])/\kC E i x v a.length w c (zQ++[h,h]) s a H:=by have m:=b.r.r 0 _ U;have n:=b.r.r 2 _ U;have o:=b.r.M;have p:=fc.M b.C;have H:=e7 b;go_enter ê,å;go_wp2_with fail;go_quiet (fail);go_wp2_with fail;go_at_call 204;refine(mR ok (H.out.fF<|eZ.iH _ _ _) (by first|omega|(simp;omega))).mono ?_;rintro e q ⟨rfl,r,d,f⟩;go_wp2_with fail;go_at_call 203;refine(Ro ok d (by first|omega|(simp;omega)) _ _).mono ?_;rintro e t ⟨rfl,u,g,j⟩;go_wp2_with fail;go_end0;exact⟨U,_,_,g,(((Tr.fF<|eZ.iH _ _ _).e8 f).e8 j)⟩
def ajV(ok:E.Ok)(b:R E i c x v ((zQ++[h])++[q]) s a w)(m:zQ.length<=800)(n:c.y<8): Ò À 205 #[Å<|Ã ⟨i,0,Ä⟩,Â Ë 9] w λe H=>e=Ç (æ #[])/\kC E i x v a.length w c (zQ++[q,h]) s a H:=by have o:=b.r.r 0 _ U;have p:=b.r.r 2 _ U;have r:=b.r.M;have t:=fc.M b.C;have H:=e7 b;go_enter ê,å;go_wp2_with fail;go_quiet (fail);go_wp2_with fail;go_at_call 204;refine(mR ok (H.out.fF<|eZ.iH _ _ _) (by first|omega|(simp;omega))).mono ?_;rintro e u ⟨rfl,z,d,f⟩;go_wp2_with fail;go_at_call 204;refine(mR ok d (by first|omega|(simp;omega))).mono ?_;rintro e B ⟨rfl,C,g,j⟩;go_wp2_with fail;go_at_call 203;refine(Ro ok g (by first|omega|(simp;omega)) _ _).mono ?_;rintro e D ⟨rfl,F,k,l⟩;go_wp2_with fail;go_end0;exact⟨U,_,_,k,((((Tr.fF<|eZ.iH _ _ _).e8 f).e8 j).e8 l)⟩
def ajW(ok:E.Ok)(b:R E i c x v (zQ++[h]) s a w)(g:zQ.length<=800)(j:c.y<8): Ò À 205 #[Å<|Ã ⟨i,0,Ä⟩,Â Ë 10] w λe H=>e=Ç (æ #[])/\kC E i x v a.length w c zQ s a H:=by have k:=b.r.r 0 _ U;have l:=b.r.r 2 _ U;have m:=b.r.M;have n:=fc.M b.C;have H:=e7 b;go_enter ê,å;go_wp2_with fail;go_quiet (fail);go_wp2_with fail;go_at_call 204;refine(mR ok (H.out.fF<|eZ.iH _ _ _) (by first|omega|(simp;omega))).mono ?_;rintro e o ⟨rfl,p,d,f⟩;go_wp2_with fail;go_end0;exact⟨U,_,_,d,((Tr.fF<|eZ.iH _ _ _).e8 f)⟩
def ajX(ok:E.Ok)(h:R E i c x v zQ s a w)(f:zQ.length<=800)(g:c.y<8): Ò À 205 #[Å<|Ã ⟨i,0,Ä⟩,Â Ë 11] w λe H=>e=Ç (æ #[])/\kC E i x v a.length w c (zQ++[c.k]) s a H:=by have j:=h.r.r 0 _ U;have l:=h.r.r 2 _ U;have m:=h.r.M;have n:=fc.M h.C;have o:=h.r.r 3 _ U;have H:=e7 h;go_enter ê,å;go_wp2_with fail;go_quiet (fail);go_wp2_with fail;go_at_call 203;refine(yL ok (H.out.fF<|eZ.iH _ _ _) (by first|omega|(simp;omega)) _).mono ?_;rintro e p ⟨rfl,q,b,d⟩;go_wp2_with fail;go_end0;exact⟨U,_,_,b,((Tr.fF<|eZ.iH _ _ _).e8 d)⟩
def ajY(ok:E.Ok)(h:R E i c x v zQ s a w)(f:zQ.length<=800)(g:c.y<8)(j:c.x<8): Ò À 205 #[Å<|Ã ⟨i,0,Ä⟩,Â Ë 12] w λe H=>e=Ç (æ #[])/\kC E i x v a.length w c (zQ++[(c.x:Int)]) s a H:=by have k:=h.r.r 0 _ U;have l:=h.r.r 2 _ U;have m:=h.r.M;have n:=fc.M h.C;have o:=h.r.r 1 _ U;have H:=e7 h;go_enter ê,å;go_wp2_with fail;go_quiet (fail);go_wp2_with fail;go_at_call 203;refine(yL ok (H.out.fF<|eZ.iH _ _ _) (by first|omega|(simp;omega)) _).mono ?_;rintro e p ⟨rfl,q,b,d⟩;go_wp2_with fail;go_end0;exact⟨U,_,_,b,((Tr.fF<|eZ.iH _ _ _).e8 d)⟩
def ajZ(ok:E.Ok)(h:R E i c x v zQ s a w)(f:zQ.length<=800)(g:c.y<8): Ò À 205 #[Å<|Ã ⟨i,0,Ä⟩,Â Ë 13] w λe H=>e=Ç (æ #[])/\kC E i x v a.length w c (zQ++[(c.y:Int)]) s a H:=by have j:=h.r.r 0 _ U;have k:=h.r.r 2 _ U;have l:=h.r.M;have m:=fc.M h.C;have H:=e7 h;go_enter ê,å;go_wp2_with fail;go_quiet (fail);go_wp2_with fail;go_at_call 203;refine(yL ok (H.out.fF<|eZ.iH _ _ _) (by first|omega|(simp;omega)) _).mono ?_;rintro e n ⟨rfl,o,b,d⟩;go_wp2_with fail;go_end0;exact⟨U,_,_,b,((Tr.fF<|eZ.iH _ _ _).e8 d)⟩
def aj0(ok:E.Ok)(h:R E i c x v zQ s a w)(g:zQ.length<=800)(b:c.y<8): Ò À 205 #[Å<|Ã ⟨i,0,Ä⟩,Â Ë 14] w λe H=>e=Ç (æ #[])/\kC E i x v a.length w c (zQ++[(s c.y).fp]) s a H:=by have j:=h.r.r 0 _ U;have k:=h.r.r 2 _ U;have l:=h.r.M;have m:=fc.M h.C;have n:=h.C.fp b;have H:=e7 h;go_enter ê,å;go_wp2_with fail;go_quiet (fail);go_wp2_with fail;go_at_call 203;refine(yL ok (H.out.fF<|eZ.iH _ _ _) (by first|omega|(simp;omega)) _).mono ?_;rintro e o ⟨rfl,p,d,f⟩;go_wp2_with fail;go_end0;exact⟨U,_,_,d,((Tr.fF<|eZ.iH _ _ _).e8 f)⟩
def aj1(ok:E.Ok)(b:R E i c x v (zQ++[h]) s a w)(o:zQ.length<=800)(g:c.y<8)(d:fV h): Ò À 205 #[Å<|Ã ⟨i,0,Ä⟩,Â Ë 15] w λe f=>e=Ç (æ #[])/\kC E i x v a.length w c (zQ++[(s c.y).C (h%16).toNat]) s a f:=by have p:=b.r.r 0 _ U;have q:=b.r.r 2 _ U;have r:=b.r.M;have t:=fc.M b.C;have H:=e7 b;go_enter ê,å;go_wp2_with fail;go_quiet (fail);go_wp2_with fail;go_at_call 204;refine(mR ok (H.out.fF<|eZ.iH _ _ _) (by first|omega|(simp;omega))).mono ?_;rintro e u ⟨rfl,z,f,k⟩;have B:=f.C.YU g (j:=(h%16).toNat) Z;have C:=d.1;have D:=d.2;go_wp2_with fail;go_at_call 208;refine(YV E.r (c.y*18) h d.1 d.2 _).mono ?_;rintro e l ⟨rfl,F⟩;subst l;go_wp2_with fail;go_at_call 203;refine(yL ok f (by first|omega|(simp;omega)) _).mono ?_;rintro e G ⟨rfl,I,m,n⟩;go_wp2_with fail;go_end0;exact⟨U,_,_,m,(((Tr.fF<|eZ.iH _ _ _).e8 k).e8 n)⟩
def aj2(ok:E.Ok)(b:R E i c x v ((zQ++[h])++[q]) s a w)(r:zQ.length<=800)(g:c.y<8)(d:fV q): Ò À 205 #[Å<|Ã ⟨i,0,Ä⟩,Â Ë 16] w λe f=>e=Ç (æ #[])/\kC E i x v a.length w c zQ (s.r c.y (q%16).toNat h) a f:=by have t:=b.r.r 0 _ U;have u:=b.r.r 2 _ U;have z:=b.r.M;have B:=fc.M b.C;have H:=e7 b;go_enter ê,å;go_wp2_with fail;go_quiet (fail);go_wp2_with fail;go_at_call 204;refine(mR ok (H.out.fF<|eZ.iH _ _ _) (by first|omega|(simp;omega))).mono ?_;rintro e C ⟨rfl,D,k,l⟩;go_wp2_with fail;go_at_call 204;refine(mR ok k (by first|omega|(simp;omega))).mono ?_;rintro e F ⟨rfl,G,f,m⟩;have I:=f.C.YU g (j:=(q%16).toNat) (by have:=d.1;omega);have J:=fc.C f.C<|c.y*18+2+(q%16).toNat;go_wp2_with fail;go_at_call 208;refine(YV E.r (c.y*18) q d.1 d.2 _).mono ?_;rintro e n ⟨rfl,K⟩;subst n;go_wp2_with fail;go_end0;let⟨o,p⟩:=f.S ok (c.y*18+2+(q%16).toNat) (f.C.Rl g (by have:=d.1;omega) h);exact⟨U,_,_,o,(((Tr.fF<|eZ.iH _ _ _).e8 l).e8 m).e8 p⟩
def aj3(ok:E.Ok)(b:R E i c x v ((zQ++[h])++[q]) s a w)(u:zQ.length<=800)(j:c.y<8)(d:fV h)(f:fV q)(g:gC s): Ò À 205 #[Å<|Ã ⟨i,0,Ä⟩,Â Ë 18] w λe H=>e=Ç (æ #[])/\kC E i x v a.length w c (zQ++[(qt s c.y q h).1]) (qt s c.y q h).2 a H:=by have z:=b.r.r 0 _ U;have B:=b.r.r 2 _ U;have C:=b.r.M;have D:=fc.M b.C;have H:=e7 b;go_enter ê,å;go_wp2_with fail;go_quiet (fail);go_wp2_with fail;go_at_call 204;refine(mR ok (H.out.fF<|eZ.iH _ _ _) (by first|omega|(simp;omega))).mono ?_;rintro e F ⟨rfl,G,k,l⟩;go_wp2_with fail;go_at_call 204;refine(mR ok k (by first|omega|(simp;omega))).mono ?_;rintro e I ⟨rfl,J,m,n⟩;go_wp2_with fail;go_at_call 209;refine(ajT E ok i c _ v _ s a _ m q h f.1 f.2 d.1 d.2 j (g.fp _).1 (g.fp _).2).mono ?_;rintro e K ⟨rfl,o,p⟩;go_wp2_with fail;go_at_call 203;refine(yL ok o (by first|omega|(simp;omega)) _).mono ?_;rintro e L ⟨rfl,M,r,t⟩;go_wp2_with fail;go_end0;exact⟨U,_,_,r,(((((Tr.fF<|eZ.iH _ _ _).e8 l).e8 n).e8 p).e8 t)⟩
def aj4{k:Int}(ok:E.Ok)(b:R E i c x v ((zQ++[h])++[q]) s a w)(r:zQ.length<=800)(t:c.y<8)(d:fV h)(f:fV q)(u:2<=k)(z:k<=7): Ò À 205 #[Å<|Ã ⟨i,0,Ä⟩,Â Ë k] w λe H=>e=Ç (æ #[])/\kC E i x v a.length w c (zQ++[wZ k h q]) s a H:=by
 have B:=b.r.r 0 _ U;have C:=b.r.r 2 _ U;have D:=b.r.M;have F:=fc.M b.C;have G:(k==8)=Ï:=by rw[beq_eq_false_iff_ne];omega
 have I:(k==9)=Ï:=by rw[beq_eq_false_iff_ne];omega
 have J:(k==10)=Ï:=by rw[beq_eq_false_iff_ne];omega
 have K:(k==11)=Ï:=by rw[beq_eq_false_iff_ne];omega
 have L:(k==12)=Ï:=by rw[beq_eq_false_iff_ne];omega
 have M:(k==13)=Ï:=by rw[beq_eq_false_iff_ne];omega
 have N:(k==14)=Ï:=by rw[beq_eq_false_iff_ne];omega
 have O:(k==15)=Ï:=by rw[beq_eq_false_iff_ne];omega
 have P:(k==16)=Ï:=by rw[beq_eq_false_iff_ne];omega
 have Q:(k==18)=Ï:=by rw[beq_eq_false_iff_ne];omega
 have S:(k==19)=Ï:=by rw[beq_eq_false_iff_ne];omega
 have T:(k==20)=Ï:=by rw[beq_eq_false_iff_ne];omega
 have H:=e7 b;go_enter ê,å;go_wp2_with fail;go_quiet (fail);go_wp2_with fail;go_at_call 204;refine(mR ok (H.out.fF<|eZ.iH _ _ _) (by first|omega|(simp;omega))).mono ?_;rintro e V ⟨rfl,W,g,j⟩;go_wp2_with fail;go_at_call 204;refine(mR ok g (by first|omega|(simp;omega))).mono ?_;rintro e X ⟨rfl,Y,l,m⟩;go_wp2_with fail;go_at_call 211;refine(ajL k h q d.1 d.2 f.1 f.2 _).mono ?_;rintro e n ⟨rfl,tJ⟩;subst n;go_wp2_with fail;go_at_call 203;refine(yL ok l (by first|omega|(simp;omega)) _).mono ?_;rintro e w4 ⟨rfl,sv4,o,p⟩;go_wp2_with fail;go_end0;exact⟨U,_,_,o,((((Tr.fF<|eZ.iH _ _ _).e8 j).e8 m).e8 p)⟩
end
def KJ{P:Program}{ops:Array Oper}{o:Oper}{a:Act}{w:World}{K:Act->World->Prop}{Q:Exit->Act->World->Prop}{E:Prop}{base:Nat}{e:TypeId}{size n:Nat}{v:Value}{xs:List Value} (hg:o.guard=none) (s x:Operand) (t:TypeId) (E7:o.op=Op.call {callee:=Callee.builtin Builtin.append,args:=#[s,x],argTypes:=#[t,t]}) {i:TypeInfo} {z:Value} {bytes:Nat} (ht:P.underlying t=some (.slice e)) (hi:P.info? e=some i) (hz:i.zero=some z) (wV:i.size=size) (wW:i.bytes=bytes) (ry:z.cells.size=size) (hs:a.eval s=v) (kX:w.ownsRow base e size v n xs) (ad:Addr) {m c:Nat} (news:List Value) (hx:a.eval x=.slice (some ad) m c) (hm:0<m) (hl:news.length=m*size) (Ri:∀j u,news[j]?=some u->w.cell? (ad.add j)=some u) (h1:∀u∈news,u.oneCell'=true) (Br:n+m<=maxLen) (Bs:(n+m)*bytes<=140737488355328) (Bp:base<=w.heap.size) (h:∀v' w',pD w base e size v n xs m news v' w'->K (a.put o.dst v') w') (hfl:lI e=false\/(0<news.length/\(∀u∈xs++news,jY u=true)/\∀u∈z.cells.toList,jY u=true):=by first|exact Or.inl (by decide)|exact Or.inr ⟨by simp,by simp[jY],by simp[jY,Value.cells]⟩): if Region.wanted o (yielded ops a.tmps)=true then Oper.wp P o a w K Q else E:=by
 have hw:Ĝ o (ah ops a.tmps)=Ú:=by simp[Ĝ,hg]
 rw[if_pos hw];let⟨v',w',hr,h2⟩:=Re (ty:=o.type) ht hi hz wV wW ry kX ad c news hm hl Ri h1 Br Bs Bp hfl;unfold Ń;simp[Ĥ,E7,ae,aO,af,hs,hx,hr,į];exact h v' w' h2
def aj5:(À.info? 257).map (λi=>(i.zero,i.size,i.bytes))=Ã (Ã<|Ē #[Â Ë 0,Â Æ 0],2,16):=fj
def YZ(b:List (Nat×Int)):∀u∈jZ b,jY u=Ú:=λu a=>by unfold jZ at a;let⟨e,_,h⟩:=Β.1 a;simp[Rj,pE]at h;rcases h with rfl|rfl<;>rfl
section
variable{E:iM}{c:RC}{g d:È}{s:St}{ls:List (Nat×Int)}{p:Int}
theorem R.aj6(ok:E.Ok)(h:R E k c g jQ zQ s ls w)(a:pD w 0 257 2 jQ ls.length (jZ ls) 1 [Â Ë b,Â Æ p] d W): (R E k c g jQ zQ s ls W/\W.ownsRow 0 257 2 d (ls++[(b,p)]).length (jZ<|ls++[(b,p)]))/\ R E k c g d zQ s (ls++[(b,p)]) (W.setCell ⟨E.r,144,Ä⟩ d)/\Tr E k g jQ ls.length w g d (ls++[(b,p)]).length (W.setCell ⟨E.r,144,Ä⟩ d):=by
 have m:∀{i:Nat} {o:Array È} {T:õ},jQ.ownBlock=Ã i->w.heap[i]?=Ã (Ð o T (0,0))->T=257:=λ{i o T} q hc=>by let⟨l,e⟩:=lr h.M q;grind
 have f:R E k c g jQ zQ s ls W:=⟨h.r.I a.r λq=>absurd (m q h.r) A,gV h.I a.r (λj q r=>by let⟨l,e⟩:=lr h.I q;exact absurd (m r e) A),h.C.I a.r λq=>ok.r<|m q h.C,a.I _ _ _ h.M λ_=>Þ _⟩;have n:W.ownsRow 0 257 2 d (ls++[(b,p)]).length (jZ<|ls++[(b,p)]):=by have:=a.fh;rwa[show jZ ls++[Â Ë b,Â Æ p]=jZ (ls++[(b,p)]) by simp[jZ,Rj,pE],show ls.length+1=(ls++[(b,p)]).length by simp]at this
 have l:=eZ.I (X:=λe=>e=E.r) (p:=⟨E.r,144,Ä⟩) U d<|Ù<|fc.G f.C ok.C;refine⟨⟨f,n⟩,⟨f.r.I l (fc.S f.C f.r ok.I).symm,gV f.I l λj q r=>jl f.I f.C ok.M.symm (by rw[q,r]),f.C.ajH d,gV n l λj q r=>jl n f.C ok.r.symm<|by rw[q,r]⟩,?_,λj q=>Ø q,λj q=> ?_,λv x y t z=> ?_⟩
 .refine(a.r.S λe _ q=>Ù<|Ù<|Ù q).C l λi _ q=>Ø q
 .rcases a.C with e|e;all_goals grind
 .have u:=a.I v x y t z;refine⟨gV u l λj q r=>jl u f.C ok.r.symm (by rw[q,r]),λq=> ?_⟩;rcases a.C with e|e
  .grind
  .rw[e]at q;have:=(t.lt _ q).2;omega
end
def gk{f:(Nat->Value)->Act}(a:Act)(h:a=f (λn=>a.tmps.getD n undef):=by rfl):∃u,a=f u:=⟨_,h⟩
section
variable{md:Ι}{ops:Array ş}{Q:aS->é->É->Prop}{S:É->Prop}{X:List Nat}
def ov(P:aE)(md:Ι)(ops:Array ş)(Q:aS->é->É->Prop)(S:É->Prop)(X:List Nat):Nat->Array Bool->é->É->Prop
 |0,listed,a,w=>Ā md ops listed=[]/\Q .normal a w
 |fuel+1,listed,a,w=>(Ā md ops listed=[]->Q .normal a w)/\
  ∀i∈Ā md ops listed,wpOp P ops Q i (λc b=>(i∉X->S b)/\ov P md ops Q S X fuel (listed.setIfInBounds i Ú) c b) a w
def Y0:∀(b:Nat) (listed:Array Bool) (a:é) (w:É),ov P md ops Q S X b listed a w->wpAny P md ops Q b listed a w
 |0,_,_,_,h=>h
 |b+1,_,_,_,h=>⟨h.1,λi c=>wpOp_mono (λd e q=>Y0 b _ d e q.2)<|h.2 i c⟩
def sf(md:Ι)(ops:Array ş)(X:List Nat)(i:Nat):Bool:=X.all λx=>match ops[x]? with
 |some o=>o.after.toList.any λe=>ń md e&&e.on==i
 |none=>Ú
theorem aj7{listed:Array Bool}(a:sf md ops X i=Ú)(c:ops[j]?=Ã o)(d:listed.getD i Ï=Ï)(f:∀e∈o.after,ń md e=Ú->listed.getD e.on Ï=Ú):j∉X:=by intro b;have g:=List.all_eq_true.1 a j b;grind
theorem aj8{m:ş}(x:ops[i]?=Ã m)(y:∀(j:Nat) (o:ş) n b,ops[j]?=Ã o->o.op≠.select n b)(E:sf md ops X i=Ú) (F:∀c a w,Q (.panic c) (a.put m.dst v) w->Q (.panic c) a w): ∀(p:Nat) (d:Array Bool) (a:é) (w:É),(∀j g,ops[j]?=Ã g->j≠i->d.getD j Ú=Ï->(∀e∈g.after,ń md e=Ú->e.on≠i)->m.apart ops g=Ú)-> i∈Ā md ops d->YieldsIf P ops S m v a->S w->ov P md ops Q S X p (d.setIfInBounds i Ú) (a.put m.dst v) w->ov P md ops Q S X (p+1) d a w:=by
 have G:∀{d:Array Bool},i∈Ā md ops d->d.getD i Ï=Ï:=λ{d} l=>by have D:=(mem_ready.1 l).1;grind
 intro p
 induction p with
 |zero=>
  intro d a w _ l s r H;refine⟨λh=>absurd (h▸l) fg,λj t=> ?_⟩;by_cases f:j=i
  .subst f;exact s.wpOp x r ⟨λ_=>r,H⟩
  .exact absurd (H.1▸Ω t f) fg
 |succ p I=>
  intro d a w z l s r H;refine⟨λh=>absurd (h▸l) fg,λj t=> ?_⟩;by_cases f:j=i
  .subst f;exact s.wpOp x r ⟨λ_=>r,H⟩
  .let⟨B,g,u,J⟩:=mem_ready.1 t;have K:∀e∈g.after,ń md e=Ú->e.on≠i:=λe V W Y=>by
    grind
   refine wpOp_mono (λD L q=>⟨q.2.1,I (d.setIfInBounds j Ú) D L (λk M N O C T=>z k M N O ?_ T) (Ω l<|Ne.symm f) q.1 (q.2.1<|aj7 E u (G l) J) ?_⟩)<|wpOp_putIf u (z j g u f B K) (λn b=>y i m n b x) (λn b=>y j g n b u) F s<|H.2 j<|Ω t f
   .by_cases D:j=k
    .subst D;exact B
    .rwa[getD_set_ne Ú D]at C
   .rw[Array.setIfInBounds_comm _ _ f];exact q.2.2
def G2{oi:ş}{listed:Array Bool}(b:ops[i]?=Ã oi) (d:Region.noSelect ops=Ú) (e:Region.free md ops listed i=Ú) (f:(Ā md ops listed).contains i=Ú) (g:sf md ops X i=Ú) (j:∀c y w,Q (.panic c) (y.put oi.dst v) w->Q (.panic c) y w) (k:S w) (l:YieldsIf P ops S oi v y) (h:ov P md ops Q S X n (listed.setIfInBounds i Ú) (y.put oi.dst v) w):ov P md ops Q S X (n+1) listed y w:= aj8 b (Region.noSelect_spec d) g j n listed y w (Region.free_spec b e) (by simpa using f) l k h
def aj9{listed:Array Bool}(c:Ā md ops listed=[i])(e:ops[i]?=Ã o) (h:∀b:é->É->Prop,Shut (∀y w,(i∉X->S w)->ov P md ops Q S X n (listed.setIfInBounds i Ú) y w->b y w)->if Ĝ o (ah ops y.tmps)=Ú then Ń P o y w b Q else b (y.put o.dst ā) w):ov P md ops Q S X (n+1) listed y w:=by
 refine⟨λq=>absurd (c▸q) fg,λj d=> ?_⟩;rw[c]at d;have:j=i:=by simpa using d
 subst this;exact χ e λb f=>h b λy w g k=>f y w ⟨g,k⟩
def ix:List ş->Nat->Option ş
 |[],_=>Ä
 |o::_,0=>Ã o
 |_::l,n+1=>ix l n
def Y1:∀{l:List ş} {i:Nat} {o:ş},ix l i=Ã o->l.toArray[i]?=Ã o
 |[],_,_,h=>by cases h
 |o::l,0,_,h=>by simpa[ix]using h
 |o::l,n+1,_,h=>by simpa using Y1 (l:=l) h
def Y2(h:ix ops.toList i=Ã o):ops[i]?=Ã o:=by simpa using Y1 h
def tk{oi:Oper}{v:Value}{fuel:Nat}{listed:Array Bool}{a0 a a':Act}{w:World}(hS:S w)(i:Nat:=ops.size-1-fuel)(h:ov P md ops Q S X fuel (listed.setIfInBounds i true) a' w) (h0:a0=a:=by(try simp only[Act.put,List.setIfInBounds_toArray,List.set_cons_zero,List.set_cons_succ]);rfl) (hi:ix ops.toList i=some oi:=by rfl) (hs:Region.noSelect ops=true:=by kernel_rfl) (hf:Region.free md ops listed i=true:=by kernel_rfl) (hr:(Region.ready md ops listed).contains i=true:=by kernel_rfl) (hw:sf md ops X i=true:=by kernel_rfl) (hQ:∀v c a w,Q (.panic c) (a.put oi.dst v) w->Q (.panic c) a w:=by exact λ_ _ _ _ h=>h) (hn:Region.wanted oi (yielded ops a.tmps)=true:=by rfl) (hy:∀w,S w->(execOp a.eval oi).run P w=.ok (.value v) w:=by intro w h;revert h;simp only[and_imp];intros;go_simp;try(with_reducible rfl)) (ha:a.put oi.dst v=a':=by(try simp only[Act.put,List.setIfInBounds_toArray,List.set_cons_zero,List.set_cons_succ]);rfl):ov P md ops Q S X (fuel+1) listed a0 w:= h0▸G2 (Y2 hi) hs hf hr hw (hQ v) hS (Ø ⟨hn,hy⟩) (ha▸h)
def gq(i:Nat){o:Oper}{fuel:Nat}{listed:Array Bool}{a0 a:Act}{w:World} (h:∀K':Act->World->Prop,Shut (∀a w,(i∉X->S w)->ov P md ops Q S X fuel (listed.setIfInBounds i true) a w->K' a w)->if Region.wanted o (yielded ops a.tmps)=true then Oper.wp P o a w K' Q else K' (a.put o.dst undef) w) (h0:a0=a:=by(try simp only[Act.put,List.setIfInBounds_toArray,List.set_cons_zero,List.set_cons_succ]);rfl) (hr:Region.ready md ops listed=[i]:=by kernel_rfl) (ho:ix ops.toList i=some o:=by rfl):ov P md ops Q S X (fuel+1) listed a0 w:=h0▸aj9 hr (Y2 ho) h
def akb{oi oj:ş}{listed:Array Bool}(g:Ā md ops listed=[i,j])(h:ops[i]?=Ã oi)(l:ops[j]?=Ã oj) (m:∀b:é->É->Prop,Shut (∀y w,(i∉X->S w)->ov P md ops Q S X n (listed.setIfInBounds i Ú) y w->b y w)->if Ĝ oi (ah ops y.tmps)=Ú then Ń P oi y w b Q else b (y.put oi.dst ā) w) (o:∀b:é->É->Prop,Shut (∀y w,(j∉X->S w)->ov P md ops Q S X n (listed.setIfInBounds j Ú) y w->b y w)->if Ĝ oj (ah ops y.tmps)=Ú then Ń P oj y w b Q else b (y.put oj.dst ā) w):ov P md ops Q S X (n+1) listed y w:=by
 refine⟨λq=>absurd (g▸q) fg,λk c=> ?_⟩;rw[g]at c;rcases List.mem_cons.1 c with rfl|c
 .exact χ h λb d=>m b λy w e f=>d y w ⟨e,f⟩
 .have:k=j:=by simpa using c
  subst this;exact χ l λb d=>o b λy w e f=>d y w ⟨e,f⟩
def ly{listed:Array Bool}(b:Ā md ops listed=[])(h:Q .normal y w):∀c,ov P md ops Q S X c listed y w
 |0=>⟨b,h⟩
 |_+1=>⟨λ_=>h,by rw[b];simp⟩
def lM{id:Nat}(S:É->Prop)(X:List Nat)(b:P.follows .mixedOrders=Ú) (h:ov P .any ops Q S X ops.size (ō ops.size Ï) y w.drew):(Code.region id ops Ú).wp P Q y w:= wp_region_any b<|Y0 _ _ _ _ h
end
section
variable{E:iM}{c:RC}{s:St}{a:List (Nat×Int)}
def akc(ok:E.Ok)(b:R E i c x v (zQ++[h]) s a w)(G:zQ.length<=800)(I:c.y<8)(J:a.length<=1000000): Ò À 205 #[Å<|Ã ⟨i,0,Ä⟩,Â Ë 19] w λe u=>e=Ç (æ #[])/\kC E i x v a.length w c zQ s (a++[(c.y,h)]) u:=by
 have L:w.cell? ⟨i,0,Ä⟩=Ã (Å<|Ã ⟨E.r,0,Ä⟩):=b.r.r 0 _ U;have M:w.cell? ⟨i,2,Ä⟩=Ã (Â Ë c.y):=b.r.r 2 _ U;have N:=b.r.M;have O:=fc.M b.C;let⟨P,l,o,p,r⟩:=í aj5;have j:=e7<|Á l<|Á o<|Á p r;have H:=e7 b;clear b l o p r;go_enter ê,å;go_wp2_with fail;go_quiet (fail);go_wp2_with fail;have B:=e7<|Á ((H.out.fF<|(eZ.iH _ _ nq).e8<|eZ.fM _ _).r.r 0 _ rfl)<|Á ((H.out.fF<|(eZ.iH _ _ nq).e8<|eZ.fM _ _).r.r 2 _ rfl) (H.out.fF<|(eZ.iH _ _ nq).e8<|eZ.fM _ _).C.Bt;refine lM (λu=>u.cell? ⟨i,0,Ä⟩=Ã (Å<|Ã ⟨E.r,0,Ä⟩)/\u.cell? ⟨i,2,Ä⟩=Ã (Â Ë c.y)/\u.cell? ⟨E.r,144,Ä⟩=Ã v) [22] fj ?_;iterate 16 apply tk B.out
 refine gq 16 ?_;intro K d;go_simp;go_at_call 204;refine(mR ok (H.out.fF<|eZ.iH _ _ _) Z).mono ?_;rintro e t ⟨rfl,Q,f,C⟩;dsimp only;refine d.out _ _ (λ_=>⟨f.r.r 0 _ U,f.r.r 2 _ U,f.C.Bt⟩) ?_;clear d K;refine gq 17 ?_;intro K d;go_simp;refine d.out _ _ (λ_=>⟨f.r.r 0 _ U,f.r.r 2 _ U,f.C.Bt⟩) ?_;clear d K;have g:=f.fF<|eZ.gB e9 t #[Â Ë c.y,Â Æ h] 257;refine gq 18 ?_;intro K d;go_simp;refine d.out _ _ (λ_=>⟨g.r.r 0 _ U,g.r.r 2 _ U,g.C.Bt⟩) ?_;clear d K;refine gq 19 ?_;intro K d;refine KJ (hfl:=Ù ⟨fg,λu k=>(ú.1 k).elim (YZ a u) (λq=>by simp at q;rcases q with rfl|rfl<;>rfl),by simp[jY,ğ]⟩) (base:=0) (n:=a.length) (xs:=jZ a) (m:=1) fR _ _ 142 fR Tryz.underlying142 j.out.1 j.out.2.1 j.out.2.2.1 j.out.2.2.2 U fR g.M ⟨t.heap.size,0,Ä⟩ [Â Ë c.y,Â Æ h] fR Z U (ŵ _ _ _ _) (λu k=>by simp at k;rcases k with rfl|rfl<;>rfl) (by unfold Ą;omega) Z (â _) ?_;intro S T k;obtain⟨V,W,rfl⟩:=jx k.fh;let⟨⟨u,_⟩,D,F⟩:=g.aj6 ok k;refine d.out _ _ (λ_=>⟨u.r.r 0 _ U,u.r.r 2 _ U,u.C.Bt⟩) ?_;clear d K;have z:=u.C.Bt;have X:=fc.C u.C 144;refine gq 20 ?_;intro K d;go_simp;refine d.out _ _ (λ_=>⟨u.r.r 0 _ U,u.r.r 2 _ U,z⟩) ?_;clear d K;refine gq 21 ?_;intro K d;go_simp;refine d.out _ _ (λ_=>⟨u.r.r 0 _ U,u.r.r 2 _ U,z⟩) ?_;clear d K;refine gq 22 ?_;intro K d;go_simp;refine d.out _ _ (λq=>absurd fg q) ?_;clear d K;try simp only[ĵ,Õ,ã,ä]
 refine ly fj ?_ _;go_wp2_with fail;go_end0;exact⟨U,_,_,D,(((Tr.fF<|(eZ.iH _ _ _).e8<|eZ.fM _ _).e8 C).e8<|Tr.fF<|eZ.gB _ _ _ _).e8 F⟩
end
structure RT where
 r:List Int
 s:St
 C:List (Nat×Int)
 g:Int
def iN(F:lL)(c:RC)(t:RT)(q p k:Int):Int×Int×RT:=
 if c.d=4 then(0,0,t)else
  ((F t.s t.C c.y (q%8).toNat (min p t.g) k).M,wY (F t.s t.C c.y (q%8).toNat (min p t.g) k).C,
    {t with s:=(F t.s t.C c.y (q%8).toNat (min p t.g) k).s,C:=(F t.s t.C c.y (q%8).toNat (min p t.g) k).I,g:=t.g-(F t.s t.C c.y (q%8).toNat (min p t.g) k).r})
def fQ(l:List Int):List Int:=l.dropLast
def nO(F:lL)(c:RC)(a:Nat)(t:RT):RT:=
 if a=8 then{t with r:=fQ t.r++[fT t.r,fT t.r]}
 else if a=9 then{t with r:=fQ (fQ t.r)++[fT t.r,fT<|fQ t.r]}
 else if a=10 then{t with r:=fQ t.r}
 else if a=11 then{t with r:=t.r++[c.k]}
 else if a=12 then{t with r:=t.r++[(c.x:Int)]}
 else if a=13 then{t with r:=t.r++[(c.y:Int)]}
 else if a=14 then{t with r:=t.r++[(t.s c.y).fp]}
 else if a=15 then{t with r:=fQ t.r++[(t.s c.y).C (fT t.r%16).toNat]}
 else if a=16 then{t with r:=fQ<|fQ t.r,s:=t.s.r c.y (fT t.r%16).toNat (fT<|fQ t.r)}
 else if a=18 then{t with r:=fQ (fQ t.r)++[(qt t.s c.y (fT t.r)<|fT<|fQ t.r).1],s:=(qt t.s c.y (fT t.r)<|fT<|fQ t.r).2}
 else if a=19 then{t with r:=fQ t.r,C:=t.C++[(c.y,fT t.r)]}
 else if a=20 then
  {(iN F c t (fT t.r) (fT<|fQ t.r)<|fT<|fQ<|fQ t.r).2.2 with r:=fQ (fQ<|fQ t.r)++[(iN F c t (fT t.r) (fT<|fQ t.r)<|fT<|fQ<|fQ t.r).1,(iN F c t (fT t.r) (fT<|fQ t.r)<|fT<|fQ<|fQ t.r).2.1]}
 else{t with r:=fQ (fQ t.r)++[wZ a (fT<|fQ t.r)<|fT t.r]}
structure Y3(ls:List (Nat×Int))(g:Int)(e:Bv):Prop where
 C:0<=e.r
 r:e.r<=g
 N:gC e.s
 M:fV e.M
 I:(e.I.length:Int)<=ls.length+e.r
def pG(F:lL):Prop:=∀s a x y g k,gC s->x<8->y<8->fV k->0<=g->g<=100000->(a.length:Int)+g<=1000000->Y3 a g (F s a x y g k)
def sB(F:lL)(d:Int):Prop:=∀(E:iM),E.Ok->∀(s:St) (b:È) (a:List (Nat×Int)) (x y:Nat) (g k:Int) (w:É),im E.r E.T E.C s b w->w.ownsRow 0 257 2 b a.length (jZ a)->iD w->gC s->x<8->y<8->0<=g->g<=100000->fV k->(a.length:Int)+g<=1000000->
 Ò À 173 #[Å<|Ã ⟨E.r,0,Ä⟩,Â Ë x,Â Ë y,Â Æ g,Â Æ k,Â Ë d] w λe c=>
  e=Ç (Ē #[Â Æ (F s a x y g k).r,Ñ (F s a x y g k).C,Â Æ (F s a x y g k).M])/\∃f,hD E b a.length w (F s a x y g k).s (F s a x y g k).I c f
section
variable{E:iM}{rb:Nat}{c:RC}{sv lv:È}{s b:St}{ls a:List (Nat×Int)}{q p:Int}
theorem R.xa(ok:E.Ok)(d:R E rb c sv lv zQ s ls w)(r:hD E lv ls.length w b a u v):R E rb c sv v zQ b a u/\Tr E rb sv lv ls.length w sv v a.length u:=by
 have g:∀{j:Nat} {i:Array È} {T:õ},w.heap[j]?=Ã (Ð i T (0,0))->T≠E.T->T≠257->¬(j=E.r\/lv.ownBlock=Ã j):=λ{j i T} f h1 h2=>by
  rintro(e|e)
  .rw[e,d.C]at f;grind
  .let⟨m,k⟩:=lr d.M e;grind
 refine⟨⟨d.r.I r.C<|g d.r ok.I.symm A,gV d.I r.C λj f=> ?_,r.r,r.I⟩,r.C.S λh _ q=>q.elim Ø λq=>Ù<|Ù<|Ù q,λj q=>Ø q,r.l,r.M⟩;let⟨m,k⟩:=lr d.I f;exact g k ok.M.symm A
def akd(ok:E.Ok)(a:R E rb c sv lv zQ s ls w)(b:c.d=4): Ò À 210 #[Å<|Ã ⟨rb,0,Ä⟩,Â Æ q,Â Æ p,Â Æ h] w λe u=>e=Ç (æ #[Â Æ 0,Â Æ 0])/\u=w:=by
 have e:w.cell? ⟨rb,4,Ä⟩=Ã (Â Ë 4):=by have:=a.r.r 4 (Â Ë c.d) U;rwa[b]at this
 go_enter ai,θ;go_wp2_with fail;go_ret2;exact⟨U,U⟩
end
section
variable{E:iM}{c:RC}{w':É}{s f:St}{a l:List (Nat×Int)}{q p:Int}{F:lL}
def ake(E:iM)(n:Nat)(c:RC)(jQ x:È)(zQ:List Int)(a:List (Nat×Int))(w W:É)(r:Bv)(w':É):Prop:=
 ∃z,hD E x a.length W r.s r.I w' z/\R E n c jQ z zQ r.s r.I w'/\Tr E n jQ x a.length w jQ z r.I.length w'
def akf(p g:Int):(if g<p then g else p)=min p g:=by rw[Int.min_def];split<;>split<;>omega
def G3(a:0<=h)(b:h<9223372036854775808):Ë.wrap h=h:=by show(if(Ë.signed&&decide (h%(2^64:Int)≥(2^63:Int)))=Ú then h%(2^64:Int)-2^64 else h%(2^64:Int))=h;rw[(Int.emod_eq_of_lt a Z),if_neg];simp;omega
def akg{q:Int}(h:fV q):Ë.wrap (q.tmod 8)=((q%8).toNat:Int):=by
 rw[Int.tmod_eq_emod_of_nonneg h.1];have:Ë.wrap (q%8)=q%8:=by exact G3 Z Z
 rw[this];omega
def akh(a:0<=h)(b:h<4):Ë.wrap (h+1)=h+1:=by exact G3 Z Z
def uT(ok:E.Ok)(b:R E n c jQ x zQ s a w)(j:0<=c.d)(k:c.d<4)(hF:sB F (c.d+1))(l:iD w)(m:gC s)(o:c.y<8)(i:fV q)(t:fV p)(u:fV h)(C:0<=c.g)(D:c.g<=100000)(G:(a.length:Int)+c.g<=1000000)(W:É)(kW:eZ e9 w W): Ò À 173 #[Å<|Ã ⟨E.r,0,Ä⟩,Â Ë c.y,Â Ë<|Ë.wrap<|q.tmod 8,Â Æ<|min p c.g,Â Æ h,Â Ë<|Ë.wrap<|c.d+1] W λe w'=>
  e=Ç (Ē #[Â Æ (F s a c.y (q%8).toNat (min p c.g) h).r,Ñ (F s a c.y (q%8).toNat (min p c.g) h).C,Â Æ (F s a c.y (q%8).toNat (min p c.g) h).M])/\ake E n c jQ x zQ a w W (F s a c.y (q%8).toNat (min p c.g) h) w':=by
 have f:=b.fF kW;rw[akg i,akh j k];have H:=t.1;have I:=i.1;refine(hF E ok s x a c.y (q%8).toNat (min p c.g) h W f.C f.M (l.r kW id) m o Z Z Z u Z).mono ?_;rintro e w' ⟨rfl,z,r⟩;let⟨v,B⟩:=f.xa ok r;exact⟨U,z,r,v,(Tr.fF kW).e8 B⟩
def aki{b:List È}(h:R E n c jQ x zQ s a w)(r:hD E x i (Č<|Ă w<|Ð b.toArray T) f l u z):fc w.heap.size b T u:=by
 refine fc.I (w:=Č<|Ă w<|Ð b.toArray T) (fc.N w b T) r.C ?_;rintro(e|e)
 .have:=fc.M h.C;omega
 .have:=(h.M.lt _ e).2;omega
def Rp{f:List È}{jO:È}(ok:E.Ok)(d:R E n c jQ x zQ s a u)(t:Tr E n jO z b w jQ x k u)(m:w.heap.size<=j)(e:fc j f 252 u)(i:Nat)(v:È): R E n c jQ x zQ s a (u.setCell ⟨j,i,Ä⟩ v)/\Tr E n jO z b w jQ x k (u.setCell ⟨j,i,Ä⟩ v)/\fc j (f.set i v) 252 (u.setCell ⟨j,i,Ä⟩ v):=by have g:eZ (λh=>h=j) u (u.setCell ⟨j,i,Ä⟩ v):=eZ.I (X:=λh=>h=j) (p:=⟨j,i,Ä⟩) U v<|Ù e.G;refine⟨d.ajR ok e g,t.ajQ g (λi q=>by omega) λi o q l=> ?_,e.fW i v⟩;unfold fc at e;rw[q,e]at l;cases l
def akj(ok:E.Ok)(f:R E n c jQ x zQ s a w)(oL:0<=c.d)(hd:c.d<4)(hF:sB F (c.d+1))(hI:pG F)(hr:iD w)(P:gC s)(hx:c.x<8)(hy:c.y<8)(Q:fV q)(S:fV p)(hk:fV h)(vW:0<=c.g)(vd:c.g<=100000)(hlen:(a.length:Int)+c.g<=1000000): Ò À 210 #[Å<|Ã ⟨n,0,Ä⟩,Â Æ q,Â Æ p,Â Æ h] w λe w'=>e=Ç (æ #[Â Æ (F s a c.y (q%8).toNat (min p c.g) h).M,Â Æ<|wY (F s a c.y (q%8).toNat (min p c.g) h).C])/\kC E n jQ x a.length w {c with g:=c.g-(F s a c.y (q%8).toNat (min p c.g) h).r} zQ (F s a c.y (q%8).toNat (min p c.g) h).s (F s a c.y (q%8).toNat (min p c.g) h).I w':=by
 have c0:w.cell? ⟨n,0,Ä⟩=Ã (Å<|Ã ⟨E.r,0,Ä⟩):=f.r.r 0 _ U;have c2:w.cell? ⟨n,2,Ä⟩=Ã (Â Ë c.y):=f.r.r 2 _ U;have c4:w.cell? ⟨n,4,Ä⟩=Ã (Â Ë c.d):=f.r.r 4 _ U;have c5:w.cell? ⟨n,5,Ä⟩=Ã (Â Æ c.g):=f.r.r 5 _ U;have gH:=f.r.M;have J4:=fc.M f.C;have hq0:=Q.1;have AX:=Q.2;have Y4:=S.1;have hp1:=S.2;have call:=uT ok f oL hd hF hr P hy Q S hk vW vd hlen;have T:=hI s a c.y (q%8).toNat (min p c.g) h P hy Z hk Z Z Z;have M:=T.C;have N:=T.r;clear T;generalize F s a c.y (q%8).toNat (min p c.g) h=r at*;have H:=e7<|Á f<|Á call<|Á M N;have Rq:(c.d==4)=Ï:=by rw[beq_eq_false_iff_ne];omega
 clear f hr P hlen call M N;go_enter ai,θ;go_wp2_with fail;have l:=e7<|Á ((H.out.1.fF<|eZ.fM _ _).r.r 0 _ rfl)<|Á ((H.out.1.fF<|eZ.fM _ _).r.r 2 _ rfl)<|Á ((H.out.1.fF<|eZ.fM _ _).r.r 4 _ rfl)<|(H.out.1.fF<|eZ.fM _ _).r.r 5 _ rfl;refine lM (λw'=>w'.cell? ⟨n,0,Ä⟩=Ã (Å<|Ã ⟨E.r,0,Ä⟩)/\w'.cell? ⟨n,2,Ä⟩=Ã (Â Ë c.y)/\w'.cell? ⟨n,4,Ä⟩=Ã (Â Ë c.d)/\w'.cell? ⟨n,5,Ä⟩=Ã (Â Æ c.g)) [25] fj ?_;iterate 16 apply tk l.out
 refine G2 (i:=16) (oi:={dst:=Ã 32,op:=aD {callee:=Go.Callee.builtin bm,args:=#[î 27,î 31],argTypes:=#[36,36]},type:=36,pos:= "run.go:186",after:=#[{on:=11,ground:=ï},{on:=15,ground:=ï}],guard:=Ä}) (v:=Â Æ<|min p c.g) U fj fj fj fj (λ_ _ _ f=>f) l.out (Ø ⟨fR,?akk⟩) ?ar3
 case akk=>(intro w hSw;let⟨q0,q2,q4,q5⟩:=hSw;go_simp<;>rw[akf])
 apply tk l.out 17;apply tk l.out 18;apply tk l.out 19;apply tk l.out 20;apply tk l.out 21;apply tk l.out 22;refine akb (i:=23) (j:=24) (oi:={dst:=Ã 39,op:=aD {callee:=Go.Callee.value<|bg 173,args:=#[î 19,î 23,î 26,î 32,î 33,î 38],argTypes:=#[267,3,3,36,36,3]},type:=252,pos:= "run.go:186",after:=#[{on:=3,ground:=ï},{on:=7,ground:=ï},{on:=10,ground:=ï},{on:=16,ground:=ï},{on:=17,ground:=ï},{on:=22,ground:=ï}],guard:=Ä}) (oj:={dst:=Ã 10,op:=bh 252,type:=0,pos:= "run.go:186",after:=#[],guard:=Ä}) fj U U ?_ ?_
 .intro K k;go_simp;go_at_call 173;refine(H.out.2.1 _ kp).mono ?_;rintro e z ⟨rfl,yD,O,o,D⟩;dsimp only;refine k.out _ _ (λ_=>⟨o.r.r 0 _ U,o.r.r 2 _ U,o.r.r 4 _ U,o.r.r 5 _ U⟩) ?_;clear k K;have G:=o.fF<|eZ.gB e9 z #[Â Æ 0,Ñ Ï,Â Æ 0] 252;refine gq 24 ?_;intro K k;go_simp;refine k.out _ _ (λ_=>⟨G.r.r 0 _ U,G.r.r 2 _ U,G.r.r 4 _ U,G.r.r 5 _ U⟩) ?_;clear k K;refine gq 25 ?_;intro K k;go_simp;refine k.out _ _ (λq=>absurd fg q) ?_;clear k K;try simp only[ĵ,Õ,ã,ä]
  refine ly fj ?_ _;have V:=eZ.gB e9 z #[Â Æ r.r,Ñ r.C,Â Æ r.M] 252;have t:=o.fF V;have I:=D.e8<|Tr.fF V;have m:fc z.heap.size [Â Æ r.r,Ñ r.C,Â Æ r.M] 252 _:=fc.N z _ 252;generalize Ă z (Ð #[Â Æ r.r,Ñ r.C,Â Æ r.M] 252)=W at*;generalize z.heap.size=b at*;clear G V o D O;have v0:=m.r 0 _ U;have X:=m.r 1 _ U;have Y:=m.r 2 _ U;have z5:W.cell? ⟨n,5,Ä⟩=Ã (Â Æ c.g):=t.r.r 5 _ U;have y5:=t.r.C 5;have zl:=t.r.M;have zb:=m.M;have M:=H.out.2.2.1;have N:=H.out.2.2.2;have J:=fc.S t.r m A;have y1:=(GV (w:=W) (i:=5) (u:=Â Æ<|c.g-r.r) J).trans X;have y2:=(GV (w:=W) (i:=5) (u:=Â Æ<|c.g-r.r) J).trans Y;have C:=e7<|Á t I;clear t I m l;go_wp2_with fail;go_region;go_wp2_with fail;have l:=e7<|Á y1 y2;refine lM (λw'=>w'.cell? ⟨b,1,Ä⟩=Ã (Ñ r.C)/\w'.cell? ⟨b,2,Ä⟩=Ã (Â Æ r.M)) [] fj ?_;iterate 5 apply tk l.out
  refine gq 5 ?_;intro K k;go_simp;go_at_call 159;refine(G1 _ _).mono ?_;rintro e w2 ⟨rfl,qi⟩;subst w2;dsimp only;refine k.out _ _ (λ_=>l.out) ?_;clear k K;refine gq 6 ?_;intro K k;go_simp;refine k.out _ _ (λ_=>l.out) ?_;clear k K;refine gq 7 ?_;intro K k;go_simp;refine k.out _ _ (λ_=>l.out) ?_;clear k K;try simp only[ĵ,Õ,ã,ä]
  refine ly fj ?_ _;go_wp2_with fail;go_ret2;let⟨n1,n2⟩:=C.out.1.N ok 5 (v:=Â Æ<|c.g-r.r) (c':={c with g:=c.g-r.r}) (jO:=jQ) (ss':=zQ) U C.out.1.I λ_ q=>q;have L:=(eZ.fM e9<|W.setCell ⟨n,5,Ä⟩<|Â Æ<|c.g-r.r).e8<|eZ.fM e9 _;exact⟨U,_,_,n1.fF L,(C.out.2.e8 n2).e8<|Tr.fF L⟩
 .intro K k;go_simp;refine k.out _ _ (λ_=>⟨(H.out.1.fF<|((eZ.fM _ _).e8<|eZ.gB _ _ _ _)).r.r 0 _ U,(H.out.1.fF<|((eZ.fM _ _).e8<|eZ.gB _ _ _ _)).r.r 2 _ U,(H.out.1.fF<|((eZ.fM _ _).e8<|eZ.gB _ _ _ _)).r.r 4 _ U,(H.out.1.fF<|((eZ.fM _ _).e8<|eZ.gB _ _ _ _)).r.r 5 _ U⟩) ?_;clear k K;refine gq 23 ?_;intro K k;go_simp;go_at_call 173;refine(H.out.2.1 (Č<|Ă w<|Ð #[Â Æ 0,Ñ Ï,Â Æ 0] 252) kp).mono ?_;rintro e z ⟨rfl,yD,O,o,D⟩;dsimp only;refine k.out _ _ (λ_=>⟨o.r.r 0 _ U,o.r.r 2 _ U,o.r.r 4 _ U,o.r.r 5 _ U⟩) ?_;clear k K;have B:=aki H.out.1 O;have k0:=B.r 0 _ U;have k1:=B.r 1 _ U;have k2:=B.r 2 _ U;have f0:=B.C 0;have f1:=B.C 1;have f2:=B.C 2;refine gq 25 ?_;intro K k;go_simp;refine k.out _ _ (λq=>absurd fg q) ?_;clear k K;try simp only[ĵ,Õ,ã,ä]
  refine ly fj ?_ _;let⟨a1,a2,a3⟩:=Rp ok o D (Þ _) B 0<|Â Æ r.r;let⟨b1,b2,b3⟩:=Rp ok a1 a2 (Þ _) a3 1<|Ñ r.C;let⟨t,I,m⟩:=Rp ok b1 b2 (Þ _) b3 2<|Â Æ r.M;generalize ą (ą (ą z ⟨w.heap.size,0,Ä⟩<|Â Æ r.r) ⟨w.heap.size,1,Ä⟩<|Ñ r.C) ⟨w.heap.size,2,Ä⟩ (Â Æ r.M)=W at*;replace m:fc w.heap.size [Â Æ r.r,Ñ r.C,Â Æ r.M] 252 W:=m;clear a1 a2 a3 b1 b2 b3 B k0 k1 k2 f0 f1 f2 o D O;have v0:=m.r 0 _ U;have X:=m.r 1 _ U;have Y:=m.r 2 _ U;have z5:W.cell? ⟨n,5,Ä⟩=Ã (Â Æ c.g):=t.r.r 5 _ U;have y5:=t.r.C 5;have zl:=t.r.M;have zb:=m.M;have M:=H.out.2.2.1;have N:=H.out.2.2.2;have J:=fc.S t.r m A;have y1:=(GV (w:=W) (i:=5) (u:=Â Æ<|c.g-r.r) J).trans X;have y2:=(GV (w:=W) (i:=5) (u:=Â Æ<|c.g-r.r) J).trans Y;have C:=e7<|Á t I;clear t I m l;go_wp2_with fail;go_region;go_wp2_with fail;have l:=e7<|Á y1 y2;refine lM (λw'=>w'.cell? ⟨w.heap.size,1,Ä⟩=Ã (Ñ r.C)/\w'.cell? ⟨w.heap.size,2,Ä⟩=Ã (Â Æ r.M)) [] fj ?_;iterate 5 apply tk l.out
  refine gq 5 ?_;intro K k;go_simp;go_at_call 159;refine(G1 _ _).mono ?_;rintro e w2 ⟨rfl,qi⟩;subst w2;dsimp only;refine k.out _ _ (λ_=>l.out) ?_;clear k K;refine gq 6 ?_;intro K k;go_simp;refine k.out _ _ (λ_=>l.out) ?_;clear k K;refine gq 7 ?_;intro K k;go_simp;refine k.out _ _ (λ_=>l.out) ?_;clear k K;try simp only[ĵ,Õ,ã,ä]
  refine ly fj ?_ _;go_wp2_with fail;go_ret2;let⟨n1,n2⟩:=C.out.1.N ok 5 (v:=Â Æ<|c.g-r.r) (c':={c with g:=c.g-r.r}) (jO:=jQ) (ss':=zQ) U C.out.1.I λ_ q=>q;have L:=(eZ.fM e9<|W.setCell ⟨n,5,Ä⟩<|Â Æ<|c.g-r.r).e8<|eZ.fM e9 _;exact⟨U,_,_,n1.fF L,(C.out.2.e8 n2).e8<|Tr.fF L⟩
end
section
variable{E:iM}{rb:Nat}{c:RC}{sv lv:È}{s i:St}{f j:List (Nat×Int)}{q p:Int}{F:lL}
def ow(c:RC)(g:Int):RC:={c with g:=g}
def akl(ok:E.Ok)(a:R E rb c sv lv zQ s f w)(i:0<=c.d)(G:c.d<=4)(hF:c.d<4->sB F (c.d+1))(j:pG F)(k:iD w)(l:gC s)(m:c.x<8)(n:c.y<8)(o:fV q)(r:fV p)(v:fV h)(z:0<=c.g)(B:c.g<=100000)(C:(f.length:Int)+c.g<=1000000)(t:RT)(D:t=(iN F c ⟨zQ,s,f,c.g⟩ q p h).2.2): Ò À 210 #[Å<|Ã ⟨rb,0,Ä⟩,Â Æ q,Â Æ p,Â Æ h] w λe u=>e=Ç (æ #[Â Æ (iN F c ⟨zQ,s,f,c.g⟩ q p h).1,Â Æ (iN F c ⟨zQ,s,f,c.g⟩ q p h).2.1])/\kC E rb sv lv f.length w (ow c t.g) zQ t.s t.C u:=by
 subst D;by_cases b:c.d=4
 .have e:iN F c ⟨zQ,s,f,c.g⟩ q p h=(0,0,⟨zQ,s,f,c.g⟩):=by unfold iN;rw[if_pos b]
  rw[e];refine(akd ok a b).mono ?_;rintro e u ⟨rfl,rfl⟩;exact⟨U,a.jF⟩
 .have e:iN F c ⟨zQ,s,f,c.g⟩ q p h=((F s f c.y (q%8).toNat (min p c.g) h).M,wY (F s f c.y (q%8).toNat (min p c.g) h).C,⟨zQ,(F s f c.y (q%8).toNat (min p c.g) h).s,(F s f c.y (q%8).toNat (min p c.g) h).I,c.g-(F s f c.y (q%8).toNat (min p c.g) h).r⟩):=by unfold iN;rw[if_neg b]
  rw[e];exact akj ok a i Z (hF Z) j k l m n o r v z B C
def akm(ok:E.Ok)(i:R E rb c sv lv (((zQ++[h])++[p])++[q]) s f w)(hn:zQ.length<=800)(o:0<=c.d)(r:c.d<=4)(hF:c.d<4->sB F (c.d+1))(v:pG F)(z:iD w)(B:gC s)(C:c.x<8)(D:c.y<8)(G:fV q)(I:fV p)(J:fV h)(K:0<=c.g)(L:c.g<=100000)(M:(f.length:Int)+c.g<=1000000)(t:RT)(N:t=(iN F c ⟨zQ,s,f,c.g⟩ q p h).2.2)(a b:Int)(j:a=(iN F c ⟨zQ,s,f,c.g⟩ q p h).1)(k:b=(iN F c ⟨zQ,s,f,c.g⟩ q p h).2.1): Ò À 205 #[Å<|Ã ⟨rb,0,Ä⟩,Â Ë 20] w λe u=>e=Ç (æ #[])/\kC E rb sv lv f.length w (ow c t.g) (zQ++[a,b]) t.s t.C u:=by have c0:=i.r.r 0 _ U;have c2:=i.r.r 2 _ U;have gH:=i.r.M;have J4:=fc.M i.C;have H:=e7<|Á i<|Á z<|Á hF v;go_enter ê,å;go_wp2_with fail;go_quiet (fail);go_wp2_with fail;have O:=Tr.fF (E:=E) (rb:=rb) (sv:=sv) (lv:=lv) (n:=f.length)<|eZ.iH e9 w nq;have P:=H.out.1.fF<|eZ.iH e9 w nq;go_at_call 204;refine(mR ok P (by first|omega|(simp;omega))).mono ?_;rintro e w1 ⟨rfl,sv1,Q,S⟩;go_wp2_with fail;go_at_call 204;refine(mR ok Q (by first|omega|(simp;omega))).mono ?_;rintro e w2 ⟨rfl,G4,T,V⟩;go_wp2_with fail;go_at_call 204;refine(mR ok T (by first|omega|(simp;omega))).mono ?_;rintro e w3 ⟨rfl,Rr,W,X⟩;have l:=((O.e8 S).e8 V).e8 X;go_wp2_with fail;go_at_call 210;refine(akl ok W o r H.out.2.2.1 H.out.2.2.2 (H.out.2.1.N ok H.out.1 l) B C D G I J K L M t N).mono ?_;rintro e w4 ⟨rfl,sv4,lv4,Y,t4⟩;rw[<-j,<-k];go_wp2_with fail;go_at_call 203;refine(Ro ok Y (by first|omega|(simp;omega)) _ _).mono ?_;rintro e w5 ⟨rfl,sv5,m,t5⟩;go_wp2_with fail;go_end0;rw[<-j,<-k]at m;exact⟨U,_,_,m,(l.e8 t4).e8 t5⟩
end
def sC(h:∀p∈zQ,fV p):fV (fT zQ):=by
 by_cases a:0<zQ.length
 .apply h _;rw[YY zQ a];simp[fT]
 .have:zQ=[]:=ß Z;subst this;exact⟨A,A⟩
def oR(h:∀p∈zQ,fV p):∀p∈fQ zQ,fV p:=λp a=>h p<|List.dropLast_subset zQ a
def pH(l:List Int):(fQ l).length=l.length-1:=by simp[fQ]
def xb(h:0<zQ.length):fQ zQ++[fT zQ]=zQ:=(YY zQ h).symm
theorem akn(F:lL)(c:RC)(l b:List Int)(s:St)(a:List (Nat×Int))(g q p k:Int): (iN F c ⟨l,s,a,g⟩ q p k).1=(iN F c ⟨b,s,a,g⟩ q p k).1/\(iN F c ⟨l,s,a,g⟩ q p k).2.1=(iN F c ⟨b,s,a,g⟩ q p k).2.1/\(iN F c ⟨l,s,a,g⟩ q p k).2.2.s=(iN F c ⟨b,s,a,g⟩ q p k).2.2.s/\ (iN F c ⟨l,s,a,g⟩ q p k).2.2.C=(iN F c ⟨b,s,a,g⟩ q p k).2.2.C/\(iN F c ⟨l,s,a,g⟩ q p k).2.2.g=(iN F c ⟨b,s,a,g⟩ q p k).2.2.g:=by unfold iN;grind
section
variable{E:iM}{rb:Nat}{c:RC}{sv lv:È}{s:St}{f:List (Nat×Int)}{F:lL}
def ako(ok:E.Ok)(h:R E rb c sv lv zQ s f w)(Y:zQ.length<=700)(C:0<=c.d)(D:c.d<=4)(hF:c.d<4->sB F (c.d+1))(G:pG F)(H:iD w)(v:gC s)(z:c.x<8)(a:c.y<8)(r:∀p∈zQ,fV p)(I:0<=c.g)(J:c.g<=100000)(K:(f.length:Int)+c.g<=1000000) (k:Nat) (tP:2<=k) (tu:k<=20) (Y5:k≠17) (L B M:Int) (b:iQ[k]?=Ã (L,B,M)) (Bw:B<=zQ.length) (t:RT) (N:t=nO F c k ⟨zQ,s,f,c.g⟩): Ò À 205 #[Å<|Ã ⟨rb,0,Ä⟩,Â Ë k] w λe i=>e=Ç (æ #[])/\kC E rb sv lv f.length w (ow c t.g) t.r t.s t.C i:=by
 subst N;have i:=sC r;have u:=sC<|oR r;have O:=sC<|oR<|oR r;have j:1<=zQ.length->R E rb c sv lv (fQ zQ++[fT zQ]) s f w:=λq=>by rwa[xb Z]
 have l:2<=zQ.length->R E rb c sv lv ((fQ (fQ zQ)++[fT<|fQ zQ])++[fT zQ]) s f w:=λq=>by rw[xb (by rw[pH];omega),xb Z];exact h
 have P:3<=zQ.length->R E rb c sv lv (((fQ (fQ<|fQ zQ)++[fT<|fQ<|fQ zQ])++[fT<|fQ zQ])++[fT zQ]) s f w:=λq=>by rw[xb (by rw[pH,pH];omega),xb (by rw[pH];omega),xb Z];exact h
 have m:zQ.length<=800:=Z
 have n:(fQ zQ).length<=800:=by rw[pH];omega
 have o:(fQ<|fQ zQ).length<=800:=by rw[pH];omega
 have Q:(fQ<|fQ<|fQ zQ).length<=800:=by rw[pH];omega
 have cases:(k=2\/k=3\/k=4\/k=5\/k=6\/k=7)\/k=8\/k=9\/k=10\/k=11\/k=12\/k=13\/k=14\/k=15\/k=16\/k=18\/k=19\/k=20:=Z
 rcases cases with hq|rfl|rfl|rfl|rfl|rfl|rfl|rfl|rfl|rfl|rfl|rfl|rfl
 .have S:2<=zQ.length:=by
   rcases hq with rfl|rfl|rfl|rfl|rfl|rfl<;>(simp[iQ]at b;omega)
  have e:nO F c k ⟨zQ,s,f,c.g⟩=⟨fQ (fQ zQ)++[wZ k (fT<|fQ zQ)<|fT zQ],s,f,c.g⟩:=by rcases hq with rfl|rfl|rfl|rfl|rfl|rfl<;>rfl
  rw[e];exact aj4 ok (l S) o a u i Z Z
 .exact ajU ok (j<|by simp[iQ]at b;omega) n a
 .exact ajV ok (l<|by simp[iQ]at b;omega) o a
 .exact ajW ok (j<|by simp[iQ]at b;omega) n a
 .exact ajX ok h m a
 .exact ajY ok h m a z
 .exact ajZ ok h m a
 .exact aj0 ok h m a
 .exact aj1 ok (j<|by simp[iQ]at b;omega) n a i
 .exact aj2 ok (l<|by simp[iQ]at b;omega) o a i
 .exact aj3 ok (l<|by simp[iQ]at b;omega) o a u i v
 .exact akc ok (j<|by simp[iQ]at b;omega) n a Z
 .let⟨S,T,V,W,X⟩:=akn F c zQ (fQ<|fQ<|fQ zQ) s f c.g (fT zQ) (fT<|fQ zQ)<|fT<|fQ<|fQ zQ;have e:nO F c 20 ⟨zQ,s,f,c.g⟩=⟨fQ (fQ<|fQ zQ)++[(iN F c ⟨zQ,s,f,c.g⟩ (fT zQ) (fT<|fQ zQ)<|fT<|fQ<|fQ zQ).1,(iN F c ⟨zQ,s,f,c.g⟩ (fT zQ) (fT<|fQ zQ)<|fT<|fQ<|fQ zQ).2.1],(iN F c ⟨zQ,s,f,c.g⟩ (fT zQ) (fT<|fQ zQ)<|fT<|fQ<|fQ zQ).2.2.s,(iN F c ⟨zQ,s,f,c.g⟩ (fT zQ) (fT<|fQ zQ)<|fT<|fQ<|fQ zQ).2.2.C,(iN F c ⟨zQ,s,f,c.g⟩ (fT zQ) (fT<|fQ zQ)<|fT<|fQ<|fQ zQ).2.2.g⟩:=U;rw[e,S,T,V,W,X];exact akm ok (P<|by simp[iQ]at b;omega) Q C D hF G H v z a i u O I J K _ U _ _ U U
end
def pI(c:Int)(w:É):Ò À 103 #[Â aT c] w λe a=>e=Ç (Â Ë<|lu c)/\a=w:=by
 go_enter Tryz.func103,Tryz.ntmps103;go_wp2;all_goals go_ret
 all_goals refine⟨Dz ?_,U⟩
 all_goals simp only[beq_iff_eq,beq_eq_false_iff_ne,ne_eq]at*
 all_goals(try subst c)
 all_goals first|rfl|(unfold lu;simp[*];done)|(unfold lu;rw[if_neg Z];simp[*])
def ko:ŏ->Option ŏ
 |à c=>Ã c
 |.seq a b=>match ko a with
  |some c=>Ã c
  |none=>ko b
 |.block _ c=>ko c
 |.scope c=>ko c
 |.cond _ a b=>match ko a with
  |some c=>Ã c
  |none=>ko b
 |_=>Ä
noncomputable def tR:ŏ:=(Tryz.f191.body.bind ko).getD Ķ
def nu(a:Nat)(P:ByteArray)(b:Int)(u:Nat->È):é:=⟨#[Å<|Ã ⟨a,0,Ä⟩,ā,Â Æ 0,Ñ Ï,Í P,Â Æ P.size,Â Æ b,u 7,u 8,u 9,u 10,u 11,u 12,u 13,u 14,u 15,u 16,u 17,u 18,u 19,u 20,u 21,u 22,u 23,u 24,u 25,u 26,u 27,u 28,u 29,u 30,u 31,u 32,u 33,u 34,u 35,u 36,u 37,u 38,u 39,u 40,u 41,u 42,u 43,u 44,u 45,u 46,u 47,u 48,u 49,u 50,u 51,u 52,u 53,u 54,u 55,u 56,u 57,u 58,u 59,u 60,u 61,u 62,u 63,u 64,u 65,u 66,u 67,u 68,u 69,u 70,u 71,u 72,u 73,u 74,u 75,u 76,u 77,u 78,u 79,u 80],[]⟩
def Bx(b:Nat)(P:ByteArray)(c:Int)(a:é):Prop:=∃u,a=nu b P c u
def Y6(a:Nat)(P:ByteArray)(v:Int)(b:Bool)(u:Nat->È):é:=⟨#[Å<|Ã ⟨a,0,Ä⟩,ā,Â Æ v,Ñ b,Í P,Â Æ P.size,u 6,u 7,u 8,u 9,u 10,u 11,u 12,u 13,u 14,u 15,u 16,u 17,u 18,u 19,u 20,u 21,u 22,u 23,u 24,u 25,u 26,u 27,u 28,u 29,u 30,u 31,u 32,u 33,u 34,u 35,u 36,u 37,u 38,u 39,u 40,u 41,u 42,u 43,u 44,u 45,u 46,u 47,u 48,u 49,u 50,u 51,u 52,u 53,u 54,u 55,u 56,u 57,u 58,u 59,u 60,u 61,u 62,u 63,u 64,u 65,u 66,u 67,u 68,u 69,u 70,u 71,u 72,u 73,u 74,u 75,u 76,u 77,u 78,u 79,u 80],[]⟩
def DF(c:Nat)(P:ByteArray)(v:Int)(b:Bool)(a:é):Prop:=∃u,a=Y6 c P v b u
def QQ(X:é->É->Prop):aS->é->É->Prop
 |.exit 0,a,w=>X a w
 |_,_,_=>False
section
variable{X:é->É->Prop}{E:iM}{c:RC}{s:St}{f:List (Nat×Int)}{F:lL}
def akp(ok:E.Ok)(u:Nat->È)(b:R E i c z x zQ s f w)(j:B.size<=40)(e:h=B.size) (g:∀a d,DF i B 0 Ú a->kC E i z x f.length w c zQ s f d->X a d): Î À tR (Exit.then K<|QQ X) (nu i B h u) w:=by
 unfold nu;conv=>arg 2;whnf
 subst e;go_wp2_with fail;exact g _ _ (gk _) b.jF
def akq(ok:E.Ok)(u:Nat->È)(b:R E i c z x zQ s f w)(l:B.size<=40)(m:(B.size:Int)<h) (e:∀a d,DF i B 0 Ï a->kC E i z x f.length w (ow c 0) zQ s f d->X a d): Î À tR (Exit.then K<|QQ X) (nu i B h u) w:=by
 unfold nu;conv=>arg 2;whnf
 have n:w.cell? ⟨i,5,Ä⟩=Ã (Â Æ c.g):=b.r.r 5 _ U;have o:=b.r.C 5;have p:(h==(B.size:Int))=Ï:=by rw[beq_eq_false_iff_ne];omega
 have H:=e7 b;clear b;go_wp2_with fail;let⟨j,k⟩:=H.out.N ok 5 (v:=Â Æ 0) (c':=ow c 0) (jO:=z) (ss':=zQ) U H.out.I λ_ q=>q;exact e _ _ (gk _) ⟨_,_,j,k⟩
def akr(ok:E.Ok)(u:Nat->È)(b:R E i c z x zQ s f w)(P:B.size<=40)(n:Nat)(G:h=n)(I:n<B.size)(y:iD w)(m o p:Int)(Q:zQ.length<=700)(J:0<=c.g)(S:c.g<=100000)(k:Nat)(C:lu ((B[n]'I).toNat:Int)=k)(r:iQ[k]?=Ã (m,o,p))(D:lJ c.g zQ.length m o p=Ï) (L:∀a j,DF i B 0 Ï a->kC E i z x f.length w (ow c 0) zQ s f j->X a j): Î À tR (Exit.then K<|QQ X) (nu i B h u) w:=by
 unfold nu;conv=>arg 2;whnf
 subst G;have T:((n:Int)==(B.size:Int))=Ï:=by rw[beq_eq_false_iff_ne];omega
 have V:decide ((B.size:Int)<(n:Int))=Ï:=decide_eq_false Z;have W:(0:Int)<=(n:Int):=Z
 have Y:(n:Int)<(B.size:Int):=Z
 have d:=Bu E ok i c z x zQ s f w b y k m o p r Z J Z;rw[D]at d;have H:=e7<|Á b<|Á d<|Á r C;clear b d y r D C;go_wp2_with (go_at_call 103;refine(pI _ _).mono ?_;rintro e j ⟨rfl,l⟩;subst j;rw[H.out.2.2.2]);go_at_call 202;apply H.out.2.1.mono;rintro e M ⟨rfl,l,F⟩;have k5:M.cell? ⟨i,5,Ä⟩=Ã (Â Æ c.g):=l.r.r 5 _ U;have g5:=l.r.C 5;have t:=e7<|Á l F;clear l F;go_wp2_with fail;let⟨N,O⟩:=R.N ok t.out.1 5 (v:=Â Æ 0) (c':=ow c 0) (jO:=z) (ss':=zQ) U t.out.1.I λ_ q=>q;exact L _ _ (gk _) ⟨_,_,N,t.out.2.e8 O⟩
def aks(ok:E.Ok)(u:Nat->È)(b:R E i c z x zQ s f w)(J:B.size<=40)(n:Nat)(C:h=n)(D:n<B.size)(q:iD w)(k l m:Int)(L:zQ.length<=700)(F:0<=c.g)(M:c.g<=100000)(r:lu ((B[n]'D).toNat:Int)=22)(o:iQ[(22:Nat)]?=Ã (k,l,m))(t:lJ c.g zQ.length k l m=Ú) (G:∀a j,DF i B 0 Ï a->kC E i z x f.length w (ow c<|c.g-k) zQ s f j->X a j): Î À tR (Exit.then K<|QQ X) (nu i B h u) w:=by
 unfold nu;conv=>arg 2;whnf
 subst C;have N:((n:Int)==(B.size:Int))=Ï:=by rw[beq_eq_false_iff_ne];omega
 have O:decide ((B.size:Int)<(n:Int))=Ï:=decide_eq_false Z;have P:(0:Int)<=(n:Int):=Z
 have Q:(n:Int)<(B.size:Int):=Z
 have d:=Bu E ok i c z x zQ s f w b q 22 k l m o Z F Z;rw[t]at d;have H:=e7<|Á b<|Á d<|Á o r;clear b d q o t r;go_wp2_with (go_at_call 103;refine(pI _ _).mono ?_;rintro e j ⟨rfl,I⟩;subst j;rw[H.out.2.2.2]);go_at_call 202;apply H.out.2.1.mono;rintro e S ⟨rfl,p,v⟩;rw[if_pos U]at p;have y:=e7<|Á p v;clear p v;go_wp2_with (go_at_call 103;refine(pI _ _).mono ?_;rintro e j ⟨rfl,I⟩;subst j;rw[H.out.2.2.2]);exact G _ _ (gk _) ⟨_,_,y.out.1,y.out.2⟩
def akt(ok:E.Ok)(u:Nat->È)(b:R E i c z x zQ s f w)(P:B.size<=40)(n:Nat)(F:h=n)(G:n<B.size)(r:iD w)(k l m:Int)(I:zQ.length<=700)(J:0<=c.g)(Q:c.g<=100000)(p:Int)(t:List Int)(L:zQ=t++[p])(v:lu ((B[n]'G).toNat:Int)=21)(o:iQ[(21:Nat)]?=Ã (k,l,m))(y:lJ c.g zQ.length k l m=Ú) (M:∀a j,DF i B p Ú a->kC E i z x f.length w (ow c<|c.g-k) t s f j->X a j): Î À tR (Exit.then K<|QQ X) (nu i B h u) w:=by
 unfold nu;conv=>arg 2;whnf
 subst F;have S:((n:Int)==(B.size:Int))=Ï:=by rw[beq_eq_false_iff_ne];omega
 have T:decide ((B.size:Int)<(n:Int))=Ï:=decide_eq_false Z;have V:(0:Int)<=(n:Int):=Z
 have W:(n:Int)<(B.size:Int):=Z
 have d:=Bu E ok i c z x zQ s f w b r 21 k l m o Z J Z;rw[y]at d;have H:=e7<|Á b<|Á d<|Á o v;clear b d r o y v;go_wp2_with (go_at_call 103;refine(pI _ _).mono ?_;rintro e j ⟨rfl,N⟩;subst j;rw[H.out.2.2.2]);go_at_call 202;apply H.out.2.1.mono;rintro e Y ⟨rfl,q,C⟩;rw[if_pos U]at q;have D:=e7<|Á q C;clear q C;subst L;go_wp2_with (go_at_call 103;refine(pI _ _).mono ?_;rintro e j ⟨rfl,N⟩;subst j;rw[H.out.2.2.2]);go_at_call 204;refine(mR ok D.out.1<|by simp at I;omega).mono ?_;rintro e w2 ⟨rfl,G4,N,O⟩;go_wp2_with fail;exact M _ _ (gk _) ⟨_,_,N,D.out.2.e8 O⟩
def aku(ok:E.Ok)(u:Nat->È)(b:R E i c z x zQ s f w)(L:B.size<=40)(n:Nat)(D:h=n)(k:n<B.size)(r:iD w)(l m o:Int)(M:zQ.length<=700)(F:0<=c.g)(N:c.g<=100000)(O:(48:Int)<=((B[n]'k).toNat:Int))(P:((B[n]'k).toNat:Int)<=57)(t:lu ((B[n]'k).toNat:Int)=1)(p:iQ[(1:Nat)]?=Ã (l,m,o))(v:lJ c.g zQ.length l m o=Ú) (G:∀a j,Bx i B ((n:Int)+1) a->kC E i z x f.length w (ow c<|c.g-l) (zQ++[((B[n]'k).toNat:Int)-48]) s f j->K a j): Î À tR (Exit.then K<|QQ X) (nu i B h u) w:=by
 unfold nu;conv=>arg 2;whnf
 subst D;have Q:((n:Int)==(B.size:Int))=Ï:=by rw[beq_eq_false_iff_ne];omega
 have S:decide ((B.size:Int)<(n:Int))=Ï:=decide_eq_false Z;have T:(0:Int)<=(n:Int):=Z
 have V:(n:Int)<(B.size:Int):=Z
 have d:=Bu E ok i c z x zQ s f w b r 1 l m o p Z F Z;rw[v]at d;have H:=e7<|Á b<|Á d<|Á p t;clear b d r p v t;go_wp2_with (go_at_call 103;refine(pI _ _).mono ?_;rintro e j ⟨rfl,I⟩;subst j;rw[H.out.2.2.2]);go_at_call 202;apply H.out.2.1.mono;rintro e W ⟨rfl,q,y⟩;rw[if_pos U]at q;have C:=e7<|Á q y;clear q y;go_wp2_with (go_at_call 103;refine(pI _ _).mono ?_;rintro e j ⟨rfl,I⟩;subst j;rw[H.out.2.2.2]);go_at_call 203;refine(yL ok C.out.1 Z _).mono ?_;rintro e Y ⟨rfl,G4,I,J⟩;go_wp2_with fail;exact G _ _ (gk _) ⟨_,_,I,C.out.2.e8 J⟩
def akv(ok:E.Ok)(u:Nat->È)(b:R E i c z x zQ s f w)(W:B.size<=40)(n:Nat)(M:h=n)(N:n<B.size)(t:iD w)(k l m:Int)(v:zQ.length<=700)(O:0<=c.g)(Y:c.g<=100000)(p q:Int)(y:List Int)(P:zQ=(y++[p])++[q])(Q:¬p=0)(C:lu ((B[n]'N).toNat:Int)=17)(o:iQ[(17:Nat)]?=Ã (k,l,m))(D:lJ c.g zQ.length k l m=Ú) (S:∀a j,Bx i B q a->kC E i z x f.length w (ow c<|c.g-k) y s f j->K a j): Î À tR (Exit.then K<|QQ X) (nu i B h u) w:=by
 unfold nu;conv=>arg 2;whnf
 subst M;have e1:((n:Int)==(B.size:Int))=Ï:=by rw[beq_eq_false_iff_ne];omega
 have e2:decide ((B.size:Int)<(n:Int))=Ï:=decide_eq_false Z;have GD:(0:Int)<=(n:Int):=Z
 have u5:(n:Int)<(B.size:Int):=Z
 have d:=Bu E ok i c z x zQ s f w b t 17 k l m o Z O Z;rw[D]at d;have H:=e7<|Á b<|Á d<|Á o C;clear b d t o D C;go_wp2_with (go_at_call 103;refine(pI _ _).mono ?_;rintro e j ⟨rfl,I⟩;subst j;rw[H.out.2.2.2]);go_at_call 202;apply H.out.2.1.mono;rintro e w1 ⟨rfl,r,F⟩;rw[if_pos U]at r;have G:=e7<|Á r F;clear r F;subst P;have e3:(p !=0)=Ú:=by rwa[bne_iff_ne]
 go_wp2_with (go_at_call 103;refine(pI _ _).mono ?_;rintro e j ⟨rfl,I⟩;subst j;rw[H.out.2.2.2])
 go_at_call 204;refine(mR ok G.out.1<|by simp at v|-;omega).mono ?_;rintro e w2 ⟨rfl,G4,I,J⟩;go_wp2_with fail;go_at_call 204;refine(mR ok I<|by simp at v;omega).mono ?_;rintro e w3 ⟨rfl,Rr,V,L⟩;have T:=(G.out.2.e8 J).e8 L;clear I J L;go_wp2_with fail;exact S _ _ (gk _) ⟨_,_,V,T⟩
def akw(ok:E.Ok)(u:Nat->È)(b:R E i c z x zQ s f w)(W:B.size<=40)(n:Nat)(M:h=n)(N:n<B.size)(t:iD w)(k l m:Int)(v:zQ.length<=700)(O:0<=c.g)(Y:c.g<=100000)(p q:Int)(y:List Int)(P:zQ=(y++[p])++[q])(Q:p=0)(C:lu ((B[n]'N).toNat:Int)=17)(o:iQ[(17:Nat)]?=Ã (k,l,m))(D:lJ c.g zQ.length k l m=Ú) (S:∀a j,Bx i B ((n:Int)+1) a->kC E i z x f.length w (ow c<|c.g-k) y s f j->K a j): Î À tR (Exit.then K<|QQ X) (nu i B h u) w:=by
 unfold nu;conv=>arg 2;whnf
 subst M;have e1:((n:Int)==(B.size:Int))=Ï:=by rw[beq_eq_false_iff_ne];omega
 have e2:decide ((B.size:Int)<(n:Int))=Ï:=decide_eq_false Z;have GD:(0:Int)<=(n:Int):=Z
 have u5:(n:Int)<(B.size:Int):=Z
 have d:=Bu E ok i c z x zQ s f w b t 17 k l m o Z O Z;rw[D]at d;have H:=e7<|Á b<|Á d<|Á o C;clear b d t o D C;go_wp2_with (go_at_call 103;refine(pI _ _).mono ?_;rintro e j ⟨rfl,I⟩;subst j;rw[H.out.2.2.2]);go_at_call 202;apply H.out.2.1.mono;rintro e w1 ⟨rfl,r,F⟩;rw[if_pos U]at r;have G:=e7<|Á r F;clear r F;subst P;subst Q;go_wp2_with (go_at_call 103;refine(pI _ _).mono ?_;rintro e j ⟨rfl,I⟩;subst j;rw[H.out.2.2.2]);go_at_call 204;refine(mR ok G.out.1<|by simp at v|-;omega).mono ?_;rintro e w2 ⟨rfl,G4,I,J⟩;go_wp2_with fail;go_at_call 204;refine(mR ok I<|by simp at v;omega).mono ?_;rintro e w3 ⟨rfl,Rr,V,L⟩;have T:=(G.out.2.e8 J).e8 L;clear I J L;go_wp2_with fail;exact S _ _ (gk _) ⟨_,_,V,T⟩
def akx(ok:E.Ok)(u:Nat->È)(b:R E i c z x zQ s f w)(hP:B.size<=40)(n:Nat)(Q:h=n)(S:n<B.size)(r:iD w)(l o q:Int)(T:zQ.length<=700)(V:0<=c.g)(vd:c.g<=100000)(k:Nat)(W:2<=k)(Y:k<=20)(Y5:k≠17)(Bw:o<=zQ.length)(oL:0<=c.d)(hd:c.d<=4)(hF:c.d<4->sB F (c.d+1))(I:pG F)(J:gC s)(hx:c.x<8)(hy:c.y<8)(L:∀p∈zQ,fV p)(hlen:(f.length:Int)+c.g<=1000000)(t:RT)(M:t=nO F c k ⟨zQ,s,f,c.g-l⟩)(Y7:0<=l)(Rs:l<=c.g)(N:lu ((B[n]'S).toNat:Int)=k)(v:iQ[(k:Nat)]?=Ã (l,o,q))(O:lJ c.g zQ.length l o q=Ú) (hK:∀a m,Bx i B ((n:Int)+1) a->kC E i z x f.length w (ow c t.g) t.r t.s t.C m->K a m): Î À tR (Exit.then K<|QQ X) (nu i B h u) w:=by
 unfold nu;conv=>arg 2;whnf
 subst Q;have e1:((n:Int)==(B.size:Int))=Ï:=by rw[beq_eq_false_iff_ne];omega
 have e2:decide ((B.size:Int)<(n:Int))=Ï:=decide_eq_false Z;have GD:(0:Int)<=(n:Int):=Z
 have u5:(n:Int)<(B.size:Int):=Z
 have j:=Bu E ok i c z x zQ s f w b r k l o q v Z V Z;rw[O]at j;have H:=e7<|Á b<|Á j<|Á r<|Á v N;clear b j r v O N;go_wp2_with (go_at_call 103;refine(pI _ _).mono ?_;rintro e m ⟨rfl,hw⟩;subst m;rw[H.out.2.2.2.2]);go_at_call 202;apply H.out.2.1.mono;rintro e w1 ⟨rfl,C,P⟩;rw[if_pos U]at C;have G:=e7<|Á C P;clear C P;have e11:((k:Int)==1)=Ï:=by rw[beq_eq_false_iff_ne];omega
 have e27:((k:Int)==17)=Ï:=by rw[beq_eq_false_iff_ne];omega
 have e31:((k:Int)==21)=Ï:=by rw[beq_eq_false_iff_ne];omega
 have e32:((k:Int)==22)=Ï:=by rw[beq_eq_false_iff_ne];omega
 have D:=ako (t:=t) ok G.out.1 T oL hd hF I (H.out.2.2.1.N ok H.out.1 G.out.2) J hx hy L (by show 0<=c.g-l;omega) (by show c.g-l<=100000;omega) (by show(f.length:Int)+(c.g-l)<=1000000;omega) k W Y Y5 l o q H.out.2.2.2.1 Bw M;have HD:=e7 D;clear D hF I J L hlen M;go_wp2_with (go_at_call 103;refine(pI _ _).mono ?_;rintro e m ⟨rfl,hw⟩;subst m;rw[H.out.2.2.2.2]);go_at_call 205;apply HD.out.mono;rintro e w2 ⟨rfl,G4,Kq,h2,t2⟩;go_wp2_with fail;exact hK _ _ (gk _) ⟨_,_,h2,G.out.2.e8 t2⟩
end
def pJ(k:Nat):Int×Int×Int:=(iQ[k]?).getD (0,0,0)
def DG(P:ByteArray)(a:Int):Int:=((P.data.getD a.toNat 0).toNat:Int)
def kZ(P:ByteArray)(a:Int):Nat:=lu<|DG P a
def sD(F:lL)(c:RC)(P:ByteArray):Nat->Int->RT->Int×Bool×RT
 |0,_,t=>(0,Ï,t)
 |f+1,pl,t=>
  if pl=P.size then(0,Ú,t)
  else if(P.size:Int)<pl then(0,Ï,{t with g:=0})
  else if lJ t.g t.r.length (pJ<|kZ P pl).1 (pJ<|kZ P pl).2.1 (pJ<|kZ P pl).2.2=Ï then(0,Ï,{t with g:=0})
  else if kZ P pl=1 then sD F c P f (pl+1) {t with r:=t.r++[DG P pl-48],g:=t.g-(pJ<|kZ P pl).1}
  else if kZ P pl=17 then
   if fT (fQ t.r)=0 then sD F c P f (pl+1) {t with r:=fQ<|fQ t.r,g:=t.g-(pJ<|kZ P pl).1}else sD F c P f (fT t.r) {t with r:=fQ<|fQ t.r,g:=t.g-(pJ<|kZ P pl).1}
  else if kZ P pl=21 then(fT t.r,Ú,{t with r:=fQ t.r,g:=t.g-(pJ<|kZ P pl).1})
  else if kZ P pl=22 then(0,Ï,{t with g:=t.g-(pJ<|kZ P pl).1})
  else sD F c P f (pl+1) (nO F c (kZ P pl) {t with g:=t.g-(pJ<|kZ P pl).1})
structure nz(t:RT):Prop where
 r:∀p∈t.r,fV p
 M:t.r.length<=32
 s:gC t.s
 g0:0<=t.g
 C:t.g<=100000
 I:(t.C.length:Int)+t.g<=1000000
def aky{p:Prop}[Decidable p](c:i<=m)(d:b<=m):(if p then i else b)<=m:=by split;exact c;exact d
def Y8(c:Int):lu c<=22:=by unfold lu;repeat' (first|refine aky A ?_|decide)
def tS:fV 0:=⟨A,A⟩
def akz:fV 1:=⟨A,A⟩
theorem Y9(h:k<=22):iQ[k]?=Ã (pJ k):=by
 unfold pJ;have:k<iQ.length:=by show k<23;omega
 grind
def yM(n:Int):fV (wu n):=⟨ajJ n,ajK n⟩
def Za(b:Bool):fV (wY b):=by cases b<;>exact⟨A,A⟩
def akA{q:Int}(a:fV c)(d:fV q):fV (wZ h c q):=by
 unfold wZ;repeat' split
 all_goals first|exact yM _|exact Za _|exact⟨A,A⟩|skip
 rename_i e;have b:=a.1;exact⟨Int.ediv_nonneg b d.1,Int.lt_of_le_of_lt (Int.ediv_le_self _ b) a.2⟩
def gC.fW{s:St}(h:gC s){a:GX}(b:fV a.fp)(d:∀j,fV<|a.C j)(e:a.r.size<=40/\∀c∈a.r.data.toList,w7 c=Ú):gC (s.fW i a):=by
 refine⟨λj=> ?_,λj k=> ?_,λj=> ?_⟩<;>unfold St.fW<;>split
 .exact b
 .exact h.fp j
 .exact d k
 .exact h.C j k
 .exact e
 .exact h.I j
def gC.r{s:St}(h:gC s)(i:Nat){b:Int}(a:fV b):gC (s.fp i b):=h.fW a (h.C i)<|h.I i
def gC.Rl{s:St}(h:gC s)(i j:Nat)(a:fV c):gC (s.r i j c):=by
 refine h.fW (h.fp i) (λk=> ?_)<|h.I i;show fV (if k=j then c else(s i).C k);split
 .exact a
 .exact h.C i k
def akB{s:St}(h:gC s)(y:Nat){p:Int}(a:fV p):fV (qt s y c p).1/\gC (qt s y c p).2:=by
 unfold qt;split
 .exact⟨tS,h⟩
 .rename_i d;have b:=h.fp y;have e:=a.1;refine⟨akz,gC.r (gC.r h y ⟨Z,by have:=b.2;omega⟩) _<|yM _⟩
def Zb(h:n<8):fV (n:Int):=⟨Z,Z⟩
section
variable{F:lL}{c:RC}{t:RT}
def sE{m:List Int}(h:∀p∈zQ,fV p)(k:∀p∈m,fV p):∀p∈zQ++m,fV p:=λp a=>(ú.1 a).elim (h p)<|k p
def xc{a:Int}(h:fV a):∀p∈[a],fV p:=λp b=>by simp at b;subst b;exact h
def Rt{a b:Int}(h:fV a)(k:fV b):∀p∈[a,b],fV p:=λp c=>by simp at c;rcases c with rfl|rfl;exact h;exact k
def akC(b:pG F)(a:nz t)(d:c.y<8){p k:Int}(f:fV h)(i:fV p)(j:fV k): fV (iN F c t h p k).1/\fV (iN F c t h p k).2.1/\gC (iN F c t h p k).2.2.s/\0<=(iN F c t h p k).2.2.g/\(iN F c t h p k).2.2.g<=t.g/\((iN F c t h p k).2.2.C.length:Int)+(iN F c t h p k).2.2.g<=(t.C.length:Int)+t.g:=by
 unfold iN;split
 .exact⟨tS,tS,a.s,a.g0,Ö _,Ö _⟩
 .have l:0<=min p t.g:=by have:=i.1;have:=a.g0;omega
  have m:=a.C;have n:=a.I;have o:=f.1;have e:=b t.s t.C c.y (h%8).toNat (min p t.g) k a.s d Z j l Z Z;have r:=e.C;have u:=e.r;have v:=e.I;refine⟨e.M,Za _,e.N,?_,?_,?_⟩;all_goals simp only
  all_goals have:=a.g0
  all_goals omega
theorem Zc(v:pG F)(w:c.x<8)(r:c.y<8)(z:fV c.k)(P:2<=k)(Q:k<=20)(S:k≠17){o u:Int}(d:iQ[k]?=Ã (h,o,u)){g:Int}(T:t.g=g-h)(a:nz t)(V:(t.C.length:Int)+g<=1000000)(W:o<=t.r.length)(X:(t.r.length:Int)-o+u<=32): nz (nO F c k t)/\(nO F c k t).g<=t.g/\((nO F c k t).C.length:Int)+(nO F c k t).g<=t.C.length+g:=by
 have i:=sC a.r;have j:=sC<|oR a.r;have B:=sC<|oR<|oR a.r;have m:=oR a.r;have n:=oR m;have C:=oR n;have f:=pH t.r;have q:=pH<|fQ t.r;have Y:=pH<|fQ<|fQ t.r;have g1:=a.C;obtain⟨D,E,G,H,I,J⟩:=KI k _ d;simp only at D E G H I J;have len:=a.M;have b:∀{l:List Int},(∀p∈l,fV p)->l.length<=32->nz {t with r:=l}:=λp K=>⟨p,K,a.s,a.g0,a.C,a.I⟩;have cases:(k=2\/k=3\/k=4\/k=5\/k=6\/k=7)\/k=8\/k=9\/k=10\/k=11\/k=12\/k=13\/k=14\/k=15\/k=16\/k=18\/k=19\/k=20:=Z
 rcases cases with hq|rfl|rfl|rfl|rfl|rfl|rfl|rfl|rfl|rfl|rfl|rfl|rfl
 .have e:nO F c k t={t with r:=fQ (fQ t.r)++[wZ k (fT<|fQ t.r)<|fT t.r]}:=by
   rcases hq with rfl|rfl|rfl|rfl|rfl|rfl<;>rfl
  rw[e];exact⟨b (sE n<|xc<|akA j i) (by simp[f,q];omega),Ö _,by simp only;omega⟩
 .exact⟨b (sE m<|Rt i i) (by simp[f];simp[iQ]at d;omega),Ö _,by show(t.C.length:Int)+t.g<=_;omega⟩
 .exact⟨b (sE n<|Rt i j) (by simp[f,q];omega),Ö _,by show(t.C.length:Int)+t.g<=_;omega⟩
 .exact⟨b m (by rw[f];omega),Ö _,by show(t.C.length:Int)+t.g<=_;omega⟩
 .exact⟨b (sE a.r<|xc z) (by simp;simp[iQ]at d;omega),Ö _,by show(t.C.length:Int)+t.g<=_;omega⟩
 .exact⟨b (sE a.r<|xc<|Zb w) (by simp;simp[iQ]at d;omega),Ö _,by show(t.C.length:Int)+t.g<=_;omega⟩
 .exact⟨b (sE a.r<|xc<|Zb r) (by simp;simp[iQ]at d;omega),Ö _,by show(t.C.length:Int)+t.g<=_;omega⟩
 .exact⟨b (sE a.r<|xc<|a.s.fp _) (by simp;simp[iQ]at d;omega),Ö _,by show(t.C.length:Int)+t.g<=_;omega⟩
 .exact⟨b (sE m<|xc<|a.s.C _ _) (by simp[f];omega),Ö _,by show(t.C.length:Int)+t.g<=_;omega⟩
 .exact⟨⟨n,by show(fQ<|fQ t.r).length<=32;omega,a.s.Rl _ _ j,a.g0,a.C,a.I⟩,Ö _,by show(t.C.length:Int)+t.g<=_;omega⟩
 .obtain⟨e,L⟩:=akB a.s c.y j;exact⟨⟨sE n<|xc e,by show(fQ (fQ t.r)++[_]).length<=32;simp[f,q];omega,L,a.g0,a.C,a.I⟩,Ö _,by show(t.C.length:Int)+t.g<=_;omega⟩
 .have e:h=4:=by simp[iQ]at d;omega
  refine⟨⟨m,by show(fQ t.r).length<=32;omega,a.s,a.g0,a.C,?_⟩,Ö _,?_⟩
  .show((t.C++[_]).length:Int)+t.g<=_;simp;omega
  .show((t.C++[_]).length:Int)+t.g<=_;simp;omega
 .obtain⟨e,L,M,N,O,w6⟩:=akC v a r i j B;refine⟨⟨sE C<|Rt e L,?_,M,N,?_,?_⟩,O,?_⟩
  .show(fQ (fQ<|fQ t.r)++[_,_]).length<=32;grind
  .show(iN F c t _ _ _).2.2.g<=_;omega
  .show((iN F c t _ _ _).2.2.C.length:Int)+(iN F c t _ _ _).2.2.g<=_;omega
  .show((iN F c t _ _ _).2.2.C.length:Int)+(iN F c t _ _ _).2.2.g<=_;omega
end
def By(a:Nat)(w:É):Nat:=match w.cell? ⟨a,5,Ä⟩with
 |some (Â _ n)=>n.toNat
 |_=>0
def R.G{E:iM}{c:RC}{s:St}{a:List (Nat×Int)}(h:R E i c v x zQ s a w):By i w=c.g.toNat:=by unfold By;rw[h.r.r 5 _ U]
def SI(E:iM)(d:Nat)(c:RC)(P:ByteArray)(F:lL)(f h:È)(i:Nat)(j:É)(k:Int×Bool×RT)(a:é)(w:É):Prop:=
 ∃(b:Int) (t:RT) (e:Nat),Bx d P b a/\fV b/\kC E d f h i j (ow c t.g) t.r t.s t.C w/\nz t/\iD w/\t.g.toNat<e/\sD F c P e b t=k
def SX(E:iM)(d:Nat)(c:RC)(P:ByteArray)(e f:È)(h:Nat)(i:É)(b:Int×Bool×RT)(a:é)(w:É):Prop:=
 DF d P b.1 b.2.1 a/\kC E d e f h i (ow c b.2.2.g) b.2.2.r b.2.2.s b.2.2.C w
def Ru(a:n<B.size):DG B (n:Int)=((B[n]'a).toNat:Int):=by unfold DG;rw[Ŷ];have b:n<B.data.size:=a;simp only[Array.getD,b,dif_pos];rfl
theorem Rv{s:St}(b:gC s)(y:Nat)(a:n<(s y).r.size):1<=kZ (s y).r (n:Int):=by
 unfold kZ;rw[Ru a];have c:((s y).r[n]'a)∈(s y).r.data.toList:=by have:(s y).r[n]'a=(s y).r.data[n]'a:=U;grind [Array.getElem_mem]
 have:=(b.I y).2 _ c;unfold w7 at this;have:=of_decide_eq_true this;omega
def Zd{b a d:Int}(h:lJ c n b a d=Ú):b<=c/\a<=n/\(n:Int)-a+d<=32:=by unfold lJ at h;simp at h;omega
def akD{p:Prop}[Decidable p](c:i≠m)(d:b≠m):(if p then i else b)≠m:=by split;exact c;exact d
def Ze(h:lu c=1):48<=c/\c<=57:=by
 by_cases a:48<=c/\c<=57
 .exact a
 .exfalso;revert h;unfold lu;rw[if_neg a];repeat' (first|refine akD A ?_|decide)
def akE(a:1<=k)(b:k<=22):1<=(pJ k).1:=by
 have h:∀k:Fin 23,1<=k.val->1<=(pJ k.val).1:=A
 exact h ⟨k,Z⟩ a
section
variable{E:iM}{c:RC}{F:lL}{l:Int×Bool×RT}
def akF(ok:E.Ok)(hP:B.size<=40)(akG:∀n,n<B.size->1<=kZ B (n:Int))(oL:0<=c.d)(hd:c.d<=4)(hF:c.d<4->sB F (c.d+1))(hI:pG F)(hx:c.x<8)(hy:c.y<8)(KL:fV c.k)(a:é)(w:É)(h:SI E j c B F z v i W l a w): Î À tR (Exit.then (λa' w'=>SI E j c B F z v i W l a' w'/\By j w'<By j w)<|QQ<|SX E j c B z v i W l) a w:=by
 let⟨pl,t,fuel,hfr,s6,⟨sv,lv,hR,hT⟩,ht,hr,hfu,hres⟩:=h;have g0:=ht.g0;have g1:=ht.C;have hl:=ht.M;have akH:=hR.G;obtain⟨f,rfl⟩:∃f,fuel=f+1:=⟨fuel-1,Z⟩;unfold sD at hres;obtain⟨u,rfl⟩:=hfr;by_cases h1:pl=B.size
 .rw[if_pos h1]at hres;subst hres;apply akp ok u hR hP h1;rintro a' w' q1 ⟨jO,jk,r1,r2⟩;exact⟨q1,jO,jk,r1,hT.e8 r2⟩
 rw[if_neg h1]at hres;by_cases h2:(B.size:Int)<pl
 .rw[if_pos h2]at hres;subst hres;apply akq ok u hR hP h2;rintro a' w' q1 ⟨jO,jk,r1,r2⟩;exact⟨q1,jO,jk,r1,hT.e8 r2⟩
 rw[if_neg h2]at hres;have Y4:=s6.1;obtain⟨n,rfl⟩:∃n:Nat,pl=n:=⟨pl.toNat,Z⟩;have hn:n<B.size:=Z
 have k1:=akG n hn;have tP:lu ((B[n]'hn).toNat:Int)=kZ B (n:Int):=by unfold kZ;rw[Ru hn]
 have k2:kZ B (n:Int)<=22:=Y8 _;have hk:=Y9 k2;have Y7:=akE k1 k2;let⟨b1,b2,b3,b4,b5,b6⟩:=KI _ _ hk;have akI:=Ru hn;generalize kZ B (n:Int)=k at*;generalize hro:pJ k=ro at*;let⟨co,ta,pu⟩:=ro;simp only at hres hk Y7 b1 b2 b3 b4 b5 b6;by_cases h3:lJ t.g t.r.length co ta pu=Ï
 .rw[if_pos h3]at hres;subst hres;apply akr ok u hR hP n U hn hr co ta pu Z g0 g1 k tP hk h3;rintro a' w' q1 ⟨jO,jk,r1,r2⟩;exact⟨q1,jO,jk,r1,hT.e8 r2⟩
 rw[if_neg h3]at hres;have oc:lJ t.g t.r.length co ta pu=Ú:=by cases e:lJ t.g t.r.length co ta pu with
  |true=>rfl
  |false=>exact absurd e h3
 let⟨Rs,Bw,Rw⟩:=Zd oc;have Rx:=ht.I;have u5:fV ((n:Int)+1):=⟨Z,Z⟩;have KM:∀{a':é} {w':É} {G5:Int} {t':RT} {jO jk:È},Bx j B G5 a'->fV G5->R E j (ow c t'.g) jO jk t'.r t'.s t'.C w'->Tr E j sv lv t.C.length w jO jk t'.C.length w'->nz t'->t'.g<=t.g-co->sD F c B f G5 t'=l->SI E j c B F z v i W l a' w'/\By j w'<By j w:=by intro a' w' G5 t' jO jk q1 q2 q3 q4 q5 q6 q7;refine⟨⟨G5,t',f,q1,q2,⟨jO,jk,q3,hT.e8 q4⟩,q5,hr.N ok hR q4,Z,q7⟩,?_⟩;rw[q3.G,akH];show t'.g.toNat<t.g.toNat;omega
 by_cases h4:k=1
 .rw[if_pos h4]at hres;subst h4;have Zf:=Ze tP;apply aku ok u hR hP n U hn hr co ta pu Z g0 g1 Zf.1 Zf.2 tP hk oc;rintro a' w' q1 ⟨jO,jk,r1,r2⟩;rw[akI]at hres;refine KM (t':={t with r:=t.r++[((B[n]'hn).toNat:Int)-48],g:=t.g-co}) q1 u5 r1 r2 ⟨sE ht.r<|xc ⟨Z,Z⟩,?_,ht.s,by show 0<=t.g-co;omega,by show t.g-co<=100000;omega,by show(t.C.length:Int)+(t.g-co)<=1000000;omega⟩ (Ö _) hres;simp[iQ]at hk;simp;omega
 rw[if_neg h4]at hres;by_cases h5:k=17
 .rw[if_pos h5]at hres;subst h5;have akJ:ta=2:=by simp[iQ]at hk;omega
  have e2:t.r=(fQ (fQ t.r)++[fT<|fQ t.r])++[fT t.r]:=by rw[xb (by rw[pH];omega),xb Z]
  have tok:nz {t with r:=fQ<|fQ t.r,g:=t.g-co}:=⟨oR<|oR ht.r,by show(fQ<|fQ t.r).length<=32;rw[pH,pH];omega,ht.s,by show 0<=t.g-co;omega,by show t.g-co<=100000;omega,by show(t.C.length:Int)+(t.g-co)<=1000000;omega⟩;by_cases h6:fT (fQ t.r)=0
  .rw[if_pos h6]at hres;apply akw ok u hR hP n U hn hr co ta pu Z g0 g1 _ _ _ e2 h6 tP hk oc;rintro a' w' q1 ⟨jO,jk,r1,r2⟩;exact KM (t':={t with r:=fQ<|fQ t.r,g:=t.g-co}) q1 u5 r1 r2 tok (Ö _) hres
  .rw[if_neg h6]at hres;apply akv ok u hR hP n U hn hr co ta pu Z g0 g1 _ _ _ e2 h6 tP hk oc;rintro a' w' q1 ⟨jO,jk,r1,r2⟩;exact KM (t':={t with r:=fQ<|fQ t.r,g:=t.g-co}) q1 (sC ht.r) r1 r2 tok (Ö _) hres
 rw[if_neg h5]at hres;by_cases h6:k=21
 .rw[if_pos h6]at hres;subst h6 hres;have akJ:ta=1:=by simp[iQ]at hk;omega
  apply akt ok u hR hP n U hn hr co ta pu Z g0 g1 _ _ (xb Z).symm tP hk oc;rintro a' w' q1 ⟨jO,jk,r1,r2⟩;exact⟨q1,jO,jk,r1,hT.e8 r2⟩
 rw[if_neg h6]at hres;by_cases h7:k=22
 .rw[if_pos h7]at hres;subst h7 hres;apply aks ok u hR hP n U hn hr co ta pu Z g0 g1 tP hk oc;rintro a' w' q1 ⟨jO,jk,r1,r2⟩;exact⟨q1,jO,jk,r1,hT.e8 r2⟩
 rw[if_neg h7]at hres;let⟨d1,d2,d3⟩:=Zc (t:={t with g:=t.g-co}) hI hx hy KL Z Z h5 hk U ⟨ht.r,ht.M,ht.s,by show 0<=t.g-co;omega,by show t.g-co<=100000;omega,by show(t.C.length:Int)+(t.g-co)<=1000000;omega⟩ Rx Bw Rw;apply akx ok u hR hP n U hn hr co ta pu Z g0 g1 k Z Z h5 Bw oL hd hF hI ht.s hx hy ht.r Rx (nO F c k {t with g:=t.g-co}) U b1 Rs tP hk oc;rintro a' w' q1 ⟨jO,jk,r1,r2⟩;exact KM q1 u5 r1 r2 d1 d2 hres
end
section
variable{E:iM}{c:RC}{F:lL}{lv:È}{s:St}{b:List (Nat×Int)}
def nP(F:lL)(c:RC)(s:St)(b:List (Nat×Int)):Int×Bool×RT:=sD F c (s c.y).r (c.g.toNat+1) 0 ⟨[],s,b,c.g⟩
def akK(ok:E.Ok)(h:R E i c v lv [] s b w)(l:0<=c.d)(o:c.d<=4)(hF:c.d<4->sB F (c.d+1))(p:pG F)(q:iD w)(f:gC s)(r:c.x<8)(j:c.y<8)(t:fV c.k)(z:0<=c.g)(B:c.g<=100000)(C:(b.length:Int)+c.g<=1000000): Ò À 191 #[Å<|Ã ⟨i,0,Ä⟩] w λe a=>e=Ç (æ #[Â Æ (nP F c s b).1,Ñ (nP F c s b).2.1])/\kC E i v lv b.length w (ow c (nP F c s b).2.2.g) (nP F c s b).2.2.r (nP F c s b).2.2.s (nP F c s b).2.2.C a:=by
 have G:=h.r.r 0 _ U;have I:=h.r.r 2 _ U;have J:=h.C.KF j;have K:=h.r.M;have M:=fc.M h.C;have e:=(f.I c.y).1;have L:∀m,∀a,Bx i (s c.y).r 0 a->Î À (à tR) (QQ<|SX E i c (s c.y).r v lv b.length w<|nP F c s b) a (w.drewN m):=λm a D=>by refine Ĉ (SI E i c (s c.y).r F v lv b.length w<|nP F c s b) (λ_ w=>By i w) ?_ (akF ok e (λn u=>Rv f c.y u) l o hF p r j t);have k:=eZ.iH e9 w m;exact⟨0,⟨[],s,b,c.g⟩,c.g.toNat+1,D,tS,⟨v,lv,h.fF k,Tr.fF k⟩,⟨fg,fg,f,z,B,C⟩,q.r k id,fg,U⟩
 have H:=e7 L;generalize nP F c s b=res at*;generalize N:(s c.y).r=P at*;go_enter Tryz.func191,Tryz.ntmps191;go_wp2_with fail;go_step3;go_wp2_with fail;go_quiet (fail);go_wp2_with fail;go_step3;go_wp2_with fail;refine Ý ?_ (H.out _ _ (gk _));rintro(_|(_|_)|_|_|_|_) a v hq;all_goals first|exact absurd hq id|skip
 let⟨n,O⟩:=hq;obtain⟨u,rfl⟩:=n;unfold Y6;go_wp2_with fail;(try rw[Exit.noGoto_ret]);go_ret2;simp_all
end
def Ry(a:o.op=bh T)(b:P.info? T=Ã zJ)(c:zJ.zero=Ã z): (Ĥ xX o).run P w=φ (.value<|Å<|Ã ⟨w.heap.size,0,Ä⟩) (w.alloc<|Ð z.cells T):=by unfold Ĥ;simp[a,Instr.alloc,zeroValue,typeInfo,b,c,newVar,newRow]
def KN:∀(e a d:List È) (w:É) (c:List È),c.length=e.length->fc b (a++c++d) T w->fc b (a++e++d) T (w.setCells b a.length e)
 |[],a,d,w,c,hl,h=>by have:c=[]:=ß (by simpa using hl);subst this;exact h
 |v::r,a,d,w,c,hl,h=>by
  match c,hl,h with
  |x::c,hl,h=>
   have f:=h.fW a.length v;rw[show(a++x::c++d).set a.length v=(a++[v])++c++d by simp]at f;have:=KN r (a++[v]) d _ c (by simpa using hl) f;rw[show(a++[v]).length=a.length+1 by simp]at this;rw[show a++v::r++d=a++[v]++r++d by simp];exact this
def NF.pS(h:NF b w)(p:ă)(v:È):NF b (w.setCell p v):=λc T d q=>by
 by_cases e:b=p.block
 .subst e;unfold ą at q;simp only[Û,if_true]at q;cases a:w.heap[p.block]? with
  |none=>rw[a]at q;cases q
  |some f=>
   rw[a]at q;cases f with
   |cells g t z=>
    simp only[ñ,è,ģ]at q;rw[<-q.2.1];exact h _ _ _ a
   |_=>cases q
 .rw[Ė _ _ _ _ (by simpa using e)]at q;exact h c T d q
def G6:∀(vs:List È) (o:Nat) (w:É),NF b w->eZ (λk=>k=b) w (w.setCells b o vs)
 |[],_,w,_=>eZ.fO _ w
 |v::r,o,w,h=>(eZ.I (X:=λk=>k=b) (p:=⟨b,o,Ä⟩) U v<|Ù h).e8<|G6 r (o+1) _<|h.pS _ _
def fc.Rz{vs:List È}(h:fc j vs T w)(a:n<=vs.length):w.there j 0 n:=λi b=>by refine⟨?_,h.C _⟩;rw[h.r (0+i) (vs[0+i]'Z)<|Ô Z];rfl
def fc.Y{vs tl:List È}(h:fc j (vs++tl) T w):w.rangeAt j 0 vs:=λi v a=>by apply h.r (0+i) v;rwa[ł,ç (Ü.1 a).1]
def Zg{P:Program}{ops:Array Oper}{rest:List Oper}{o1 o2:Oper}{a:Act}{w:World}{Q:Exit->Act->World->Prop}(g1:o1.guard=none)(g2:o2.guard=none)(T:TypeId)(h1:o1.op=.alloc T)(d:Tmp)(hd:o1.dst=some d)(x y:Operand)(h2:o2.op=.store T x y)(ou:o2.dst=none) {i:TypeInfo} {z:Value} (hi:P.info? T=some i) (hz:i.zero=some z) (cs:List Value) (jV:i.size=cs.length) (ry:z.cells.size=cs.length) (hx:(a.put (some d)<|.pointer<|some ⟨w.heap.size,0,none⟩).eval x=.pointer (some ⟨w.heap.size,0,none⟩)) (hy:(a.put (some d)<|.pointer<|some ⟨w.heap.size,0,none⟩).eval y=.agg cs.toArray) (KO:∀v∈cs,v.oneCell'=true) (h:∀w',fc w.heap.size cs T w'->eZ e9 w w'->w'.heap.size=w.heap.size+1->wpList P ops Q rest (a.put (some d)<|.pointer<|some ⟨w.heap.size,0,none⟩) w') (hT:lI T=false:=by decide):wpList P ops Q (o1::o2::rest) a w:=by
 apply Ć g1 (Ã d) hd _ _ (Ry h1 hi hz);have hB:fc w.heap.size z.cells.toList T (w.alloc<|Ð z.cells T):=by have:=fc.N w z.cells.toList T;simpa using this
 refine ľ g2 T x y h2 w.heap.size 0 cs.toArray hx hy (hB.Rz<|by simp[ry]) (by rw[hi];simp[jV]) (Ī KO) ?_;rw[ou];have hB2:=KN cs [] [] (w.alloc<|Ð z.cells T) z.cells.toList (by simpa using ry) (by simpa using hB);refine h _ (by simpa using hB2) ?_ ?_
 .refine(eZ.gB e9 w _ _<|Ø hT).C (G6 _ _ _<|hB.G hT) λk hk e=> ?_;omega
 .have:∀(vs:List È) (o:Nat) (w:É) (b:Nat),(w.setCells b o vs).heap.size=w.heap.size:=by
   intro vs
   induction vs with
   |nil=>intro o w b;rfl
   |cons v r ih=>intro o w b;rw[World.setCells,ih];simp
  simp[this]
section
variable{c:RC}{F:lL}
structure yN(t:RT)(r:Int×Bool×RT):Prop where
 M:fV r.1
 s:gC r.2.2.s
 g0:0<=r.2.2.g
 C:r.2.2.g<=t.g
 I:(r.2.2.C.length:Int)+r.2.2.g<=t.C.length+t.g
def yN.r{t a:RT}{r:Int×Bool×RT}(h:yN a r)(b:a.g<=t.g)(c:(a.C.length:Int)+a.g<=t.C.length+t.g):yN t r:= ⟨h.M,h.s,h.g0,ŷ h.C b,ŷ h.I c⟩
def DK{J:St->List (Nat×Int)->Prop}(u:B.size<=40)(d:∀n,n<B.size->1<=kZ B (n:Int))(h:pG F)(i:c.x<8)(j:c.y<8)(m:fV c.k)(o:∀(k:Nat) (t:RT),k<=20->nz t->J t.s t.C->J (nO F c k t).s (nO F c k t).C):∀(p:Nat) (b:Int) (t:RT),fV b->nz t->J t.s t.C->yN t (sD F c B p b t)/\J (sD F c B p b t).2.2.s (sD F c B p b t).2.2.C
 |0,_,t,_,ht,hj=>⟨⟨tS,ht.s,ht.g0,Ö _,Ö _⟩,hj⟩
 |f+1,b,t,s6,ht,hj=>by
  have S:=ht.g0;have g1:=ht.C;have T:=ht.M;have V:=ht.I;have L:yN t (0,Ï,{t with g:=0})/\J t.s t.C:=⟨⟨tS,ht.s,Ö _,S,by show(t.C.length:Int)+0<=_;omega⟩,hj⟩;unfold sD;by_cases M:b=B.size
  .rw[if_pos M];exact⟨⟨tS,ht.s,ht.g0,Ö _,Ö _⟩,hj⟩
  rw[if_neg M];by_cases N:(B.size:Int)<b
  .rwa[if_pos N]
  rw[if_neg N];have Y4:=s6.1;obtain⟨n,rfl⟩:∃n:Nat,b=n:=⟨b.toNat,Z⟩;have W:n<B.size:=Z
  have k1:=d n W;have X:kZ B (n:Int)<=22:=Y8 _;have v:=Y9 X;let⟨Y,b2,b3,b4,b5,b6⟩:=KI _ _ v;have akL:kZ B (n:Int)=1->48<=DG B (n:Int)/\DG B (n:Int)<=57:=Ze;generalize kZ B (n:Int)=k at*;generalize hro:pJ k=ro at*;let⟨a,w,z⟩:=ro;simp only at v Y b2 b3 b4 b5 b6|-;by_cases C:lJ t.g t.r.length a w z=Ï
  .rwa[if_pos C]
  rw[if_neg C];have oc:lJ t.g t.r.length a w z=Ú:=by cases e:lJ t.g t.r.length a w z with
   |true=>rfl
   |false=>exact absurd e C
  let⟨Rs,Bw,Rw⟩:=Zd oc;have D:fV ((n:Int)+1):=⟨Z,Z⟩;have E:∀{l:List Int},(∀p∈l,fV p)->l.length<=32->nz {t with r:=l,g:=t.g-a}:=λG H=>⟨G,H,ht.s,by show 0<=t.g-a;omega,by show t.g-a<=100000;omega,by show(t.C.length:Int)+(t.g-a)<=1000000;omega⟩;have I:∀{l:List Int} {r:Int×Bool×RT},yN {t with r:=l,g:=t.g-a} r/\J r.2.2.s r.2.2.C->yN t r/\J r.2.2.s r.2.2.C:=λq=>⟨q.1.r (by show t.g-a<=t.g;omega) (by show(t.C.length:Int)+(t.g-a)<=_;omega),q.2⟩;by_cases p:k=1
  .rw[if_pos p];have:=akL p;subst p;refine I<|DK u d h i j m o f _ _ D (E (sE ht.r<|xc ⟨Z,Z⟩) ?_) hj;simp[iQ]at v;simp;omega
  rw[if_neg p];by_cases K:k=17
  .rw[if_pos K];have O:=E (oR<|oR ht.r) (by rw[pH,pH];omega);split
   .exact I<|DK u d h i j m o f _ _ D O hj
   .exact I<|DK u d h i j m o f _ _ (sC ht.r) O hj
  rw[if_neg K];by_cases O:k=21
  .rw[if_pos O];exact⟨⟨sC ht.r,ht.s,by show 0<=t.g-a;omega,by show t.g-a<=t.g;omega,by show(t.C.length:Int)+(t.g-a)<=_;omega⟩,hj⟩
  rw[if_neg O];by_cases P:k=22
  .rw[if_pos P];exact⟨⟨tS,ht.s,by show 0<=t.g-a;omega,by show t.g-a<=t.g;omega,by show(t.C.length:Int)+(t.g-a)<=_;omega⟩,hj⟩
  rw[if_neg P];have Q:=E ht.r T;let⟨d1,d2,d3⟩:=Zc (t:={t with g:=t.g-a}) h i j m Z Z K v U Q V Bw Rw;let⟨G,H⟩:=DK u d h i j m o f _ _ D d1<|o k _ Z Q hj;exact⟨G.r (ŷ d2<|by show t.g-a<=t.g;omega) d3,H⟩
def Zh{s:St}{a:List (Nat×Int)}(d:pG F)(b:gC s)(e:c.x<8)(f:c.y<8)(h:fV c.k)(i:0<=c.g)(j:c.g<=100000)(l:(a.length:Int)+c.g<=1000000):yN ⟨[],s,a,c.g⟩ (nP F c s a):= (DK (J:=λ_ _=>True) (b.I c.y).1 (λn m=>Rv b c.y m) d e f h (λ_ _ _ _ _=>trivial) _ _ _ tS ⟨fg,fg,b,i,j,l⟩ trivial).1
end
def akM:(À.underlying 144).map İ=Ã Ú:=fj
def Zi:(À.info? 144).map (λi=>(i.size,i.zero.map (·.cells.size)))=Ã (145,Ã 145):=fj
def Zj(h:(P.info? e).map (λi=>(i.size,i.zero.map (·.cells.size)))=Ã (n,Ã m)):∃i z,P.info? e=Ã i/\i.size=n/\i.zero=Ã z/\z.cells.size=m:=by let⟨i,a,h⟩:=Ì.1 h;simp only[Prod.mk.injEq,Ì]at h;let⟨b,z,c,d⟩:=h;exact⟨i,z,a,b,c,d⟩
def RE(s:St){lv:È}(b:lv.oneCell'=Ú):∀v∈iY s lv,v.oneCell'=Ú:=λv c=>by
 obtain⟨i,a,rfl⟩:=List.getElem_of_mem c;rw[ma]at a;have:=GY s lv a;rw[Ô (by rwa[ma])]at this;injection this with this;rw[this];unfold rC pF;repeat' split
 all_goals first|exact b|rfl
def RF{t:Tmp}{d:TypeDesc}(h:s.results=#[.cell t T])(a:q.getD t ā=Å (Ã ⟨b,0,Ä⟩))(c:w.rangeAt b 0 l)(e:P.underlying T=Ã d)(f:d.isRow=Ú)(g:(P.info? T).map (·.size)=Ã l.length): (aj s q).run P w=φ (Ē l.toArray) w:=by rw[ī]at a;simp only[aj,h];simp[a,asAddr,Ν w b 0 T l d c e f g]
def RG:(À.underlying 252).map İ=Ã Ú:=fj
def RH:(À.info? 252).map (·.size)=Ã 3:=fj
def akN{e:Array ş}{f:List ş}{a:é}(i:o.guard=Ä)(d:õ)(x y:Ů)(j:o.op=.store d x y) (b:Nat) (c:List È) (k:a.eval x=Å (Ã ⟨b,0,Ä⟩)) (l:a.eval y=Ē c.toArray) (m:w.there b 0 c.toArray.size) (n:(P.info? d).map (·.size)=Ã c.toArray.size) (p:c.toArray.all (·.oneCell')=Ú) (h:∀g,g=w.setCells b 0 c->aQ P e vJ f (a.put o.dst ā) g):aQ P e vJ (o::f) a w:= ľ i d x y j b 0 c.toArray k l m n p<|h _ U
def rD(F:lL)(c:RC)(s:St)(a:List (Nat×Int)):Bv:=
 ⟨c.g-(nP F c s a).2.2.g,(nP F c s a).2.1,(nP F c s a).1,if(nP F c s a).2.1 then(nP F c s a).2.2.s else s,if(nP F c s a).2.1 then(nP F c s a).2.2.C else a⟩
section
variable{E:iM}{c:RC}{lv:È}{s:St}{f:List (Nat×Int)}{F:lL}
def akO(k:eZ e9 w u)(t:Tr E i (Ê Ä 0 0) lv n u x v f.length W)(o:w.heap.size<=i)(r:R E i c x v zQ s f W):hD E lv n w s f W v:=by
 refine⟨r.C,r.M,?_,λj q=>(t.l j q).imp id λe=>ë k.M e,λb d g h m=>t.C b d g (gV h k λ_ _=>id) m⟩;refine(k.S λ_ _=>ę).C t.r ?_;rintro a p (e|e|e|e)
 .exact Ø e
 .omega
 .cases e
 .exact Ù e
def hD.N{Y:Nat->Prop}(r:hD E lv n w s f W v)(k:eZ Y W jX)(m:∀i,Y i->w.heap.size<=i)(o:∀i d,Y i->W.heap[i]?≠Ã (Ð d 257 (0,0)))(p:¬Y E.r):hD E lv n w s f jX v:=by
 have e:∀{a b c},W.ownsRow 0 257 2 a b c->jX.ownsRow 0 257 2 a b c:=λ{a b c} q=>gV q k λj t y=>by let⟨d,u⟩:=lr q t;exact o j d y u
 exact⟨r.r.I k p,e r.I,r.C.C k λi x y=>absurd (m i y) Z,r.l,λa b c g h=>⟨e (r.M a b c g h).1,(r.M a b c g h).2⟩⟩
def hD.qa{a:St}{c:List (Nat×Int)}(ok:E.Ok)(m:w.ownsRow 0 257 2 lv c.length (jZ c))(r:hD E lv c.length w s f W v):hD E lv c.length w a c (W.setCells E.r 0<|iY a lv) lv:=by have k:=G6 (b:=E.r) (iY a lv) 0 W<|fc.G r.r ok.C;have l:∀{d e g},W.ownsRow 0 257 2 d e g->(W.setCells E.r 0<|iY a lv).ownsRow 0 257 2 d e g:=λ{d e g} q=>gV q k λj n y=>jl q r.r ok.r.symm (by rw[n,y]);have o:=KN (T:=E.T) (b:=E.r) (iY a lv) [] E.C W (iY s v) (by rw[ma,ma]) (by have h:=r.r;unfold im at h;simpa using h);refine⟨by unfold im;simpa using o,l (r.M _ _ _ m λ_=>Þ _).1,r.C.C k λi _ q=>Ø q,λj q=>Ø q,λd e g p h=>⟨l (r.M d e g p h).1,h⟩⟩
def Zk(ok:E.Ok)(oL:0<=c.d)(hd:c.d<=4)(hF:c.d<4->sB F (c.d+1))(hI:pG F)(B:im E.r E.T E.C s lv w)(G:w.ownsRow 0 257 2 lv f.length (jZ f))(hr:iD w)(hs:gC s)(hx:c.x<8)(hy:c.y<8)(KL:fV c.k)(vW:0<=c.g)(vd:c.g<=100000)(hlen:(f.length:Int)+c.g<=1000000): Ò À 173 #[Å<|Ã ⟨E.r,0,Ä⟩,Â Ë c.x,Â Ë c.y,Â Æ c.g,Â Æ c.k,Â Ë c.d] w λe a=>
  e=Ç (Ē #[Â Æ (rD F c s f).r,Ñ (rD F c s f).C,Â Æ (rD F c s f).M])/\∃v,hD E lv f.length w (rD F c s f).s (rD F c s f).I a v:=by
 let⟨dd,Zl,Zm⟩:=Ì.1 akM;let⟨i0,z0,I,J,G7,ry⟩:=Zj Zi;have KO:=RE s (lv:=lv) (by obtain⟨a,o,rfl⟩:=jx G;rfl);have gH:=fc.M B;have Zn:(À.info? 144).map (·.size)=Ã (iY s lv).length:=by rw[I,ma];simp[J]
 have k0:=eZ.gB e9 w #[Â Æ 0,Ñ Ï,Â Æ 0] 252;have Oo:(w.alloc<|Ð #[Â Æ 0,Ñ Ï,Â Æ 0] 252).rangeAt E.r 0 (iY s lv):=fc.Y<|B.I k0 id;have h:=e7<|Á Zl<|Á Zm<|Á Zn<|Á Oo<|Á I<|Á G7<|Á (J.trans (ma s lv).symm)<|Á (ry.trans (ma s lv).symm) KO;have H:=e7<|Á B<|Á G<|Á hr<|Á hF<|Á hI hs;clear Zl Zm I J G7 ry KO Zn Oo B G hr hF hI hs k0;obtain⟨a,b,t,K⟩:∃a b t,nP F c s f=(a,b,t):=⟨_,_,_,U⟩;have iB:rD F c s f=⟨c.g-t.g,b,a,if b then t.s else s,if b then t.C else f⟩:=by unfold rD;rw[K]
 rw[iB];have C:=Zh H.out.2.2.2.2.1 H.out.2.2.2.2.2 hx hy KL vW vd hlen;rw[K]at C;have tg0:0<=t.g:=C.g0;have tg1:t.g<=c.g:=C.C;clear C;go_enter Tryz.func173,Tryz.ntmps173;go_wp2_with (first
  |(with_reducible refine ĥ U 144 _ U E.r 0 U (iY s lv) dd h.out.2.2.2.1 h.out.1 h.out.2.1 h.out.2.2.1 ?_)
  |(with_reducible refine Zg U U 144 U 13 U _ _ U U h.out.2.2.2.2.1 h.out.2.2.2.2.2.1 (iY s lv) h.out.2.2.2.2.2.2.1 h.out.2.2.2.2.2.2.2.1 U U h.out.2.2.2.2.2.2.2.2 ?_;intro m KP L Dp))
 have uZ:m.heap.size=w.heap.size+1+1:=by simpa using Dp
 have mQ:fc (w.heap.size+1) (iY s lv) 144 m:=by simpa using KP
 have r:eZ e9 w (m.alloc<|Ð #[Å<|Ã ⟨E.r,0,Ä⟩,Â Ë c.x,Â Ë c.y,Â Æ c.k,Â Ë c.d,Â Æ c.g,Ê Ä 0 0] 282):=((eZ.gB _ _ _ _).e8 L).e8<|eZ.gB _ _ _ _;have k1:=eZ.gB e9 m #[Å<|Ã ⟨E.r,0,Ä⟩,Â Ë c.x,Â Ë c.y,Â Æ c.k,Â Ë c.d,Â Æ c.g,Ê Ä 0 0] 282;have hR:R E (w.heap.size+1+1) c (Ê Ä 0 0) lv [] s f (m.alloc<|Ð #[Å<|Ã ⟨E.r,0,Ä⟩,Â Ë c.x,Â Ë c.y,Â Æ c.k,Â Ë c.d,Â Æ c.g,Ê Ä 0 0] 282):= ⟨by rw[<-uZ];exact fc.N m (DC E.r c<|Ê Ä 0 0) 282,ĉ _ _ _ _,H.out.1.I r id,gV H.out.2.1 r λ_ _=>id⟩;have Ah:fc w.heap.size [Â Æ 0,Ñ Ï,Â Æ 0] 252 m:=(fc.N w [Â Æ 0,Ñ Ï,Â Æ 0] 252).I L id;have S:=akK (F:=F) ok hR oL hd H.out.2.2.2.1 H.out.2.2.2.2.1 (H.out.2.2.1.r r id) H.out.2.2.2.2.2 hx hy KL vW vd hlen;rw[K]at S;go_at_call 191;apply S.mono;clear S;rintro e W ⟨rfl,Rr,RJ,u,M⟩;have Zo:=akO r M Z u;have N:∀{j:Nat} {O:List È} {T:õ},fc j O T m->w.heap.size<=j->fc j O T W:=λ{j O T} hB hj=>by
  refine(hB.I k1 id).I M.r ?_;have:=hB.M;rintro(q|q|q|q)
  .omega
  .omega
  .cases q
  .have:=(H.out.2.1.lt j q).2;omega
 have n:=N Ah<|Þ _;have Zp:=N mQ Z;have e0:=n.r 0 _ U;have e1:=n.r 1 _ U;have e2:=n.r 2 _ U;have f0:=n.C 0;have f1:=n.C 1;have f2:=n.C 2;have g5:W.cell? ⟨w.heap.size+1+1,5,Ä⟩=Ã (Â Æ t.g):=u.r.r 5 _ U;have ahC:=u.r.M;have l:=e7<|Á Zo<|Á u<|Á n Zp;clear Zo u M n Zp N hR Ah mQ r k1 KP L Dp uZ;cases b with
 |true=>
  go_wp2_with fail
  let⟨d2,P,Q⟩:=Ì.1 RG;have o:=((l.out.2.2.1.fW 0<|Â Æ<|c.g-t.g).fW 1<|Ñ Ú).fW 2<|Â Æ a;apply ð (RF U U (fc.Y (tl:=[]) (vs:=[Â Æ<|c.g-t.g,Ñ Ú,Â Æ a]) o) P Q RH) U;refine⟨U,RJ,l.out.1.N (Y:=λk=>k=w.heap.size) (((eZ.I (X:=λk=>k=w.heap.size) (p:=⟨w.heap.size,0,Ä⟩) U _).e8<|eZ.I (X:=λk=>k=w.heap.size) (p:=⟨w.heap.size,1,Ä⟩) U _).e8<|eZ.I (X:=λk=>k=w.heap.size) (p:=⟨w.heap.size,2,Ä⟩) U _) (λi q=>by omega) (λi cur q z=> ?_) Z⟩;have D:W.heap[w.heap.size]?=_:=l.out.2.2.1;rw[q,D]at z;cases z
 |false=>
  have rg:W.rangeAt (w.heap.size+1) 0 (iY s lv):=fc.Y (tl:=[]) (by simpa using l.out.2.2.2);have th:W.there E.r 0 (iY s lv).toArray.size:=by have:=l.out.1.r;unfold im at this;exact this.Rz<|by simp only[ć,Ó,ma];omega
  have Zq:(À.info? 144).map (·.size)=Ã (iY s lv).toArray.size:=by rw[h.out.2.2.1];simp
  have pB:=Ī h.out.2.2.2.2.2.2.2.2;have HNF:=e7<|fc.G l.out.2.1.C ok.C;have D:=e7<|Á rg<|Á th<|Á Zq pB;clear rg th Zq pB;go_wp2_with (first
   |(with_reducible refine ĥ U 144 _ U (w.heap.size+1) 0 U (iY s lv) dd D.out.1 h.out.1 h.out.2.1 h.out.2.2.1 ?_)
   |(with_reducible refine akN U 144 _ _ U E.r (iY s lv) U U D.out.2.1 D.out.2.2.1 D.out.2.2.2 ?_;intro jX V;have kb:eZ (λk=>k=E.r) W jX:=(by rw[V];exact G6 _ _ _ HNF.out);have o:=l.out.2.2.1.I kb Z;have p0:=o.r 0 _ U;have p1:=o.r 1 _ U;have p2:=o.r 2 _ U;have y0:=o.C 0;have y1:=o.C 1;have y2:=o.C 2;have RL:=l.out.2.1.r.I kb Z;have p5:jX.cell? ⟨w.heap.size+1+1,5,Ä⟩=Ã (Â Æ t.g):=RL.r 5 _ U;have hl4:=RL.M;have Zr:=e7 o;clear kb o RL;have HW:=e7 V;clear V))
  let⟨d2,P,Q⟩:=Ì.1 RG;apply ð (RF U U (fc.Y (tl:=[]) (vs:=[Â Æ<|c.g-t.g,Ñ Ï,Â Æ a])<|((Zr.out.fW 0<|Â Æ<|c.g-t.g).fW 1<|Ñ Ï).fW 2<|Â Æ a) P Q RH) U;have o:hD E lv f.length w s f jX lv:=by rw[HW.out];exact l.out.1.qa ok H.out.2.1
  refine⟨U,lv,o.N (Y:=λk=>k=w.heap.size) (((eZ.I (X:=λk=>k=w.heap.size) (p:=⟨w.heap.size,0,Ä⟩) U _).e8<|eZ.I (X:=λk=>k=w.heap.size) (p:=⟨w.heap.size,1,Ä⟩) U _).e8<|eZ.I (X:=λk=>k=w.heap.size) (p:=⟨w.heap.size,2,Ä⟩) U _) (λi q=>by omega) (λi cur q z=> ?_) Z⟩;rw[q,Zr.out]at z;cases z
end
def yO:Nat->lL
 |0=>λs a _ _ _ _=>⟨0,Ï,0,s,a⟩
 |n+1=>λs a x y g k=>rD (yO n) ⟨x,y,k,4-(n:Int),g⟩ s a
theorem akP{F:lL}(d:pG F){c:RC}{s:St}{a:List (Nat×Int)}(b:gC s)(e:c.x<8)(f:c.y<8)(i:fV c.k)(j:0<=c.g)(l:c.g<=100000)(m:(a.length:Int)+c.g<=1000000):Y3 a c.g (rD F c s a):=by
 have h:=Zh d b e f i j l m;have p:=h.g0;have n:=h.C;have o:=h.I;simp only at n o;unfold rD;refine⟨by simp only;omega,by simp only;omega,?_,h.M,?_⟩
 .simp only;split
  .exact h.s
  .exact b
 .grind
def G8:∀n,pG<|yO n
 |0=>λs a x y g k b _ _ _ d _ _=>⟨Ö _,d,b,tS,by show(a.length:Int)<=a.length+0;omega⟩
 |n+1=>λs a x y g k b d e f h i j=>akP (c:=⟨x,y,k,4-(n:Int),g⟩) (G8 n) b d e f h i j
def Zs:∀n,n<=3->sB (yO<|n+1) (4-(n:Int))
 |0,_=>λE a s t u x y g k w b d f i j l m o p r=>Zk (c:=⟨x,y,k,4-((0:Nat):Int),g⟩) (F:=yO 0) a (show(0:Int)<=4-((0:Nat):Int) by decide) (show(4:Int)-((0:Nat):Int)<=4 by decide) (λq=>absurd q<|show¬(4:Int)-((0:Nat):Int)<4 by decide) (G8 0) b d f i j l p m o r
 |n+1,h=>λE a s t u x y g k w b d f i j l m o p r=>by
  have e:(4:Int)-((n+1:Nat):Int)+1=4-(n:Int):=Z
  exact Zk a (by show 0<=4-((n+1:Nat):Int);omega) (by show 4-((n+1:Nat):Int)<=4;omega) (λ_=>by show sB _ (4-((n+1:Nat):Int)+1);rw[e];exact(Zs n Z)) (G8<|n+1) b d f i j l p m o r
def fY:lL:=yO 4
def KQ:pG fY:=G8 4
def Zt:sB fY 1:=Zs 3 A
def im.ni{tl:List È}{s:St}(h:im b T tl s v w)(k:eZ X w u)(a:¬X b):im b T tl s v u:=fc.I h k a
section
variable{E:iM}{lv:È}{w1:É}{s B d:St}{ls f r:List (Nat×Int)}
theorem hD.fO(a:im E.r E.T E.C s lv w)(b:w.ownsRow 0 257 2 lv ls.length (jZ ls)):hD E lv ls.length w s ls w lv:= ⟨a,b,eZ.fO _ _,λ_ q=>Ø q,λ_ _ _ c d=>⟨c,d⟩⟩
def hD.e8(h:hD E lv n w B f w1 v)(k:hD E v f.length w1 d r u jQ):hD E lv n w d r u jQ:=by
 refine⟨k.r,k.I,h.C.C k.C ?_,λj q=> ?_,λa b c g m=> ?_⟩
 .rintro i o (e|e)
  .exact Ø e
  .exact Ù<|(h.l i e).resolve_right Z
 .rcases k.l j q with e|e
  .exact h.l j e
  .exact Ù<|ë h.C.M e
 .let⟨e,i⟩:=h.M a b c g m;exact k.M a b c e i
def hD.fF(h:hD E lv n w s ls w1 v)(k:eZ e9 w1 u):hD E lv n w s ls u v:= h.N k (λ_=>ę) (λ_ _=>ę) id
def hD.Y(ok:E.Ok)(h:hD E lv n w s ls w1 v)(i:Nat)(k:im E.r E.T E.C d v (w1.setCell ⟨E.r,i,Ä⟩ x)):hD E lv n w d ls (w1.setCell ⟨E.r,i,Ä⟩ x) v:=by have e:=eZ.I (X:=λk=>k=E.r) (p:=⟨E.r,i,Ä⟩) U x<|Ù<|fc.G h.r ok.C;have f:∀{a b c},w1.ownsRow 0 257 2 a b c->(w1.setCell ⟨E.r,i,Ä⟩ x).ownsRow 0 257 2 a b c:=λ{a b c} q=>gV q e λj o y=>jl q h.r ok.r.symm (by rw[o,y]);exact⟨k,f h.I,h.C.C e λi _ q=>Ø q,h.l,λa b c g m=>⟨f (h.M a b c g m).1,(h.M a b c g m).2⟩⟩
def hD.fp(ok:E.Ok)(h:hD E lv n w s ls w1 v)(a:i<8)(x:Int):hD E lv n w (s.fp i x) ls (w1.setCell ⟨E.r,i*18,Ä⟩<|Â Æ x) v:=h.Y ok _<|h.r.yJ a x
def hD.KF(ok:E.Ok)(h:hD E lv n w s ls w1 v)(a:i<8)(x:ByteArray):hD E lv n w (s.C i x) ls (w1.setCell ⟨E.r,i*18+1,Ä⟩<|Í x) v:=h.Y ok _<|h.r.ajG a x
end
def xd(s:St)(x y:Nat)(n:Int):Bool×St:=
 if(s x).fp<n+10 then(Ï,s)else(Ú,(s.fp x<|(s x).fp-(n+10)).fp y<|wu<|(s.fp x ((s x).fp-(n+10)) y).fp+n)
section
variable{E:iM}{lv:È}{s:St}{ls:List (Nat×Int)}
def akQ(ok:E.Ok)(c:im E.r E.T E.C s lv w)(g:w.ownsRow 0 257 2 lv ls.length (jZ ls))(f:gC s)(x y:Nat)(n:Int)(a:x<8)(d:y<8)(h:0<=n)(i:n<=1000000): Ò À 168 #[Å<|Ã ⟨E.r,0,Ä⟩,Â Ë x,Â Ë y,Â Æ n] w λe m=>e=Ç (Ñ (xd s x y n).1)/\hD E lv ls.length w (xd s x y n).2 ls m lv:=by
 have j:=c.fp a;have k:=fc.C c<|x*18;have l:=(f.fp x).1;have o:=(f.fp x).2;have p:∀m,((w.drewN m).setCell ⟨E.r,x*18,Ä⟩<|Â Æ<|(s x).fp-(n+10)).cell? ⟨E.r,y*18,Ä⟩=Ã (Â Æ (s.fp x ((s x).fp-(n+10)) y).fp):=λm=>((c.ni (eZ.iH e9 w m) id).yJ a _).fp d;have q:∀m,((w.drewN m).setCell ⟨E.r,x*18,Ä⟩<|Â Æ<|(s x).fp-(n+10)).frozen? ⟨E.r,y*18,Ä⟩=Ï:=λm=>fc.C ((c.ni (eZ.iH e9 w m) id).yJ a _) _;have r:=(c.yJ a<|(s x).fp-(n+10)).fp d;have t:=fc.C (c.yJ a<|(s x).fp-(n+10))<|y*18;have H:=e7<|hD.fO c g;unfold xd;by_cases e:(s x).fp<n+10
 .rw[if_pos e];generalize(s x).fp=b at*;go_enter ak,κ;go_wp2_with fail;go_ret;exact⟨U,H.out⟩
 .rw[if_neg e];generalize(s.fp x ((s x).fp-(n+10)) y).fp=b2 at*;generalize(s x).fp=b at*;go_enter ak,κ;go_wp2_with fail;go_region;go_wp2_with fail;go_region;go_wp2_with fail;go_ret;refine⟨U,?_⟩;first
   |exact((H.out.fp ok a _).fp ok d _).fF<|eZ.iH _ _ _
   |exact(((H.out.fF<|eZ.iH _ _ _).fp ok a _).fp ok d _)
   |exact(((H.out.fF<|eZ.fM _ _).fp ok a _).fF<|eZ.fM _ _).fp ok d _
   |exact((H.out.fp ok a _).fp ok d _).still<|(Keep.drew _ _).trans<|Keep.drew _ _
end
def akR(a:jU w)(p:ă)(n:Nat):jU (w.freeze p n):=by
 unfold Đ;split
 .exact a
 .intro i o h;simp only[Û]at h;split at h
  .cases b:w.heap[i]? with
   |none=>rw[b]at h;cases h
   |some d=>
    have:=a _ _ b;rw[b]at h;cases d with
    |cells c t z=>simp only[ñ,è]at h;subst h;exact λx=>x
    |_=>exact absurd trivial this
  .exact a i o h
def Zu(a:rB m w)(p:ă)(n:Nat):rB m (w.freeze p n):=by
 unfold Đ;split
 .exact a
 .intro i c T f e h b;simp only[Û]at h;split at h
  .cases d:w.heap[i]? with
   |none=>rw[d]at h;cases h
   |some g=>
    rw[d]at h;cases g with
    |cells j t z=>
     simp only[ñ,è,ģ]at h;rw[<-h.1];rw[<-h.2.1]at b;exact a _ _ _ _ e d b
    |_=>cases h
  .exact a i c T f e h b
theorem akS{w w1:World}{g:Nat}{cur Y:Array Value}{e:TypeId}{z:Nat×Nat}(hw:eZ e9 w w1)(hg:w1.heap[g]?=some (.cells cur e z))(ar4:w.heap.size<=g)(he:lI e=false:=by decide):eZ e9 w (w1.setRow g Y):=by
 refine⟨by simpa using hw.M,λk hk _=>(ė w1 g k Y Z).trans<|hw.N k hk id,λal i o ho=> ?_,λm a i c T fr hm h hT=> ?_⟩;rotate_left
 .by_cases hi:i=g
  .subst hi;rw[ĝ w1 i cur Y e z hg]at h;grind
  .rw[ė w1 g i Y hi]at h;exact hw.Y m a i c T fr hm h hT
 by_cases hi:i=g
 .subst hi;rw[ĝ w1 i cur Y e z hg]at ho;cases ho;exact λx=>x
 .rw[ė w1 g i Y hi]at ho;exact hw.gM al i o ho
def akT(b:eZ e9 w u)(e:w.heap.size<=p.block):eZ e9 w (u.freeze p n):=by
 refine⟨?_,λk c _=> ?_,λd=>akR (b.gM d) p n,λm a=>Zu (b.Y m a) p n⟩
 .unfold Đ;split
  .exact b.M
  .simpa using b.M
 .unfold Đ;split
  .exact b.N k c id
  .simp only[Û];rw[if_neg Z];exact b.N k c id
def RN:(À.info? 5).map (λi=>(i.zero,i.size,i.bytes))=Ã (Ã<|Â aT 0,1,1):=fj
def akU(n:Nat)(e:n<=1000000):∃M:Array È,M.size=n/\∀W:É,(Instr.makeSlice 107 (Â Ë (n:Int))<|Â Ë (n:Int)).run À W=φ (Ê (Ã ⟨W.heap.size,0,Ä⟩) n n) (W.alloc<|Ð M 5):=by let⟨i,a,b,c,d⟩:=í RN;refine⟨madeCells (Â aT 0).cells<|(n:Int).toNat*i.size,by rw[size_madeCells,c];simp,λW=> ?_⟩;simpa using run_make W 107 5 i (Â aT 0) ý a b Ë Ë n n Z Z (by rw[d];omega) Z
theorem akV{M:Array È}(e:M.size=B.size)(b:W.heap[i]?=Ã (Ð M 5 (0,0))): (ν #[107,9] 3 #[Ê (Ã ⟨i,0,Ä⟩) B.size B.size,Í B]).run À W=φ (goInt B.size) (W.setRow i (ô B.data.toList).toArray):=by let⟨a,c,_,d,_⟩:=í RN;have h:=Lib.run_copy_row_string W 107 9 3 5 i 0 B.size B.size B M 5 ý (by rw[c];simp[d]) b (Þ _) Z;grind [List.drop_of_length_le]
def akW(d:B.size≠0)(m:B.size<=1000000)(c:W.heap[i]?=Ã (Ð (ô B.data.toList).toArray 5 (0,0))): (Ő #[177,3] 9 #[Å<|Ã ⟨i,0,Ä⟩,Â Ë (B.size:Int)]).run À W=φ (Í B) (W.freeze ⟨i,0,Ä⟩ B.size):=by
 let⟨a,f,_,k,_⟩:=í RN;have b:=Lib.size_eq B;have l:(ô B.data.toList).toArray.size=B.size:=by rw[ć,Ř,<-b]
 have h:=Ĺ W 177 3 9 5 Ū (by simp[Program.cellsOf,f,k]) i B.size (by unfold Ÿ;rw[c];simp only[l]) B.data.toList (by intro e;rw[e]at b;exact d b) Z Z (λj x e=>Lib.cells_of_row c _ j _<|by rw[List.take_of_length_le<|Þ _];simp[ô,e]);rwa[<-b]at h
def akX(s:ByteArray)(a:s.size<=1000000)(w:É):Ò À 196 #[Í s] w λe c=>e=Ç (Í s)/\eZ e9 w c:=by
 by_cases b:s.size=0
 .have d:=bn<|Array.eq_empty_of_size_eq_zero b;subst d;go_enter ar,ξ;go_wp2;go_ret;exact⟨U,eZ.fO _ _⟩
 .let⟨M,d,mk⟩:=akU s.size a;have g:=akV d<|ì w<|Ð M 5;have h:=akW b a<|ĝ (w.alloc<|Ð M 5) w.heap.size M (ô s.data.toList).toArray 5 (0,0)<|ì w _;have f:=e7<|akT (p:=⟨w.heap.size,0,Ä⟩) (n:=s.size) (akS (Y:=(ô s.data.toList).toArray) (eZ.gB e9 w M 5) (ì w _)<|Þ _)<|Þ _;generalize(ô s.data.toList).toArray=Y at*;go_enter ar,ξ;go_wp2;go_ret;exact⟨U,f.out⟩
def akY(s:ByteArray)(a:s.size<=1000000)(w:É):Ò À 186 #[Í s] w λe b=>e=Ç (Í s)/\eZ e9 w b:=by go_enter Tryz.func186,Tryz.ntmps186;go_wp2_with (go_at_call 196;refine(akX s a _).mono ?_;rintro e d ⟨rfl,c⟩);go_ret;exact⟨U,c⟩
def xe(s:St)(x:Nat)(p:ByteArray):Bool×St:=
 if(s x).fp<20 then(Ï,s)else(Ú,(s.fp x<|(s x).fp-20).C x p)
def yP{t u:Tmp}{cs:List È}{d:TypeDesc}(h:s.results=#[.cell t T,.tmp u])(a:q.getD t ā=Å (Ã ⟨b,0,Ä⟩))(c:w.rangeAt b 0 cs)(e:P.underlying T=Ã d)(f:d.isRow=Ú)(g:(P.info? T).map (·.size)=Ã cs.length): (aj s q).run P w=φ (æ #[Ē cs.toArray,q.getD u ā]) w:=by have i:=Ν w b 0 T cs d c e f g;rw[ī]at a;simp only[aj,h];simp[a,asAddr,i]
def G9:(À.underlying 246).map İ=Ã Ú:=fj
def Bz:(À.info? 246).map (·.size)=Ã 2:=fj
section
variable{E:iM}{lv:È}{s:St}{ls:List (Nat×Int)}
def akZ(ok:E.Ok)(a:im E.r E.T E.C s lv w)(h:w.ownsRow 0 257 2 lv ls.length (jZ ls))(f:gC s)(x:Nat)(p:ByteArray)(c:x<8)(i:p.size<=1000000): Ò À 169 #[Å<|Ã ⟨E.r,0,Ä⟩,Â Ë x,Í p] w λe d=>e=Ç (Ñ (xe s x p).1)/\hD E lv ls.length w (xe s x p).2 ls d lv:=by
 have k:=fc.M a;have l:=a.fp c;have m:=fc.C a<|x*18;have n:=(f.fp x).1;have o:=(f.fp x).2;have q:(0:Int)<=(x:Int):=Z
 have r:(x:Int)<8:=Z
 have H:=e7<|hD.fO a h;unfold xe;by_cases g:(s x).fp<20
 .rw[if_pos g];generalize(s x).fp=b at*;go_enter au,ο;go_wp2_with fail;go_ret;exact⟨U,H.out⟩
 .rw[if_neg g];generalize(s x).fp=b at*;go_enter au,ο;go_wp2_with fail;go_region;go_wp2_with fail;go_region_held3 (λ_=>True) (trivial) (first
    |(go_at_call 186;refine(akY p i _).mono ?_;rintro e t ⟨rfl,j⟩;dsimp only;have d:=((H.out.fp ok c (b-20)).fF (eZ.iH e9 _ 2)).fF j;have u:=d.r.KF c;have v:=fc.C d.r (x*18+1)))
  go_wp2_with fail
  go_ret;exact⟨U,d.KF ok c p⟩
def yR(s:St)(ls:List (Nat×Int))(x y:Nat)(n k:Int):(Int×Bool)×Bool×St×List (Nat×Int):=
 if n<10\/400<n\/(s x).fp<n then((0,Ï),Ï,s,ls)
 else(((fY (s.fp x<|(s x).fp-n) ls x y (n-10) k).r+10,(fY (s.fp x<|(s x).fp-n) ls x y (n-10) k).C),Ú,
  (fY (s.fp x ((s x).fp-n)) ls x y (n-10) k).s.fp x (wu (((fY (s.fp x ((s x).fp-n)) ls x y (n-10) k).s x).fp+(n-((fY (s.fp x ((s x).fp-n)) ls x y (n-10) k).r+10)))),(fY (s.fp x ((s x).fp-n)) ls x y (n-10) k).I)
def ak0(a:im E.r E.T E.C s lv w)(c:w.ownsRow 0 257 2 lv ls.length (jZ ls))(x y:Nat)(n k:Int)(d:x<8)(j:0<=n)(l:n<10\/400<n\/(s x).fp<n): Ò À 170 #[Å<|Ã ⟨E.r,0,Ä⟩,Â Ë x,Â Ë y,Â Æ n,Â Æ k] w λe H=>e=Ç (æ #[Ē #[Â Æ 0,Ñ Ï],Ñ Ï])/\hD E lv ls.length w s ls H lv:=by
 have m:=fc.M a;have o:=a.fp d;have p:(0:Int)<=(x:Int):=Z
 have q:(x:Int)<8:=Z
 let⟨r,f,g⟩:=Ì.1 G9;have H:=e7<|Á (hD.fO a c)<|Á f g;generalize(s x).fp=b at*;by_cases h:n<10
 .go_enter Ņ,ĺ;go_wp2_with fail;have e:=eZ.gB e9 w #[Â Æ 0,Ñ Ï] 246;apply ð (yP U U (fc.Y (vs:=[Â Æ 0,Ñ Ï])<|fc.N w [Â Æ 0,Ñ Ï] 246) H.out.2.1 H.out.2.2 Bz) U;exact⟨U,H.out.1.fF e⟩
 .have t:=decide_eq_false h;by_cases i:400<n
  .go_enter Ņ,ĺ;go_wp2_with fail;have e:=eZ.gB e9 w #[Â Æ 0,Ñ Ï] 246;apply ð (yP U U (fc.Y (vs:=[Â Æ 0,Ñ Ï])<|fc.N w [Â Æ 0,Ñ Ï] 246) H.out.2.1 H.out.2.2 Bz) U;exact⟨U,H.out.1.fF e⟩
  .have u:=decide_eq_false i;have v:b<n:=Z
   go_enter Ņ,ĺ;go_wp2_with fail;have e:=eZ.gB e9 w #[Â Æ 0,Ñ Ï] 246;apply ð (yP U U (fc.Y (vs:=[Â Æ 0,Ñ Ï])<|fc.N w [Â Æ 0,Ñ Ï] 246) H.out.2.1 H.out.2.2 Bz) U;exact⟨U,H.out.1.fF e⟩
def ak1(ok:E.Ok)(a:im E.r E.T E.C s lv w)(l:w.ownsRow 0 257 2 lv ls.length (jZ ls))(m:iD w)(g:gC s)(x y:Nat)(n k:Int)(c:x<8)(B:y<8)(D:fV k)(GD:10<=n)(u5:n<=400)(ar5:n<=(s x).fp)(hlen:(ls.length:Int)+n<=1000000)(r:Bv)(o:r=fY (s.fp x<|(s x).fp-n) ls x y (n-10) k): Ò À 170 #[Å<|Ã ⟨E.r,0,Ä⟩,Â Ë x,Â Ë y,Â Æ n,Â Æ k] w λe t=>e=Ç (æ #[Ē #[Â Æ<|r.r+10,Ñ r.C],Ñ Ú])/\∃u,hD E lv ls.length w (r.s.fp x<|wu<|(r.s x).fp+(n-(r.r+10))) r.I t u:=by
 have gH:=fc.M a;have d1:=a.fp c;have f1:=fc.C a<|x*18;have Wt:(0:Int)<=(x:Int):=Z
 have Ad:(x:Int)<8:=Z
 have b0:=(g.fp x).1;have b1:=(g.fp x).2;have v:gC (s.fp x<|(s x).fp-n):=g.r x ⟨Z,Z⟩;have h:=KQ _ ls x y (n-10) k v c B D Z Z Z;have F:=hD.fO a l;have C:∀W j,hD E lv ls.length w (s.fp x<|(s x).fp-n) ls W j->iD W->Ò À 173 #[Å<|Ã ⟨E.r,0,Ä⟩,Â Ë x,Â Ë y,Â Æ<|n-10,Â Æ k,Â Ë 1] W λe t=>e=Ç (Ē #[Â Æ r.r,Ñ r.C,Â Æ r.M])/\∃u,hD E j ls.length W r.s r.I t u:=λW j G P=>by rw[o];exact Zt E ok _ j ls x y (n-10) k W G.r G.I P v c B Z Z D Z
 rw[<-o]at h;have u0:=h.C;have u1:=h.r;let⟨d2,I,J⟩:=Ì.1 G9;have K:∀i,iD (w.setCell ⟨E.r,i,Ä⟩<|Â Æ<|(s x).fp-n):=λi=>m.r (eZ.I (X:=λk=>k=E.r) U _) λq=>m.C a ok.N q.symm;have H:=e7<|Á F<|Á C<|Á K<|Á I<|Á J l;clear a l m g v h F C K I J o;generalize(s x).fp=b at*;have e1:decide (n<10)=Ï:=decide_eq_false Z;have e2:decide (400<n)=Ï:=decide_eq_false Z;have e3:decide (b<n)=Ï:=decide_eq_false Z;generalize Q:(r.s x).fp=b2;go_enter Ņ,ĺ;go_wp2_with fail;have L:=(H.out.1.fp ok c<|b-n).fF<|eZ.gB e9 _ #[Â Æ 0,Ñ Ï] 246;go_at_call 173;refine(H.out.2.1 _ _ L<|(H.out.2.2.1 _).r (eZ.gB e9 _ _ _) id).mono ?_;rintro e S ⟨rfl,V,f⟩;have d:fc w.heap.size [Â Æ 0,Ñ Ï] 246 S:=by
  have z:fc w.heap.size [Â Æ 0,Ñ Ï] 246 ((w.setCell ⟨E.r,x*18,Ä⟩<|Â Æ<|b-n).alloc<|Ð #[Â Æ 0,Ñ Ï] 246):=by have:=fc.N (w.setCell ⟨E.r,x*18,Ä⟩<|Â Æ<|b-n) [Â Æ 0,Ñ Ï] 246;simpa using this
  refine z.I f.C ?_;rintro(q|q)
  .omega
  .have:=(H.out.2.2.2.2.2.lt _ q).2;omega
 have Y:=f.r.fp c;have z1:=fc.C f.r<|x*18;have KR:=fc.M f.r;have hl2:=d.M;have c0:=d.r 0 _ U;have c1:=d.r 1 _ U;have y0:=d.C 0;have y1:=d.C 1;have M:=e7<|Á (L.e8 f) d;rw[Q]at Y;go_wp2_with fail;go_region;go_wp2_with fail;have q1:=M.out.1.fp ok c<|wu<|b2+(n-(r.r+10));have N:=M.out.2.I (eZ.I (X:=λk=>k=E.r) (p:=⟨E.r,x*18,Ä⟩) U<|Â Æ<|wu<|b2+(n-(r.r+10))) Z;have q2:=q1.N ((eZ.I (X:=λk=>k=w.heap.size) (p:=⟨w.heap.size,0,Ä⟩) U<|Â Æ<|r.r+10).e8<|eZ.I (X:=λk=>k=w.heap.size) (p:=⟨w.heap.size,1,Ä⟩) U<|Ñ r.C) (λi q=>by omega) (λi cur q O=>by have z:=N;rw[q,z]at O;cases O) Z;have z:∀W:É,∀O,eZ e9 W ((W.alloc<|Ð O 252).drew):=λW O=>(eZ.gB _ _ _ _).e8<|eZ.fM _ _;have hb:=(((N.fW 0<|Â Æ<|r.r+10).fW 1<|Ñ r.C)).I (z _ #[Â Æ<|r.r+10,Ñ r.C,Â Æ r.M]) id;apply ð (yP U U (fc.Y (vs:=[Â Æ<|r.r+10,Ñ r.C]) hb) H.out.2.2.2.1 H.out.2.2.2.2.1 Bz) U;exact⟨U,V,q2.fF<|z _ _⟩
end
structure Tx where
 x:Nat
 y:Nat
 n:Int
 k:Int
 r:Int
 C:ByteArray
structure lz(a:Nat)(t:Tx)(w:É):Prop where
 b:∃cs fz,w.heap[a]?=Ã (Ð cs 200 fz)
 r:w.cell? ⟨a,0,Ä⟩=Ã (Â Ë t.x)
 C:w.cell? ⟨a,1,Ä⟩=Ã (Â Ë t.y)
 I:w.cell? ⟨a,2,Ä⟩=Ã (Â Ë t.n)
 M:w.cell? ⟨a,3,Ä⟩=Ã (Â Ë t.k)
 Y:w.cell? ⟨a,4,Ä⟩=Ã (Â Ë t.r)
 N:w.cell? ⟨a,5,Ä⟩=Ã (Í t.C)
structure Tx.Ok(t:Tx):Prop where
 x:t.x<8
 y:t.y<8
 I:0<=t.n
 M:t.n<1000000
 r:0<=t.k
 C:t.k<1000000
 N:t.C.size<=40/\∀c∈t.C.data.toList,w7 c=Ú
def lz.G{t:Tx}(h:lz i t w):i<w.heap.size:=á w _ h.r
def lz.S{t:Tx}(h:lz i t w)(k:eZ X w u)(b:¬X i):lz i t u:=by let⟨c,d,e⟩:=h.b;exact⟨⟨c,d,by rwa[k.N i h.G b]⟩,k.r h.r b,k.r h.C b,k.r h.I b,k.r h.M b,k.r h.Y b,k.r h.N b⟩
def lz.iK{t:Tx}(h:lz i t w)(c:w.heap[j]?=Ã (Ð d T xJ))(e:T≠200):i≠j:=by rintro rfl;let⟨f,g,b⟩:=h.b;rw[c]at b;cases b;exact e U
def lz.xa{E:iM}{t:Tx}{s c:St}{ls b:List (Nat×Int)}(d:E.T≠200)(h:lz i t w)(e:im E.r E.T E.C c v w)(f:w.ownsRow 0 257 2 v b.length (jZ b))(r:hD E v n w s ls u x):lz i t u:=by
 refine h.S r.C ?_;rintro(q|q)
 .exact h.iK e d q
 .let⟨j,g⟩:=lr f q;exact h.iK g A U
def lN(s:St)(ls:List (Nat×Int))(t:Tx):(Int×Bool)×Bool×St×List (Nat×Int):=
 if t.r=1 then((10,Ú),(xd s t.x t.y t.n).1,(xd s t.x t.y t.n).2,ls)
 else if t.r=2 then((20,Ú),(xe s t.x t.C).1,(xe s t.x t.C).2,ls)
 else yR s ls t.x t.y t.n t.k
def DL(a:0<=h)(b:h<1000000):Æ.wrap h=h:=by show wu h=h;exact ajI a Z
def Ha(E:iM)(a:È)(n:Nat)(w:É)(o:(Int×Bool)×Bool×St×List (Nat×Int))(e:av)(b:É):Prop:=
 e=Ç (æ #[Ē #[Â Æ o.1.1,Ñ o.1.2],Ñ o.2.1])/\∃c,hD E a n w o.2.2.1 o.2.2.2 b c
def ak2{E:iM}{s:St}{ls:List (Nat×Int)}(ok:E.Ok)(b:im E.r E.T E.C s v w)(c:w.ownsRow 0 257 2 v ls.length (jZ ls))(f:iD w)(g:gC s)(x y:Nat)(n k:Int)(d:x<8)(i:y<8)(j:fV k)(l:0<=n)(m:(ls.length:Int)+400<=1000000): Ò À 170 #[Å<|Ã ⟨E.r,0,Ä⟩,Â Ë x,Â Ë y,Â Æ n,Â Æ k] w (Ha E v ls.length w<|yR s ls x y n k):=by
 unfold yR;by_cases a:n<10\/400<n\/(s x).fp<n
 .rw[if_pos a];exact(ak0 b c x y n k d l a).mono λe o h=>⟨h.1,v,h.2⟩
 .rw[if_neg a];exact ak1 ok b c f g x y n k d i j Z Z Z Z _ U
def hD.S{E:iM}{s:St}{ls:List (Nat×Int)}(k:eZ e9 w W)(r:hD E v n W s ls u x):hD E v n w s ls u x:= ⟨r.r,r.I,(k.S λ_ _=>ę).C r.C λ_ _ q=>q,λj q=>(r.l j q).imp id λe=>ë k.M e,λa b c d f=>r.M a b c (gV d k λ_ _=>id) f⟩
section
variable{E:iM}{lv:È}{s:St}{ls:List (Nat×Int)}{a:Nat}{t:Tx}
def RO{yD:Value}{w1:World}{n:Nat}{s1:St}{Zv:List (Nat×Int)}(r:hD E lv n w s1 Zv w1 yD)(hB:fc w.heap.size [.int .u64 0,.bool false] 246 w1)(hlb:E.r<w.heap.size)(v0 v1:Value)(hf0:jY v0=true:=by rfl)(hf1:jY v1=true:=by rfl): hD E lv n w s1 Zv ((w1.setCell ⟨w.heap.size,0,none⟩ v0).setCell ⟨w.heap.size,1,none⟩ v1) yD/\fc w.heap.size [v0,v1] 246 ((w1.setCell ⟨w.heap.size,0,none⟩ v0).setCell ⟨w.heap.size,1,none⟩ v1):=by refine⟨r.N (Y:=λk=>k=w.heap.size) ((eZ.I (X:=λk=>k=w.heap.size) (p:=⟨w.heap.size,0,Ä⟩) U v0<|Ø hf0).e8<|eZ.I (X:=λk=>k=w.heap.size) (p:=⟨w.heap.size,1,Ä⟩) U v1<|Ø hf1) (λi q=>by omega) (λi cur q hc=> ?_) Z,(hB.fW 0 v0).fW 1 v1⟩;rw[q,hB]at hc;cases hc
def RP{W:É}{a:St}{b:List (Nat×Int)}{cs:List È}(c:jX=(w.alloc<|Ð cs.toArray T).drewN 1\/jX=w.alloc (Ð cs.toArray T))(d:w.ownsRow 0 257 2 lv ls.length (jZ ls))(f:E.r<w.heap.size)(r:hD E lv n jX a b u v):fc w.heap.size cs T u:=by
 have e:fc w.heap.size cs T jX:=by
  rcases c with rfl|rfl
  .exact fc.N w cs T
  .exact fc.N w cs T
 refine e.I r.C ?_;rintro(q|q)
 .omega
 .have:=(d.lt _ q).2;omega
def ak3(ok:E.Ok)(Q:E.T≠200)(l:im E.r E.T E.C s lv w)(m:w.ownsRow 0 257 2 lv ls.length (jZ ls))(z:iD w)(B:gC s)(c:lz a t w)(d:t.Ok)(hlen:(ls.length:Int)+400<=1000000)(D:t.r=1): Ò À 154 #[Å<|Ã ⟨E.r,0,Ä⟩,Å<|Ã ⟨a,0,Ä⟩] w (Ha E lv ls.length w<|lN s ls t):=by
 have F:=fc.M l;have Zw:=c.G;have S:=c.r;have V:=c.C;have Y:=c.I;have c3:=c.M;have c4:=c.Y;have c5:=c.N;have hn:=DL d.I d.M;have hk:=DL d.r d.C;let⟨d2,G,I⟩:=Ì.1 G9;have J:=e7<|Á G I;clear G I;have g:=(eZ.gB e9 w #[Â Æ 0,Ñ Ï] 246).e8<|eZ.fM _ _;have o:=l.ni g id;have u:=gV m g λ_ _=>id;have b:=c.S g id;have RA:=z.r g id;rw[D]at c4;have L:lN s ls t=((10,Ú),(xd s t.x t.y t.n).1,(xd s t.x t.y t.n).2,ls):=by unfold lN;rw[if_pos D]
 rw[L];have C:=akQ (ls:=ls) ok o u B t.x t.y t.n d.x d.y d.I (by have:=d.M;omega);have M:∀(j:É) (N:St) (O:List (Nat×Int)) (P:È),hD E lv ls.length _ N O j P->lz a t j:=λj N O P r=>lz.xa Q b o u r;have H:=e7<|Á C<|Á m M;clear C M l m z B c d o u RA L;go_enter Ź,ť;go_wp2_with fail;have HS:=e7<|Á b.r<|Á b.C<|Á b.I<|Á b.M b.N;clear S V Y c3 c5 b;refine lM (λe=>e.cell? ⟨a,0,Ä⟩=Ã (Â Ë t.x)/\e.cell? ⟨a,1,Ä⟩=Ã (Â Ë t.y)/\e.cell? ⟨a,2,Ä⟩=Ã (Â Ë t.n)/\e.cell? ⟨a,3,Ä⟩=Ã (Â Ë t.k)/\e.cell? ⟨a,5,Ä⟩=Ã (Í t.C)) [22] fj ?_;iterate 20 apply tk HS.out
 apply gq 20;intro K f;go_simp;go_at_call 168;apply H.out.1.mono;rintro e j ⟨rfl,v⟩;dsimp only;have b:=H.out.2.2 _ _ _ _ v;apply f.out _ _ λ_=>⟨b.r,b.C,b.I,b.M,b.N⟩;clear f K;have h:=RP (W:=w) (cs:=[Â Æ 0,Ñ Ï]) (Ø U) H.out.2.1 F v;have e0:=h.r 0 _ U;have e1:=h.r 1 _ U;have y0:=h.C 0;have y1:=h.C 1;have i:=b.S ((eZ.I (X:=λk=>k=w.heap.size) (p:=⟨w.heap.size,0,Ä⟩) U<|Â Æ 10).e8<|eZ.I (X:=λk=>k=w.heap.size) (p:=⟨w.heap.size,1,Ä⟩) U<|Ñ Ú) Z;apply gq 21;intro K f;go_simp;apply f.out _ _ λ_=>⟨i.r,i.C,i.I,i.M,i.N⟩;clear f K;apply gq 22;intro K f;go_simp;apply f.out _ _ λq=>absurd fg q;clear f K;try simp only[ĵ,Õ,ã,ä]
 refine ly fj ?_ _;go_wp2_with fail;let⟨q,q2⟩:=RO (hD.S g v) h F (Â Æ 10)<|Ñ Ú;apply ð (yP U U (fc.Y (tl:=[]) (vs:=[Â Æ 10,Ñ Ú]) q2) J.out.1 J.out.2 Bz) U;exact⟨U,lv,q⟩
def ak4(ok:E.Ok)(Q:E.T≠200)(l:im E.r E.T E.C s lv w)(m:w.ownsRow 0 257 2 lv ls.length (jZ ls))(z:iD w)(B:gC s)(c:lz a t w)(f:t.Ok)(hlen:(ls.length:Int)+400<=1000000)(D:t.r=2): Ò À 154 #[Å<|Ã ⟨E.r,0,Ä⟩,Å<|Ã ⟨a,0,Ä⟩] w (Ha E lv ls.length w<|lN s ls t):=by
 have F:=fc.M l;have Zw:=c.G;have S:=c.r;have V:=c.C;have Y:=c.I;have c3:=c.M;have c4:=c.Y;have c5:=c.N;have hn:=DL f.I f.M;have hk:=DL f.r f.C;let⟨d2,G,I⟩:=Ì.1 G9;have J:=e7<|Á G I;clear G I;have g:=(eZ.gB e9 w #[Â Æ 0,Ñ Ï] 246).e8<|eZ.fM _ _;have o:=l.ni g id;have u:=gV m g λ_ _=>id;have b:=c.S g id;have RA:=z.r g id;rw[D]at c4;have L:lN s ls t=((20,Ú),(xe s t.x t.C).1,(xe s t.x t.C).2,ls):=by unfold lN;rw[if_neg Z,if_pos D]
 rw[L];have C:=akZ (ls:=ls) ok o u B t.x t.C f.x (by have:=f.N.1;omega);have M:∀(j:É) (N:St) (O:List (Nat×Int)) (P:È),hD E lv ls.length _ N O j P->lz a t j:=λj N O P r=>lz.xa Q b o u r;have H:=e7<|Á C<|Á m M;clear C M l m z B c f o u RA L;go_enter Ź,ť;go_wp2_with fail;have HS:=e7<|Á b.r<|Á b.C<|Á b.I<|Á b.M b.N;clear S V Y c3 c5 b;refine lM (λd=>d.cell? ⟨a,0,Ä⟩=Ã (Â Ë t.x)/\d.cell? ⟨a,1,Ä⟩=Ã (Â Ë t.y)/\d.cell? ⟨a,2,Ä⟩=Ã (Â Ë t.n)/\d.cell? ⟨a,3,Ä⟩=Ã (Â Ë t.k)/\d.cell? ⟨a,5,Ä⟩=Ã (Í t.C)) [15] fj ?_;iterate 13 apply tk HS.out
 apply gq 13;intro K d;go_simp;go_at_call 169;apply H.out.1.mono;rintro e j ⟨rfl,v⟩;dsimp only;have b:=H.out.2.2 _ _ _ _ v;apply d.out _ _ λ_=>⟨b.r,b.C,b.I,b.M,b.N⟩;clear d K;have h:=RP (W:=w) (cs:=[Â Æ 0,Ñ Ï]) (Ø U) H.out.2.1 F v;have e0:=h.r 0 _ U;have e1:=h.r 1 _ U;have y0:=h.C 0;have y1:=h.C 1;have i:=b.S ((eZ.I (X:=λk=>k=w.heap.size) (p:=⟨w.heap.size,0,Ä⟩) U<|Â Æ 20).e8<|eZ.I (X:=λk=>k=w.heap.size) (p:=⟨w.heap.size,1,Ä⟩) U<|Ñ Ú) Z;apply gq 14;intro K d;go_simp;apply d.out _ _ λ_=>⟨i.r,i.C,i.I,i.M,i.N⟩;clear d K;apply gq 15;intro K d;go_simp;apply d.out _ _ λq=>absurd fg q;clear d K;try simp only[ĵ,Õ,ã,ä]
 refine ly fj ?_ _;go_wp2_with fail;let⟨q,q2⟩:=RO (hD.S g v) h F (Â Æ 20)<|Ñ Ú;apply ð (yP U U (fc.Y (tl:=[]) (vs:=[Â Æ 20,Ñ Ú]) q2) J.out.1 J.out.2 Bz) U;exact⟨U,lv,q⟩
def ak5(ok:E.Ok)(X:E.T≠200)(l:im E.r E.T E.C s lv w)(m:w.ownsRow 0 257 2 lv ls.length (jZ ls))(B:iD w)(D:gC s)(d:lz a t w)(c:t.Ok)(Y:(ls.length:Int)+400<=1000000)(F:t.r≠1)(G:t.r≠2): Ò À 154 #[Å<|Ã ⟨E.r,0,Ä⟩,Å<|Ã ⟨a,0,Ä⟩] w (Ha E lv ls.length w<|lN s ls t):=by
 have I:=fc.M l;have Zw:=d.G;have c0:=d.r;have c1:=d.C;have c2:=d.I;have c3:=d.M;have c4:=d.Y;have c5:=d.N;have hn:=DL c.I c.M;have hk:=DL c.r c.C;let⟨d2,J,L⟩:=Ì.1 G9;have M:=e7<|Á J L;clear J L;have g:=(eZ.gB e9 w #[Â Æ 0,Ñ Ï] 246).e8<|eZ.fM _ _;have p:=l.ni g id;have u:=gV m g λ_ _=>id;have b:=d.S g id;have N:=B.r g id;have z1:(t.r==1)=Ï:=by rwa[beq_eq_false_iff_ne]
 have z2:(t.r==2)=Ï:=by rwa[beq_eq_false_iff_ne]
 have O:lN s ls t=yR s ls t.x t.y t.n t.k:=by unfold lN;rw[if_neg F,if_neg G]
 rw[O];have C:=ak2 (ls:=ls) ok p u N D t.x t.y t.n t.k c.x c.y ⟨c.r,by have:=c.C;omega⟩ c.I Y;have P:∀(i:É) (Q:St) (S:List (Nat×Int)) (j:È),hD E lv ls.length _ Q S i j->lz a t i:=λi Q S j r=>lz.xa X b p u r;have H:=e7<|Á C<|Á m P;clear C P l m B D d c p u N O;generalize yR s ls t.x t.y t.n t.k=o at*;go_enter Ź,ť;go_wp2_with fail;have v:=e7<|Á b.r<|Á b.C<|Á b.I<|Á b.M b.N;clear c0 c1 c2 c3 c5 b;refine lM (λe=>e.cell? ⟨a,0,Ä⟩=Ã (Â Ë t.x)/\e.cell? ⟨a,1,Ä⟩=Ã (Â Ë t.y)/\e.cell? ⟨a,2,Ä⟩=Ã (Â Ë t.n)/\e.cell? ⟨a,3,Ä⟩=Ã (Â Ë t.k)/\e.cell? ⟨a,5,Ä⟩=Ã (Í t.C)) [26,27] fj ?_;iterate 23 apply tk v.out
 apply gq 23;intro K f;go_simp;go_at_call 170;apply H.out.1.mono;rintro e i ⟨rfl,j,z⟩;dsimp only;have b:=H.out.2.2 _ _ _ _ z;apply f.out _ _ λ_=>⟨b.r,b.C,b.I,b.M,b.N⟩;clear f K;have h:=RP (W:=w) (cs:=[Â Æ 0,Ñ Ï]) (Ø U) H.out.2.1 I z;have e0:=h.r 0 _ U;have e1:=h.r 1 _ U;have y0:=h.C 0;have y1:=h.C 1;have V:=Á b.r<|Á b.C<|Á b.I<|Á b.M b.N;have v:=e7 V;clear V b;iterate 2 apply tk v.out
 apply gq 26;intro K f;go_simp;apply f.out _ _ λq=>absurd fg q;clear f K;apply gq 27;intro K f;go_simp;apply f.out _ _ λq=>absurd fg q;clear f K;try simp only[ĵ,Õ,ã,ä]
 refine ly fj ?_ _;go_wp2_with fail;let⟨q,q2⟩:=RO (hD.S g z) h I (Â Æ o.1.1)<|Ñ o.1.2;apply ð (yP U U (fc.Y (tl:=[]) (vs:=[Â Æ o.1.1,Ñ o.1.2]) q2) M.out.1 M.out.2 Bz) U;exact⟨U,j,q⟩
def Zx(ok:E.Ok)(b:E.T≠200)(c:im E.r E.T E.C s lv w)(d:w.ownsRow 0 257 2 lv ls.length (jZ ls))(e:iD w)(f:gC s)(g:lz a t w)(h:t.Ok)(i:(ls.length:Int)+400<=1000000): Ò À 154 #[Å<|Ã ⟨E.r,0,Ä⟩,Å<|Ã ⟨a,0,Ä⟩] w (Ha E lv ls.length w<|lN s ls t):=by
 by_cases j:t.r=1
 .exact ak3 ok b c d e f g h i j
 .by_cases k:t.r=2
  .exact ak4 ok b c d e f g h i k
  .exact ak5 ok b c d e f g h i j k
end
def Zy:∀(d a b c:List È) (k:Nat),b.length=d.length->(d.zipIdx k).foldl (λ(q:Array È) (p:Value×Nat)=>q.setIfInBounds (a.length-k+p.2) p.1) (a++b++c).toArray=(a++d++c).toArray\/a.length<k
 |[],a,b,c,k,h=>by have:b=[]:=ß (by simpa using h);subst this;exact Ø U
 |v::r,a,b,c,k,h=>by
  rcases ů a.length k with q|q
  .exact Ù q
  .match b,h with
   |x::b,h=>
    apply Ø;have p:=(Zy r (a++[v]) b c (k+1)<|by simpa using h).resolve_right (by simp;omega);simp only[List.zipIdx_cons,List.foldl_cons];rw[show a.length-k+k=a.length by omega,Õ,show(a++x::b++c).set a.length v=a++[v]++b++c by simp];rw[show(a++[v]).length-(k+1)=a.length-k by simp]at p;rw[p];simp
theorem KS{place:Nat->Option (Nat×Nat)}{pre old suf:List È}{rest:List (Nat×Value)}(a:place i=Ã (pre.length,n))(b:v.cells.size=n)(c:old.length=n): ı place (pre++old++suf).toArray ((i,v)::rest)=ı place (pre++v.cells.toList++suf).toArray rest:=by rw[Instr.fill.eq_2];simp only[a];rw[if_neg (by simp only[ć,Ó,Bool.or_eq_true,decide_eq_true_eq,not_or];omega)];have:=(Zy v.cells.toList pre old suf 0<|by rw[c,š,b]).resolve_right Z;simp only[Nat.sub_zero]at this;grind [Array.toList_zipIdx]
def ak6:((À.info? 144).bind (·.zero)).map (λz=>z.cells.toList.drop 144)=Ã [Ê Ä 0 0]:=fj
def ak7:((À.info? 144).bind (·.zero)).map (λz=>z.cells.size)=Ã 145:=fj
def Zz:((À.info? 147).bind (·.zero)).map (λz=>z.cells.toList.drop 145)=Ã [Â Ë 0,Ê Ä 0 0]:=fj
def ZA:((À.info? 147).bind (·.zero)).map (λz=>z.cells.size)=Ã 147:=fj
def KT(P:aE)(t:õ):Option (List<|Nat×Nat):=match P.underlying t with
 |some (.struct fs)=>fs.toList.mapM λf=>(P.info? f.type).map λi=>(f.offset,i.size)
 |_=>Ä
def ak8:KT À 144=Ã [(0,144),(144,1)]:=fj
def ZB:KT À 147=Ã [(0,145),(145,1),(146,1)]:=fj
def RR{c:List (Nat×Nat)}(a:KT P t=Ã c)(b:(P.info? t).bind (·.zero)=Ã z)(e:List (Nat×Value)):P.built t e=ı (c.toArray[·]?) z.cells e:=by
 unfold KT at a;unfold Program.built;cases f:P.info? t with
 |none=>rw[f]at b;cases b
 |some h=>
  rw[f]at b;have b:h.zero=Ã z:=b;cases g:P.underlying t with
  |none=>rw[g]at a;cases a
  |some d=>
   rw[g]at a;cases d<;>first|(cases a;done)|skip
   simp only at a;simp only[b,a]
theorem RU{suf:List È}(h:((P.info? t).bind (·.zero)).map (λz=>z.cells.toList.drop n)=Ã suf)(a:((P.info? t).bind (·.zero)).map (λz=>z.cells.size)=Ã m)(c:n<=m):∃z old,(P.info? t).bind (·.zero)=Ã z/\old.length=n/\z.cells=(old++suf).toArray:=by
 let⟨z,b,d⟩:=Ì.1 h;rw[b]at a;have a:z.cells.size=m:=by injection a
 refine⟨z,z.cells.toList.take n,b,by rw[List.length_take,š,a];omega,?_⟩;grind
theorem ak9(h:l.length=144):À.built 144 [(0,Ē l.toArray)]=Ã (l++[Ê Ä 0 0]).toArray:=by let⟨z,d,a,b,c⟩:=RU ak6 ak7 A;rw[RR ak8 a,c];have:=KS (place:=λi=>[(0,144),(144,1)].toArray[i]?) (pre:=[]) (suf:=[Ê Ä 0 0]) (i:=0) (v:=Ē l.toArray) (rest:=[]) U (by show l.toArray.size=144;simp[h]) b;simpa[ı,ğ]using this
theorem ala(h:l.length=145)(a:v.cells=#[v]):À.built 147 [(0,Ē l.toArray),(1,v)]=Ã (l++[v,Ê Ä 0 0]).toArray:=by let⟨z,g,c,d,f⟩:=RU Zz ZA A;rw[RR ZB c,f];have b:=KS (place:=λi=>[(0,145),(145,1),(146,1)].toArray[i]?) (pre:=[]) (suf:=[Â Ë 0,Ê Ä 0 0]) (i:=0) (v:=Ē l.toArray) (rest:=[(1,v)]) U (by show l.toArray.size=145;simp[h]) d;simp only[Ξ]at b;rw[b];have e:(Ē l.toArray).cells.toList=l:=rfl;rw[e];rw[show(l++[Â Ë 0,Ê Ä 0 0])=l++[Â Ë 0]++[Ê Ä 0 0] by simp,(KS (place:=λi=>[(0,145),(145,1),(146,1)].toArray[i]?) (old:=[Â Ë 0]) (suf:=[Ê Ä 0 0]) (i:=1) (rest:=[]) (by show Ã (145,1)=Ã (l.length,1);rw[h]) (by rw[a];rfl) U)];simp[ı,a]
def ic(s:St):List È:=(ċ 144).map<|pF s
def rE(s:St):(ic s).length=144:=by simp[ic]
theorem yS(s:St)(lv:È):iY s lv=ic s++[lv]:=by unfold iY ic;grind [Ŏ,List.map_congr_left,qp,KE]
def ZC(a:o.op=.box T qQ)(b:xX qQ=Ē d):(Ĥ xX o).run P w=φ (.value<|Å<|Ã ⟨w.heap.size,0,Ä⟩) (w.alloc<|Ð d T):=by unfold Ĥ;simp[a,b,Instr.box,newVar,newRow,ğ]
theorem RV{a:Array (Nat×Operand)}(b:o.op=Χ T a)(h:P.built T (a.map λ(i,x)=>(i,xX x)).toList=Ã d):(Ĥ xX o).run P w=φ (.value<|Ē d) w:=by have:=run_build w T (a.map λ(i,x)=>(i,xX x)) d h;unfold Ĥ;simp_all
theorem RY(a:o.op=Χ 144 #[(0,qQ)])(b:xX qQ=Ē l.toArray)(c:l.length=144):(Ĥ xX o).run À w=φ (.value<|Ē (l++[Ê Ä 0 0]).toArray) w:=by grind [RV,ak9]
theorem alb{y:Ů}(a:o.op=Χ 147 #[(0,qQ),(1,y)])(b:xX qQ=Ē l.toArray)(c:xX y=v)(d:l.length=145)(e:v.cells=#[v]):(Ĥ xX o).run À w=φ (.value<|Ē (l++[v,Ê Ä 0 0]).toArray) w:=by apply RV a;grind [ala]
def RZ:(À.underlying 140).map İ=Ã Ú:=fj
def ZD:(À.info? 140).map (·.size)=Ã 144:=fj
structure lO(vb:Nat)(s:St)(h:Int)(w:É):Prop where
 C:w.rangeAt vb 0 (ic s)
 h:w.cell? ⟨vb,145,Ä⟩=Ã (Â Ë h)
def lO.r{s:St}(a:lO i s h w)(k:eZ X w u)(b:¬X i):lO i s h u:= ⟨λj v c=>k.r (a.C j v c) b,k.r a.h b⟩
def tT(l:List (Int×Bool)):List È:=l.flatMap λp=>[Â Æ p.1,Ñ p.2]
structure NX(B:Nat)(h:Int)(lv uv:È)(s:St)(ls:List (Nat×Int))(us:List (Int×Bool))(w0 w:É):Prop where
 r:im B 147 [Â Ë h,uv] s lv w
 C:w.ownsRow 0 257 2 lv ls.length (jZ ls)
 I:w.ownsRow 0 246 2 uv us.length (tT us)
 M:eZ e9 w0 w
 N:w0.heap.size<=B
 S:∀j,lv.ownBlock=Ã j->w0.heap.size<=j
 Y:∀j,uv.ownBlock=Ã j->w0.heap.size<=j
def NX.iP(w:É)(s:St)(h:Int):NX w.heap.size h (Ê Ä 0 0) (Ê Ä 0 0) s [] [] w ((Ă w<|Ð (ic s++[Ê Ä 0 0,Â Ë h,Ê Ä 0 0]).toArray 147).drew):=by refine⟨?_,ĉ _ _ _ _,ĉ _ _ _ _,(eZ.gB _ _ _ _).e8<|eZ.fM _ _,Þ _,(λj q=>nomatch q),(λj q=>nomatch q)⟩;unfold im;rw[yS,show ic s++[Ê Ä 0 0]++[Â Ë h,Ê Ä 0 0]=ic s++[Ê Ä 0 0,Â Ë h,Ê Ä 0 0] by simp];exact fc.N w _ 147
noncomputable def Hb:ŏ:=(Tryz.f115.body.bind ko).getD Ķ
def yT(c m B:Nat)(a:Option ă)(n b:Nat)(i:Int)(u:Nat->È):é:=⟨#[Å<|Ã ⟨c,0,Ä⟩,Â Ë m,Ê a n b,ā,ā,ā,Å Ä,Å<|Ã ⟨B,0,Ä⟩,u 8,u 9,u 10,u 11,u 12,u 13,u 14,u 15,u 16,u 17,u 18,u 19,u 20,u 21,u 22,u 23,u 24,Ê a n b,Â Ë n,Â Ë i,u 28,u 29,u 30,u 31,u 32,u 33,u 34,u 35,u 36,u 37,u 38,u 39,u 40,u 41,u 42,u 43,u 44,u 45,u 46,u 47,u 48,u 49,u 50,u 51,u 52,u 53,u 54,u 55,u 56,u 57,u 58,u 59,u 60,u 61,u 62,u 63,u 64,u 65,u 66,u 67,u 68,u 69,u 70,u 71,u 72,u 73,u 74,u 75,u 76,u 77,u 78,u 79,u 80,u 81,u 82],[]⟩
def Hc(b m B:Nat)(c:Option ă)(n d:Nat)(i:Int)(a:é):Prop:=∃u,a=yT b m B c n d i u
def QN(X Y:é->É->Prop):aS->é->É->Prop
 |.exit 0,a,w=>X a w
 |.ret,a,w=>Y a w
 |_,_,_=>False
section
variable{lv:È}{s d:St}{ls f:List (Nat×Int)}{c:List (Int×Bool)}
def R0(j:Nat)(h:Int)(x:È):iM:=⟨j,147,[Â Ë h,x]⟩
def R1(j:Nat)(h:Int)(x:È):(R0 j h x).Ok:=⟨by show(147:Nat)≠36;decide,by show(147:Nat)≠257;decide,by show(147:Nat)≠282;decide,by show(147:Nat)≠300;decide,by show(147:Nat)≠252;decide,by show(147:Nat)≠246;decide⟩
def NX.fF(a:NX j h lv x s ls c u w)(k:eZ e9 w W):NX j h lv x s ls c u W:= ⟨a.r.ni k id,gV a.C k λ_ _=>id,gV a.I k λ_ _=>id,a.M.e8 k,a.N,a.S,a.Y⟩
def NX.xa(a:NX j h lv x s ls c u w)(r:hD (R0 j h x) lv ls.length w d f W v):NX j h v x d f c u W:=by
 have k:=a.r;refine⟨r.r,r.I,gV a.I r.C ?_,a.M.C r.C ?_,a.N,λb q=> ?_,a.Y⟩
 .rintro b i (q|q)
  .let⟨m,g⟩:=lr a.I i;have e:b=j:=q;rw[e,k]at g;cases g
  .exact ajz a.I a.C A i q
 .rintro i g (q|q)
  .have:=a.N;have e:i=j:=q;omega
  .have:=a.S i q;omega
 .rcases r.l b q with e|e
  .exact a.S b e
  .exact ë a.M.M e
def NX.fp(a:NX j h lv x s ls c u w)(b:i<8)(v:Int):NX j h lv x (s.fp i v) ls c u (w.setCell ⟨j,i*18,Ä⟩<|Â Æ v):= a.xa<|(hD.fO (E:=R0 j h x) a.r a.C).fp (R1 _ _ _) b v
def ZE(c:List (Int×Bool)):∀u∈tT c,jY u=Ú:=λu a=>by unfold tT at a;let⟨e,_,h⟩:=Β.1 a;simp at h;rcases h with rfl|rfl<;>rfl
def alc:(À.info? 246).map (λi=>(i.zero,i.size,i.bytes))=Ã (Ã<|Ē #[Â Æ 0,Ñ Ï],2,16):=fj
def NX.G(a:NX j h lv x s ls c u w):w.cell? ⟨j,146,Ä⟩=Ã x:= fc.r a.r 146 _<|by rw[ü (by rw[ma];omega),ma];rfl
def NX.ald{g:Int}(b:NX j h lv x s ls c u w)(a:pD w 0 246 2 x c.length (tT c) 1 [Â Æ g,Ñ yQ] v W): NX j h lv x s ls c u W/\NX j h lv v s ls (c++[(g,yQ)]) u (W.setCell ⟨j,146,Ä⟩ v):=by
 have m:∀{i:Nat} {n:Array È} {T:õ},x.ownBlock=Ã i->w.heap[i]?=Ã (Ð n T (0,0))->T=246:=λ{i n T} q hc=>by let⟨k,e⟩:=lr b.I q;rw[hc]at e;cases e;rfl
 have o:=b.M.C a.r λi y q=>by have:=b.Y i q;omega
 have f:NX j h lv x s ls c u W:=⟨b.r.ni a.r λq=>absurd (m q b.r) A,gV b.C a.r (λd q r=>by let⟨k,e⟩:=lr b.C q;exact absurd (m r e) A),a.I _ _ _ b.I λ_=>Þ _,o,b.N,b.S,b.Y⟩;have t:W.ownsRow 0 246 2 v (c++[(g,yQ)]).length (tT<|c++[(g,yQ)]):=by have:=a.fh;rwa[show tT c++[Â Æ g,Ñ yQ]=tT (c++[(g,yQ)]) by simp[tT],show c.length+1=(c++[(g,yQ)]).length by simp]at this
 have l:eZ (λk=>k=j) W (W.setCell ⟨j,146,Ä⟩ v):=eZ.I (X:=λk=>k=j) (p:=⟨j,146,Ä⟩) U v<|Ù<|fc.G f.r;have k:=fc.fW f.r 146 v;rw[List.set_append_right _ _ (by rw[ma];omega),ma]at k;refine⟨f,k,gV f.C l λd q r=>jl f.C f.r A (by rw[q,r]),gV t l λd q r=>jl t f.r A (by rw[q,r]),o.C l λi y q=>by have:=b.N;omega,b.N,b.S,λd q=> ?_⟩;rcases a.C with e|e
 .exact b.Y d<|by rwa[<-e]
 .rw[e]at q;cases q;exact b.M.M
end
section
variable{X:é->É->Prop}{cp:Nat}{lv:È}{s:St}{ls:List (Nat×Int)}{c:List (Int×Bool)}
def ale(d:Nat->È)(e:NX j h lv x s ls c u w)(i:Int)(f:i=n) (g:∀a,Hc b m j O n cp i a->X a w): Î À Hb (Exit.then K<|QN X H) (yT b m j O n cp i d) w:=by
 unfold yT;conv=>arg 2;whnf
 subst f;go_wp2_with fail;exact g _ (gk _)
def alf(d:Nat->È)(f:NX j h lv x s ls c u w)(i:Int)(k:Nat)(q:i=k)(P:k<n)(Q:n<=1000)(tb o a:Nat)(r:O=Ã ⟨tb,o,Ä⟩)(S:w.cell? ⟨tb,o+k,Ä⟩=Ã (Å<|Ã ⟨a,0,Ä⟩))(t:Tx)(v:lz a t w)(y:t.Ok)(z:iD w)(B:gC s)(D:(ls.length:Int)+400<=1000000)(g:Int)(E:Bool)(F:St)(G:List (Nat×Int))(I:lN s ls t=((g,E),Ï,F,G)) (J:∀a p,a.tmps.getD 6 ā=Å Ä->a.defers=[]->eZ e9 u p->H a p): Î À Hb (Exit.then K<|QN X H) (yT b m j O n cp i d) w:=by
 unfold yT;conv=>arg 2;whnf
 subst q r;have C:=Zx (R1 _ _ _) (by show(147:Nat)≠200;decide) f.r f.C z B v y D;rw[I]at C;have T:(0:Int)<=(k:Int):=Z
 have V:(k:Int)<(n:Int):=Z
 have W:=fc.M f.r;have l:=e7<|Á f C;go_wp2_with fail;go_at_call 154;apply l.out.2.mono;rintro e Y ⟨rfl,yD,L⟩;have M:=l.out.1.xa L;have N:=e7 M;go_wp2_with fail;exact J _ _ U U<|N.out.M.e8<|eZ.gB _ _ _ _
def alg(d:Nat->È)(f:NX j h lv x s ls c u w)(i:Int)(k:Nat)(V:i=k)(hj:k<n)(hn:n<=1000)(tb M a:Nat)(W:O=Ã ⟨tb,M,Ä⟩)(hc:w.cell? ⟨tb,M+k,Ä⟩=Ã (Å<|Ã ⟨a,0,Ä⟩))(t:Tx)(Y:lz a t w)(Kh:t.Ok)(hr:iD w)(hs:gC s)(hlen:(ls.length:Int)+400<=1000000)(g:Int)(o:Bool)(z:St)(N:List (Nat×Int))(ho:lN s ls t=((g,o),Ú,z,N))(P:m<8)(E:gC z)(vW:0<=g)(vd:g<=1000)(JK:c.length<=1000) (p:∀a v jk R2,Hc b m j O n cp (i+1) a->NX j h jk R2 (z.fp m<|wu<|(z m).fp+g) N (c++[(g,o)]) u v->K a v): Î À Hb (Exit.then K<|QN X H) (yT b m j O n cp i d) w:=by
 unfold yT;conv=>arg 2;whnf
 subst V W;have C:=Zx (R1 _ _ _) (by show(147:Nat)≠200;decide) f.r f.C hr hs Y Kh hlen;rw[ho]at C;have e1:(0:Int)<=(k:Int):=Z
 have e2:(k:Int)<(n:Int):=Z
 have ar6:=fc.M f.r;have l:=e7<|Á f C;go_wp2_with fail;go_at_call 154;apply l.out.2.mono;rintro e r ⟨rfl,yD,r1⟩;have B:=l.out.1.xa r1;have m1:=B.r.fp P;have z1:=fc.C B.r<|m*18;have KR:=fc.M B.r;have b0:=(E.fp m).1;have b1:=(E.fp m).2;have hub:x.ownBlock≠Ã r.heap.size:=λq=>by have:=(B.I.lt _ q).2;omega
 have HX:=e7<|Á B E;generalize hb:(z m).fp=b at*;have hm0:(0:Int)<=(m:Int):=Z
 have hm1:(m:Int)<8:=Z
 go_wp2_with fail
 go_region
 have hx8:=(HX.out.1.fp P<|wu<|b+g).fF<|(eZ.gB e9 _ #[Â Æ g,Ñ o] 246).e8<|eZ.fM _ _;have hU:fc r.heap.size [Â Æ g,Ñ o] 246 (Č<|Ă (r.setCell ⟨j,m*18,Ä⟩<|Â Æ<|wu<|b+g)<|Ð #[Â Æ g,Ñ o] 246):=by
  have:=fc.N (r.setCell ⟨j,m*18,Ä⟩<|Â Æ<|wu<|b+g) [Â Æ g,Ñ o] 246;have y:fc r.heap.size [Â Æ g,Ñ o] 246 (Ă (r.setCell ⟨j,m*18,Ä⟩<|Â Æ<|wu<|b+g)<|Ð #[Â Æ g,Ñ o] 246):=by simpa using this
  exact y
 go_wp2_with fail
 change Î À _ _ _ (Č<|Ă (r.setCell ⟨j,m*18,Ä⟩<|Â Æ<|wu<|b+g)<|Ð #[Â Æ g,Ñ o] 246);generalize Č (Ă (r.setCell ⟨j,m*18,Ä⟩<|Â Æ<|wu<|b+g)<|Ð #[Â Æ g,Ñ o] 246)=w8 at*;generalize r.heap.size=ub at*;have Q:=hx8.fF<|eZ.fM e9 w8;have F:=hU.I (eZ.fM e9 w8) id;let⟨i0,hi0,G7,alh,ali⟩:=í alc;have D:=e7<|Á hi0<|Á G7<|Á alh ali;have HS:=e7<|Á Q.G<|Á (F.r 0 _ rfl)<|F.r 1 _ rfl;have S:=e7<|Á Q F;refine lM (λv=>v.cell? ⟨j,146,Ä⟩=Ã x/\v.cell? ⟨ub,0,Ä⟩=Ã (Â Æ g)/\v.cell? ⟨ub,1,Ä⟩=Ã (Ñ o)) [10] fj ?_;iterate 6 apply tk HS.out
 have G:=S.out.1.fF<|eZ.gB e9 _ #[Â Æ g,Ñ o] 246;have I:=S.out.2.I (eZ.gB e9 _ #[Â Æ g,Ñ o] 246) id;refine gq 6 ?_;intro K p;go_simp;refine p.out _ _ (λ_=>⟨G.G,I.r 0 _ U,I.r 1 _ U⟩) ?_;refine gq 7 ?_;intro K p;refine KJ (hfl:=Ù ⟨fg,λd y=>(ú.1 y).elim (ZE c d) (λq=>by simp at q;rcases q with rfl|rfl<;>rfl),by simp[jY,ğ]⟩) fR _ _ 145 fR Tryz.underlying145 D.out.1 D.out.2.1 D.out.2.2.1 D.out.2.2.2 U fR G.I ⟨_,0,Ä⟩ [Â Æ g,Ñ o] fR Z U (ŵ _ _ _ _) (λd y=>by simp at y;rcases y with rfl|rfl<;>rfl) (by unfold Ą;omega) Z (â _) ?_;intro uv1 w9 J;obtain⟨a2,ZF,rfl⟩:=jx J.fh;let⟨L,n2⟩:=G.ald J;have y:=I.I J.r hub;refine p.out _ _ (λ_=>⟨L.G,y.r 0 _ U,y.r 1 _ U⟩) ?_;have T:=L.G;have fz:=fc.C L.r 146;refine gq 8 ?_;intro K p;go_simp;refine p.out _ _ (λ_=>⟨T,y.r 0 _ U,y.r 1 _ U⟩) ?_;refine gq 9 ?_;intro K p;go_simp;refine p.out _ _ (λ_=>⟨T,y.r 0 _ U,y.r 1 _ U⟩) ?_;refine gq 10 ?_;intro K p;go_simp;refine p.out _ _ (λq=>absurd fg q) ?_;refine ly fj ?_ _;go_wp2_with fail;subst hb;exact p _ _ _ _ (gk _) n2
end
def tU(m:Nat):St->List (Nat×Int)->List (Int×Bool)->List Tx->Option (St×List (Nat×Int)×List (Int×Bool))
 |s,ls,us,[]=>Ã (s,ls,us)
 |s,ls,us,t::r=>if(lN s ls t).2.1 then tU m ((lN s ls t).2.2.1.fp m<|wu<|((lN s ls t).2.2.1 m).fp+(lN s ls t).1.1) (lN s ls t).2.2.2 (us++[(lN s ls t).1]) r else Ä
def alj{s:St}(b:gC s)(x y:Nat)(c:0<=h):gC (xd s x y h).2:=by
 unfold xd;split
 .exact b
 .rename_i a;have:=(b.fp x).2;exact(b.r x ⟨Z,Z⟩).r y<|yM _
def alk{s:St}(a:gC s)(x:Nat)(e:B.size<=40/\∀c∈B.data.toList,w7 c=Ú):gC (xe s x B).2:=by
 unfold xe;split
 .exact a
 .rename_i h;have:=(a.fp x).2;have d:=a.r x (b:=(s x).fp-20) ⟨Z,Z⟩;exact d.fW (d.fp x) (d.C x) e
structure ZG(r:List (Nat×Int))(o:(Int×Bool)×Bool×St×List (Nat×Int)):Prop where
 g0:0<=o.1.1
 C:o.1.1<=400
 s:gC o.2.2.1
 r:o.2.2.2.length<=r.length+400
def alm{s:St}(f:gC s){d:List (Nat×Int)}(g:i<8)(l:j<8)(m:fV c)(p:(d.length:Int)+400<=1000000):ZG d (yR s d i j h c):=by
 unfold yR;split
 .exact⟨Ö _,by show(0:Int)<=400;decide,f,Ŀ _ _⟩
 .rename_i a;have q:=(f.fp i).2;have o:=f.r i (b:=(s i).fp-h) ⟨Z,Z⟩;have e:=KQ _ d i j (h-10) c o g l m Z Z Z;have r:=e.C;have t:=e.r;have u:=e.I;exact⟨by show 0<=_+10;omega,by show _+10<=400;omega,e.N.r i<|yM _,by show(fY _ _ _ _ _ _).I.length<=_;omega⟩
def ZH{s:St}(b:gC s){ls:List (Nat×Int)}{t:Tx}(a:t.Ok)(c:(ls.length:Int)+400<=1000000):ZG ls (lN s ls t):=by
 unfold lN;split
 .exact⟨by show(0:Int)<=10;decide,by show(10:Int)<=400;decide,alj b _ _ a.I,Ŀ _ _⟩
 .split
  .exact⟨by show(0:Int)<=20;decide,by show(20:Int)<=400;decide,alk b _ a.N,Ŀ _ _⟩
  .exact alm b a.x a.y ⟨a.r,by have:=a.C;omega⟩ c
structure BA(bp:Option ă)(n:Nat)(lA:List (Nat×Tx))(w:É):Prop where
 r:n=lA.length
 C:∀(j a:Nat) (t:Tx),lA[j]?=Ã (a,t)->∃tb te,bp=Ã ⟨tb,te,Ä⟩/\w.cell? ⟨tb,te+j,Ä⟩=Ã (Å<|Ã ⟨a,0,Ä⟩)/\lz a t w/\t.Ok
def BA.I{b:List (Nat×Tx)}(h:BA O n b w)(k:eZ e9 w u):BA O n b u:= ⟨h.r,λj a t q=>by let⟨tb,c,d,e,f,g⟩:=h.C j a t q;exact⟨tb,c,d,k.r e id,f.S k id,g⟩⟩
def k9(a:List (Nat×Tx)):List Tx:=a.map (·.2)
section
variable{bp:Option ă}{cp:Nat}{lA:List (Nat×Tx)}{d:Option (St×List (Nat×Int)×List (Int×Bool))}
def R3(n:Nat)(a:é)(_:É):Nat:=match a.tmps.getD 27 ā with
 |Â _ i=>n-i.toNat
 |_=>0
def NI(b m i:Nat)(bp:Option ă)(n cp:Nat)(h:Int)(u:É)(lA:List (Nat×Tx))(d:Option (St×List (Nat×Int)×List (Int×Bool)))(a:é)(w:É):Prop:=
 ∃(j:Nat) (s:St) (c:List (Nat×Int)) (e:List (Int×Bool)) (f g:È),Hc b m i bp n cp j a/\j<=n/\NX i h f g s c e u w/\gC s/\c.length<=400*j/\e.length=j/\tU m s c e ((k9 lA).drop j)=d
def NE(b m i:Nat)(bp:Option ă)(n cp:Nat)(h:Int)(u:É)(d:Option (St×List (Nat×Int)×List (Int×Bool)))(a:é)(w:É):Prop:=
 ∃(s:St) (c:List (Nat×Int)) (e:List (Int×Bool)) (f g:È),Hc b m i bp n cp n a/\NX i h f g s c e u w/\gC s/\d=Ã (s,c,e)
def NR(u:É)(d:Option (St×List (Nat×Int)×List (Int×Bool)))(a:é)(w:É):Prop:=
 a.tmps.getD 6 ā=Å Ä/\a.defers=[]/\eZ e9 u w/\d=Ä
theorem aln(C:BA bp n lA u)(K:iD u)(L:n<=1000)(V:m<8)(a:é)(w:É)(W:NI b m i bp n cp h u lA d a w): Î À Hb (Exit.then (λo q=>NI b m i bp n cp h u lA d o q/\R3 n o q<R3 n a w)<|QN (NE b m i bp n cp h u d)<|NR u d) a w:=by
 let⟨j,s,r,M,X,Y,hfr,hj,x,y,Rx,JK,e⟩:=W;obtain⟨c,rfl⟩:=hfr;by_cases uO:j=n
 .have D:(k9 lA).drop j=[]:=Ę (by unfold k9;rw[Ο,<-C.r];omega);rw[D]at e;refine ale c x j (by rw[uO]) λa v=>⟨s,r,M,X,Y,?_,x,y,e.symm⟩;grind
 .have E:j<n:=Z
  obtain⟨⟨a,t⟩,N⟩:∃p,lA[j]?=Ã p:=⟨_,Ô<|by rwa[<-C.r]⟩;have D:(k9 lA).drop j=t::(k9 lA).drop (j+1):=by
   have v:(k9 lA)[j]?=Ã t:=by unfold k9;rw[ķ,N];rfl
   grind [ē]
  let⟨tb,O,P,Q,S,F⟩:=(C.I x.M).C j a t N;have G:(r.length:Int)+400<=1000000:=Z
  have k:=ZH y F G;rw[D]at e;unfold tU at e;obtain⟨g,l,H,z,f,I⟩:∃g l H z f,lN s r t=((g,l),H,z,f):=⟨_,_,_,_,_,U⟩;rw[I]at e k;have g0:=k.g0;have g1:g<=400:=k.C;have T:=k.s;have KR:f.length<=r.length+400:=k.r;cases H with
  |false=>
   simp only[ĭ,if_false]at e;exact alf c x j j U E L tb O a P Q t S F (K.r x.M id) y G g l z f I λo q B J v=>⟨B,J,v,e.symm⟩
  |true=>
   simp only[if_true]at e;refine alg c x j j U E L tb O a P Q t S F (K.r x.M id) y G g l z f I V T g0 Z Z λo q jk R2 B J=>⟨⟨j+1,_,f,M++[(g,l)],jk,R2,by simpa using B,Z,J,T.r m<|yM _,Z,by simp[JK],e⟩,?_⟩;obtain⟨v,rfl⟩:=B;show n-((j:Int)+1).toNat<n-((j:Int)).toNat;omega
def xf(m:Nat)(s:St)(lA:List Tx):Option (St×List (Nat×Int)×List (Int×Bool)):=
 (tU m s [] [] lA).map λr=>(r.1.fp m<|wu<|(r.1 m).fp+50,r.2)
def DN(h:Int)(w:É)(r:Option (St×List (Nat×Int)×List (Int×Bool)))(e:av)(a:É):Prop:=
 (r=Ä/\e=Ç (Å Ä)/\eZ e9 w a)\/
 ∃s b c i d f,r=Ã (s,b,c)/\e=Ç (Å<|Ã ⟨i,0,Ä⟩)/\NX i (h+1) d f s b c w a/\gC s
def alo{s:St}(e:lO b s h w)(Y:0<=h)(hh1:h<=1000)(y:gC s)(z:BA bp n lA w)(B:iD w)(J:n<=1000)(f:m<8): Ò À 115 #[Å<|Ã ⟨b,0,Ä⟩,Â Ë m,Ê bp n cp] w (DN h w<|xf m s<|k9 lA):=by
 let⟨M,C,D⟩:=Ì.1 RZ;have E:(À.info? 140).map (·.size)=Ã (ic s).length:=by rw[rE];exact ZD
 have k:=e7<|Á C<|Á D E;have F:=(e.r (eZ.fM e9 w) id).C;have G:=(e.r (eZ.fM e9 w) id).h;have n9:Ë.wrap (h+1)=h+1:=G3 Z Z;have c:=e7<|Á F G;have gH:=á w _ e.h;have L:∀l a,NX w.heap.size (h+1) (Ê Ä 0 0) (Ê Ä 0 0) s [] [] w l->Hc b m w.heap.size bp n cp 0 a->Î À (à Hb) (QN (NE b m w.heap.size bp n cp (h+1) w<|tU m s [] []<|k9 lA)<|NR w<|tU m s [] []<|k9 lA) a l:=λl a x N=>
  Ĉ (NI b m w.heap.size bp n cp (h+1) w lA<|tU m s [] []<|k9 lA) (R3 n) ⟨0,s,[],[],_,_,N,â _,x,y,fg,U,U⟩<|aln z B J f
 have H:=e7<|Á e L;have I:xf m s (k9 lA)=(tU m s [] []<|k9 lA).map λr=>(r.1.fp m<|wu<|(r.1 m).fp+50,r.2):=U;rw[I];clear C D F G e E L y z B I;generalize tU m s [] [] (k9 lA)=d at*;go_enter Tryz.func115,Tryz.ntmps115;go_wp2_with fail;refine lM (λg=>g.rangeAt b 0 (ic s)/\g.cell? ⟨b,145,Ä⟩=Ã (Â Ë h)) [] fj ?_;iterate 4 apply tk c.out
 refine G2 (i:=4) (oi:={dst:=Ã 16,op:=Go.Op.load 140<|î 15,type:=140,pos:= "block.go:30",after:=#[{on:=3,ground:=ï}],guard:=Ä}) U fj fj fj fj (λ_ _ _ h=>h) c.out (yieldsIf_load_mid fR 140 _ U b 0 U (ic s) M (λw h=>h.1) k.out.1 k.out.2.1 k.out.2.2) ?_;refine G2 (i:=5) (oi:={dst:=Ã 17,op:=Χ 144 #[(0,î 16)],type:=144,pos:= "block.go:30",after:=#[{on:=4,ground:=ï}],guard:=Ä}) U fj fj fj fj (λ_ _ _ h=>h) c.out (Ø ⟨fR,λ_ _=>RY U U<|rE s⟩) ?_;apply tk c.out 6;apply tk c.out 7;apply tk c.out 8;apply tk c.out 9;apply tk c.out 10;refine G2 (i:=11) U fj fj fj fj (λ_ _ _ h=>h) c.out (Ø ⟨fR,λ_ _=>alb U U U (by simp[rE]) U⟩) ?_;have g:=e7<|(H.out.1.r (eZ.fM e9 w) id).r (eZ.gB e9 _ ((ic s++[Ê Ä 0 0])++[Â Ë<|h+1,Ê Ä 0 0]).toArray 147) id;refine gq 12 ?_;intro K o;rw[if_pos fR];unfold Ń;rw[ZC U U,Ħ];refine o.out _ _ (λ_=>⟨g.out.C,g.out.h⟩) ?_;refine gq 13 ?_;intro K o;go_simp;refine o.out _ _ (λ_=>⟨g.out.C,g.out.h⟩) ?_;refine ly fj ?_ _;go_wp2_with fail;have O:=NX.iP w s<|h+1;refine Ý ?_ (H.out.2 _ _ O (gk _));rintro(_|(_|_)|_|_|_|_) a v hq;all_goals first|exact absurd hq id|skip
 .let⟨p,P,Q,S,T,V,j,q,W⟩:=hq;subst W;have d1:=j.r.fp f;have f1:=fc.C j.r<|m*18;have KR:=fc.M j.r;have b0:=(q.fp m).1;have b1:=(q.fp m).2;have hm0:(0:Int)<=(m:Int):=Z
  have hm1:(m:Int)<8:=Z
  have t:=e7<|Á j q;generalize X:(p m).fp=b at*;obtain⟨u,rfl⟩:=V;unfold yT;go_wp2_with fail;go_region;go_wp2_with fail;go_ret;refine Ù ⟨p.fp m<|wu<|(p m).fp+50,P,Q,w.heap.size,S,T,U,U,?_,t.out.2.r m<|yM _⟩;rw[X];first
   |exact(t.out.1.fp f<|wu<|b+50).fF<|eZ.fM _ _
   |exact(t.out.1.still<|Keep.drew _ _).fp f<|wu<|b+50
 .let⟨j,p,q,t⟩:=hq;simp only[Exit.inBlock,Exit.then];apply ð (results_tmp U _ _ _) p;exact Ø ⟨by rw[t];rfl,by rw[j],q⟩
end
def pK(i:Nat):ByteArray:=if i<10 then⟨#[(48+i).toUInt8]⟩else⟨#[(48+i/10).toUInt8,(48+i%10).toUInt8]⟩
def alp:∀k:Fin 10,(⟨#[48,49,50,51,52,53,54,55,56,57,97,98,99,100,101,102,103,104,105,106,107,108,109,110,111,112,113,114,115,116,117,118,119,120,121,122]⟩:ByteArray).extract k.val (k.val+1)=pK k.val:=by decide+kernel
def alq:∀k:Fin 100,k.val<10\/(⟨#[48,48,48,49,48,50,48,51,48,52,48,53,48,54,48,55,48,56,48,57,49,48,49,49,49,50,49,51,49,52,49,53,49,54,49,55,49,56,49,57,50,48,50,49,50,50,50,51,50,52,50,53,50,54,50,55,50,56,50,57,51,48,51,49,51,50,51,51,51,52,51,53,51,54,51,55,51,56,51,57,52,48,52,49,52,50,52,51,52,52,52,53,52,54,52,55,52,56,52,57,53,48,53,49,53,50,53,51,53,52,53,53,53,54,53,55,53,56,53,57,54,48,54,49,54,50,54,51,54,52,54,53,54,54,54,55,54,56,54,57,55,48,55,49,55,50,55,51,55,52,55,53,55,54,55,55,55,56,55,57,56,48,56,49,56,50,56,51,56,52,56,53,56,54,56,55,56,56,56,57,57,48,57,49,57,50,57,51,57,52,57,53,57,54,57,55,57,56,57,57]⟩:ByteArray).extract (k.val*2) (k.val*2+2)=pK k.val:=by decide+kernel
theorem alr(i:Nat)(h:i<10)(w:É):Ò À 187 #[Â Ë i] w λe a=>e=Ç (Í<|pK i)/\a=w:=by
 go_enter ź,π;go_wp2;all_goals go_ret
 refine⟨YR<|alp ⟨i,h⟩,U⟩
theorem als(i:Nat)(h:i<100)(b:10<=i)(w:É):Ò À 187 #[Â Ë i] w λe a=>e=Ç (Í<|pK i)/\a=w:=by
 go_enter ź,π;go_wp2;all_goals go_ret
 refine⟨YR ((alq ⟨i,h⟩).resolve_left<|by show¬i<10;omega),U⟩
theorem alu(i:Nat)(h:i<100)(w:É):Ò À 187 #[Â Ë i] w λe a=>e=Ç (Í<|pK i)/\a=w:=by grind [alr,als]
def alv(i:Nat)(h:i<100)(w:É):Ò À 171 #[Â Ë i,Â Ë 10] w λe a=>e=Ç (Í<|pK i)/\a=w:=by go_enter Tryz.func171,Tryz.ntmps171;go_wp2_with (go_at_call 187;refine(alu i h _).mono ?_;rintro e a ⟨rfl,rfl⟩);go_ret;exact⟨U,U⟩
def ZI(i:Nat)(h:i<100)(w:É):Ò À 117 #[Â Ë i] w λe a=>e=Ç (Í<|pK i)/\a=w:=by
 go_enter Tryz.func117,Tryz.ntmps117;go_wp2_with (first
  |(go_at_call 171;refine(alv i h _).mono ?_;rintro e a ⟨rfl,rfl⟩)
  |go_in)
 go_ret;exact⟨U,U⟩
def oF(i:Nat):ByteArray:=⟨#[33]⟩++pK i
def DR(i:Nat)(h:i<10)(w:É):Ò À 114 #[Â Ë i] w λe a=>e=Ç (Í<|oF i)/\a=w:=by
 have b:(pK i).size=1:=by unfold pK;rw[if_pos h];rfl
 go_enter Tryz.func114,Tryz.ntmps114;go_wp2_with (go_at_call 117;refine(ZI i Z _).mono ?_;rintro e a ⟨rfl,rfl⟩);go_ret;exact⟨U,U⟩
def tb(n c:Nat):Nat:=(n^^^c)*1099511628211%18446744073709551616
def KU(n c:Nat):tb n c<18446744073709551616:=aN _ Z
def ZJ(n c:Nat)(a:n<18446744073709551616)(f:c<256)(w:É):Ò À 178 #[Â Æ n,Â aT c] w λe b=>e=Ç (Â Æ<|tb n c)/\b=w:=by
 go_enter Tryz.func178,Tryz.ntmps178;go_wp2_with fail;go_ret;refine⟨?_,U⟩;have d:Æ.wrap (((n^^^c:Nat):Int)*1099511628211)=((tb n c:Nat):Int):=by rw[aX];unfold tb;omega
 rw[bits_xor_u64_nat n c a Z,d];rfl
def tn(m:Nat):Nat->Nat->Nat
 |n,0=>n
 |n,j+1=>tn m (tb n<|m/2^(8*j)%256) j
def ZK(m:Nat):∀(j n:Nat),n<18446744073709551616->tn m n j<18446744073709551616
 |0,_,h=>h
 |j+1,_,_=>ZK m j _<|KU _ _
noncomputable def KV:ŏ:=(Tryz.f177.body.bind ko).getD Ķ
def DU(m n:Nat)(i:Int)(u:Nat->È):é:=⟨#[Â Æ n,Â Æ m,u 2,u 3,u 4,Â Ë i,u 6,u 7,u 8,u 9,u 10,u 11,u 12,u 13,u 14,u 15,u 16],[]⟩
def DV(m n:Nat)(i:Int)(a:é):Prop:=∃u,a=DU m n i u
section
variable{X:é->É->Prop}
def alx(m n j:Nat)(f:j<8)(d:n<18446744073709551616)(g:m<18446744073709551616)(u:Nat->È)(b:∀a,DV m (tb n<|m/2^(8*j)%256) (((8*j:Nat):Int)-8) a->K a w): Î À KV (Exit.then K<|QQ X) (DU m n (8*j:Nat) u) w:=by
 unfold DU;conv=>arg 2;whnf
 have h:(0:Int)<=((8*j:Nat):Int):=Z
 have i:((8*j:Nat):Int)<64:=Z
 have T:=ZJ n (m/2^(8*j)%256) d Z w;generalize 8*j=j8 at*;have c:((m/2^j8%256:Nat):Int)=(m:Int)/2^j8%256:=fg
 rw[c]at T;have H:=e7<|Á T b;clear T b c;go_wp2_with (go_at_call 178;apply H.out.1.mono;rintro e k ⟨rfl,rfl⟩);exact H.out.2 _ (gk _)
def aly(m n:Nat)(u:Nat->È)(b:∀a,DV m n (-8) a->X a w): Î À KV (Exit.then K<|QQ X) (DU m n (-8) u) w:=by
 unfold DU;conv=>arg 2;whnf
 go_wp2_with fail
 exact b _ (gk _)
def TI(m:Nat)(b:É)(c:Nat)(a:é)(w:É):Prop:=∃n j:Nat,DV m n (((8*j:Nat):Int)-8) a/\j<=8/\n<18446744073709551616/\w=b/\tn m n j=c
def TE(m:Nat)(b:É)(c:Nat)(a:é)(w:É):Prop:=DV m c (-8) a/\w=b
def KW(a:é)(_:É):Nat:=match a.tmps.getD 5 ā with
 |Â _ i=>(i+8).toNat
 |_=>0
def ZL(b:DV m n h y):KW y w=(h+8).toNat:=by obtain⟨u,rfl⟩:=b;rfl
def alz(f:m<18446744073709551616)(a:é)(w:É)(g:TI m u i a w): Î À KV (Exit.then (λb e=>TI m u i b e/\KW b e<KW a w)<|QQ<|TE m u i) a w:=by
 obtain⟨n,j,c,k,h,rfl,d⟩:=g;rw[ZL (w:=w) c];obtain⟨b,rfl⟩:=c;cases j with
 |zero=>
  subst d;exact aly m n b λa q=>⟨q,U⟩
 |succ j=>
  have e:(((8*(j+1):Nat):Int)-8)=((8*j:Nat):Int):=Z
  rw[e];refine alx m n j Z h f b λa q=>⟨⟨_,j,q,Z,KU _ _,U,d⟩,?_⟩;rw[ZL q];omega
end
def nQ(n m:Nat):Nat:=tn m n 8
theorem DW(n m:Nat)(a:n<18446744073709551616):nQ n m<18446744073709551616:=ZK m 8 n a
def Hd(n m:Nat)(b:n<18446744073709551616)(c:m<18446744073709551616)(w:É):Ò À 177 #[Â Æ n,Â Æ m] w λe d=>e=Ç (Â Æ<|nQ n m)/\d=w:=by
 have L:∀a,DV m n 56 a->Î À (à KV) (QQ<|TE m w<|nQ n m) a w:=λa f=>
  Ĉ (TI m w<|nQ n m) KW ⟨n,8,f,Þ _,b,U,U⟩<|alz c
 generalize nQ n m=r at*;go_enter Tryz.func177,Tryz.ntmps177;go_wp2_with fail;refine Ý ?_ ((e7 L).out _ (gk _));rintro(_|(_|_)|_|_|_|_) a v hq;all_goals first|exact absurd hq id|skip
 obtain⟨g,rfl⟩:=hq;obtain⟨u,rfl⟩:=g;unfold DU;go_wp2_with fail;go_ret;exact⟨U,U⟩
def He(p q:Nat):Nat:=nQ (nQ 14695981039346656037 p) q
def alA(p q:Nat):He p q<18446744073709551616:=DW _ _<|DW _ _ Z
noncomputable def Hf:ŏ:=(Tryz.f162.body.bind ko).getD Ķ
noncomputable def Hg:ŏ:=(ko Hf).getD Ķ
def Q2(X:é->É->Prop):aS->é->É->Prop
 |.exit 2,a,w=>X a w
 |_,_,_=>False
def uW(b c d:Nat)(a:Nat)(i:Int)(u:Nat->È):é:=⟨#[Ê (Ã ⟨b,0,Ä⟩) c d,u 1,u 2,Â Ë a,u 4,u 5,u 6,u 7,u 8,u 9,u 10,Â Ë a,Â Ë i,u 13,u 14,u 15,u 16,u 17,u 18,u 19,u 20,u 21,u 22,u 23,u 24,u 25,u 26,u 27,u 28,u 29,u 30,u 31,u 32,u 33,u 34,u 35,u 36,u 37],[]⟩
def BB(b c d:Nat)(e:Nat)(i:Int)(a:é):Prop:=∃u,a=uW b c d e i u
section
variable{X:é->É->Prop}{cp:Nat}
def alB(u:Nat->È)(c:∀a,BB b n cp i i a->X a w): Î À Hg (Exit.then K<|Q2 X) (uW b n cp i i u) w:=by
 unfold uW;conv=>arg 2;whnf
 go_wp2_with fail
 exact c _ (gk _)
def alC(c p q z:Nat)(k:He p q=z)(t:c<i)(x:2*i<=n)(y:n<=16)(l:p<18446744073709551616)(m:q<18446744073709551616)(u:Nat->È) (o:w.cell? ⟨b,2*c,Ä⟩=Ã (Â Æ p)) (r:w.cell? ⟨b,2*c+1,Ä⟩=Ã (Â Æ q)) (h:∃v,w.cell? ⟨b,c,Ä⟩=Ã v) (B:w.frozen? ⟨b,c,Ä⟩=Ï) (d:∀a,BB b n cp i ((c+1:Nat):Int) a->K a (w.setCell ⟨b,c,Ä⟩<|Â Æ z).drew): Î À Hg (Exit.then K<|Q2 X) (uW b n cp i c u) w:=by
 unfold uW;conv=>arg 2;whnf
 subst k;unfold He at d;let⟨C,h⟩:=h;have D:(0:Int)<=(c:Int):=Z
 have E:(c:Int)<(i:Int):=Z
 have F:(2:Int)*(c:Int)+1<(n:Int):=Z
 have G:((2:Int)*(c:Int)).toNat=2*c:=Z
 have H:((2:Int)*(c:Int)+1).toNat=2*c+1:=Z
 have I:Ë.wrap (2*(c:Int))=2*(c:Int):=G3 Z Z;have j:Ë.wrap (2*(c:Int)+1)=2*(c:Int)+1:=G3 Z Z;have J:(0:Int)<=2*(c:Int):=Z
 have L:2*(c:Int)<(n:Int):=Z
 have M:(0:Int)<=2*(c:Int)+1:=Z
 have N:(c:Int)<(n:Int):=Z
 have s:=e7 d;clear d;go_wp2_with fail;have f:=e7<|Á o r;refine lM (λe=>e.cell? ⟨b,2*c,Ä⟩=Ã (Â Æ p)/\e.cell? ⟨b,2*c+1,Ä⟩=Ã (Â Æ q)) [16] fj ?_;iterate 7 apply tk f.out
 apply tk f.out 8;apply tk f.out 9;apply tk f.out 10;apply tk f.out 11;apply tk f.out 12;apply tk f.out 13;refine gq 7 ?_;intro K d;go_simp;go_at_call 177;refine(Hd 14695981039346656037 p Z l _).mono ?_;rintro e g ⟨rfl,j⟩;subst g;refine d.out _ _ (λ_=>f.out) ?_;refine gq 14 ?_;intro K d;go_simp;go_at_call 177;refine(Hd (nQ 14695981039346656037 p) q (DW _ _ Z) m _).mono ?_;rintro e g ⟨rfl,j⟩;subst g;refine d.out _ _ (λ_=>f.out) ?_;refine gq 15 ?_;intro K d;go_simp;refine d.out _ _ (λ_=>f.out) ?_;refine gq 16 ?_;intro K d;go_simp;refine d.out _ _ (λq=>absurd fg q) ?_;refine ly fj ?_ _;go_wp2_with fail;exact s.out _ (gk _)
end
def pr(l:List Nat)(t:Nat):Nat:=He (l.getD (2*t) 0)<|l.getD (2*t+1) 0
def ZM(l:List Nat)(t:Nat):He (l.getD (2*t) 0) (l.getD (2*t+1) 0)=pr l t:=by unfold pr;exact Eq.refl _
def jC(l:List Nat)(i:Nat):List Nat:=(ċ l.length).map λt=>if t<i then pr l t else l.getD t 0
def tV(l:List Nat):List Nat:=(ċ<|l.length/2).map<|pr l
def j5(l:List Nat):List È:=l.map λ(x:Nat)=>Â Æ x
def rF(l:List Nat):Prop:=∀t,l.getD t 0<18446744073709551616
theorem Hh(l:List Nat)(i:Nat):(jC l i).length=l.length:=by simp[jC]
theorem KX(l:List Nat)(i t:Nat)(h:t<l.length):(jC l i)[t]?=Ã (if t<i then pr l t else l.getD t 0):=by simp[jC,û h]
theorem alD(l:List Nat):jC l 0=l:=by refine þ λt=> ?_;grind [KX,Hh]
theorem alE(l:List Nat)(i:Nat)(h:i<l.length):(jC l i).set i (pr l i)=jC l (i+1):=by refine þ λt=> ?_;grind [KX,Hh,ĕ]
theorem alF(l:List Nat):jC l (l.length/2)=tV l++l.drop (l.length/2):=by
 refine þ λt=> ?_;have b:(tV l).length=l.length/2:=by simp[tV]
 by_cases a:t<l.length
 .rw[KX _ _ t a];by_cases q:t<l.length/2
  .rw[if_pos q,ç Z];simp[tV,û q]
  .grind
 .grind [Hh,Ó,List.length_drop]
def alG(l:List Nat)(t:Nat):pr l t<18446744073709551616:=by rw[<-ZM];exact alA _ _
def KY{N:Nat}(a:0<N)(h:∀x∈jJ,x<N)(t:Nat):jJ.getD t 0<N:=by
 rw[Ĳ];cases e:jJ[t]? with
 |none=>exact a
 |some x=>exact h x<|Ġ e
def ZN(l:List Nat):rF (tV l):=KY Z λx a=>by unfold tV at a;obtain⟨t,_,rfl⟩:=ņ.1 a;exact alG l t
def rG:Nat->List Nat->Nat
 |0,l=>l.getD 0 0
 |k+1,l=>rG k<|tV l
def R4(l:List Nat)(i x:Nat):j5 (l.set i x)=(j5 l).set i (Â Æ x):=by simp[j5,List.map_set]
theorem Hi(l:List Nat)(i x:Nat)(h:l[i]?=Ã x):(j5 l)[i]?=Ã (Â Æ x):=by simp[j5,h]
section
variable{cp:Nat}{l:List Nat}{junk:List È}
def II(b n cp i:Nat)(T:õ)(l:List Nat)(junk:List È)(d:É)(a:é)(w:É):Prop:=
 ∃c:Nat,BB b n cp i c a/\c<=i/\eZ (λk=>k=b) d w/\fc b (j5 (jC l c)++junk) T w
def IE(b n cp i:Nat)(T:õ)(l:List Nat)(junk:List È)(c:É)(a:é)(w:É):Prop:=
 BB b n cp i i a/\eZ (λk=>k=b) c w/\fc b (j5 (jC l i)++junk) T w
def KZ(i:Nat)(a:é)(_:É):Nat:=match a.tmps.getD 12 ā with
 |Â _ b=>i-b.toNat
 |_=>0
def ZO(c:BB b n cp i j y):KZ i y w=i-j:=by obtain⟨u,rfl⟩:=c;show i-(j:Int).toNat=_;simp
def alH(g:rF l)(r:l.length=n)(s:2*i=n)(m:n<=16)(a:é)(w:É)(o:II b n cp i T l junk u a w): Î À Hg (Exit.then (λc d=>II b n cp i T l junk u c d/\KZ i c d<KZ i a w)<|Q2<|IE b n cp i T l junk u) a w:=by
 let⟨c,h,v,j,e⟩:=o;rw[ZO h];obtain⟨d,rfl⟩:=h;by_cases p:c=i
 .subst p;exact alB d λa q=>⟨q,j,e⟩
 .have f:=λt x y=>
   e.r t _<|by rw[ç (by simp[j5,Hh];omega)];exact Hi _ _ _<|by rw[KX l c t Z,if_neg Z]
  refine alC c (l.getD (2*c) 0) (l.getD (2*c+1) 0) (pr l c) (ZM l c) Z Z m (g _) (g _) d (f _ Z Z) (f _ Z Z) ⟨_,f c Z Z⟩ (e.C c) λa q=>⟨⟨c+1,q,Z,(j.e8<|eZ.I (X:=λk=>k=b) U _).e8<|eZ.fM _ _,?_⟩,by rw[ZO q];omega⟩;rw[<-alE l c Z,R4,<-Ğ _ _ (by simp[j5,Hh];omega)];exact((e.fW c<|Â Æ<|pr l c).I (eZ.fM e9 _) id)
def alI(c:rF l)(d:l.length=n)(e:2*i=n)(f:n<=16)(g:fc b (j5 l++junk) T w)(h:BB b n cp i (0:Nat) y): Î À (à Hg) (Q2<|IE b n cp i T l junk w) y w:= Ĉ (II b n cp i T l junk w) (KZ i) ⟨0,h,â _,eZ.fO _ _,by rwa[alD]⟩<|alH c d e f
end
def DX(b a c:Nat)(u:Nat->È):é:=⟨#[Ê (Ã ⟨b,0,Ä⟩) a c,u 1,u 2,u 3,u 4,u 5,u 6,u 7,u 8,u 9,u 10,u 11,u 12,u 13,u 14,u 15,u 16,u 17,u 18,u 19,u 20,u 21,u 22,u 23,u 24,u 25,u 26,u 27,u 28,u 29,u 30,u 31,u 32,u 33,u 34,u 35,u 36,u 37],[]⟩
def DY(b c d:Nat)(a:é):Prop:=∃u,a=DX b c d u
section
variable{cp:Nat}{l:List Nat}{junk:List È}
def alJ(c:n=1)(u:Nat->È)(d:∀a,DY b n cp a->H a w): Î À Hf (Exit.then K<|QQ H) (DX b n cp u) w:=by
 unfold DX;conv=>arg 2;whnf
 subst c;go_wp2_with fail;exact d _ (gk _)
def alK(u:Nat->È)(g:rF l)(h:l.length=n)(j:2*i=n)(s:0<i)(m:n<=16)(t:n<=cp)(d:fc b (j5 l++junk) T w) (o:∀a e,DY b i cp a->eZ (λk=>k=b) w e->fc b (j5 (jC l i)++junk) T e->K a e): Î À Hf (Exit.then K<|QQ H) (DX b n cp u) w:=by
 have L:∀a,BB b n cp i (0:Nat) a->Î À (à Hg) (Q2<|IE b n cp i T l junk w) a w:=λa p=>alI g h j m d p;unfold DX;conv=>arg 2;whnf
 have x:(n:Int).tdiv 2=(i:Int):=by rw[Int.tdiv_eq_ediv_of_nonneg Z];omega
 have y:(0:Int)<=(i:Int):=Z
 have z:(i:Int)<=(cp:Int):=Z
 have c:=e7<|Á L o;go_wp2_with fail;refine Ý ?_ (c.out.1 _ (gk _));rintro(_|(_|_|_|_)|_|_|_|_) a v hq;all_goals first|exact absurd hq id|skip
 let⟨q,r,d⟩:=hq;obtain⟨u,rfl⟩:=q;unfold uW;have f:=e7<|Á r d;go_wp2_with fail;exact c.out.2 _ _ (gk _) f.out.1 f.out.2
def OI(b cp:Nat)(T:õ)(c:É)(d:Nat)(a:é)(w:É):Prop:=
 ∃(k:Nat) (l:List Nat) (junk:List È),DY b l.length cp a/\l.length=2^k/\l.length<=16/\l.length<=cp/\rF l/\eZ (λk=>k=b) c w/\fc b (j5 l++junk) T w/\rG k l=d
def OE(b cp:Nat)(c:É)(d:Nat)(a:é)(w:É):Prop:=DY b 1 cp a/\1<=cp/\eZ (λk=>k=b) c w/\w.cell? ⟨b,0,Ä⟩=Ã (Â Æ d)
def K0(a:é)(_:É):Nat:=match a.tmps.getD 0 ā with
 |Ê _ n _=>n
 |_=>0
def ZQ(c:DY b n cp y):K0 y w=n:=by obtain⟨u,rfl⟩:=c;rfl
def alL(a:é)(w:É)(r:OI b cp T u i a w): Î À Hf (Exit.then (λc d=>OI b cp T u i c d/\K0 c d<K0 a w)<|QQ<|OE b cp u i) a w:=by
 let⟨k,l,junk,g,h,s,t,v,j,m,n⟩:=r;rw[ZQ g];obtain⟨c,rfl⟩:=g;cases k with
 |zero=>
  have e:=h;have f:w.cell? ⟨b,0,Ä⟩=Ã (Â Æ<|l.getD 0 0):=m.r 0 _ (by rw[ç (by simp[j5];omega)];exact Hi _ _ _<|by rw[Ĳ,Ô Z];rfl);have o:l.getD 0 0=i:=n;rw[o]at f;refine alJ e c λa q=>⟨by rwa[e]at q,Z,j,f⟩
 |succ k=>
  have x:2*2^k=l.length:=by rw[h,Nat.pow_succ];omega
  have y:0<2^k:=Nat.pow_pos Z;have f:l.length/2=2^k:=Z
  have o:(tV l).length=2^k:=by simp[tV,f]
  refine alK c v U x y s t m λa d q z p=>⟨⟨k,tV l,j5 (l.drop<|l.length/2)++junk,by rwa[o],o,Z,Z,ZN l,j.e8 z,?_,n⟩,by rw[ZQ q];omega⟩;have e:=alF l;rw[f]at e;rw[e]at p;rw[f,<-Ċ];simpa[j5]using p
end
def ZR{cp:Nat}{l:List Nat}{junk:List È}(c:l.length=2^k)(d:l.length<=16)(f:l.length<=cp)(g:rF l)(h:fc b (j5 l++junk) T w): Ò À 162 #[Ê (Ã ⟨b,0,Ä⟩) l.length cp] w λe a=>e=Ç (Â Æ<|rG k l)/\eZ (λi=>i=b) w a:=by
 have L:∀a,DY b l.length cp a->Î À (à Hf) (QQ<|OE b cp w<|rG k l) a w:=λa e=>
  Ĉ (OI b cp T w<|rG k l) K0 ⟨k,l,junk,e,c,d,f,g,eZ.fO _ _,h,U⟩ alL
 generalize rG k l=r at*;generalize l.length=n at*;go_enter Tryz.func162,Tryz.ntmps162;go_wp2_with fail;refine Ý ?_ ((e7 L).out _ (gk _));rintro(_|(_|_)|_|_|_|_) a v hq;all_goals first|exact absurd hq id|skip
 let⟨i,j,m,o⟩:=hq;obtain⟨u,rfl⟩:=i;unfold DX;go_wp2_with fail;go_ret;simp_all
def alM:À.underlying 118=Ã (.array 16 36):=fj
def alN(w:É)(c:i<16)(e:d[i]?=Ã (Â Æ h)):(Κ 118 (Ē d)<|Â Ë (i:Int)).run À w=φ (Â Æ h) w:=by
 have a:(0:Int)<=(i:Int):=Z
 have b:(i:Int)<16:=Z
 simp[Κ,ř alM,asIntOf,go_sem,a,b];go_simp
noncomputable def Hj:ŏ:=(aY.body.bind ko).getD Ķ
def DZ(c o b:Nat)(a:Array È)(i:Int)(u:Nat->È):é:=⟨#[Å<|Ã ⟨c,o,Ä⟩,u 1,u 2,Å<|Ã ⟨b,0,Ä⟩,u 4,u 5,u 6,u 7,u 8,u 9,u 10,Ē a,Â Ë i,u 13,u 14,u 15,u 16,u 17,u 18,u 19,u 20,u 21,u 22,u 23,u 24,u 25,u 26,u 27,u 28,u 29,u 30,u 31,u 32,u 33,u 34,u 35,u 36,u 37,u 38,u 39,u 40,u 41,u 42,u 43,u 44,u 45,u 46,u 47],[]⟩
def BD(d o b:Nat)(c:Array È)(i:Int)(a:é):Prop:=∃u,a=DZ d o b c i u
section
variable{X:é->É->Prop}
def alO(u:Nat->È)(c:∀a,BD n i b d 16 a->X a w): Î À Hj (Exit.then K<|QQ X) (DZ n i b d 16 u) w:=by
 unfold DZ;conv=>arg 2;whnf
 go_wp2_with fail
 exact c _ (gk _)
def alP(c p z:Nat)(j:nQ 14695981039346656037 p=z)(k:c<16)(l:p<18446744073709551616)(f:d[c]?=Ã (Â Æ p))(g:∃v,w.cell? ⟨b,c,Ä⟩=Ã v)(o:w.frozen? ⟨b,c,Ä⟩=Ï)(u:Nat->È) (h:∀a,BD n i b d ((c+1:Nat):Int) a->K a (w.setCell ⟨b,c,Ä⟩<|Â Æ z)): Î À Hj (Exit.then K<|QQ X) (DZ n i b d c u) w:=by
 unfold DZ;conv=>arg 2;whnf
 let⟨q,g⟩:=g;have r:=λW=>alN W k f;have m:=e7 h;clear h f;go_wp2_with (go_at_call 177;refine(Hd 14695981039346656037 p Z l _).mono ?_;rintro e s ⟨rfl,rfl⟩;rw[j]);exact m.out _ (gk _)
def lf(x:Nat):Nat:=nQ 14695981039346656037 x
theorem K1(x:Nat):lf x<18446744073709551616:=DW _ _ Z
def ZS(x:Nat):nQ 14695981039346656037 x=lf x:=by unfold lf;exact Eq.refl _
def nR(l:List Nat)(i:Nat):List Nat:=(ċ 16).map λt=>if t<i then lf (l.getD t 0)else 0
theorem Hk(l:List Nat)(i:Nat):(nR l i).length=16:=by simp[nR]
theorem ZT(l:List Nat)(i t:Nat)(h:t<16):(nR l i)[t]?=Ã (if t<i then lf (l.getD t 0)else 0):=by simp[nR,û h]
theorem alQ(l:List Nat)(i:Nat)(h:i<16):(nR l i).set i (lf<|l.getD i 0)=nR l (i+1):=by refine þ λt=> ?_;grind [ZT,Hk,ĕ]
def ZU(l:List Nat):rF (nR l 16):=KY Z λx a=>by
 unfold nR at a;obtain⟨t,_,rfl⟩:=ņ.1 a;split
 .exact K1 _
 .omega
def AI(n i b:Nat)(l:List Nat)(d:É)(a:é)(w:É):Prop:=
 ∃c:Nat,BD n i b (j5 l).toArray c a/\c<=16/\eZ (λk=>k=b) d w/\fc b (j5<|nR l c) 118 w
def AE(n i b:Nat)(l:List Nat)(c:É)(a:é)(w:É):Prop:=
 BD n i b (j5 l).toArray 16 a/\eZ (λk=>k=b) c w/\fc b (j5<|nR l 16) 118 w
def K2(a:é)(_:É):Nat:=match a.tmps.getD 12 ā with
 |Â _ i=>16-i.toNat
 |_=>0
def ZV(c:BD n i b d j y):K2 y w=16-j:=by obtain⟨u,rfl⟩:=c;show 16-(j:Int).toNat=_;simp
theorem alR(h:rF jJ)(p:jJ.length=16)(a:é)(w:É)(j:AI n i b jJ u a w): Î À Hj (Exit.then (λc d=>AI n i b jJ u c d/\K2 c d<K2 a w)<|QQ<|AE n i b jJ u) a w:=by
 let⟨c,f,r,g,e⟩:=j;rw[ZV f];obtain⟨d,rfl⟩:=f;by_cases m:c=16
 .subst m;exact alO d λa q=>⟨q,g,e⟩
 .have o:(j5 jJ).toArray[c]?=Ã (Â Æ<|jJ.getD c 0):=by
   grind [Hi]
  refine alP c (jJ.getD c 0) (lf<|jJ.getD c 0) (ZS _) Z (h _) o ⟨_,(e.r c _<|Hi _ _ _<|by rw[ZT jJ c c Z,if_neg Z])⟩ (e.C c) d λa q=>⟨⟨c+1,q,Z,g.e8 (eZ.I (X:=λk=>k=b) U _),?_⟩,by rw[ZV q];omega⟩;rw[<-alQ jJ c Z,R4];exact e.fW c<|Â Æ<|lf<|jJ.getD c 0
def alS{l:List Nat}(c:rF l)(d:l.length=16)(e:fc b (j5<|nR l 0) 118 w)(f:BD n i b (j5 l).toArray (0:Nat) y): Î À (à Hj) (QQ<|AE n i b l w) y w:= Ĉ (AI n i b l w) K2 ⟨0,f,â _,eZ.fO _ _,e⟩<|alR c d
end
def BF:ŏ->List ŏ
 |à c=>[c]
 |.seq a b=>BF a++BF b
 |.block _ c=>BF c
 |.scope c=>BF c
 |.cond _ a b=>BF a++BF b
 |_=>[]
noncomputable def Hl:ŏ:=((aY.body.map BF).getD []).getD 1 Ķ
def D1(a o:Nat)(P:ByteArray)(n:Nat)(i:Int)(u:Nat->È):é:=⟨#[Å<|Ã ⟨a,o,Ä⟩,u 1,u 2,u 3,u 4,u 5,Â Æ n,u 7,u 8,u 9,u 10,u 11,u 12,u 13,u 14,u 15,u 16,u 17,u 18,u 19,u 20,u 21,u 22,u 23,u 24,u 25,u 26,u 27,u 28,u 29,u 30,u 31,u 32,u 33,Â Ë P.size,Â Ë i,u 36,u 37,u 38,u 39,u 40,u 41,u 42,u 43,u 44,u 45,u 46,u 47],[]⟩
def BG(b o:Nat)(P:ByteArray)(n:Nat)(i:Int)(a:é):Prop:=∃u,a=D1 b o P n i u
def yU(n:Nat)(l:List UInt8):Nat:=l.foldl (λn c=>tb n c.toNat) n
def alT(b:Nat)(c:Int)(d:c=B.size)(u:Nat->È)(e:∀a,BG n i B b c a->H a w): Î À Hl (Exit.then K<|Q2 H) (D1 n i B b c u) w:=by
 unfold D1;conv=>arg 2;whnf
 subst d;go_wp2_with fail;exact e _ (gk _)
def alU{B:ByteArray}{c:UInt8}(w:É)(a:B.data.toList[i]?=Ã c):(Κ 9 (Í B)<|Â Ë (i:Int)).run À w=φ (Â aT (c.toNat:Nat)) w:=by
 have e:(0:Int)<=(i:Int):=Z
 let⟨b,d⟩:=Ü.1 a;have f:i<B.size:=by simpa using b
 have g:B[i]=c:=by rw[<-d];exact(Array.getElem_toList _).symm
 go_simp
def alV(b d z:Nat)(c:UInt8)(g:tb b c.toNat=z)(l:d<B.size)(m:B.size<=1000000)(k:b<18446744073709551616)(h:B.data.toList[d]?=Ã c)(o:w.cell? ⟨n,i+1,Ä⟩=Ã (Í B))(u:Nat->È) (j:∀a,BG n i B z ((d+1:Nat):Int) a->K a w): Î À Hl (Exit.then K<|Q2 H) (D1 n i B b d u) w:=by
 unfold D1;conv=>arg 2;whnf
 have p:(0:Int)<=(d:Int):=Z
 have q:(d:Int)<(B.size:Int):=Z
 have r:(B.size:Int)<=1000000:=Z
 have s:=λW=>alU W h;have t:=c.toNat_lt;have T:=ZJ b c.toNat k Z w;rw[g]at T;generalize c.toNat=cn at*;have f:=e7<|Á T j;clear j T h g;go_wp2_with (go_at_call 178;apply f.out.1.mono;rintro e v ⟨rfl,rfl⟩);exact f.out.2 _ (gk _)
def BI(n i:Nat)(B:ByteArray)(d:É)(e:Nat)(a:é)(w:É):Prop:=
 ∃b c:Nat,BG n i B b c a/\c<=B.size/\b<18446744073709551616/\w=d/\yU b (B.data.toList.drop c)=e
def BE(n i:Nat)(B:ByteArray)(b:É)(c:Nat)(a:é)(w:É):Prop:=BG n i B c B.size a/\w=b
def K3(m:Nat)(a:é)(_:É):Nat:=match a.tmps.getD 35 ā with
 |Â _ i=>m-i.toNat
 |_=>0
def ZW(c:BG n i B j b y):K3 m y w=m-b:=by obtain⟨u,rfl⟩:=c;show m-(b:Int).toNat=_;simp
def alW(h:B.size<=1000000)(k:u.cell? ⟨n,i+1,Ä⟩=Ã (Í B))(a:é)(w:É)(l:BI n i B u j a w): Î À Hl (Exit.then (λb c=>BI n i B u j b c/\K3 B.size b c<K3 B.size a w)<|Q2<|BE n i B u j) a w:=by
 obtain⟨b,c,f,p,m,rfl,e⟩:=l;rw[ZW f];obtain⟨d,rfl⟩:=f;have r:B.data.toList.length=B.size:=fg
 by_cases o:c=B.size
 .rw[Ę Z]at e;subst e;exact alT b c Z d λa q=>⟨by rwa[o]at q,U⟩
 .have g:c<B.data.toList.length:=Z
  rw[ē g]at e;refine alV b c (tb b (B.data.toList[c]).toNat) (B.data.toList[c]) (Eq.refl _) Z h m (Ô g) k d λa q=>⟨⟨_,c+1,q,Z,KU _ _,U,e⟩,by rw[ZW q];omega⟩
def alX(b:B.size<=1000000)(c:j<18446744073709551616)(d:w.cell? ⟨n,i+1,Ä⟩=Ã (Í B))(e:BG n i B j (0:Nat) y): Î À (à Hl) (Q2<|BE n i B w<|yU j B.data.toList) y w:= Ĉ (BI n i B w<|yU j B.data.toList) (K3 B.size) ⟨j,0,e,â _,c,U,U⟩<|alW b d
abbrev zA:List È:=[Â Æ 0,Â Æ 0,Â Æ 0,Â Æ 0,Â Æ 0,Â Æ 0,Â Æ 0,Â Æ 0,Â Æ 0,Â Æ 0,Â Æ 0,Â Æ 0,Â Æ 0,Â Æ 0,Â Æ 0,Â Æ 0]
def BH(B:Nat)(P:ByteArray)(a:List Nat):Nat:=yU (nQ (lf B)<|rG 4<|nR a 16) P.data.toList
def R5:∀(k:Nat) (l:List Nat),rF l->rG k l<18446744073709551616
 |0,_,h=>h 0
 |k+1,l,_=>R5 k (tV l)<|ZN l
def alY(l:List Nat):j5 (nR l 0)=zA:=by rfl
def alZ{P:ByteArray}(d f g p r s x y z C D E F G I J:Nat)(Y:(j5 jJ).toArray=#[Â Æ d,Â Æ f,Â Æ g,Â Æ p,Â Æ r,Â Æ s,Â Æ x,Â Æ y,Â Æ z,Â Æ C,Â Æ D,Â Æ E,Â Æ F,Â Æ G,Â Æ I,Â Æ J])(hl:jJ.length=16)(hB:m<18446744073709551616)(hP:P.size<=1000000)(hs:rF jJ) (K:w.cell? ⟨n,j,Ä⟩=Ã (Â Æ m)) (c1:w.cell? ⟨n,j+1,Ä⟩=Ã (Í P)) (r0:w.cell? ⟨n,j+2,Ä⟩=Ã (Â Æ d)) (r1:w.cell? ⟨n,j+2+1,Ä⟩=Ã (Â Æ f)) (r2:w.cell? ⟨n,j+2+2,Ä⟩=Ã (Â Æ g)) (r3:w.cell? ⟨n,j+2+3,Ä⟩=Ã (Â Æ p)) (r4:w.cell? ⟨n,j+2+4,Ä⟩=Ã (Â Æ r)) (r5:w.cell? ⟨n,j+2+5,Ä⟩=Ã (Â Æ s)) (r6:w.cell? ⟨n,j+2+6,Ä⟩=Ã (Â Æ x)) (r7:w.cell? ⟨n,j+2+7,Ä⟩=Ã (Â Æ y)) (r8:w.cell? ⟨n,j+2+8,Ä⟩=Ã (Â Æ z)) (r9:w.cell? ⟨n,j+2+9,Ä⟩=Ã (Â Æ C)) (r10:w.cell? ⟨n,j+2+10,Ä⟩=Ã (Â Æ D)) (r11:w.cell? ⟨n,j+2+11,Ä⟩=Ã (Â Æ E)) (r12:w.cell? ⟨n,j+2+12,Ä⟩=Ã (Â Æ F)) (r13:w.cell? ⟨n,j+2+13,Ä⟩=Ã (Â Æ G)) (r14:w.cell? ⟨n,j+2+14,Ä⟩=Ã (Â Æ I)) (r15:w.cell? ⟨n,j+2+15,Ä⟩=Ã (Â Æ J)): Ò À 161 #[Å<|Ã ⟨n,j,Ä⟩] w λe c=>e=Ç (Â Æ<|BH m P jJ)/\eZ e9 w c:=by
 have gH:=á w _ K;have L1:∀a,BD n j w.heap.size #[Â Æ d,Â Æ f,Â Æ g,Â Æ p,Â Æ r,Â Æ s,Â Æ x,Â Æ y,Â Æ z,Â Æ C,Â Æ D,Â Æ E,Â Æ F,Â Æ G,Â Æ I,Â Æ J] (0:Nat) a->Î À (à Hj) (QQ<|AE n j w.heap.size jJ<|w.alloc<|Ð zA.toArray 118) a (w.alloc<|Ð zA.toArray 118):=λa L=>
  alS hs hl (by rw[alY];exact fc.N w zA 118)<|by rwa[Y]
 have M:∀W,fc w.heap.size (j5<|nR jJ 16) 118 W->Ò À 162 #[Ê (Ã ⟨w.heap.size,0,Ä⟩) 16 16] W λe c=>e=Ç (Â Æ<|rG 4<|nR jJ 16)/\eZ (λi=>i=w.heap.size) W c:=λW hW=>by have t:=ZR (w:=W) (b:=w.heap.size) (cp:=16) (k:=4) (T:=118) (l:=nR jJ 16) (junk:=[]) (by rw[Hk]) (by rw[Hk];omega) (by rw[Hk];omega) (ZU jJ) (by rwa[ò]);rwa[Hk]at t
 have N:=R5 4 (nR jJ 16)<|ZU jJ;obtain⟨t,O⟩:∃t,rG 4 (nR jJ 16)=t:=⟨_,U⟩;have ZX:BH m P jJ=yU (nQ (lf m) t) P.data.toList:=by unfold BH;rw[O]
 rw[ZX];rw[O]at M N;have L2:∀W a,W.cell? ⟨n,j+1,Ä⟩=Ã (Í P)->BG n j P (nQ (lf m) t) (0:Nat) a->Î À (à Hl) (Q2<|BE n j P W<|yU (nQ (lf m) t) P.data.toList) a W:=λW a h L=>
  alX hP (DW _ _<|K1 m) h L
 have C1:∀W,Ò À 177 #[Â Æ 14695981039346656037,Â Æ m] W λe c=>e=Ç (Â Æ<|lf m)/\c=W:=λW=>by rw[<-ZS];exact Hd 14695981039346656037 m Z hB W
 have C2:∀W,Ò À 177 #[Â Æ<|lf m,Â Æ t] W λe c=>e=Ç (Â Æ<|nQ (lf m) t)/\c=W:=λW=>Hd (lf m) t (K1 m) N W;have H:=e7<|Á K<|Á c1<|Á L1<|Á M<|Á L2<|Á C1 C2;clear L1 M L2 C1 C2 ZX O N hs K c1 Y;generalize yU (nQ (lf m) t) P.data.toList=res at*;generalize nQ (lf m) t=n2 at*;generalize lf m=n1 at*;go_enter Tryz.func161,Tryz.ntmps161;go_wp2_with fail;refine Ý (Q:=QQ<|AE n j w.heap.size jJ<|w.alloc<|Ð zA.toArray 118) ?_ (H.out.2.2.1 _ (gk _));rintro(_|(_|_)|_|_|_|_) a v hq;all_goals first|exact absurd hq id|skip
 let⟨S,hk,ZY⟩:=hq;have V:eZ e9 w v:=(eZ.gB e9 w zA.toArray 118).C hk λi hi q=>by omega
 have g0:=V.r H.out.1 id;obtain⟨u,rfl⟩:=S;unfold DZ;have HV:=e7<|Á V ZY;clear V ZY hk r0 r1 r2 r3 r4 r5 r6 r7 r8 r9 r10 r11 r12 r13 r14 r15;go_wp2_with (first
  |(go_at_call 162;refine(H.out.2.2.2.1 _ HV.out.2).mono ?_;rintro e w2 ⟨rfl,yl⟩;have X:=HV.out.1.C yl (λi hi q=>by omega);have g1:=X.r H.out.2.1 id;have HK:=e7 X;clear yl X)
  |(go_at_call 177;with_reducible refine(H.out.2.2.2.2.2.2 _).mono ?_;rintro e X ⟨rfl,rfl⟩)
  |(go_at_call 177;refine(H.out.2.2.2.2.2.1 _).mono ?_;rintro e X ⟨rfl,rfl⟩))
 refine Ý (Q:=Q2<|BE n j P _ res) ?_ (H.out.2.2.2.2.1 _ _ g1 (gk _));rintro(_|(_|_|_|_)|_|_|_|_) a v2 hq;all_goals first|exact absurd hq id|skip
 obtain⟨S,rfl⟩:=hq;obtain⟨u,rfl⟩:=S;unfold D1;go_wp2_with fail;go_ret;exact⟨U,HK.out⟩
def al0{P:ByteArray}(c:j<18446744073709551616)(d:P.size<=1000000)(f:jJ.length=16)(g:rF jJ) (h:w.cell? ⟨i,n,Ä⟩=Ã (Â Æ j)) (k:w.cell? ⟨i,n+1,Ä⟩=Ã (Í P)) (b:∀(a x:Nat),jJ[a]?=Ã x->w.cell? ⟨i,n+2+a,Ä⟩=Ã (Â Æ x)): Ò À 161 #[Å<|Ã ⟨i,n,Ä⟩] w λe l=>e=Ç (Â Æ<|BH j P jJ)/\eZ e9 w l:=by
 match jJ,f with
 |[a0,a1,a2,a3,a4,a5,a6,a7,a8,a9,ZZ,Z0,a12,Z1,Z2,Z3],_=>exact alZ a0 a1 a2 a3 a4 a5 a6 a7 a8 a9 ZZ Z0 a12 Z1 Z2 Z3 fR fR c d g h k (b 0 a0 U) (b 1 a1 U) (b 2 a2 U) (b 3 a3 U) (b 4 a4 U) (b 5 a5 U) (b 6 a6 U) (b 7 a7 U) (b 8 a8 U) (b 9 a9 U) (b 10 ZZ U) (b 11 Z0 U) (b 12 a12 U) (b 13 Z1 U) (b 14 Z2 U)<|b 15 Z3 U
abbrev zB:List È:=[Â Æ 0,Â Æ 0,Â Æ 0,Â Æ 0,Â Æ 0,Â Æ 0,Â Æ 0,Â Æ 0]
noncomputable def K4:ŏ:=(Tryz.f122.body.bind ko).getD Ķ
def D2(a b:Nat)(i:Int)(u:Nat->È):é:=⟨#[Å<|Ã ⟨a,0,Ä⟩,u 1,u 2,Å<|Ã ⟨b,0,Ä⟩,u 4,Â Ë i,u 6,u 7,u 8,u 9,u 10,u 11,u 12,u 13,u 14,u 15,u 16,u 17],[]⟩
def D3(c b:Nat)(i:Int)(a:é):Prop:=∃u,a=D2 c b i u
section
variable{X:é->É->Prop}
def al1(u:Nat->È)(c:∀a,D3 i b 8 a->X a w): Î À K4 (Exit.then K<|QQ X) (D2 i b 8 u) w:=by
 unfold D2;conv=>arg 2;whnf
 go_wp2_with fail
 exact c _ (gk _)
def al2(c z:Nat)(o:c<8)(T:Ò À 161 #[Å<|Ã ⟨i,c*18,Ä⟩] w λe j=>e=Ç (Â Æ z)/\eZ e9 w j)(g:List È)(h:È)(k:g[c]?=Ã h)(l:fc b g 116 w)(u:Nat->È) (m:∀a f,D3 i b ((c+1:Nat):Int) a->eZ e9 w f->K a (f.setCell ⟨b,c,Ä⟩<|Â Æ z)): Î À K4 (Exit.then K<|QQ X) (D2 i b c u) w:=by
 unfold D2;conv=>arg 2;whnf
 have H:=e7<|Á T<|Á m l;go_wp2_with (go_at_call 161;apply H.out.1.mono;rintro e f ⟨rfl,d⟩;have p:=(H.out.2.2.I d id).r c h k;have q:=(H.out.2.2.I d id).C c;have n:=e7 d;clear d);exact H.out.2.1 _ _ (gk _) n.out
def pL(D:Nat->Nat)(i:Nat):List Nat:=(ċ 8).map λt=>if t<i then D t else 0
theorem Hm(D:Nat->Nat)(i:Nat):(pL D i).length=8:=by simp[pL]
theorem Z4(D:Nat->Nat)(i t:Nat)(h:t<8):(pL D i)[t]?=Ã (if t<i then D t else 0):=by simp[pL,û h]
theorem al3(D:Nat->Nat)(i:Nat)(h:i<8):(pL D i).set i (D i)=pL D (i+1):=by refine þ λt=> ?_;grind [Z4,Hm,ĕ]
def Z5(b:∀i,D i<18446744073709551616):rF (pL D 8):=KY Z λx a=>by
 unfold pL at a;obtain⟨t,_,rfl⟩:=ņ.1 a;split
 .exact b _
 .omega
def al4(D:Nat->Nat):j5 (pL D 0)=zB:=by rfl
def DI(i b:Nat)(D:Nat->Nat)(d:É)(a:é)(w:É):Prop:=
 ∃c:Nat,D3 i b c a/\c<=8/\eZ (λk=>k=b) d w/\fc b (j5<|pL D c) 116 w
def DE(i b:Nat)(D:Nat->Nat)(c:É)(a:é)(w:É):Prop:=
 D3 i b 8 a/\eZ (λk=>k=b) c w/\fc b (j5<|pL D 8) 116 w
def K5(a:é)(_:É):Nat:=match a.tmps.getD 5 ā with
 |Â _ i=>8-i.toNat
 |_=>0
def Z6(c:D3 i b n y):K5 y w=8-n:=by obtain⟨u,rfl⟩:=c;show 8-(n:Int).toNat=_;simp
def al5(C:∀c,c<8->∀W,eZ (λk=>k=b) u W->Ò À 161 #[Å<|Ã ⟨i,c*18,Ä⟩] W λe f=>e=Ç (Â Æ<|D c)/\eZ e9 W f)(a:é)(w:É)(m:DI i b D u a w): Î À K4 (Exit.then (λd f=>DI i b D u d f/\K5 d f<K5 a w)<|QQ<|DE i b D u) a w:=by
 let⟨c,j,o,g,h⟩:=m;rw[Z6 j];obtain⟨d,rfl⟩:=j;by_cases n:c=8
 .subst n;exact al1 d λa q=>⟨q,g,h⟩
 .refine al2 c (D c) Z (C c Z w g) _ _ (Hi _ _ _<|by rw[Z4 D c c Z,if_neg Z]) h d λa p q l=>⟨⟨c+1,q,Z,(g.e8<|l.S λ_ _=>ę).e8 (eZ.I (X:=λk=>k=b) U _),?_⟩,by rw[Z6 q];omega⟩;rw[<-al3 D c Z,R4];exact(h.I l id).fW c<|Â Æ<|D c
end
def K6(D:Nat->Nat):Nat:=rG 3<|pL D 8
def al6(h:∀b,D b<18446744073709551616)(C:∀b,b<8->∀W,eZ (λk=>k=w.heap.size) (w.alloc<|Ð zB.toArray 116) W->Ò À 161 #[Å<|Ã ⟨i,b*18,Ä⟩] W λe c=>e=Ç (Â Æ<|D b)/\eZ e9 W c): Ò À 122 #[Å<|Ã ⟨i,0,Ä⟩] w λe c=>e=Ç (Â Æ<|K6 D)/\eZ e9 w c:=by
 have L:∀a,D3 i w.heap.size (0:Nat) a->Î À (à K4) (QQ<|DE i w.heap.size D<|w.alloc<|Ð zB.toArray 116) a (w.alloc<|Ð zB.toArray 116):=λa j=>
  Ĉ (DI i w.heap.size D<|w.alloc<|Ð zB.toArray 116) K5 ⟨0,j,â _,eZ.fO _ _,by rw[al4];exact fc.N w zB 116⟩<|al5 C
 have T:∀W,fc w.heap.size (j5<|pL D 8) 116 W->Ò À 162 #[Ê (Ã ⟨w.heap.size,0,Ä⟩) 8 8] W λe c=>e=Ç (Â Æ<|rG 3<|pL D 8)/\eZ (λb=>b=w.heap.size) W c:=λW l=>by have t:=ZR (cp:=8) (k:=3) (by rw[Hm]) (by rw[Hm];omega) (by rw[Hm];omega) (Z5 h) (by rwa[ò]);rwa[Hm]at t
 unfold K6;have H:=e7<|Á L T;generalize rG 3 (pL D 8)=t at*;go_enter Tryz.func122,Tryz.ntmps122;go_wp2_with fail;refine Ý (Q:=QQ<|DE i w.heap.size D<|w.alloc<|Ð zB.toArray 116) ?_ (H.out.1 _ (gk _));rintro(_|(_|_)|_|_|_|_) a v hq;all_goals first|exact absurd hq id|skip
 let⟨m,n,o⟩:=hq;have p:=(eZ.gB e9 w zB.toArray 116).C n λb r q=>by omega
 obtain⟨u,rfl⟩:=m;unfold D2;have d:=e7<|Á p o;go_wp2_with (go_at_call 162;refine(H.out.2 _ d.out.2).mono ?_;rintro e x ⟨rfl,f⟩;have g:=d.out.1.C f (λb r q=>by omega);have s:=e7 g;clear f g);go_ret;exact⟨U,s.out⟩
def Hn(a:GX):List Nat:=(ċ 16).map λj=>(a.C j).toNat
def Z7(a:GX):Nat:=BH a.fp.toNat a.r<|Hn a
def D4(s:St):Nat:=K6 λi=>Z7<|s i
theorem al7(l:List UInt8):∀n,n<18446744073709551616->yU n l<18446744073709551616:=by
 induction l with
 |nil=>exact λn h=>h
 |cons c r h=>exact λn _=>h _<|KU _ _
theorem Z8(B:Nat)(P:ByteArray)(a:List Nat):BH B P a<18446744073709551616:=by unfold BH;grind [al7,DW,K1]
def R6(s:St)(h:i<144):(ic s)[i]?=Ã (pF s i):=by simp[ic,û h]
def lO.al8{s:St}(m:lO n s h W)(a:gC s)(i:Nat)(f:i<8): Ò À 161 #[Å<|Ã ⟨n,i*18,Ä⟩] W λe b=>e=Ç (Â Æ<|Z7<|s i)/\eZ e9 W b:=by
 have g:=λj d=>by have:=m.C j _<|R6 s d;simpa using this
 have b:=a.fp i;have k:=g (i*18) Z;have l:=g (i*18+1) Z;rw[<-qp s (Ê Ä 0 0) Z,GZ _ _ f]at k;rw[<-qp s (Ê Ä 0 0) Z,KC _ _ f]at l;refine al0 (by have e:=b.1;have c:=b.2;omega) (by have:=(a.I i).1;omega) (by simp[Hn]) ?_ ?_ l ?_
 .refine KY Z λx e=> ?_;unfold Hn at e;obtain⟨t,_,rfl⟩:=ņ.1 e;have c:=(a.C i t).2;omega
 .rw[k];unfold pE;rw[Ĕ b.1]
 .intro j x e;have d:j<16:=by have:=(Ü.1 e).1;simpa[Hn]using this
  have c:=g (i*18+2+j) Z;rw[<-qp s (Ê Ä 0 0) Z,KD _ _ f d]at c;have t:((s i).C j).toNat=x:=by simpa[Hn,û d]using e
  rw[c,<-t];unfold pE;rw[Ĕ (a.C i j).1]
def al9{s:St}(b:lO i s h w)(c:gC s): Ò À 122 #[Å<|Ã ⟨i,0,Ä⟩] w λe d=>e=Ç (Â Æ<|D4 s)/\eZ e9 w d:=al6 (λa=>Z8 _ _ _) λa f W k=>((b.r (eZ.gB e9 w _ _) id).r k<|by show i≠w.heap.size;exact Nat.ne_of_lt<|á w _ b.h).al8 c a f
def jP(i:Nat):St:=λj=>⟨if j<i then 1000 else 0,⟨#[]⟩,λ_=>0⟩
theorem ama(i:Nat):jP (i+1)=(jP i).fp i 1000:=by funext j;unfold jP St.fp St.fW;grind
theorem amb(s:St)(a:i<8)(x:Int):(ic s).set (i*18) (Â Æ x)=ic (s.fp i x):=by have h:=YT s (Ê Ä 0 0) a x;rw[yS,yS,Ğ _ _ (by rw[rE];omega)]at h;exact List.append_cancel_right h
def amc(s:St)(a:i<8):(ic s)[i*18]?=Ã (Â Æ (s i).fp):=by rw[R6 s Z,<-qp s (Ê Ä 0 0) Z,GZ _ _ a];rfl
noncomputable def K7:ŏ:=(Tryz.f60.body.bind ko).getD Ķ
def D5(r b:Nat)(i:Int)(u:Nat->È):é:=⟨#[Å<|Ã ⟨r,0,Ä⟩,Å<|Ã ⟨b,0,Ä⟩,u 2,Â Ë i,u 4,u 5,u 6,u 7,u 8,u 9,u 10],[]⟩
def D6(r b:Nat)(i:Int)(a:é):Prop:=∃u,a=D5 r b i u
section
variable{X:é->É->Prop}
def amd(u:Nat->È)(c:∀a,D6 i b 8 a->X a w): Î À K7 (Exit.then K<|QQ X) (D5 i b 8 u) w:=by
 unfold D5;conv=>arg 2;whnf
 go_wp2_with fail
 exact c _ (gk _)
def ame(c:Nat)(g:c<8)(e:È)(h:w.cell? ⟨b,c*18,Ä⟩=Ã e)(j:w.frozen? ⟨b,c*18,Ä⟩=Ï)(u:Nat->È) (d:∀a,D6 i b ((c+1:Nat):Int) a->K a (w.setCell ⟨b,c*18,Ä⟩<|Â Æ 1000)): Î À K7 (Exit.then K<|QQ X) (D5 i b c u) w:=by
 unfold D5;conv=>arg 2;whnf
 have f:=e7 d;clear d;go_wp2_with fail;exact f.out _ (gk _)
def R7(i b:Nat)(d:É)(a:é)(w:É):Prop:=∃c:Nat,D6 i b c a/\c<=8/\eZ (λk=>k=b) d w/\fc b (ic<|jP c) 140 w
def Z9(i b:Nat)(c:É)(a:é)(w:É):Prop:=D6 i b 8 a/\eZ (λk=>k=b) c w/\fc b (ic<|jP 8) 140 w
def K8(a:é)(_:É):Nat:=match a.tmps.getD 3 ā with
 |Â _ i=>8-i.toNat
 |_=>0
def a_(c:D6 i b n y):K8 y w=8-n:=by obtain⟨u,rfl⟩:=c;show 8-(n:Int).toNat=_;simp
theorem amf(a:é)(w:É)(h:R7 i b u a w): Î À K7 (Exit.then (λc d=>R7 i b u c d/\K8 c d<K8 a w)<|QQ<|Z9 i b u) a w:=by
 let⟨c,f,l,g,e⟩:=h;rw[a_ f];obtain⟨d,rfl⟩:=f;by_cases j:c=8
 .subst j;exact amd d λa q=>⟨q,g,e⟩
 .refine ame c Z _ (e.r _ _<|amc _ Z) (e.C _) d λa q=>⟨⟨c+1,q,Z,g.e8 (eZ.I (X:=λk=>k=b) U _),?_⟩,by rw[a_ q];omega⟩;have k:=e.fW (c*18)<|Â Æ 1000;grind [amb,ama]
end
def amg:(À.info? 140).map (λi=>(i.size,i.zero.map λz=>z.cells.toList))=Ã (144,Ã<|ic<|jP 0):=fj
def amh(s:St):∀v∈ic s,v.oneCell'=Ú:=λv a=>RE s (lv:=Ê Ä 0 0) U v<|by rw[yS];exact œ _ a
def ami(w:É):Ò À 60 #[] w λe l=>e=Ç (Ē (ic<|jP 8).toArray)/\eZ e9 w l:=by
 let⟨m,n,o⟩:=Ì.1 RZ;let⟨O,h,c⟩:=Ì.1 amg;simp only[Prod.mk.injEq]at c;let⟨p,r⟩:=c;let⟨t,x,y⟩:=Ì.1 r;have z:t.cells=(ic<|jP 0).toArray:=by rw[<-y]
 have B:∀s,(À.info? 140).map (·.size)=Ã (ic s).length:=λs=>by rw[h,rE];simp[p]
 have L:∀W a,fc (w.heap.size+1) (ic<|jP 0) 140 W->D6 w.heap.size (w.heap.size+1) (0:Nat) a->Î À (à K7) (QQ<|Z9 w.heap.size (w.heap.size+1) W) a W:=λW a f C=>
  Ĉ (R7 w.heap.size (w.heap.size+1) W) K8 ⟨0,C,â _,eZ.fO _ _,f⟩ amf
 have j:=eZ.gB e9 (w.alloc<|Ð (ic<|jP 0).toArray 140) (ic<|jP 0).toArray 140;have D:=(fc.N w (ic<|jP 0) 140).I j id;have E:fc (w.heap.size+1) (ic<|jP 0) 140 ((w.alloc<|Ð (ic<|jP 0).toArray 140).alloc<|Ð (ic<|jP 0).toArray 140):=by have:=fc.N (w.alloc<|Ð (ic<|jP 0).toArray 140) (ic<|jP 0) 140;simpa using this
 have b:=e7<|Á n<|Á o<|Á h<|Á x<|Á z B;have H:=e7<|Á L<|Á ((eZ.gB e9 w (ic<|jP 0).toArray 140).e8 j)<|Á D E;go_enter Tryz.func60,Tryz.ntmps60;go_wp2_with (first
  |(with_reducible refine Ć U (Ã 0) U _ _ (Ry U b.out.2.2.1 b.out.2.2.2.1) ?_;rw[b.out.2.2.2.2.1])
  |(with_reducible refine Ć U (Ã 1) U _ _ (Ry U b.out.2.2.1 b.out.2.2.2.1) ?_;rw[b.out.2.2.2.2.1]))
 refine Ý ?_ (H.out.1 _ _ H.out.2.2.2 (gk _));rintro(_|(_|_)|_|_|_|_) a v c;all_goals first|exact absurd c id|skip
 let⟨F,k,f⟩:=c;have g:=H.out.2.2.1.I k Z;obtain⟨u,rfl⟩:=F;unfold D5;have G:=fc.Y (by rw[ò];exact f);have I:v.there w.heap.size 0 (ic<|jP 8).toArray.size:=g.Rz (by simp[rE]);have J:=KN (ic<|jP 8) [] [] v (ic<|jP 0) (by rw[rE,rE]) (by simpa using g);have K:=(H.out.2.1.C k λi M q=>by omega).C (G6 (ic<|jP 8) 0 v g.G) λi M q=>by omega
 have d:=e7<|Á K<|Á J<|Á G I;go_wp2_with (first
  |(with_reducible refine ĥ U 140 _ U (w.heap.size+1) 0 U (ic<|jP 8) m d.out.2.2.1 b.out.1 b.out.2.1 (b.out.2.2.2.2.2 _) ?_)
  |(with_reducible refine ľ U 140 _ _ U w.heap.size 0 (ic (jP 8)).toArray U U d.out.2.2.2 (by rw[b.out.2.2.2.2.2 (jP 8)];simp) (Ī (amh _)) ?_))
 have N:fc w.heap.size (ic (jP 8)++[]) 140 (v.setCells w.heap.size 0<|ic<|jP 8):=by simpa using d.out.2.1
 refine ð (RF U U (fc.Y N) b.out.1 b.out.2.1<|b.out.2.2.2.2.2 _) U<|⟨U,d.out.1⟩
structure fJ where
 s:St
 r:List (Nat×Int)
 C:List (Int×Bool)
 h:Int
def yV(a:ă)(k:Nat)(d:List È)(w:É):Prop:=
 ∃p c,w.cell? a=Ã (Ê p k c)/\∀(j:Nat) (x:È),d[j]?=Ã x->∃b o,p=Ã ⟨b,o,Ä⟩/\w.cell? ⟨b,o+j,Ä⟩=Ã x
def yV.r(h:yV a k l w)(q:eZ e9 w u):yV a k l u:=by let⟨p,c,d,e⟩:=h;exact⟨p,c,q.r d id,λj x f=>by let⟨b,o,g,i⟩:=e j x f;exact⟨b,o,g,q.r i id⟩⟩
structure rH(b:Nat)(v:fJ)(w:É):Prop where
 r:lO b v.s v.h w
 C:gC v.s
 I:0<=v.h
 M:v.h<=40
 N:yV ⟨b,144,Ä⟩ v.r.length (jZ v.r) w
 S:yV ⟨b,146,Ä⟩ v.C.length (tT v.C) w
def rH.Y{v:fJ}(h:rH b v w)(q:eZ e9 w u):rH b v u:= ⟨h.r.r q id,h.C,h.I,h.M,h.N.r q,h.S.r q⟩
structure pM(bp:Option ă)(n:Nat)(vs:List (Nat×fJ))(w:É):Prop where
 r:n=vs.length
 C:∀(j b:Nat) (v:fJ),vs[j]?=Ã (b,v)->∃sb so,bp=Ã ⟨sb,so,Ä⟩/\w.cell? ⟨sb,so+j,Ä⟩=Ã (Å<|Ã ⟨b,0,Ä⟩)/\rH b v w
def pM.I{a:List (Nat×fJ)}(h:pM O n a w)(q:eZ e9 w u):pM O n a u:= ⟨h.r,λj b v e=>by let⟨c,d,f,g,i⟩:=h.C j b v e;exact⟨c,d,f,q.r g id,i.Y q⟩⟩
def yW(a b:Nat×fJ):Nat×fJ:=if a.2.h<b.2.h then b else a
def tW(d:Nat×fJ)(a:List (Nat×fJ)):Nat×fJ:=a.foldl yW d
noncomputable def K9:ŏ:=(Tryz.f153.body.bind ko).getD Ķ
def D7(a:Option ă)(n b:Nat)(c:Nat)(i:Int)(u:Nat->È):é:=⟨#[Ê a n b,ā,Å Ä,Å<|Ã ⟨c,0,Ä⟩,u 4,u 5,u 6,u 7,u 8,Ê a n b,Â Ë n,Â Ë i,u 12,u 13,u 14,u 15,u 16,u 17,u 18,u 19,u 20,u 21,u 22,u 23,u 24,u 25,u 26],[]⟩
def Ho(b:Option ă)(n c:Nat)(d:Nat)(i:Int)(a:é):Prop:=∃u,a=D7 b n c d i u
section
variable{X:é->É->Prop}{bp:Option ă}{cp:Nat}
def amj(u:Nat->È)(b:Int)(c:b=n)(d:∀a,Ho bp n cp i b a->X a w): Î À K9 (Exit.then K<|QQ X) (D7 bp n cp i b u) w:=by
 unfold D7;conv=>arg 2;whnf
 subst c;go_wp2_with fail;exact d _ (gk _)
def amk(u:Nat->È)(c:Int)(j:Nat)(o:c=j)(q:j<n)(r:n<=1000)(h k b:Nat)(p:bp=Ã ⟨h,k,Ä⟩)(s:w.cell? ⟨h,k+j,Ä⟩=Ã (Å<|Ã ⟨b,0,Ä⟩))(e f:Int)(t:w.cell? ⟨b,145,Ä⟩=Ã (Â Ë e))(v:w.cell? ⟨i,145,Ä⟩=Ã (Â Ë f)) (d:∀a m,Ho bp n cp (if f<e then b else i) (c+1) a->K a (w.drewN m)): Î À K9 (Exit.then K<|QQ X) (D7 bp n cp i c u) w:=by
 unfold D7;conv=>arg 2;whnf
 subst o p;by_cases l:f<e
 .rw[if_pos l]at d;have g:=e7 d;clear d;go_wp2_with fail;go_quiet (fail);go_wp2_with fail;exact g.out _ _ (gk _)
 .rw[if_neg l]at d;have g:=e7 d;clear d;go_wp2_with fail;go_quiet (fail);go_wp2_with fail;exact g.out _ _ (gk _)
def HI(bp:Option ă)(n cp:Nat)(vs:List (Nat×fJ))(b:É)(c:Nat×fJ)(a:é)(w:É):Prop:=
 ∃(j:Nat) (d:Nat×fJ),Ho bp n cp d.1 j a/\j<=n/\eZ e9 b w/\rH d.1 d.2 b/\tW d (vs.drop j)=c
def HE(bp:Option ă)(n cp:Nat)(b:É)(c:Nat×fJ)(a:é)(w:É):Prop:=Ho bp n cp c.1 n a/\eZ e9 b w
def R8(n:Nat)(a:é)(_:É):Nat:=match a.tmps.getD 11 ā with
 |Â _ i=>n-i.toNat
 |_=>0
theorem aml{f:List (Nat×fJ)}{i:Nat×fJ}(k:pM bp n f W)(t:n<=1000)(a:é)(w:É)(x:HI bp n cp f W i a w): Î À K9 (Exit.then (λl b=>HI bp n cp f W i l b/\R8 n l b<R8 n a w)<|QQ<|HE bp n cp W i) a w:=by
 let⟨j,d,y,H,c,z,g⟩:=x;obtain⟨u,rfl⟩:=y;by_cases o:j=n
 .rw[(Ę<|by rw[<-k.r];omega)]at g;subst g;refine amj u j (by rw[o]) λa b=>⟨?_,c⟩;rwa[o]at b
 .have r:j<n:=Z
  obtain⟨⟨b,v⟩,s⟩:∃p,f[j]?=Ã p:=⟨_,Ô<|by rwa[<-k.r]⟩;let⟨B,C,D,E,F⟩:=k.C j b v s;let⟨G,e⟩:=Ü.1 s;rw[ē G,e]at g;refine amk u j j U r t B C b D (c.r E id) v.h d.2.h (c.r F.r.h id) (c.r z.r.h id) λl m q=> ?_;have I:yW d (b,v)=(if d.2.h<v.h then b else d.1,if d.2.h<v.h then v else d.2):=by unfold yW;split<;>rfl
  refine⟨⟨j+1,yW d (b,v),?_,Z,c.e8<|eZ.iH _ _ _,?_,g⟩,?_⟩
  .grind
  .grind
  .obtain⟨v,rfl⟩:=q;show n-((j:Int)+1).toNat<n-((j:Int)).toNat;omega
def amm{b:List (Nat×fJ)}{d:Nat×fJ}(c:pM bp n b w)(g:n<=1000)(f:b[0]?=Ã d): Ò À 153 #[Ê bp n cp] w λe a=>e=Ç (Å<|Ã ⟨(tW d b).1,0,Ä⟩)/\eZ e9 w a:=by
 let⟨l,m,e,h,i⟩:=c.C 0 d.1 d.2 f;have o:0<n:=by rw[c.r];exact(Ü.1 f).1
 have L:∀a,Ho bp n cp d.1 0 a->Î À (à K9) (QQ<|HE bp n cp w<|tW d b) a w:=λa j=>
  Ĉ (HI bp n cp b w<|tW d b) (R8 n) ⟨0,d,j,â _,eZ.fO _ _,i,U⟩<|aml c g
 subst e;generalize tW d b=r at*;simp only[Nat.add_zero]at h;go_enter Tryz.func153,Tryz.ntmps153;go_wp2_with fail;refine Ý ?_ ((e7 L).out _ (gk _));rintro(_|(_|_)|_|_|_|_) a v hq;all_goals first|exact absurd hq id|skip
 let⟨k,p⟩:=hq;obtain⟨u,rfl⟩:=k;unfold D7;go_wp2_with fail;go_ret;simp_all
end
def nS(a:List (Nat×fJ))(b:Int):Option (Nat×fJ):=
 if b=-1 then(a[0]?).map λd=>tW d a else a[b.toNat]?
def jH(b:Option Nat):È:=Å<|b.map λb=>⟨b,0,Ä⟩
section
variable{cp:Nat}{a:List (Nat×fJ)}
def La(f:pM O n a w)(i:n<=1000)(j:0<n)(c:Int)(m:-1<=c): Ò À 113 #[Ê O n cp,Â Ë c] w λe b=>e=Ç (jH ((nS a c).map (·.1)))/\eZ e9 w b:=by
 by_cases h:c=-1
 .subst h;obtain⟨d,b⟩:∃d,a[0]?=Ã d:=⟨_,Ô<|by rwa[<-f.r]⟩;have e:nS a (-1)=Ã (tW d a):=by unfold nS;rw[if_pos U,b];rfl
  rw[e];go_enter Ż,Ŧ;go_wp2_with (go_at_call 153;refine(e7<|amm (cp:=cp) f i b).out.mono ?_;rintro e k ⟨rfl,g⟩);go_ret;exact⟨U,g⟩
 .obtain⟨k,rfl⟩:∃k:Nat,c=k:=⟨c.toNat,Z⟩;have e:nS a (k:Int)=a[k]?:=by unfold nS;rw[if_neg h,Ŷ]
  rw[e];by_cases g:k<n
  .obtain⟨⟨b,v⟩,d⟩:∃p,a[k]?=Ã p:=⟨_,Ô<|by rwa[<-f.r]⟩;let⟨o,q,l,r,s⟩:=f.C k b v d;rw[d];subst l;go_enter Ż,Ŧ;go_wp2_with fail;go_ret;exact⟨U,eZ.fO _ _⟩
  .rw[(List.getElem?_eq_none<|by rw[<-f.r];omega)];go_enter Ż,Ŧ;go_wp2_with fail;go_ret;exact⟨U,eZ.fO _ _⟩
end
theorem b_(a:List (Nat×fJ)):∀(l:List (Nat×fJ)) (d:Nat×fJ),d∈a->(∀x∈l,x∈a)->tW d l∈a
 |[],d,hd,_=>hd
 |x::l,d,hd,hl=>by
  show tW (yW d x) l∈a;refine b_ a l _ ?_ λy b=>hl y<|Ś _ b;unfold yW;split
  .exact hl x List.mem_cons_self
  .exact hd
theorem Hp{a:List (Nat×fJ)}{p:Nat×fJ}(h:nS a c=Ã p):p∈a:=by unfold nS at h;grind [Ì,b_,List.mem_of_getElem]
def pM.M{a:List (Nat×fJ)}(h:pM O n a w){p:Nat×fJ}(b:p∈a):rH p.1 p.2 w:=by let⟨j,c⟩:=List.getElem?_of_mem b;let⟨_,_,_,_,d⟩:=h.C j p.1 p.2 c;exact d
theorem c_(c:w.cell? ⟨b,i,Ä⟩=Ã v)(h:w.ownsRow 0 e j v n l):yV ⟨b,i,Ä⟩ n l w:=by
 rcases h.2 with⟨rfl,rfl⟩|⟨g,f,k,rfl,_,m,_,_,_,o⟩
 .have d:=ß (by simpa using h.1);subst d;exact⟨Ä,0,c,λa x q=>by simp at q⟩
 .refine⟨_,_,c,λa x q=>⟨g,0,U,?_⟩⟩;have:=h.cells U a x q;grind [Addr.add_mid]
def NX.amn{s:St}{b:List (Nat×Int)}{c:List (Int×Bool)}(x:NX i h v z s b c u w)(d:gC s)(e:0<=h)(f:h<=40):rH i ⟨s,b,c,h⟩ w:=by have a:fc i (iY s v++[Â Ë h,z]) 147 w:=x.r;refine⟨⟨?_,a.r 145 _<|by rw[ü (by rw[ma];omega),ma];rfl⟩,d,e,f,c_ x.r.Bt x.C,c_ x.G x.I⟩;rw[yS,Ċ]at a;exact a.Y
def amo:(À.info? 136).map (λi=>(i.zero,i.size,i.bytes))=Ã (Ã<|Å Ä,1,8):=fj
def amq{p:Array ş}{r:List ş}(C:o.guard=Ä)(s x:Ů)(t:õ) (D:o.op=aD {callee:=.builtin .append,args:=#[s,x],argTypes:=#[t,t]}) (E:P.underlying t=Ã (bl e)) (F:P.info? e=Ã zJ) (G:zJ.zero=Ã z) (B:zJ.size=1) (H:zJ.bytes=8) (g k n:Nat) (b:List È) (I:b.length=n) (J:∀j v,b[j]?=Ã v->w.cell? ((⟨g,k,Ä⟩:ă).add j)=Ã v) (L:y.eval s=Ê (Ã ⟨g,k,Ä⟩) n n) (l:Nat) (v:È) (M:y.eval x=Ê (Ã ⟨l,0,Ä⟩) 1 1) (N:∀j u,[v][j]?=Ã u->w.cell? ((⟨l,0,Ä⟩:ă).add j)=Ã u) (X:n<=1000) (O:lI e=Ï) (h:∀c f,n+1<=c->eZ e9 w f->(∃m:Array È,f.heap[w.heap.size]?=Ã (Ð m e (0,0))/\0<m.size/\∀u∈m.toList,u∈b\/u=v\/u∈z.cells.toList)->(∀j u,(b++[v])[j]?=Ã u->f.cell? ⟨w.heap.size,0+j,Ä⟩=Ã u)->aQ P p vJ r (y.put o.dst<|Ê (Ã ⟨w.heap.size,0,Ä⟩) (n+1) c) f):aQ P p vJ (o::r) y w:=by refine ű C λK S=> ?_;have T:=Λ w t o.type e zJ z E F G ⟨g,k,Ä⟩ n n b (by rw[I,B];omega) J ⟨l,0,Ä⟩ 1 1 [v] (by rw[B];rfl) N Z Z (ŕ Z<|by rw[H];omega);unfold Ń Ĥ;simp only[D,ae,aO,af,Ų,ų,Ĵ,ļ,Ť,Ŵ,L,M,T];refine S _ _ (h _ _ (Θ w (n+1) n e) ((eZ.fM _ _).e8<|eZ.gB _ _ _ _<|Ø O) ⟨_,ì w.drew _,by simp;omega,λu d=>by simp only[Š,ú]at d;rcases d with(q|q)|q;exact Ø q;exact Ù (Ø<|by simpa using q);exact Ù<|Ù<|Rc q⟩ λj u d=> ?_);have V:(w.drew.alloc<|Ð (b.toArray++[v].toArray++ö z.cells (Œ w (n+1) n e-(n+1))) e).heap[w.heap.size]?=_:=ì w.drew _;simp only[Η,V,ũ,ĭ,if_false,ł];have W:=(Ü.1 d).1;rw[Array.getElem?_append_left (by simpa using W)];simpa using d
def sF(v:È)(T:õ)(w:É):Prop:=v=Ê Ä 0 0\/∃g n c a,v=Ê (Ã ⟨g,0,Ä⟩) n c/\w.heap[g]?=Ã (Ð a T (0,0))
def sF.I(h:w.ownsRow 0 T i v n l):sF v T w:=by
 rcases h.2 with⟨q,_⟩|⟨g,a,b,c,_,d,_⟩
 .exact Ø q
 .exact Ù ⟨g,_,a,b,c,d⟩
def sF.C(h:sF v T w)(k:eZ e9 w u):sF v T u:=by
 rcases h with q|⟨g,n,c,b,d,a⟩
 .exact Ø q
 .refine Ù ⟨g,n,c,b,d,?_⟩;rwa[k.N g (Array.getElem?_eq_some_iff.1 a).1 id]
def rI(a:List (Nat×fJ)):List È:=a.map λp=>Å<|Ã ⟨p.1,0,Ä⟩
structure R9(vs:List (Nat×fJ))(B:Nat)(w w':É)(g:Nat):Prop where
 C:w.heap.size<=g
 r:∃cur:Array È,w'.heap[g]?=Ã (Ð cur 136 (0,0))/\0<cur.size/\∀u∈cur.toList,u∈rI vs\/u=Å (Ã ⟨B,0,Ä⟩)\/u=Å Ä
structure Sb(B:Nat)(s:St)(h:Int)(w w':É):Prop where
 C:w.heap.size<=B
 r:∃lv uv,fc B (iY s lv++[Â Ë h,uv]) 147 w'/\sF lv 257 w'/\sF uv 246 w'/\(∀j,lv.ownBlock=Ã j->w.heap.size<=j)/\∀j,uv.ownBlock=Ã j->w.heap.size<=j
section
variable{bp:Option ă}{cp:Nat}{vs:List (Nat×fJ)}
def amr(a b:Nat)(d:n<=1000)(f:n<=cp):Ò À 155 #[Ê (Ã ⟨a,b,Ä⟩) n cp] w λe c=>e=Ç (Ê (Ã ⟨a,b,Ä⟩) n n)/\c=w:=by go_enter Tryz.func155,Tryz.ntmps155;go_wp2;go_ret;exact⟨U,U⟩
def ams(b:pM bp n vs w)(h:n<=1000)(l:0<n)(m:n<=cp)(B:Nat): Ò À 116 #[Ê bp n cp,Å<|Ã ⟨B,0,Ä⟩] w λe a=>∃g c,e=Ç (Ê (Ã ⟨g,0,Ä⟩) (n+1) c)/\n+1<=c/\eZ e9 w a/\R9 vs B w a g/\∀j u,(rI vs++[Å<|Ã ⟨B,0,Ä⟩])[j]?=Ã u->a.cell? ⟨g,0+j,Ä⟩=Ã u:=by
 let⟨G,r,s,t,x⟩:=í amo;obtain⟨d,y⟩:∃d,vs[0]?=Ã d:=⟨_,Ô<|by rwa[<-b.r]⟩;let⟨g,f,i,_,_⟩:=b.C 0 d.1 d.2 y;have z:∀(o:Obj) (j:Nat) (v:È),(rI vs)[j]?=Ã v->(w.alloc o).cell? ((⟨g,f,Ä⟩:ă).add j)=Ã v:=λo j v q=>by unfold rI at q;rw[ķ]at q;obtain⟨p,C,rfl⟩:=Ì.1 q;let⟨D,E,H,k,_⟩:=b.C j p.1 p.2 C;rw[i]at H;cases H;rwa[Addr.add_mid,World.cell?_alloc_lt _ _ _<|á w _ k]
 have H:=e7 (Á z<|Á r<|Á s<|Á t<|Á x<|show(rI vs).length=n by unfold rI;rw[Ο];exact b.r.symm);subst i;go_enter Tryz.func116,Tryz.ntmps116;go_wp2_with (first
  |(go_at_call 155;refine(amr g f h m).mono ?_;rintro e a ⟨rfl,k⟩;subst a)
  |(at_builtin;refine amq U _ _ 65 U Tryz.underlying65 H.out.2.1 H.out.2.2.1 H.out.2.2.2.1 H.out.2.2.2.2.1 g f n (rI vs) H.out.2.2.2.2.2 (H.out.1 _) U w.heap.size (Å (Ã ⟨B,0,Ä⟩)) U (ÿ _ _ _) h A ?_;intro c C a e k p))
 go_ret;refine⟨_,_,U,a,(eZ.gB _ _ _ _).e8 e,⟨fg,by let⟨c,C,D,E⟩:=k;exact⟨c,by simpa using C,D,λu F=>(E u F).elim Ø λq=>q.elim (λq=>Ù<|Ø q) λq=>Ù<|Ù<|by simpa[ğ]using q⟩⟩,λj u q=>by have:=p j u q;simpa using this⟩
end
structure BJ(r:Nat)(v:Int)(x:Nat)(bp:Option ă)(n cp:Nat)(w:É):Prop where
 M:w.cell? ⟨r,0,Ä⟩=Ã (Â Ë x)
 N:w.cell? ⟨r,5,Ä⟩=Ã (Â Ë v)
 I:w.cell? ⟨r,8,Ä⟩=Ã (Ê bp n cp)
def BJ.C{r:Nat}(h:BJ r c i O n j w)(k:eZ e9 w u):BJ r c i O n j u:=⟨k.r h.M id,k.r h.N id,k.r h.I id⟩
def tX(a:List (Nat×fJ))(v:Int)(x:Nat)(b:List Tx):Option fJ×ByteArray:=
 match nS a v with
 |none=>(Ä,oF 3)
 |some p=>if a.length=40 then(Ä,oF 4)else match xf x p.2.s b with
  |none=>(Ä,oF 5)
  |some r=>(Ã ⟨r.1,r.2.1,r.2.2,p.2.h+1⟩,pK a.length)
def Lb(c:È)(d:List (Nat×fJ))(w:É):Prop:=∃a n b,c=Ê a n b/\n<=b/\pM a n d w
def Sc(f:List (Nat×fJ))(i:È)(w:É)(o:Option fJ×ByteArray)(e:av)(a:É):Prop:=
 eZ e9 w a/\((o.1=Ä/\e=Ç (æ #[i,Í o.2]))\/∃v b d,o.1=Ã v/\e=Ç (æ #[d,Í o.2])/\Lb d (f++[(b,v)]) a/\Sb b v.s v.h w a/\∃g n c,d=Ê (Ã ⟨g,0,Ä⟩) n c/\R9 f b w a g)
def amt{c:List (Nat×fJ)}{v:fJ}(e:pM O n c w)(f:rH j v w)(h:∀a u,(rI c++[Å<|Ã ⟨j,0,Ä⟩])[a]?=Ã u->w.cell? ⟨i,0+a,Ä⟩=Ã u):pM (Ã ⟨i,0,Ä⟩) (n+1) (c++[(j,v)]) w:=by
 refine⟨by rw[e.r];simp,λa b u q=>⟨i,0,U,?_,?_⟩⟩
 .apply h a _;have:rI c++[Å<|Ã ⟨j,0,Ä⟩]=rI (c++[(j,v)]):=by simp[rI]
  rw[this];unfold rI;rw[ķ,q];rfl
 .rcases ů a c.length with d|d
  .rw[ç d]at q;let⟨_,_,_,_,k⟩:=e.C a b u q;exact k
  .rw[ü d]at q;have k:a-c.length=0:=by
    have:=(Ü.1 q).1;simp at this;omega
   rw[k]at q;cases q;exact f
def amu{e:av}(a:DN h W Ä e u)(k:eZ e9 w W):e=Ç (Å Ä)/\eZ e9 w u:=by
 rcases a with⟨_,b,c⟩|⟨_,_,_,_,_,_,q,_⟩
 .exact⟨b,k.e8 c⟩
 .cases q
def amv{e:av}{s:St}{a:List (Nat×Int)}{b:List (Int×Bool)}(c:DN h W (Ã (s,a,b)) e u)(l:0<=h)(m:h<40)(k:eZ e9 w W):∃B,e=Ç (Å<|Ã ⟨B,0,Ä⟩)/\eZ e9 w u/\rH B ⟨s,a,b,h+1⟩ u/\Sb B s (h+1) w u:=by
 rcases c with⟨q,_⟩|⟨n,o,p,B,d,f,q,g,x,i⟩
 .cases q
 .cases q;exact⟨B,g,k.e8 x.M,x.amn i Z Z,ë k.M x.N,d,f,x.r,sF.I x.C,sF.I x.I,λj q=>ë k.M<|x.S j q,λj q=>ë k.M<|x.Y j q⟩
section
variable{bp:Option ă}{cp r x:Nat}{v:Int}{vs:List (Nat×fJ)}{f:List (Nat×Tx)}
def amw{p:Nat×fJ}(F:Ò À 113 #[Ê bp n cp,Â Ë v] w λe a=>e=Ç (jH<|Ã p.1)/\eZ e9 w a)(f:BJ r v x O b i w)(m:((n:Int)==40)=Ï)(N:∀W,eZ e9 w W->Ò À 115 #[Å<|Ã ⟨p.1,0,Ä⟩,Â Ë x,Ê O b i] W (DN p.2.h W Ä)): Ò À 66 #[Ê bp n cp,Å<|Ã ⟨r,0,Ä⟩] w (Sc vs (Ê bp n cp) w (Ä,oF 5)):=by
 have o:=f.N;have H:=e7<|Á F<|Á N f;go_enter ś,Ň;go_wp2_with (go_at_call 113;refine H.out.1.mono ?_;rintro e d ⟨rfl,c⟩;dsimp only[jH,ū]);have g:=e7<|Á ((H.out.2.2.C c).C<|eZ.fM e9 _).M ((H.out.2.2.C c).C<|eZ.fM e9 _).I;go_region_held3 (λa=>a.cell? ⟨r,0,Ä⟩=Ã (Â Ë x)/\a.cell? ⟨r,8,Ä⟩=Ã (Ê O b i)) (first|exact g.out|exact j.out) (first
   |(go_at_call 115;refine(H.out.2.1 _ (c.e8 kp)).mono ?_;rintro e k l;obtain⟨rfl,d⟩:e=Ç (Å Ä)/\eZ e9 w k:=amu l (c.e8 kp);dsimp only;have j:=e7 (Á (H.out.2.2.C d).M (H.out.2.2.C d).I)))
 go_wp2_with (first
  |(go_at_call 114;refine(DR 5 A _).mono ?_;rintro e a ⟨rfl,c⟩;subst a))
 go_ret2;exact⟨d,Ø ⟨U,U⟩⟩
def amx{p:Nat×fJ}{f:St}{g:List (Nat×Int)}{j:List (Int×Bool)}(k:pM bp n vs w)(Q:n<=40)(q:0<n)(s:n<=cp)(t:0<=p.2.h)(u:p.2.h<40)(F:Ò À 113 #[Ê bp n cp,Â Ë v] w λe a=>e=Ç (jH<|Ã p.1)/\eZ e9 w a)(l:BJ r v x O b i w)(S:((n:Int)==40)=Ï)(N:∀W,eZ e9 w W->Ò À 115 #[Å<|Ã ⟨p.1,0,Ä⟩,Â Ë x,Ê O b i] W (DN p.2.h W<|Ã (f,g,j))): Ò À 66 #[Ê bp n cp,Å<|Ã ⟨r,0,Ä⟩] w (Sc vs (Ê bp n cp) w (Ã ⟨f,g,j,p.2.h+1⟩,pK vs.length)):=by
 have T:=l.N;rw[<-k.r];have H:=e7<|Á F<|Á N<|Á l k;go_enter ś,Ň;go_wp2_with (go_at_call 113;refine H.out.1.mono ?_;rintro e o ⟨rfl,d⟩;dsimp only[jH,ū]);have y:=e7<|Á ((H.out.2.2.1.C d).C<|eZ.fM e9 _).M ((H.out.2.2.1.C d).C<|eZ.fM e9 _).I;go_region_held3 (λa=>a.cell? ⟨r,0,Ä⟩=Ã (Â Ë x)/\a.cell? ⟨r,8,Ä⟩=Ã (Ê O b i)) (first|exact y.out|exact o.out) (first
   |(go_at_call 115;refine(H.out.2.1 _ (d.e8 kp)).mono ?_;rintro e D z;obtain⟨B,rfl,c,C,m⟩:=amv (w:=w) z t u (d.e8 kp);dsimp only;have o:=e7 (Á (H.out.2.2.1.C c).M (H.out.2.2.1.C c).I)))
 have W:=ams (H.out.2.2.2.I c) Z q s B;have z:=e7 W;go_wp2_with (first
  |(go_at_call 116;refine z.out.mono ?_;rintro e G ⟨I,J,rfl,D,d,o,E⟩)
  |(go_at_call 117;refine(ZI n Z _).mono ?_;rintro e a ⟨rfl,G⟩;subst a))
 go_ret2;refine⟨c.e8 d,Ù ⟨_,B,_,U,U,⟨_,_,_,U,D,?_⟩,⟨m.C,by let⟨G,I,J,K,L,M,P⟩:=m.r;exact⟨G,I,J.I d id,K.C d,L.C d,M,P⟩⟩,_,_,_,U,ë c.M o.C,o.r⟩⟩;exact amt ((H.out.2.2.2.I c).I d) (C.Y d) E
def amy(a:pM bp n vs w)(C:n<=40)(j:0<n)(D:n<=cp)(t:∀p∈vs,p.2.h<40)(d:BJ r v x O b i w)(u:BA O b f w)(E:b<=1000)(y:iD w)(G:x<8)(z:-1<=v): Ò À 66 #[Ê bp n cp,Å<|Ã ⟨r,0,Ä⟩] w (Sc vs (Ê bp n cp) w<|tX vs v x<|k9 f):=by
 have L:=d.N;unfold tX;cases g:nS vs v with
 |none=>
  have F:=La (cp:=cp) a Z j v z;rw[g]at F;have H:=e7 F;go_enter ś,Ň;go_wp2_with (first
   |(go_at_call 113;refine H.out.mono ?_;rintro e I ⟨rfl,q⟩;dsimp only[jH,ū])
   |(go_at_call 114;refine(DR 3 A _).mono ?_;rintro e l ⟨rfl,J⟩;subst l))
  go_ret2;exact⟨q,Ø ⟨U,U⟩⟩
 |some p=>
  have m:=Hp g;have c:=a.M m;have F:=La (cp:=cp) a Z j v z;rw[g]at F;have N:∀W,eZ e9 w W->Ò À 115 #[Å<|Ã ⟨p.1,0,Ä⟩,Â Ë x,Ê O b i] W (DN p.2.h W<|xf x p.2.s<|k9 f):=λW k=>
   alo (c.r.r k id) c.I (by have:=c.M;omega) c.C (u.I k) (y.r k id) E G
  have K:=a.r;by_cases B:n=40
  .simp only;rw[if_pos Z];have H:=e7 F;clear F N a d u y t c g m K;have o:((n:Int)==40)=Ú:=by rw[B];rfl
   clear B;go_enter ś,Ň;go_wp2_with (first
    |(go_at_call 113;refine H.out.mono ?_;rintro e I ⟨rfl,q⟩;dsimp only[jH,ū])
    |(go_at_call 114;refine(DR 4 A _).mono ?_;rintro e l ⟨rfl,J⟩;subst l))
   go_ret2;exact⟨q,Ø ⟨U,U⟩⟩
  .simp only;rw[if_neg Z];have o:((n:Int)==40)=Ï:=by rw[beq_eq_false_iff_ne];omega
   have l:=t p m;have H:=c.I;cases e:xf x p.2.s (k9 f)with
   |none=>
    rw[e]at N;exact amw F d o N
   |some q=>
    let⟨I,J,M⟩:=q;rw[e]at N;exact amx a C j D H l F d o N
end
theorem amz(h:l.length=145):À.built 147 [(0,Ē l.toArray)]=Ã (l++[Â Ë 0,Ê Ä 0 0]).toArray:=by let⟨z,d,a,b,c⟩:=RU Zz ZA A;rw[RR ZB a,c];have:=KS (place:=λi=>[(0,145),(145,1),(146,1)].toArray[i]?) (pre:=[]) (suf:=[Â Ë 0,Ê Ä 0 0]) (i:=0) (v:=Ē l.toArray) (rest:=[]) U (by show l.toArray.size=145;simp[h]) b;simpa[ı,ğ]using this
theorem amA(a:o.op=Χ 147 #[(0,qQ)])(b:xX qQ=Ē l.toArray)(c:l.length=145):(Ĥ xX o).run À w=φ (.value<|Ē (l++[Â Ë 0,Ê Ä 0 0]).toArray) w:=by grind [RV,amz]
def mb:fJ:=⟨jP 8,[],[],0⟩
def d_:gC (jP 8):=by refine⟨λi=> ?_,λi j=>⟨Ö _,show(0:Int)<18446744073709551616 by decide⟩,λi=>⟨show(0:Nat)<=40 by decide,λc a=>by cases a⟩⟩;show fV (if i<8 then 1000 else 0);split<;>exact⟨A,A⟩
theorem amB{s:St}(b:gC s)(h:fc i (ic s++[Ê Ä 0 0]++[Â Ë 0,Ê Ä 0 0]) 147 w):rH i ⟨s,[],[],0⟩ w:=by
 have c:=rE s;refine⟨⟨λj v d=> ?_,?_⟩,b,Ö _,show(0:Int)<=40 by decide,?_,?_⟩
 .rw[ł];apply h.r j v;grind
 .apply h.r 145 _;simp_all
 .refine⟨Ä,0,h.r 144 _ ?_,λj x a=>by cases a⟩;grind
 .refine⟨Ä,0,h.r 146 _ ?_,λj x a=>by cases a⟩;simp_all
def xg(ls:List (Nat×Int)):Prop:=∀e∈ls,e.1<8/\fV e.2
def Sd(J:St->List (Nat×Int)->Prop)(F:lL):Prop:=∀s a x y g k,gC s->x<8->y<8->fV k->0<=g->g<=100000->(a.length:Int)+g<=1000000->J s a->J (F s a x y g k).s (F s a x y g k).I
structure f_(J:St->List (Nat×Int)->Prop):Prop where
 st:∀{s ls} (y j:Nat) (v:Int),J s ls->J (s.r y j v) ls
 mv:∀{s ls y} (q:Int) {p:Int},gC s->y<8->fV p->J s ls->J (qt s y q p).2 ls
 lg:∀{s ls y p},y<8->fV p->J s ls->J s (ls++[(y,p)])
section
variable{c:RC}{F:lL}{J:St->List (Nat×Int)->Prop}
theorem amC(b:f_ J)(i:Sd J F)(d:c.y<8)(k:Nat)(t:RT)(o:k<=20)(a:nz t)(h:J t.s t.C):J (nO F c k t).s (nO F c k t).C:=by
 have f:=sC a.r;have g:=sC<|oR a.r;by_cases j:k=16
 .subst j;exact b.st _ _ _ h
 by_cases l:k=18
 .subst l;exact b.mv _ a.s d g h
 by_cases m:k=19
 .subst m;exact b.lg d f h
 by_cases n:k=20
 .subst n;show J (iN F c t _ _ _).2.2.s (iN F c t _ _ _).2.2.C;unfold iN;split
  .exact h
  .have e:=sC<|oR<|oR a.r;have p:=a.g0;have q:=a.C;have r:=a.I;have u:=f.1;have v:=g.1;exact i _ _ _ _ _ _ a.s d Z e Z Z Z h
 have e:(nO F c k t).s=t.s/\(nO F c k t).C=t.C:=by unfold nO;grind
 grind
def g_(b:f_ J):∀n,Sd J<|yO n
 |0=>λ_ _ _ _ _ _ _ _ _ _ _ _ _ h=>h
 |n+1=>λs d x y g k a f e i j l m h=>by
  show J (rD (yO n) ⟨x,y,k,4-(n:Int),g⟩ s d).s (rD (yO n) ⟨x,y,k,4-(n:Int),g⟩ s d).I;unfold rD;simp only;split
  .exact(DK (c:=⟨x,y,k,4-(n:Int),g⟩) (a.I y).1 (λn o=>Rv a y o) (G8 n) f e i (amC b (g_ b n) e) _ _ _ tS ⟨fg,fg,a,j,l,m⟩ h).2
  .exact h
end
def Se:Sd (λ_ e=>xg e) fY:=g_ ⟨λ_ _ _ h=>h,λ_ _ _ _ _ h=>h,λa b h e c=>by
 rcases ú.1 c with q|q
 .exact h e q
 .simp at q;subst q;exact⟨a,b⟩⟩ 4
def amD{s:St}(b:gC s){ls:List (Nat×Int)}{t:Tx}(a:t.Ok)(c:(ls.length:Int)+400<=1000000)(h:xg ls):xg (lN s ls t).2.2.2:=by
 unfold lN;split
 .exact h
 .split
  .exact h
  .unfold yR;split
   .exact h
   .rename_i d;have e:=(b.fp t.x).2;exact Se _ ls t.x t.y (t.n-10) t.k (b.r t.x ⟨Z,Z⟩) a.x a.y ⟨a.r,by have:=a.C;omega⟩ Z Z Z h
def yY(a:List (Int×Bool)):Prop:=∀e∈a,0<=e.1/\e.1<=400
def yY.Nw{a:List (Int×Bool)}(h:yY a){e:Int×Bool}(b:0<=e.1)(c:e.1<=400):yY (a++[e]):=λx d=>by
 rcases ú.1 d with q|q
 .exact h x q
 .simp at q;subst q;exact⟨b,c⟩
structure Sf(v:fJ):Prop where
 C:xg v.r
 r:yY v.C
 I:v.r.length<=400000
 M:v.C.length<=1000
def Sg:∀(b:List Tx) {s:St} {ls:List (Nat×Int)} {a:List (Int×Bool)} {r:St×List (Nat×Int)×List (Int×Bool)},(∀t∈b,t.Ok)->gC s->xg ls->yY a->ls.length+400*b.length<=400000->a.length+b.length<=1000->tU m s ls a b=Ã r->gC r.1/\xg r.2.1/\yY r.2.2/\r.2.1.length<=400000/\r.2.2.length<=1000
 |[],s,ls,a,r,_,hs,hl,hu,n1,n2,h=>by cases h;exact⟨hs,hl,hu,by simpa using n1,by simpa using n2⟩
 |t::q,s,ls,a,r,ht,hs,hl,hu,n1,n2,h=>by
  unfold tU at h;simp only[Ľ]at n1 n2;split at h
  .have d:=ZH (ls:=ls) hs (ht t fg) Z;have f:=d.r;exact Sg q (λc e=>ht c<|Ś _ e) (d.s.r m<|yM _) (amD hs (ht t fg) Z hl) (hu.Nw d.g0 d.C) Z (by simp;omega) h
  .cases h
def amE{s:St}{a:List Tx}{r:St×List (Nat×Int)×List (Int×Bool)}(b:∀t∈a,t.Ok)(c:gC s)(k:a.length<=1000)(e:xf m s a=Ã r):Sf ⟨r.1,r.2.1,r.2.2,h⟩:=by unfold xf at e;obtain⟨l,d,rfl⟩:=Ì.1 e;let⟨_,f,g,i,j⟩:=Sg a b c (λ_ q=>by cases q) (λ_ q=>by cases q) (by simp;omega) (by simp;omega) d;exact⟨f,g,i,j⟩
end Go.Proofs.Y.iy
namespace Go.Proofs
open Go.Shelf
def Tryz.lays283_ren:Ĭ:=⟨fun|283=>187|n=>n,fun|3=>3|9=>9|4=>4|n=>n,fun|n=>n⟩
def Tryz.lays283:aJ À Tryz.lays283_ren:={
 mixed:=fj
 f283:=ź.trans<|congrArg Ã fj
 t3:=Ě
 a3:=Ŝ
 z3:=ň
 v3:=ħ
 t4:=ě
 a4:=ŝ
 z4:=ŉ
 v4:=Ĩ
 t9:=đ
 a9:=Ş
 z9:=Ŋ
 v9:=ĩ}
open Go.Lib in
def Tryz.internal_strconv_small(i:Nat)(h:i<100)(w:É):
 Ò À 187 #[Â Ë i] w λe a=>e=Ç (Í ⟨(Ļ i).toArray⟩)/\a=w:=Any.internal_strconv_small Tryz.lays283 i h w
def Tryz.laysM284_ren:Ĭ:=⟨fun|284=>188|129=>198|317=>197|318=>199|n=>n,fun|53=>36|3=>3|212=>291|0=>0|4=>4|46=>168|5=>5|9=>9|n=>n,fun|17=>1|n=>n⟩
def Tryz.laysM284:Go.Proofs.LaysM.n284 À Tryz.laysM284_ren:={
 mixed:=fj
 f129:=Tryz.func198.trans<|congrArg Ã fj
 f284:=Tryz.func188.trans<|congrArg Ã fj
 f317:=Tryz.func197.trans<|congrArg Ã fj
 f318:=Tryz.func199.trans<|congrArg Ã fj
 t0:=Δ
 a0:=aG
 z0:=ax
 v0:=Ρ
 t3:=Ě
 a3:=Ŝ
 z3:=ň
 v3:=ħ
 t4:=ě
 a4:=ŝ
 z4:=ŉ
 v4:=Ĩ
 t5:=Ε
 a5:=aH
 z5:=ay
 v5:=Τ
 t9:=đ
 a9:=Ş
 z9:=Ŋ
 v9:=ĩ
 t46:=Ŭ
 a46:=ρ
 z46:=ε
 v46:=Ž
 t53:=ĸ
 a53:=ž
 z53:=ŧ
 v53:=ŀ
 t212:=Tryz.underlying291
 a212:=Tryz.isAgg291
 z212:=Tryz.sizeOf291
 v212:=Tryz.zeroValue291
 g17:=fj
 i0:=fj
 i3:=fj
 i4:=fj
 i5:=fj
 i9:=fj
 i46:=fj
 i53:=fj
 i212:=fj
 m17:=by kernel_rfl}
open Go.Lib in
def Tryz.internal_strconv_numDigits(u:Nat)(a:1<=u)(b:u<18446744073709551616)(w:É)(c:ω À w "internal/strconv.uint64pow10" Æ az):
 Ò À 188 #[Â Æ u] w λe d=>e=Ç (Â Ë<|č u)/\d=w:=Any.internal_strconv_numDigits Tryz.laysM284 u a b w c
def Tryz.lays285_ren:Ĭ:=⟨fun|285=>189|n=>n,fun|37=>107|53=>36|3=>3|4=>4|51=>95|9=>9|5=>5|0=>0|n=>n,fun|n=>n⟩
def Tryz.lays285:aK À Tryz.lays285_ren:={
 mixed:=fj
 f285:=Tryz.func189.trans<|congrArg Ã fj
 t0:=Δ
 a0:=aG
 z0:=ax
 v0:=Ρ
 t3:=Ě
 a3:=Ŝ
 z3:=ň
 v3:=ħ
 t4:=ě
 a4:=ŝ
 z4:=ŉ
 v4:=Ĩ
 t5:=Ε
 a5:=aH
 z5:=ay
 v5:=Τ
 t9:=đ
 a9:=Ş
 z9:=Ŋ
 v9:=ĩ
 t37:=ý
 a37:=Tryz.isAgg107
 z37:=Tryz.sizeOf107
 v37:=Tryz.zeroValue107
 t51:=ſ
 a51:=aA
 z51:=ς
 v51:=Ζ
 t53:=ĸ
 a53:=ž
 z53:=ŧ
 v53:=ŀ}
open Go.RowKit Go.Sort Go.Lib in
def Tryz.internal_strconv_formatBase10(a c f:Nat)(u:Nat)(d:Array UInt8)(w:É)(h:Holds (λ(b:UInt8)=>Â aT (b.toNat:Int)) w a c d)(i:u<10^d.size)(j:u<18446744073709551616)(k:d.size<4611686018427387904):
 Ò À 189 #[Ê (Ã ⟨a,c,Ä⟩) d.size f,Â Æ u] w λe l=>
  e=Ç (æ #[])/\∃(n m:Nat) (g:Array UInt8),l=(ζ (λ(b:UInt8)=>Â aT (b.toNat:Int)) w a c g).drewN n/\FmtInv d.size u 0 m g:=Any.internal_strconv_formatBase10 Tryz.lays285 a c f u d w h i j k
def Tryz.lays99_ren:Ĭ:=⟨fun|99=>175|206=>194|n=>n,fun|9=>9|4=>4|3=>3|n=>n,fun|n=>n⟩
def Tryz.lays99:aR À Tryz.lays99_ren:={
 mixed:=fj
 f99:=Tryz.func175.trans<|congrArg Ã fj
 f206:=Tryz.func194.trans<|congrArg Ã fj
 t3:=Ě
 a3:=Ŝ
 z3:=ň
 v3:=ħ
 t4:=ě
 a4:=ŝ
 z4:=ŉ
 v4:=Ĩ
 t9:=đ
 a9:=Ş
 z9:=Ŋ
 v9:=ĩ}
open Go.RowKit Go.Lib in
def Tryz.strings_HasPrefix(s p:ByteArray)(w:É):
 Ò À 175 #[Í s,Í p] w λe a=>e=Ç (Ñ<|Lib.hasPrefix s.data.toList p.data.toList)/\a=w:=Any.strings_HasPrefix Tryz.lays99 s p w
def Tryz.lays212_ren:Ĭ:=⟨fun|212=>174|263=>192|264=>193|n=>n,fun|46=>168|51=>95|146=>285|53=>36|148=>287|n=>n,fun|n=>n⟩
def Tryz.lays212:aL À Tryz.lays212_ren:={
 mixed:=fj
 f212:=Tryz.func174.trans<|congrArg Ã fj
 f263:=Tryz.func192.trans<|congrArg Ã fj
 f264:=Tryz.func193.trans<|congrArg Ã fj
 t46:=Ŭ
 a46:=ρ
 z46:=ε
 v46:=Ž
 t51:=ſ
 a51:=aA
 z51:=ς
 v51:=Ζ
 t53:=ĸ
 a53:=ž
 z53:=ŧ
 v53:=ŀ
 t146:=Tryz.underlying285
 a146:=Tryz.isAgg285
 z146:=Tryz.sizeOf285
 v146:=Tryz.zeroValue285
 t148:=Tryz.underlying287
 a148:=Tryz.isAgg287
 z148:=Tryz.sizeOf287
 v148:=Tryz.zeroValue287}
open Go.RowKit Go.Lib in
def Tryz.bits_Mul(x y:Nat)(a:x<18446744073709551616)(b:y<18446744073709551616)(w:É):
 Ò À 174 #[Â Æ x,Â Æ y] w λe c=>e=Ç (æ #[Â Æ ((x*y/18446744073709551616:Nat):Int),Â Æ ((x*y%18446744073709551616:Nat):Int)])/\c=w:=Any.bits_Mul Tryz.lays212 x y a b w
end Go.Proofs
namespace Go.Proofs.Y.iy
open Go Go.Proofs Go.RowKit Go.Sort Go.Proofs.Y.Lift
def yZ:UInt8->È:=λb=>Â aT (b.toNat:Int)
def lb(w:É):Prop:=ω À w "internal/strconv.uint64pow10" Æ az
def amF(a:jU w)(b:Nat)(f:Array È->Array È):jU (Ł w b f):=by
 intro i o h;unfold Ł at h;simp only[Û]at h;split at h
 .cases d:w.heap[i]? with
  |none=>rw[d]at h;cases h
  |some e=>
   have:=a _ _ d;rw[d]at h;cases e with
   |cells c t z=>simp only[ñ,è]at h;subst h;exact λx=>x
   |_=>exact absurd trivial this
 .exact a i o h
def amG(a:rB m w)(b:Nat)(f:Array È->Array È)(j:NF b w):rB m (Ł w b f):=by
 intro i c T k l h g;unfold Ł at h;simp only[Û]at h;split at h
 .rename_i e;subst e;cases d:w.heap[b]? with
  |none=>rw[d]at h;cases h
  |some n=>
   rw[d]at h;cases n with
   |cells o t z=>
    simp only[ñ,è,onCells,ģ]at h;have:=j _ _ _ d;rw[h.2.1,g]at this;cases this
   |_=>simp only[ñ,è,onCells]at h;cases h
 .exact a i c T k l h g
def eZ.fW(w:World)(T:TypeId)(cs:Array Value)(off:Nat)(d:Array UInt8)(n:Nat)(hT:lI T=false:=by decide):eZ e9 w ((putRow yZ (w.alloc<|.cells cs T) w.heap.size off d).drewN n):= ⟨by simp[ζ,Ł,World.drewN],λk hk _=>by show(Ł (w.alloc<|Ð cs T) w.heap.size _).heap[k]?=_;unfold Ł;simp only[Û];rw[if_neg Z];exact ď _ _ _ hk,λa=>amF (GR a cs T (0,0)) _ _,λ_ a=>amG (GU a cs T (0,0)<|Ø hT) _ _<|fc.G (fc.N w cs.toList T) hT⟩
def amH(w:É)(T:õ)(a:Nat)(c:a<=24):Holds yZ (w.alloc<|Ð ġ T) w.heap.size 0 (ō a (0:UInt8)):=λj b=>by
 have d:j<a:=by simpa using b
 refine⟨?_,World.frozen?_alloc_new _ _ _ _⟩;rw[World.cell?_alloc_new,Lib.zeros24_at _ Z,getElem!_pos _ j b];simp[yZ]
def gG(u:Nat):ByteArray:=⟨(Ļ u).toArray⟩
def amI(u:Nat)(h:u<100)(w:É):Ò À 172 #[Â Æ u,Â Ë 10] w λe a=>e=Ç (Í<|gG u)/\a=w:=by go_enter aB,σ;go_wp2_with (go_at_call 187;refine(Tryz.internal_strconv_small u h _).mono ?_;rintro e a ⟨rfl,rfl⟩);go_ret;exact⟨U,U⟩
def amJ(u:Nat)(h:¬u<100)(c:u<18446744073709551616)(w:É)(m:lb w):Ò À 172 #[Â Æ u,Â Ë 10] w λe b=>e=Ç (Í<|gG u)/\eZ e9 w b:=by
 have g:1<=u:=Z
 have o:č u<=20:=by have:=Lib.numDigits_eq u g c;split at this<;>omega
 have n:À.arrayLen 276=24:=fj
 have p:∀W,(Instr.sliceAt 276 (Å<|Ã ⟨w.heap.size,0,Ä⟩) Ä (Ã<|Â Ë (č u:Int)) Ä).run À W=φ (Ê (Ã ⟨w.heap.size,0,Ä⟩) (č u) 24) W:=λW=>by rw[run_sliceAt_array_h W 276 ⟨w.heap.size,0,Ä⟩ (by simp[Program.arrayLen,Program.elem,Tryz.type276]) Ë (č u:Int) Z (by rw[n];omega)];go_simp
 have i:=amH w 276 (č u) Z;have l:=Tryz.internal_strconv_formatBase10 w.heap.size 0 24 u (ō (č u) 0) (w.alloc<|Ð ġ 276) i (by rw[Ď];exact Lib.lt_pow_nDigits u) c (by rw[Ď];omega);rw[Ď]at l;go_enter aB,σ;go_wp2_with (go_at_call 188;refine(Tryz.internal_strconv_numDigits u g c _<|Lib.tabIs_alloc m _).mono ?_;rintro e b ⟨rfl,rfl⟩);go_at_call 189;apply l.mono;rintro e b ⟨rfl,k,q,a,d,hF⟩;replace d:b=(ζ yZ (w.alloc<|Ð ġ 276) w.heap.size 0 a).drewN k:=d;subst d;have r:(convert 107 9<|Ê (Ã ⟨w.heap.size,0,Ä⟩) (č u) 24).run À ((ζ yZ (w.alloc<|Ð ġ 276) w.heap.size 0 a).drewN k)=φ (Í<|gG u) ((ζ yZ (w.alloc<|Ð ġ 276) w.heap.size 0 a).drewN k):=by have h:=run_convert_bytes_back (P:=À) ((ζ yZ (w.alloc<|Ð ġ 276) w.heap.size 0 a).drewN k) 107 9 5 ⟨w.heap.size,0,Ä⟩ 24 (Ļ u) fj fj fj (λj f=>by rw[Lib.row_is_numeral hF j f,Lib.add_plain,World.cell?_drewN];exact cell?_putRow yZ _ w.heap.size 0 _ a (Lib.hid i).out (by rw[hF.size,Ď]) j<|by rw[hF.size];rwa[Ģ]at f);rwa[Ģ]at h
 go_wp2;go_ret;exact⟨U,eZ.fW w 276 _ _ a k⟩
def amK(u:Nat)(d:u<18446744073709551616)(w:É)(f:lb w):Ò À 172 #[Â Æ u,Â Ë 10] w λe c=>e=Ç (Í<|gG u)/\eZ e9 w c:=by
 by_cases h:u<100
 .exact(amI u h w).mono λe c ⟨a,b⟩=>⟨a,b▸eZ.fO _ _⟩
 .exact amJ u h d w f
def amL(u:Nat)(b:u<18446744073709551616)(w:É)(c:lb w):Ò À 157 #[Â Æ u,Â Ë 10] w λe a=>e=Ç (Í<|gG u)/\eZ e9 w a:=by go_enter Tryz.func157,Tryz.ntmps157;go_wp2_with (go_at_call 172;refine(amK u b _ c).mono ?_;rintro e a ⟨rfl,d⟩);go_ret;exact⟨U,d⟩
def xh(u:Nat)(b:u<18446744073709551616)(w:É)(c:lb w):Ò À 118 #[Â Æ u] w λe a=>e=Ç (Í<|gG u)/\eZ e9 w a:=by go_enter Tryz.func118,Tryz.ntmps118;go_wp2_with (go_at_call 157;refine(amL u b _ c).mono ?_;rintro e a ⟨rfl,d⟩);go_ret;exact⟨U,d⟩
end Go.Proofs.Y.iy
namespace Go.Proofs.Y.iy
open Go Go.Proofs Go.RowKit Go.Proofs.Y.Lift
def Si(B:Nat):iM:=⟨B,144,[]⟩
def amM(B:Nat):(Si B).Ok:=⟨show(144:Nat)≠36 by decide,show(144:Nat)≠257 by decide,show(144:Nat)≠282 by decide,show(144:Nat)≠300 by decide,show(144:Nat)≠252 by decide,show(144:Nat)≠246 by decide⟩
def h_{s:St}(l:lO n s h w)(z:gC s)(B:iD w)(x y:Nat)(g k:Int)(T:x<8)(V:y<8)(Y:0<=g)(vd:g<=100000)(hk:fV k)(r:Bv)(D:r=fY s [] x y g k): Ò À 158 #[Å<|Ã ⟨n,0,Ä⟩,Â Ë x,Â Ë y,Â Æ g,Â Æ k] w λe f=>
  ∃lv,e=Ç (æ #[Ē #[Â Æ r.r,Ñ r.C,Â Æ r.M],lv])/\f.ownsRow 0 257 2 lv r.I.length (jZ r.I)/\eZ e9 w f:=by
 let⟨dd,E,F⟩:=Ì.1 RZ;have G:(À.info? 140).map (·.size)=Ã (ic s).length:=by rw[rE];exact ZD
 let⟨i0,z0,I,J,K,L⟩:=Zj Zi;have m:=RE s (lv:=Ê Ä 0 0) U;rw[yS]at m;have o:(ic s++[Ê Ä 0 0]).length=145:=by rw[Ó,rE];rfl
 have M:=eZ.gB e9 w #[Â Æ 0,Ñ Ï,Â Æ 0] 252;have N:=(l.r M id).C;have gH:=á w _ l.h;have C:∀W,im (w.heap.size+1) 144 [] s (Ê Ä 0 0) W->iD W->Ò À 173 #[Å<|Ã ⟨w.heap.size+1,0,Ä⟩,Â Ë x,Â Ë y,Â Æ g,Â Æ k,Â Ë 1] W λe f=>e=Ç (Ē #[Â Æ r.r,Ñ r.C,Â Æ r.M])/\∃jk,hD (Si<|w.heap.size+1) (Ê Ä 0 0) 0 W r.s r.I f jk:=λW hW hrW=>by rw[D];exact Zt (Si<|w.heap.size+1) (amM _) s _ [] x y g k W hW (ĉ _ _ _ _) hrW z T V Y vd hk<|by simp;omega
 have a:=e7<|Á E<|Á F<|Á G<|Á N<|Á I<|Á K<|Á (J.trans o.symm)<|Á (L.trans o.symm) m;have H:=e7<|Á B C;clear E F G I J K L m o N l C B z M D;go_enter Tryz.func158,Tryz.ntmps158;go_wp2_with (first
  |(with_reducible refine ĥ U 140 _ U n 0 U (ic s) dd a.out.2.2.2.1 a.out.1 a.out.2.1 a.out.2.2.1 ?_)
  |(with_reducible refine Ć U (Ã 19) U _ _ (RY U U<|rE s) ?_)
  |(with_reducible refine Zg U U 144 U 12 U _ _ U U a.out.2.2.2.2.1 a.out.2.2.2.2.2.1 (ic s++[Ê Ä 0 0]) a.out.2.2.2.2.2.2.1 a.out.2.2.2.2.2.2.2.1 U U a.out.2.2.2.2.2.2.2.2 ?_;intro t KP O Dp))
 have uZ:t.heap.size=w.heap.size+1+1:=by simpa using Dp
 have P:im (w.heap.size+1) 144 [] s (Ê Ä 0 0) t:=by unfold im;rw[ò,yS];simpa using KP
 have Q:=(eZ.gB _ _ _ _).e8 O;have Ah:=(fc.N w [Â Æ 0,Ñ Ï,Â Æ 0] 252).I O id;go_at_call 173;refine(H.out.2 t P<|H.out.1.r Q id).mono ?_;rintro e u ⟨rfl,lv,d⟩;have b:=Ah.I d.C (λq=>q.elim (λq=>absurd q<|by show w.heap.size≠w.heap.size+1;omega) λq=>by cases q);have sj:=d.C.M;have hlv:u.cell? ⟨w.heap.size+1,144,Ä⟩=Ã lv:=d.r.G0 Z;obtain⟨la,lc,rfl⟩:=jx d.I;have l0:=b.M;have y0:=b.C 0;have y1:=b.C 1;have y2:=b.C 2;have c0:=b.r 0 _ U;have c1:=b.r 1 _ U;have c2:=b.r 2 _ U;have hl2:w.heap.size+1<u.heap.size:=Z
 have c:=e7<|Á d<|Á b<|Á Q P;go_wp2_with fail;go_region;go_wp2_with fail;let⟨d2,ou,wC⟩:=Ì.1 RG;have S:=((eZ.I (X:=λk=>k=w.heap.size) (w:=u) (p:=⟨w.heap.size,0,Ä⟩) U<|Â Æ r.r).e8<|eZ.I (X:=λk=>k=w.heap.size) (p:=⟨w.heap.size,1,Ä⟩) U<|Ñ r.C).e8 (eZ.I (X:=λk=>k=w.heap.size) (p:=⟨w.heap.size,2,Ä⟩) U<|Â Æ r.M);have v:=λW=>(eZ.gB e9 W #[Â Æ r.r,Ñ r.C,Â Æ r.M] 252).e8<|eZ.fM _ _;apply ð (yP U U (fc.Y (vs:=[Â Æ r.r,Ñ r.C,Â Æ r.M])<|(((c.out.2.1.fW 0<|Â Æ r.r).fW 1<|Ñ r.C).fW 2<|Â Æ r.M).I (v _) id) ou wC RH) U;refine⟨_,U,gV (gV c.out.1.I S λj hj y=> ?_) (v _) λ_ _=>id,?_⟩
 .let⟨j,i⟩:=lr c.out.1.I hj;rw[y,c.out.2.1]at i;cases i
 .refine((c.out.2.2.1.C c.out.1.C λi j q=> ?_).C S λi j q=> ?_).e8<|v _
  .rcases q with q|q
   .exact absurd q<|by show i≠w.heap.size+1;omega
   .cases q
  .omega
def sG(s:St)(x y:Nat)(k:Int):Nat->Nat->ByteArray
 |_,0=>⟨#[45]⟩
 |i,n+1=>if(fY s [] x y i k).C then gG i else sG s x y k (i+1) n
noncomputable def Lc:ŏ:=(Tryz.f120.body.bind ko).getD Ķ
def BK(a x y:Nat)(k:Int)(r:È)(i:Int)(u:Nat->È):é:=⟨#[Å<|Ã ⟨a,0,Ä⟩,Â Ë x,Â Ë y,Â Æ k,u 4,u 5,u 6,u 7,r,u 9,u 10,u 11,Â Æ i,u 13,u 14,u 15,u 16,u 17,u 18,u 19,u 20,u 21,u 22,u 23,u 24,u 25,u 26,u 27,u 28,u 29],[]⟩
def za(b x y:Nat)(k:Int)(r:È)(i:Int)(a:é):Prop:=∃u,a=BK b x y k r i u
theorem lb.r(h:lb w)(q:eZ e9 w u):lb u:=by
 unfold lb ω World.var? at*;cases a:À.globalNamed "internal/strconv.uint64pow10" with
 |none=>rw[a]at h;cases h
 |some g=>
  rw[a]at h;simp only[Option.bind_some]at h|-;have b:g<w.heap.size:=by grind
  rwa[q.N g b id]
section
variable{Y:é->É->Prop}{s:St}
def amN(b:È)(u:Nat->È)(d:∀a,za j i n c b 401 a->H a w): Î À Lc (Exit.then K<|QN H Y) (BK j i n c b 401 u) w:=by
 unfold BK;conv=>arg 2;whnf
 go_wp2_with fail
 exact d _ (gk _)
def amO(p:È)(u:Nat->È)(b:Nat)(P:b<401)(B:lO j s h w)(C:gC s)(D:iD w)(E:lb w)(F:i<8)(G:n<8)(I:fV c) (q:(fY s [] i n b c).C=Ï->∀a g,za j i n c p ((b+1:Nat):Int) a->eZ e9 w g->K a g) (r:(fY s [] i n b c).C=Ú->∀a g,za j i n c (Í<|gG b) b a->eZ e9 w g->Y a g): Î À Lc (Exit.then K<|QN H Y) (BK j i n c p b u) w:=by
 unfold BK;conv=>arg 2;whnf
 have T:=h_ B C D i n b c F G Z Z I _ U;obtain⟨t,o,v,x,y,J⟩:∃t o v x y,fY s [] i n b c=⟨t,o,v,x,y⟩:=⟨_,_,_,_,_,U⟩;rw[J]at T q r;have d:=e7<|Á T<|Á q<|Á r E;cases o with
 |true=>
  go_wp2_with (first
   |(go_at_call 158;refine d.out.1.mono ?_;rintro e l ⟨L,rfl,f,k⟩;obtain⟨M,N,rfl⟩:=jx f;have m:=e7<|Á k f;clear k f)
   |(go_at_call 118;refine(xh b Z _ (d.out.2.2.2.r (m.out.1.e8 (eZ.gB e9 l _ _)))).mono ?_;rintro e Q ⟨rfl,z⟩;have O:=e7 z;clear z))
  exact d.out.2.2.1 trivial _ _ (gk _)<|(m.out.1.e8<|eZ.gB e9 l _ _).e8 O.out
 |false=>
  go_wp2_with (first
   |(go_at_call 158;refine d.out.1.mono ?_;rintro e l ⟨L,rfl,f,k⟩;obtain⟨M,N,rfl⟩:=jx f;have m:=e7 (Á k f);clear k f))
  exact d.out.2.1 trivial _ _ (gk _)<|m.out.1.e8<|eZ.gB e9 l _ _
def LI(j i n:Nat)(c:Int)(d:È)(s:St)(e:É)(f:ByteArray)(a:é)(w:É):Prop:=
 ∃b:Nat,za j i n c d b a/\b<=401/\eZ e9 e w/\sG s i n c b (401-b)=f
def LE(j i n:Nat)(c:Int)(b:È)(d:É)(e:ByteArray)(a:é)(w:É):Prop:=za j i n c b 401 a/\eZ e9 d w/\e=⟨#[45]⟩
def LR(j i n:Nat)(c:Int)(d:É)(e:ByteArray)(a:é)(w:É):Prop:=∃b,za j i n c (Í e) b a/\eZ e9 d w
def Ld(a:é)(_:É):Nat:=match a.tmps.getD 12 ā with
 |Â _ i=>401-i.toNat
 |_=>0
def h'(d:za j i n c v b y):Ld y w=401-b:=by obtain⟨u,rfl⟩:=d;show 401-(b:Int).toNat=_;simp
def amP(p:lO j s h u)(r:gC s)(t:iD u)(x:lb u)(y:i<8)(z:n<8)(C:fV c)(a:é)(w:É)(D:LI j i n c v s u B a w): Î À Lc (Exit.then (λg k=>LI j i n c v s u B g k/\Ld g k<Ld a w)<|QN (LE j i n c v u B)<|LR j i n c u B) a w:=by
 let⟨b,o,H,e,f⟩:=D;rw[h' (w:=w) o];obtain⟨d,rfl⟩:=o;by_cases E:b=401
 .subst E;exact amN v d λa q=>⟨q,e,f.symm⟩
 .have F:401-b=(401-(b+1))+1:=Z
  rw[F,sG]at f;refine amO v d b Z (p.r e id) r (t.r e id) (x.r e) y z C ?_ ?_
  .intro l g k q m;rw[l]at f;exact⟨⟨b+1,q,Z,e.e8 m,f⟩,by rw[h' q];omega⟩
  .intro l g k q m;rw[l]at f;have G:gG b=B:=f;rw[G]at q;exact⟨b,q,e.e8 m⟩
def amQ(d:lO j s h w)(f:gC s)(g:iD w)(k:lb w)(l:i<8)(m:n<8)(o:fV c): Ò À 120 #[Å<|Ã ⟨j,0,Ä⟩,Â Ë i,Â Ë n,Â Æ c] w λe a=>e=Ç (Í<|sG s i n c 0 401)/\eZ e9 w a:=by
 have L:∀a,za j i n c (Í ⟨#[]⟩) 0 a->Î À (à Lc) (QN (LE j i n c (Í ⟨#[]⟩) w<|sG s i n c 0 401)<|LR j i n c w<|sG s i n c 0 401) a w:=λa p=>
  Ĉ (LI j i n c (Í ⟨#[]⟩) s w<|sG s i n c 0 401) Ld ⟨0,p,â _,eZ.fO _ _,U⟩<|amP d f g k l m o
 generalize sG s i n c 0 401=r at*;go_enter Tryz.func120,Tryz.ntmps120;go_wp2_with fail;refine Ý ?_ ((e7 L).out _ (gk _));rintro(_|(_|_)|_|_|_|_) a v hq;all_goals first|exact absurd hq id|skip
 .obtain⟨b,q,rfl⟩:=hq;obtain⟨u,rfl⟩:=b;unfold BK;go_wp2_with fail;go_ret;simp_all
 .let⟨e,b,q⟩:=hq;obtain⟨u,rfl⟩:=b;unfold BK;go_wp2_with fail;go_ret;simp_all
end
def zd:(À.info? 9).map (λi=>(i.zero,i.size,i.bytes))=Ã (Ã<|Í ⟨#[]⟩,1,16):=fj
def kq(xs:List ByteArray):List È:=xs.map Í
structure gW(w0:É)(tv:È)(xs:List ByteArray)(w:É):Prop where
 fh:w.ownsRow w0.heap.size 9 1 tv xs.length (kq xs)
 r:eZ e9 w0 w
section
variable{w0:É}{tv:È}{xs:List ByteArray}
def gW.M(w0:É){w:É}(k:eZ e9 w0 w):gW w0 (Ê Ä 0 0) [] w:=⟨ĉ _ _ _ _,k⟩
def gW.fF(h:gW w0 tv xs w)(k:eZ e9 w u):gW w0 tv xs u:=⟨gV h.fh k λ_ _=>id,h.r.e8 k⟩
def gW.C(h:gW w0 tv xs w)(a:pD w w0.heap.size 9 1 tv xs.length (kq xs) 1 [Í B] v u):gW w0 v (xs++[B]) u:=by
 refine⟨?_,h.r.C a.r λi b q=> ?_⟩
 .have:=a.fh;rwa[show kq xs++[Í B]=kq (xs++[B]) by simp[kq],show xs.length+1=(xs++[B]).length by simp]at this
 .have:=(h.fh.lt i q).1;omega
end
theorem qu(u:Nat)(h:u<18446744073709551616):(gG u).size<=20:=by have:=Lib.nDigits_le20 u h;unfold gG;show(Ļ u).toArray.size<=20;grind [Ģ]
def mS(p:Option ă)(a:List È)(w:É):Prop:=∀(j:Nat) (x:È),a[j]?=Ã x->∃b o,p=Ã ⟨b,o,Ä⟩/\w.cell? ⟨b,o+j,Ä⟩=Ã x
def mS.C(h:mS O l w)(q:eZ e9 w u):mS O l u:=λj x a=>by let⟨b,o,c,d⟩:=h j x a;exact⟨b,o,c,q.r d id⟩
def mS.r{base:Nat}(h:w.ownsRow base e i (Ê O n j) n l):mS O l w:=λb x d=>by
 rcases h.2 with⟨f,k⟩|⟨g,m,o,f,_⟩
 .have:=h.1;rw[k,Nat.zero_mul]at this;rw[ß this]at d;cases d
 .cases f;refine⟨g,0,U,?_⟩;have:=h.cells (g:=g) U b x d;rwa[Addr.add_mid]at this
def Sj{α:Type}(f g:α->È):∀(l:List α) (j:Nat) (x:α),l[j]?=Ã x->(l.flatMap λp=>[f p,g p])[j*2]?=Ã (f x)/\(l.flatMap λp=>[f p,g p])[j*2+1]?=Ã (g x)
 |[],j,x,h=>by cases h
 |a::l,0,x,h=>by cases h;exact⟨U,U⟩
 |a::l,j+1,x,h=>by rw[show(j+1)*2=j*2+1+1 by omega];exact Sj f g l j x h
def iz(y:Nat):ByteArray:=ø ⟨#[97,98,99,100,101,102,103,104]⟩ y<|y+1
def rJ(e:Nat×Int):ByteArray:=iz e.1++gG e.2.toNat
noncomputable def Le:ŏ:=(Tryz.f124.body.bind ko).getD Ķ
def D8(a:Option ă)(n b:Nat)(c:È)(i:Int)(u:Nat->È):é:=⟨#[Ê a n b,u 1,u 2,c,u 4,u 5,Ê a n b,Â Ë n,Â Ë i,u 9,u 10,u 11,u 12,u 13,u 14,u 15,u 16,u 17,u 18,u 19,u 20,u 21,u 22,u 23,u 24,u 25,u 26],[]⟩
def D9(b:Option ă)(n c:Nat)(d:È)(i:Int)(a:é):Prop:=∃u,a=D8 b n c d i u
section
variable{X:é->É->Prop}{w0:É}{cp:Nat}{tv:È}{xs:List ByteArray}
def amR(u:Nat->È)(i:Int)(b:i=n)(c:∀a,D9 O n cp tv n a->X a w): Î À Le (Exit.then K<|QQ X) (D8 O n cp tv i u) w:=by
 unfold D8;conv=>arg 2;whnf
 subst b;go_wp2_with fail;exact c _ (gk _)
def amS(u:Nat->È)(q:gW w0 tv xs w)(j:Nat)(N:j<n)(P:n<=400000)(Q:xs.length<=400000)(y p:Nat)(S:y<8)(r:p<18446744073709551616)(z:lb w)(k l:Nat)(B:O=Ã ⟨k,l,Ä⟩)(T:w.cell? ⟨k,l+j*2,Ä⟩=Ã (Â Ë y))(V:w.cell? ⟨k,l+j*2+1,Ä⟩=Ã (Â Æ p)) (b:∀a c s,D9 O n cp s ((j+1:Nat):Int) a->gW w0 s (xs++[iz y++gG p]) c->K a c): Î À Le (Exit.then K<|QQ X) (D8 O n cp tv j u) w:=by
 unfold D8;conv=>arg 2;whnf
 subst B;have W:(0:Int)<=(j:Int):=Z
 have Y:(j:Int)<(n:Int):=Z
 have y0:(0:Int)<=(y:Int):=Z
 have y1:(y:Int)<8:=Z
 have jV:=qu p r;have n9:Ë.wrap ((y:Int)+1)=(y:Int)+1:=by rw[ó];omega
 have De:(0:Int)<=(y:Int)+1:=Z
 have yn:(y:Int)+1<=8:=Z
 have qi:(y:Int)<=(y:Int)+1:=Z
 have tJ:((y:Int)+1).toNat=y+1:=Z
 have Hq:¬9223372036854775807<min (y+1) 8-y+(gG p).size:=Z
 obtain⟨ta,tc,rfl⟩:=jx q.fh;have H:=e7<|Á q<|Á z b;go_wp2_with fail;change Î À _ _ _ (w.alloc<|Ð #[Â Ë y,Â Æ p] 257);have t:=eZ.gB e9 w #[Â Ë y,Â Æ p] 257;have C:=(H.out.1.fF t).fF<|eZ.fM _ _;have D:=(H.out.2.1.r t).r<|eZ.fM _ _;have m:=(fc.N w [Â Ë y,Â Æ p] 257).I (eZ.fM e9 _) id;let⟨i0,E,F,G,I⟩:=í zd;have f:=e7<|Á E<|Á F<|Á G I;refine lM (λc=>c.cell? ⟨w.heap.size,0,Ä⟩=Ã (Â Ë y)/\c.cell? ⟨w.heap.size,1,Ä⟩=Ã (Â Æ p)) [] fj ?_;have J:=e7<|Á (m.r 0 _ rfl)<|m.r 1 _ rfl;generalize w.heap.size=ub at*;generalize Č (w.alloc<|Ð #[Â Ë y,Â Æ p] 257)=w1 at*;iterate 9 apply tk J.out
 apply gq 9;intro K b;go_simp;go_at_call 118;refine(xh p r _ D).mono ?_;rintro e L ⟨rfl,v⟩;have M:=C.fF v;have d:=m.I v id;apply b.out _ _ λ_=>⟨d.r 0 _ U,d.r 1 _ U⟩;apply gq 10;intro K b;go_simp;apply b.out _ _ λ_=>⟨d.r 0 _ U,d.r 1 _ U⟩;have x:=eZ.gB e9 L #[Í<|iz y++gG p] 9;have g:=M.fF x;have h:=d.I x id;apply gq 11;intro K b;go_simp;apply b.out _ _ λ_=>⟨h.r 0 _ U,h.r 1 _ U⟩;apply gq 12;intro K b;refine KJ fR _ _ 25 fR ù f.out.1 f.out.2.1 f.out.2.2.1 f.out.2.2.2 U fR g.fh ⟨_,0,Ä⟩ [Í<|iz y++gG p] fR Z U (ÿ _ _ _) (λu i=>by simp at i;subst i;rfl) (by unfold Ą;omega) Z g.r.M ?_;intro tv1 w9 o;obtain⟨a2,ZF,rfl⟩:=jx o.fh;have i:=h.I o.r<|jl g.fh h A;apply b.out _ _ λ_=>⟨i.r 0 _ U,i.r 1 _ U⟩;apply gq 13;intro K b;go_simp;apply b.out _ _ λ_=>⟨i.r 0 _ U,i.r 1 _ U⟩;refine ly fj ?_ _;go_wp2_with fail;exact H.out.2.2 _ _ _ (gk _)<|g.C o
def Sk(O:Option ă)(n cp:Nat)(w0:É)(l:List (Nat×Int))(a:é)(w:É):Prop:=
 ∃(j:Nat) (tv:È),D9 O n cp tv j a/\j<=n/\gW w0 tv ((l.take j).map rJ) w
def i_(O:Option ă)(n cp:Nat)(w0:É)(l:List (Nat×Int))(a:é)(w:É):Prop:=
 ∃tv,D9 O n cp tv n a/\gW w0 tv (l.map rJ) w
def Lf(n:Nat)(a:é)(_:É):Nat:=match a.tmps.getD 8 ā with
 |Â _ i=>n-i.toNat
 |_=>0
def j_(b:D9 O n cp tv i y):Lf n y w=n-i:=by obtain⟨u,rfl⟩:=b;show n-(i:Int).toNat=_;simp
theorem amT{l:List (Nat×Int)}(D:n=l.length)(k:n<=400000)(m:xg l)(o:lb w0)(f:mS O (jZ l) w0)(a:é)(w:É)(p:Sk O n cp w0 l a w): Î À Le (Exit.then (λb d=>Sk O n cp w0 l b d/\Lf n b d<Lf n a w)<|QQ<|i_ O n cp w0 l) a w:=by
 let⟨j,tv,g,E,b⟩:=p;rw[j_ g];obtain⟨u,rfl⟩:=g;by_cases r:j=n
 .subst r;refine amR u _ U λa q=>⟨tv,q,?_⟩;grind
 .obtain⟨x,e⟩:∃x,l[j]?=Ã x:=⟨_,Ô Z⟩;obtain⟨g0,s⟩:=Sj _ _ l j x e;let⟨t,v,h,y⟩:=f (j*2) _ g0;let⟨F,G,i,z⟩:=f (j*2+1) _ s;rw[h]at i;cases i;have c:=m x<|Ġ e;refine amS u b j Z k (by simp;omega) x.1 x.2.toNat c.1 (by have:=c.2.1;have:=c.2.2;omega) (o.r b.r) t v h (b.r.r y id) (by rw[Ĕ c.2.1];exact b.r.r z id) λa d B q C=>⟨⟨j+1,B,q,Z,?_⟩,by rw[j_ q];omega⟩;rwa[Α,e,Υ]
def k_{l:List (Nat×Int)}(b:n=l.length)(g:n<=400000)(c:xg l)(d:lb w)(f:mS O (jZ l) w): Ò À 124 #[Ê O n cp] w λe a=>∃tv,e=Ç tv/\gW w tv (l.map rJ) a:=by
 have L:∀a,D9 O n cp (Ê Ä 0 0) (0:Nat) a->Î À (à Le) (QQ<|i_ O n cp w l) a w:=λa e=>
  Ĉ (Sk O n cp w l) (Lf n) ⟨0,_,e,â _,gW.M w<|eZ.fO _ _⟩<|amT b g c d f
 have H:=e7 L;clear L c d f b;go_enter Tryz.func124,Tryz.ntmps124;go_wp2_with fail;refine Ý ?_ (H.out _ (gk _));rintro(_|(_|_)|_|_|_|_) a v hq;all_goals first|exact absurd hq id|skip
 let⟨tv,h,i⟩:=hq;obtain⟨u,rfl⟩:=h;unfold D8;go_wp2_with fail;go_ret;simp_all
end
def m_(b:Bool):wY b=((b.toNat:Nat):Int):=by cases b<;>rfl
def Ea(e:Int×Bool):ByteArray:=gG e.2.toNat++⟨#[58]⟩++gG e.1.toNat
noncomputable def Lg:ŏ:=(Tryz.f125.body.bind ko).getD Ķ
def Eb(a:Option ă)(n b:Nat)(c:È)(i:Int)(u:Nat->È):é:=⟨#[Ê a n b,u 1,u 2,c,u 4,u 5,Ê a n b,Â Ë n,Â Ë i,u 9,u 10,u 11,u 12,u 13,u 14,u 15,u 16,u 17,u 18,u 19,u 20,u 21,u 22,u 23,u 24,u 25],[]⟩
def Ec(b:Option ă)(n c:Nat)(d:È)(i:Int)(a:é):Prop:=∃u,a=Eb b n c d i u
section
variable{cp:Nat}{xs:List ByteArray}
def amU(u:Nat->È)(i:Int)(b:i=n)(c:∀a,Ec O n cp v n a->H a w): Î À Lg (Exit.then K<|QQ H) (Eb O n cp v i u) w:=by
 unfold Eb;conv=>arg 2;whnf
 subst b;go_wp2_with fail;exact c _ (gk _)
def amV(c:Nat->È)(r:gW u v xs w)(j:Nat)(hj:j<n)(hn:n<=1000)(FN:xs.length<=1000)(p:Nat)(b:Bool)(C:p<18446744073709551616)(D:lb w)(s t:Nat)(V:O=Ã ⟨s,t,Ä⟩)(W:w.cell? ⟨s,t+j*2,Ä⟩=Ã (Â Æ p))(X:w.cell? ⟨s,t+j*2+1,Ä⟩=Ã (Ñ b)) (f:∀a g E,Ec O n cp E ((j+1:Nat):Int) a->gW u E (xs++[gG b.toNat++⟨#[58]⟩++gG p]) g->K a g): Î À Lg (Exit.then K<|QQ H) (Eb O n cp v j c) w:=by
 unfold Eb;conv=>arg 2;whnf
 subst V;have jV:=qu p C;have F:b.toNat<18446744073709551616:=by cases b<;>decide
 have hsb:=qu b.toNat F;have Hq:¬9223372036854775807<(gG b.toNat).size+1:=Z
 have hw5:¬9223372036854775807<(gG b.toNat).size+1+(gG p).size:=Z
 obtain⟨ta,tc,rfl⟩:=jx r.fh;have d:=e7<|Á r<|Á D f;clear r D f;go_wp2_with fail;change Î À _ _ _ (w.alloc<|Ð #[Â Æ p,Ñ b] 246);have G:=eZ.gB e9 w #[Â Æ p,Ñ b] 246;have Y:=(d.out.1.fF G).fF<|eZ.fM _ _;have I:=(d.out.2.1.r G).r<|eZ.fM _ _;have x:fc w.heap.size [Â Æ p,Ñ b] 246 (Č<|w.alloc<|Ð #[Â Æ p,Ñ b] 246):=(fc.N w [Â Æ p,Ñ b] 246).I (eZ.fM e9 _) id;let⟨i0,J,L,M,N⟩:=í zd;have i:=e7<|Á J<|Á L<|Á M N;clear J L M N W X;refine lM (λg=>g.cell? ⟨w.heap.size,0,Ä⟩=Ã (Â Æ p)/\g.cell? ⟨w.heap.size,1,Ä⟩=Ã (Ñ b)) [] fj ?_;have k:=e7<|Á (x.r 0 _ rfl)<|x.r 1 _ rfl;generalize w.heap.size=ub at*;generalize Č (w.alloc<|Ð #[Â Æ p,Ñ b] 246)=w1 at*;iterate 3 apply tk k.out
 apply tk k.out 6;apply tk k.out 7;apply gq 3;intro K f;go_simp;go_at_call 159;refine(G1 _ _).mono ?_;rintro e P ⟨rfl,qi⟩;subst P;dsimp only;rw[m_];apply f.out _ _ λ_=>k.out;clear f K;apply gq 4;intro K f;go_simp;go_at_call 118;refine(xh b.toNat F _ I).mono ?_;rintro e P ⟨rfl,y⟩;have T2:=Y.fF y;have z:=x.I y id;have P2:=I.r y;have Q:=e7<|Á (z.r 0 _ rfl)<|z.r 1 _ rfl;dsimp only;apply f.out _ _ λ_=>Q.out;clear f K;apply tk Q.out 5;apply gq 8;intro K f;go_simp;go_at_call 118;refine(xh p C _ P2).mono ?_;rintro e w3 ⟨rfl,S⟩;have h:=z.I S id;dsimp only;apply f.out _ _ λ_=>⟨h.r 0 _ U,h.r 1 _ U⟩;clear f K;apply gq 9;intro K f;go_simp;apply f.out _ _ λ_=>⟨h.r 0 _ U,h.r 1 _ U⟩;clear f K;have T:=eZ.gB e9 w3 #[Í<|gG b.toNat++⟨#[58]⟩++gG p] 9;have l:=(T2.fF S).fF T;have o:=h.I T id;apply gq 10;intro K f;go_simp;apply f.out _ _ λ_=>⟨o.r 0 _ U,o.r 1 _ U⟩;clear f K;apply gq 11;intro K f;refine KJ (base:=u.heap.size) (n:=xs.length) (xs:=kq xs) (m:=1) fR _ _ 25 fR ù i.out.1 i.out.2.1 i.out.2.2.1 i.out.2.2.2 U fR l.fh ⟨_,0,Ä⟩ [Í<|gG b.toNat++⟨#[58]⟩++gG p] fR Z U (ÿ _ _ _) (λc q=>by simp at q;subst q;rfl) (by unfold Ą;omega) Z l.r.M ?_;intro tv1 w9 B;obtain⟨a2,ZF,rfl⟩:=jx B.fh;have q:=o.I B.r<|jl l.fh o A;apply f.out _ _ λ_=>⟨q.r 0 _ U,q.r 1 _ U⟩;clear f K;apply gq 12;intro K f;go_simp;apply f.out _ _ λ_=>⟨q.r 0 _ U,q.r 1 _ U⟩;clear f K;try simp only[ĵ,Õ,ã,ä]
 refine ly fj ?_ _;go_wp2_with fail;exact d.out.2.2 _ _ _ (gk _)<|l.C B
def Sl(O:Option ă)(n cp:Nat)(u:É)(l:List (Int×Bool))(a:é)(w:É):Prop:=
 ∃(j:Nat) (v:È),Ec O n cp v j a/\j<=n/\gW u v ((l.take j).map Ea) w
def Sm(O:Option ă)(n cp:Nat)(u:É)(l:List (Int×Bool))(a:é)(w:É):Prop:=
 ∃v,Ec O n cp v n a/\gW u v (l.map Ea) w
def Lh(n:Nat)(a:é)(_:É):Nat:=match a.tmps.getD 8 ā with
 |Â _ i=>n-i.toNat
 |_=>0
def n_(b:Ec O n cp v i y):Lh n y w=n-i:=by obtain⟨u,rfl⟩:=b;show n-(i:Int).toNat=_;simp
def amW{l:List (Int×Bool)}(m:n=l.length)(o:n<=1000)(p:yY l)(r:lb u)(g:mS O (tT l) u)(a:é)(w:É)(s:Sl O n cp u l a w): Î À Lg (Exit.then (λb d=>Sl O n cp u l b d/\Lh n b d<Lh n a w)<|QQ<|Sm O n cp u l) a w:=by
 let⟨j,v,h,G,c⟩:=s;rw[n_ h];obtain⟨b,rfl⟩:=h;by_cases t:j=n
 .subst t;refine amU b _ U λa q=>⟨v,q,?_⟩;rwa[m,List.take_length]at c
 .obtain⟨x,e⟩:∃x,l[j]?=Ã x:=⟨_,Ô Z⟩;obtain⟨g0,y⟩:=Sj _ _ l j x e;let⟨z,B,i,C⟩:=g (j*2) _ g0;let⟨H,I,k,D⟩:=g (j*2+1) _ y;rw[i]at k;cases k;have f:=p x<|Ġ e;refine amV b c j Z o (by simp;omega) x.1.toNat x.2 (by have:=f.1;have:=f.2;omega) (r.r c.r) z B i (by rw[Ĕ f.1];exact c.r.r C id) (c.r.r D id) λa d E q F=>⟨⟨j+1,E,q,Z,?_⟩,by rw[n_ q];omega⟩;rwa[Α,e,Υ]
def amX{l:List (Int×Bool)}(b:n=l.length)(g:n<=1000)(c:yY l)(d:lb w)(f:mS O (tT l) w): Ò À 125 #[Ê O n cp] w λe a=>∃v,e=Ç v/\gW w v (l.map Ea) a:=by
 have L:∀a,Ec O n cp (Ê Ä 0 0) (0:Nat) a->Î À (à Lg) (QQ<|Sm O n cp w l) a w:=λa h=>
  Ĉ (Sl O n cp w l) (Lh n) ⟨0,_,h,â _,gW.M w<|eZ.fO _ _⟩<|amW b g c d f
 have H:=e7 L;clear L c d f b;go_enter Tryz.func125,Tryz.ntmps125;go_wp2_with fail;refine Ý (Q:=QQ<|Sm O n cp w l) ?_ (H.out _ (gk _));rintro(_|(_|_)|_|_|_|_) a v hq;all_goals first|exact absurd hq id|skip
 let⟨v,i,e⟩:=hq;obtain⟨u,rfl⟩:=i;unfold Eb;have j:=e7 e;clear e;go_wp2_with fail;go_ret;exact⟨_,U,j.out⟩
end
def BL(j:Nat):ByteArray:=ø ⟨#[48,49,50,51,52,53,54,55,56,57,97,98,99,100,101,102]⟩ j<|j+1
def BM(s t:St)(i j:Nat):List ByteArray:=if(s i).C j=(t i).C j then[]else[iz i++BL j]
def qw(s t:St)(i j:Nat):List ByteArray:=(ċ j).flatMap<|BM s t i
def xi(b a:Int)(p c:ByteArray)(i:Nat):List ByteArray:=(if b=a then[]else[iz i++⟨#[36]⟩])++(if p.toList=c.toList then[]else[iz i++⟨#[123]⟩])
def ze(s t:St)(i:Nat):List ByteArray:=xi (s i).fp (t i).fp (s i).r (t i).r i++qw s t i 16
def qx(s t:St)(n:Nat):List ByteArray:=(ċ n).flatMap<|ze s t
def amY(s t:St)(i j:Nat):(BM s t i j).length<=1:=by unfold BM;split<;>simp
def Sn(s t:St)(i j:Nat):qw s t i (j+1)=qw s t i j++BM s t i j:=by unfold qw;rw[Ŏ,Ţ];simp
theorem Li(s t:St)(i:Nat):∀j,(qw s t i j).length<=j
 |0=>by simp[qw]
 |j+1=>by rw[Sn,Ó];have:=Li s t i j;have:=amY s t i j;omega
theorem o_(b a:Int)(p c:ByteArray)(i:Nat):(xi b a p c i).length<=2:=by unfold xi;rw[Ó];split<;>split<;>simp
def p_(s t:St)(n:Nat):qx s t (n+1)=qx s t n++ze s t n:=by unfold qx;rw[Ŏ,Ţ];simp
def So(s t:St):∀n,(qx s t n).length<=18*n
 |0=>by simp[qx]
 |n+1=>by rw[p_,Ó];have:=So s t n;unfold ze;rw[Ó];have:=Li s t n 16;have:=o_ (s n).fp (t n).fp (s n).r (t n).r n;omega
def xj(i:Nat):(iz i).size<=1:=by unfold iz;rw[ŋ];omega
def q_(i:Nat):(BL i).size<=1:=by unfold BL;rw[ŋ];omega
def lO.gM{s:St}(c:lO n s h W)(a:i<8):W.cell? ⟨n,i*18,Ä⟩=Ã (Â Æ (s i).fp)/\W.cell? ⟨n,i*18+1,Ä⟩=Ã (Í (s i).r)/\∀j,j<16->W.cell? ⟨n,i*18+2+j,Ä⟩=Ã (Â Æ<|(s i).C j):=by
 have g:∀j,j<144->W.cell? ⟨n,j,Ä⟩=Ã (pF s j):=λj b=>by have:=c.C j _<|R6 s b;simpa using this
 refine⟨?_,?_,λj b=> ?_⟩
 .rw[g _ Z,<-qp s (Ê Ä 0 0) Z,GZ _ _ a];rfl
 .rw[g _ Z,<-qp s (Ê Ä 0 0) Z,KC _ _ a]
 .rw[g _ Z,<-qp s (Ê Ä 0 0) Z,KD _ _ a b];rfl
noncomputable def zf:ŏ:=(Tryz.f126.body.bind ko).getD Ķ
noncomputable def xk:ŏ:=(ko zf).getD Ķ
def tY(a b i:Nat)(c:È)(j:Int)(u:Nat->È):é:=⟨#[Å<|Ã ⟨a,0,Ä⟩,Å<|Ã ⟨b,0,Ä⟩,u 2,u 3,u 4,c,Â Ë i,Í<|iz i,Å<|Ã ⟨a,i*18,Ä⟩,Å<|Ã ⟨b,i*18,Ä⟩,u 10,Â Ë i,u 12,u 13,u 14,u 15,u 16,u 17,u 18,u 19,u 20,u 21,u 22,u 23,u 24,u 25,u 26,u 27,u 28,u 29,u 30,u 31,u 32,u 33,u 34,u 35,u 36,u 37,u 38,u 39,u 40,u 41,u 42,u 43,u 44,u 45,u 46,u 47,u 48,u 49,u 50,u 51,u 52,u 53,Â Ë j,u 55,u 56,u 57,u 58,u 59,u 60,u 61,u 62,u 63,u 64,u 65,u 66,u 67,u 68,u 69,u 70,u 71,u 72,u 73,u 74,u 75,u 76,u 77,u 78,u 79,u 80,u 81],[]⟩
def tZ(b c i:Nat)(d:È)(j:Int)(a:é):Prop:=∃u,a=tY b c i d j u
def sH(a b:Nat)(c:È)(i:Int)(u:Nat->È):é:=⟨#[Å<|Ã ⟨a,0,Ä⟩,Å<|Ã ⟨b,0,Ä⟩,u 2,u 3,u 4,c,u 6,u 7,u 8,u 9,u 10,Â Ë i,u 12,u 13,u 14,u 15,u 16,u 17,u 18,u 19,u 20,u 21,u 22,u 23,u 24,u 25,u 26,u 27,u 28,u 29,u 30,u 31,u 32,u 33,u 34,u 35,u 36,u 37,u 38,u 39,u 40,u 41,u 42,u 43,u 44,u 45,u 46,u 47,u 48,u 49,u 50,u 51,u 52,u 53,u 54,u 55,u 56,u 57,u 58,u 59,u 60,u 61,u 62,u 63,u 64,u 65,u 66,u 67,u 68,u 69,u 70,u 71,u 72,u 73,u 74,u 75,u 76,u 77,u 78,u 79,u 80,u 81],[]⟩
def ve(b c:Nat)(d:È)(i:Int)(a:é):Prop:=∃u,a=sH b c d i u
section
variable{X:é->É->Prop}{w0:É}{xs:List ByteArray}{s t:St}
def amZ(u:Nat->È)(b:∀a,tZ n j i v (16:Nat) a->X a w): Î À xk (Exit.then K<|Q2 X) (tY n j i v (16:Nat) u) w:=by
 unfold tY;conv=>arg 2;whnf
 go_wp2_with fail
 exact b _ (gk _)
def am0(u:Nat->È)(b:Nat)(d:i<8)(e:b<16)(p:Int)(f:w.cell? ⟨n,i*18+2+b,Ä⟩=Ã (Â Æ p))(g:w.cell? ⟨j,i*18+2+b,Ä⟩=Ã (Â Æ p)) (c:∀a,tZ n j i v ((b+1:Nat):Int) a->K a w.drew): Î À xk (Exit.then K<|Q2 X) (tY n j i v b u) w:=by
 unfold tY;conv=>arg 2;whnf
 have h:(0:Int)<=(b:Int):=Z
 have k:(b:Int)<16:=Z
 have H:=e7 c;clear c;go_wp2_with fail;go_region;go_wp2_with fail;exact H.out _ (gk _)
def am1(u:Nat->È)(d:gW w0 v xs w)(t:xs.length<=1000)(b:Nat)(x:i<8)(y:b<16)(p q:Int)(z:(p==q)=Ï)(B:w.cell? ⟨n,i*18+2+b,Ä⟩=Ã (Â Æ p))(C:w.cell? ⟨j,i*18+2+b,Ä⟩=Ã (Â Æ q)) (f:∀a g h,tZ n j i g ((b+1:Nat):Int) a->gW w0 g (xs++[iz i++BL b]) h->K a h): Î À xk (Exit.then K<|Q2 X) (tY n j i v b u) w:=by
 unfold tY;conv=>arg 2;whnf
 have D:(0:Int)<=(b:Int):=Z
 have E:(b:Int)<16:=Z
 have F:Ë.wrap ((b:Int)+1)=(b:Int)+1:=by rw[ó];omega
 have G:(0:Int)<=(b:Int)+1:=Z
 have I:(b:Int)+1<=16:=Z
 have J:(b:Int)<=(b:Int)+1:=Z
 have L:((b:Int)+1).toNat=b+1:=Z
 have M:¬9223372036854775807<(iz i).size+(BL b).size:=by have:=xj i;have:=q_ b;omega
 have N:ø ⟨#[48,49,50,51,52,53,54,55,56,57,97,98,99,100,101,102]⟩ b (b+1)=BL b:=U;obtain⟨O,P,rfl⟩:=jx d.fh;let⟨Q,k,l,o,r⟩:=í zd;have c:=e7<|Á k<|Á l<|Á o r;have H:=e7<|Á d f;clear d f k l o r;go_wp2_with fail;go_region;go_wp2_with (at_builtin;refine Bq (base:=w0.heap.size) (n:=xs.length) (xs:=kq xs) (m:=1) U _ _ 25 U ù c.out.1 c.out.2.1 c.out.2.2.1 c.out.2.2.2 U U ((H.out.1).fF kp).fh ⟨_,0,Ä⟩ [Í<|iz i++BL b] U Z U (ÿ _ _ _) (λu e=>by simp at e;subst e;rfl) (by unfold Ą;omega) Z ((H.out.1).fF kp).r.M ?_;intro S T e;obtain⟨V,W,rfl⟩:=jx e.fh;have s:=e7<|((H.out.1).fF kp).C e;clear e);exact H.out.2 _ _ _ (gk _) s.out
def DJ(n j i:Nat)(w0:É)(xs:List ByteArray)(s t:St)(a:é)(w:É):Prop:=
 ∃(b:Nat) (v:È),tZ n j i v b a/\b<=16/\gW w0 v (xs++qw s t i b) w
def vf(n j i:Nat)(w0:É)(xs:List ByteArray)(s t:St)(a:é)(w:É):Prop:=
 ∃(v:È),tZ n j i v (16:Nat) a/\gW w0 v (xs++qw s t i 16) w
def Lj(a:é)(_:É):Nat:=match a.tmps.getD 54 ā with
 |Â _ i=>16-i.toNat
 |_=>0
def Sp(c:tZ n j i v b y):Lj y w=16-b:=by obtain⟨u,rfl⟩:=c;show 16-(b:Int).toNat=_;simp
def am2(o:lO n s h w0)(p:lO j t c w0)(e:i<8)(B:xs.length<=900)(a:é)(w:É)(r:DJ n j i w0 xs s t a w): Î À xk (Exit.then (λb g=>DJ n j i w0 xs s t b g/\Lj b g<Lj a w)<|Q2<|vf n j i w0 xs s t) a w:=by
 let⟨b,v,l,C,d⟩:=r;rw[Sp l];obtain⟨u,rfl⟩:=l;by_cases x:b=16
 .subst x;exact amZ u λa q=>⟨v,q,d⟩
 .have m:=d.r.r ((o.gM e).2.2 b Z) id;have k:=d.r.r ((p.gM e).2.2 b Z) id;by_cases q:(s i).C b=(t i).C b
  .rw[<-q]at k;refine am0 u b e Z _ m k λa f=>⟨⟨b+1,v,f,Z,?_⟩,by rw[Sp f];omega⟩;rw[Sn,BM,if_pos q,ò];exact d.fF<|eZ.fM _ _
  .refine am1 u d (by rw[Ó];have:=Li s t i b;omega) b e Z _ _ (by simpa using q) m k λa y g f z=>⟨⟨b+1,y,f,Z,?_⟩,by rw[Sp f];omega⟩;rwa[Sn,BM,if_neg q,<-Ċ]
def am3(u:Nat->È)(b:∀a,ve n j v (8:Nat) a->X a w): Î À zf (Exit.then K<|QQ X) (sH n j v (8:Nat) u) w:=by
 unfold sH;conv=>arg 2;whnf
 go_wp2_with fail
 exact b _ (gk _)
def am4(u:Nat->È)(d:gW w0 v xs w)(E:xs.length<=800)(F:i<8)(b h:Int)(p k:ByteArray)(G:(b==h)=Ú)(I:(p.toList==k.toList)=Ú)(l:w0.cell? ⟨n,i*18,Ä⟩=Ã (Â Æ b))(m:w0.cell? ⟨j,i*18,Ä⟩=Ã (Â Æ h))(f:w0.cell? ⟨n,i*18+1,Ä⟩=Ã (Í p))(g:w0.cell? ⟨j,i*18+1,Ä⟩=Ã (Í k)) (L:∀a e W,tZ n j i e (0:Nat) a->gW w0 e xs W->Î À (à xk) (Q2<|vf n j i w0 xs s t) a W) (o:∀a e q,ve n j e ((i+1:Nat):Int) a->gW w0 e (xs++qw s t i 16) q->K a q): Î À zf (Exit.then K<|QQ X) (sH n j v i u) w:=by
 unfold sH;conv=>arg 2;whnf
 have J:=d.r.r l id;have M:=d.r.r m id;have N:=d.r.r f id;have O:=d.r.r g id;have P:(0:Int)<=(i:Int):=Z
 have S:(i:Int)<8:=Z
 have T:Ë.wrap ((i:Int)+1)=(i:Int)+1:=by rw[ó];omega
 have V:(0:Int)<=(i:Int)+1:=Z
 have Y:(i:Int)+1<=8:=Z
 have qi:(i:Int)<=(i:Int)+1:=Z
 have tJ:((i:Int)+1).toNat=i+1:=Z
 have Hq:¬9223372036854775807<(iz i).size+1:=by have:=xj i;omega
 have Sq:ø ⟨#[97,98,99,100,101,102,103,104]⟩ i (i+1)=iz i:=U;obtain⟨ta,tc,rfl⟩:=jx d.fh;let⟨i0,r,x,y,z⟩:=í zd;have HI:=e7<|Á r<|Á x<|Á y z;have H:=e7<|Á d<|Á f<|Á g<|Á L o;clear d r x y z L o l m f g;go_wp2_with fail;go_region;go_wp2_with fail;go_region;go_wp2_with fail;go_region;go_wp2_with fail;refine Ý (Q:=Q2<|vf n j i w0 xs s t) ?_ (H.out.2.2.2.1 _ _ _ (gk _)<|(H.out.1).fF kp);rintro(_|(_|_|_|_)|_|_|_|_) a c hq;all_goals first|exact absurd hq id|skip
 let⟨Sr,C,B⟩:=hq;obtain⟨c,rfl⟩:=C;unfold tY;have D:=e7 B;clear B;go_wp2_with fail;exact H.out.2.2.2.2 _ _ _ (gk _) D.out
def am5(u:Nat->È)(d:gW w0 v xs w)(G:xs.length<=800)(I:i<8)(b l:Int)(p o:ByteArray)(J:(b==l)=Ú)(M:(p.toList==o.toList)=Ï)(q:w0.cell? ⟨n,i*18,Ä⟩=Ã (Â Æ b))(r:w0.cell? ⟨j,i*18,Ä⟩=Ã (Â Æ l))(h:w0.cell? ⟨n,i*18+1,Ä⟩=Ã (Í p))(k:w0.cell? ⟨j,i*18+1,Ä⟩=Ã (Í o)) (L:∀a e W,tZ n j i e (0:Nat) a->gW w0 e (xs++[iz i++⟨#[123]⟩]) W->Î À (à xk) (Q2<|vf n j i w0 (xs++[iz i++⟨#[123]⟩]) s t) a W) (x:∀a e y,ve n j e ((i+1:Nat):Int) a->gW w0 e ((xs++[iz i++⟨#[123]⟩])++qw s t i 16) y->K a y): Î À zf (Exit.then K<|QQ X) (sH n j v i u) w:=by
 unfold sH;conv=>arg 2;whnf
 have N:=d.r.r q id;have O:=d.r.r r id;have P:=d.r.r h id;have S:=d.r.r k id;have T:(0:Int)<=(i:Int):=Z
 have V:(i:Int)<8:=Z
 have Y:Ë.wrap ((i:Int)+1)=(i:Int)+1:=by rw[ó];omega
 have De:(0:Int)<=(i:Int)+1:=Z
 have yn:(i:Int)+1<=8:=Z
 have qi:(i:Int)<=(i:Int)+1:=Z
 have tJ:((i:Int)+1).toNat=i+1:=Z
 have Hq:¬9223372036854775807<(iz i).size+1:=by have:=xj i;omega
 have Sq:ø ⟨#[97,98,99,100,101,102,103,104]⟩ i (i+1)=iz i:=U;obtain⟨ta,tc,rfl⟩:=jx d.fh;let⟨i0,z,B,C,D⟩:=í zd;have f:=e7<|Á z<|Á B<|Á C D;have H:=e7<|Á d<|Á h<|Á k<|Á L x;clear d z B C D L x q r h k;go_wp2_with fail;go_region;go_wp2_with fail;go_region;go_wp2_with fail;go_region;go_wp2_with (at_builtin;refine Bq (base:=w0.heap.size) (n:=xs.length) (xs:=kq xs) (m:=1) U _ _ 25 U ù f.out.1 f.out.2.1 f.out.2.2.1 f.out.2.2.2 U U ((H.out.1).fF kp).fh ⟨_,0,Ä⟩ [Í<|iz i++⟨#[123]⟩] U Z U (λc u g=>eZ.r (X:=e9) kp (ÿ w (Í<|iz i++⟨#[123]⟩) 9 c u g) id) (λu g=>by simp at g;subst g;rfl) (by unfold Ą;omega) Z ((H.out.1).fF kp).r.M ?_;intro E F c;obtain⟨ta2,tc2,rfl⟩:=jx c.fh;have g:=e7<|((H.out.1).fF kp).C c;clear c);refine Ý (Q:=Q2<|vf n j i w0 (xs++[iz i++⟨#[123]⟩]) s t) ?_ (H.out.2.2.2.1 _ _ _ (gk _)<|(g.out).fF kp);rintro(_|(_|_|_|_)|_|_|_|_) a c hq;all_goals first|exact absurd hq id|skip
 let⟨Sr,E,g⟩:=hq;obtain⟨c,rfl⟩:=E;unfold tY;have F:=e7 g;clear g;go_wp2_with fail;exact H.out.2.2.2.2 _ _ _ (gk _) F.out
def am6(u:Nat->È)(d:gW w0 v xs w)(I:xs.length<=800)(J:i<8)(b l:Int)(p o:ByteArray)(M:(b==l)=Ï)(N:(p.toList==o.toList)=Ú)(q:w0.cell? ⟨n,i*18,Ä⟩=Ã (Â Æ b))(r:w0.cell? ⟨j,i*18,Ä⟩=Ã (Â Æ l))(h:w0.cell? ⟨n,i*18+1,Ä⟩=Ã (Í p))(k:w0.cell? ⟨j,i*18+1,Ä⟩=Ã (Í o)) (L:∀a e W,tZ n j i e (0:Nat) a->gW w0 e (xs++[iz i++⟨#[36]⟩]) W->Î À (à xk) (Q2<|vf n j i w0 (xs++[iz i++⟨#[36]⟩]) s t) a W) (x:∀a e y,ve n j e ((i+1:Nat):Int) a->gW w0 e ((xs++[iz i++⟨#[36]⟩])++qw s t i 16) y->K a y): Î À zf (Exit.then K<|QQ X) (sH n j v i u) w:=by
 unfold sH;conv=>arg 2;whnf
 have O:=d.r.r q id;have P:=d.r.r r id;have S:=d.r.r h id;have T:=d.r.r k id;have V:(0:Int)<=(i:Int):=Z
 have Y:(i:Int)<8:=Z
 have n9:Ë.wrap ((i:Int)+1)=(i:Int)+1:=by rw[ó];omega
 have De:(0:Int)<=(i:Int)+1:=Z
 have yn:(i:Int)+1<=8:=Z
 have qi:(i:Int)<=(i:Int)+1:=Z
 have tJ:((i:Int)+1).toNat=i+1:=Z
 have Hq:¬9223372036854775807<(iz i).size+1:=by have:=xj i;omega
 have Sq:ø ⟨#[97,98,99,100,101,102,103,104]⟩ i (i+1)=iz i:=U;have KR:(xs++[iz i++⟨#[36]⟩]).length=xs.length+1:=fg
 obtain⟨ta,tc,rfl⟩:=jx d.fh;let⟨i0,z,B,C,D⟩:=í zd;have f:=e7<|Á z<|Á B<|Á C D;have H:=e7<|Á d<|Á h<|Á k<|Á L x;clear d z B C D L x q r h k;go_wp2_with fail;go_region;go_wp2_with fail;go_region;go_wp2_with (at_builtin;refine Bq (base:=w0.heap.size) (n:=xs.length) (xs:=kq xs) (m:=1) U _ _ 25 U ù f.out.1 f.out.2.1 f.out.2.2.1 f.out.2.2.2 U U ((H.out.1).fF kp).fh ⟨_,0,Ä⟩ [Í<|iz i++⟨#[36]⟩] U Z U (λc u g=>eZ.r (X:=e9) kp (ÿ w (Í<|iz i++⟨#[36]⟩) 9 c u g) id) (λu g=>by simp at g;subst g;rfl) (by unfold Ą;omega) Z ((H.out.1).fF kp).r.M ?_;intro E F c;obtain⟨G,tc1,rfl⟩:=jx c.fh;have g:=e7<|((H.out.1).fF kp).C c;clear c);have d3:=g.out.r.r H.out.2.1 id;have d4:=g.out.r.r H.out.2.2.1 id;go_region;go_wp2_with fail;refine Ý (Q:=Q2<|vf n j i w0 (xs++[iz i++⟨#[36]⟩]) s t) ?_ (H.out.2.2.2.1 _ _ _ (gk _)<|(g.out).fF kp);rintro(_|(_|_|_|_)|_|_|_|_) a c hq;all_goals first|exact absurd hq id|skip
 let⟨Sr,F,E⟩:=hq;obtain⟨c,rfl⟩:=F;unfold tY;have G:=e7 E;clear E;go_wp2_with fail;exact H.out.2.2.2.2 _ _ _ (gk _) G.out
def am7(u:Nat->È)(f:gW w0 v xs w)(N:xs.length<=800)(O:i<8)(b q:Int)(p r:ByteArray)(P:(b==q)=Ï)(S:(p.toList==r.toList)=Ï)(x:w0.cell? ⟨n,i*18,Ä⟩=Ã (Â Æ b))(y:w0.cell? ⟨j,i*18,Ä⟩=Ã (Â Æ q))(k:w0.cell? ⟨n,i*18+1,Ä⟩=Ã (Í p))(l:w0.cell? ⟨j,i*18+1,Ä⟩=Ã (Í r)) (L:∀a g W,tZ n j i g (0:Nat) a->gW w0 g ((xs++[iz i++⟨#[36]⟩])++[iz i++⟨#[123]⟩]) W->Î À (à xk) (Q2<|vf n j i w0 ((xs++[iz i++⟨#[36]⟩])++[iz i++⟨#[123]⟩]) s t) a W) (z:∀a g B,ve n j g ((i+1:Nat):Int) a->gW w0 g (((xs++[iz i++⟨#[36]⟩])++[iz i++⟨#[123]⟩])++qw s t i 16) B->K a B): Î À zf (Exit.then K<|QQ X) (sH n j v i u) w:=by
 unfold sH;conv=>arg 2;whnf
 have T:=f.r.r x id;have V:=f.r.r y id;have Y:=f.r.r k id;have c4:=f.r.r l id;have e0:(0:Int)<=(i:Int):=Z
 have e1:(i:Int)<8:=Z
 have n9:Ë.wrap ((i:Int)+1)=(i:Int)+1:=by rw[ó];omega
 have De:(0:Int)<=(i:Int)+1:=Z
 have yn:(i:Int)+1<=8:=Z
 have qi:(i:Int)<=(i:Int)+1:=Z
 have tJ:((i:Int)+1).toNat=i+1:=Z
 have Hq:¬9223372036854775807<(iz i).size+1:=by have:=xj i;omega
 have Sq:ø ⟨#[97,98,99,100,101,102,103,104]⟩ i (i+1)=iz i:=U;have G:(xs++[iz i++⟨#[36]⟩]).length=xs.length+1:=fg
 obtain⟨ta,tc,rfl⟩:=jx f.fh;let⟨i0,C,D,E,F⟩:=í zd;have e:=e7<|Á C<|Á D<|Á E F;have H:=e7<|Á f<|Á k<|Á l<|Á L z;clear f C D E F L z x y k l;go_wp2_with fail;go_region;go_wp2_with fail;go_region;go_wp2_with (at_builtin;refine Bq (base:=w0.heap.size) (n:=xs.length) (xs:=kq xs) (m:=1) U _ _ 25 U ù e.out.1 e.out.2.1 e.out.2.2.1 e.out.2.2.2 U U ((H.out.1).fF kp).fh ⟨_,0,Ä⟩ [Í<|iz i++⟨#[36]⟩] U Z U (λc u d=>eZ.r (X:=e9) kp (ÿ w (Í<|iz i++⟨#[36]⟩) 9 c u d) id) (λu d=>by simp at d;subst d;rfl) (by unfold Ą;omega) Z ((H.out.1).fF kp).r.M ?_;intro J I o;obtain⟨M,tc1,rfl⟩:=jx o.fh;have h:=e7<|((H.out.1).fF kp).C o;clear o);have d3:=h.out.r.r H.out.2.1 id;have d4:=h.out.r.r H.out.2.2.1 id;go_region;go_wp2_with (at_builtin;refine Bq (base:=w0.heap.size) (n:=(xs++[iz i++⟨#[36]⟩]).length) (xs:=kq<|xs++[iz i++⟨#[36]⟩]) (m:=1) U _ _ 25 U ù e.out.1 e.out.2.1 e.out.2.2.1 e.out.2.2.2 U U ((h.out).fF kp).fh ⟨_,0,Ä⟩ [Í<|iz i++⟨#[123]⟩] U Z U (λc u d=>eZ.r (X:=e9) kp (ÿ I (Í<|iz i++⟨#[123]⟩) 9 c u d) id) (λu d=>by simp at d;subst d;rfl) (by unfold Ą;omega) Z ((h.out).fF kp).r.M ?_;intro d o c;obtain⟨J,M,rfl⟩:=jx c.fh;have I:=e7<|((h.out).fF kp).C c;clear c);have d:=I.out;rw[G]at d;refine Ý (Q:=Q2<|vf n j i w0 ((xs++[iz i++⟨#[36]⟩])++[iz i++⟨#[123]⟩]) s t) ?_ (H.out.2.2.2.1 _ _ _ (gk _)<|(d).fF kp);rintro(_|(_|_|_|_)|_|_|_|_) a c hq;all_goals first|exact absurd hq id|skip
 let⟨Sr,J,o⟩:=hq;obtain⟨c,rfl⟩:=J;unfold tY;have M:=e7 o;clear o;go_wp2_with fail;exact H.out.2.2.2.2 _ _ _ (gk _) M.out
def DO(n j:Nat)(w0:É)(s t:St)(a:é)(w:É):Prop:=
 ∃(i:Nat) (v:È),ve n j v i a/\i<=8/\gW w0 v (qx s t i) w
def Ss(n j:Nat)(w0:É)(s t:St)(a:é)(w:É):Prop:=
 ∃(v:È),ve n j v (8:Nat) a/\gW w0 v (qx s t 8) w
def Hr(a:é)(_:É):Nat:=match a.tmps.getD 11 ā with
 |Â _ i=>8-i.toNat
 |_=>0
def q'(b:ve n j v i y):Hr y w=8-i:=by obtain⟨u,rfl⟩:=b;show 8-(i:Int).toNat=_;simp
def am8(B:lO n s h w0)(C:lO j t c w0)(a:é)(w:É)(E:DO n j w0 s t a w): Î À zf (Exit.then (λq g=>DO n j w0 s t q g/\Hr q g<Hr a w)<|QQ<|Ss n j w0 s t) a w:=by
 let⟨i,v,D,H,l⟩:=E;rw[q' D];obtain⟨u,rfl⟩:=D;by_cases F:i=8
 .subst F;exact am3 u λa q=>⟨v,q,l⟩
 have k:i<8:=Z
 have I:=So s t i;let⟨m,o,_⟩:=B.gM k;let⟨p,r,_⟩:=C.gM k;have L:∀q:List ByteArray,q.length<=900->∀a b W,tZ n j i b (0:Nat) a->gW w0 b q W->Î À (à xk) (Q2<|vf n j i w0 q s t) a W:=λq y a b W G z=>
  Ĉ (DJ n j i w0 q s t) Lj ⟨0,b,G,Z,by show gW w0 b (q++[]) W;rwa[ò]⟩<|am2 B C k y
 have x:∀q:List ByteArray,qx s t i++xi (s i).fp (t i).fp (s i).r (t i).r i=q->∀a b g,ve n j b ((i+1:Nat):Int) a->gW w0 b (q++qw s t i 16) g->DO n j w0 s t a g/\Hr a g<8-i:=λq y a b g f z=>⟨⟨i+1,b,f,Z,by rwa[p_,ze,<-Ċ,y]⟩,by rw[q' f];omega⟩;by_cases d:(s i).fp=(t i).fp<;>by_cases e:(s i).r.toList=(t i).r.toList
 .exact am4 u l Z k _ _ _ _ (by simpa using d) (by simpa using e) m p o r (L _ Z)<|x _<|by unfold xi;rw[if_pos d,if_pos e,ò,ò]
 .exact am5 u l Z k _ _ _ _ (by simpa using d) (by simpa using e) m p o r (L _<|by rw[Ó];simp;omega)<|x _<|by unfold xi;rw[if_pos d,if_neg e,Ξ]
 .exact am6 u l Z k _ _ _ _ (by simpa using d) (by simpa using e) m p o r (L _<|by rw[Ó];simp;omega)<|x _<|by unfold xi;rw[if_neg d,if_pos e,ò]
 .exact am7 u l Z k _ _ _ _ (by simpa using d) (by simpa using e) m p o r (L _<|by rw[Ó,Ó];simp;omega)<|x _<|by unfold xi;rw[if_neg d,if_neg e,Ċ]
def am9(b:lO n s h w)(d:lO j t c w): Ò À 126 #[Å<|Ã ⟨n,0,Ä⟩,Å<|Ã ⟨j,0,Ä⟩] w λe a=>∃v,e=Ç v/\gW w v (qx s t 8) a:=by
 have L:∀a,ve n j (Ê Ä 0 0) (0:Nat) a->Î À (à zf) (QQ<|Ss n j w s t) a w:=λa f=>
  Ĉ (DO n j w s t) Hr ⟨0,_,f,â _,gW.M w<|eZ.fO _ _⟩<|am8 b d
 have H:=e7 L;clear L b d;go_enter Tryz.func126,Tryz.ntmps126;go_wp2_with fail;refine Ý (Q:=QQ<|Ss n j w s t) ?_ (H.out _ (gk _));rintro(_|(_|_)|_|_|_|_) a v hq;all_goals first|exact absurd hq id|skip
 let⟨k,g,e⟩:=hq;obtain⟨u,rfl⟩:=g;unfold sH;have i:=e7 e;clear e;go_wp2_with fail;go_ret;exact⟨_,U,i.out⟩
end
def ana:(À.info? 5).map (λi=>(i.zero,i.size,i.bytes))=Ã (Ã<|Â aT 0,1,1):=fj
theorem eZ.G(f:X p.block)(n:Nat):eZ X w (w.freeze p n):=by
 by_cases b:n=0
 .rw[Đ,if_pos b];exact eZ.fO _ _
 rw[Đ,if_neg b];refine⟨fg,λk _ g=> ?_,λa i o h=> ?_,λ_ a=>by have:=Zu a p n;rwa[Đ,if_neg b]at this⟩
 .grind
 .simp only[Û]at h;split at h
  .cases d:w.heap[i]? with
   |none=>rw[d]at h;cases h
   |some e=>
    have:=a _ _ d;rw[d]at h;cases e with
    |cells c t z=>simp only[ñ,è]at h;subst h;exact λx=>x
    |_=>exact absurd trivial this
  .exact a i o h
def r_:(À.info? 109).map (·.size)=Ã 2:=fj
def anb:liesAt À À.depth 109 (2/À.cellsOf 109) 0 109 1=Ú:=fj
def anc(b:Nat)(w:É)(d:w.cell? ⟨b,0,Ä⟩=Ã (Å<|Ã ⟨b,0,Ä⟩)):Ò À 78 #[Å<|Ã ⟨b,0,Ä⟩] w λe a=>e=Ç (æ #[])/\a=w:=by let⟨j,c,_⟩:=Ì.1 r_;go_enter aI,aC;go_wp2;rw[Lib.run_neq_ptr_same w _ ĳ c];go_wp2;go_end0;exact⟨U,U⟩
def ane(b:Nat)(w:É)(g:w.cell? ⟨b,0,Ä⟩=Ã (Å Ä))(a:w.shape? b=Ã (109,2))(h:w.frozen? ⟨b,0,Ä⟩=Ï):Ò À 78 #[Å<|Ã ⟨b,0,Ä⟩] w λe d=>e=Ç (æ #[])/\d=w.setCell ⟨b,0,Ä⟩ (Å<|Ã ⟨b,0,Ä⟩):=by let⟨j,c,f⟩:=Ì.1 r_;go_enter aI,aC;go_wp2;rw[Lib.run_to_unsafe w ⟨b,0,Ä⟩ ĳ ŭ c (by rw[f];decide) a<|Nat.zero_lt_succ 1];simp only[į];rw[Ħ];go_wp2;rw[ţ Tryz.func129 fj fj fj fj];rw[Lib.run_noEscape];simp only[į];rw[Ħ];go_wp2;rw[Lib.run_from_unsafe w ⟨b,0,Ä⟩ ŭ ĳ c a anb];simp only[į];rw[Ħ];go_wp2;go_end0;exact⟨U,U⟩
theorem t_{base:Nat}{u h:õ}(j:P.underlying t=Ã (bl e))(k:P.underlying u=Ã .string)(p:P.info? e=Ã zJ)(G:zJ.zero=Ã (Â aT 0)) (D:zJ.size=1) (H:zJ.bytes=1) (E:w.ownsRow base e 1 v n l) (s:ByteArray) (J:n+s.size<=Ą) (Q:n+s.size<=140737488355328) (r:(Ō #[t,u] h #[v,Í s]).run P w=φ z W) (I:lI e=Ï):(jU w->jU W)/\(∀m,rB m w->rB m W):=by
 have S:n+s.size<=9223372036854775807:=by simp only[Ą]at J;omega
 have K:l.length=n:=by simpa using E.1
 rcases E.2 with⟨rfl,rfl⟩|⟨g,y,B,rfl,V,F,X,Y,L,htake⟩
 .by_cases C:s.size=0
  .have a:=Lib.run_firstCells_string (P:=P) w 1 s;rw[C]at a;simp[Ō,ř j,ř k,sizeOf,typeInfo,p,D,br,C,a]at r;grind
  .have b:=run_append_nil_string w t u h e zJ (Â aT 0) j k p G s Z Z (by rw[H];omega);rw[r]at b;cases b;exact⟨λa=>GR a _ _ _,λ_ a=>GU a _ _ _<|Ø I⟩
 .by_cases M:n+s.size<=y
  .have ar7:B.size=y:=by simpa using L
   have b:=Lib.run_append_room_string w t u h e zJ j k p D g n y B F s M Z;rw[r]at b;cases b;refine⟨λa q o d=> ?_,λm a q c T N C d O=> ?_⟩
   .by_cases f:q=g
    .subst f;rw[ĝ w q B _ e _ F]at d;cases d;exact λx=>x
    .rw[ė w g q _ f]at d;exact a q o d
   .by_cases f:q=g
    .subst f;rw[ĝ w q B _ e _ F]at d;grind
    .rw[ė w g q _ f]at d;exact a q c T N C d O
  .have c:=E.cells U;have b:=Lib.run_append_grow_string w t u h e zJ (Â aT 0) j k p G ⟨g,0,Ä⟩ n y l (by rw[D];simpa using K) c s Z Z (by rw[H];exact ŕ Z Z);rw[r]at b;cases b;exact⟨λa=>GR a _ _ _,λ_ a=>GU a _ _ _<|Ø I⟩
def anf{P:Program}{ops:Array Oper}{rest:List Oper}{o:Oper}{a:Act}{Q:Exit->Act->World->Prop}{w:World}(Rh:o.guard=none)(sl x:Operand)(t u:TypeId) (ho:o.op=.call {callee:=.builtin .append,args:=#[sl,x],argTypes:=#[t,u]}) {base:Nat} {e:TypeId} {i:TypeInfo} (ht:P.underlying t=some (.slice e)) (hu:P.underlying u=some .string) (hi:P.info? e=some i) (hz:i.zero=some (.int .u8 0)) (wV:i.size=1) (wW:i.bytes=1) {v:Value} {n:Nat} {xs:List Value} (hs:a.eval sl=v) (kX:w.ownsRow base e 1 v n xs) (s:ByteArray) (hx:a.eval x=.string s) (Br:n+s.size<=maxLen) (Bs:n+s.size<=140737488355328) (Bp:base<=w.heap.size) (h:∀v' w',w'.ownsRow base e 1 v' (n+s.size) (xs++Lib.strCells s)->eZ (λk=>v.ownBlock=some k) w w'->wpList P ops Q rest (a.put o.dst v') w') (hT:lI e=false:=by decide):wpList P ops Q (o::rest) a w:=by refine ű Rh λK hK=> ?_;let⟨v',w',hr,h2,h3,_⟩:=Lib.run_append_own_string w base t u o.type e i ht hu hi hz wV wW v n xs kX s Br Bs Bp;have kp:eZ (λk=>v.ownBlock=Ã k) w w':=⟨h3.size,λk hk q=>h3.block k hk λe=>q e.symm,(t_ ht hu hi hz wV wW kX s Br Bs hr hT).1,(t_ ht hu hi hz wV wW kX s Br Bs hr hT).2⟩;unfold Ń Ĥ;simp only[ho,ae,aO,af,Ų,ų,Ĵ,ļ,Ť,Ŵ,hs,hx,hr];exact hK _ _<|h v' w' h2 kp
structure ox(w0:É)(b:Nat)(bs:List È)(w:É):Prop where
 I:w0.heap.size<=b
 r:eZ e9 w0 w
 C:∃v,fc b [Å<|Ã ⟨b,0,Ä⟩,v] 109 w/\w.ownsRow w0.heap.size 5 1 v bs.length bs
def ox.fF(h:ox u b l w)(k:eZ e9 w W):ox u b l W:=by let⟨v,a,c⟩:=h.C;exact⟨h.I,h.r.e8 k,v,a.I k id,gV c k λ_ _=>id⟩
theorem Sv(h:ox u b l w)(s:ByteArray)(m:l.length+s.size<=140737488355328): Ò À 55 #[Å<|Ã ⟨b,0,Ä⟩,Í s] w λe i=>e=Ç (æ #[Â Ë s.size,.nilIface])/\ox u b (l++Lib.strCells s) i:=by
 let⟨B,c,n,o,p⟩:=í ana;let⟨v,a,d⟩:=h.C;obtain⟨C,D,rfl⟩:=jx d;have t:=a.r 0 _ U;have E:=a.r 1 _ U;have x:=h.r.M;have y:=jl d a A;have H:=e7<|Á h<|Á c<|Á n<|Á o<|Á p<|Á a d;go_enter Tryz.func55,Tryz.ntmps55;go_wp2_with (first
  |(go_at_call 78;refine(anc b _ t).mono ?_;rintro e i ⟨rfl,j⟩;subst i)
  |(at_builtin;refine anf U _ _ 107 9 U ý đ H.out.2.1 H.out.2.2.1 H.out.2.2.2.1 H.out.2.2.2.2.1 U H.out.2.2.2.2.2.2 s U (by unfold Ą;omega) m x ?_;intro g f j k;obtain⟨q,r,rfl⟩:=jx j;have i:=H.out.2.2.2.2.2.1.I k y;have z:=i.r 0 _ U;have F:=i.r 1 _ U;have G:=i.C 1;have e:=e7 (Á k (Á i j));clear k i j))
 go_ret2;have z:=e.out.2.1.fW 1<|Ê q (l.length+s.size) r;have g:eZ (λk=>k=b) f (f.setCell ⟨b,1,Ä⟩<|Ê q (l.length+s.size) r):=eZ.I (X:=λk=>k=b) U _<|Ù e.out.2.1.G;refine⟨U,H.out.1.I,(H.out.1.r.C e.out.1 λi c q=> ?_).C g λi c q=> ?_,_,z,?_⟩
 .have:=(H.out.2.2.2.2.2.2.lt i q).1;omega
 .have:=H.out.1.I;omega
 .have:=gV e.out.2.2 g λj q r=>jl e.out.2.2 e.out.2.1 A (by rw[q,r]);grind [Ó,Lib.strCells_length]
def ang:(À.info? 5).map (·.size)=Ã 1:=fj
def anh:À.cellsOf 5=1:=fj
structure Hs(w0:É)(b:Nat)(p:È)(w:É):Prop where
 C:w0.heap.size<=b
 I:eZ e9 w0 w
 r:fc b [p,Ê Ä 0 0] 109 w
section
variable{w0:É}{p:È}
def Hs.CF(h:Hs w0 b (Å<|Ã ⟨b,0,Ä⟩) w)(f:d.size<=Ą):ox w0 b [] ((w.alloc<|Ð d 5).setCell ⟨b,1,Ä⟩<|Ê (Ã ⟨w.heap.size,0,Ä⟩) 0 d.size).drew.drew.drew:=by have a:=eZ.gB e9 w d 5;have c:eZ (λk=>k=b) (w.alloc<|Ð d 5) ((w.alloc<|Ð d 5).setCell ⟨b,1,Ä⟩<|Ê (Ã ⟨w.heap.size,0,Ä⟩) 0 d.size):=eZ.I (X:=λk=>k=b) U _<|Ù (h.r.I a id).G;have k:=(h.r.I a id).fW 1<|Ê (Ã ⟨w.heap.size,0,Ä⟩) 0 d.size;have m:=h.r.M;have g:(w.alloc<|Ð d 5).ownsRow w0.heap.size 5 1 (Ê (Ã ⟨w.heap.size,0,Ä⟩) 0 d.size) 0 []:= ⟨U,Ù ⟨w.heap.size,d.size,d,U,h.I.M,ì w _,â _,f,fg,fg⟩⟩;have l:ox w0 b [] ((w.alloc<|Ð d 5).setCell ⟨b,1,Ä⟩<|Ê (Ã ⟨w.heap.size,0,Ä⟩) 0 d.size):= ⟨h.C,(h.I.e8 a).C c λi n q=>by have:=h.C;omega,_,k,gV g c λj q r=>by cases q;have e:w.heap.size=b:=r;omega⟩;exact((l.fF<|eZ.fM _ _).fF<|eZ.fM _ _).fF<|eZ.fM _ _
theorem ani(h:Hs w0 b (Å<|Ã ⟨b,0,Ä⟩) w)(n:Nat)(j:n<=281474976710656): Ò À 79 #[Å<|Ã ⟨b,0,Ä⟩,Â Ë n] w λe c=>e=Ç (æ #[])/\ox w0 b [] c:=by
 let⟨a,g,o,k⟩:=Lib.run_makeNoZero w.drew #[3] 107 5 ý n j;have i:Ë.wrap (Ë.wrap 0+(n:Int))=n:=by grind [ó]
 have p:(callFunc 130 #[Â Ë<|Ë.wrap<|Ë.wrap 0+(n:Int)]).run À w.drew=φ (.value<|Ê (Ã ⟨w.drew.heap.size,0,Ä⟩) n a.size) (w.drew.drew.drew.alloc<|Ð a 5):=by rw[i,ţ Tryz.func130 fj fj fj fj,g];rfl
 have e:=e7 (Á (show w.drew.cell? ⟨b,1,Ä⟩=Ã (Ê Ä 0 0)from h.r.r 1 _ rfl) trivial);have d:=h.r.I (eZ.gB e9 w a 5) id;have l:=d.r 1 _ U;have f:=l;have q:=d.C 1;have r:∀W:É,(ν #[107,107] 3 #[Ê (Ã ⟨w.heap.size,0,Ä⟩) 0 a.size,Ê Ä 0 0]).run À W=φ (goInt 0) W:= λW=>run_copy_none W 107 107 3 5 _ _ 0 a.size 0 0 ý ang U;have m:=e7 (h.CF<|k<|by unfold Ą;omega);clear i h d g;go_enter Tryz.func79,Tryz.ntmps79;go_wp2;refine lM (λc=>c.cell? ⟨b,1,Ä⟩=Ã (Ê Ä 0 0)/\True) [] fj ?_;iterate 8 apply tk e.out
 apply tk e.out 9;apply tk e.out 10;apply tk e.out 11;apply tk e.out 12;apply tk e.out 13;refine gq 8 ?_;intro K c;go_simp;refine c.out _ _ (λ_=>⟨f,trivial⟩) ?_;refine gq 14 ?_;intro K c;go_simp;refine c.out _ _ (λ_=>⟨f,trivial⟩) ?_;refine gq 15 ?_;intro K c;go_simp;refine c.out _ _ (λ_=>⟨f,trivial⟩) ?_;refine ly fj ?_ _;go_wp2;go_end0;exact⟨U,m.out⟩
def anj(h:Hs w0 b (Å Ä) w)(n:Nat)(l:0<n)(d:n<=281474976710656): Ò À 54 #[Å<|Ã ⟨b,0,Ä⟩,Â Ë n] w λe a=>e=Ç (æ #[])/\ox w0 b [] a:=by
 have f:w.shape? b=Ã (109,2):=by have i:w.heap[b]?=_:=h.r;simp[Ÿ,i]
 have c:=e7 (show Hs w0 b (Å<|Ã ⟨b,0,Ä⟩) (w.setCell ⟨b,0,Ä⟩<|Å<|Ã ⟨b,0,Ä⟩).drew from⟨h.C,(h.I.C (eZ.I (X:=λk=>k=b) U _<|Ù h.r.G) λi k q=>by have:=h.C;omega).e8<|eZ.fM _ _,(h.r.fW 0 _).I (eZ.fM e9 _) id⟩);have k:=e7<|Á (c.out.r.r 1 _ rfl) trivial;have q:=h.r.r 0 _ U;have g:=h.r.C 0;have m:¬((n:Int)<0):=Z
 have o:(0:Int)<(n:Int):=Z
 have p:Ë.wrap 0<(n:Int):=by rw[ó];omega
 go_enter Tryz.func54,Tryz.ntmps54;go_wp2_with (go_at_call 78;refine(ane b w q f g).mono ?_;rintro e a ⟨rfl,i⟩;subst a);refine lM (λa=>a.cell? ⟨b,1,Ä⟩=Ã (Ê Ä 0 0)/\True) [] fj ?_;iterate 13 apply tk k.out
 refine ly fj ?_ _;go_wp2_with (go_at_call 79;refine(ani c.out n d).mono ?_;rintro e a ⟨rfl,i⟩;have j:=e7 i;clear i);go_end0;exact⟨U,j.out⟩
def ank{l:List UInt8}(h:ox w0 b (ô l) w)(d:l≠[]): Ò À 56 #[Å<|Ã ⟨b,0,Ä⟩] w λe K=>e=Ç (Í ⟨l.toArray⟩)/\eZ e9 w0 K:=by
 let⟨v,f,c⟩:=h.C;have n:l.length≠0:=by simpa using d
 rw[Ř]at c;obtain⟨g,e,a,rfl,t,o,u,s,y,z⟩:∃g e a,v=Ê (Ã ⟨g,0,Ä⟩) l.length e/\w0.heap.size<=g/\w.heap[g]?=Ã (Ð a 5 (0,0))/\l.length<=e/\e<=Ą/\a.size=e*1/\a.toList.take (l.length*1)=ô l:=by
  rcases c.2 with⟨_,i⟩|⟨g,e,a,j,r⟩
  .exact absurd i n
  .exact⟨g,e,a,j,r⟩
 have m:=e7 (Á (show w.drew.cell? ⟨b,1,Ä⟩=Ã (Ê (Ã ⟨g,0,Ä⟩) l.length e)from f.r 1 _ rfl) trivial);have B:∀W:É,(υ #[107] 177 #[Ê (Ã ⟨g,0,Ä⟩) l.length e]).run À W=φ (Å<|Ã ⟨g,0,Ä⟩) W:=λW=>
  Lib.run_unsafeSliceData_row _ _ _ _ _ _ Z
 have C:(Ő #[177,3] 9 #[Å<|Ã ⟨g,0,Ä⟩,Â Ë l.length]).run À w.drew=φ (Í ⟨l.toArray⟩) (w.drew.freeze ⟨g,0,Ä⟩ l.length):=by refine Ĺ w.drew 177 3 9 5 Ū anh g a.size (by have i:w.drew.heap[g]?=Ã (Ð a 5 (0,0)):=o;simp[Ÿ,i]) l d Z (by unfold Ą at s;omega) ?_;intro j x i;have:=c.cells U j (Â aT x.toNat) (by simp[ô,i]);exact this
 have x:=e7 ((h.r.e8<|eZ.fM _ _).C (eZ.G (X:=λk=>k=g) (p:=⟨g,0,Ä⟩) U l.length) λi j q=>by omega);have j:=e7 (Á ((eZ.G (X:=λk=>k=g) (p:=⟨g,0,Ä⟩) rfl l.length).r m.out.1 λq=>jl c f A<|by show Ã g=Ã b;rw[show g=b from(show b=g from q).symm]) trivial);go_enter Tryz.func56,Tryz.ntmps56;go_wp2;refine lM (λK=>K.cell? ⟨b,1,Ä⟩=Ã (Ê (Ã ⟨g,0,Ä⟩) l.length e)/\True) [] fj ?_;iterate 10 apply tk m.out
 apply gq 10;intro K i;go_simp;apply i.out _ _ λ_=>j.out;apply gq 11;intro K i;go_simp;apply i.out _ _ λ_=>j.out;refine ly fj ?_ _;go_wp2;go_ret;exact⟨U,x.out⟩
end
end Go.Proofs.Y.iy
