import Derived.Test.YtgpphkdoanciiaaGreatDoorWAC
import Derived.Test.YtgpphkdoanciiaaGreatDoorChecked
import Derived.WalkKit
import Derived.WalkSpells
import Derived.WalkLawsBesides
import Derived.Deep.Light
import Derived.Maps.AppendAt
import Derived.RegionTactic
import Derived.Deep.RegionWith
import Derived.Deep.QuietTactic
import Derived.BigQuiet
import Derived.Deep.RegionHeld3
import Derived.WalkMore
import Derived.Deep.MidRow
import Derived.Great.Walk
import Derived.Lib.UnsafeStr
import Derived.Lib.BufferWrite
import Derived.Laws.Tables
import Derived.Laws.Bits64
import Derived.Shelf.Strconv.Itoa0
import Derived.Shelf.Strconv.Itoa1
import Derived.Shelf.LaysM
import Derived.Shelf.Strconv.Itoa2
import Derived.Shelf.Strconv.Itoa3
import Derived.Shelf.Strings.Repeat
import Derived.Shelf.Strings.OnBuilder
import Derived.Shelf.Strconv.Clone
import Derived.Shelf.Strings.Prefix
import Derived.Shelf.Bits.Mul64
import Derived.Test.YtgpphkdoanciiaaGreatDoorProg
import Derived.Lib.ItoaLen
set_option linter.all false
set_option maxRecDepth 1000000
set_option maxHeartbeats 8000000
open Go.Proofs.Tryz renaming prog->À,ntmps205->å,func205->ê,underlying25->ù,underlying107->ý,underlying9->đ,underlying3->ě,underlying4->Ĝ,zeroValue3->ħ,zeroValue4->Ĩ,zeroValue9->ĩ,underlying106->ĳ,underlying36->ĸ,ntmps170->ĺ,zeroValue36->ŀ,func170->Ņ,ntmps66->Ň,sizeOf3->ň,sizeOf4->ŉ,sizeOf9->Ŋ,func66->ś,isAgg3->Ŝ,isAgg4->ŝ,isAgg9->Ş,ntmps154->ť,ntmps113->Ŧ,sizeOf36->ŧ,underlying177->Ū,underlying168->Ŭ,underlying170->ŭ,func154->Ź,func187->ź,func113->Ż,zeroValue168->Ž,isAgg36->ž,underlying95->ſ,underlying0->Δ,underlying5->Ε,zeroValue95->Ζ,zeroValue0->Ρ,zeroValue5->Τ,sizeOf168->ε,ntmps209->η,ntmps210->θ,ntmps173->κ,ntmps168->ν,ntmps196->ο,ntmps169->π,ntmps187->ρ,isAgg168->ς,sizeOf95->σ,ntmps172->υ,func209->ai,func210->ak,func173->au,func168->av,func196->ax,func169->ay,sizeOf0->aA,sizeOf5->aB,isAgg95->aD,func172->aE,ntmps78->aF,isAgg0->aJ,isAgg5->aK,func78->aL,f161->bg
open And renaming intro->Á
open Go.Value renaming int->Â,pointer->Å,slice->Ê,string->Í,bool->Ñ,tuple->æ,agg->Ē,cells->Ġ,ownBlock->Į
open Option renaming some->Ã,none->Ä,map_eq_some_iff->Ì,map_some->ñ,isSome_none->ũ,map->ū
open Go.IntKind renaming u64->Æ,i64->Ë,wrap_i64->ó,u8->aW,wrap_u64->bb
open Go renaming Value->Ç,World->É,Calls->Ò,Act->é,heap_alloc_new->ì,info_parts->í,bodyPost_ret->ð,TypeId->ô,cell_one_new->ÿ,undef->Ă,Addr->Ą,maxLen->ą,wp_loop->ĉ,wpList_load_mid->Ė,setRow_other->Ę,setRow_heap->Ğ,execOp->ĥ,all_oneCell_toArray->Ī,wpList_store_mid->ľ,Code->ŏ,grownCap->Œ,growslice_fits->ŕ,run_underlying->ř,Oper->ş,run_callFunc_extern->ţ,Operand->Ů,wpList_plain->ű,cell_two_new->ŵ,grownCap_ge->Θ,run_append_grow->Λ,run_loadVar_mid->Ν,ready_mono->Ω,wpOp_step->ψ,resolve->ag,builtin->ah,yielded->aj,results->ar,Ending->az,Program->aH,invoke->aR,wpList->aT,Exit->aV
open Go.Ending renaming returned->È
open Go.Code renaming wp->Î,wp_mono->Ý,loop->à,skip->Ķ
open Bool renaming false->Ï,true->Ú,false_eq_true->ĭ
open Go.Obj renaming cells->Ð
open List renaming length_append->Ó,getElem?_eq_getElem->Ô,setIfInBounds_toArray->Õ,getElem?_eq_some_iff->Ü,eq_nil_of_length_eq_zero->ß,set_cons_zero->ã,set_cons_succ->ä,getElem?_append_left->ç,append_nil->ò,mem_append->ú,getElem?_range->û,getElem?_append_right->ü,ext_getElem?->þ,size_toArray->Ĉ,append_assoc->Ċ,range->ċ,drop_eq_getElem_cons->ē,length_set->ĕ,drop_eq_nil_of_le->ę,set_append_left->ğ,mem_of_getElem?->ġ,getD_eq_getElem?_getD->Ĳ,getElem?_map->ķ,map_toArray->ļ,length_cons->Ľ,mem_map->ņ,range_succ->Ŏ,mem_append_left->œ,getElem?_set_ne->Ŗ,mem_cons_of_mem->Ś,flatMap_append->Ţ,map_cons->Ť,map_nil->Ŵ,take_add_one->Α,mem_flatMap->Β,length_nil->Μ,nil_append->Ξ,length_map->Ο,map_append->Υ
open Int renaming le_refl->Ö,toNat_of_nonneg->Ĕ,toNat_natCast->Ŷ,le_trans->ŷ
open Or renaming inl->Ø,inr->Ù
open Array renaming getElem?_modify->Û,size_replicate->Ď,getD_eq_getD_getElem?->ī,replicate->ō,toList_append->Š,length_toList->š,size_append->Ű
open Nat renaming le_refl->Þ,zero_le->â,le_trans->ë,le_add_right->Ŀ,zero_add->ł,add_mul->ő,mul_le_mul_right->Ŕ,mul_one->ŗ,lt_of_lt_of_le->Ũ,lt_or_ge->ů,mod_lt->aQ
open Go.World renaming block_lt_of_cell?->á,ownsRow_nil->ā,alloc->ă,setCell->Ć,drew->Č,freeze->Đ,shape?->Ÿ,cell?->Η
open Option.some renaming injEq->è
open Go.Operand renaming tmp->î,func->bk
open Go.Ground renaming data->ï
open Go.Lib renaming byteCells->õ,nDigits->č,zeros24->Ģ,decDigits_length->ģ,run_unsafeString_row->Ĺ,decDigits->Ļ,byteCells_length->Ř,TabIs->ae,pow10Tab->aC
open Go.Builtin renaming zeroCells->ö,append_->Ō,unsafeString_->Ő,copy_->ξ,unsafeSliceData_->φ,min->br,lenOf->bz
open ByteArray renaming extract->ø,size_extract->ŋ,ext->bu
open Go.Region renaming ready->Ā,wanted->ĝ,binds->ń,Mode->Ι
open Go.Great renaming wpList_runTo->ć
open Go.RowKit.Below renaming heap_alloc->ď,heap_setCell->ė
open False renaming elim->Ě
open Go.Obj.cells renaming injEq->Ĥ
open Go.Oper renaming upon_value->Ħ,wp->Ń
open Go.Shelf renaming Ren->Ĭ
open Go.Result renaming andThen->į,andThen_ok->Ĵ,ok->χ
open Go.TypeDesc renaming isRow->İ,slice->bq
open Go.Instr renaming fill->ı,index->Κ
open Go.Act renaming put->ĵ
open Go.Sort renaming mapBlock->Ł,putRow->ζ
open Go.Sem renaming run_bind->Ų,run_pure->ų
open Go.Op renaming build->Χ,call->aG,alloc->bl
open Go.Proofs.Lays renaming n283->aN,n285->aO,n212->aP,n99->aU
variable{i n j b k m J j9 j7 j6:Nat}{w u W jX:É}{v x z jQ:Ç}{a p:Ą}{h c:Int}{e t T:ô}{d q:Array Ç}{P:aH}{y:é}{B:ByteArray}{X:Nat->Prop}{O:Option Ą}{l:List Ç}{yQ:Bool}{K H:é->É->Prop}{o:ş}{D:Nat->Nat}{jJ:List Nat}{qQ:Ů}{zQ:List Int}{zJ:Go.TypeInfo}{xX:Ů->Ç}{xJ:Nat×Nat}{vX:List ByteArray}{vJ:aV->é->É->Prop}{s:Go.Func}
namespace Go.Proofs.Y.gw
open Go Go.Proofs Go.RowKit Go.Proofs.Y.Lift
def fc{p:Prop}(h:p):Hid p:=h
def r_{b:Bool}(h:yQ=b):È (Ñ yQ)=È (Ñ b):=by rw[h]
def FL{k:IntKind}{b:Int}(h:c=b):È (Â k c)=È (Â k b):=by rw[h]
def t_{b:ByteArray}(h:B=b):È (Í B)=È (Í b):=by rw[h]
def kq:Ç->Bool
 |Â aW _=>Ï
 |Â _ _=>Ú
 |Ñ _=>Ú
 |_=>Ï
def mj(T:ô):Bool:=T==257||T==246
def sj(m:Nat)(w:É):Prop:=∀(b:Nat) (c:Array Ç) (T:ô) (v:Nat×Nat),m<=b->w.heap[b]?=Ã (Ð c T v)->mj T=Ú->0<c.size/\∀v∈c.toList,kq v=Ú
def NF(b:Nat)(w:É):Prop:=∀(c:Array Ç) (T:ô) (a:Nat×Nat),w.heap[b]?=Ã (Ð c T a)->mj T=Ï
structure e8(X:Nat->Prop)(w w':É):Prop where
 M:w.heap.size<=w'.heap.size
 N:∀k,k<w.heap.size->¬X k->w'.heap[k]?=w.heap[k]?
 gT:ko w->ko w'
 Y:∀m,sj m w->sj m w'
section
variable{Y:Nat->Prop}{w' d:É}
theorem e8.fU(X:Nat->Prop)(w:É):e8 X w w:=⟨Þ _,λ_ _ _=>rfl,id,λ_=>id⟩
def e8.fe(h:e8 X W jX)(k:e8 X jX d):e8 X W d:= ⟨ë h.M k.M,λi b c=>(k.N i (Ũ b h.M) c).trans<|h.N i b c,λa=>k.gT<|h.gT a,λm a=>k.Y m<|h.Y m a⟩
def e8.S(h:e8 X w w')(b:∀k,k<w.heap.size->X k->Y k):e8 Y w w':= ⟨h.M,λk a c=>h.N k a λx=>c<|b k a x,h.gT,h.Y⟩
def e8.C(h:e8 X W jX)(k:e8 Y jX d)(e:∀i,i<W.heap.size->Y i->X i):e8 X W d:= ⟨ë h.M k.M,λi b c=>(k.N i (Ũ b h.M) λy=>c<|e i b y).trans<|h.N i b c,λa=>k.gT<|h.gT a,λm a=>k.Y m<|h.Y m a⟩
def alp(a:ko w)(p:Ą)(v:Ç):ko (w.setCell p v):=by
 intro i o h;by_cases e:i=p.block
 .subst e;unfold Ć at h;simp only[Û,if_true]at h;cases b:w.heap[p.block]? with
  |none=>rw[b]at h;cases h
  |some d=>
   have:=a _ _ b;rw[b]at h;cases d with
   |cells c t z=>simp only[ñ,è]at h;subst h;exact λx=>x
   |_=>exact absurd trivial this
 .rw[ė _ _ _ _ (by simpa using e)]at h;exact a i o h
theorem Ja(a:ko w)(b:Array Ç)(t:ô)(z:Nat×Nat):ko (w.alloc<|Ð b t z):=by
 intro i o h;by_cases e:i<w.heap.size
 .rw[ď _ _ _ e]at h;exact a i o h
 .by_cases c:i=w.heap.size
  .subst c;rw[ì]at h;cases h;exact λx=>x
  .have:(w.alloc<|Ð b t z).heap.size<=i:=by simp;omega
   grind
def alq(a:sj m w)(p:Ą)(v:Ç)(f:kq v=Ú\/NF p.block w):sj m (w.setCell p v):=by
 intro i c T k g h b;by_cases e:i=p.block
 .subst e;unfold Ć at h;simp only[Û,if_true]at h;cases d:w.heap[p.block]? with
  |none=>rw[d]at h;cases h
  |some l=>
   rw[d]at h;cases l with
   |cells o t z=>
    simp only[ñ,è,Ĥ]at h;obtain⟨n,rfl,rfl⟩:=h;rcases f with f|f
    .subst n;split
     .exact a _ _ _ _ g d b
     .refine⟨by rw[Array.size_setIfInBounds];exact(a _ _ _ _ g d b).1,λu j=> ?_⟩;rw[Array.toList_setIfInBounds]at j;rcases List.mem_or_eq_of_mem_set j with q|q
      .exact(a _ _ _ _ g d b).2 u q
      .rwa[q]
    .rw[f _ _ _ d]at b;cases b
   |_=>cases h
 .rw[ė _ _ _ _ (by simpa using e)]at h;exact a i c T k g h b
theorem Jb(a:sj m w)(b:Array Ç)(t:ô)(z:Nat×Nat)(j:mj t=Ï\/0<b.size/\∀v∈b.toList,kq v=Ú):sj m (w.alloc<|Ð b t z):=by
 intro i c T d f h g;by_cases e:i<w.heap.size
 .rw[ď _ _ _ e]at h;exact a i c T d f h g
 .by_cases k:i=w.heap.size
  .grind [ì]
  .have:(w.alloc<|Ð b t z).heap.size<=i:=by simp;omega
   grind
def e8.I{p:Addr}(hx:X p.block)(v:Value)(hv:kq v=true\/NF p.block w:=by first|exact Or.inl (by rfl)|exact Or.inr<|by assumption):e8 X w (w.setCell p v):= ⟨fi,λk _ hk=>ė _ _ _ _ (by intro e;subst e;exact hk hx),λa=>alp a p v,λ_ a=>alq a p v hv⟩
def e8.gE(X:Nat->Prop)(w:World)(cs:Array Value)(t:TypeId)(hf:mj t=false\/0<cs.size/\∀v∈cs.toList,kq v=true:=by first|exact Or.inl (by decide)|exact Or.inr ⟨by simp,by simp[kq]⟩):e8 X w (w.alloc<|.cells cs t):= ⟨fi,λk hk _=>ď _ _ _ hk,λa=>Ja a cs t (0,0),λ_ a=>Jb a cs t (0,0) hf⟩
def e8.iP(X:Nat->Prop)(w:É)(n:Nat):e8 X w (w.drewN n):=⟨Þ _,λ_ _ _=>rfl,id,λ_=>id⟩
def e8.fS(X:Nat->Prop)(w:É):e8 X w w.drew:=⟨Þ _,λ_ _ _=>rfl,id,λ_=>id⟩
def kp{X:Nat->Prop}{w w':World}(h:e8 X w w':=by repeat' (first|(with_reducible exact e8.fU _ _)|(with_reducible refine e8.fe ?_<|e8.iP _ _ _)|(with_reducible refine e8.fe ?_<|e8.fS _ _)|(with_reducible refine e8.fe ?_<|e8.gE _ _ _ _))):e8 X w w':=h
def e8.r(h:e8 X w w')(b:w.cell? a=Ã v)(c:¬X a.block):w'.cell? a=Ã v:=by rwa[World.cell?_of_block<|h.N _ (á w a b) c]
end
def Jc{u:Ç}(h:j≠b):(w.setCell ⟨j,i,Ä⟩ u).cell? ⟨b,n,Ä⟩=w.cell? ⟨b,n,Ä⟩:= World.cell?_setCell_other _ _ _ _<|by intro e;injection e with e1 e2;exact h e1
def ff(j:Nat)(vs:List Ç)(T:ô)(w:É):Prop:=w.heap[j]?=Ã (Ð vs.toArray T (0,0))
section
variable{vs:List Ç}{w':É}
def ff.N(w:É)(vs:List Ç)(T:ô):ff w.heap.size vs T (w.alloc<|Ð vs.toArray T):=ì w _
def ff.M(h:ff j vs T w):j<w.heap.size:=by
 rcases ů j w.heap.size with a|a
 .exact a
 .unfold ff at h;rw[Array.getElem?_eq_none a]at h;cases h
def ff.r(h:ff j vs T w)(i:Nat)(v:Ç)(a:vs[i]?=Ã v):w.cell? ⟨j,i,Ä⟩=Ã v:=by unfold ff at h;simp only[Η,h,ũ,ĭ,if_false,List.getElem?_toArray];exact a
def ff.C(h:ff j vs T w)(i:Nat):w.frozen? ⟨j,i,Ä⟩=Ï:=by unfold ff at h;simp[World.frozen?,h]
def ff.Aw(h:ff j vs T w)(e:w'.heap[j]?=w.heap[j]?):ff j vs T w':=by unfold ff;rwa[e]
def ff.I(h:ff j vs T w)(k:e8 X w w')(a:¬X j):ff j vs T w':=h.Aw<|k.N j h.M a
theorem ff.fP(h:ff j vs T w)(i:Nat)(u:Ç):ff j (vs.set i u) T (w.setCell ⟨j,i,Ä⟩ u):=by unfold ff at h|-;unfold Ć;grind
def ff.G(h:ff j vs T w)(hT:mj T=false:=by decide):NF j w:=λc T' fr q=>by unfold ff at h;rw[h]at q;cases q;exact hT
theorem ff.S(h:ff j vs T w)(k:ff i l e w)(a:T≠e):j≠i:=by rintro rfl;unfold ff at h k;grind
end
section
variable{w':É}{base:Nat}{size:Nat}{xs:List Ç}
def alr(h:w.ownsRow base e size v n xs)(k:∀j,v.ownBlock=Ã j->w'.heap[j]?=w.heap[j]?):w'.ownsRow base e size v n xs:=by
 let⟨c,a⟩:=h;refine⟨c,?_⟩;rcases a with a|⟨g,d,f,b,i,l,r⟩
 .exact Ø a
 .refine Ù ⟨g,d,f,b,i,?_,r⟩;rw[k g (by rw[b];rfl)];exact l
def ie(h:w.ownsRow base e size v n xs)(k:e8 X w w')(b:∀j,v.ownBlock=Ã j->¬X j):w'.ownsRow base e size v n xs:= alr h λj a=>k.N j (h.lt j a).2<|b j a
theorem jj(h:w.ownsRow base e size v n xs):∃a c,v=Ê a n c:=by rcases h.2 with⟨b,d⟩|⟨g,f,i,b,_⟩;all_goals grind
theorem lX(h:w.ownsRow base e size v n xs)(a:v.ownBlock=Ã j):∃b,w.heap[j]?=Ã (Ð b e (0,0)):=by
 rcases h.2 with⟨c,_⟩|⟨g,f,b,c,_,d,_⟩
 .rw[c]at a;cases a
 .rw[c]at a;cases a;exact⟨b,d⟩
theorem jD(h:w.ownsRow base e size v n xs)(k:ff j l T w)(a:e≠T):v.ownBlock≠Ã j:=by intro q;let⟨b,c⟩:=lX h q;unfold ff at k;grind
theorem als(h:w.ownsRow base e size v n xs)(k:w.ownsRow i t b x m l)(a:e≠t)(c:v.ownBlock=Ã j):x.ownBlock≠Ã j:=by grind [lX]
theorem SL{n:Nat}(h:v∈(ö d n).toList):v∈d.toList:=by unfold ö at h;grind [Array.toList_map,getElem,aQ]
structure qy(w:É)(base:Nat)(e:ô)(size:Nat)(v:Ç)(n:Nat)(xs:List Ç)(m:Nat)(news:List Ç)(v':Ç)(w':É):Prop where
 fj:w'.ownsRow base e size v' (n+m) (xs++news)
 r:e8 (λk=>v.ownBlock=Ã k) w w'
 C:v'.ownBlock=v.ownBlock\/v'.ownBlock=Ã w.heap.size
 I:∀v0 n0 xI,w.ownsRow base e size v0 n0 xI->(v0.ownBlock=v.ownBlock->n0<=n)->w'.ownsRow base e size v0 n0 xI
def qy.alu(c:w.ownsRow base e size v n xs)(f:l.length=m*size)(g:base<=w.heap.size)(j:n+m<=i)(o:i<=ą)(p:d.size=i*size)(q:d.toList.take ((n+m)*size)=xs++l)(r:mj e=Ï\/0<d.size/\∀v∈d.toList,kq v=Ú): qy w base e size v n xs m l (Ê (Ã ⟨w.heap.size,0,Ä⟩) (n+m) i) (w.drew.alloc<|Ð d e):=by have b:∀X,e8 X w (w.drew.alloc<|Ð d e):=λX=>⟨fi,λk s _=>ď _ _ _ s,λa=>Ja a d e (0,0),λ_ a=>Jb a d e (0,0) r⟩;refine⟨⟨by rw[Ó,c.1,f,ő],Ù ⟨w.heap.size,i,d,U,g,ì w.drew _,j,o,p,q⟩⟩,b _,Ù U,λt u x h _=>ie h (b λ_=>False) λ_ _=>id⟩
theorem SN{ty:ô}{bytes:Nat}(F:P.underlying t=Ã (bq e))(G:P.info? e=Ã zJ)(Q:zJ.zero=Ã z) (xK:zJ.size=size) (xL:zJ.bytes=bytes) (sd:z.cells.size=size) (p:w.ownsRow base e size v n xs) (a:Ą) (c:Nat) (b:List Ç) (hm:0<m) (r:b.length=m*size) (H:∀j u,b[j]?=Ã u->w.cell? (a.add j)=Ã u) (h1:∀u∈b,u.oneCell'=Ú) (S:n+m<=ą) (V:(n+m)*bytes<=140737488355328) (De:base<=w.heap.size) (W:mj e=Ï\/(0<b.length/\(∀u∈xs++b,kq u=Ú)/\∀u∈z.cells.toList,kq u=Ú)): ∃x w',(Ō #[t,t] ty #[v,Ê (Ã a) m c]).run P w=χ x w'/\qy w base e size v n xs m b x w':=by
 subst xK;subst xL;have alv:n+m<=9223372036854775807:=by simp only[ą]at S;omega
 have hlen:(xs++b).length=(n+m)*zJ.size:=by rw[Ó,p.1,r,ő]
 have au6:=p;have tk:∀d,((xs.toArray++b.toArray++ö z.cells (Œ w (n+m) d e-(n+m))).toList.take ((n+m)*zJ.size)=xs++b):=λd=>by grind
 have sz:∀d,(xs.toArray++b.toArray++ö z.cells (Œ w (n+m) d e-(n+m))).size=Œ w (n+m) d e*zJ.size:=λd=>by have x:=Θ w (n+m) d e;simp only[Ű,Ĉ,size_zeroCells,sd,p.1,r,<-ő];congr 1;omega
 have alx:∀d,mj e=Ï\/0<(xs.toArray++b.toArray++ö z.cells (Œ w (n+m) d e-(n+m))).size/\∀v∈(xs.toArray++b.toArray++ö z.cells (Œ w (n+m) d e-(n+m))).toList,kq v=Ú:=λd=>by
  cases s:mj e with
  |false=>exact Ø U
  |true=>
   rcases W with q|⟨x,B,I⟩
   .rw[q]at s;cases s
   .refine Ù ⟨by simp only[Ű,Ĉ];omega,λv f=> ?_⟩;simp only[Š,ú]at f;rcases f with(f|f)|f
    .exact B v<|œ _ f
    .exact B v<|List.mem_append_right _ f
    .exact I v<|SL f
 have gr:=λd=>qy.alu p r De (Θ w (n+m) d e) (grownCap_le_maxLen w (n+m) d e S) (sz d) (tk d)<|alx d;rcases p.2 with⟨rfl,rfl⟩|⟨g,y,h,rfl,hbg,C,hnc,hcm,X,htake⟩
 .have J:=ß (by simpa using p.1);subst J;have Y:=run_append_nil w t ty e zJ z F G Q a m c b r H hm Z (by have x:=V;simp only[ł]at x;omega);grind
 .by_cases K:n+m<=y
  .have SO:n*zJ.size+b.length<=h.size:=by rw[r,X,<-ő];exact Ŕ _ K
   have Y:=run_append_room w t ty e zJ F G g n y h C a m c b r H h1 K SO;have E:=Ğ w g h (h.toList.take (n*zJ.size)++b++h.toList.drop (n*zJ.size+b.length)).toArray e _ C;have L:=λk (M:k≠g)=>Ę w g k (h.toList.take (n*zJ.size)++b++h.toList.drop (n*zJ.size+b.length)).toArray M;have N:(h.toList.take (n*zJ.size)++b++h.toList.drop (n*zJ.size+b.length)).toArray.size=h.size:=by grind
   have kp:e8 (λk=>Į (Ê (Ã ⟨g,0,Ä⟩) n y)=Ã k) w (w.setRow g (h.toList.take (n*zJ.size)++b++h.toList.drop (n*zJ.size+b.length)).toArray):=by
    refine⟨fi,λk _ M=>L k λe=>M (by simp[Į,e]),λal q o l=> ?_,λm' hF q c T fr O l s=> ?_⟩;rotate_left
    .by_cases D:q=g
     .subst D;rw[E]at l;cases l;rcases W with qq|⟨_,B,_⟩
      .grind
      .refine⟨by rw[N];exact(hF _ _ _ _ O C s).1,λu x=> ?_⟩;simp only[ú]at x;rcases x with(x|x)|x
       .grind
       .grind
       .exact(hF _ _ _ _ O C s).2 u<|List.mem_of_mem_drop x
     .rw[L q D]at l;exact hF q c T fr O l s
    by_cases D:q=g
    .subst D;rw[E]at l;cases l;exact λx=>x
    .rw[L q D]at l;exact al q o l
   refine⟨_,_,Y,⟨hlen,Ù ⟨g,y,_,U,hbg,E,K,hcm,by rw[N,X],?_⟩⟩,kp,Ø U,λo q xI x s=> ?_⟩
   .grind
   .by_cases f:o.ownBlock=Ã g
    .let⟨B,I⟩:=x;refine⟨B,?_⟩;rcases I with⟨rfl,_⟩|⟨g0,D,au7,rfl,O,l,T,b4,b5,b6⟩
     .cases f
     .have:g0=g:=by simpa[Į]using f
      subst this;rw[C]at l;cases l;refine Ù ⟨g0,D,_,U,O,E,T,b4,by rw[N,b5],?_⟩;rw[htake];have au8:q*zJ.size<=n*zJ.size:=Ŕ _<|s f;grind
    .exact ie x kp λj l J=>f<|by rw[l];simpa[Į]using J.symm
  .exact⟨_,_,(Λ w t ty e zJ z F G Q ⟨g,0,Ä⟩ n y xs p.1 (p.cells U) a m c b r H Z Z<|ŕ Z V),gr y⟩
def Df{P:Program}{ops:Array Oper}{rest:List Oper}{o:Oper}{a:Act}{Q:Exit->Act->World->Prop}(SQ:o.guard=none)(s x:Operand)(t:TypeId) (ho:o.op=.call {callee:=.builtin .append,args:=#[s,x],argTypes:=#[t,t]}) {i:TypeInfo} {z:Value} {bytes:Nat} (ht:P.underlying t=some (.slice e)) (hi:P.info? e=some i) (hz:i.zero=some z) (xK:i.size=size) (xL:i.bytes=bytes) (sd:z.cells.size=size) (hs:a.eval s=v) (lJ:w.ownsRow base e size v n xs) (ad:Addr) {m c:Nat} (news:List Value) (hx:a.eval x=.slice (some ad) m c) (hm:0<m) (hl:news.length=m*size) (SR:∀j u,news[j]?=some u->w.cell? (ad.add j)=some u) (h1:∀u∈news,u.oneCell'=true) (Dg:n+m<=maxLen) (Dh:(n+m)*bytes<=140737488355328) (De:base<=w.heap.size) (h:∀v' w',qy w base e size v n xs m news v' w'->wpList P ops Q rest (a.put o.dst v') w') (hfl:mj e=false\/(0<news.length/\(∀u∈xs++news,kq u=true)/\∀u∈z.cells.toList,kq u=true):=by first|exact Or.inl (by decide)|exact Or.inr ⟨by simp,by simp[kq],by simp[kq,Value.cells]⟩): wpList P ops Q (o::rest) a w:=by refine ű SQ λK hK=> ?_;let⟨v',w',hr,h2⟩:=SN (ty:=o.type) ht hi hz xK xL sd lJ ad c news hm hl SR h1 Dg Dh De hfl;unfold Ń ĥ;simp only[ho,ag,aR,ah,Ų,ų,Ĵ,ļ,Ť,Ŵ,hs,hx,hr];exact hK _ _<|h v' w' h2
end
structure Je where
 fu:Int
 r:ByteArray
 C:Nat->Int
abbrev St:=Nat->Je
def St.fP(s:St)(i:Nat)(a:Je):St:=λj=>if j=i then a else s j
def St.fu(s:St)(i:Nat)(b:Int):St:=s.fP i {s i with fu:=b}
def St.C(s:St)(i:Nat)(p:ByteArray):St:=s.fP i {s i with r:=p}
def St.r(s:St)(i j:Nat)(v:Int):St:=s.fP i {s i with C:=λk=>if k=j then v else(s i).C k}
def qz(n:Int):Ç:=Â Æ n
def SS(n:Int):Ç:=Â Ë n
def qA(s:St)(i:Nat):Ç:=if i%18=0 then qz (s<|i/18).fu else if i%18=1 then Í (s<|i/18).r else qz ((s<|i/18).C<|i%18-2)
def sk(s:St)(a:Ç)(i:Nat):Ç:=if 144<=i then a else qA s i
theorem ry(s:St)(a:Ç)(h:i<144):sk s a i=qA s i:=by unfold sk;rw[if_neg Z]
def ja(s:St)(lv:Ç):List Ç:=(ċ 145).map<|sk s lv
theorem mK(s:St)(lv:Ç):(ja s lv).length=145:=by simp[ja]
theorem Jf(s:St)(a:Ç)(h:i<145):(ja s a)[i]?=Ã (sk s a i):=by unfold ja;grind
theorem u_{s:St}(h:l.length=145)(a:∀i,i<145->l[i]?=Ã (sk s v i)):l=ja s v:=by apply þ;grind [Jf,mK]
section
variable(s:St)(lv:Ç)
def Jg(h:i<8):sk s lv (i*18)=qz (s i).fu:=by rw[ry _ _ Z,qA,if_pos Z,show i*18/18=i from by omega]
def M3(h:i<8):sk s lv (i*18+1)=Í (s i).r:=by rw[ry _ _ Z,qA,if_neg Z,if_pos Z,show(i*18+1)/18=i from by omega]
def M4(h:i<8)(a:j<16):sk s lv (i*18+2+j)=qz ((s i).C j):=by rw[ry _ _ Z,qA,if_neg Z,if_neg Z,show(i*18+2+j)/18=i from by omega,show(i*18+2+j)%18-2=j from by omega]
theorem M5:sk s lv 144=lv:=by unfold sk;grind
theorem aly(v:Ç):(ja s lv).set 144 v=ja s v:=by
 refine u_ (by rw[ĕ,mK]) λi a=> ?_;by_cases e:i=144
 .grind [mK,M5]
 .rw[Ŗ<|Ne.symm e,Jf _ _ a,ry _ _ Z,ry _ _ Z]
theorem SU(f:i<144){c:St}(g:sk c lv i=v)(h:∀b,b<144->b≠i->qA c b=qA s b):(ja s lv).set i v=ja c lv:=by
 refine u_ (by rw[ĕ,mK]) λb d=> ?_;by_cases e:b=i
 .grind [mK]
 .rw[Ŗ<|Ne.symm e,Jf _ _ d];grind [ry,M5]
def w_(h:i<8)(b:Int):(ja s lv).set (i*18) (qz b)=ja (s.fu i b) lv:=by
 refine SU s lv Z ?_ λk a c=> ?_
 .rw[Jg _ _ h];simp[St.fu,St.fP]
 .unfold qA;by_cases e:k/18=i
  .have:k%18≠0:=Z
   simp[St.fu,St.fP,e,this]
  .simp[St.fu,St.fP,e]
def alz(h:i<8)(p:ByteArray):(ja s lv).set (i*18+1) (Í p)=ja (s.C i p) lv:=by
 refine SU s lv Z ?_ λk a b=> ?_
 .rw[M3 _ _ h];simp[St.C,St.fP]
 .unfold qA;by_cases e:k/18=i
  .have:k%18≠1:=Z
   simp[St.C,St.fP,e,this]
  .simp[St.C,St.fP,e]
def alA(h:i<8)(c:j<16)(v:Int):(ja s lv).set (i*18+2+j) (qz v)=ja (s.r i j v) lv:=by
 refine SU s lv Z ?_ λk d f=> ?_
 .rw[M4 _ _ h c];simp[St.r,St.fP]
 .unfold qA;by_cases e:k/18=i
  .by_cases a:k%18=0
   .simp[St.r,St.fP,e,a]
   .by_cases b:k%18=1
    .simp[St.r,St.fP,e,b]
    .have:k%18-2≠j:=Z
     simp[St.r,St.fP,e,a,b,this]
  .simp[St.r,St.fP,e]
end
def iB(b:Nat)(T:ô)(tl:List Ç)(s:St)(lv:Ç)(w:É):Prop:=ff b (ja s lv++tl) T w
section
variable{tl:List Ç}{s:St}{lv:Ç}
def iB.Jh(h:iB b T tl s lv w)(a:i<145):w.cell? ⟨b,i,Ä⟩=Ã (sk s lv i):= ff.r h i _<|by rw[ç (by rwa[mK]),Jf _ _ a]
def iB.qN(h:iB b T tl s lv w)(c:i<145){a:St}(e:(ja s lv).set i v=ja a x):iB b T tl a x (w.setCell ⟨b,i,Ä⟩ v):=by have:=ff.fP h i v;rw[ğ _ _ (show i<(ja s lv).length by rwa[mK]),e]at this;exact this
def iB.fu(h:iB b T tl s lv w)(a:i<8):w.cell? ⟨b,i*18,Ä⟩=Ã (Â Æ (s i).fu):=by rw[h.Jh Z,Jg _ _ a];rfl
def iB.M6(h:iB b T tl s lv w)(a:i<8):w.cell? ⟨b,i*18+1,Ä⟩=Ã (Í (s i).r):=by rw[h.Jh Z,M3 _ _ a]
def iB.y_(h:iB b T tl s lv w)(a:i<8)(c:j<16):w.cell? ⟨b,i*18+2+j,Ä⟩=Ã (Â Æ<|(s i).C j):=by rw[h.Jh Z,M4 _ _ a c];rfl
def iB.Di(h:iB b T tl s lv w):w.cell? ⟨b,144,Ä⟩=Ã lv:=by rw[h.Jh Z,M5]
def iB.zE(h:iB b T tl s lv w)(a:i<8)(x:Int):iB b T tl (s.fu i x) lv (w.setCell ⟨b,i*18,Ä⟩<|Â Æ x):=h.qN Z<|w_ s lv a x
def iB.alB(h:iB b T tl s lv w)(a:i<8)(x:ByteArray):iB b T tl (s.C i x) lv (w.setCell ⟨b,i*18+1,Ä⟩<|Í x):=h.qN Z<|alz s lv a x
def iB.SV(h:iB b T tl s lv w)(a:i<8)(c:j<16)(x:Int):iB b T tl (s.r i j x) lv (w.setCell ⟨b,i*18+2+j,Ä⟩<|Â Æ x):=h.qN Z<|alA s lv a c x
def iB.alC(h:iB b T tl s lv w)(v:Ç):iB b T tl s v (w.setCell ⟨b,144,Ä⟩ v):=h.qN Z<|aly s lv v
end
def xM(b:Bool):Int:=if b then 1 else 0
def Ji(b:Bool)(w:É):Ò À 159 #[Ñ b] w λe a=>e=È (Â Æ<|xM b)/\a=w:=by
 go_enter Tryz.func159,Tryz.ntmps159;go_wp2;all_goals go_ret
 all_goals refine⟨FL ?_,U⟩
 all_goals simp[xM, *]
def z_(b o:Nat)(s:Int)(c:0<=s)(d:s<18446744073709551616)(w:É):Ò À 208 #[Å<|Ã ⟨b,o,Ä⟩,Â Æ s] w λe a=>e=È (Å<|Ã ⟨b,o+2+(s%16).toNat,Ä⟩)/\a=w:=by
 go_enter Tryz.func208,Tryz.ntmps208;go_wp2;all_goals go_ret
 exact⟨U,U⟩
def wu(n:Int):Int:=Æ.wrap n
theorem alD(a:0<=h)(b:h<18446744073709551616):wu h=h:=by show h%18446744073709551616=h;omega
def A_(n:Int):wu n=n%18446744073709551616:=rfl
def alE(n:Int):0<=wu n:=by rw[A_];omega
def alF(n:Int):wu n<18446744073709551616:=by rw[A_];omega
def xN(k p q:Int):Int:=
 if k=2 then wu (p+q)else if k=3 then wu (p-q)else if k=4 then wu (p*q)
 else if k=5 then(if q=0 then 0 else p/q)else if k=6 then xM (decide<|p<q)else xM (decide<|p=q)
def alG(k p q:Int)(b:0<=p)(c:p<18446744073709551616)(d:0<=q)(f:q<18446744073709551616)(w:É):Ò À 211 #[Â Ë k,Â Æ p,Â Æ q] w λe a=>e=È (Â Æ<|xN k p q)/\a=w:=by
 go_enter Tryz.func211,Tryz.ntmps211;go_wp2_with (go_at_call 159;refine(Ji _ _).mono ?_;rintro e a ⟨rfl,rfl⟩);all_goals simp only[beq_iff_eq,beq_eq_false_iff_ne,ne_eq]at*
 all_goals first
  |(exfalso;simp_all;done)
  |(go_ret;refine⟨FL ?_,U⟩;unfold xN;simp[wu, *];done)
  |(go_ret;refine⟨FL ?_,U⟩;unfold xN;simp[wu, *];rfl)
structure RC where
 x:Nat
 y:Nat
 k:Int
 d:Int
 g:Int
def rz(a:Nat)(c:RC)(b:Ç):List Ç:=[Å<|Ã ⟨a,0,Ä⟩,Â Ë c.x,Â Ë c.y,Â Æ c.k,Â Ë c.d,Â Æ c.g,b]
def pL(l:List Int):List Ç:=l.map qz
theorem alH{base:Nat}(h:w.ownsRow base e 1 (Ê O (n+1) i) (n+1) (l++[x])):w.ownsRow base e 1 (Ê O n i) n l:=by
 let⟨d,b⟩:=h;simp only[Ó,Ľ,Μ,ŗ]at d;refine⟨Z,?_⟩;rcases b with⟨b,_⟩|⟨g,q,f,b,j,k,r,m,o,p⟩
 .cases b
 .cases b;refine Ù ⟨g,i,f,U,j,k,Z,m,o,?_⟩;have:=congrArg (List.take n) p;grind
def M7{base:Nat}(h:w.ownsRow base e 1 (Ê O (n+1) i) (n+1) (l++[x])):∃g,O=Ã ⟨g,0,Ä⟩/\w.cell? ⟨g,n,Ä⟩=Ã x/\n+1<=i:=by
 let⟨f,d⟩:=h;simp only[Ó,Ľ,Μ,ŗ]at f;rcases d with⟨d,_⟩|⟨g,o,p,d,q,j,k,r,s,m⟩
 .cases d
 .cases d;refine⟨g,U,?_,k⟩;have:=congrArg (λb=>b[n]?) m;simp only[ŗ]at this;rw[List.getElem?_take_of_lt Z,ü Z,show n-l.length=0 by omega]at this;simp only[Η,j];simpa using this
def M8(j d:Nat)(c:RC)(f:Ç)(base:Nat)(b:List Int)(p:Int)(w:É)(i:ff d (rz j c f) 282 w)(h:w.ownsRow base 36 1 f (b.length+1) (pL b++[qz p]))(k:b.length<=1000): Ò À 204 #[Å<|Ã ⟨d,0,Ä⟩] w λe g=>e=È (Â Æ p)/\∃a,g=w.setCell ⟨d,6,Ä⟩ a/\w.ownsRow base 36 1 a b.length (pL b)/\a.ownBlock=f.ownBlock:=by obtain⟨a,l,rfl⟩:=jj h;obtain⟨g,rfl,m,o⟩:=M7 h;have e:=alH h;have q:=i.r 6 _ U;have r:=i.C 6;have H:=fc e;generalize b.length=n at*;go_enter Tryz.func204,Tryz.ntmps204;go_wp2;go_ret;refine⟨U,_,U,?_,U⟩;simpa using H.out
def alI:(À.info? 36).map (λi=>(i.zero,i.size,i.bytes))=Ã (Ã<|Â Æ 0,1,8):=fp
def A'(p b:Nat)(c:RC)(d:Ç)(base:Nat)(k:List Ç)(n:Nat)(f m:Nat)(q:Nat)(a:List Ç)(w:É)(g:ff b (rz p c d) 282 w)(l:w.ownsRow base 36 1 d n k)(E:n+m<=1000) (r:0<m) (s:a.length=m) (t:∀j u,a[j]?=Ã u->w.cell? ((⟨f,0,Ä⟩:Ą).add j)=Ã u) (v:∀u∈a,u.oneCell'=Ú) (x:base<=w.heap.size): Ò À 203 #[Å<|Ã ⟨b,0,Ä⟩,Ê (Ã ⟨f,0,Ä⟩) m q] w λe o=>e=È (æ #[])/\∃h i,qy w base 36 1 d n k m a h i/\o=i.setCell ⟨b,6,Ä⟩ h:=by let⟨F,y,z,B,C⟩:=í alI;have D:=g.r 6 _ U;have o:=jD l g A;have H:=fc g;go_enter Tryz.func203,Tryz.ntmps203;go_wp2_with (at_builtin;refine Df U _ _ 231 U Tryz.underlying231 y z B C U U l ⟨f,0,Ä⟩ a U r (by rw[s,ŗ]) t v (by unfold ą;omega) Z x ?_;intro h i e;obtain⟨G,I,rfl⟩:=jj e.fj;have J:=e.r.r D o;have K:=(H.out.I e.r o).C 6);go_end0;exact⟨U,_,_,e,U⟩
def kr(l:List (Nat×Int)):List Ç:=l.flatMap λp=>[SS p.1,qz p.2]
structure iU where
 r:Nat
 T:ô
 C:List Ç
structure iU.Ok(E:iU):Prop where
 M:E.T≠36
 r:E.T≠257
 I:E.T≠282
 N:E.T≠300
 alJ:E.T≠252
 alK:E.T≠246
def iU.Ok.C{E:iU}(h:E.Ok):mj E.T=Ï:=by unfold mj;rw[beq_eq_false_iff_ne.2 h.r,beq_eq_false_iff_ne.2 h.alK];rfl
structure R(E:iU)(rb:Nat)(c:RC)(sv lv:Ç)(ss:List Int)(s:St)(ls:List (Nat×Int))(w:É):Prop where
 r:ff rb (rz E.r c sv) 282 w
 I:w.ownsRow 0 36 1 sv ss.length (pL ss)
 C:iB E.r E.T E.C s lv w
 M:w.ownsRow 0 257 2 lv ls.length (kr ls)
structure Tr(E:iU)(rb:Nat)(sv lv:Ç)(n:Nat)(w:É)(kh jC:Ç)(n':Nat)(w':É):Prop where
 r:e8 (λk=>k=E.r\/k=rb\/sv.ownBlock=Ã k\/lv.ownBlock=Ã k) w w'
 s:∀j,kh.ownBlock=Ã j->sv.ownBlock=Ã j\/w.heap.size<=j
 l:∀j,jC.ownBlock=Ã j->lv.ownBlock=Ã j\/w.heap.size<=j
 C:∀v0 n0 xI,w.ownsRow 0 257 2 v0 n0 xI->(v0.ownBlock=lv.ownBlock->n0<=n)->w'.ownsRow 0 257 2 v0 n0 xI/\(v0.ownBlock=jC.ownBlock->n0<=n')
section
variable{E:iU}{rb:Nat}{c:RC}{sv lv f o:Ç}{ss:List Int}{s:St}{ls:List (Nat×Int)}
theorem Tr.fU(E:iU)(rb:Nat)(sv lv:Ç)(n:Nat)(w:É):Tr E rb sv lv n w sv lv n w:= ⟨e8.fU _ _,λ_ h=>Ø h,λ_ h=>Ø h,λ_ _ _ h k=>⟨h,k⟩⟩
theorem Tr.fe(h:Tr E rb sv lv n w f z b u)(k:Tr E rb f z b u o jQ m W):Tr E rb sv lv n w o jQ m W:=by
 refine⟨h.r.C k.r ?_,λj a=> ?_,λj a=> ?_,λc d g p q=> ?_⟩
 .rintro i r (e|e|e|e)
  .exact Ø e
  .grind
  .exact Ù<|Ù<|Ø<|(h.s i e).resolve_right Z
  .exact Ù<|Ù<|Ù<|(h.l i e).resolve_right Z
 .rcases k.s j a with e|e
  .exact h.s j e
  .exact Ù<|ë h.r.M e
 .rcases k.l j a with e|e
  .exact h.l j e
  .exact Ù<|ë h.r.M e
 .let⟨e,i⟩:=h.C c d g p q;exact k.C c d g e i
def Tr.I(k:e8 X w u)(c:∀i,i<w.heap.size->X i->i=E.r\/i=rb\/sv.ownBlock=Ã i)(d:∀j,f.ownBlock=Ã j->sv.ownBlock=Ã j\/w.heap.size<=j)(g:∀i a,X i->w.heap[i]?≠Ã (Ð a 257 (0,0))):Tr E rb sv lv n w f lv n u:= ⟨k.S λi h q=>(c i h q).elim Ø λe=>Ù (e.elim Ø λe=>Ù<|Ø e),d,λj q=>Ø q,λp r s b l=>⟨ie b k λj m q=>by let⟨a,o⟩:=lX b m;exact g j a q o,l⟩⟩
def Tr.alL{Y:Nat->Prop}(t:Tr E rb sv lv n w f z b u)(k:e8 Y u W)(m:∀i,Y i->w.heap.size<=i)(o:∀i a,Y i->u.heap[i]?≠Ã (Ð a 257 (0,0))):Tr E rb sv lv n w f z b W:= ⟨t.r.C k λi v q=>absurd (m i q) Z,t.s,t.l,λc d e g h=>⟨ie (t.C c d e g h).1 k λj p q=>by let⟨a,r⟩:=lX (t.C c d e g h).1 p;exact o j a q r,(t.C c d e g h).2⟩⟩
def R.alM(ok:E.Ok)(h:R E rb c sv lv ss s ls w)(a:ff j l 252 w)(k:e8 (λi=>i=j) w u):R E rb c sv lv ss s ls u:= ⟨h.r.I k<|ff.S h.r a A,ie h.I k λi q r=>jD h.I a A (by rw[q,r]),h.C.I k<|ff.S h.C a ok.alJ,ie h.M k λi q r=>jD h.M a A<|by rw[q,r]⟩
theorem R.N(ok:E.Ok)(h:R E rb c sv lv ss s ls w)(i:Nat){c':RC}{kh:Ç}{ss':List Int}(e:(rz E.r c sv).set i v=rz E.r c' kh)(b:w.ownsRow 0 36 1 kh ss'.length (pL ss'))(d:∀j,kh.ownBlock=Ã j->sv.ownBlock=Ã j): R E rb c' kh lv ss' s ls (w.setCell ⟨rb,i,Ä⟩ v)/\Tr E rb sv lv ls.length w kh lv ls.length (w.setCell ⟨rb,i,Ä⟩ v):=by have a:=e8.I (X:=λk=>k=rb) (p:=⟨rb,i,Ä⟩) U v<|Ù h.r.G;refine⟨⟨by have:=h.r.fP i v;rwa[e]at this,ie b a λj q r=>jD b h.r A (by rw[q,r]),h.C.I a<|ff.S h.C h.r ok.I,ie h.M a λj q r=>jD h.M h.r A<|by rw[q,r]⟩,Tr.I a (λi _ q=>Ù<|Ø q) (λj q=>Ø<|d j q) λi f q g=> ?_⟩;have k:=h.r;unfold ff at k;grind
def R.S(ok:E.Ok)(h:R E rb c sv lv ss s ls w)(i:Nat){d:St}(k:iB E.r E.T E.C d lv (w.setCell ⟨E.r,i,Ä⟩ v)): R E rb c sv lv ss d ls (w.setCell ⟨E.r,i,Ä⟩ v)/\Tr E rb sv lv ls.length w sv lv ls.length (w.setCell ⟨E.r,i,Ä⟩ v):=by have b:=e8.I (X:=λk=>k=E.r) (p:=⟨E.r,i,Ä⟩) U v<|Ù<|ff.G h.C ok.C;refine⟨⟨h.r.I b (ff.S h.C h.r ok.I).symm,ie h.I b λj q r=>jD h.I h.C ok.M.symm (by rw[q,r]),k,ie h.M b λj q r=>jD h.M h.C ok.r.symm<|by rw[q,r]⟩,Tr.I b (λi _ q=>Ø q) (λj q=>Ø q) λi e q a=> ?_⟩;rw[q,h.C]at a;injection a with a;injection a with _ a;exact ok.r a
theorem R.Y(ok:E.Ok)(h:R E rb c sv lv ss s ls w){ns:List Int}{u:É}(o:ns.length=m)(a:qy w 0 36 1 sv ss.length (pL ss) m (pL ns) v u): R E rb c v lv (ss++ns) s ls (u.setCell ⟨rb,6,Ä⟩ v)/\Tr E rb sv lv ls.length w v lv ls.length (u.setCell ⟨rb,6,Ä⟩ v):=by
 subst o;have d:∀{i:Nat} {f:Array Ç} {T:ô},sv.ownBlock=Ã i->w.heap[i]?=Ã (Ð f T (0,0))->T=36:=λ{i f T} q l=>by let⟨g,e⟩:=lX h.I q;grind
 have b:R E rb c sv lv ss s ls u:=⟨h.r.I a.r λq=>absurd (d q h.r) A,a.I _ _ _ h.I λ_=>Þ _,h.C.I a.r λq=>ok.M<|d q h.C,ie h.M a.r λj q r=>by let⟨g,e⟩:=lX h.M q;exact absurd (d r e) A⟩;have n:u.ownsRow 0 36 1 v (ss++ns).length (pL<|ss++ns):=by have:=a.fj;rwa[show pL ss++pL ns=pL (ss++ns) by simp[pL],show ss.length+ns.length=(ss++ns).length by simp]at this
 have g:=e8.I (X:=λk=>k=rb) (p:=⟨rb,6,Ä⟩) U v<|Ù b.r.G;refine⟨⟨b.r.fP 6 v,ie n g λj q r=>jD n b.r A (by rw[q,r]),b.C.I g<|ff.S b.C b.r ok.I,ie b.M g λj q r=>jD b.M b.r A<|by rw[q,r]⟩,(Tr.I a.r (λi _ q=>Ù<|Ù q) (λj q=>a.C.elim (λe=>Ø<|by rwa[<-e]) λe=>Ù<|by rw[e]at q;cases q;exact Þ _) λi f q l=>absurd (d q l) A).fe<|Tr.I g (λi _ q=>Ù<|Ø q) (λj q=>Ø q) λi f q l=> ?_⟩;have e:=b.r;unfold ff at e;grind
end
section
variable{E:iU}{rb:Nat}{c:RC}{sv lv:Ç}{s:St}{ls:List (Nat×Int)}
def R.fK(h:R E rb c sv lv zQ s ls w)(k:e8 (λ_=>False) w W):R E rb c sv lv zQ s ls W:= ⟨h.r.I k id,ie h.I k λ_ _=>id,h.C.I k id,ie h.M k λ_ _=>id⟩
def Tr.fK(k:e8 (λ_=>False) w W):Tr E rb sv lv n w sv lv n W:=Tr.I k (λ_ _=>Ě) (λ_ q=>Ø q) λ_ _=>Ě
end
def iZ:List (Int×Int×Int):=[(0,0,0),(1,0,1),(1,2,1),(1,2,1),(2,2,1),(2,2,1),(1,2,1),(1,2,1),(1,1,2),(1,2,2),(1,1,0),(1,0,1),(1,0,1),(1,0,1),(1,0,1),(3,1,1),(6,2,0),(2,2,0),(8,2,1),(4,1,0),(8,3,2),(1,1,0),(1,0,0)]
structure iJ(w:É):Prop where
 M:∃cs fz,w.heap[2]?=Ã (Ð cs 300 fz)
 I:∀(k:Nat) (r:Int×Int×Int),iZ[k]?=Ã r->w.cell? ⟨2,k*3,Ä⟩=Ã (Â Æ r.1)/\w.cell? ⟨2,k*3+1,Ä⟩=Ã (Â Ë r.2.1)/\w.cell? ⟨2,k*3+2,Ä⟩=Ã (Â Ë r.2.2)
theorem iJ.r(h:iJ w)(k:e8 X w u)(a:¬X 2):iJ u:=by
 let⟨b,c,d⟩:=h.M;have e:2<w.heap.size:=by grind
 refine⟨⟨b,c,by rwa[k.N 2 e a]⟩,λi r f=> ?_⟩;let⟨g,j,l⟩:=h.I i r f;exact⟨k.r g a,k.r j a,k.r l a⟩
theorem iJ.C(h:iJ w)(a:w.heap[j]?=Ã (Ð d T xJ))(b:T≠300):j≠2:=by rintro rfl;let⟨c,e,f⟩:=h.M;grind
def iJ.N{E:iU}(ok:E.Ok){rb:Nat}{c:RC}{sv lv:Ç}{s:St}{a:List (Nat×Int)}(h:iJ w)(r:R E rb c sv lv zQ s a w)(t:Tr E rb sv lv n w v x i u):iJ u:=by
 refine h.r t.r ?_;rintro(e|e|e|e)
 .exact h.C r.C ok.N e.symm
 .exact h.C r.r A e.symm
 .let⟨b,q⟩:=lX r.I e;exact h.C q A U
 .let⟨b,q⟩:=lX r.M e;exact h.C q A U
theorem M9:∀(k:Nat) (r:Int×Int×Int),iZ[k]?=Ã r->0<=r.1/\r.1<=8/\0<=r.2.1/\r.2.1<=3/\0<=r.2.2/\r.2.2<=2:=by
 have h:∀r∈iZ,0<=r.1/\r.1<=8/\0<=r.2.1/\r.2.1<=3/\0<=r.2.2/\r.2.2<=2:=A
 grind
def ml(g:Int)(n:Nat)(b a c:Int):Bool:= !(decide (g<b)||(decide ((n:Int)-a<0)||decide (32<(n:Int)-a+c)))
def SY(E:iU)(f:Nat)(c:RC)(a d:Ç)(i:List Int)(s:St)(e:List (Nat×Int))(w:É)(j:Int)(b:Bool)(h:É):Prop:=
 R E f (if b then{c with g:=c.g-j}else c) a d i s e h/\Tr E f a d e.length w a d e.length h
section
variable{E:iU}{rb:Nat}{c:RC}{sv lv:Ç}{s:St}{ls:List (Nat×Int)}
def SZ(a:R E rb c sv lv zQ s ls w)(k:e8 (λ_=>False) w u):SY E rb c sv lv zQ s ls w h Ï u:=⟨a.fK k,Tr.fK k⟩
def alN(ok:E.Ok)(a:R E rb c sv lv zQ s ls w){g:Int}(d:c.g=g)(e:u=W.setCell ⟨rb,5,Ä⟩ (Â Æ<|g-h))(k:e8 (λ_=>False) w W):SY E rb c sv lv zQ s ls w h Ú u:=by subst d e;have b:=a.fK k;let⟨f,i⟩:=b.N ok 5 (c':={c with g:=c.g-h}) U b.I λ_ q=>q;exact⟨f,(Tr.fK k).fe i⟩
end
def Dj(E:iU)(ok:E.Ok)(m:Nat)(c:RC)(q r:Ç)(d:List Int)(s:St)(t:List (Nat×Int))(w:É)(h:R E m c q r d s t w)(u:iJ w)(k:Nat)(f b i:Int)(o:iZ[k]?=Ã (f,b,i))(y:d.length<=1000)(P:0<=c.g)(Q:c.g<18446744073709551616): Ò À 202 #[Å<|Ã ⟨m,0,Ä⟩,Â Ë k] w λe a=>e=È (Ñ<|ml c.g d.length f b i)/\SY E m c q r d s t w f (ml c.g d.length f b i) a:=by
 let⟨z,B,C⟩:=u.I k _ o;obtain⟨a,S,rfl⟩:=jj h.I;have D:=h.r.r 6 _ U;have T:=h.r.r 5 _ U;have V:=h.r.C 5;have W:=h.r.M;have X:k<23:=(Ü.1 o).1;let⟨F,G,I,J,K,L⟩:=M9 k _ o;simp only at F G I J K L z B C;obtain⟨n,j⟩:∃n,d.length=n:=⟨_,U⟩;rw[j]at D y;have e:ml c.g d.length f b i= !(decide (c.g<f)||(decide ((n:Int)-b<0)||decide (32<(n:Int)-b+i))):=by rw[j];rfl
 have H:=fc<|Á h<|Á j e;clear u h j e;generalize M:c.g=g at*;go_enter Tryz.func202,Tryz.ntmps202;go_wp2;go_quiet (fail);go_wp2;by_cases v:g<f
 .go_quiet (fail)
  go_wp2;let⟨h,j,e⟩:=H.out;have l:ml g d.length f b i=Ï:=by rw[e];simp[v]
  go_ret;rw[l];refine⟨U,SZ h ?_⟩;exact kp
 .have N:=decide_eq_false v;by_cases x:(n:Int)-b<0
  .go_quiet (fail)
   go_wp2;let⟨h,j,e⟩:=H.out;have l:ml g d.length f b i=Ï:=by rw[e];simp[x]
   go_ret;rw[l];refine⟨U,SZ h ?_⟩;exact kp
  .have O:=decide_eq_false x;go_quiet (fail);go_wp2
   .have p:32<(n:Int)-b+i:=by assumption
    let⟨h,j,e⟩:=H.out;have l:ml g d.length f b i=Ï:=by rw[e];simp[p]
    go_ret;rw[l];refine⟨U,SZ h ?_⟩;exact kp
   .go_region
    go_wp2;have p:(n:Int)-b+i<=32:=by assumption
    let⟨h,j,e⟩:=H.out;have l:ml g d.length f b i=Ú:=by rw[e];simp[N,O,p]
    go_ret;rw[l];refine⟨U,alN ok h M U ?_⟩;exact kp
def rA(s:St)(y:Nat)(q p:Int):Int×St:=
 if(s y).fu<p then(0,s)else(1,(s.fu y<|(s y).fu-p).fu (q%8).toNat<|wu<|(s.fu y ((s y).fu-p) (q%8).toNat).fu+p)
def zF(E:iU)(e:Nat)(c:RC)(a b:Ç)(g:List Int)(s:St)(d:List (Nat×Int))(w:É)(h:St)(f:É):Prop:=
 R E e c a b g h d f/\Tr E e a b d.length w a b d.length f
section
variable{E:iU}{rb:Nat}{c:RC}{sv lv:Ç}{s d f:St}{a:List (Nat×Int)}
def zF.fK(h:R E rb c sv lv zQ s a w)(k:e8 (λ_=>False) w u):zF E rb c sv lv zQ s a w s u:=⟨h.fK k,Tr.fK k⟩
def zF.fu(ok:E.Ok)(h:zF E rb c sv lv zQ s a w d W)(e:i<8)(x:Int):zF E rb c sv lv zQ s a w (d.fu i x) (W.setCell ⟨E.r,i*18,Ä⟩<|Â Æ x):=by let⟨b,f⟩:=h;let⟨g,j⟩:=b.S ok (i*18)<|b.C.zE e x;exact⟨g,f.fe j⟩
end
def alO(E:iU)(ok:E.Ok)(d:Nat)(c:RC)(f g:Ç)(i:List Int)(s:St)(j:List (Nat×Int))(w:É)(h:R E d c f g i s j w)(q p:Int)(n:0<=q)(o:q<18446744073709551616)(r:0<=p)(t:p<18446744073709551616)(a:c.y<8)(u:0<=(s c.y).fu)(v:(s c.y).fu<18446744073709551616): Ò À 209 #[Å<|Ã ⟨d,0,Ä⟩,Â Æ q,Â Æ p] w λe k=>e=È (Â Æ (rA s c.y q p).1)/\zF E d c f g i s j w (rA s c.y q p).2 k:=by
 have x:=h.r.r 0 _ U;have z:=h.r.r 2 _ U;have B:=h.r.M;have C:=ff.M h.C;have D:=h.C.fu a;have F:=ff.C h.C<|c.y*18;have k:(q%8).toNat<8:=Z
 have H:=fc h;by_cases l:(s c.y).fu<p
 .have e:rA s c.y q p=(0,s):=by unfold rA;rw[if_pos l]
  rw[e];generalize(s c.y).fu=b at*;generalize c.y=y at*;go_enter ai,η;go_wp2;go_quiet (fail);go_wp2;go_ret;refine⟨U,zF.fK H.out ?_⟩;exact kp
 .have e:rA s c.y q p=(1,(s.fu c.y<|(s c.y).fu-p).fu (q%8).toNat<|wu<|(s.fu c.y ((s c.y).fu-p) (q%8).toNat).fu+p):=by unfold rA;rw[if_neg l]
  rw[e];have G:=λm=>((h.fK<|e8.iP _ w m).C.zE a<|(s c.y).fu-p).fu k;have I:∀m,((w.drewN m).setCell ⟨E.r,c.y*18,Ä⟩<|Â Æ<|(s c.y).fu-p).frozen? ⟨E.r,(q%8).toNat*18,Ä⟩=Ï:=λm=>ff.C ((h.fK<|e8.iP _ w m).C.zE a<|(s c.y).fu-p) _;generalize(s.fu c.y ((s c.y).fu-p) (q%8).toNat).fu=b2 at*;generalize(s c.y).fu=b at*;go_enter ai,η;go_wp2;go_quiet (fail);go_wp2;go_ret;refine⟨U,((zF.fK H.out ?_).fu ok a _).fu ok k _⟩;exact kp
def kQ(E:iU)(rb:Nat)(sv lv:Ç)(n:Nat)(w:É)(c:RC)(f:List Int)(s:St)(a:List (Nat×Int))(b:É):Prop:=
 ∃d e,R E rb c d e f s a b/\Tr E rb sv lv n w d e a.length b
section
variable{E:iU}{rb:Nat}{c a:RC}{sv lv:Ç}{w':É}{b:List Int}{s d:St}{ls f:List (Nat×Int)}{p:Int}
def R.jT(h:R E rb c sv lv zQ s ls w):kQ E rb sv lv ls.length w c zQ s ls w:=⟨sv,lv,h,Tr.fU _ _ _ _ _ _⟩
def nJ(ok:E.Ok)(h:R E rb c sv lv (zQ++[p]) s ls w)(g:zQ.length<=900):Ò À 204 #[Å<|Ã ⟨rb,0,Ä⟩] w λe w'=>e=È (Â Æ p)/\ ∃a,R E rb c a lv zQ s ls w'/\Tr E rb sv lv ls.length w a lv ls.length w':=by have b:=h.I;rw[show pL (zQ++[p])=pL zQ++[qz p] by simp[pL],show(zQ++[p]).length=zQ.length+1 by simp]at b;refine(M8 E.r rb c sv 0 zQ p w h.r b Z).mono ?_;rintro e w' ⟨rfl,a,rfl,d,f⟩;exact⟨U,a,h.N ok 6 U d λj q=>by rwa[<-f]⟩
def zG(ok:E.Ok)(h:R E rb c sv lv zQ s ls w)(i:zQ.length<=900)(x:Int):Ò À 203 #[Å<|Ã ⟨rb,0,Ä⟩,Ê (Ã ⟨w.heap.size,0,Ä⟩) 1 1] (w.alloc<|Ð #[Â Æ x] 36) λe w'=>e=È (æ #[])/\ ∃b,R E rb c b lv (zQ++[x]) s ls w'/\Tr E rb sv lv ls.length w b lv ls.length w':=by have k:=e8.gE (λ_=>False) w #[Â Æ x] 36;have d:=h.fK k;refine(A' E.r rb c sv 0 (pL zQ) zQ.length w.heap.size 1 1 [Â Æ x] _ d.r d.I Z Z U (ÿ _ _ _) (λa f=>by simp at f;subst f;rfl)<|â _).mono ?_;rintro e w' ⟨rfl,b,u,a,rfl⟩;let⟨f,g⟩:=d.Y ok (ns:=[x]) U a;exact⟨U,b,f,(Tr.fK k).fe g⟩
def S0(ok:E.Ok)(h:R E rb c sv lv zQ s ls w)(i:zQ.length<=900)(x y:Int):Ò À 203 #[Å<|Ã ⟨rb,0,Ä⟩,Ê (Ã ⟨w.heap.size,0,Ä⟩) 2 2] (w.alloc<|Ð #[Â Æ x,Â Æ y] 36) λe w'=>e=È (æ #[])/\ ∃b,R E rb c b lv (zQ++[x,y]) s ls w'/\Tr E rb sv lv ls.length w b lv ls.length w':=by have k:=e8.gE (λ_=>False) w #[Â Æ x,Â Æ y] 36;have d:=h.fK k;refine(A' E.r rb c sv 0 (pL zQ) zQ.length w.heap.size 2 2 [Â Æ x,Â Æ y] _ d.r d.I Z Z U (ŵ _ _ _ _) (λa f=>by simp at f;rcases f with rfl|rfl<;>rfl)<|â _).mono ?_;rintro e w' ⟨rfl,b,u,a,rfl⟩;let⟨f,g⟩:=d.Y ok (ns:=[x,y]) U a;exact⟨U,b,f,(Tr.fK k).fe g⟩
end
structure im(E:iU)(lv:Ç)(n:Nat)(w:É)(s:St)(ls:List (Nat×Int))(w':É)(jC:Ç):Prop where
 r:iB E.r E.T E.C s jC w'
 I:w'.ownsRow 0 257 2 jC ls.length (kr ls)
 C:e8 (λk=>k=E.r\/lv.ownBlock=Ã k) w w'
 l:∀j,jC.ownBlock=Ã j->lv.ownBlock=Ã j\/w.heap.size<=j
 M:∀v0 n0 xI,w.ownsRow 0 257 2 v0 n0 xI->(v0.ownBlock=lv.ownBlock->n0<=n)->w'.ownsRow 0 257 2 v0 n0 xI/\(v0.ownBlock=jC.ownBlock->n0<=ls.length)
structure zH where
 r:Int
 C:Bool
 M:Int
 s:St
 I:List (Nat×Int)
abbrev mo:=St->List (Nat×Int)->Nat->Nat->Int->Int->zH
def gd(n:Int):Prop:=0<=n/\n<18446744073709551616
def lB(c:Int):Nat:=
 if 48<=c/\c<=57 then 1 else if c=43 then 2 else if c=45 then 3 else if c=42 then 4 else if c=47 then 5 else if c=60 then 6 else if c=61 then 7
 else if c=100 then 8 else if c=120 then 9 else if c=112 then 10 else if c=107 then 11 else if c=99 then 12 else if c=121 then 13 else if c=98 then 14
 else if c=108 then 15 else if c=116 then 16 else if c=106 then 17 else if c=118 then 18 else if c=101 then 19 else if c=111 then 20 else if c=114 then 21 else if c=102 then 22 else 0
def xO(c:UInt8):Bool:=decide<|lB (c.toNat:Int)≠0
structure gH(s:St):Prop where
 fu:∀i,gd (s i).fu
 C:∀i j,gd<|(s i).C j
 I:∀i,(s i).r.size<=40/\∀c∈(s i).r.data.toList,xO c=Ú
def fY(l:List Int):Int:=l.getLastD 0
theorem B_(l:List Int)(h:0<l.length):l=l.dropLast++[fY l]:=by
 have a:l≠[]:=by intro e;subst e;simp at h
 unfold fY;grind [List.dropLast_concat_getLast]
section
variable{E:iU}{c:RC}{s:St}{a:List (Nat×Int)}{q r:Int}
def alP(ok:E.Ok)(b:R E i c x v (zQ++[h]) s a w)(k:zQ.length<=800)(l:c.y<8): Ò À 205 #[Å<|Ã ⟨i,0,Ä⟩,Â Ë 8] w λe H=>e=È (æ #[])/\kQ E i x v a.length w c (zQ++[h,h]) s a H:=by have m:=b.r.r 0 _ U;have n:=b.r.r 2 _ U;have o:=b.r.M;have p:=ff.M b.C;have H:=fc b;go_enter ê,å;go_wp2_with fail;go_quiet (fail);go_wp2_with fail;go_at_call 204;refine(nJ ok (H.out.fK<|e8.iP _ _ _) (by first|omega|(simp;omega))).mono ?_;rintro e q ⟨rfl,r,d,f⟩;go_wp2_with fail;go_at_call 203;refine(S0 ok d (by first|omega|(simp;omega)) _ _).mono ?_;rintro e t ⟨rfl,u,g,j⟩;go_wp2_with fail;go_end0;exact⟨U,_,_,g,(((Tr.fK<|e8.iP _ _ _).fe f).fe j)⟩
def alQ(ok:E.Ok)(b:R E i c x v ((zQ++[h])++[q]) s a w)(m:zQ.length<=800)(n:c.y<8): Ò À 205 #[Å<|Ã ⟨i,0,Ä⟩,Â Ë 9] w λe H=>e=È (æ #[])/\kQ E i x v a.length w c (zQ++[q,h]) s a H:=by have o:=b.r.r 0 _ U;have p:=b.r.r 2 _ U;have r:=b.r.M;have t:=ff.M b.C;have H:=fc b;go_enter ê,å;go_wp2_with fail;go_quiet (fail);go_wp2_with fail;go_at_call 204;refine(nJ ok (H.out.fK<|e8.iP _ _ _) (by first|omega|(simp;omega))).mono ?_;rintro e u ⟨rfl,z,d,f⟩;go_wp2_with fail;go_at_call 204;refine(nJ ok d (by first|omega|(simp;omega))).mono ?_;rintro e B ⟨rfl,C,g,j⟩;go_wp2_with fail;go_at_call 203;refine(S0 ok g (by first|omega|(simp;omega)) _ _).mono ?_;rintro e D ⟨rfl,F,k,l⟩;go_wp2_with fail;go_end0;exact⟨U,_,_,k,((((Tr.fK<|e8.iP _ _ _).fe f).fe j).fe l)⟩
def alR(ok:E.Ok)(b:R E i c x v (zQ++[h]) s a w)(g:zQ.length<=800)(j:c.y<8): Ò À 205 #[Å<|Ã ⟨i,0,Ä⟩,Â Ë 10] w λe H=>e=È (æ #[])/\kQ E i x v a.length w c zQ s a H:=by have k:=b.r.r 0 _ U;have l:=b.r.r 2 _ U;have m:=b.r.M;have n:=ff.M b.C;have H:=fc b;go_enter ê,å;go_wp2_with fail;go_quiet (fail);go_wp2_with fail;go_at_call 204;refine(nJ ok (H.out.fK<|e8.iP _ _ _) (by first|omega|(simp;omega))).mono ?_;rintro e o ⟨rfl,p,d,f⟩;go_wp2_with fail;go_end0;exact⟨U,_,_,d,((Tr.fK<|e8.iP _ _ _).fe f)⟩
def alS(ok:E.Ok)(h:R E i c x v zQ s a w)(f:zQ.length<=800)(g:c.y<8): Ò À 205 #[Å<|Ã ⟨i,0,Ä⟩,Â Ë 11] w λe H=>e=È (æ #[])/\kQ E i x v a.length w c (zQ++[c.k]) s a H:=by have j:=h.r.r 0 _ U;have l:=h.r.r 2 _ U;have m:=h.r.M;have n:=ff.M h.C;have o:=h.r.r 3 _ U;have H:=fc h;go_enter ê,å;go_wp2_with fail;go_quiet (fail);go_wp2_with fail;go_at_call 203;refine(zG ok (H.out.fK<|e8.iP _ _ _) (by first|omega|(simp;omega)) _).mono ?_;rintro e p ⟨rfl,q,b,d⟩;go_wp2_with fail;go_end0;exact⟨U,_,_,b,((Tr.fK<|e8.iP _ _ _).fe d)⟩
def alT(ok:E.Ok)(h:R E i c x v zQ s a w)(f:zQ.length<=800)(g:c.y<8)(j:c.x<8): Ò À 205 #[Å<|Ã ⟨i,0,Ä⟩,Â Ë 12] w λe H=>e=È (æ #[])/\kQ E i x v a.length w c (zQ++[(c.x:Int)]) s a H:=by have k:=h.r.r 0 _ U;have l:=h.r.r 2 _ U;have m:=h.r.M;have n:=ff.M h.C;have o:=h.r.r 1 _ U;have H:=fc h;go_enter ê,å;go_wp2_with fail;go_quiet (fail);go_wp2_with fail;go_at_call 203;refine(zG ok (H.out.fK<|e8.iP _ _ _) (by first|omega|(simp;omega)) _).mono ?_;rintro e p ⟨rfl,q,b,d⟩;go_wp2_with fail;go_end0;exact⟨U,_,_,b,((Tr.fK<|e8.iP _ _ _).fe d)⟩
def alU(ok:E.Ok)(h:R E i c x v zQ s a w)(f:zQ.length<=800)(g:c.y<8): Ò À 205 #[Å<|Ã ⟨i,0,Ä⟩,Â Ë 13] w λe H=>e=È (æ #[])/\kQ E i x v a.length w c (zQ++[(c.y:Int)]) s a H:=by have j:=h.r.r 0 _ U;have k:=h.r.r 2 _ U;have l:=h.r.M;have m:=ff.M h.C;have H:=fc h;go_enter ê,å;go_wp2_with fail;go_quiet (fail);go_wp2_with fail;go_at_call 203;refine(zG ok (H.out.fK<|e8.iP _ _ _) (by first|omega|(simp;omega)) _).mono ?_;rintro e n ⟨rfl,o,b,d⟩;go_wp2_with fail;go_end0;exact⟨U,_,_,b,((Tr.fK<|e8.iP _ _ _).fe d)⟩
def alV(ok:E.Ok)(h:R E i c x v zQ s a w)(g:zQ.length<=800)(b:c.y<8): Ò À 205 #[Å<|Ã ⟨i,0,Ä⟩,Â Ë 14] w λe H=>e=È (æ #[])/\kQ E i x v a.length w c (zQ++[(s c.y).fu]) s a H:=by have j:=h.r.r 0 _ U;have k:=h.r.r 2 _ U;have l:=h.r.M;have m:=ff.M h.C;have n:=h.C.fu b;have H:=fc h;go_enter ê,å;go_wp2_with fail;go_quiet (fail);go_wp2_with fail;go_at_call 203;refine(zG ok (H.out.fK<|e8.iP _ _ _) (by first|omega|(simp;omega)) _).mono ?_;rintro e o ⟨rfl,p,d,f⟩;go_wp2_with fail;go_end0;exact⟨U,_,_,d,((Tr.fK<|e8.iP _ _ _).fe f)⟩
def alW(ok:E.Ok)(b:R E i c x v (zQ++[h]) s a w)(o:zQ.length<=800)(g:c.y<8)(d:gd h): Ò À 205 #[Å<|Ã ⟨i,0,Ä⟩,Â Ë 15] w λe f=>e=È (æ #[])/\kQ E i x v a.length w c (zQ++[(s c.y).C (h%16).toNat]) s a f:=by have p:=b.r.r 0 _ U;have q:=b.r.r 2 _ U;have r:=b.r.M;have t:=ff.M b.C;have H:=fc b;go_enter ê,å;go_wp2_with fail;go_quiet (fail);go_wp2_with fail;go_at_call 204;refine(nJ ok (H.out.fK<|e8.iP _ _ _) (by first|omega|(simp;omega))).mono ?_;rintro e u ⟨rfl,z,f,k⟩;have B:=f.C.y_ g (j:=(h%16).toNat) Z;have C:=d.1;have D:=d.2;go_wp2_with fail;go_at_call 208;refine(z_ E.r (c.y*18) h d.1 d.2 _).mono ?_;rintro e l ⟨rfl,F⟩;subst l;go_wp2_with fail;go_at_call 203;refine(zG ok f (by first|omega|(simp;omega)) _).mono ?_;rintro e G ⟨rfl,I,m,n⟩;go_wp2_with fail;go_end0;exact⟨U,_,_,m,(((Tr.fK<|e8.iP _ _ _).fe k).fe n)⟩
def alX(ok:E.Ok)(b:R E i c x v ((zQ++[h])++[q]) s a w)(r:zQ.length<=800)(g:c.y<8)(d:gd q): Ò À 205 #[Å<|Ã ⟨i,0,Ä⟩,Â Ë 16] w λe f=>e=È (æ #[])/\kQ E i x v a.length w c zQ (s.r c.y (q%16).toNat h) a f:=by have t:=b.r.r 0 _ U;have u:=b.r.r 2 _ U;have z:=b.r.M;have B:=ff.M b.C;have H:=fc b;go_enter ê,å;go_wp2_with fail;go_quiet (fail);go_wp2_with fail;go_at_call 204;refine(nJ ok (H.out.fK<|e8.iP _ _ _) (by first|omega|(simp;omega))).mono ?_;rintro e C ⟨rfl,D,k,l⟩;go_wp2_with fail;go_at_call 204;refine(nJ ok k (by first|omega|(simp;omega))).mono ?_;rintro e F ⟨rfl,G,f,m⟩;have I:=f.C.y_ g (j:=(q%16).toNat) (by have:=d.1;omega);have J:=ff.C f.C<|c.y*18+2+(q%16).toNat;go_wp2_with fail;go_at_call 208;refine(z_ E.r (c.y*18) q d.1 d.2 _).mono ?_;rintro e n ⟨rfl,K⟩;subst n;go_wp2_with fail;go_end0;let⟨o,p⟩:=f.S ok (c.y*18+2+(q%16).toNat) (f.C.SV g (by have:=d.1;omega) h);exact⟨U,_,_,o,(((Tr.fK<|e8.iP _ _ _).fe l).fe m).fe p⟩
def alY(ok:E.Ok)(b:R E i c x v ((zQ++[h])++[q]) s a w)(u:zQ.length<=800)(j:c.y<8)(d:gd h)(f:gd q)(g:gH s): Ò À 205 #[Å<|Ã ⟨i,0,Ä⟩,Â Ë 18] w λe H=>e=È (æ #[])/\kQ E i x v a.length w c (zQ++[(rA s c.y q h).1]) (rA s c.y q h).2 a H:=by have z:=b.r.r 0 _ U;have B:=b.r.r 2 _ U;have C:=b.r.M;have D:=ff.M b.C;have H:=fc b;go_enter ê,å;go_wp2_with fail;go_quiet (fail);go_wp2_with fail;go_at_call 204;refine(nJ ok (H.out.fK<|e8.iP _ _ _) (by first|omega|(simp;omega))).mono ?_;rintro e F ⟨rfl,G,k,l⟩;go_wp2_with fail;go_at_call 204;refine(nJ ok k (by first|omega|(simp;omega))).mono ?_;rintro e I ⟨rfl,J,m,n⟩;go_wp2_with fail;go_at_call 209;refine(alO E ok i c _ v _ s a _ m q h f.1 f.2 d.1 d.2 j (g.fu _).1 (g.fu _).2).mono ?_;rintro e K ⟨rfl,o,p⟩;go_wp2_with fail;go_at_call 203;refine(zG ok o (by first|omega|(simp;omega)) _).mono ?_;rintro e L ⟨rfl,M,r,t⟩;go_wp2_with fail;go_end0;exact⟨U,_,_,r,(((((Tr.fK<|e8.iP _ _ _).fe l).fe n).fe p).fe t)⟩
def alZ{k:Int}(ok:E.Ok)(b:R E i c x v ((zQ++[h])++[q]) s a w)(r:zQ.length<=800)(t:c.y<8)(d:gd h)(f:gd q)(u:2<=k)(z:k<=7): Ò À 205 #[Å<|Ã ⟨i,0,Ä⟩,Â Ë k] w λe H=>e=È (æ #[])/\kQ E i x v a.length w c (zQ++[xN k h q]) s a H:=by
 have B:=b.r.r 0 _ U;have C:=b.r.r 2 _ U;have D:=b.r.M;have F:=ff.M b.C;have G:(k==8)=Ï:=by rw[beq_eq_false_iff_ne];omega
 have I:(k==9)=Ï:=by rw[beq_eq_false_iff_ne];omega
 have J:(k==10)=Ï:=by rw[beq_eq_false_iff_ne];omega
 have K:(k==11)=Ï:=by rw[beq_eq_false_iff_ne];omega
 have L:(k==12)=Ï:=by rw[beq_eq_false_iff_ne];omega
 have M:(k==13)=Ï:=by rw[beq_eq_false_iff_ne];omega
 have N:(k==14)=Ï:=by rw[beq_eq_false_iff_ne];omega
 have O:(k==15)=Ï:=by rw[beq_eq_false_iff_ne];omega
 have P:(k==16)=Ï:=by rw[beq_eq_false_iff_ne];omega
 have Q:(k==18)=Ï:=by rw[beq_eq_false_iff_ne];omega
 have S:(k==19)=Ï:=by rw[beq_eq_false_iff_ne];omega
 have T:(k==20)=Ï:=by rw[beq_eq_false_iff_ne];omega
 have H:=fc b;go_enter ê,å;go_wp2_with fail;go_quiet (fail);go_wp2_with fail;go_at_call 204;refine(nJ ok (H.out.fK<|e8.iP _ _ _) (by first|omega|(simp;omega))).mono ?_;rintro e V ⟨rfl,W,g,j⟩;go_wp2_with fail;go_at_call 204;refine(nJ ok g (by first|omega|(simp;omega))).mono ?_;rintro e X ⟨rfl,Y,l,m⟩;go_wp2_with fail;go_at_call 211;refine(alG k h q d.1 d.2 f.1 f.2 _).mono ?_;rintro e n ⟨rfl,uG⟩;subst n;go_wp2_with fail;go_at_call 203;refine(zG ok l (by first|omega|(simp;omega)) _).mono ?_;rintro e w4 ⟨rfl,sv4,o,p⟩;go_wp2_with fail;go_end0;exact⟨U,_,_,o,((((Tr.fK<|e8.iP _ _ _).fe j).fe m).fe p)⟩
end
def Na{P:Program}{ops:Array Oper}{o:Oper}{a:Act}{w:World}{K:Act->World->Prop}{Q:Exit->Act->World->Prop}{E:Prop}{base:Nat}{e:TypeId}{size n:Nat}{v:Value}{xs:List Value} (hg:o.guard=none) (s x:Operand) (t:TypeId) (qR:o.op=Op.call {callee:=Callee.builtin Builtin.append,args:=#[s,x],argTypes:=#[t,t]}) {i:TypeInfo} {z:Value} {bytes:Nat} (ht:P.underlying t=some (.slice e)) (hi:P.info? e=some i) (hz:i.zero=some z) (xK:i.size=size) (xL:i.bytes=bytes) (sd:z.cells.size=size) (hs:a.eval s=v) (lJ:w.ownsRow base e size v n xs) (ad:Addr) {m c:Nat} (news:List Value) (hx:a.eval x=.slice (some ad) m c) (hm:0<m) (hl:news.length=m*size) (SR:∀j u,news[j]?=some u->w.cell? (ad.add j)=some u) (h1:∀u∈news,u.oneCell'=true) (Dg:n+m<=maxLen) (Dh:(n+m)*bytes<=140737488355328) (De:base<=w.heap.size) (h:∀v' w',qy w base e size v n xs m news v' w'->K (a.put o.dst v') w') (hfl:mj e=false\/(0<news.length/\(∀u∈xs++news,kq u=true)/\∀u∈z.cells.toList,kq u=true):=by first|exact Or.inl (by decide)|exact Or.inr ⟨by simp,by simp[kq],by simp[kq,Value.cells]⟩): if Region.wanted o (yielded ops a.tmps)=true then Oper.wp P o a w K Q else E:=by
 have hw:ĝ o (aj ops a.tmps)=Ú:=by simp[ĝ,hg]
 rw[if_pos hw];let⟨v',w',hr,h2⟩:=SN (ty:=o.type) ht hi hz xK xL sd lJ ad c news hm hl SR h1 Dg Dh De hfl;unfold Ń;simp[ĥ,qR,ag,aR,ah,hs,hx,hr,į];exact h v' w' h2
def al0:(À.info? 257).map (λi=>(i.zero,i.size,i.bytes))=Ã (Ã<|Ē #[Â Ë 0,Â Æ 0],2,16):=fp
def B'(b:List (Nat×Int)):∀u∈kr b,kq u=Ú:=λu a=>by unfold kr at a;let⟨e,_,h⟩:=Β.1 a;simp[SS,qz]at h;rcases h with rfl|rfl<;>rfl
section
variable{E:iU}{c:RC}{g d:Ç}{s:St}{ls:List (Nat×Int)}{p:Int}
theorem R.al1(ok:E.Ok)(h:R E k c g jQ zQ s ls w)(a:qy w 0 257 2 jQ ls.length (kr ls) 1 [Â Ë b,Â Æ p] d W): (R E k c g jQ zQ s ls W/\W.ownsRow 0 257 2 d (ls++[(b,p)]).length (kr<|ls++[(b,p)]))/\ R E k c g d zQ s (ls++[(b,p)]) (W.setCell ⟨E.r,144,Ä⟩ d)/\Tr E k g jQ ls.length w g d (ls++[(b,p)]).length (W.setCell ⟨E.r,144,Ä⟩ d):=by
 have m:∀{i:Nat} {o:Array Ç} {T:ô},jQ.ownBlock=Ã i->w.heap[i]?=Ã (Ð o T (0,0))->T=257:=λ{i o T} q hc=>by let⟨l,e⟩:=lX h.M q;grind
 have f:R E k c g jQ zQ s ls W:=⟨h.r.I a.r λq=>absurd (m q h.r) A,ie h.I a.r (λj q r=>by let⟨l,e⟩:=lX h.I q;exact absurd (m r e) A),h.C.I a.r λq=>ok.r<|m q h.C,a.I _ _ _ h.M λ_=>Þ _⟩;have n:W.ownsRow 0 257 2 d (ls++[(b,p)]).length (kr<|ls++[(b,p)]):=by have:=a.fj;rwa[show kr ls++[Â Ë b,Â Æ p]=kr (ls++[(b,p)]) by simp[kr,SS,qz],show ls.length+1=(ls++[(b,p)]).length by simp]at this
 have l:=e8.I (X:=λe=>e=E.r) (p:=⟨E.r,144,Ä⟩) U d<|Ù<|ff.G f.C ok.C;refine⟨⟨f,n⟩,⟨f.r.I l (ff.S f.C f.r ok.I).symm,ie f.I l λj q r=>jD f.I f.C ok.M.symm (by rw[q,r]),f.C.alC d,ie n l λj q r=>jD n f.C ok.r.symm<|by rw[q,r]⟩,?_,λj q=>Ø q,λj q=> ?_,λv x y t z=> ?_⟩
 .refine(a.r.S λe _ q=>Ù<|Ù<|Ù q).C l λi _ q=>Ø q
 .rcases a.C with e|e;all_goals grind
 .have u:=a.I v x y t z;refine⟨ie u l λj q r=>jD u f.C ok.r.symm (by rw[q,r]),λq=> ?_⟩;rcases a.C with e|e
  .grind
  .rw[e]at q;have:=(t.lt _ q).2;omega
end
def gh{f:(Nat->Value)->Act}(a:Act)(h:a=f (λn=>a.tmps.getD n undef):=by rfl):∃u,a=f u:=⟨_,h⟩
section
variable{md:Ι}{ops:Array ş}{Q:aV->é->É->Prop}{S:É->Prop}{X:List Nat}
def oZ(P:aH)(md:Ι)(ops:Array ş)(Q:aV->é->É->Prop)(S:É->Prop)(X:List Nat):Nat->Array Bool->é->É->Prop
 |0,listed,a,w=>Ā md ops listed=[]/\Q .normal a w
 |fuel+1,listed,a,w=>(Ā md ops listed=[]->Q .normal a w)/\
  ∀i∈Ā md ops listed,wpOp P ops Q i (λc b=>(i∉X->S b)/\oZ P md ops Q S X fuel (listed.setIfInBounds i Ú) c b) a w
def C_:∀(b:Nat) (listed:Array Bool) (a:é) (w:É),oZ P md ops Q S X b listed a w->wpAny P md ops Q b listed a w
 |0,_,_,_,h=>h
 |b+1,_,_,_,h=>⟨h.1,λi c=>wpOp_mono (λd e q=>C_ b _ d e q.2)<|h.2 i c⟩
def sY(md:Ι)(ops:Array ş)(X:List Nat)(i:Nat):Bool:=X.all λx=>match ops[x]? with
 |some o=>o.after.toList.any λe=>ń md e&&e.on==i
 |none=>Ú
theorem al2{listed:Array Bool}(a:sY md ops X i=Ú)(c:ops[j]?=Ã o)(d:listed.getD i Ï=Ï)(f:∀e∈o.after,ń md e=Ú->listed.getD e.on Ï=Ú):j∉X:=by intro b;have g:=List.all_eq_true.1 a j b;grind
theorem al3{m:ş}(x:ops[i]?=Ã m)(y:∀(j:Nat) (o:ş) n b,ops[j]?=Ã o->o.op≠.select n b)(E:sY md ops X i=Ú) (F:∀c a w,Q (.panic c) (a.put m.dst v) w->Q (.panic c) a w): ∀(p:Nat) (d:Array Bool) (a:é) (w:É),(∀j g,ops[j]?=Ã g->j≠i->d.getD j Ú=Ï->(∀e∈g.after,ń md e=Ú->e.on≠i)->m.apart ops g=Ú)-> i∈Ā md ops d->YieldsIf P ops S m v a->S w->oZ P md ops Q S X p (d.setIfInBounds i Ú) (a.put m.dst v) w->oZ P md ops Q S X (p+1) d a w:=by
 have G:∀{d:Array Bool},i∈Ā md ops d->d.getD i Ï=Ï:=λ{d} l=>by have D:=(mem_ready.1 l).1;grind
 intro p
 induction p with
 |zero=>
  intro d a w _ l s r H;refine⟨λh=>absurd (h▸l) fi,λj t=> ?_⟩;by_cases f:j=i
  .subst f;exact s.wpOp x r ⟨λ_=>r,H⟩
  .exact absurd (H.1▸Ω t f) fi
 |succ p I=>
  intro d a w z l s r H;refine⟨λh=>absurd (h▸l) fi,λj t=> ?_⟩;by_cases f:j=i
  .subst f;exact s.wpOp x r ⟨λ_=>r,H⟩
  .let⟨B,g,u,J⟩:=mem_ready.1 t;have K:∀e∈g.after,ń md e=Ú->e.on≠i:=λe V W Y=>by
    grind
   refine wpOp_mono (λD L q=>⟨q.2.1,I (d.setIfInBounds j Ú) D L (λk M N O C T=>z k M N O ?_ T) (Ω l<|Ne.symm f) q.1 (q.2.1<|al2 E u (G l) J) ?_⟩)<|wpOp_putIf u (z j g u f B K) (λn b=>y i m n b x) (λn b=>y j g n b u) F s<|H.2 j<|Ω t f
   .by_cases D:j=k
    .subst D;exact B
    .rwa[getD_set_ne Ú D]at C
   .rw[Array.setIfInBounds_comm _ _ f];exact q.2.2
def Jj{oi:ş}{listed:Array Bool}(b:ops[i]?=Ã oi) (d:Region.noSelect ops=Ú) (e:Region.free md ops listed i=Ú) (f:(Ā md ops listed).contains i=Ú) (g:sY md ops X i=Ú) (j:∀c y w,Q (.panic c) (y.put oi.dst v) w->Q (.panic c) y w) (k:S w) (l:YieldsIf P ops S oi v y) (h:oZ P md ops Q S X n (listed.setIfInBounds i Ú) (y.put oi.dst v) w):oZ P md ops Q S X (n+1) listed y w:= al3 b (Region.noSelect_spec d) g j n listed y w (Region.free_spec b e) (by simpa using f) l k h
def al4{listed:Array Bool}(c:Ā md ops listed=[i])(e:ops[i]?=Ã o) (h:∀b:é->É->Prop,Shut (∀y w,(i∉X->S w)->oZ P md ops Q S X n (listed.setIfInBounds i Ú) y w->b y w)->if ĝ o (aj ops y.tmps)=Ú then Ń P o y w b Q else b (y.put o.dst Ă) w):oZ P md ops Q S X (n+1) listed y w:=by
 refine⟨λq=>absurd (c▸q) fi,λj d=> ?_⟩;rw[c]at d;have:j=i:=by simpa using d
 subst this;exact ψ e λb f=>h b λy w g k=>f y w ⟨g,k⟩
def ix:List ş->Nat->Option ş
 |[],_=>Ä
 |o::_,0=>Ã o
 |_::l,n+1=>ix l n
def C':∀{l:List ş} {i:Nat} {o:ş},ix l i=Ã o->l.toArray[i]?=Ã o
 |[],_,_,h=>by cases h
 |o::l,0,_,h=>by simpa[ix]using h
 |o::l,n+1,_,h=>by simpa using C' (l:=l) h
def D_(h:ix ops.toList i=Ã o):ops[i]?=Ã o:=by simpa using C' h
def tk(i:Nat){oi:Oper}{v:Value}{fuel:Nat}{listed:Array Bool}{a0 a a':Act}{w:World}(hS:S w)(h:oZ P md ops Q S X fuel (listed.setIfInBounds i true) a' w) (h0:a0=a:=by(try simp only[Act.put,List.setIfInBounds_toArray,List.set_cons_zero,List.set_cons_succ]);rfl) (hi:ix ops.toList i=some oi:=by rfl) (hs:Region.noSelect ops=true:=by kernel_rfl) (hf:Region.free md ops listed i=true:=by kernel_rfl) (hr:(Region.ready md ops listed).contains i=true:=by kernel_rfl) (hw:sY md ops X i=true:=by kernel_rfl) (hQ:∀v c a w,Q (.panic c) (a.put oi.dst v) w->Q (.panic c) a w:=by exact λ_ _ _ _ h=>h) (hn:Region.wanted oi (yielded ops a.tmps)=true:=by rfl) (hy:∀w,S w->(execOp a.eval oi).run P w=.ok (.value v) w:=by intro w h;revert h;simp only[and_imp];intros;go_simp;try(with_reducible rfl)) (ha:a.put oi.dst v=a':=by(try simp only[Act.put,List.setIfInBounds_toArray,List.set_cons_zero,List.set_cons_succ]);rfl):oZ P md ops Q S X (fuel+1) listed a0 w:= h0▸Jj (D_ hi) hs hf hr hw (hQ v) hS (Ø ⟨hn,hy⟩) (ha▸h)
def gA(i:Nat){o:Oper}{fuel:Nat}{listed:Array Bool}{a0 a:Act}{w:World} (h:∀K':Act->World->Prop,Shut (∀a w,(i∉X->S w)->oZ P md ops Q S X fuel (listed.setIfInBounds i true) a w->K' a w)->if Region.wanted o (yielded ops a.tmps)=true then Oper.wp P o a w K' Q else K' (a.put o.dst undef) w) (h0:a0=a:=by(try simp only[Act.put,List.setIfInBounds_toArray,List.set_cons_zero,List.set_cons_succ]);rfl) (hr:Region.ready md ops listed=[i]:=by kernel_rfl) (ho:ix ops.toList i=some o:=by rfl):oZ P md ops Q S X (fuel+1) listed a0 w:=h0▸al4 hr (D_ ho) h
def al5{oi oj:ş}{listed:Array Bool}(g:Ā md ops listed=[i,j])(h:ops[i]?=Ã oi)(l:ops[j]?=Ã oj) (m:∀b:é->É->Prop,Shut (∀y w,(i∉X->S w)->oZ P md ops Q S X n (listed.setIfInBounds i Ú) y w->b y w)->if ĝ oi (aj ops y.tmps)=Ú then Ń P oi y w b Q else b (y.put oi.dst Ă) w) (o:∀b:é->É->Prop,Shut (∀y w,(j∉X->S w)->oZ P md ops Q S X n (listed.setIfInBounds j Ú) y w->b y w)->if ĝ oj (aj ops y.tmps)=Ú then Ń P oj y w b Q else b (y.put oj.dst Ă) w):oZ P md ops Q S X (n+1) listed y w:=by
 refine⟨λq=>absurd (g▸q) fi,λk c=> ?_⟩;rw[g]at c;rcases List.mem_cons.1 c with rfl|c
 .exact ψ h λb d=>m b λy w e f=>d y w ⟨e,f⟩
 .have:k=j:=by simpa using c
  subst this;exact ψ l λb d=>o b λy w e f=>d y w ⟨e,f⟩
def lY{listed:Array Bool}(b:Ā md ops listed=[])(h:Q .normal y w):∀c,oZ P md ops Q S X c listed y w
 |0=>⟨b,h⟩
 |_+1=>⟨λ_=>h,by rw[b];simp⟩
def mq{id:Nat}(S:É->Prop)(X:List Nat)(b:P.follows .mixedOrders=Ú) (h:oZ P .any ops Q S X ops.size (ō ops.size Ï) y w.drew):(Code.region id ops Ú).wp P Q y w:= wp_region_any b<|C_ _ _ _ _ h
end
section
variable{E:iU}{c:RC}{s:St}{a:List (Nat×Int)}
def al6(ok:E.Ok)(b:R E i c x v (zQ++[h]) s a w)(G:zQ.length<=800)(I:c.y<8)(J:a.length<=1000000): Ò À 205 #[Å<|Ã ⟨i,0,Ä⟩,Â Ë 19] w λe u=>e=È (æ #[])/\kQ E i x v a.length w c zQ s (a++[(c.y,h)]) u:=by
 have L:w.cell? ⟨i,0,Ä⟩=Ã (Å<|Ã ⟨E.r,0,Ä⟩):=b.r.r 0 _ U;have M:w.cell? ⟨i,2,Ä⟩=Ã (Â Ë c.y):=b.r.r 2 _ U;have N:=b.r.M;have O:=ff.M b.C;let⟨P,o,p,r,t⟩:=í al0;have k:=fc<|Á o<|Á p<|Á r t;have H:=fc b;clear b o p r t;go_enter ê,å;go_wp2_with fail;go_quiet (fail);go_wp2_with fail;have f:=fc<|Á ((H.out.fK<|(e8.iP _ _ nq).fe<|e8.fS _ _).r.r 0 _ rfl)<|Á ((H.out.fK<|(e8.iP _ _ nq).fe<|e8.fS _ _).r.r 2 _ rfl) (H.out.fK<|(e8.iP _ _ nq).fe<|e8.fS _ _).C.Di;refine mq (λu=>u.cell? ⟨i,0,Ä⟩=Ã (Å<|Ã ⟨E.r,0,Ä⟩)/\u.cell? ⟨i,2,Ä⟩=Ã (Â Ë c.y)/\u.cell? ⟨E.r,144,Ä⟩=Ã v) [22] fp ?_;refine tk 0 f.out ?_;refine tk 1 f.out ?_;refine tk 2 f.out ?_;refine tk 3 f.out ?_;refine tk 4 f.out ?_;refine tk 5 f.out ?_;refine tk 6 f.out ?_;refine tk 7 f.out ?_;refine tk 8 f.out ?_;refine tk 9 f.out ?_;refine tk 10 f.out ?_;refine tk 11 f.out ?_;refine tk 12 f.out ?_;refine tk 13 f.out ?_;refine tk 14 f.out ?_;refine tk 15 f.out ?_;refine gA 16 ?_;intro K d;go_simp;go_at_call 204;refine(nJ ok (H.out.fK<|e8.iP _ _ _) Z).mono ?_;rintro e z ⟨rfl,Q,g,C⟩;dsimp only;refine d.out _ _ (λ_=>⟨g.r.r 0 _ U,g.r.r 2 _ U,g.C.Di⟩) ?_;clear d K;refine gA 17 ?_;intro K d;go_simp;refine d.out _ _ (λ_=>⟨g.r.r 0 _ U,g.r.r 2 _ U,g.C.Di⟩) ?_;clear d K;have j:=g.fK (e8.gE (λ_=>False) z #[Â Ë c.y,Â Æ h] 257);refine gA 18 ?_;intro K d;go_simp;refine d.out _ _ (λ_=>⟨j.r.r 0 _ U,j.r.r 2 _ U,j.C.Di⟩) ?_;clear d K;refine gA 19 ?_;intro K d;refine Na (hfl:=Ù ⟨fi,λu l=>(ú.1 l).elim (B' a u) (λq=>by simp at q;rcases q with rfl|rfl<;>rfl),by simp[kq,Ġ]⟩) (base:=0) (n:=a.length) (xs:=kr a) (m:=1) fM _ _ 142 fM Tryz.underlying142 k.out.1 k.out.2.1 k.out.2.2.1 k.out.2.2.2 U fM j.M ⟨z.heap.size,0,Ä⟩ [Â Ë c.y,Â Æ h] fM Z U (ŵ _ _ _ _) (λu l=>by simp at l;rcases l with rfl|rfl<;>rfl) (by unfold ą;omega) Z (â _) ?_;intro S T l;obtain⟨V,W,rfl⟩:=jj l.fj;let⟨⟨u,_⟩,D,F⟩:=j.al1 ok l;refine d.out _ _ (λ_=>⟨u.r.r 0 _ U,u.r.r 2 _ U,u.C.Di⟩) ?_;clear d K;have B:=u.C.Di;have X:=ff.C u.C 144;refine gA 20 ?_;intro K d;go_simp;refine d.out _ _ (λ_=>⟨u.r.r 0 _ U,u.r.r 2 _ U,B⟩) ?_;clear d K;refine gA 21 ?_;intro K d;go_simp;refine d.out _ _ (λ_=>⟨u.r.r 0 _ U,u.r.r 2 _ U,B⟩) ?_;clear d K;refine gA 22 ?_;intro K d;go_simp;refine d.out _ _ (λq=>absurd fi q) ?_;clear d K;try simp only[ĵ,Õ,ã,ä]
 refine lY fp ?_ _;go_wp2_with fail;go_end0;exact⟨U,_,_,D,(((Tr.fK<|(e8.iP _ _ _).fe<|e8.fS _ _).fe C).fe<|Tr.fK<|e8.gE _ _ _ _).fe F⟩
end
structure RT where
 r:List Int
 s:St
 C:List (Nat×Int)
 g:Int
def iV(F:mo)(c:RC)(t:RT)(q p k:Int):Int×Int×RT:=
 if c.d=4 then(0,0,t)else
  ((F t.s t.C c.y (q%8).toNat (min p t.g) k).M,xM (F t.s t.C c.y (q%8).toNat (min p t.g) k).C,
    {t with s:=(F t.s t.C c.y (q%8).toNat (min p t.g) k).s,C:=(F t.s t.C c.y (q%8).toNat (min p t.g) k).I,g:=t.g-(F t.s t.C c.y (q%8).toNat (min p t.g) k).r})
def fW(l:List Int):List Int:=l.dropLast
def oy(F:mo)(c:RC)(a:Nat)(t:RT):RT:=
 if a=8 then{t with r:=fW t.r++[fY t.r,fY t.r]}
 else if a=9 then{t with r:=fW (fW t.r)++[fY t.r,fY<|fW t.r]}
 else if a=10 then{t with r:=fW t.r}
 else if a=11 then{t with r:=t.r++[c.k]}
 else if a=12 then{t with r:=t.r++[(c.x:Int)]}
 else if a=13 then{t with r:=t.r++[(c.y:Int)]}
 else if a=14 then{t with r:=t.r++[(t.s c.y).fu]}
 else if a=15 then{t with r:=fW t.r++[(t.s c.y).C (fY t.r%16).toNat]}
 else if a=16 then{t with r:=fW<|fW t.r,s:=t.s.r c.y (fY t.r%16).toNat (fY<|fW t.r)}
 else if a=18 then{t with r:=fW (fW t.r)++[(rA t.s c.y (fY t.r)<|fY<|fW t.r).1],s:=(rA t.s c.y (fY t.r)<|fY<|fW t.r).2}
 else if a=19 then{t with r:=fW t.r,C:=t.C++[(c.y,fY t.r)]}
 else if a=20 then
  {(iV F c t (fY t.r) (fY<|fW t.r)<|fY<|fW<|fW t.r).2.2 with r:=fW (fW<|fW t.r)++[(iV F c t (fY t.r) (fY<|fW t.r)<|fY<|fW<|fW t.r).1,(iV F c t (fY t.r) (fY<|fW t.r)<|fY<|fW<|fW t.r).2.1]}
 else{t with r:=fW (fW t.r)++[xN a (fY<|fW t.r)<|fY t.r]}
structure D'(ls:List (Nat×Int))(g:Int)(e:zH):Prop where
 C:0<=e.r
 r:e.r<=g
 N:gH e.s
 M:gd e.M
 I:(e.I.length:Int)<=ls.length+e.r
def qB(F:mo):Prop:=∀s a x y g k,gH s->x<8->y<8->gd k->0<=g->g<=100000->(a.length:Int)+g<=1000000->D' a g (F s a x y g k)
def tB(F:mo)(d:Int):Prop:=∀(E:iU),E.Ok->∀(s:St) (b:Ç) (a:List (Nat×Int)) (x y:Nat) (g k:Int) (w:É),iB E.r E.T E.C s b w->w.ownsRow 0 257 2 b a.length (kr a)->iJ w->gH s->x<8->y<8->0<=g->g<=100000->gd k->(a.length:Int)+g<=1000000->
 Ò À 173 #[Å<|Ã ⟨E.r,0,Ä⟩,Â Ë x,Â Ë y,Â Æ g,Â Æ k,Â Ë d] w λe c=>
  e=È (Ē #[Â Æ (F s a x y g k).r,Ñ (F s a x y g k).C,Â Æ (F s a x y g k).M])/\∃f,im E b a.length w (F s a x y g k).s (F s a x y g k).I c f
section
variable{E:iU}{rb:Nat}{c:RC}{sv lv:Ç}{s b:St}{ls a:List (Nat×Int)}{q p:Int}
theorem R.xP(ok:E.Ok)(d:R E rb c sv lv zQ s ls w)(r:im E lv ls.length w b a u v):R E rb c sv v zQ b a u/\Tr E rb sv lv ls.length w sv v a.length u:=by
 have g:∀{j:Nat} {i:Array Ç} {T:ô},w.heap[j]?=Ã (Ð i T (0,0))->T≠E.T->T≠257->¬(j=E.r\/lv.ownBlock=Ã j):=λ{j i T} f h1 h2=>by
  rintro(e|e)
  .rw[e,d.C]at f;grind
  .let⟨m,k⟩:=lX d.M e;grind
 refine⟨⟨d.r.I r.C<|g d.r ok.I.symm A,ie d.I r.C λj f=> ?_,r.r,r.I⟩,r.C.S λh _ q=>q.elim Ø λq=>Ù<|Ù<|Ù q,λj q=>Ø q,r.l,r.M⟩;let⟨m,k⟩:=lX d.I f;exact g k ok.M.symm A
def al7(ok:E.Ok)(a:R E rb c sv lv zQ s ls w)(b:c.d=4): Ò À 210 #[Å<|Ã ⟨rb,0,Ä⟩,Â Æ q,Â Æ p,Â Æ h] w λe u=>e=È (æ #[Â Æ 0,Â Æ 0])/\u=w:=by
 have e:w.cell? ⟨rb,4,Ä⟩=Ã (Â Ë 4):=by have:=a.r.r 4 (Â Ë c.d) U;rwa[b]at this
 go_enter ak,θ;go_wp2_with fail;go_ret2;exact⟨U,U⟩
end
section
variable{E:iU}{c:RC}{w':É}{s f:St}{a l:List (Nat×Int)}{q p:Int}{F:mo}
def al8(E:iU)(n:Nat)(c:RC)(jQ x:Ç)(zQ:List Int)(a:List (Nat×Int))(w W:É)(r:zH)(w':É):Prop:=
 ∃z,im E x a.length W r.s r.I w' z/\R E n c jQ z zQ r.s r.I w'/\Tr E n jQ x a.length w jQ z r.I.length w'
def al9(p g:Int):(if g<p then g else p)=min p g:=by rw[Int.min_def];split<;>split<;>omega
def Jk(a:0<=h)(b:h<9223372036854775808):Ë.wrap h=h:=by show(if(Ë.signed&&decide (h%(2^64:Int)≥(2^63:Int)))=Ú then h%(2^64:Int)-2^64 else h%(2^64:Int))=h;rw[(Int.emod_eq_of_lt a Z),if_neg];simp;omega
def ama{q:Int}(h:gd q):Ë.wrap (q.tmod 8)=((q%8).toNat:Int):=by
 rw[Int.tmod_eq_emod_of_nonneg h.1];have:Ë.wrap (q%8)=q%8:=by exact Jk Z Z
 rw[this];omega
def amb(a:0<=h)(b:h<4):Ë.wrap (h+1)=h+1:=by exact Jk Z Z
def vD(ok:E.Ok)(b:R E n c jQ x zQ s a w)(j:0<=c.d)(k:c.d<4)(hF:tB F (c.d+1))(l:iJ w)(m:gH s)(o:c.y<8)(i:gd q)(t:gd p)(u:gd h)(C:0<=c.g)(D:c.g<=100000)(G:(a.length:Int)+c.g<=1000000)(W:É)(kW:e8 (λ_=>False) w W): Ò À 173 #[Å<|Ã ⟨E.r,0,Ä⟩,Â Ë c.y,Â Ë<|Ë.wrap<|q.tmod 8,Â Æ<|min p c.g,Â Æ h,Â Ë<|Ë.wrap<|c.d+1] W λe w'=>
  e=È (Ē #[Â Æ (F s a c.y (q%8).toNat (min p c.g) h).r,Ñ (F s a c.y (q%8).toNat (min p c.g) h).C,Â Æ (F s a c.y (q%8).toNat (min p c.g) h).M])/\al8 E n c jQ x zQ a w W (F s a c.y (q%8).toNat (min p c.g) h) w':=by
 have f:=b.fK kW;rw[ama i,amb j k];have H:=t.1;have I:=i.1;refine(hF E ok s x a c.y (q%8).toNat (min p c.g) h W f.C f.M (l.r kW id) m o Z Z Z u Z).mono ?_;rintro e w' ⟨rfl,z,r⟩;let⟨v,B⟩:=f.xP ok r;exact⟨U,z,r,v,(Tr.fK kW).fe B⟩
def amc{b:List Ç}(h:R E n c jQ x zQ s a w)(r:im E x i (Č<|ă w<|Ð b.toArray T) f l u z):ff w.heap.size b T u:=by
 refine ff.I (w:=Č<|ă w<|Ð b.toArray T) (ff.N w b T) r.C ?_;rintro(e|e)
 .have:=ff.M h.C;omega
 .have:=(h.M.lt _ e).2;omega
def S2{f:List Ç}{kh:Ç}(ok:E.Ok)(d:R E n c jQ x zQ s a u)(t:Tr E n kh z b w jQ x k u)(m:w.heap.size<=j)(e:ff j f 252 u)(i:Nat)(v:Ç): R E n c jQ x zQ s a (u.setCell ⟨j,i,Ä⟩ v)/\Tr E n kh z b w jQ x k (u.setCell ⟨j,i,Ä⟩ v)/\ff j (f.set i v) 252 (u.setCell ⟨j,i,Ä⟩ v):=by have g:e8 (λh=>h=j) u (u.setCell ⟨j,i,Ä⟩ v):=e8.I (X:=λh=>h=j) (p:=⟨j,i,Ä⟩) U v<|Ù e.G;refine⟨d.alM ok e g,t.alL g (λi q=>by omega) λi o q l=> ?_,e.fP i v⟩;unfold ff at e;rw[q,e]at l;cases l
def amd(ok:E.Ok)(f:R E n c jQ x zQ s a w)(oT:0<=c.d)(hd:c.d<4)(hF:tB F (c.d+1))(hI:qB F)(hr:iJ w)(P:gH s)(hx:c.x<8)(hy:c.y<8)(Q:gd q)(S:gd p)(hk:gd h)(vx:0<=c.g)(uM:c.g<=100000)(hlen:(a.length:Int)+c.g<=1000000): Ò À 210 #[Å<|Ã ⟨n,0,Ä⟩,Â Æ q,Â Æ p,Â Æ h] w λe w'=>e=È (æ #[Â Æ (F s a c.y (q%8).toNat (min p c.g) h).M,Â Æ<|xM (F s a c.y (q%8).toNat (min p c.g) h).C])/\kQ E n jQ x a.length w {c with g:=c.g-(F s a c.y (q%8).toNat (min p c.g) h).r} zQ (F s a c.y (q%8).toNat (min p c.g) h).s (F s a c.y (q%8).toNat (min p c.g) h).I w':=by
 have c0:w.cell? ⟨n,0,Ä⟩=Ã (Å<|Ã ⟨E.r,0,Ä⟩):=f.r.r 0 _ U;have c2:w.cell? ⟨n,2,Ä⟩=Ã (Â Ë c.y):=f.r.r 2 _ U;have c4:w.cell? ⟨n,4,Ä⟩=Ã (Â Ë c.d):=f.r.r 4 _ U;have c5:w.cell? ⟨n,5,Ä⟩=Ã (Â Æ c.g):=f.r.r 5 _ U;have gI:=f.r.M;have Mq:=ff.M f.C;have hq0:=Q.1;have CL:=Q.2;have E_:=S.1;have hp1:=S.2;have call:=vD ok f oT hd hF hr P hy Q S hk vx uM hlen;have T:=hI s a c.y (q%8).toNat (min p c.g) h P hy Z hk Z Z Z;have M:=T.C;have N:=T.r;clear T;generalize F s a c.y (q%8).toNat (min p c.g) h=r at*;have H:=fc<|Á f<|Á call<|Á M N;have S3:(c.d==4)=Ï:=by rw[beq_eq_false_iff_ne];omega
 clear f hr P hlen call M N;go_enter ak,θ;go_wp2_with fail;have k:=fc<|Á ((H.out.1.fK<|e8.fS _ _).r.r 0 _ rfl)<|Á ((H.out.1.fK<|e8.fS _ _).r.r 2 _ rfl)<|Á ((H.out.1.fK<|e8.fS _ _).r.r 4 _ rfl)<|(H.out.1.fK<|e8.fS _ _).r.r 5 _ rfl;refine mq (λw'=>w'.cell? ⟨n,0,Ä⟩=Ã (Å<|Ã ⟨E.r,0,Ä⟩)/\w'.cell? ⟨n,2,Ä⟩=Ã (Â Ë c.y)/\w'.cell? ⟨n,4,Ä⟩=Ã (Â Ë c.d)/\w'.cell? ⟨n,5,Ä⟩=Ã (Â Æ c.g)) [25] fp ?_;refine tk 0 k.out ?_;refine tk 1 k.out ?_;refine tk 2 k.out ?_;refine tk 3 k.out ?_;refine tk 4 k.out ?_;refine tk 5 k.out ?_;refine tk 6 k.out ?_;refine tk 7 k.out ?_;refine tk 8 k.out ?_;refine tk 9 k.out ?_;refine tk 10 k.out ?_;refine tk 11 k.out ?_;refine tk 12 k.out ?_;refine tk 13 k.out ?_;refine tk 14 k.out ?_;refine tk 15 k.out ?_;refine Jj (i:=16) (oi:={dst:=Ã 32,op:=aG {callee:=Go.Callee.builtin br,args:=#[î 27,î 31],argTypes:=#[36,36]},type:=36,pos:= "run.go:186",after:=#[{on:=11,ground:=ï},{on:=15,ground:=ï}],guard:=Ä}) (v:=Â Æ<|min p c.g) U fp fp fp fp (λ_ _ _ f=>f) k.out (Ø ⟨fM,?ame⟩) ?au9
 case ame=>(intro w hSw;let⟨q0,q2,q4,q5⟩:=hSw;go_simp<;>rw[al9])
 refine tk 17 k.out ?_;refine tk 18 k.out ?_;refine tk 19 k.out ?_;refine tk 20 k.out ?_;refine tk 21 k.out ?_;refine tk 22 k.out ?_;refine al5 (i:=23) (j:=24) (oi:={dst:=Ã 39,op:=aG {callee:=Go.Callee.value<|bk 173,args:=#[î 19,î 23,î 26,î 32,î 33,î 38],argTypes:=#[267,3,3,36,36,3]},type:=252,pos:= "run.go:186",after:=#[{on:=3,ground:=ï},{on:=7,ground:=ï},{on:=10,ground:=ï},{on:=16,ground:=ï},{on:=17,ground:=ï},{on:=22,ground:=ï}],guard:=Ä}) (oj:={dst:=Ã 10,op:=bl 252,type:=0,pos:= "run.go:186",after:=#[],guard:=Ä}) fp U U ?_ ?_
 .intro K l;go_simp;go_at_call 173;refine(H.out.2.1 _ kp).mono ?_;rintro e z ⟨rfl,zx,O,o,D⟩;dsimp only;refine l.out _ _ (λ_=>⟨o.r.r 0 _ U,o.r.r 2 _ U,o.r.r 4 _ U,o.r.r 5 _ U⟩) ?_;clear l K;have G:=o.fK (e8.gE (λ_=>False) z #[Â Æ 0,Ñ Ï,Â Æ 0] 252);refine gA 24 ?_;intro K l;go_simp;refine l.out _ _ (λ_=>⟨G.r.r 0 _ U,G.r.r 2 _ U,G.r.r 4 _ U,G.r.r 5 _ U⟩) ?_;clear l K;refine gA 25 ?_;intro K l;go_simp;refine l.out _ _ (λq=>absurd fi q) ?_;clear l K;try simp only[ĵ,Õ,ã,ä]
  refine lY fp ?_ _;have V:=e8.gE (λ_=>False) z #[Â Æ r.r,Ñ r.C,Â Æ r.M] 252;have t:=o.fK V;have I:=D.fe<|Tr.fK V;have m:ff z.heap.size [Â Æ r.r,Ñ r.C,Â Æ r.M] 252 _:=ff.N z _ 252;generalize ă z (Ð #[Â Æ r.r,Ñ r.C,Â Æ r.M] 252)=W at*;generalize z.heap.size=b at*;clear G V o D O;have v0:=m.r 0 _ U;have X:=m.r 1 _ U;have Y:=m.r 2 _ U;have z5:W.cell? ⟨n,5,Ä⟩=Ã (Â Æ c.g):=t.r.r 5 _ U;have y5:=t.r.C 5;have zl:=t.r.M;have zb:=m.M;have M:=H.out.2.2.1;have N:=H.out.2.2.2;have J:=ff.S t.r m A;have y1:=(Jc (w:=W) (i:=5) (u:=Â Æ<|c.g-r.r) J).trans X;have y2:=(Jc (w:=W) (i:=5) (u:=Â Æ<|c.g-r.r) J).trans Y;have C:=fc<|Á t I;clear t I m k;go_wp2_with fail;go_region;go_wp2_with fail;have k:=fc<|Á y1 y2;refine mq (λw'=>w'.cell? ⟨b,1,Ä⟩=Ã (Ñ r.C)/\w'.cell? ⟨b,2,Ä⟩=Ã (Â Æ r.M)) [] fp ?_;refine tk 0 k.out ?_;refine tk 1 k.out ?_;refine tk 2 k.out ?_;refine tk 3 k.out ?_;refine tk 4 k.out ?_;refine gA 5 ?_;intro K l;go_simp;go_at_call 159;refine(Ji _ _).mono ?_;rintro e w2 ⟨rfl,rm⟩;subst w2;dsimp only;refine l.out _ _ (λ_=>k.out) ?_;clear l K;refine gA 6 ?_;intro K l;go_simp;refine l.out _ _ (λ_=>k.out) ?_;clear l K;refine gA 7 ?_;intro K l;go_simp;refine l.out _ _ (λ_=>k.out) ?_;clear l K;try simp only[ĵ,Õ,ã,ä]
  refine lY fp ?_ _;go_wp2_with fail;go_ret2;let⟨n1,n2⟩:=C.out.1.N ok 5 (v:=Â Æ<|c.g-r.r) (c':={c with g:=c.g-r.r}) (kh:=jQ) (ss':=zQ) U C.out.1.I λ_ q=>q;have L:=(e8.fS (λ_=>False)<|W.setCell ⟨n,5,Ä⟩<|Â Æ<|c.g-r.r).fe (e8.fS (λ_=>False) _);exact⟨U,_,_,n1.fK L,(C.out.2.fe n2).fe<|Tr.fK L⟩
 .intro K l;go_simp;refine l.out _ _ (λ_=>⟨(H.out.1.fK<|((e8.fS _ _).fe<|e8.gE _ _ _ _)).r.r 0 _ U,(H.out.1.fK<|((e8.fS _ _).fe<|e8.gE _ _ _ _)).r.r 2 _ U,(H.out.1.fK<|((e8.fS _ _).fe<|e8.gE _ _ _ _)).r.r 4 _ U,(H.out.1.fK<|((e8.fS _ _).fe<|e8.gE _ _ _ _)).r.r 5 _ U⟩) ?_;clear l K;refine gA 23 ?_;intro K l;go_simp;go_at_call 173;refine(H.out.2.1 (Č<|ă w<|Ð #[Â Æ 0,Ñ Ï,Â Æ 0] 252) kp).mono ?_;rintro e z ⟨rfl,zx,O,o,D⟩;dsimp only;refine l.out _ _ (λ_=>⟨o.r.r 0 _ U,o.r.r 2 _ U,o.r.r 4 _ U,o.r.r 5 _ U⟩) ?_;clear l K;have B:=amc H.out.1 O;have k0:=B.r 0 _ U;have k1:=B.r 1 _ U;have k2:=B.r 2 _ U;have f0:=B.C 0;have f1:=B.C 1;have f2:=B.C 2;refine gA 25 ?_;intro K l;go_simp;refine l.out _ _ (λq=>absurd fi q) ?_;clear l K;try simp only[ĵ,Õ,ã,ä]
  refine lY fp ?_ _;let⟨a1,a2,a3⟩:=S2 ok o D (Þ _) B 0<|Â Æ r.r;let⟨b1,b2,b3⟩:=S2 ok a1 a2 (Þ _) a3 1<|Ñ r.C;let⟨t,I,m⟩:=S2 ok b1 b2 (Þ _) b3 2<|Â Æ r.M;generalize Ć (Ć (Ć z ⟨w.heap.size,0,Ä⟩<|Â Æ r.r) ⟨w.heap.size,1,Ä⟩<|Ñ r.C) ⟨w.heap.size,2,Ä⟩ (Â Æ r.M)=W at*;replace m:ff w.heap.size [Â Æ r.r,Ñ r.C,Â Æ r.M] 252 W:=m;clear a1 a2 a3 b1 b2 b3 B k0 k1 k2 f0 f1 f2 o D O;have v0:=m.r 0 _ U;have X:=m.r 1 _ U;have Y:=m.r 2 _ U;have z5:W.cell? ⟨n,5,Ä⟩=Ã (Â Æ c.g):=t.r.r 5 _ U;have y5:=t.r.C 5;have zl:=t.r.M;have zb:=m.M;have M:=H.out.2.2.1;have N:=H.out.2.2.2;have J:=ff.S t.r m A;have y1:=(Jc (w:=W) (i:=5) (u:=Â Æ<|c.g-r.r) J).trans X;have y2:=(Jc (w:=W) (i:=5) (u:=Â Æ<|c.g-r.r) J).trans Y;have C:=fc<|Á t I;clear t I m k;go_wp2_with fail;go_region;go_wp2_with fail;have k:=fc<|Á y1 y2;refine mq (λw'=>w'.cell? ⟨w.heap.size,1,Ä⟩=Ã (Ñ r.C)/\w'.cell? ⟨w.heap.size,2,Ä⟩=Ã (Â Æ r.M)) [] fp ?_;refine tk 0 k.out ?_;refine tk 1 k.out ?_;refine tk 2 k.out ?_;refine tk 3 k.out ?_;refine tk 4 k.out ?_;refine gA 5 ?_;intro K l;go_simp;go_at_call 159;refine(Ji _ _).mono ?_;rintro e w2 ⟨rfl,rm⟩;subst w2;dsimp only;refine l.out _ _ (λ_=>k.out) ?_;clear l K;refine gA 6 ?_;intro K l;go_simp;refine l.out _ _ (λ_=>k.out) ?_;clear l K;refine gA 7 ?_;intro K l;go_simp;refine l.out _ _ (λ_=>k.out) ?_;clear l K;try simp only[ĵ,Õ,ã,ä]
  refine lY fp ?_ _;go_wp2_with fail;go_ret2;let⟨n1,n2⟩:=C.out.1.N ok 5 (v:=Â Æ<|c.g-r.r) (c':={c with g:=c.g-r.r}) (kh:=jQ) (ss':=zQ) U C.out.1.I λ_ q=>q;have L:=(e8.fS (λ_=>False)<|W.setCell ⟨n,5,Ä⟩<|Â Æ<|c.g-r.r).fe (e8.fS (λ_=>False) _);exact⟨U,_,_,n1.fK L,(C.out.2.fe n2).fe<|Tr.fK L⟩
end
section
variable{E:iU}{rb:Nat}{c:RC}{sv lv:Ç}{s i:St}{f j:List (Nat×Int)}{q p:Int}{F:mo}
def o0(c:RC)(g:Int):RC:={c with g:=g}
def amf(ok:E.Ok)(a:R E rb c sv lv zQ s f w)(i:0<=c.d)(G:c.d<=4)(hF:c.d<4->tB F (c.d+1))(j:qB F)(k:iJ w)(l:gH s)(m:c.x<8)(n:c.y<8)(o:gd q)(r:gd p)(v:gd h)(z:0<=c.g)(B:c.g<=100000)(C:(f.length:Int)+c.g<=1000000)(t:RT)(D:t=(iV F c ⟨zQ,s,f,c.g⟩ q p h).2.2): Ò À 210 #[Å<|Ã ⟨rb,0,Ä⟩,Â Æ q,Â Æ p,Â Æ h] w λe u=>e=È (æ #[Â Æ (iV F c ⟨zQ,s,f,c.g⟩ q p h).1,Â Æ (iV F c ⟨zQ,s,f,c.g⟩ q p h).2.1])/\kQ E rb sv lv f.length w (o0 c t.g) zQ t.s t.C u:=by
 subst D;by_cases b:c.d=4
 .have e:iV F c ⟨zQ,s,f,c.g⟩ q p h=(0,0,⟨zQ,s,f,c.g⟩):=by unfold iV;rw[if_pos b]
  rw[e];refine(al7 ok a b).mono ?_;rintro e u ⟨rfl,rfl⟩;exact⟨U,a.jT⟩
 .have e:iV F c ⟨zQ,s,f,c.g⟩ q p h=((F s f c.y (q%8).toNat (min p c.g) h).M,xM (F s f c.y (q%8).toNat (min p c.g) h).C,⟨zQ,(F s f c.y (q%8).toNat (min p c.g) h).s,(F s f c.y (q%8).toNat (min p c.g) h).I,c.g-(F s f c.y (q%8).toNat (min p c.g) h).r⟩):=by unfold iV;rw[if_neg b]
  rw[e];exact amd ok a i Z (hF Z) j k l m n o r v z B C
def amg(ok:E.Ok)(i:R E rb c sv lv (((zQ++[h])++[p])++[q]) s f w)(hn:zQ.length<=800)(o:0<=c.d)(r:c.d<=4)(hF:c.d<4->tB F (c.d+1))(v:qB F)(z:iJ w)(B:gH s)(C:c.x<8)(D:c.y<8)(G:gd q)(I:gd p)(J:gd h)(K:0<=c.g)(L:c.g<=100000)(M:(f.length:Int)+c.g<=1000000)(t:RT)(N:t=(iV F c ⟨zQ,s,f,c.g⟩ q p h).2.2)(a b:Int)(j:a=(iV F c ⟨zQ,s,f,c.g⟩ q p h).1)(k:b=(iV F c ⟨zQ,s,f,c.g⟩ q p h).2.1): Ò À 205 #[Å<|Ã ⟨rb,0,Ä⟩,Â Ë 20] w λe u=>e=È (æ #[])/\kQ E rb sv lv f.length w (o0 c t.g) (zQ++[a,b]) t.s t.C u:=by have c0:=i.r.r 0 _ U;have c2:=i.r.r 2 _ U;have gI:=i.r.M;have Mq:=ff.M i.C;have H:=fc<|Á i<|Á z<|Á hF v;go_enter ê,å;go_wp2_with fail;go_quiet (fail);go_wp2_with fail;have O:=Tr.fK (E:=E) (rb:=rb) (sv:=sv) (lv:=lv) (n:=f.length) (e8.iP (λ_=>False) w nq);have P:=H.out.1.fK (e8.iP (λ_=>False) w nq);go_at_call 204;refine(nJ ok P (by first|omega|(simp;omega))).mono ?_;rintro e w1 ⟨rfl,sv1,Q,S⟩;go_wp2_with fail;go_at_call 204;refine(nJ ok Q (by first|omega|(simp;omega))).mono ?_;rintro e w2 ⟨rfl,Jl,T,V⟩;go_wp2_with fail;go_at_call 204;refine(nJ ok T (by first|omega|(simp;omega))).mono ?_;rintro e w3 ⟨rfl,Nb,W,X⟩;have l:=((O.fe S).fe V).fe X;go_wp2_with fail;go_at_call 210;refine(amf ok W o r H.out.2.2.1 H.out.2.2.2 (H.out.2.1.N ok H.out.1 l) B C D G I J K L M t N).mono ?_;rintro e w4 ⟨rfl,sv4,lv4,Y,t4⟩;rw[<-j,<-k];go_wp2_with fail;go_at_call 203;refine(S0 ok Y (by first|omega|(simp;omega)) _ _).mono ?_;rintro e w5 ⟨rfl,sv5,m,t5⟩;go_wp2_with fail;go_end0;rw[<-j,<-k]at m;exact⟨U,_,_,m,(l.fe t4).fe t5⟩
end
def tC(h:∀p∈zQ,gd p):gd (fY zQ):=by
 by_cases a:0<zQ.length
 .apply h _;rw[B_ zQ a];simp[fY]
 .have:zQ=[]:=ß Z;subst this;exact⟨A,A⟩
def pM(h:∀p∈zQ,gd p):∀p∈fW zQ,gd p:=λp a=>h p<|List.dropLast_subset zQ a
def qC(l:List Int):(fW l).length=l.length-1:=by simp[fW]
def xR(h:0<zQ.length):fW zQ++[fY zQ]=zQ:=(B_ zQ h).symm
theorem amh(F:mo)(c:RC)(l b:List Int)(s:St)(a:List (Nat×Int))(g q p k:Int): (iV F c ⟨l,s,a,g⟩ q p k).1=(iV F c ⟨b,s,a,g⟩ q p k).1/\(iV F c ⟨l,s,a,g⟩ q p k).2.1=(iV F c ⟨b,s,a,g⟩ q p k).2.1/\(iV F c ⟨l,s,a,g⟩ q p k).2.2.s=(iV F c ⟨b,s,a,g⟩ q p k).2.2.s/\ (iV F c ⟨l,s,a,g⟩ q p k).2.2.C=(iV F c ⟨b,s,a,g⟩ q p k).2.2.C/\(iV F c ⟨l,s,a,g⟩ q p k).2.2.g=(iV F c ⟨b,s,a,g⟩ q p k).2.2.g:=by unfold iV;grind
section
variable{E:iU}{rb:Nat}{c:RC}{sv lv:Ç}{s:St}{f:List (Nat×Int)}{F:mo}
def ami(ok:E.Ok)(h:R E rb c sv lv zQ s f w)(Y:zQ.length<=700)(C:0<=c.d)(D:c.d<=4)(hF:c.d<4->tB F (c.d+1))(G:qB F)(H:iJ w)(v:gH s)(z:c.x<8)(a:c.y<8)(r:∀p∈zQ,gd p)(I:0<=c.g)(J:c.g<=100000)(K:(f.length:Int)+c.g<=1000000) (k:Nat) (uN:2<=k) (uk:k<=20) (F_:k≠17) (L B M:Int) (b:iZ[k]?=Ã (L,B,M)) (Dk:B<=zQ.length) (t:RT) (N:t=oy F c k ⟨zQ,s,f,c.g⟩): Ò À 205 #[Å<|Ã ⟨rb,0,Ä⟩,Â Ë k] w λe i=>e=È (æ #[])/\kQ E rb sv lv f.length w (o0 c t.g) t.r t.s t.C i:=by
 subst N;have i:=tC r;have u:=tC<|pM r;have O:=tC<|pM<|pM r;have j:1<=zQ.length->R E rb c sv lv (fW zQ++[fY zQ]) s f w:=λq=>by rwa[xR Z]
 have l:2<=zQ.length->R E rb c sv lv ((fW (fW zQ)++[fY<|fW zQ])++[fY zQ]) s f w:=λq=>by rw[xR (by rw[qC];omega),xR Z];exact h
 have P:3<=zQ.length->R E rb c sv lv (((fW (fW<|fW zQ)++[fY<|fW<|fW zQ])++[fY<|fW zQ])++[fY zQ]) s f w:=λq=>by rw[xR (by rw[qC,qC];omega),xR (by rw[qC];omega),xR Z];exact h
 have m:zQ.length<=800:=Z
 have n:(fW zQ).length<=800:=by rw[qC];omega
 have o:(fW<|fW zQ).length<=800:=by rw[qC];omega
 have Q:(fW<|fW<|fW zQ).length<=800:=by rw[qC];omega
 have cases:(k=2\/k=3\/k=4\/k=5\/k=6\/k=7)\/k=8\/k=9\/k=10\/k=11\/k=12\/k=13\/k=14\/k=15\/k=16\/k=18\/k=19\/k=20:=Z
 rcases cases with hq|rfl|rfl|rfl|rfl|rfl|rfl|rfl|rfl|rfl|rfl|rfl|rfl
 .have S:2<=zQ.length:=by
   rcases hq with rfl|rfl|rfl|rfl|rfl|rfl<;>(simp[iZ]at b;omega)
  have e:oy F c k ⟨zQ,s,f,c.g⟩=⟨fW (fW zQ)++[xN k (fY<|fW zQ)<|fY zQ],s,f,c.g⟩:=by rcases hq with rfl|rfl|rfl|rfl|rfl|rfl<;>rfl
  rw[e];exact alZ ok (l S) o a u i Z Z
 .exact alP ok (j<|by simp[iZ]at b;omega) n a
 .exact alQ ok (l<|by simp[iZ]at b;omega) o a
 .exact alR ok (j<|by simp[iZ]at b;omega) n a
 .exact alS ok h m a
 .exact alT ok h m a z
 .exact alU ok h m a
 .exact alV ok h m a
 .exact alW ok (j<|by simp[iZ]at b;omega) n a i
 .exact alX ok (l<|by simp[iZ]at b;omega) o a i
 .exact alY ok (l<|by simp[iZ]at b;omega) o a u i v
 .exact al6 ok (j<|by simp[iZ]at b;omega) n a Z
 .let⟨S,T,V,W,X⟩:=amh F c zQ (fW<|fW<|fW zQ) s f c.g (fY zQ) (fY<|fW zQ)<|fY<|fW<|fW zQ;have e:oy F c 20 ⟨zQ,s,f,c.g⟩=⟨fW (fW<|fW zQ)++[(iV F c ⟨zQ,s,f,c.g⟩ (fY zQ) (fY<|fW zQ)<|fY<|fW<|fW zQ).1,(iV F c ⟨zQ,s,f,c.g⟩ (fY zQ) (fY<|fW zQ)<|fY<|fW<|fW zQ).2.1],(iV F c ⟨zQ,s,f,c.g⟩ (fY zQ) (fY<|fW zQ)<|fY<|fW<|fW zQ).2.2.s,(iV F c ⟨zQ,s,f,c.g⟩ (fY zQ) (fY<|fW zQ)<|fY<|fW<|fW zQ).2.2.C,(iV F c ⟨zQ,s,f,c.g⟩ (fY zQ) (fY<|fW zQ)<|fY<|fW<|fW zQ).2.2.g⟩:=U;rw[e,S,T,V,W,X];exact amg ok (P<|by simp[iZ]at b;omega) Q C D hF G H v z a i u O I J K _ U _ _ U U
end
def qD(c:Int)(w:É):Ò À 103 #[Â aW c] w λe a=>e=È (Â Ë<|lB c)/\a=w:=by
 go_enter Tryz.func103,Tryz.ntmps103;go_wp2;all_goals go_ret
 all_goals refine⟨FL ?_,U⟩
 all_goals simp only[beq_iff_eq,beq_eq_false_iff_ne,ne_eq]at*
 all_goals(try subst c)
 all_goals first|rfl|(unfold lB;simp[*];done)|(unfold lB;rw[if_neg Z];simp[*])
def kt:ŏ->Option ŏ
 |à c=>Ã c
 |.seq a b=>match kt a with
  |some c=>Ã c
  |none=>kt b
 |.block _ c=>kt c
 |.scope c=>kt c
 |.cond _ a b=>match kt a with
  |some c=>Ã c
  |none=>kt b
 |_=>Ä
noncomputable def uO:ŏ:=(Tryz.f191.body.bind kt).getD Ķ
def oe(a:Nat)(P:ByteArray)(b:Int)(u:Nat->Ç):é:=⟨#[Å<|Ã ⟨a,0,Ä⟩,Ă,Â Æ 0,Ñ Ï,Í P,Â Æ P.size,Â Æ b,u 7,u 8,u 9,u 10,u 11,u 12,u 13,u 14,u 15,u 16,u 17,u 18,u 19,u 20,u 21,u 22,u 23,u 24,u 25,u 26,u 27,u 28,u 29,u 30,u 31,u 32,u 33,u 34,u 35,u 36,u 37,u 38,u 39,u 40,u 41,u 42,u 43,u 44,u 45,u 46,u 47,u 48,u 49,u 50,u 51,u 52,u 53,u 54,u 55,u 56,u 57,u 58,u 59,u 60,u 61,u 62,u 63,u 64,u 65,u 66,u 67,u 68,u 69,u 70,u 71,u 72,u 73,u 74,u 75,u 76,u 77,u 78,u 79,u 80],[]⟩
def Dl(b:Nat)(P:ByteArray)(c:Int)(a:é):Prop:=∃u,a=oe b P c u
def F'(a:Nat)(P:ByteArray)(v:Int)(b:Bool)(u:Nat->Ç):é:=⟨#[Å<|Ã ⟨a,0,Ä⟩,Ă,Â Æ v,Ñ b,Í P,Â Æ P.size,u 6,u 7,u 8,u 9,u 10,u 11,u 12,u 13,u 14,u 15,u 16,u 17,u 18,u 19,u 20,u 21,u 22,u 23,u 24,u 25,u 26,u 27,u 28,u 29,u 30,u 31,u 32,u 33,u 34,u 35,u 36,u 37,u 38,u 39,u 40,u 41,u 42,u 43,u 44,u 45,u 46,u 47,u 48,u 49,u 50,u 51,u 52,u 53,u 54,u 55,u 56,u 57,u 58,u 59,u 60,u 61,u 62,u 63,u 64,u 65,u 66,u 67,u 68,u 69,u 70,u 71,u 72,u 73,u 74,u 75,u 76,u 77,u 78,u 79,u 80],[]⟩
def FM(c:Nat)(P:ByteArray)(v:Int)(b:Bool)(a:é):Prop:=∃u,a=F' c P v b u
def QQ(X:é->É->Prop):aV->é->É->Prop
 |.exit 0,a,w=>X a w
 |_,_,_=>False
section
variable{X:é->É->Prop}{E:iU}{c:RC}{s:St}{f:List (Nat×Int)}{F:mo}
def amj(ok:E.Ok)(u:Nat->Ç)(b:R E i c z x zQ s f w)(j:B.size<=40)(e:h=B.size) (g:∀a d,FM i B 0 Ú a->kQ E i z x f.length w c zQ s f d->X a d): Î À uO (Exit.then K<|QQ X) (oe i B h u) w:=by
 unfold oe;conv=>arg 2;whnf
 subst e;go_wp2_with fail;exact g _ _ (gh _) b.jT
def amk(ok:E.Ok)(u:Nat->Ç)(b:R E i c z x zQ s f w)(l:B.size<=40)(m:(B.size:Int)<h) (e:∀a d,FM i B 0 Ï a->kQ E i z x f.length w (o0 c 0) zQ s f d->X a d): Î À uO (Exit.then K<|QQ X) (oe i B h u) w:=by
 unfold oe;conv=>arg 2;whnf
 have n:w.cell? ⟨i,5,Ä⟩=Ã (Â Æ c.g):=b.r.r 5 _ U;have o:=b.r.C 5;have p:(h==(B.size:Int))=Ï:=by rw[beq_eq_false_iff_ne];omega
 have H:=fc b;clear b;go_wp2_with fail;let⟨j,k⟩:=H.out.N ok 5 (v:=Â Æ 0) (c':=o0 c 0) (kh:=z) (ss':=zQ) U H.out.I λ_ q=>q;exact e _ _ (gh _) ⟨_,_,j,k⟩
def aml(ok:E.Ok)(u:Nat->Ç)(b:R E i c z x zQ s f w)(P:B.size<=40)(n:Nat)(G:h=n)(I:n<B.size)(y:iJ w)(m o p:Int)(Q:zQ.length<=700)(J:0<=c.g)(S:c.g<=100000)(k:Nat)(C:lB ((B[n]'I).toNat:Int)=k)(r:iZ[k]?=Ã (m,o,p))(D:ml c.g zQ.length m o p=Ï) (L:∀a j,FM i B 0 Ï a->kQ E i z x f.length w (o0 c 0) zQ s f j->X a j): Î À uO (Exit.then K<|QQ X) (oe i B h u) w:=by
 unfold oe;conv=>arg 2;whnf
 subst G;have T:((n:Int)==(B.size:Int))=Ï:=by rw[beq_eq_false_iff_ne];omega
 have V:decide ((B.size:Int)<(n:Int))=Ï:=decide_eq_false Z;have W:(0:Int)<=(n:Int):=Z
 have Y:(n:Int)<(B.size:Int):=Z
 have d:=Dj E ok i c z x zQ s f w b y k m o p r Z J Z;rw[D]at d;have H:=fc<|Á b<|Á d<|Á r C;clear b d y r D C;go_wp2_with (go_at_call 103;refine(qD _ _).mono ?_;rintro e j ⟨rfl,l⟩;subst j;rw[H.out.2.2.2]);go_at_call 202;apply H.out.2.1.mono;rintro e M ⟨rfl,l,F⟩;have k5:M.cell? ⟨i,5,Ä⟩=Ã (Â Æ c.g):=l.r.r 5 _ U;have g5:=l.r.C 5;have t:=fc<|Á l F;clear l F;go_wp2_with fail;let⟨N,O⟩:=R.N ok t.out.1 5 (v:=Â Æ 0) (c':=o0 c 0) (kh:=z) (ss':=zQ) U t.out.1.I λ_ q=>q;exact L _ _ (gh _) ⟨_,_,N,t.out.2.fe O⟩
def amm(ok:E.Ok)(u:Nat->Ç)(b:R E i c z x zQ s f w)(J:B.size<=40)(n:Nat)(C:h=n)(D:n<B.size)(q:iJ w)(k l m:Int)(L:zQ.length<=700)(F:0<=c.g)(M:c.g<=100000)(r:lB ((B[n]'D).toNat:Int)=22)(o:iZ[(22:Nat)]?=Ã (k,l,m))(t:ml c.g zQ.length k l m=Ú) (G:∀a j,FM i B 0 Ï a->kQ E i z x f.length w (o0 c<|c.g-k) zQ s f j->X a j): Î À uO (Exit.then K<|QQ X) (oe i B h u) w:=by
 unfold oe;conv=>arg 2;whnf
 subst C;have N:((n:Int)==(B.size:Int))=Ï:=by rw[beq_eq_false_iff_ne];omega
 have O:decide ((B.size:Int)<(n:Int))=Ï:=decide_eq_false Z;have P:(0:Int)<=(n:Int):=Z
 have Q:(n:Int)<(B.size:Int):=Z
 have d:=Dj E ok i c z x zQ s f w b q 22 k l m o Z F Z;rw[t]at d;have H:=fc<|Á b<|Á d<|Á o r;clear b d q o t r;go_wp2_with (go_at_call 103;refine(qD _ _).mono ?_;rintro e j ⟨rfl,I⟩;subst j;rw[H.out.2.2.2]);go_at_call 202;apply H.out.2.1.mono;rintro e S ⟨rfl,p,v⟩;rw[if_pos U]at p;have y:=fc<|Á p v;clear p v;go_wp2_with (go_at_call 103;refine(qD _ _).mono ?_;rintro e j ⟨rfl,I⟩;subst j;rw[H.out.2.2.2]);exact G _ _ (gh _) ⟨_,_,y.out.1,y.out.2⟩
def amn(ok:E.Ok)(u:Nat->Ç)(b:R E i c z x zQ s f w)(P:B.size<=40)(n:Nat)(F:h=n)(G:n<B.size)(r:iJ w)(k l m:Int)(I:zQ.length<=700)(J:0<=c.g)(Q:c.g<=100000)(p:Int)(t:List Int)(L:zQ=t++[p])(v:lB ((B[n]'G).toNat:Int)=21)(o:iZ[(21:Nat)]?=Ã (k,l,m))(y:ml c.g zQ.length k l m=Ú) (M:∀a j,FM i B p Ú a->kQ E i z x f.length w (o0 c<|c.g-k) t s f j->X a j): Î À uO (Exit.then K<|QQ X) (oe i B h u) w:=by
 unfold oe;conv=>arg 2;whnf
 subst F;have S:((n:Int)==(B.size:Int))=Ï:=by rw[beq_eq_false_iff_ne];omega
 have T:decide ((B.size:Int)<(n:Int))=Ï:=decide_eq_false Z;have V:(0:Int)<=(n:Int):=Z
 have W:(n:Int)<(B.size:Int):=Z
 have d:=Dj E ok i c z x zQ s f w b r 21 k l m o Z J Z;rw[y]at d;have H:=fc<|Á b<|Á d<|Á o v;clear b d r o y v;go_wp2_with (go_at_call 103;refine(qD _ _).mono ?_;rintro e j ⟨rfl,N⟩;subst j;rw[H.out.2.2.2]);go_at_call 202;apply H.out.2.1.mono;rintro e Y ⟨rfl,q,C⟩;rw[if_pos U]at q;have D:=fc<|Á q C;clear q C;subst L;go_wp2_with (go_at_call 103;refine(qD _ _).mono ?_;rintro e j ⟨rfl,N⟩;subst j;rw[H.out.2.2.2]);go_at_call 204;refine(nJ ok D.out.1<|by simp at I;omega).mono ?_;rintro e w2 ⟨rfl,Jl,N,O⟩;go_wp2_with fail;exact M _ _ (gh _) ⟨_,_,N,D.out.2.fe O⟩
def amo(ok:E.Ok)(u:Nat->Ç)(b:R E i c z x zQ s f w)(L:B.size<=40)(n:Nat)(D:h=n)(k:n<B.size)(r:iJ w)(l m o:Int)(M:zQ.length<=700)(F:0<=c.g)(N:c.g<=100000)(O:(48:Int)<=((B[n]'k).toNat:Int))(P:((B[n]'k).toNat:Int)<=57)(t:lB ((B[n]'k).toNat:Int)=1)(p:iZ[(1:Nat)]?=Ã (l,m,o))(v:ml c.g zQ.length l m o=Ú) (G:∀a j,Dl i B ((n:Int)+1) a->kQ E i z x f.length w (o0 c<|c.g-l) (zQ++[((B[n]'k).toNat:Int)-48]) s f j->K a j): Î À uO (Exit.then K<|QQ X) (oe i B h u) w:=by
 unfold oe;conv=>arg 2;whnf
 subst D;have Q:((n:Int)==(B.size:Int))=Ï:=by rw[beq_eq_false_iff_ne];omega
 have S:decide ((B.size:Int)<(n:Int))=Ï:=decide_eq_false Z;have T:(0:Int)<=(n:Int):=Z
 have V:(n:Int)<(B.size:Int):=Z
 have d:=Dj E ok i c z x zQ s f w b r 1 l m o p Z F Z;rw[v]at d;have H:=fc<|Á b<|Á d<|Á p t;clear b d r p v t;go_wp2_with (go_at_call 103;refine(qD _ _).mono ?_;rintro e j ⟨rfl,I⟩;subst j;rw[H.out.2.2.2]);go_at_call 202;apply H.out.2.1.mono;rintro e W ⟨rfl,q,y⟩;rw[if_pos U]at q;have C:=fc<|Á q y;clear q y;go_wp2_with (go_at_call 103;refine(qD _ _).mono ?_;rintro e j ⟨rfl,I⟩;subst j;rw[H.out.2.2.2]);go_at_call 203;refine(zG ok C.out.1 Z _).mono ?_;rintro e Y ⟨rfl,Jl,I,J⟩;go_wp2_with fail;exact G _ _ (gh _) ⟨_,_,I,C.out.2.fe J⟩
def amq(ok:E.Ok)(u:Nat->Ç)(b:R E i c z x zQ s f w)(W:B.size<=40)(n:Nat)(M:h=n)(N:n<B.size)(t:iJ w)(k l m:Int)(v:zQ.length<=700)(O:0<=c.g)(Y:c.g<=100000)(p q:Int)(y:List Int)(P:zQ=(y++[p])++[q])(Q:¬p=0)(C:lB ((B[n]'N).toNat:Int)=17)(o:iZ[(17:Nat)]?=Ã (k,l,m))(D:ml c.g zQ.length k l m=Ú) (S:∀a j,Dl i B q a->kQ E i z x f.length w (o0 c<|c.g-k) y s f j->K a j): Î À uO (Exit.then K<|QQ X) (oe i B h u) w:=by
 unfold oe;conv=>arg 2;whnf
 subst M;have e1:((n:Int)==(B.size:Int))=Ï:=by rw[beq_eq_false_iff_ne];omega
 have e2:decide ((B.size:Int)<(n:Int))=Ï:=decide_eq_false Z;have I0:(0:Int)<=(n:Int):=Z
 have vP:(n:Int)<(B.size:Int):=Z
 have d:=Dj E ok i c z x zQ s f w b t 17 k l m o Z O Z;rw[D]at d;have H:=fc<|Á b<|Á d<|Á o C;clear b d t o D C;go_wp2_with (go_at_call 103;refine(qD _ _).mono ?_;rintro e j ⟨rfl,I⟩;subst j;rw[H.out.2.2.2]);go_at_call 202;apply H.out.2.1.mono;rintro e w1 ⟨rfl,r,F⟩;rw[if_pos U]at r;have G:=fc<|Á r F;clear r F;subst P;have e3:(p !=0)=Ú:=by rwa[bne_iff_ne]
 go_wp2_with (go_at_call 103;refine(qD _ _).mono ?_;rintro e j ⟨rfl,I⟩;subst j;rw[H.out.2.2.2])
 go_at_call 204;refine(nJ ok G.out.1<|by simp at v|-;omega).mono ?_;rintro e w2 ⟨rfl,Jl,I,J⟩;go_wp2_with fail;go_at_call 204;refine(nJ ok I<|by simp at v;omega).mono ?_;rintro e w3 ⟨rfl,Nb,V,L⟩;have T:=(G.out.2.fe J).fe L;clear I J L;go_wp2_with fail;exact S _ _ (gh _) ⟨_,_,V,T⟩
def amr(ok:E.Ok)(u:Nat->Ç)(b:R E i c z x zQ s f w)(W:B.size<=40)(n:Nat)(M:h=n)(N:n<B.size)(t:iJ w)(k l m:Int)(v:zQ.length<=700)(O:0<=c.g)(Y:c.g<=100000)(p q:Int)(y:List Int)(P:zQ=(y++[p])++[q])(Q:p=0)(C:lB ((B[n]'N).toNat:Int)=17)(o:iZ[(17:Nat)]?=Ã (k,l,m))(D:ml c.g zQ.length k l m=Ú) (S:∀a j,Dl i B ((n:Int)+1) a->kQ E i z x f.length w (o0 c<|c.g-k) y s f j->K a j): Î À uO (Exit.then K<|QQ X) (oe i B h u) w:=by
 unfold oe;conv=>arg 2;whnf
 subst M;have e1:((n:Int)==(B.size:Int))=Ï:=by rw[beq_eq_false_iff_ne];omega
 have e2:decide ((B.size:Int)<(n:Int))=Ï:=decide_eq_false Z;have I0:(0:Int)<=(n:Int):=Z
 have vP:(n:Int)<(B.size:Int):=Z
 have d:=Dj E ok i c z x zQ s f w b t 17 k l m o Z O Z;rw[D]at d;have H:=fc<|Á b<|Á d<|Á o C;clear b d t o D C;go_wp2_with (go_at_call 103;refine(qD _ _).mono ?_;rintro e j ⟨rfl,I⟩;subst j;rw[H.out.2.2.2]);go_at_call 202;apply H.out.2.1.mono;rintro e w1 ⟨rfl,r,F⟩;rw[if_pos U]at r;have G:=fc<|Á r F;clear r F;subst P;subst Q;go_wp2_with (go_at_call 103;refine(qD _ _).mono ?_;rintro e j ⟨rfl,I⟩;subst j;rw[H.out.2.2.2]);go_at_call 204;refine(nJ ok G.out.1<|by simp at v|-;omega).mono ?_;rintro e w2 ⟨rfl,Jl,I,J⟩;go_wp2_with fail;go_at_call 204;refine(nJ ok I<|by simp at v;omega).mono ?_;rintro e w3 ⟨rfl,Nb,V,L⟩;have T:=(G.out.2.fe J).fe L;clear I J L;go_wp2_with fail;exact S _ _ (gh _) ⟨_,_,V,T⟩
def ams(ok:E.Ok)(u:Nat->Ç)(b:R E i c z x zQ s f w)(hP:B.size<=40)(n:Nat)(Q:h=n)(S:n<B.size)(r:iJ w)(l o q:Int)(T:zQ.length<=700)(V:0<=c.g)(uM:c.g<=100000)(k:Nat)(W:2<=k)(Y:k<=20)(F_:k≠17)(Dk:o<=zQ.length)(oT:0<=c.d)(hd:c.d<=4)(hF:c.d<4->tB F (c.d+1))(I:qB F)(J:gH s)(hx:c.x<8)(hy:c.y<8)(L:∀p∈zQ,gd p)(hlen:(f.length:Int)+c.g<=1000000)(t:RT)(M:t=oy F c k ⟨zQ,s,f,c.g-l⟩)(G_:0<=l)(S4:l<=c.g)(N:lB ((B[n]'S).toNat:Int)=k)(v:iZ[(k:Nat)]?=Ã (l,o,q))(O:ml c.g zQ.length l o q=Ú) (hK:∀a m,Dl i B ((n:Int)+1) a->kQ E i z x f.length w (o0 c t.g) t.r t.s t.C m->K a m): Î À uO (Exit.then K<|QQ X) (oe i B h u) w:=by
 unfold oe;conv=>arg 2;whnf
 subst Q;have e1:((n:Int)==(B.size:Int))=Ï:=by rw[beq_eq_false_iff_ne];omega
 have e2:decide ((B.size:Int)<(n:Int))=Ï:=decide_eq_false Z;have I0:(0:Int)<=(n:Int):=Z
 have vP:(n:Int)<(B.size:Int):=Z
 have j:=Dj E ok i c z x zQ s f w b r k l o q v Z V Z;rw[O]at j;have H:=fc<|Á b<|Á j<|Á r<|Á v N;clear b j r v O N;go_wp2_with (go_at_call 103;refine(qD _ _).mono ?_;rintro e m ⟨rfl,hw⟩;subst m;rw[H.out.2.2.2.2]);go_at_call 202;apply H.out.2.1.mono;rintro e w1 ⟨rfl,C,P⟩;rw[if_pos U]at C;have G:=fc<|Á C P;clear C P;have e11:((k:Int)==1)=Ï:=by rw[beq_eq_false_iff_ne];omega
 have e27:((k:Int)==17)=Ï:=by rw[beq_eq_false_iff_ne];omega
 have e31:((k:Int)==21)=Ï:=by rw[beq_eq_false_iff_ne];omega
 have e32:((k:Int)==22)=Ï:=by rw[beq_eq_false_iff_ne];omega
 have D:=ami (t:=t) ok G.out.1 T oT hd hF I (H.out.2.2.1.N ok H.out.1 G.out.2) J hx hy L (by show 0<=c.g-l;omega) (by show c.g-l<=100000;omega) (by show(f.length:Int)+(c.g-l)<=1000000;omega) k W Y F_ l o q H.out.2.2.2.1 Dk M;have HD:=fc D;clear D hF I J L hlen M;go_wp2_with (go_at_call 103;refine(qD _ _).mono ?_;rintro e m ⟨rfl,hw⟩;subst m;rw[H.out.2.2.2.2]);go_at_call 205;apply HD.out.mono;rintro e w2 ⟨rfl,Jl,MO,h2,t2⟩;go_wp2_with fail;exact hK _ _ (gh _) ⟨_,_,h2,G.out.2.fe t2⟩
end
def qE(k:Nat):Int×Int×Int:=(iZ[k]?).getD (0,0,0)
def FN(P:ByteArray)(a:Int):Int:=((P.data.getD a.toNat 0).toNat:Int)
def lM(P:ByteArray)(a:Int):Nat:=lB<|FN P a
def tD(F:mo)(c:RC)(P:ByteArray):Nat->Int->RT->Int×Bool×RT
 |0,_,t=>(0,Ï,t)
 |f+1,pl,t=>
  if pl=P.size then(0,Ú,t)
  else if(P.size:Int)<pl then(0,Ï,{t with g:=0})
  else if ml t.g t.r.length (qE<|lM P pl).1 (qE<|lM P pl).2.1 (qE<|lM P pl).2.2=Ï then(0,Ï,{t with g:=0})
  else if lM P pl=1 then tD F c P f (pl+1) {t with r:=t.r++[FN P pl-48],g:=t.g-(qE<|lM P pl).1}
  else if lM P pl=17 then
   if fY (fW t.r)=0 then tD F c P f (pl+1) {t with r:=fW<|fW t.r,g:=t.g-(qE<|lM P pl).1}else tD F c P f (fY t.r) {t with r:=fW<|fW t.r,g:=t.g-(qE<|lM P pl).1}
  else if lM P pl=21 then(fY t.r,Ú,{t with r:=fW t.r,g:=t.g-(qE<|lM P pl).1})
  else if lM P pl=22 then(0,Ï,{t with g:=t.g-(qE<|lM P pl).1})
  else tD F c P f (pl+1) (oy F c (lM P pl) {t with g:=t.g-(qE<|lM P pl).1})
structure oh(t:RT):Prop where
 r:∀p∈t.r,gd p
 M:t.r.length<=32
 s:gH t.s
 g0:0<=t.g
 C:t.g<=100000
 I:(t.C.length:Int)+t.g<=1000000
def amt{p:Prop}[Decidable p](c:i<=m)(d:b<=m):(if p then i else b)<=m:=by split;exact c;exact d
def H_(c:Int):lB c<=22:=by unfold lB;repeat' (first|refine amt A ?_|decide)
def uP:gd 0:=⟨A,A⟩
def amu:gd 1:=⟨A,A⟩
theorem I_(h:k<=22):iZ[k]?=Ã (qE k):=by
 unfold qE;have:k<iZ.length:=by show k<23;omega
 grind
def zI(n:Int):gd (wu n):=⟨alE n,alF n⟩
def I'(b:Bool):gd (xM b):=by cases b<;>exact⟨A,A⟩
def amv{q:Int}(a:gd c)(d:gd q):gd (xN h c q):=by
 unfold xN;repeat' split
 all_goals first|exact zI _|exact I' _|exact⟨A,A⟩|skip
 rename_i e;have b:=a.1;exact⟨Int.ediv_nonneg b d.1,Int.lt_of_le_of_lt (Int.ediv_le_self _ b) a.2⟩
def gH.fP{s:St}(h:gH s){a:Je}(b:gd a.fu)(d:∀j,gd<|a.C j)(e:a.r.size<=40/\∀c∈a.r.data.toList,xO c=Ú):gH (s.fP i a):=by
 refine⟨λj=> ?_,λj k=> ?_,λj=> ?_⟩<;>unfold St.fP<;>split
 .exact b
 .exact h.fu j
 .exact d k
 .exact h.C j k
 .exact e
 .exact h.I j
def gH.r{s:St}(h:gH s)(i:Nat){b:Int}(a:gd b):gH (s.fu i b):=h.fP a (h.C i)<|h.I i
def gH.SV{s:St}(h:gH s)(i j:Nat)(a:gd c):gH (s.r i j c):=by
 refine h.fP (h.fu i) (λk=> ?_)<|h.I i;show gd (if k=j then c else(s i).C k);split
 .exact a
 .exact h.C i k
def amw{s:St}(h:gH s)(y:Nat){p:Int}(a:gd p):gd (rA s y c p).1/\gH (rA s y c p).2:=by
 unfold rA;split
 .exact⟨uP,h⟩
 .rename_i d;have b:=h.fu y;have e:=a.1;refine⟨amu,gH.r (gH.r h y ⟨Z,by have:=b.2;omega⟩) _<|zI _⟩
def J_(h:n<8):gd (n:Int):=⟨Z,Z⟩
section
variable{F:mo}{c:RC}{t:RT}
def tE{m:List Int}(h:∀p∈zQ,gd p)(k:∀p∈m,gd p):∀p∈zQ++m,gd p:=λp a=>(ú.1 a).elim (h p)<|k p
def xS{a:Int}(h:gd a):∀p∈[a],gd p:=λp b=>by simp at b;subst b;exact h
def S5{a b:Int}(h:gd a)(k:gd b):∀p∈[a,b],gd p:=λp c=>by simp at c;rcases c with rfl|rfl;exact h;exact k
def amx(b:qB F)(a:oh t)(d:c.y<8){p k:Int}(f:gd h)(i:gd p)(j:gd k): gd (iV F c t h p k).1/\gd (iV F c t h p k).2.1/\gH (iV F c t h p k).2.2.s/\0<=(iV F c t h p k).2.2.g/\(iV F c t h p k).2.2.g<=t.g/\((iV F c t h p k).2.2.C.length:Int)+(iV F c t h p k).2.2.g<=(t.C.length:Int)+t.g:=by
 unfold iV;split
 .exact⟨uP,uP,a.s,a.g0,Ö _,Ö _⟩
 .have l:0<=min p t.g:=by have:=i.1;have:=a.g0;omega
  have m:=a.C;have n:=a.I;have o:=f.1;have e:=b t.s t.C c.y (h%8).toNat (min p t.g) k a.s d Z j l Z Z;have r:=e.C;have u:=e.r;have v:=e.I;refine⟨e.M,I' _,e.N,?_,?_,?_⟩;all_goals simp only
  all_goals have:=a.g0
  all_goals omega
theorem J'(v:qB F)(w:c.x<8)(r:c.y<8)(z:gd c.k)(P:2<=k)(Q:k<=20)(S:k≠17){o u:Int}(d:iZ[k]?=Ã (h,o,u)){g:Int}(T:t.g=g-h)(a:oh t)(V:(t.C.length:Int)+g<=1000000)(W:o<=t.r.length)(X:(t.r.length:Int)-o+u<=32): oh (oy F c k t)/\(oy F c k t).g<=t.g/\((oy F c k t).C.length:Int)+(oy F c k t).g<=t.C.length+g:=by
 have i:=tC a.r;have j:=tC<|pM a.r;have B:=tC<|pM<|pM a.r;have m:=pM a.r;have n:=pM m;have C:=pM n;have f:=qC t.r;have q:=qC<|fW t.r;have Y:=qC<|fW<|fW t.r;have g1:=a.C;obtain⟨D,E,G,H,I,J⟩:=M9 k _ d;simp only at D E G H I J;have len:=a.M;have b:∀{l:List Int},(∀p∈l,gd p)->l.length<=32->oh {t with r:=l}:=λp K=>⟨p,K,a.s,a.g0,a.C,a.I⟩;have cases:(k=2\/k=3\/k=4\/k=5\/k=6\/k=7)\/k=8\/k=9\/k=10\/k=11\/k=12\/k=13\/k=14\/k=15\/k=16\/k=18\/k=19\/k=20:=Z
 rcases cases with hq|rfl|rfl|rfl|rfl|rfl|rfl|rfl|rfl|rfl|rfl|rfl|rfl
 .have e:oy F c k t={t with r:=fW (fW t.r)++[xN k (fY<|fW t.r)<|fY t.r]}:=by
   rcases hq with rfl|rfl|rfl|rfl|rfl|rfl<;>rfl
  rw[e];exact⟨b (tE n<|xS<|amv j i) (by simp[f,q];omega),Ö _,by simp only;omega⟩
 .exact⟨b (tE m<|S5 i i) (by simp[f];simp[iZ]at d;omega),Ö _,by show(t.C.length:Int)+t.g<=_;omega⟩
 .exact⟨b (tE n<|S5 i j) (by simp[f,q];omega),Ö _,by show(t.C.length:Int)+t.g<=_;omega⟩
 .exact⟨b m (by rw[f];omega),Ö _,by show(t.C.length:Int)+t.g<=_;omega⟩
 .exact⟨b (tE a.r<|xS z) (by simp;simp[iZ]at d;omega),Ö _,by show(t.C.length:Int)+t.g<=_;omega⟩
 .exact⟨b (tE a.r<|xS<|J_ w) (by simp;simp[iZ]at d;omega),Ö _,by show(t.C.length:Int)+t.g<=_;omega⟩
 .exact⟨b (tE a.r<|xS<|J_ r) (by simp;simp[iZ]at d;omega),Ö _,by show(t.C.length:Int)+t.g<=_;omega⟩
 .exact⟨b (tE a.r<|xS<|a.s.fu _) (by simp;simp[iZ]at d;omega),Ö _,by show(t.C.length:Int)+t.g<=_;omega⟩
 .exact⟨b (tE m<|xS<|a.s.C _ _) (by simp[f];omega),Ö _,by show(t.C.length:Int)+t.g<=_;omega⟩
 .exact⟨⟨n,by show(fW<|fW t.r).length<=32;omega,a.s.SV _ _ j,a.g0,a.C,a.I⟩,Ö _,by show(t.C.length:Int)+t.g<=_;omega⟩
 .obtain⟨e,L⟩:=amw a.s c.y j;exact⟨⟨tE n<|xS e,by show(fW (fW t.r)++[_]).length<=32;simp[f,q];omega,L,a.g0,a.C,a.I⟩,Ö _,by show(t.C.length:Int)+t.g<=_;omega⟩
 .have e:h=4:=by simp[iZ]at d;omega
  refine⟨⟨m,by show(fW t.r).length<=32;omega,a.s,a.g0,a.C,?_⟩,Ö _,?_⟩
  .show((t.C++[_]).length:Int)+t.g<=_;simp;omega
  .show((t.C++[_]).length:Int)+t.g<=_;simp;omega
 .obtain⟨e,L,M,N,O,w6⟩:=amx v a r i j B;refine⟨⟨tE C<|S5 e L,?_,M,N,?_,?_⟩,O,?_⟩
  .show(fW (fW<|fW t.r)++[_,_]).length<=32;grind
  .show(iV F c t _ _ _).2.2.g<=_;omega
  .show((iV F c t _ _ _).2.2.C.length:Int)+(iV F c t _ _ _).2.2.g<=_;omega
  .show((iV F c t _ _ _).2.2.C.length:Int)+(iV F c t _ _ _).2.2.g<=_;omega
end
def Dm(a:Nat)(w:É):Nat:=match w.cell? ⟨a,5,Ä⟩with
 |some (Â _ n)=>n.toNat
 |_=>0
def R.G{E:iU}{c:RC}{s:St}{a:List (Nat×Int)}(h:R E i c v x zQ s a w):Dm i w=c.g.toNat:=by unfold Dm;rw[h.r.r 5 _ U]
def SI(E:iU)(d:Nat)(c:RC)(P:ByteArray)(F:mo)(f h:Ç)(i:Nat)(j:É)(k:Int×Bool×RT)(a:é)(w:É):Prop:=
 ∃(b:Int) (t:RT) (e:Nat),Dl d P b a/\gd b/\kQ E d f h i j (o0 c t.g) t.r t.s t.C w/\oh t/\iJ w/\t.g.toNat<e/\tD F c P e b t=k
def SX(E:iU)(d:Nat)(c:RC)(P:ByteArray)(e f:Ç)(h:Nat)(i:É)(b:Int×Bool×RT)(a:é)(w:É):Prop:=
 FM d P b.1 b.2.1 a/\kQ E d e f h i (o0 c b.2.2.g) b.2.2.r b.2.2.s b.2.2.C w
def S6(a:n<B.size):FN B (n:Int)=((B[n]'a).toNat:Int):=by unfold FN;rw[Ŷ];have b:n<B.data.size:=a;simp only[Array.getD,b,dif_pos];rfl
theorem S7{s:St}(b:gH s)(y:Nat)(a:n<(s y).r.size):1<=lM (s y).r (n:Int):=by
 unfold lM;rw[S6 a];have c:((s y).r[n]'a)∈(s y).r.data.toList:=by have:(s y).r[n]'a=(s y).r.data[n]'a:=U;grind [Array.getElem_mem]
 have:=(b.I y).2 _ c;unfold xO at this;have:=of_decide_eq_true this;omega
def K_{b a d:Int}(h:ml c n b a d=Ú):b<=c/\a<=n/\(n:Int)-a+d<=32:=by unfold ml at h;simp at h;omega
def amy{p:Prop}[Decidable p](c:i≠m)(d:b≠m):(if p then i else b)≠m:=by split;exact c;exact d
def L_(h:lB c=1):48<=c/\c<=57:=by
 by_cases a:48<=c/\c<=57
 .exact a
 .exfalso;revert h;unfold lB;rw[if_neg a];repeat' (first|refine amy A ?_|decide)
def amz(a:1<=k)(b:k<=22):1<=(qE k).1:=by
 have h:∀k:Fin 23,1<=k.val->1<=(qE k.val).1:=A
 exact h ⟨k,Z⟩ a
section
variable{E:iU}{c:RC}{F:mo}{l:Int×Bool×RT}
def amA(ok:E.Ok)(hP:B.size<=40)(amB:∀n,n<B.size->1<=lM B (n:Int))(oT:0<=c.d)(hd:c.d<=4)(hF:c.d<4->tB F (c.d+1))(hI:qB F)(hx:c.x<8)(hy:c.y<8)(Jm:gd c.k)(a:é)(w:É)(h:SI E j c B F z v i W l a w): Î À uO (Exit.then (λa' w'=>SI E j c B F z v i W l a' w'/\Dm j w'<Dm j w)<|QQ<|SX E j c B z v i W l) a w:=by
 let⟨pl,t,fuel,hfr,rO,⟨sv,lv,hR,hT⟩,ht,hr,hfu,ki⟩:=h;have g0:=ht.g0;have g1:=ht.C;have hl:=ht.M;have amC:=hR.G;obtain⟨f,rfl⟩:∃f,fuel=f+1:=⟨fuel-1,Z⟩;unfold tD at ki;obtain⟨u,rfl⟩:=hfr;by_cases h1:pl=B.size
 .rw[if_pos h1]at ki;subst ki;apply amj ok u hR hP h1;rintro a' w' q1 ⟨kh,jC,r1,r2⟩;exact⟨q1,kh,jC,r1,hT.fe r2⟩
 rw[if_neg h1]at ki;by_cases h2:(B.size:Int)<pl
 .rw[if_pos h2]at ki;subst ki;apply amk ok u hR hP h2;rintro a' w' q1 ⟨kh,jC,r1,r2⟩;exact⟨q1,kh,jC,r1,hT.fe r2⟩
 rw[if_neg h2]at ki;have E_:=rO.1;obtain⟨n,rfl⟩:∃n:Nat,pl=n:=⟨pl.toNat,Z⟩;have hn:n<B.size:=Z
 have k1:=amB n hn;have uN:lB ((B[n]'hn).toNat:Int)=lM B (n:Int):=by unfold lM;rw[S6 hn]
 have k2:lM B (n:Int)<=22:=H_ _;have hk:=I_ k2;have G_:=amz k1 k2;let⟨b1,b2,b3,b4,b5,b6⟩:=M9 _ _ hk;have amD:=S6 hn;generalize lM B (n:Int)=k at*;generalize hro:qE k=ro at*;let⟨co,ta,pu⟩:=ro;simp only at ki hk G_ b1 b2 b3 b4 b5 b6;by_cases h3:ml t.g t.r.length co ta pu=Ï
 .rw[if_pos h3]at ki;subst ki;apply aml ok u hR hP n U hn hr co ta pu Z g0 g1 k uN hk h3;rintro a' w' q1 ⟨kh,jC,r1,r2⟩;exact⟨q1,kh,jC,r1,hT.fe r2⟩
 rw[if_neg h3]at ki;have oU:ml t.g t.r.length co ta pu=Ú:=by cases e:ml t.g t.r.length co ta pu with
  |true=>rfl
  |false=>exact absurd e h3
 let⟨S4,Dk,S8⟩:=K_ oU;have S9:=ht.I;have vP:gd ((n:Int)+1):=⟨Z,Z⟩;have Nc:∀{a':é} {w':É} {Jn:Int} {t':RT} {kh jC:Ç},Dl j B Jn a'->gd Jn->R E j (o0 c t'.g) kh jC t'.r t'.s t'.C w'->Tr E j sv lv t.C.length w kh jC t'.C.length w'->oh t'->t'.g<=t.g-co->tD F c B f Jn t'=l->SI E j c B F z v i W l a' w'/\Dm j w'<Dm j w:=by intro a' w' Jn t' kh jC q1 q2 q3 q4 q5 q6 q7;refine⟨⟨Jn,t',f,q1,q2,⟨kh,jC,q3,hT.fe q4⟩,q5,hr.N ok hR q4,Z,q7⟩,?_⟩;rw[q3.G,amC];show t'.g.toNat<t.g.toNat;omega
 by_cases h4:k=1
 .rw[if_pos h4]at ki;subst h4;have M_:=L_ uN;apply amo ok u hR hP n U hn hr co ta pu Z g0 g1 M_.1 M_.2 uN hk oU;rintro a' w' q1 ⟨kh,jC,r1,r2⟩;rw[amD]at ki;refine Nc (t':={t with r:=t.r++[((B[n]'hn).toNat:Int)-48],g:=t.g-co}) q1 vP r1 r2 ⟨tE ht.r<|xS ⟨Z,Z⟩,?_,ht.s,by show 0<=t.g-co;omega,by show t.g-co<=100000;omega,by show(t.C.length:Int)+(t.g-co)<=1000000;omega⟩ (Ö _) ki;simp[iZ]at hk;simp;omega
 rw[if_neg h4]at ki;by_cases h5:k=17
 .rw[if_pos h5]at ki;subst h5;have amE:ta=2:=by simp[iZ]at hk;omega
  have e2:t.r=(fW (fW t.r)++[fY<|fW t.r])++[fY t.r]:=by rw[xR (by rw[qC];omega),xR Z]
  have tok:oh {t with r:=fW<|fW t.r,g:=t.g-co}:=⟨pM<|pM ht.r,by show(fW<|fW t.r).length<=32;rw[qC,qC];omega,ht.s,by show 0<=t.g-co;omega,by show t.g-co<=100000;omega,by show(t.C.length:Int)+(t.g-co)<=1000000;omega⟩;by_cases h6:fY (fW t.r)=0
  .rw[if_pos h6]at ki;apply amr ok u hR hP n U hn hr co ta pu Z g0 g1 _ _ _ e2 h6 uN hk oU;rintro a' w' q1 ⟨kh,jC,r1,r2⟩;exact Nc (t':={t with r:=fW<|fW t.r,g:=t.g-co}) q1 vP r1 r2 tok (Ö _) ki
  .rw[if_neg h6]at ki;apply amq ok u hR hP n U hn hr co ta pu Z g0 g1 _ _ _ e2 h6 uN hk oU;rintro a' w' q1 ⟨kh,jC,r1,r2⟩;exact Nc (t':={t with r:=fW<|fW t.r,g:=t.g-co}) q1 (tC ht.r) r1 r2 tok (Ö _) ki
 rw[if_neg h5]at ki;by_cases h6:k=21
 .rw[if_pos h6]at ki;subst h6 ki;have amE:ta=1:=by simp[iZ]at hk;omega
  apply amn ok u hR hP n U hn hr co ta pu Z g0 g1 _ _ (xR Z).symm uN hk oU;rintro a' w' q1 ⟨kh,jC,r1,r2⟩;exact⟨q1,kh,jC,r1,hT.fe r2⟩
 rw[if_neg h6]at ki;by_cases h7:k=22
 .rw[if_pos h7]at ki;subst h7 ki;apply amm ok u hR hP n U hn hr co ta pu Z g0 g1 uN hk oU;rintro a' w' q1 ⟨kh,jC,r1,r2⟩;exact⟨q1,kh,jC,r1,hT.fe r2⟩
 rw[if_neg h7]at ki;let⟨d1,d2,d3⟩:=J' (t:={t with g:=t.g-co}) hI hx hy Jm Z Z h5 hk U ⟨ht.r,ht.M,ht.s,by show 0<=t.g-co;omega,by show t.g-co<=100000;omega,by show(t.C.length:Int)+(t.g-co)<=1000000;omega⟩ S9 Dk S8;apply ams ok u hR hP n U hn hr co ta pu Z g0 g1 k Z Z h5 Dk oT hd hF hI ht.s hx hy ht.r S9 (oy F c k {t with g:=t.g-co}) U b1 S4 uN hk oU;rintro a' w' q1 ⟨kh,jC,r1,r2⟩;exact Nc q1 vP r1 r2 d1 d2 ki
end
section
variable{E:iU}{c:RC}{F:mo}{lv:Ç}{s:St}{b:List (Nat×Int)}
def oz(F:mo)(c:RC)(s:St)(b:List (Nat×Int)):Int×Bool×RT:=tD F c (s c.y).r (c.g.toNat+1) 0 ⟨[],s,b,c.g⟩
def M'(ok:E.Ok)(h:R E i c v lv [] s b w)(l:0<=c.d)(o:c.d<=4)(hF:c.d<4->tB F (c.d+1))(p:qB F)(q:iJ w)(f:gH s)(r:c.x<8)(j:c.y<8)(t:gd c.k)(z:0<=c.g)(B:c.g<=100000)(C:(b.length:Int)+c.g<=1000000): Ò À 191 #[Å<|Ã ⟨i,0,Ä⟩] w λe a=>e=È (æ #[Â Æ (oz F c s b).1,Ñ (oz F c s b).2.1])/\kQ E i v lv b.length w (o0 c (oz F c s b).2.2.g) (oz F c s b).2.2.r (oz F c s b).2.2.s (oz F c s b).2.2.C a:=by
 have G:=h.r.r 0 _ U;have I:=h.r.r 2 _ U;have J:=h.C.M6 j;have K:=h.r.M;have M:=ff.M h.C;have e:=(f.I c.y).1;have L:∀m,∀a,Dl i (s c.y).r 0 a->Î À (à uO) (QQ<|SX E i c (s c.y).r v lv b.length w<|oz F c s b) a (w.drewN m):=λm a D=>by refine ĉ (SI E i c (s c.y).r F v lv b.length w<|oz F c s b) (λ_ w=>Dm i w) ?_ (amA ok e (λn u=>S7 f c.y u) l o hF p r j t);have k:=e8.iP (λ_=>False) w m;exact⟨0,⟨[],s,b,c.g⟩,c.g.toNat+1,D,uP,⟨v,lv,h.fK k,Tr.fK k⟩,⟨fi,fi,f,z,B,C⟩,q.r k id,fi,U⟩
 have H:=fc L;generalize oz F c s b=res at*;generalize N:(s c.y).r=P at*;go_enter Tryz.func191,Tryz.ntmps191;go_wp2_with fail;go_step3;go_wp2_with fail;go_quiet (fail);go_wp2_with fail;go_step3;go_wp2_with fail;refine Ý ?_ (H.out _ _ (gh _));rintro(_|(_|_)|_|_|_|_) a v hq;all_goals first|exact absurd hq id|skip
 let⟨n,O⟩:=hq;obtain⟨u,rfl⟩:=n;unfold F';go_wp2_with fail;(try rw[Exit.noGoto_ret]);go_ret2;simp_all
end
def Ta(a:o.op=bl T)(b:P.info? T=Ã zJ)(c:zJ.zero=Ã z): (ĥ xX o).run P w=χ (.value<|Å<|Ã ⟨w.heap.size,0,Ä⟩) (w.alloc<|Ð z.cells T):=by unfold ĥ;simp[a,Instr.alloc,zeroValue,typeInfo,b,c,newVar,newRow]
def Nd:∀(e a d:List Ç) (w:É) (c:List Ç),c.length=e.length->ff b (a++c++d) T w->ff b (a++e++d) T (w.setCells b a.length e)
 |[],a,d,w,c,hl,h=>by have:c=[]:=ß (by simpa using hl);subst this;exact h
 |v::r,a,d,w,c,hl,h=>by
  match c,hl,h with
  |x::c,hl,h=>
   have f:=h.fP a.length v;rw[show(a++x::c++d).set a.length v=(a++[v])++c++d by simp]at f;have:=Nd r (a++[v]) d _ c (by simpa using hl) f;rw[show(a++[v]).length=a.length+1 by simp]at this;rw[show a++v::r++d=a++[v]++r++d by simp];exact this
def NF.qN(h:NF b w)(p:Ą)(v:Ç):NF b (w.setCell p v):=λc T d q=>by
 by_cases e:b=p.block
 .subst e;unfold Ć at q;simp only[Û,if_true]at q;cases a:w.heap[p.block]? with
  |none=>rw[a]at q;cases q
  |some f=>
   rw[a]at q;cases f with
   |cells g t z=>
    simp only[ñ,è,Ĥ]at q;rw[<-q.2.1];exact h _ _ _ a
   |_=>cases q
 .rw[ė _ _ _ _ (by simpa using e)]at q;exact h c T d q
def Jo:∀(vs:List Ç) (o:Nat) (w:É),NF b w->e8 (λk=>k=b) w (w.setCells b o vs)
 |[],_,w,_=>e8.fU _ w
 |v::r,o,w,h=>(e8.I (X:=λk=>k=b) (p:=⟨b,o,Ä⟩) U v<|Ù h).fe<|Jo r (o+1) _<|h.qN _ _
def ff.Tb{vs:List Ç}(h:ff j vs T w)(a:n<=vs.length):w.there j 0 n:=λi b=>by refine⟨?_,h.C _⟩;rw[h.r (0+i) (vs[0+i]'Z)<|Ô Z];rfl
def ff.Y{vs tl:List Ç}(h:ff j (vs++tl) T w):w.rangeAt j 0 vs:=λi v a=>by apply h.r (0+i) v;rwa[ł,ç (Ü.1 a).1]
def Td{P:Program}{ops:Array Oper}{rest:List Oper}{o1 o2:Oper}{a:Act}{w:World}{Q:Exit->Act->World->Prop}(g1:o1.guard=none)(g2:o2.guard=none)(T:TypeId)(h1:o1.op=.alloc T)(d:Tmp)(hd:o1.dst=some d)(x y:Operand)(h2:o2.op=.store T x y)(na:o2.dst=none) {i:TypeInfo} {z:Value} (hi:P.info? T=some i) (hz:i.zero=some z) (cs:List Value) (ji:i.size=cs.length) (sd:z.cells.size=cs.length) (hx:(a.put (some d)<|.pointer<|some ⟨w.heap.size,0,none⟩).eval x=.pointer (some ⟨w.heap.size,0,none⟩)) (hy:(a.put (some d)<|.pointer<|some ⟨w.heap.size,0,none⟩).eval y=.agg cs.toArray) (Nf:∀v∈cs,v.oneCell'=true) (h:∀w',ff w.heap.size cs T w'->e8 (λ_=>False) w w'->w'.heap.size=w.heap.size+1->wpList P ops Q rest (a.put (some d)<|.pointer<|some ⟨w.heap.size,0,none⟩) w') (hT:mj T=false:=by decide):wpList P ops Q (o1::o2::rest) a w:=by
 apply ć g1 (Ã d) hd _ _ (Ta h1 hi hz);have hB:ff w.heap.size z.cells.toList T (w.alloc<|Ð z.cells T):=by have:=ff.N w z.cells.toList T;simpa using this
 refine ľ g2 T x y h2 w.heap.size 0 cs.toArray hx hy (hB.Tb<|by simp[sd]) (by rw[hi];simp[ji]) (Ī Nf) ?_;rw[na];have hB2:=Nd cs [] [] (w.alloc<|Ð z.cells T) z.cells.toList (by simpa using sd) (by simpa using hB);refine h _ (by simpa using hB2) ?_ ?_
 .refine(e8.gE (λ_=>False) w _ _<|Ø hT).C (Jo _ _ _<|hB.G hT) λk hk e=> ?_;omega
 .have:∀(vs:List Ç) (o:Nat) (w:É) (b:Nat),(w.setCells b o vs).heap.size=w.heap.size:=by
   intro vs
   induction vs with
   |nil=>intro o w b;rfl
   |cons v r ih=>intro o w b;rw[World.setCells,ih];simp
  simp[this]
section
variable{c:RC}{F:mo}
structure zK(t:RT)(r:Int×Bool×RT):Prop where
 M:gd r.1
 s:gH r.2.2.s
 g0:0<=r.2.2.g
 C:r.2.2.g<=t.g
 I:(r.2.2.C.length:Int)+r.2.2.g<=t.C.length+t.g
def zK.r{t a:RT}{r:Int×Bool×RT}(h:zK a r)(b:a.g<=t.g)(c:(a.C.length:Int)+a.g<=t.C.length+t.g):zK t r:= ⟨h.M,h.s,h.g0,ŷ h.C b,ŷ h.I c⟩
def FO{J:St->List (Nat×Int)->Prop}(u:B.size<=40)(d:∀n,n<B.size->1<=lM B (n:Int))(h:qB F)(i:c.x<8)(j:c.y<8)(m:gd c.k)(o:∀(k:Nat) (t:RT),k<=20->oh t->J t.s t.C->J (oy F c k t).s (oy F c k t).C):∀(p:Nat) (b:Int) (t:RT),gd b->oh t->J t.s t.C->zK t (tD F c B p b t)/\J (tD F c B p b t).2.2.s (tD F c B p b t).2.2.C
 |0,_,t,_,ht,hj=>⟨⟨uP,ht.s,ht.g0,Ö _,Ö _⟩,hj⟩
 |f+1,b,t,rO,ht,hj=>by
  have S:=ht.g0;have g1:=ht.C;have T:=ht.M;have V:=ht.I;have L:zK t (0,Ï,{t with g:=0})/\J t.s t.C:=⟨⟨uP,ht.s,Ö _,S,by show(t.C.length:Int)+0<=_;omega⟩,hj⟩;unfold tD;by_cases M:b=B.size
  .rw[if_pos M];exact⟨⟨uP,ht.s,ht.g0,Ö _,Ö _⟩,hj⟩
  rw[if_neg M];by_cases N:(B.size:Int)<b
  .rwa[if_pos N]
  rw[if_neg N];have E_:=rO.1;obtain⟨n,rfl⟩:∃n:Nat,b=n:=⟨b.toNat,Z⟩;have W:n<B.size:=Z
  have k1:=d n W;have X:lM B (n:Int)<=22:=H_ _;have v:=I_ X;let⟨Y,b2,b3,b4,b5,b6⟩:=M9 _ _ v;have amF:lM B (n:Int)=1->48<=FN B (n:Int)/\FN B (n:Int)<=57:=L_;generalize lM B (n:Int)=k at*;generalize hro:qE k=ro at*;let⟨a,w,z⟩:=ro;simp only at v Y b2 b3 b4 b5 b6|-;by_cases C:ml t.g t.r.length a w z=Ï
  .rwa[if_pos C]
  rw[if_neg C];have oU:ml t.g t.r.length a w z=Ú:=by cases e:ml t.g t.r.length a w z with
   |true=>rfl
   |false=>exact absurd e C
  let⟨S4,Dk,S8⟩:=K_ oU;have D:gd ((n:Int)+1):=⟨Z,Z⟩;have E:∀{l:List Int},(∀p∈l,gd p)->l.length<=32->oh {t with r:=l,g:=t.g-a}:=λG H=>⟨G,H,ht.s,by show 0<=t.g-a;omega,by show t.g-a<=100000;omega,by show(t.C.length:Int)+(t.g-a)<=1000000;omega⟩;have I:∀{l:List Int} {r:Int×Bool×RT},zK {t with r:=l,g:=t.g-a} r/\J r.2.2.s r.2.2.C->zK t r/\J r.2.2.s r.2.2.C:=λq=>⟨q.1.r (by show t.g-a<=t.g;omega) (by show(t.C.length:Int)+(t.g-a)<=_;omega),q.2⟩;by_cases p:k=1
  .rw[if_pos p];have:=amF p;subst p;refine I<|FO u d h i j m o f _ _ D (E (tE ht.r<|xS ⟨Z,Z⟩) ?_) hj;simp[iZ]at v;simp;omega
  rw[if_neg p];by_cases K:k=17
  .rw[if_pos K];have O:=E (pM<|pM ht.r) (by rw[qC,qC];omega);split
   .exact I<|FO u d h i j m o f _ _ D O hj
   .exact I<|FO u d h i j m o f _ _ (tC ht.r) O hj
  rw[if_neg K];by_cases O:k=21
  .rw[if_pos O];exact⟨⟨tC ht.r,ht.s,by show 0<=t.g-a;omega,by show t.g-a<=t.g;omega,by show(t.C.length:Int)+(t.g-a)<=_;omega⟩,hj⟩
  rw[if_neg O];by_cases P:k=22
  .rw[if_pos P];exact⟨⟨uP,ht.s,by show 0<=t.g-a;omega,by show t.g-a<=t.g;omega,by show(t.C.length:Int)+(t.g-a)<=_;omega⟩,hj⟩
  rw[if_neg P];have Q:=E ht.r T;let⟨d1,d2,d3⟩:=J' (t:={t with g:=t.g-a}) h i j m Z Z K v U Q V Dk S8;let⟨G,H⟩:=FO u d h i j m o f _ _ D d1<|o k _ Z Q hj;exact⟨G.r (ŷ d2<|by show t.g-a<=t.g;omega) d3,H⟩
def N_{s:St}{a:List (Nat×Int)}(d:qB F)(b:gH s)(e:c.x<8)(f:c.y<8)(h:gd c.k)(i:0<=c.g)(j:c.g<=100000)(l:(a.length:Int)+c.g<=1000000):zK ⟨[],s,a,c.g⟩ (oz F c s a):= (FO (J:=λ_ _=>True) (b.I c.y).1 (λn m=>S7 b c.y m) d e f h (λ_ _ _ _ _=>trivial) _ _ _ uP ⟨fi,fi,b,i,j,l⟩ trivial).1
end
def amG:(À.underlying 144).map İ=Ã Ú:=fp
def N':(À.info? 144).map (λi=>(i.size,i.zero.map (·.cells.size)))=Ã (145,Ã 145):=fp
def O_(h:(P.info? e).map (λi=>(i.size,i.zero.map (·.cells.size)))=Ã (n,Ã m)):∃i z,P.info? e=Ã i/\i.size=n/\i.zero=Ã z/\z.cells.size=m:=by let⟨i,a,h⟩:=Ì.1 h;simp only[Prod.mk.injEq,Ì]at h;let⟨b,z,c,d⟩:=h;exact⟨i,z,a,b,c,d⟩
def Te(s:St){lv:Ç}(b:lv.oneCell'=Ú):∀v∈ja s lv,v.oneCell'=Ú:=λv c=>by
 obtain⟨i,a,rfl⟩:=List.getElem_of_mem c;rw[mK]at a;have:=Jf s lv a;rw[Ô (by rwa[mK])]at this;injection this with this;rw[this];unfold sk qA;repeat' split
 all_goals first|exact b|rfl
def Tf{t:Tmp}{d:TypeDesc}(h:s.results=#[.cell t T])(a:q.getD t Ă=Å (Ã ⟨b,0,Ä⟩))(c:w.rangeAt b 0 l)(e:P.underlying T=Ã d)(f:d.isRow=Ú)(g:(P.info? T).map (·.size)=Ã l.length): (ar s q).run P w=χ (Ē l.toArray) w:=by rw[ī]at a;simp only[ar,h];simp[a,asAddr,Ν w b 0 T l d c e f g]
def Tg:(À.underlying 252).map İ=Ã Ú:=fp
def Ti:(À.info? 252).map (·.size)=Ã 3:=fp
def amH{e:Array ş}{f:List ş}{a:é}(i:o.guard=Ä)(d:ô)(x y:Ů)(j:o.op=.store d x y) (b:Nat) (c:List Ç) (k:a.eval x=Å (Ã ⟨b,0,Ä⟩)) (l:a.eval y=Ē c.toArray) (m:w.there b 0 c.toArray.size) (n:(P.info? d).map (·.size)=Ã c.toArray.size) (p:c.toArray.all (·.oneCell')=Ú) (h:∀g,g=w.setCells b 0 c->aT P e vJ f (a.put o.dst Ă) g):aT P e vJ (o::f) a w:= ľ i d x y j b 0 c.toArray k l m n p<|h _ U
def sr(F:mo)(c:RC)(s:St)(a:List (Nat×Int)):zH:=
 ⟨c.g-(oz F c s a).2.2.g,(oz F c s a).2.1,(oz F c s a).1,if(oz F c s a).2.1 then(oz F c s a).2.2.s else s,if(oz F c s a).2.1 then(oz F c s a).2.2.C else a⟩
section
variable{E:iU}{c:RC}{lv:Ç}{s:St}{f:List (Nat×Int)}{F:mo}
def P_(k:e8 (λ_=>False) w u)(t:Tr E i (Ê Ä 0 0) lv n u x v f.length W)(o:w.heap.size<=i)(r:R E i c x v zQ s f W):im E lv n w s f W v:=by
 refine⟨r.C,r.M,?_,λj q=>(t.l j q).imp id λe=>ë k.M e,λb d g h m=>t.C b d g (ie h k λ_ _=>id) m⟩;refine(k.S λ_ _=>Ě).C t.r ?_;rintro a p (e|e|e|e)
 .exact Ø e
 .omega
 .cases e
 .exact Ù e
def im.N{Y:Nat->Prop}(r:im E lv n w s f W v)(k:e8 Y W jX)(m:∀i,Y i->w.heap.size<=i)(o:∀i d,Y i->W.heap[i]?≠Ã (Ð d 257 (0,0)))(p:¬Y E.r):im E lv n w s f jX v:=by
 have e:∀{a b c},W.ownsRow 0 257 2 a b c->jX.ownsRow 0 257 2 a b c:=λ{a b c} q=>ie q k λj t y=>by let⟨d,u⟩:=lX q t;exact o j d y u
 exact⟨r.r.I k p,e r.I,r.C.C k λi x y=>absurd (m i y) Z,r.l,λa b c g h=>⟨e (r.M a b c g h).1,(r.M a b c g h).2⟩⟩
def im.re{a:St}{c:List (Nat×Int)}(ok:E.Ok)(m:w.ownsRow 0 257 2 lv c.length (kr c))(r:im E lv c.length w s f W v):im E lv c.length w a c (W.setCells E.r 0<|ja a lv) lv:=by have k:=Jo (b:=E.r) (ja a lv) 0 W<|ff.G r.r ok.C;have l:∀{d e g},W.ownsRow 0 257 2 d e g->(W.setCells E.r 0<|ja a lv).ownsRow 0 257 2 d e g:=λ{d e g} q=>ie q k λj n y=>jD q r.r ok.r.symm (by rw[n,y]);have o:=Nd (T:=E.T) (b:=E.r) (ja a lv) [] E.C W (ja s v) (by rw[mK,mK]) (by have h:=r.r;unfold iB at h;simpa using h);refine⟨by unfold iB;simpa using o,l (r.M _ _ _ m λ_=>Þ _).1,r.C.C k λi _ q=>Ø q,λj q=>Ø q,λd e g p h=>⟨l (r.M d e g p h).1,h⟩⟩
def P'(ok:E.Ok)(oT:0<=c.d)(hd:c.d<=4)(hF:c.d<4->tB F (c.d+1))(hI:qB F)(V:iB E.r E.T E.C s lv w)(Tk:w.ownsRow 0 257 2 lv f.length (kr f))(hr:iJ w)(hs:gH s)(hx:c.x<8)(hy:c.y<8)(Jm:gd c.k)(vx:0<=c.g)(uM:c.g<=100000)(hlen:(f.length:Int)+c.g<=1000000): Ò À 173 #[Å<|Ã ⟨E.r,0,Ä⟩,Â Ë c.x,Â Ë c.y,Â Æ c.g,Â Æ c.k,Â Ë c.d] w λe a=>
  e=È (Ē #[Â Æ (sr F c s f).r,Ñ (sr F c s f).C,Â Æ (sr F c s f).M])/\∃v,im E lv f.length w (sr F c s f).s (sr F c s f).I a v:=by
 let⟨dd,Q_,Q'⟩:=Ì.1 amG;let⟨i0,z0,Jp,ji,Jq,sd⟩:=O_ N';have Nf:=Te s (lv:=lv) (by obtain⟨a,u,rfl⟩:=jj Tk;rfl);have gI:=ff.M V;have R_:(À.info? 144).map (·.size)=Ã (ja s lv).length:=by rw[Jp,mK];simp[ji]
 have k0:=e8.gE (λ_=>False) w #[Â Æ 0,Ñ Ï,Â Æ 0] 252;have Ra:(w.alloc<|Ð #[Â Æ 0,Ñ Ï,Â Æ 0] 252).rangeAt E.r 0 (ja s lv):=ff.Y<|V.I k0 id;have h:=fc<|Á Q_<|Á Q'<|Á R_<|Á Ra<|Á Jp<|Á Jq<|Á (ji.trans (mK s lv).symm)<|Á (sd.trans (mK s lv).symm) Nf;have H:=fc<|Á V<|Á Tk<|Á hr<|Á hF<|Á hI hs;clear Q_ Q' Jp ji Jq sd Nf R_ Ra V Tk hr hF hI hs k0;obtain⟨a,b,t,ki⟩:∃a b t,oz F c s f=(a,b,t):=⟨_,_,_,U⟩;have iH:sr F c s f=⟨c.g-t.g,b,a,if b then t.s else s,if b then t.C else f⟩:=by unfold sr;rw[ki]
 rw[iH];have Ng:=N_ H.out.2.2.2.2.1 H.out.2.2.2.2.2 hx hy Jm vx uM hlen;rw[ki]at Ng;have tg0:0<=t.g:=Ng.g0;have tg1:t.g<=c.g:=Ng.C;clear Ng;cases b with
 |true=>
  go_enter au,κ;go_wp2_with (first
   |(with_reducible refine Ė U 144 _ U E.r 0 U (ja s lv) dd h.out.2.2.2.1 h.out.1 h.out.2.1 h.out.2.2.1 ?_)
   |(with_reducible refine Td U U 144 U 13 U _ _ U U h.out.2.2.2.2.1 h.out.2.2.2.2.2.1 (ja s lv) h.out.2.2.2.2.2.2.1 h.out.2.2.2.2.2.2.2.1 U U h.out.2.2.2.2.2.2.2.2 ?_;intro l G z I))
  have J:l.heap.size=w.heap.size+1+1:=by simpa using I
  have K:ff (w.heap.size+1) (ja s lv) 144 l:=by simpa using G
  have n:e8 (λ_=>False) w (l.alloc<|Ð #[Å<|Ã ⟨E.r,0,Ä⟩,Â Ë c.x,Â Ë c.y,Â Æ c.k,Â Ë c.d,Â Æ c.g,Ê Ä 0 0] 282):=((e8.gE _ _ _ _).fe z).fe<|e8.gE _ _ _ _;have L:=e8.gE (λ_=>False) l #[Å<|Ã ⟨E.r,0,Ä⟩,Â Ë c.x,Â Ë c.y,Â Æ c.k,Â Ë c.d,Â Æ c.g,Ê Ä 0 0] 282;have M:R E (w.heap.size+1+1) c (Ê Ä 0 0) lv [] s f (l.alloc<|Ð #[Å<|Ã ⟨E.r,0,Ä⟩,Â Ë c.x,Â Ë c.y,Â Æ c.k,Â Ë c.d,Â Æ c.g,Ê Ä 0 0] 282):= ⟨by rw[<-J];exact ff.N l (rz E.r c<|Ê Ä 0 0) 282,ā _ _ _ _,H.out.1.I n id,ie H.out.2.1 n λ_ _=>id⟩;have N:ff w.heap.size [Â Æ 0,Ñ Ï,Â Æ 0] 252 l:=(ff.N w [Â Æ 0,Ñ Ï,Â Æ 0] 252).I z id;have S:=M' (F:=F) ok M oT hd H.out.2.2.2.1 H.out.2.2.2.2.1 (H.out.2.2.1.r n id) H.out.2.2.2.2.2 hx hy Jm vx uM hlen;rw[ki]at S;go_at_call 191;apply S.mono;clear S;rintro e W ⟨rfl,Nb,Nh,o,B⟩;have O:=P_ n B Z o;have C:∀{j:Nat} {D:List Ç} {T:ô},ff j D T l->w.heap.size<=j->ff j D T W:=λ{j D T} hB hj=>by
   refine(hB.I L id).I B.r ?_;have:=hB.M;rintro(q|q|q|q)
   .omega
   .omega
   .cases q
   .have:=(H.out.2.1.lt j q).2;omega
  have m:=C N<|Þ _;have P:=C K Z;have e0:=m.r 0 _ U;have e1:=m.r 1 _ U;have e2:=m.r 2 _ U;have f0:=m.C 0;have f1:=m.C 1;have f2:=m.C 2;have g5:W.cell? ⟨w.heap.size+1+1,5,Ä⟩=Ã (Â Æ t.g):=o.r.r 5 _ U;have ZB:=o.r.M;have r:=fc<|Á O<|Á o<|Á m P;clear O o B m P C M N K n L G z I J;go_wp2_with fail;let⟨d2,na,rZ⟩:=Ì.1 Tg;have u:=((r.out.2.2.1.fP 0<|Â Æ<|c.g-t.g).fP 1<|Ñ Ú).fP 2<|Â Æ a;apply ð (Tf U U (ff.Y (tl:=[]) (vs:=[Â Æ<|c.g-t.g,Ñ Ú,Â Æ a]) u) na rZ Ti) U;refine⟨U,Nh,r.out.1.N (Y:=λk=>k=w.heap.size) (((e8.I (X:=λk=>k=w.heap.size) (p:=⟨w.heap.size,0,Ä⟩) U _).fe<|e8.I (X:=λk=>k=w.heap.size) (p:=⟨w.heap.size,1,Ä⟩) U _).fe<|e8.I (X:=λk=>k=w.heap.size) (p:=⟨w.heap.size,2,Ä⟩) U _) (λi q=>by omega) (λi cur q Q=> ?_) Z⟩;have h0:W.heap[w.heap.size]?=_:=r.out.2.2.1;rw[q,h0]at Q;cases Q
 |false=>
  go_enter au,κ;go_wp2_with (first
   |(with_reducible refine Ė U 144 _ U E.r 0 U (ja s lv) dd h.out.2.2.2.1 h.out.1 h.out.2.1 h.out.2.2.1 ?_)
   |(with_reducible refine Td U U 144 U 13 U _ _ U U h.out.2.2.2.2.1 h.out.2.2.2.2.2.1 (ja s lv) h.out.2.2.2.2.2.2.1 h.out.2.2.2.2.2.2.2.1 U U h.out.2.2.2.2.2.2.2.2 ?_;intro l G z I))
  have J:l.heap.size=w.heap.size+1+1:=by simpa using I
  have K:ff (w.heap.size+1) (ja s lv) 144 l:=by simpa using G
  have n:e8 (λ_=>False) w (l.alloc<|Ð #[Å<|Ã ⟨E.r,0,Ä⟩,Â Ë c.x,Â Ë c.y,Â Æ c.k,Â Ë c.d,Â Æ c.g,Ê Ä 0 0] 282):=((e8.gE _ _ _ _).fe z).fe<|e8.gE _ _ _ _;have L:=e8.gE (λ_=>False) l #[Å<|Ã ⟨E.r,0,Ä⟩,Â Ë c.x,Â Ë c.y,Â Æ c.k,Â Ë c.d,Â Æ c.g,Ê Ä 0 0] 282;have M:R E (w.heap.size+1+1) c (Ê Ä 0 0) lv [] s f (l.alloc<|Ð #[Å<|Ã ⟨E.r,0,Ä⟩,Â Ë c.x,Â Ë c.y,Â Æ c.k,Â Ë c.d,Â Æ c.g,Ê Ä 0 0] 282):= ⟨by rw[<-J];exact ff.N l (rz E.r c<|Ê Ä 0 0) 282,ā _ _ _ _,H.out.1.I n id,ie H.out.2.1 n λ_ _=>id⟩;have N:ff w.heap.size [Â Æ 0,Ñ Ï,Â Æ 0] 252 l:=(ff.N w [Â Æ 0,Ñ Ï,Â Æ 0] 252).I z id;have S:=M' (F:=F) ok M oT hd H.out.2.2.2.1 H.out.2.2.2.2.1 (H.out.2.2.1.r n id) H.out.2.2.2.2.2 hx hy Jm vx uM hlen;rw[ki]at S;go_at_call 191;apply S.mono;clear S;rintro e W ⟨rfl,Nb,Nh,o,B⟩;have O:=P_ n B Z o;have C:∀{j:Nat} {D:List Ç} {T:ô},ff j D T l->w.heap.size<=j->ff j D T W:=λ{j D T} hB hj=>by
   refine(hB.I L id).I B.r ?_;have:=hB.M;rintro(q|q|q|q)
   .omega
   .omega
   .cases q
   .have:=(H.out.2.1.lt j q).2;omega
  have m:=C N<|Þ _;have P:=C K Z;have e0:=m.r 0 _ U;have e1:=m.r 1 _ U;have e2:=m.r 2 _ U;have f0:=m.C 0;have f1:=m.C 1;have f2:=m.C 2;have g5:W.cell? ⟨w.heap.size+1+1,5,Ä⟩=Ã (Â Æ t.g):=o.r.r 5 _ U;have ZB:=o.r.M;have r:=fc<|Á O<|Á o<|Á m P;clear O o B m P C M N K n L G z I J;have rg:W.rangeAt (w.heap.size+1) 0 (ja s lv):=ff.Y (tl:=[]) (by simpa using r.out.2.2.2);have th:W.there E.r 0 (ja s lv).toArray.size:=by have:=r.out.1.r;unfold iB at this;exact this.Tb<|by simp only[Ĉ,Ó,mK];omega
  have R':(À.info? 144).map (·.size)=Ã (ja s lv).toArray.size:=by rw[h.out.2.2.1];simp
  have nI:=Ī h.out.2.2.2.2.2.2.2.2;have HNF:=fc<|ff.G r.out.2.1.C ok.C;have HG:=fc<|Á rg<|Á th<|Á R' nI;clear rg th R' nI;go_wp2_with (first
   |(with_reducible refine Ė U 144 _ U (w.heap.size+1) 0 U (ja s lv) dd HG.out.1 h.out.1 h.out.2.1 h.out.2.2.1 ?_)
   |(with_reducible refine amH U 144 _ _ U E.r (ja s lv) U U HG.out.2.1 HG.out.2.2.1 HG.out.2.2.2 ?_;intro jX xT;have kb:e8 (λk=>k=E.r) W jX:=(by rw[xT];exact Jo _ _ _ HNF.out);have u:=r.out.2.2.1.I kb Z;have p0:=u.r 0 _ U;have p1:=u.r 1 _ U;have p2:=u.r 2 _ U;have y0:=u.C 0;have y1:=u.C 1;have y2:=u.C 2;have Tl:=r.out.2.1.r.I kb Z;have p5:jX.cell? ⟨w.heap.size+1+1,5,Ä⟩=Ã (Â Æ t.g):=Tl.r 5 _ U;have hl4:=Tl.M;have S_:=fc u;clear kb u Tl;have HW:=fc xT;clear xT))
  let⟨d2,na,rZ⟩:=Ì.1 Tg;apply ð (Tf U U (ff.Y (tl:=[]) (vs:=[Â Æ<|c.g-t.g,Ñ Ï,Â Æ a])<|((S_.out.fP 0<|Â Æ<|c.g-t.g).fP 1<|Ñ Ï).fP 2<|Â Æ a) na rZ Ti) U;have u:im E lv f.length w s f jX lv:=by rw[HW.out];exact r.out.1.re ok H.out.2.1
  refine⟨U,lv,u.N (Y:=λk=>k=w.heap.size) (((e8.I (X:=λk=>k=w.heap.size) (p:=⟨w.heap.size,0,Ä⟩) U _).fe<|e8.I (X:=λk=>k=w.heap.size) (p:=⟨w.heap.size,1,Ä⟩) U _).fe<|e8.I (X:=λk=>k=w.heap.size) (p:=⟨w.heap.size,2,Ä⟩) U _) (λi q=>by omega) (λi cur q Q=> ?_) Z⟩;rw[q,S_.out]at Q;cases Q
end
def zL:Nat->mo
 |0=>λs a _ _ _ _=>⟨0,Ï,0,s,a⟩
 |n+1=>λs a x y g k=>sr (zL n) ⟨x,y,k,4-(n:Int),g⟩ s a
theorem amI{F:mo}(d:qB F){c:RC}{s:St}{a:List (Nat×Int)}(b:gH s)(e:c.x<8)(f:c.y<8)(i:gd c.k)(j:0<=c.g)(l:c.g<=100000)(m:(a.length:Int)+c.g<=1000000):D' a c.g (sr F c s a):=by
 have h:=N_ d b e f i j l m;have p:=h.g0;have n:=h.C;have o:=h.I;simp only at n o;unfold sr;refine⟨by simp only;omega,by simp only;omega,?_,h.M,?_⟩
 .simp only;split
  .exact h.s
  .exact b
 .grind
def Jr:∀n,qB<|zL n
 |0=>λs a x y g k b _ _ _ d _ _=>⟨Ö _,d,b,uP,by show(a.length:Int)<=a.length+0;omega⟩
 |n+1=>λs a x y g k b d e f h i j=>amI (c:=⟨x,y,k,4-(n:Int),g⟩) (Jr n) b d e f h i j
def S':∀n,n<=3->tB (zL<|n+1) (4-(n:Int))
 |0,_=>λE a s t u x y g k w b d f i j l m o p r=>P' (c:=⟨x,y,k,4-((0:Nat):Int),g⟩) (F:=zL 0) a (show(0:Int)<=4-((0:Nat):Int) by decide) (show(4:Int)-((0:Nat):Int)<=4 by decide) (λq=>absurd q<|show¬(4:Int)-((0:Nat):Int)<4 by decide) (Jr 0) b d f i j l p m o r
 |n+1,h=>λE a s t u x y g k w b d f i j l m o p r=>by
  have e:(4:Int)-((n+1:Nat):Int)+1=4-(n:Int):=Z
  exact P' a (by show 0<=4-((n+1:Nat):Int);omega) (by show 4-((n+1:Nat):Int)<=4;omega) (λ_=>by show tB _ (4-((n+1:Nat):Int)+1);rw[e];exact(S' n Z)) (Jr<|n+1) b d f i j l p m o r
def gi:mo:=zL 4
def Ni:qB gi:=Jr 4
def T_:tB gi 1:=S' 3 A
def iB.nZ{tl:List Ç}{s:St}(h:iB b T tl s v w)(k:e8 X w u)(a:¬X b):iB b T tl s v u:=ff.I h k a
section
variable{E:iU}{lv:Ç}{w1:É}{s B d:St}{ls f r:List (Nat×Int)}
theorem im.fU(a:iB E.r E.T E.C s lv w)(b:w.ownsRow 0 257 2 lv ls.length (kr ls)):im E lv ls.length w s ls w lv:= ⟨a,b,e8.fU _ _,λ_ q=>Ø q,λ_ _ _ c d=>⟨c,d⟩⟩
def im.fe(h:im E lv n w B f w1 v)(k:im E v f.length w1 d r u jQ):im E lv n w d r u jQ:=by
 refine⟨k.r,k.I,h.C.C k.C ?_,λj q=> ?_,λa b c g m=> ?_⟩
 .rintro i o (e|e)
  .exact Ø e
  .exact Ù<|(h.l i e).resolve_right Z
 .rcases k.l j q with e|e
  .exact h.l j e
  .exact Ù<|ë h.C.M e
 .let⟨e,i⟩:=h.M a b c g m;exact k.M a b c e i
def im.fK(h:im E lv n w s ls w1 v)(k:e8 (λ_=>False) w1 u):im E lv n w s ls u v:= h.N k (λ_=>Ě) (λ_ _=>Ě) id
def im.Y(ok:E.Ok)(h:im E lv n w s ls w1 v)(i:Nat)(k:iB E.r E.T E.C d v (w1.setCell ⟨E.r,i,Ä⟩ x)):im E lv n w d ls (w1.setCell ⟨E.r,i,Ä⟩ x) v:=by have e:=e8.I (X:=λk=>k=E.r) (p:=⟨E.r,i,Ä⟩) U x<|Ù<|ff.G h.r ok.C;have f:∀{a b c},w1.ownsRow 0 257 2 a b c->(w1.setCell ⟨E.r,i,Ä⟩ x).ownsRow 0 257 2 a b c:=λ{a b c} q=>ie q e λj o y=>jD q h.r ok.r.symm (by rw[o,y]);exact⟨k,f h.I,h.C.C e λi _ q=>Ø q,h.l,λa b c g m=>⟨f (h.M a b c g m).1,(h.M a b c g m).2⟩⟩
def im.fu(ok:E.Ok)(h:im E lv n w s ls w1 v)(a:i<8)(x:Int):im E lv n w (s.fu i x) ls (w1.setCell ⟨E.r,i*18,Ä⟩<|Â Æ x) v:=h.Y ok _<|h.r.zE a x
def im.M6(ok:E.Ok)(h:im E lv n w s ls w1 v)(a:i<8)(x:ByteArray):im E lv n w (s.C i x) ls (w1.setCell ⟨E.r,i*18+1,Ä⟩<|Í x) v:=h.Y ok _<|h.r.alB a x
end
def xU(s:St)(x y:Nat)(n:Int):Bool×St:=
 if(s x).fu<n+10 then(Ï,s)else(Ú,(s.fu x<|(s x).fu-(n+10)).fu y<|wu<|(s.fu x ((s x).fu-(n+10)) y).fu+n)
section
variable{E:iU}{lv:Ç}{s:St}{ls:List (Nat×Int)}
def amJ(ok:E.Ok)(c:iB E.r E.T E.C s lv w)(g:w.ownsRow 0 257 2 lv ls.length (kr ls))(f:gH s)(x y:Nat)(n:Int)(a:x<8)(d:y<8)(h:0<=n)(i:n<=1000000): Ò À 168 #[Å<|Ã ⟨E.r,0,Ä⟩,Â Ë x,Â Ë y,Â Æ n] w λe m=>e=È (Ñ (xU s x y n).1)/\im E lv ls.length w (xU s x y n).2 ls m lv:=by
 have j:=c.fu a;have k:=ff.C c<|x*18;have l:=(f.fu x).1;have o:=(f.fu x).2;have p:∀m,((w.drewN m).setCell ⟨E.r,x*18,Ä⟩<|Â Æ<|(s x).fu-(n+10)).cell? ⟨E.r,y*18,Ä⟩=Ã (Â Æ (s.fu x ((s x).fu-(n+10)) y).fu):=λm=>((c.nZ (e8.iP (λ_=>False) w m) id).zE a _).fu d;have q:∀m,((w.drewN m).setCell ⟨E.r,x*18,Ä⟩<|Â Æ<|(s x).fu-(n+10)).frozen? ⟨E.r,y*18,Ä⟩=Ï:=λm=>ff.C ((c.nZ (e8.iP (λ_=>False) w m) id).zE a _) _;have r:=(c.zE a<|(s x).fu-(n+10)).fu d;have t:=ff.C (c.zE a<|(s x).fu-(n+10))<|y*18;have H:=fc<|im.fU c g;unfold xU;by_cases e:(s x).fu<n+10
 .rw[if_pos e];generalize(s x).fu=b at*;go_enter av,ν;go_wp2_with fail;go_ret;exact⟨U,H.out⟩
 .rw[if_neg e];generalize(s.fu x ((s x).fu-(n+10)) y).fu=b2 at*;generalize(s x).fu=b at*;go_enter av,ν;go_wp2_with fail;go_region;go_wp2_with fail;go_region;go_wp2_with fail;go_ret;refine⟨U,?_⟩;first
   |exact((H.out.fu ok a _).fu ok d _).fK<|e8.iP _ _ _
   |exact(((H.out.fK<|e8.iP _ _ _).fu ok a _).fu ok d _)
   |exact(((H.out.fK<|e8.fS _ _).fu ok a _).fK<|e8.fS _ _).fu ok d _
   |exact((H.out.fu ok a _).fu ok d _).still<|(Keep.drew _ _).trans<|Keep.drew _ _
end
def amK(a:ko w)(p:Ą)(n:Nat):ko (w.freeze p n):=by
 unfold Đ;split
 .exact a
 .intro i o h;simp only[Û]at h;split at h
  .cases b:w.heap[i]? with
   |none=>rw[b]at h;cases h
   |some d=>
    have:=a _ _ b;rw[b]at h;cases d with
    |cells c t z=>simp only[ñ,è]at h;subst h;exact λx=>x
    |_=>exact absurd trivial this
  .exact a i o h
def U_(a:sj m w)(p:Ą)(n:Nat):sj m (w.freeze p n):=by
 unfold Đ;split
 .exact a
 .intro i c T f e h b;simp only[Û]at h;split at h
  .cases d:w.heap[i]? with
   |none=>rw[d]at h;cases h
   |some g=>
    rw[d]at h;cases g with
    |cells j t z=>
     simp only[ñ,è,Ĥ]at h;rw[<-h.1];rw[<-h.2.1]at b;exact a _ _ _ _ e d b
    |_=>cases h
  .exact a i c T f e h b
theorem amL{w w1:World}{g:Nat}{cur Y:Array Value}{e:TypeId}{z:Nat×Nat}(hw:e8 (λ_=>False) w w1)(hg:w1.heap[g]?=some (.cells cur e z))(ava:w.heap.size<=g)(he:mj e=false:=by decide):e8 (λ_=>False) w (w1.setRow g Y):=by
 refine⟨by simpa using hw.M,λk hk _=>(Ę w1 g k Y Z).trans<|hw.N k hk id,λal i o ho=> ?_,λm a i c T fr hm h hT=> ?_⟩;rotate_left
 .by_cases hi:i=g
  .subst hi;rw[Ğ w1 i cur Y e z hg]at h;grind
  .rw[Ę w1 g i Y hi]at h;exact hw.Y m a i c T fr hm h hT
 by_cases hi:i=g
 .subst hi;rw[Ğ w1 i cur Y e z hg]at ho;cases ho;exact λx=>x
 .rw[Ę w1 g i Y hi]at ho;exact hw.gT al i o ho
def amM(b:e8 (λ_=>False) w u)(e:w.heap.size<=p.block):e8 (λ_=>False) w (u.freeze p n):=by
 refine⟨?_,λk c _=> ?_,λd=>amK (b.gT d) p n,λm a=>U_ (b.Y m a) p n⟩
 .unfold Đ;split
  .exact b.M
  .simpa using b.M
 .unfold Đ;split
  .exact b.N k c id
  .simp only[Û];rw[if_neg Z];exact b.N k c id
def Tm:(À.info? 5).map (λi=>(i.zero,i.size,i.bytes))=Ã (Ã<|Â aW 0,1,1):=fp
def amN(n:Nat)(e:n<=1000000):∃M:Array Ç,M.size=n/\∀W:É,(Instr.makeSlice 107 (Â Ë (n:Int))<|Â Ë (n:Int)).run À W=χ (Ê (Ã ⟨W.heap.size,0,Ä⟩) n n) (W.alloc<|Ð M 5):=by let⟨i,a,b,c,d⟩:=í Tm;refine⟨madeCells (Â aW 0).cells<|(n:Int).toNat*i.size,by rw[size_madeCells,c];simp,λW=> ?_⟩;simpa using run_make W 107 5 i (Â aW 0) ý a b Ë Ë n n Z Z (by rw[d];omega) Z
theorem amO{M:Array Ç}(e:M.size=B.size)(b:W.heap[i]?=Ã (Ð M 5 (0,0))): (ξ #[107,9] 3 #[Ê (Ã ⟨i,0,Ä⟩) B.size B.size,Í B]).run À W=χ (goInt B.size) (W.setRow i (õ B.data.toList).toArray):=by let⟨a,c,_,d,_⟩:=í Tm;have h:=Lib.run_copy_row_string W 107 9 3 5 i 0 B.size B.size B M 5 ý (by rw[c];simp[d]) b (Þ _) Z;grind [List.drop_of_length_le]
def amP(d:B.size≠0)(m:B.size<=1000000)(c:W.heap[i]?=Ã (Ð (õ B.data.toList).toArray 5 (0,0))): (Ő #[177,3] 9 #[Å<|Ã ⟨i,0,Ä⟩,Â Ë (B.size:Int)]).run À W=χ (Í B) (W.freeze ⟨i,0,Ä⟩ B.size):=by
 let⟨a,f,_,k,_⟩:=í Tm;have b:=Lib.size_eq B;have l:(õ B.data.toList).toArray.size=B.size:=by rw[Ĉ,Ř,<-b]
 have h:=Ĺ W 177 3 9 5 Ū (by simp[Program.cellsOf,f,k]) i B.size (by unfold Ÿ;rw[c];simp only[l]) B.data.toList (by intro e;rw[e]at b;exact d b) Z Z (λj x e=>Lib.cells_of_row c _ j _<|by rw[List.take_of_length_le<|Þ _];simp[õ,e]);rwa[<-b]at h
def amQ(s:ByteArray)(a:s.size<=1000000)(w:É):Ò À 196 #[Í s] w λe c=>e=È (Í s)/\e8 (λ_=>False) w c:=by
 by_cases b:s.size=0
 .have d:=bu<|Array.eq_empty_of_size_eq_zero b;subst d;go_enter ax,ο;go_wp2;go_ret;exact⟨U,e8.fU _ _⟩
 .let⟨M,d,mk⟩:=amN s.size a;have g:=amO d<|ì w<|Ð M 5;have h:=amP b a<|Ğ (w.alloc<|Ð M 5) w.heap.size M (õ s.data.toList).toArray 5 (0,0)<|ì w _;have f:=fc (amM (p:=⟨w.heap.size,0,Ä⟩) (n:=s.size) (amL (Y:=(õ s.data.toList).toArray) (e8.gE (λ_=>False) w M 5) (ì w _)<|Þ _)<|Þ _);generalize(õ s.data.toList).toArray=Y at*;go_enter ax,ο;go_wp2;go_ret;exact⟨U,f.out⟩
def amR(s:ByteArray)(a:s.size<=1000000)(w:É):Ò À 186 #[Í s] w λe b=>e=È (Í s)/\e8 (λ_=>False) w b:=by go_enter Tryz.func186,Tryz.ntmps186;go_wp2_with (go_at_call 196;refine(amQ s a _).mono ?_;rintro e d ⟨rfl,c⟩);go_ret;exact⟨U,c⟩
def xV(s:St)(x:Nat)(p:ByteArray):Bool×St:=
 if(s x).fu<20 then(Ï,s)else(Ú,(s.fu x<|(s x).fu-20).C x p)
def zM{t u:Tmp}{cs:List Ç}{d:TypeDesc}(h:s.results=#[.cell t T,.tmp u])(a:q.getD t Ă=Å (Ã ⟨b,0,Ä⟩))(c:w.rangeAt b 0 cs)(e:P.underlying T=Ã d)(f:d.isRow=Ú)(g:(P.info? T).map (·.size)=Ã cs.length): (ar s q).run P w=χ (æ #[Ē cs.toArray,q.getD u Ă]) w:=by have i:=Ν w b 0 T cs d c e f g;rw[ī]at a;simp only[ar,h];simp[a,asAddr,i]
def Js:(À.underlying 246).map İ=Ã Ú:=fp
def Dn:(À.info? 246).map (·.size)=Ã 2:=fp
section
variable{E:iU}{lv:Ç}{s:St}{ls:List (Nat×Int)}
def amS(ok:E.Ok)(a:iB E.r E.T E.C s lv w)(h:w.ownsRow 0 257 2 lv ls.length (kr ls))(f:gH s)(x:Nat)(p:ByteArray)(c:x<8)(i:p.size<=1000000): Ò À 169 #[Å<|Ã ⟨E.r,0,Ä⟩,Â Ë x,Í p] w λe d=>e=È (Ñ (xV s x p).1)/\im E lv ls.length w (xV s x p).2 ls d lv:=by
 have k:=ff.M a;have l:=a.fu c;have m:=ff.C a<|x*18;have n:=(f.fu x).1;have o:=(f.fu x).2;have q:(0:Int)<=(x:Int):=Z
 have r:(x:Int)<8:=Z
 have H:=fc<|im.fU a h;unfold xV;by_cases g:(s x).fu<20
 .rw[if_pos g];generalize(s x).fu=b at*;go_enter ay,π;go_wp2_with fail;go_ret;exact⟨U,H.out⟩
 .rw[if_neg g];generalize(s x).fu=b at*;go_enter ay,π;go_wp2_with fail;go_region;go_wp2_with fail;go_region_held3 (λ_=>True) (trivial) (first
    |(go_at_call 186;refine(amR p i _).mono ?_;rintro e t ⟨rfl,j⟩;dsimp only;have d:=((H.out.fu ok c (b-20)).fK (e8.iP (λ_=>False) _ 2)).fK j;have u:=d.r.M6 c;have v:=ff.C d.r (x*18+1)))
  go_wp2_with fail
  go_ret;exact⟨U,d.M6 ok c p⟩
def zN(s:St)(ls:List (Nat×Int))(x y:Nat)(n k:Int):(Int×Bool)×Bool×St×List (Nat×Int):=
 if n<10\/400<n\/(s x).fu<n then((0,Ï),Ï,s,ls)
 else(((gi (s.fu x<|(s x).fu-n) ls x y (n-10) k).r+10,(gi (s.fu x<|(s x).fu-n) ls x y (n-10) k).C),Ú,
  (gi (s.fu x ((s x).fu-n)) ls x y (n-10) k).s.fu x (wu (((gi (s.fu x ((s x).fu-n)) ls x y (n-10) k).s x).fu+(n-((gi (s.fu x ((s x).fu-n)) ls x y (n-10) k).r+10)))),(gi (s.fu x ((s x).fu-n)) ls x y (n-10) k).I)
def amT(a:iB E.r E.T E.C s lv w)(c:w.ownsRow 0 257 2 lv ls.length (kr ls))(x y:Nat)(n k:Int)(d:x<8)(j:0<=n)(l:n<10\/400<n\/(s x).fu<n): Ò À 170 #[Å<|Ã ⟨E.r,0,Ä⟩,Â Ë x,Â Ë y,Â Æ n,Â Æ k] w λe H=>e=È (æ #[Ē #[Â Æ 0,Ñ Ï],Ñ Ï])/\im E lv ls.length w s ls H lv:=by
 have m:=ff.M a;have o:=a.fu d;have p:(0:Int)<=(x:Int):=Z
 have q:(x:Int)<8:=Z
 let⟨r,f,g⟩:=Ì.1 Js;have H:=fc<|Á (im.fU a c)<|Á f g;generalize(s x).fu=b at*;by_cases h:n<10
 .go_enter Ņ,ĺ;go_wp2_with fail;have e:=e8.gE (λ_=>False) w #[Â Æ 0,Ñ Ï] 246;apply ð (zM U U (ff.Y (vs:=[Â Æ 0,Ñ Ï])<|ff.N w [Â Æ 0,Ñ Ï] 246) H.out.2.1 H.out.2.2 Dn) U;exact⟨U,H.out.1.fK e⟩
 .have t:=decide_eq_false h;by_cases i:400<n
  .go_enter Ņ,ĺ;go_wp2_with fail;have e:=e8.gE (λ_=>False) w #[Â Æ 0,Ñ Ï] 246;apply ð (zM U U (ff.Y (vs:=[Â Æ 0,Ñ Ï])<|ff.N w [Â Æ 0,Ñ Ï] 246) H.out.2.1 H.out.2.2 Dn) U;exact⟨U,H.out.1.fK e⟩
  .have u:=decide_eq_false i;have v:b<n:=Z
   go_enter Ņ,ĺ;go_wp2_with fail;have e:=e8.gE (λ_=>False) w #[Â Æ 0,Ñ Ï] 246;apply ð (zM U U (ff.Y (vs:=[Â Æ 0,Ñ Ï])<|ff.N w [Â Æ 0,Ñ Ï] 246) H.out.2.1 H.out.2.2 Dn) U;exact⟨U,H.out.1.fK e⟩
def amU(ok:E.Ok)(a:iB E.r E.T E.C s lv w)(l:w.ownsRow 0 257 2 lv ls.length (kr ls))(m:iJ w)(g:gH s)(x y:Nat)(n k:Int)(c:x<8)(B:y<8)(D:gd k)(I0:10<=n)(vP:n<=400)(avb:n<=(s x).fu)(hlen:(ls.length:Int)+n<=1000000)(r:zH)(o:r=gi (s.fu x<|(s x).fu-n) ls x y (n-10) k): Ò À 170 #[Å<|Ã ⟨E.r,0,Ä⟩,Â Ë x,Â Ë y,Â Æ n,Â Æ k] w λe t=>e=È (æ #[Ē #[Â Æ<|r.r+10,Ñ r.C],Ñ Ú])/\∃u,im E lv ls.length w (r.s.fu x<|wu<|(r.s x).fu+(n-(r.r+10))) r.I t u:=by
 have gI:=ff.M a;have d1:=a.fu c;have f1:=ff.C a<|x*18;have X9:(0:Int)<=(x:Int):=Z
 have AV:(x:Int)<8:=Z
 have b0:=(g.fu x).1;have b1:=(g.fu x).2;have v:gH (s.fu x<|(s x).fu-n):=g.r x ⟨Z,Z⟩;have h:=Ni _ ls x y (n-10) k v c B D Z Z Z;have F:=im.fU a l;have C:∀W j,im E lv ls.length w (s.fu x<|(s x).fu-n) ls W j->iJ W->Ò À 173 #[Å<|Ã ⟨E.r,0,Ä⟩,Â Ë x,Â Ë y,Â Æ<|n-10,Â Æ k,Â Ë 1] W λe t=>e=È (Ē #[Â Æ r.r,Ñ r.C,Â Æ r.M])/\∃u,im E j ls.length W r.s r.I t u:=λW j G P=>by rw[o];exact T_ E ok _ j ls x y (n-10) k W G.r G.I P v c B Z Z D Z
 rw[<-o]at h;have u0:=h.C;have u1:=h.r;let⟨d2,I,J⟩:=Ì.1 Js;have K:∀i,iJ (w.setCell ⟨E.r,i,Ä⟩<|Â Æ<|(s x).fu-n):=λi=>m.r (e8.I (X:=λk=>k=E.r) U _) λq=>m.C a ok.N q.symm;have H:=fc<|Á F<|Á C<|Á K<|Á I<|Á J l;clear a l m g v h F C K I J o;generalize(s x).fu=b at*;have e1:decide (n<10)=Ï:=decide_eq_false Z;have e2:decide (400<n)=Ï:=decide_eq_false Z;have e3:decide (b<n)=Ï:=decide_eq_false Z;generalize Q:(r.s x).fu=b2;go_enter Ņ,ĺ;go_wp2_with fail;have L:=(H.out.1.fu ok c<|b-n).fK (e8.gE (λ_=>False) _ #[Â Æ 0,Ñ Ï] 246);go_at_call 173;refine(H.out.2.1 _ _ L<|(H.out.2.2.1 _).r (e8.gE (λ_=>False) _ _ _) id).mono ?_;rintro e S ⟨rfl,V,f⟩;have d:ff w.heap.size [Â Æ 0,Ñ Ï] 246 S:=by
  have z:ff w.heap.size [Â Æ 0,Ñ Ï] 246 ((w.setCell ⟨E.r,x*18,Ä⟩<|Â Æ<|b-n).alloc<|Ð #[Â Æ 0,Ñ Ï] 246):=by have:=ff.N (w.setCell ⟨E.r,x*18,Ä⟩<|Â Æ<|b-n) [Â Æ 0,Ñ Ï] 246;simpa using this
  refine z.I f.C ?_;rintro(q|q)
  .omega
  .have:=(H.out.2.2.2.2.2.lt _ q).2;omega
 have Y:=f.r.fu c;have z1:=ff.C f.r<|x*18;have FP:=ff.M f.r;have Tn:=d.M;have c0:=d.r 0 _ U;have c1:=d.r 1 _ U;have y0:=d.C 0;have y1:=d.C 1;have M:=fc<|Á (L.fe f) d;rw[Q]at Y;go_wp2_with fail;go_region;go_wp2_with fail;have q1:=M.out.1.fu ok c<|wu<|b2+(n-(r.r+10));have N:=M.out.2.I (e8.I (X:=λk=>k=E.r) (p:=⟨E.r,x*18,Ä⟩) U<|Â Æ<|wu<|b2+(n-(r.r+10))) Z;have q2:=q1.N ((e8.I (X:=λk=>k=w.heap.size) (p:=⟨w.heap.size,0,Ä⟩) U<|Â Æ<|r.r+10).fe<|e8.I (X:=λk=>k=w.heap.size) (p:=⟨w.heap.size,1,Ä⟩) U<|Ñ r.C) (λi q=>by omega) (λi cur q O=>by have z:=N;rw[q,z]at O;cases O) Z;have z:∀W:É,∀O,e8 (λ_=>False) W ((W.alloc<|Ð O 252).drew):=λW O=>(e8.gE _ _ _ _).fe<|e8.fS _ _;have hb:=(((N.fP 0<|Â Æ<|r.r+10).fP 1<|Ñ r.C)).I (z _ #[Â Æ<|r.r+10,Ñ r.C,Â Æ r.M]) id;apply ð (zM U U (ff.Y (vs:=[Â Æ<|r.r+10,Ñ r.C]) hb) H.out.2.2.2.1 H.out.2.2.2.2.1 Dn) U;exact⟨U,V,q2.fK<|z _ _⟩
end
structure Tx where
 x:Nat
 y:Nat
 n:Int
 k:Int
 r:Int
 C:ByteArray
structure lZ(a:Nat)(t:Tx)(w:É):Prop where
 b:∃cs fz,w.heap[a]?=Ã (Ð cs 200 fz)
 r:w.cell? ⟨a,0,Ä⟩=Ã (Â Ë t.x)
 C:w.cell? ⟨a,1,Ä⟩=Ã (Â Ë t.y)
 I:w.cell? ⟨a,2,Ä⟩=Ã (Â Ë t.n)
 M:w.cell? ⟨a,3,Ä⟩=Ã (Â Ë t.k)
 Y:w.cell? ⟨a,4,Ä⟩=Ã (Â Ë t.r)
 N:w.cell? ⟨a,5,Ä⟩=Ã (Í t.C)
structure Tx.Ok(t:Tx):Prop where
 x:t.x<8
 y:t.y<8
 I:0<=t.n
 M:t.n<1000000
 r:0<=t.k
 C:t.k<1000000
 N:t.C.size<=40/\∀c∈t.C.data.toList,xO c=Ú
def lZ.G{t:Tx}(h:lZ i t w):i<w.heap.size:=á w _ h.r
def lZ.S{t:Tx}(h:lZ i t w)(k:e8 X w u)(b:¬X i):lZ i t u:=by let⟨c,d,e⟩:=h.b;exact⟨⟨c,d,by rwa[k.N i h.G b]⟩,k.r h.r b,k.r h.C b,k.r h.I b,k.r h.M b,k.r h.Y b,k.r h.N b⟩
def lZ.iR{t:Tx}(h:lZ i t w)(c:w.heap[j]?=Ã (Ð d T xJ))(e:T≠200):i≠j:=by rintro rfl;let⟨f,g,b⟩:=h.b;rw[c]at b;cases b;exact e U
def lZ.xP{E:iU}{t:Tx}{s c:St}{ls b:List (Nat×Int)}(d:E.T≠200)(h:lZ i t w)(e:iB E.r E.T E.C c v w)(f:w.ownsRow 0 257 2 v b.length (kr b))(r:im E v n w s ls u x):lZ i t u:=by
 refine h.S r.C ?_;rintro(q|q)
 .exact h.iR e d q
 .let⟨j,g⟩:=lX f q;exact h.iR g A U
def mr(s:St)(ls:List (Nat×Int))(t:Tx):(Int×Bool)×Bool×St×List (Nat×Int):=
 if t.r=1 then((10,Ú),(xU s t.x t.y t.n).1,(xU s t.x t.y t.n).2,ls)
 else if t.r=2 then((20,Ú),(xV s t.x t.C).1,(xV s t.x t.C).2,ls)
 else zN s ls t.x t.y t.n t.k
def FQ(a:0<=h)(b:h<1000000):Æ.wrap h=h:=by show wu h=h;exact alD a Z
def Jt(E:iU)(a:Ç)(n:Nat)(w:É)(o:(Int×Bool)×Bool×St×List (Nat×Int))(e:az)(b:É):Prop:=
 e=È (æ #[Ē #[Â Æ o.1.1,Ñ o.1.2],Ñ o.2.1])/\∃c,im E a n w o.2.2.1 o.2.2.2 b c
def amV{E:iU}{s:St}{ls:List (Nat×Int)}(ok:E.Ok)(b:iB E.r E.T E.C s v w)(c:w.ownsRow 0 257 2 v ls.length (kr ls))(f:iJ w)(g:gH s)(x y:Nat)(n k:Int)(d:x<8)(i:y<8)(j:gd k)(l:0<=n)(m:(ls.length:Int)+400<=1000000): Ò À 170 #[Å<|Ã ⟨E.r,0,Ä⟩,Â Ë x,Â Ë y,Â Æ n,Â Æ k] w (Jt E v ls.length w<|zN s ls x y n k):=by
 unfold zN;by_cases a:n<10\/400<n\/(s x).fu<n
 .rw[if_pos a];exact(amT b c x y n k d l a).mono λe o h=>⟨h.1,v,h.2⟩
 .rw[if_neg a];exact amU ok b c f g x y n k d i j Z Z Z Z _ U
def im.S{E:iU}{s:St}{ls:List (Nat×Int)}(k:e8 (λ_=>False) w W)(r:im E v n W s ls u x):im E v n w s ls u x:= ⟨r.r,r.I,(k.S λ_ _=>Ě).C r.C λ_ _ q=>q,λj q=>(r.l j q).imp id λe=>ë k.M e,λa b c d f=>r.M a b c (ie d k λ_ _=>id) f⟩
section
variable{E:iU}{lv:Ç}{s:St}{ls:List (Nat×Int)}{a:Nat}{t:Tx}
def To{zx:Value}{w1:World}{n:Nat}{s1:St}{U':List (Nat×Int)}(r:im E lv n w s1 U' w1 zx)(hB:ff w.heap.size [.int .u64 0,.bool false] 246 w1)(hlb:E.r<w.heap.size)(v0 v1:Value)(hf0:kq v0=true:=by rfl)(hf1:kq v1=true:=by rfl): im E lv n w s1 U' ((w1.setCell ⟨w.heap.size,0,none⟩ v0).setCell ⟨w.heap.size,1,none⟩ v1) zx/\ff w.heap.size [v0,v1] 246 ((w1.setCell ⟨w.heap.size,0,none⟩ v0).setCell ⟨w.heap.size,1,none⟩ v1):=by refine⟨r.N (Y:=λk=>k=w.heap.size) ((e8.I (X:=λk=>k=w.heap.size) (p:=⟨w.heap.size,0,Ä⟩) U v0<|Ø hf0).fe<|e8.I (X:=λk=>k=w.heap.size) (p:=⟨w.heap.size,1,Ä⟩) U v1<|Ø hf1) (λi q=>by omega) (λi cur q hc=> ?_) Z,(hB.fP 0 v0).fP 1 v1⟩;rw[q,hB]at hc;cases hc
def Tp{W:É}{a:St}{b:List (Nat×Int)}{cs:List Ç}(c:jX=(w.alloc<|Ð cs.toArray T).drewN 1\/jX=w.alloc (Ð cs.toArray T))(d:w.ownsRow 0 257 2 lv ls.length (kr ls))(f:E.r<w.heap.size)(r:im E lv n jX a b u v):ff w.heap.size cs T u:=by
 have e:ff w.heap.size cs T jX:=by
  rcases c with rfl|rfl
  .exact ff.N w cs T
  .exact ff.N w cs T
 refine e.I r.C ?_;rintro(q|q)
 .omega
 .have:=(d.lt _ q).2;omega
def amW(ok:E.Ok)(S:E.T≠200)(m:iB E.r E.T E.C s lv w)(o:w.ownsRow 0 257 2 lv ls.length (kr ls))(B:iJ w)(D:gH s)(d:lZ a t w)(f:t.Ok)(hlen:(ls.length:Int)+400<=1000000)(F:t.r=1): Ò À 154 #[Å<|Ã ⟨E.r,0,Ä⟩,Å<|Ã ⟨a,0,Ä⟩] w (Jt E lv ls.length w<|mr s ls t):=by
 have G:=ff.M m;have V_:=d.G;have V:=d.r;have Y:=d.C;have c2:=d.I;have c3:=d.M;have c4:=d.Y;have c5:=d.N;have hn:=FQ f.I f.M;have hk:=FQ f.r f.C;let⟨d2,I,J⟩:=Ì.1 Js;have L:=fc<|Á I J;clear I J;have h:=(e8.gE (λ_=>False) w #[Â Æ 0,Ñ Ï] 246).fe<|e8.fS _ _;have u:=m.nZ h id;have v:=ie o h λ_ _=>id;have c:=d.S h id;have RA:=B.r h id;rw[F]at c4;have M:mr s ls t=((10,Ú),(xU s t.x t.y t.n).1,(xU s t.x t.y t.n).2,ls):=by unfold mr;rw[if_pos F]
 rw[M];have C:=amJ (ls:=ls) ok u v D t.x t.y t.n f.x f.y f.I (by have:=f.M;omega);have N:∀(l:É) (O:St) (P:List (Nat×Int)) (Q:Ç),im E lv ls.length _ O P l Q->lZ a t l:=λl O P Q r=>lZ.xP S c u v r;have H:=fc<|Á C<|Á o N;clear C N m o B D d f u v RA M;go_enter Ź,ť;go_wp2_with fail;have b:=fc<|Á c.r<|Á c.C<|Á c.I<|Á c.M c.N;clear V Y c2 c3 c5 c;refine mq (λe=>e.cell? ⟨a,0,Ä⟩=Ã (Â Ë t.x)/\e.cell? ⟨a,1,Ä⟩=Ã (Â Ë t.y)/\e.cell? ⟨a,2,Ä⟩=Ã (Â Ë t.n)/\e.cell? ⟨a,3,Ä⟩=Ã (Â Ë t.k)/\e.cell? ⟨a,5,Ä⟩=Ã (Í t.C)) [22] fp ?_;apply tk 0 b.out;apply tk 1 b.out;apply tk 2 b.out;apply tk 3 b.out;apply tk 4 b.out;apply tk 5 b.out;apply tk 6 b.out;apply tk 7 b.out;apply tk 8 b.out;apply tk 9 b.out;apply tk 10 b.out;apply tk 11 b.out;apply tk 12 b.out;apply tk 13 b.out;apply tk 14 b.out;apply tk 15 b.out;apply tk 16 b.out;apply tk 17 b.out;apply tk 18 b.out;apply tk 19 b.out;apply gA 20;intro K g;go_simp;go_at_call 168;apply H.out.1.mono;rintro e l ⟨rfl,z⟩;dsimp only;have c:=H.out.2.2 _ _ _ _ z;apply g.out _ _ λ_=>⟨c.r,c.C,c.I,c.M,c.N⟩;clear g K;have i:=Tp (W:=w) (cs:=[Â Æ 0,Ñ Ï]) (Ø U) H.out.2.1 G z;have e0:=i.r 0 _ U;have e1:=i.r 1 _ U;have y0:=i.C 0;have y1:=i.C 1;have j:=c.S ((e8.I (X:=λk=>k=w.heap.size) (p:=⟨w.heap.size,0,Ä⟩) U<|Â Æ 10).fe<|e8.I (X:=λk=>k=w.heap.size) (p:=⟨w.heap.size,1,Ä⟩) U<|Ñ Ú) Z;apply gA 21;intro K g;go_simp;apply g.out _ _ λ_=>⟨j.r,j.C,j.I,j.M,j.N⟩;clear g K;apply gA 22;intro K g;go_simp;apply g.out _ _ λq=>absurd fi q;clear g K;try simp only[ĵ,Õ,ã,ä]
 refine lY fp ?_ _;go_wp2_with fail;let⟨q,q2⟩:=To (im.S h z) i G (Â Æ 10)<|Ñ Ú;apply ð (zM U U (ff.Y (tl:=[]) (vs:=[Â Æ 10,Ñ Ú]) q2) L.out.1 L.out.2 Dn) U;exact⟨U,lv,q⟩
def amX(ok:E.Ok)(S:E.T≠200)(m:iB E.r E.T E.C s lv w)(o:w.ownsRow 0 257 2 lv ls.length (kr ls))(B:iJ w)(D:gH s)(d:lZ a t w)(g:t.Ok)(hlen:(ls.length:Int)+400<=1000000)(F:t.r=2): Ò À 154 #[Å<|Ã ⟨E.r,0,Ä⟩,Å<|Ã ⟨a,0,Ä⟩] w (Jt E lv ls.length w<|mr s ls t):=by
 have G:=ff.M m;have V_:=d.G;have V:=d.r;have Y:=d.C;have c2:=d.I;have c3:=d.M;have c4:=d.Y;have c5:=d.N;have hn:=FQ g.I g.M;have hk:=FQ g.r g.C;let⟨d2,I,J⟩:=Ì.1 Js;have L:=fc<|Á I J;clear I J;have h:=(e8.gE (λ_=>False) w #[Â Æ 0,Ñ Ï] 246).fe<|e8.fS _ _;have u:=m.nZ h id;have v:=ie o h λ_ _=>id;have b:=d.S h id;have RA:=B.r h id;rw[F]at c4;have M:mr s ls t=((20,Ú),(xV s t.x t.C).1,(xV s t.x t.C).2,ls):=by unfold mr;rw[if_neg Z,if_pos F]
 rw[M];have C:=amS (ls:=ls) ok u v D t.x t.C g.x (by have:=g.N.1;omega);have N:∀(l:É) (O:St) (P:List (Nat×Int)) (Q:Ç),im E lv ls.length _ O P l Q->lZ a t l:=λl O P Q r=>lZ.xP S b u v r;have H:=fc<|Á C<|Á o N;clear C N m o B D d g u v RA M;go_enter Ź,ť;go_wp2_with fail;have c:=fc<|Á b.r<|Á b.C<|Á b.I<|Á b.M b.N;clear V Y c2 c3 c5 b;refine mq (λe=>e.cell? ⟨a,0,Ä⟩=Ã (Â Ë t.x)/\e.cell? ⟨a,1,Ä⟩=Ã (Â Ë t.y)/\e.cell? ⟨a,2,Ä⟩=Ã (Â Ë t.n)/\e.cell? ⟨a,3,Ä⟩=Ã (Â Ë t.k)/\e.cell? ⟨a,5,Ä⟩=Ã (Í t.C)) [15] fp ?_;apply tk 0 c.out;apply tk 1 c.out;apply tk 2 c.out;apply tk 3 c.out;apply tk 4 c.out;apply tk 5 c.out;apply tk 6 c.out;apply tk 7 c.out;apply tk 8 c.out;apply tk 9 c.out;apply tk 10 c.out;apply tk 11 c.out;apply tk 12 c.out;apply gA 13;intro K f;go_simp;go_at_call 169;apply H.out.1.mono;rintro e l ⟨rfl,z⟩;dsimp only;have b:=H.out.2.2 _ _ _ _ z;apply f.out _ _ λ_=>⟨b.r,b.C,b.I,b.M,b.N⟩;clear f K;have i:=Tp (W:=w) (cs:=[Â Æ 0,Ñ Ï]) (Ø U) H.out.2.1 G z;have e0:=i.r 0 _ U;have e1:=i.r 1 _ U;have y0:=i.C 0;have y1:=i.C 1;have j:=b.S ((e8.I (X:=λk=>k=w.heap.size) (p:=⟨w.heap.size,0,Ä⟩) U<|Â Æ 20).fe<|e8.I (X:=λk=>k=w.heap.size) (p:=⟨w.heap.size,1,Ä⟩) U<|Ñ Ú) Z;apply gA 14;intro K f;go_simp;apply f.out _ _ λ_=>⟨j.r,j.C,j.I,j.M,j.N⟩;clear f K;apply gA 15;intro K f;go_simp;apply f.out _ _ λq=>absurd fi q;clear f K;try simp only[ĵ,Õ,ã,ä]
 refine lY fp ?_ _;go_wp2_with fail;let⟨q,q2⟩:=To (im.S h z) i G (Â Æ 20)<|Ñ Ú;apply ð (zM U U (ff.Y (tl:=[]) (vs:=[Â Æ 20,Ñ Ú]) q2) L.out.1 L.out.2 Dn) U;exact⟨U,lv,q⟩
def amY(ok:E.Ok)(X:E.T≠200)(m:iB E.r E.T E.C s lv w)(p:w.ownsRow 0 257 2 lv ls.length (kr ls))(B:iJ w)(D:gH s)(f:lZ a t w)(d:t.Ok)(Y:(ls.length:Int)+400<=1000000)(F:t.r≠1)(G:t.r≠2): Ò À 154 #[Å<|Ã ⟨E.r,0,Ä⟩,Å<|Ã ⟨a,0,Ä⟩] w (Jt E lv ls.length w<|mr s ls t):=by
 have I:=ff.M m;have V_:=f.G;have c0:=f.r;have c1:=f.C;have c2:=f.I;have c3:=f.M;have c4:=f.Y;have c5:=f.N;have hn:=FQ d.I d.M;have hk:=FQ d.r d.C;let⟨d2,J,L⟩:=Ì.1 Js;have M:=fc<|Á J L;clear J L;have h:=(e8.gE (λ_=>False) w #[Â Æ 0,Ñ Ï] 246).fe<|e8.fS _ _;have u:=m.nZ h id;have v:=ie p h λ_ _=>id;have c:=f.S h id;have N:=B.r h id;have z1:(t.r==1)=Ï:=by rwa[beq_eq_false_iff_ne]
 have z2:(t.r==2)=Ï:=by rwa[beq_eq_false_iff_ne]
 have O:mr s ls t=zN s ls t.x t.y t.n t.k:=by unfold mr;rw[if_neg F,if_neg G]
 rw[O];have C:=amV (ls:=ls) ok u v N D t.x t.y t.n t.k d.x d.y ⟨d.r,by have:=d.C;omega⟩ d.I Y;have P:∀(j:É) (Q:St) (S:List (Nat×Int)) (l:Ç),im E lv ls.length _ Q S j l->lZ a t j:=λj Q S l r=>lZ.xP X c u v r;have H:=fc<|Á C<|Á p P;clear C P m p B D f d u v N O;generalize zN s ls t.x t.y t.n t.k=o at*;go_enter Ź,ť;go_wp2_with fail;have b:=fc<|Á c.r<|Á c.C<|Á c.I<|Á c.M c.N;clear c0 c1 c2 c3 c5 c;refine mq (λe=>e.cell? ⟨a,0,Ä⟩=Ã (Â Ë t.x)/\e.cell? ⟨a,1,Ä⟩=Ã (Â Ë t.y)/\e.cell? ⟨a,2,Ä⟩=Ã (Â Ë t.n)/\e.cell? ⟨a,3,Ä⟩=Ã (Â Ë t.k)/\e.cell? ⟨a,5,Ä⟩=Ã (Í t.C)) [26,27] fp ?_;apply tk 0 b.out;apply tk 1 b.out;apply tk 2 b.out;apply tk 3 b.out;apply tk 4 b.out;apply tk 5 b.out;apply tk 6 b.out;apply tk 7 b.out;apply tk 8 b.out;apply tk 9 b.out;apply tk 10 b.out;apply tk 11 b.out;apply tk 12 b.out;apply tk 13 b.out;apply tk 14 b.out;apply tk 15 b.out;apply tk 16 b.out;apply tk 17 b.out;apply tk 18 b.out;apply tk 19 b.out;apply tk 20 b.out;apply tk 21 b.out;apply tk 22 b.out;apply gA 23;intro K g;go_simp;go_at_call 170;apply H.out.1.mono;rintro e j ⟨rfl,l,z⟩;dsimp only;have c:=H.out.2.2 _ _ _ _ z;apply g.out _ _ λ_=>⟨c.r,c.C,c.I,c.M,c.N⟩;clear g K;have i:=Tp (W:=w) (cs:=[Â Æ 0,Ñ Ï]) (Ø U) H.out.2.1 I z;have e0:=i.r 0 _ U;have e1:=i.r 1 _ U;have y0:=i.C 0;have y1:=i.C 1;have V:=Á c.r<|Á c.C<|Á c.I<|Á c.M c.N;have b:=fc V;clear V c;apply tk 24 b.out;apply tk 25 b.out;apply gA 26;intro K g;go_simp;apply g.out _ _ λq=>absurd fi q;clear g K;apply gA 27;intro K g;go_simp;apply g.out _ _ λq=>absurd fi q;clear g K;try simp only[ĵ,Õ,ã,ä]
 refine lY fp ?_ _;go_wp2_with fail;let⟨q,q2⟩:=To (im.S h z) i I (Â Æ o.1.1)<|Ñ o.1.2;apply ð (zM U U (ff.Y (tl:=[]) (vs:=[Â Æ o.1.1,Ñ o.1.2]) q2) M.out.1 M.out.2 Dn) U;exact⟨U,l,q⟩
def W_(ok:E.Ok)(b:E.T≠200)(c:iB E.r E.T E.C s lv w)(d:w.ownsRow 0 257 2 lv ls.length (kr ls))(e:iJ w)(f:gH s)(g:lZ a t w)(h:t.Ok)(i:(ls.length:Int)+400<=1000000): Ò À 154 #[Å<|Ã ⟨E.r,0,Ä⟩,Å<|Ã ⟨a,0,Ä⟩] w (Jt E lv ls.length w<|mr s ls t):=by
 by_cases j:t.r=1
 .exact amW ok b c d e f g h i j
 .by_cases k:t.r=2
  .exact amX ok b c d e f g h i k
  .exact amY ok b c d e f g h i j k
end
def X_:∀(d a b c:List Ç) (k:Nat),b.length=d.length->(d.zipIdx k).foldl (λ(q:Array Ç) (p:Value×Nat)=>q.setIfInBounds (a.length-k+p.2) p.1) (a++b++c).toArray=(a++d++c).toArray\/a.length<k
 |[],a,b,c,k,h=>by have:b=[]:=ß (by simpa using h);subst this;exact Ø U
 |v::r,a,b,c,k,h=>by
  rcases ů a.length k with q|q
  .exact Ù q
  .match b,h with
   |x::b,h=>
    apply Ø;have p:=(X_ r (a++[v]) b c (k+1)<|by simpa using h).resolve_right (by simp;omega);simp only[List.zipIdx_cons,List.foldl_cons];rw[show a.length-k+k=a.length by omega,Õ,show(a++x::b++c).set a.length v=a++[v]++b++c by simp];rw[show(a++[v]).length-(k+1)=a.length-k by simp]at p;rw[p];simp
theorem Nj{place:Nat->Option (Nat×Nat)}{pre old suf:List Ç}{rest:List (Nat×Value)}(a:place i=Ã (pre.length,n))(b:v.cells.size=n)(c:old.length=n): ı place (pre++old++suf).toArray ((i,v)::rest)=ı place (pre++v.cells.toList++suf).toArray rest:=by rw[Instr.fill.eq_2];simp only[a];rw[if_neg (by simp only[Ĉ,Ó,Bool.or_eq_true,decide_eq_true_eq,not_or];omega)];have:=(X_ v.cells.toList pre old suf 0<|by rw[c,š,b]).resolve_right Z;simp only[Nat.sub_zero]at this;grind [Array.toList_zipIdx]
def amZ:((À.info? 144).bind (·.zero)).map (λz=>z.cells.toList.drop 144)=Ã [Ê Ä 0 0]:=fp
def am0:((À.info? 144).bind (·.zero)).map (λz=>z.cells.size)=Ã 145:=fp
def X':((À.info? 147).bind (·.zero)).map (λz=>z.cells.toList.drop 145)=Ã [Â Ë 0,Ê Ä 0 0]:=fp
def Y_:((À.info? 147).bind (·.zero)).map (λz=>z.cells.size)=Ã 147:=fp
def Nk(P:aH)(t:ô):Option (List<|Nat×Nat):=match P.underlying t with
 |some (.struct fs)=>fs.toList.mapM λf=>(P.info? f.type).map λi=>(f.offset,i.size)
 |_=>Ä
def am1:Nk À 144=Ã [(0,144),(144,1)]:=fp
def Z_:Nk À 147=Ã [(0,145),(145,1),(146,1)]:=fp
def Tq{c:List (Nat×Nat)}(a:Nk P t=Ã c)(b:(P.info? t).bind (·.zero)=Ã z)(e:List (Nat×Value)):P.built t e=ı (c.toArray[·]?) z.cells e:=by
 unfold Nk at a;unfold Program.built;cases f:P.info? t with
 |none=>rw[f]at b;cases b
 |some h=>
  rw[f]at b;have b:h.zero=Ã z:=b;cases g:P.underlying t with
  |none=>rw[g]at a;cases a
  |some d=>
   rw[g]at a;cases d<;>first|(cases a;done)|skip
   simp only at a;simp only[b,a]
theorem Ts{suf:List Ç}(h:((P.info? t).bind (·.zero)).map (λz=>z.cells.toList.drop n)=Ã suf)(a:((P.info? t).bind (·.zero)).map (λz=>z.cells.size)=Ã m)(c:n<=m):∃z old,(P.info? t).bind (·.zero)=Ã z/\old.length=n/\z.cells=(old++suf).toArray:=by
 let⟨z,b,d⟩:=Ì.1 h;rw[b]at a;have a:z.cells.size=m:=by injection a
 refine⟨z,z.cells.toList.take n,b,by rw[List.length_take,š,a];omega,?_⟩;grind
theorem am2(h:l.length=144):À.built 144 [(0,Ē l.toArray)]=Ã (l++[Ê Ä 0 0]).toArray:=by let⟨z,d,a,b,c⟩:=Ts amZ am0 A;rw[Tq am1 a,c];have:=Nj (place:=λi=>[(0,144),(144,1)].toArray[i]?) (pre:=[]) (suf:=[Ê Ä 0 0]) (i:=0) (v:=Ē l.toArray) (rest:=[]) U (by show l.toArray.size=144;simp[h]) b;simpa[ı,Ġ]using this
theorem am3(h:l.length=145)(a:v.cells=#[v]):À.built 147 [(0,Ē l.toArray),(1,v)]=Ã (l++[v,Ê Ä 0 0]).toArray:=by let⟨z,g,c,d,f⟩:=Ts X' Y_ A;rw[Tq Z_ c,f];have b:=Nj (place:=λi=>[(0,145),(145,1),(146,1)].toArray[i]?) (pre:=[]) (suf:=[Â Ë 0,Ê Ä 0 0]) (i:=0) (v:=Ē l.toArray) (rest:=[(1,v)]) U (by show l.toArray.size=145;simp[h]) d;simp only[Ξ]at b;rw[b];have e:(Ē l.toArray).cells.toList=l:=rfl;rw[e];rw[show(l++[Â Ë 0,Ê Ä 0 0])=l++[Â Ë 0]++[Ê Ä 0 0] by simp,(Nj (place:=λi=>[(0,145),(145,1),(146,1)].toArray[i]?) (old:=[Â Ë 0]) (suf:=[Ê Ä 0 0]) (i:=1) (rest:=[]) (by show Ã (145,1)=Ã (l.length,1);rw[h]) (by rw[a];rfl) U)];simp[ı,a]
def iu(s:St):List Ç:=(ċ 144).map<|qA s
def su(s:St):(iu s).length=144:=by simp[iu]
theorem zO(s:St)(lv:Ç):ja s lv=iu s++[lv]:=by unfold ja iu;grind [Ŏ,List.map_congr_left,ry,M5]
def Z'(a:o.op=.box T qQ)(b:xX qQ=Ē d):(ĥ xX o).run P w=χ (.value<|Å<|Ã ⟨w.heap.size,0,Ä⟩) (w.alloc<|Ð d T):=by unfold ĥ;simp[a,b,Instr.box,newVar,newRow,Ġ]
theorem Tt{a:Array (Nat×Operand)}(b:o.op=Χ T a)(h:P.built T (a.map λ(i,x)=>(i,xX x)).toList=Ã d):(ĥ xX o).run P w=χ (.value<|Ē d) w:=by have:=run_build w T (a.map λ(i,x)=>(i,xX x)) d h;unfold ĥ;simp_all
theorem Tv(a:o.op=Χ 144 #[(0,qQ)])(b:xX qQ=Ē l.toArray)(c:l.length=144):(ĥ xX o).run À w=χ (.value<|Ē (l++[Ê Ä 0 0]).toArray) w:=by grind [Tt,am2]
theorem am4{y:Ů}(a:o.op=Χ 147 #[(0,qQ),(1,y)])(b:xX qQ=Ē l.toArray)(c:xX y=v)(d:l.length=145)(e:v.cells=#[v]):(ĥ xX o).run À w=χ (.value<|Ē (l++[v,Ê Ä 0 0]).toArray) w:=by apply Tt a;grind [am3]
def Tw:(À.underlying 140).map İ=Ã Ú:=fp
def aac:(À.info? 140).map (·.size)=Ã 144:=fp
structure my(vb:Nat)(s:St)(h:Int)(w:É):Prop where
 C:w.rangeAt vb 0 (iu s)
 h:w.cell? ⟨vb,145,Ä⟩=Ã (Â Ë h)
def my.r{s:St}(a:my i s h w)(k:e8 X w u)(b:¬X i):my i s h u:= ⟨λj v c=>k.r (a.C j v c) b,k.r a.h b⟩
def uQ(l:List (Int×Bool)):List Ç:=l.flatMap λp=>[Â Æ p.1,Ñ p.2]
structure NX(B:Nat)(h:Int)(lv uv:Ç)(s:St)(ls:List (Nat×Int))(us:List (Int×Bool))(w0 w:É):Prop where
 r:iB B 147 [Â Ë h,uv] s lv w
 C:w.ownsRow 0 257 2 lv ls.length (kr ls)
 I:w.ownsRow 0 246 2 uv us.length (uQ us)
 M:e8 (λ_=>False) w0 w
 N:w0.heap.size<=B
 S:∀j,lv.ownBlock=Ã j->w0.heap.size<=j
 Y:∀j,uv.ownBlock=Ã j->w0.heap.size<=j
def NX.iX(w:É)(s:St)(h:Int):NX w.heap.size h (Ê Ä 0 0) (Ê Ä 0 0) s [] [] w ((ă w<|Ð (iu s++[Ê Ä 0 0,Â Ë h,Ê Ä 0 0]).toArray 147).drew):=by refine⟨?_,ā _ _ _ _,ā _ _ _ _,(e8.gE _ _ _ _).fe<|e8.fS _ _,Þ _,(λj q=>nomatch q),(λj q=>nomatch q)⟩;unfold iB;rw[zO,show iu s++[Ê Ä 0 0]++[Â Ë h,Ê Ä 0 0]=iu s++[Ê Ä 0 0,Â Ë h,Ê Ä 0 0] by simp];exact ff.N w _ 147
noncomputable def Ju:ŏ:=(Tryz.f115.body.bind kt).getD Ķ
def zP(c m B:Nat)(a:Option Ą)(n b:Nat)(i:Int)(u:Nat->Ç):é:=⟨#[Å<|Ã ⟨c,0,Ä⟩,Â Ë m,Ê a n b,Ă,Ă,Ă,Å Ä,Å<|Ã ⟨B,0,Ä⟩,u 8,u 9,u 10,u 11,u 12,u 13,u 14,u 15,u 16,u 17,u 18,u 19,u 20,u 21,u 22,u 23,u 24,Ê a n b,Â Ë n,Â Ë i,u 28,u 29,u 30,u 31,u 32,u 33,u 34,u 35,u 36,u 37,u 38,u 39,u 40,u 41,u 42,u 43,u 44,u 45,u 46,u 47,u 48,u 49,u 50,u 51,u 52,u 53,u 54,u 55,u 56,u 57,u 58,u 59,u 60,u 61,u 62,u 63,u 64,u 65,u 66,u 67,u 68,u 69,u 70,u 71,u 72,u 73,u 74,u 75,u 76,u 77,u 78,u 79,u 80,u 81,u 82],[]⟩
def Jv(b m B:Nat)(c:Option Ą)(n d:Nat)(i:Int)(a:é):Prop:=∃u,a=zP b m B c n d i u
def QN(X Y:é->É->Prop):aV->é->É->Prop
 |.exit 0,a,w=>X a w
 |.ret,a,w=>Y a w
 |_,_,_=>False
section
variable{lv:Ç}{s d:St}{ls f:List (Nat×Int)}{c:List (Int×Bool)}
def Ty(j:Nat)(h:Int)(x:Ç):iU:=⟨j,147,[Â Ë h,x]⟩
def Tz(j:Nat)(h:Int)(x:Ç):(Ty j h x).Ok:=⟨by show(147:Nat)≠36;decide,by show(147:Nat)≠257;decide,by show(147:Nat)≠282;decide,by show(147:Nat)≠300;decide,by show(147:Nat)≠252;decide,by show(147:Nat)≠246;decide⟩
def NX.fK(a:NX j h lv x s ls c u w)(k:e8 (λ_=>False) w W):NX j h lv x s ls c u W:= ⟨a.r.nZ k id,ie a.C k λ_ _=>id,ie a.I k λ_ _=>id,a.M.fe k,a.N,a.S,a.Y⟩
def NX.xP(a:NX j h lv x s ls c u w)(r:im (Ty j h x) lv ls.length w d f W v):NX j h v x d f c u W:=by
 have k:=a.r;refine⟨r.r,r.I,ie a.I r.C ?_,a.M.C r.C ?_,a.N,λb q=> ?_,a.Y⟩
 .rintro b i (q|q)
  .let⟨m,g⟩:=lX a.I i;have e:b=j:=q;rw[e,k]at g;cases g
  .exact als a.I a.C A i q
 .rintro i g (q|q)
  .have:=a.N;have e:i=j:=q;omega
  .have:=a.S i q;omega
 .rcases r.l b q with e|e
  .exact a.S b e
  .exact ë a.M.M e
def NX.fu(a:NX j h lv x s ls c u w)(b:i<8)(v:Int):NX j h lv x (s.fu i v) ls c u (w.setCell ⟨j,i*18,Ä⟩<|Â Æ v):= a.xP<|(im.fU (E:=Ty j h x) a.r a.C).fu (Tz _ _ _) b v
def aad(c:List (Int×Bool)):∀u∈uQ c,kq u=Ú:=λu a=>by unfold uQ at a;let⟨e,_,h⟩:=Β.1 a;simp at h;rcases h with rfl|rfl<;>rfl
def am5:(À.info? 246).map (λi=>(i.zero,i.size,i.bytes))=Ã (Ã<|Ē #[Â Æ 0,Ñ Ï],2,16):=fp
def NX.G(a:NX j h lv x s ls c u w):w.cell? ⟨j,146,Ä⟩=Ã x:= ff.r a.r 146 _<|by rw[ü (by rw[mK];omega),mK];rfl
def NX.am6{g:Int}(b:NX j h lv x s ls c u w)(a:qy w 0 246 2 x c.length (uQ c) 1 [Â Æ g,Ñ yQ] v W): NX j h lv x s ls c u W/\NX j h lv v s ls (c++[(g,yQ)]) u (W.setCell ⟨j,146,Ä⟩ v):=by
 have m:∀{i:Nat} {n:Array Ç} {T:ô},x.ownBlock=Ã i->w.heap[i]?=Ã (Ð n T (0,0))->T=246:=λ{i n T} q hc=>by let⟨k,e⟩:=lX b.I q;rw[hc]at e;cases e;rfl
 have o:=b.M.C a.r λi y q=>by have:=b.Y i q;omega
 have f:NX j h lv x s ls c u W:=⟨b.r.nZ a.r λq=>absurd (m q b.r) A,ie b.C a.r (λd q r=>by let⟨k,e⟩:=lX b.C q;exact absurd (m r e) A),a.I _ _ _ b.I λ_=>Þ _,o,b.N,b.S,b.Y⟩;have t:W.ownsRow 0 246 2 v (c++[(g,yQ)]).length (uQ<|c++[(g,yQ)]):=by have:=a.fj;rwa[show uQ c++[Â Æ g,Ñ yQ]=uQ (c++[(g,yQ)]) by simp[uQ],show c.length+1=(c++[(g,yQ)]).length by simp]at this
 have l:e8 (λk=>k=j) W (W.setCell ⟨j,146,Ä⟩ v):=e8.I (X:=λk=>k=j) (p:=⟨j,146,Ä⟩) U v<|Ù<|ff.G f.r;have k:=ff.fP f.r 146 v;rw[List.set_append_right _ _ (by rw[mK];omega),mK]at k;refine⟨f,k,ie f.C l λd q r=>jD f.C f.r A (by rw[q,r]),ie t l λd q r=>jD t f.r A (by rw[q,r]),o.C l λi y q=>by have:=b.N;omega,b.N,b.S,λd q=> ?_⟩;rcases a.C with e|e
 .exact b.Y d<|by rwa[<-e]
 .rw[e]at q;cases q;exact b.M.M
end
section
variable{X:é->É->Prop}{cp:Nat}{lv:Ç}{s:St}{ls:List (Nat×Int)}{c:List (Int×Bool)}
def am7(d:Nat->Ç)(e:NX j h lv x s ls c u w)(i:Int)(f:i=n) (g:∀a,Jv b m j O n cp i a->X a w): Î À Ju (Exit.then K<|QN X H) (zP b m j O n cp i d) w:=by
 unfold zP;conv=>arg 2;whnf
 subst f;go_wp2_with fail;exact g _ (gh _)
def am8(d:Nat->Ç)(f:NX j h lv x s ls c u w)(i:Int)(k:Nat)(q:i=k)(P:k<n)(Q:n<=1000)(tb o a:Nat)(r:O=Ã ⟨tb,o,Ä⟩)(S:w.cell? ⟨tb,o+k,Ä⟩=Ã (Å<|Ã ⟨a,0,Ä⟩))(t:Tx)(v:lZ a t w)(y:t.Ok)(z:iJ w)(B:gH s)(D:(ls.length:Int)+400<=1000000)(g:Int)(E:Bool)(F:St)(G:List (Nat×Int))(I:mr s ls t=((g,E),Ï,F,G)) (J:∀a p,a.tmps.getD 6 Ă=Å Ä->a.defers=[]->e8 (λ_=>False) u p->H a p): Î À Ju (Exit.then K<|QN X H) (zP b m j O n cp i d) w:=by
 unfold zP;conv=>arg 2;whnf
 subst q r;have C:=W_ (Tz _ _ _) (by show(147:Nat)≠200;decide) f.r f.C z B v y D;rw[I]at C;have T:(0:Int)<=(k:Int):=Z
 have V:(k:Int)<(n:Int):=Z
 have W:=ff.M f.r;have l:=fc<|Á f C;go_wp2_with fail;go_at_call 154;apply l.out.2.mono;rintro e Y ⟨rfl,zx,L⟩;have M:=l.out.1.xP L;have N:=fc M;go_wp2_with fail;exact J _ _ U U<|N.out.M.fe<|e8.gE _ _ _ _
def am9(d:Nat->Ç)(f:NX j h lv x s ls c u w)(i:Int)(k:Nat)(W:i=k)(hj:k<n)(hn:n<=1000)(tb N a:Nat)(Y:O=Ã ⟨tb,N,Ä⟩)(hc:w.cell? ⟨tb,N+k,Ä⟩=Ã (Å<|Ã ⟨a,0,Ä⟩))(t:Tx)(ht:lZ a t w)(MD:t.Ok)(hr:iJ w)(hs:gH s)(hlen:(ls.length:Int)+400<=1000000)(g:Int)(o:Bool)(B:St)(P:List (Nat×Int))(ho:mr s ls t=((g,o),Ú,B,P))(Q:m<8)(F:gH B)(vx:0<=g)(uM:g<=1000)(Ma:c.length<=1000) (p:∀a v jC TA,Jv b m j O n cp (i+1) a->NX j h jC TA (B.fu m<|wu<|(B m).fu+g) P (c++[(g,o)]) u v->K a v): Î À Ju (Exit.then K<|QN X H) (zP b m j O n cp i d) w:=by
 unfold zP;conv=>arg 2;whnf
 subst W Y;have C:=W_ (Tz _ _ _) (by show(147:Nat)≠200;decide) f.r f.C hr hs ht MD hlen;rw[ho]at C;have e1:(0:Int)<=(k:Int):=Z
 have e2:(k:Int)<(n:Int):=Z
 have avc:=ff.M f.r;have l:=fc<|Á f C;go_wp2_with fail;go_at_call 154;apply l.out.2.mono;rintro e r ⟨rfl,zx,r1⟩;have D:=l.out.1.xP r1;have m1:=D.r.fu Q;have z1:=ff.C D.r<|m*18;have FP:=ff.M D.r;have b0:=(F.fu m).1;have b1:=(F.fu m).2;have hub:x.ownBlock≠Ã r.heap.size:=λq=>by have:=(D.I.lt _ q).2;omega
 have HX:=fc<|Á D F;generalize hb:(B m).fu=b at*;have hm0:(0:Int)<=(m:Int):=Z
 have hm1:(m:Int)<8:=Z
 go_wp2_with fail
 go_region
 have hx8:=(HX.out.1.fu Q<|wu<|b+g).fK ((e8.gE (λ_=>False) _ #[Â Æ g,Ñ o] 246).fe<|e8.fS _ _);have hU:ff r.heap.size [Â Æ g,Ñ o] 246 (Č<|ă (r.setCell ⟨j,m*18,Ä⟩<|Â Æ<|wu<|b+g)<|Ð #[Â Æ g,Ñ o] 246):=by
  have:=ff.N (r.setCell ⟨j,m*18,Ä⟩<|Â Æ<|wu<|b+g) [Â Æ g,Ñ o] 246;have z:ff r.heap.size [Â Æ g,Ñ o] 246 (ă (r.setCell ⟨j,m*18,Ä⟩<|Â Æ<|wu<|b+g)<|Ð #[Â Æ g,Ñ o] 246):=by simpa using this
  exact z
 go_wp2_with fail
 change Î À _ _ _ (Č<|ă (r.setCell ⟨j,m*18,Ä⟩<|Â Æ<|wu<|b+g)<|Ð #[Â Æ g,Ñ o] 246);generalize Č (ă (r.setCell ⟨j,m*18,Ä⟩<|Â Æ<|wu<|b+g)<|Ð #[Â Æ g,Ñ o] 246)=w8 at*;generalize r.heap.size=ub at*;have S:=hx8.fK (e8.fS (λ_=>False) w8);have G:=hU.I (e8.fS (λ_=>False) w8) id;let⟨i0,Jp,Jq,ana,anb⟩:=í am5;have E:=fc<|Á Jp<|Á Jq<|Á ana anb;have y:=fc<|Á S.G<|Á (G.r 0 _ rfl)<|G.r 1 _ rfl;have T:=fc<|Á S G;refine mq (λv=>v.cell? ⟨j,146,Ä⟩=Ã x/\v.cell? ⟨ub,0,Ä⟩=Ã (Â Æ g)/\v.cell? ⟨ub,1,Ä⟩=Ã (Ñ o)) [10] fp ?_;refine tk 0 y.out ?_;refine tk 1 y.out ?_;refine tk 2 y.out ?_;refine tk 3 y.out ?_;refine tk 4 y.out ?_;refine tk 5 y.out ?_;have I:=T.out.1.fK (e8.gE (λ_=>False) _ #[Â Æ g,Ñ o] 246);have J:=T.out.2.I (e8.gE (λ_=>False) _ #[Â Æ g,Ñ o] 246) id;refine gA 6 ?_;intro K p;go_simp;refine p.out _ _ (λ_=>⟨I.G,J.r 0 _ U,J.r 1 _ U⟩) ?_;refine gA 7 ?_;intro K p;refine Na (hfl:=Ù ⟨fi,λd z=>(ú.1 z).elim (aad c d) (λq=>by simp at q;rcases q with rfl|rfl<;>rfl),by simp[kq,Ġ]⟩) fM _ _ 145 fM Tryz.underlying145 E.out.1 E.out.2.1 E.out.2.2.1 E.out.2.2.2 U fM I.I ⟨_,0,Ä⟩ [Â Æ g,Ñ o] fM Z U (ŵ _ _ _ _) (λd z=>by simp at z;rcases z with rfl|rfl<;>rfl) (by unfold ą;omega) Z (â _) ?_;intro uv1 w9 L;obtain⟨a2,cp2,rfl⟩:=jj L.fj;let⟨M,n2⟩:=I.am6 L;have z:=J.I L.r hub;refine p.out _ _ (λ_=>⟨M.G,z.r 0 _ U,z.r 1 _ U⟩) ?_;have V:=M.G;have fz:=ff.C M.r 146;refine gA 8 ?_;intro K p;go_simp;refine p.out _ _ (λ_=>⟨V,z.r 0 _ U,z.r 1 _ U⟩) ?_;refine gA 9 ?_;intro K p;go_simp;refine p.out _ _ (λ_=>⟨V,z.r 0 _ U,z.r 1 _ U⟩) ?_;refine gA 10 ?_;intro K p;go_simp;refine p.out _ _ (λq=>absurd fi q) ?_;refine lY fp ?_ _;go_wp2_with fail;subst hb;exact p _ _ _ _ (gh _) n2
end
def uR(m:Nat):St->List (Nat×Int)->List (Int×Bool)->List Tx->Option (St×List (Nat×Int)×List (Int×Bool))
 |s,ls,us,[]=>Ã (s,ls,us)
 |s,ls,us,t::r=>if(mr s ls t).2.1 then uR m ((mr s ls t).2.2.1.fu m<|wu<|((mr s ls t).2.2.1 m).fu+(mr s ls t).1.1) (mr s ls t).2.2.2 (us++[(mr s ls t).1]) r else Ä
def anc{s:St}(b:gH s)(x y:Nat)(c:0<=h):gH (xU s x y h).2:=by
 unfold xU;split
 .exact b
 .rename_i a;have:=(b.fu x).2;exact(b.r x ⟨Z,Z⟩).r y<|zI _
def ane{s:St}(a:gH s)(x:Nat)(e:B.size<=40/\∀c∈B.data.toList,xO c=Ú):gH (xV s x B).2:=by
 unfold xV;split
 .exact a
 .rename_i h;have:=(a.fu x).2;have d:=a.r x (b:=(s x).fu-20) ⟨Z,Z⟩;exact d.fP (d.fu x) (d.C x) e
structure aae(r:List (Nat×Int))(o:(Int×Bool)×Bool×St×List (Nat×Int)):Prop where
 g0:0<=o.1.1
 C:o.1.1<=400
 s:gH o.2.2.1
 r:o.2.2.2.length<=r.length+400
def anf{s:St}(f:gH s){d:List (Nat×Int)}(g:i<8)(l:j<8)(m:gd c)(p:(d.length:Int)+400<=1000000):aae d (zN s d i j h c):=by
 unfold zN;split
 .exact⟨Ö _,by show(0:Int)<=400;decide,f,Ŀ _ _⟩
 .rename_i a;have q:=(f.fu i).2;have o:=f.r i (b:=(s i).fu-h) ⟨Z,Z⟩;have e:=Ni _ d i j (h-10) c o g l m Z Z Z;have r:=e.C;have t:=e.r;have u:=e.I;exact⟨by show 0<=_+10;omega,by show _+10<=400;omega,e.N.r i<|zI _,by show(gi _ _ _ _ _ _).I.length<=_;omega⟩
def aaf{s:St}(b:gH s){ls:List (Nat×Int)}{t:Tx}(a:t.Ok)(c:(ls.length:Int)+400<=1000000):aae ls (mr s ls t):=by
 unfold mr;split
 .exact⟨by show(0:Int)<=10;decide,by show(10:Int)<=400;decide,anc b _ _ a.I,Ŀ _ _⟩
 .split
  .exact⟨by show(0:Int)<=20;decide,by show(20:Int)<=400;decide,ane b _ a.N,Ŀ _ _⟩
  .exact anf b a.x a.y ⟨a.r,by have:=a.C;omega⟩ c
structure Dp(bp:Option Ą)(n:Nat)(gJ:List (Nat×Tx))(w:É):Prop where
 r:n=gJ.length
 C:∀(j a:Nat) (t:Tx),gJ[j]?=Ã (a,t)->∃tb te,bp=Ã ⟨tb,te,Ä⟩/\w.cell? ⟨tb,te+j,Ä⟩=Ã (Å<|Ã ⟨a,0,Ä⟩)/\lZ a t w/\t.Ok
def Dp.I{gJ:List (Nat×Tx)}(h:Dp O n gJ w)(k:e8 (λ_=>False) w u):Dp O n gJ u:= ⟨h.r,λj a t q=>by let⟨tb,b,c,d,e,f⟩:=h.C j a t q;exact⟨tb,b,c,k.r d id,e.S k id,f⟩⟩
def lN(gJ:List (Nat×Tx)):List Tx:=gJ.map (·.2)
section
variable{bp:Option Ą}{cp:Nat}{gJ:List (Nat×Tx)}{d:Option (St×List (Nat×Int)×List (Int×Bool))}
def TB(n:Nat)(a:é)(_:É):Nat:=match a.tmps.getD 27 Ă with
 |Â _ i=>n-i.toNat
 |_=>0
def NI(b m i:Nat)(bp:Option Ą)(n cp:Nat)(h:Int)(u:É)(gJ:List (Nat×Tx))(d:Option (St×List (Nat×Int)×List (Int×Bool)))(a:é)(w:É):Prop:=
 ∃(j:Nat) (s:St) (c:List (Nat×Int)) (e:List (Int×Bool)) (f g:Ç),Jv b m i bp n cp j a/\j<=n/\NX i h f g s c e u w/\gH s/\c.length<=400*j/\e.length=j/\uR m s c e ((lN gJ).drop j)=d
def NE(b m i:Nat)(bp:Option Ą)(n cp:Nat)(h:Int)(u:É)(d:Option (St×List (Nat×Int)×List (Int×Bool)))(a:é)(w:É):Prop:=
 ∃(s:St) (c:List (Nat×Int)) (e:List (Int×Bool)) (f g:Ç),Jv b m i bp n cp n a/\NX i h f g s c e u w/\gH s/\d=Ã (s,c,e)
def NR(u:É)(d:Option (St×List (Nat×Int)×List (Int×Bool)))(a:é)(w:É):Prop:=
 a.tmps.getD 6 Ă=Å Ä/\a.defers=[]/\e8 (λ_=>False) u w/\d=Ä
theorem ang(C:Dp bp n gJ u)(K:iJ u)(L:n<=1000)(V:m<8)(a:é)(w:É)(W:NI b m i bp n cp h u gJ d a w): Î À Ju (Exit.then (λo q=>NI b m i bp n cp h u gJ d o q/\TB n o q<TB n a w)<|QN (NE b m i bp n cp h u d)<|NR u d) a w:=by
 let⟨j,s,r,M,X,Y,hfr,hj,x,y,S9,Ma,e⟩:=W;obtain⟨c,rfl⟩:=hfr;by_cases vw:j=n
 .have D:(lN gJ).drop j=[]:=ę (by unfold lN;rw[Ο,<-C.r];omega);rw[D]at e;refine am7 c x j (by rw[vw]) λa v=>⟨s,r,M,X,Y,?_,x,y,e.symm⟩;grind
 .have E:j<n:=Z
  obtain⟨⟨a,t⟩,N⟩:∃p,gJ[j]?=Ã p:=⟨_,Ô<|by rwa[<-C.r]⟩;have D:(lN gJ).drop j=t::(lN gJ).drop (j+1):=by
   have v:(lN gJ)[j]?=Ã t:=by unfold lN;rw[ķ,N];rfl
   grind [ē]
  let⟨tb,O,P,Q,S,F⟩:=(C.I x.M).C j a t N;have G:(r.length:Int)+400<=1000000:=Z
  have k:=aaf y F G;rw[D]at e;unfold uR at e;obtain⟨g,l,H,z,f,I⟩:∃g l H z f,mr s r t=((g,l),H,z,f):=⟨_,_,_,_,_,U⟩;rw[I]at e k;have g0:=k.g0;have g1:g<=400:=k.C;have T:=k.s;have FP:f.length<=r.length+400:=k.r;cases H with
  |false=>
   simp only[ĭ,if_false]at e;exact am8 c x j j U E L tb O a P Q t S F (K.r x.M id) y G g l z f I λo q B J v=>⟨B,J,v,e.symm⟩
  |true=>
   simp only[if_true]at e;refine am9 c x j j U E L tb O a P Q t S F (K.r x.M id) y G g l z f I V T g0 Z Z λo q jC TA B J=>⟨⟨j+1,_,f,M++[(g,l)],jC,TA,by simpa using B,Z,J,T.r m<|zI _,Z,by simp[Ma],e⟩,?_⟩;obtain⟨v,rfl⟩:=B;show n-((j:Int)+1).toNat<n-((j:Int)).toNat;omega
def vV(m:Nat)(s:St)(gJ:List Tx):Option (St×List (Nat×Int)×List (Int×Bool)):=
 (uR m s [] [] gJ).map λr=>(r.1.fu m<|wu<|(r.1 m).fu+50,r.2)
def FR(h:Int)(w:É)(r:Option (St×List (Nat×Int)×List (Int×Bool)))(e:az)(a:É):Prop:=
 (r=Ä/\e=È (Å Ä)/\e8 (λ_=>False) w a)\/
 ∃s b c i d f,r=Ã (s,b,c)/\e=È (Å<|Ã ⟨i,0,Ä⟩)/\NX i (h+1) d f s b c w a/\gH s
def anh{s:St}(e:my b s h w)(Y:0<=h)(hh1:h<=1000)(y:gH s)(z:Dp bp n gJ w)(B:iJ w)(J:n<=1000)(f:m<8): Ò À 115 #[Å<|Ã ⟨b,0,Ä⟩,Â Ë m,Ê bp n cp] w (FR h w<|vV m s<|lN gJ):=by
 let⟨M,C,D⟩:=Ì.1 Tw;have E:(À.info? 140).map (·.size)=Ã (iu s).length:=by rw[su];exact aac
 have k:=fc<|Á C<|Á D E;have F:=(e.r (e8.fS (λ_=>False) w) id).C;have G:=(e.r (e8.fS (λ_=>False) w) id).h;have oS:Ë.wrap (h+1)=h+1:=Jk Z Z;have c:=fc<|Á F G;have gI:=á w _ e.h;have L:∀l a,NX w.heap.size (h+1) (Ê Ä 0 0) (Ê Ä 0 0) s [] [] w l->Jv b m w.heap.size bp n cp 0 a->Î À (à Ju) (QN (NE b m w.heap.size bp n cp (h+1) w<|uR m s [] []<|lN gJ)<|NR w<|uR m s [] []<|lN gJ) a l:=λl a x N=>
  ĉ (NI b m w.heap.size bp n cp (h+1) w gJ<|uR m s [] []<|lN gJ) (TB n) ⟨0,s,[],[],_,_,N,â _,x,y,fi,U,U⟩<|ang z B J f
 have H:=fc<|Á e L;have I:vV m s (lN gJ)=(uR m s [] []<|lN gJ).map λr=>(r.1.fu m<|wu<|(r.1 m).fu+50,r.2):=U;rw[I];clear C D F G e E L y z B I;generalize uR m s [] [] (lN gJ)=d at*;go_enter Tryz.func115,Tryz.ntmps115;go_wp2_with fail;refine mq (λg=>g.rangeAt b 0 (iu s)/\g.cell? ⟨b,145,Ä⟩=Ã (Â Ë h)) [] fp ?_;refine tk 0 c.out ?_;refine tk 1 c.out ?_;refine tk 2 c.out ?_;refine tk 3 c.out ?_;refine Jj (i:=4) (oi:={dst:=Ã 16,op:=Go.Op.load 140<|î 15,type:=140,pos:= "block.go:30",after:=#[{on:=3,ground:=ï}],guard:=Ä}) U fp fp fp fp (λ_ _ _ h=>h) c.out (yieldsIf_load_mid fM 140 _ U b 0 U (iu s) M (λw h=>h.1) k.out.1 k.out.2.1 k.out.2.2) ?_;refine Jj (i:=5) (oi:={dst:=Ã 17,op:=Χ 144 #[(0,î 16)],type:=144,pos:= "block.go:30",after:=#[{on:=4,ground:=ï}],guard:=Ä}) U fp fp fp fp (λ_ _ _ h=>h) c.out (Ø ⟨fM,λ_ _=>Tv U U<|su s⟩) ?_;refine tk 6 c.out ?_;refine tk 7 c.out ?_;refine tk 8 c.out ?_;refine tk 9 c.out ?_;refine tk 10 c.out ?_;refine Jj (i:=11) U fp fp fp fp (λ_ _ _ h=>h) c.out (Ø ⟨fM,λ_ _=>am4 U U U (by simp[su]) U⟩) ?_;have g:=fc ((H.out.1.r (e8.fS (λ_=>False) w) id).r (e8.gE (λ_=>False) _ ((iu s++[Ê Ä 0 0])++[Â Ë<|h+1,Ê Ä 0 0]).toArray 147) id);refine gA 12 ?_;intro K o;rw[if_pos fM];unfold Ń;rw[Z' U U,Ħ];refine o.out _ _ (λ_=>⟨g.out.C,g.out.h⟩) ?_;refine gA 13 ?_;intro K o;go_simp;refine o.out _ _ (λ_=>⟨g.out.C,g.out.h⟩) ?_;refine lY fp ?_ _;go_wp2_with fail;have O:=NX.iX w s<|h+1;refine Ý ?_ (H.out.2 _ _ O (gh _));rintro(_|(_|_)|_|_|_|_) a v hq;all_goals first|exact absurd hq id|skip
 .let⟨p,P,Q,S,T,V,j,q,W⟩:=hq;subst W;have d1:=j.r.fu f;have f1:=ff.C j.r<|m*18;have FP:=ff.M j.r;have b0:=(q.fu m).1;have b1:=(q.fu m).2;have hm0:(0:Int)<=(m:Int):=Z
  have hm1:(m:Int)<8:=Z
  have t:=fc<|Á j q;generalize X:(p m).fu=b at*;obtain⟨u,rfl⟩:=V;unfold zP;go_wp2_with fail;go_region;go_wp2_with fail;go_ret;refine Ù ⟨p.fu m<|wu<|(p m).fu+50,P,Q,w.heap.size,S,T,U,U,?_,t.out.2.r m<|zI _⟩;rw[X];first
   |exact(t.out.1.fu f<|wu<|b+50).fK<|e8.fS _ _
   |exact(t.out.1.still<|Keep.drew _ _).fu f<|wu<|b+50
 .let⟨j,p,q,t⟩:=hq;simp only[Exit.inBlock,Exit.then];apply ð (results_tmp U _ _ _) p;exact Ø ⟨by rw[t];rfl,by rw[j],q⟩
end
def oA(i:Nat):ByteArray:=if i<10 then⟨#[(48+i).toUInt8]⟩else⟨#[(48+i/10).toUInt8,(48+i%10).toUInt8]⟩
def ani:∀k:Fin 10,(⟨#[48,49,50,51,52,53,54,55,56,57,97,98,99,100,101,102,103,104,105,106,107,108,109,110,111,112,113,114,115,116,117,118,119,120,121,122]⟩:ByteArray).extract k.val (k.val+1)=oA k.val:=by decide+kernel
def anj:∀k:Fin 100,k.val<10\/(⟨#[48,48,48,49,48,50,48,51,48,52,48,53,48,54,48,55,48,56,48,57,49,48,49,49,49,50,49,51,49,52,49,53,49,54,49,55,49,56,49,57,50,48,50,49,50,50,50,51,50,52,50,53,50,54,50,55,50,56,50,57,51,48,51,49,51,50,51,51,51,52,51,53,51,54,51,55,51,56,51,57,52,48,52,49,52,50,52,51,52,52,52,53,52,54,52,55,52,56,52,57,53,48,53,49,53,50,53,51,53,52,53,53,53,54,53,55,53,56,53,57,54,48,54,49,54,50,54,51,54,52,54,53,54,54,54,55,54,56,54,57,55,48,55,49,55,50,55,51,55,52,55,53,55,54,55,55,55,56,55,57,56,48,56,49,56,50,56,51,56,52,56,53,56,54,56,55,56,56,56,57,57,48,57,49,57,50,57,51,57,52,57,53,57,54,57,55,57,56,57,57]⟩:ByteArray).extract (k.val*2) (k.val*2+2)=oA k.val:=by decide+kernel
theorem ank(i:Nat)(h:i<10)(w:É):Ò À 187 #[Â Ë i] w λe a=>e=È (Í<|oA i)/\a=w:=by
 go_enter ź,ρ;go_wp2;all_goals go_ret
 refine⟨t_<|ani ⟨i,h⟩,U⟩
theorem anl(i:Nat)(h:i<100)(b:10<=i)(w:É):Ò À 187 #[Â Ë i] w λe a=>e=È (Í<|oA i)/\a=w:=by
 go_enter ź,ρ;go_wp2;all_goals go_ret
 refine⟨t_ ((anj ⟨i,h⟩).resolve_left<|by show¬i<10;omega),U⟩
theorem anm(i:Nat)(h:i<100)(w:É):Ò À 187 #[Â Ë i] w λe a=>e=È (Í<|oA i)/\a=w:=by grind [ank,anl]
def ano(i:Nat)(h:i<100)(w:É):Ò À 171 #[Â Ë i,Â Ë 10] w λe a=>e=È (Í<|oA i)/\a=w:=by go_enter Tryz.func171,Tryz.ntmps171;go_wp2_with (go_at_call 187;refine(anm i h _).mono ?_;rintro e a ⟨rfl,rfl⟩);go_ret;exact⟨U,U⟩
def aag(i:Nat)(h:i<100)(w:É):Ò À 117 #[Â Ë i] w λe a=>e=È (Í<|oA i)/\a=w:=by
 go_enter Tryz.func117,Tryz.ntmps117;go_wp2_with (first
  |(go_at_call 171;refine(ano i h _).mono ?_;rintro e a ⟨rfl,rfl⟩)
  |go_in)
 go_ret;exact⟨U,U⟩
def nW(i:Nat):ByteArray:=⟨#[33]⟩++oA i
def FT(i:Nat)(h:i<10)(w:É):Ò À 114 #[Â Ë i] w λe a=>e=È (Í<|nW i)/\a=w:=by
 have b:(oA i).size=1:=by unfold oA;rw[if_pos h];rfl
 go_enter Tryz.func114,Tryz.ntmps114;go_wp2_with (go_at_call 117;refine(aag i Z _).mono ?_;rintro e a ⟨rfl,rfl⟩);go_ret;exact⟨U,U⟩
def tb(n c:Nat):Nat:=(n^^^c)*1099511628211%18446744073709551616
def Nl(n c:Nat):tb n c<18446744073709551616:=aQ _ Z
def aah(n c:Nat)(a:n<18446744073709551616)(f:c<256)(w:É):Ò À 178 #[Â Æ n,Â aW c] w λe b=>e=È (Â Æ<|tb n c)/\b=w:=by
 go_enter Tryz.func178,Tryz.ntmps178;go_wp2_with fail;go_ret;refine⟨?_,U⟩;have d:Æ.wrap (((n^^^c:Nat):Int)*1099511628211)=((tb n c:Nat):Int):=by rw[bb];unfold tb;omega
 rw[bits_xor_u64_nat n c a Z,d];rfl
def tn(m:Nat):Nat->Nat->Nat
 |n,0=>n
 |n,j+1=>tn m (tb n<|m/2^(8*j)%256) j
def aai(m:Nat):∀(j n:Nat),n<18446744073709551616->tn m n j<18446744073709551616
 |0,_,h=>h
 |j+1,_,_=>aai m j _<|Nl _ _
noncomputable def Nn:ŏ:=(Tryz.f177.body.bind kt).getD Ķ
def FU(m n:Nat)(i:Int)(u:Nat->Ç):é:=⟨#[Â Æ n,Â Æ m,u 2,u 3,u 4,Â Ë i,u 6,u 7,u 8,u 9,u 10,u 11,u 12,u 13,u 14,u 15,u 16],[]⟩
def FV(m n:Nat)(i:Int)(a:é):Prop:=∃u,a=FU m n i u
section
variable{X:é->É->Prop}
def anp(m n j:Nat)(f:j<8)(d:n<18446744073709551616)(g:m<18446744073709551616)(u:Nat->Ç)(b:∀a,FV m (tb n<|m/2^(8*j)%256) (((8*j:Nat):Int)-8) a->K a w): Î À Nn (Exit.then K<|QQ X) (FU m n (8*j:Nat) u) w:=by
 unfold FU;conv=>arg 2;whnf
 have h:(0:Int)<=((8*j:Nat):Int):=Z
 have i:((8*j:Nat):Int)<64:=Z
 have T:=aah n (m/2^(8*j)%256) d Z w;generalize 8*j=j8 at*;have c:((m/2^j8%256:Nat):Int)=(m:Int)/2^j8%256:=fi
 rw[c]at T;have H:=fc<|Á T b;clear T b c;go_wp2_with (go_at_call 178;apply H.out.1.mono;rintro e k ⟨rfl,rfl⟩);exact H.out.2 _ (gh _)
def anq(m n:Nat)(u:Nat->Ç)(b:∀a,FV m n (-8) a->X a w): Î À Nn (Exit.then K<|QQ X) (FU m n (-8) u) w:=by
 unfold FU;conv=>arg 2;whnf
 go_wp2_with fail
 exact b _ (gh _)
def TI(m:Nat)(b:É)(c:Nat)(a:é)(w:É):Prop:=∃n j:Nat,FV m n (((8*j:Nat):Int)-8) a/\j<=8/\n<18446744073709551616/\w=b/\tn m n j=c
def TE(m:Nat)(b:É)(c:Nat)(a:é)(w:É):Prop:=FV m c (-8) a/\w=b
def xW(a:é)(_:É):Nat:=match a.tmps.getD 5 Ă with
 |Â _ i=>(i+8).toNat
 |_=>0
def Jw(b:FV m n h y):xW y w=(h+8).toNat:=by obtain⟨u,rfl⟩:=b;rfl
def anr(f:m<18446744073709551616)(a:é)(w:É)(g:TI m u i a w): Î À Nn (Exit.then (λb e=>TI m u i b e/\xW b e<xW a w)<|QQ<|TE m u i) a w:=by
 obtain⟨n,j,c,k,h,rfl,d⟩:=g;rw[Jw (w:=w) c];obtain⟨b,rfl⟩:=c;cases j with
 |zero=>
  subst d;exact anq m n b λa q=>⟨q,U⟩
 |succ j=>
  have e:(((8*(j+1):Nat):Int)-8)=((8*j:Nat):Int):=Z
  rw[e];refine anp m n j Z h f b λa q=>⟨⟨_,j,q,Z,Nl _ _,U,d⟩,?_⟩;rw[Jw q];omega
end
def oB(n m:Nat):Nat:=tn m n 8
theorem FW(n m:Nat)(a:n<18446744073709551616):oB n m<18446744073709551616:=aai m 8 n a
def Jx(n m:Nat)(b:n<18446744073709551616)(c:m<18446744073709551616)(w:É):Ò À 177 #[Â Æ n,Â Æ m] w λe d=>e=È (Â Æ<|oB n m)/\d=w:=by
 have L:∀a,FV m n 56 a->Î À (à Nn) (QQ<|TE m w<|oB n m) a w:=λa f=>
  ĉ (TI m w<|oB n m) xW ⟨n,8,f,Þ _,b,U,U⟩<|anr c
 generalize oB n m=r at*;go_enter Tryz.func177,Tryz.ntmps177;go_wp2_with fail;refine Ý ?_ ((fc L).out _ (gh _));rintro(_|(_|_)|_|_|_|_) a v hq;all_goals first|exact absurd hq id|skip
 obtain⟨g,rfl⟩:=hq;obtain⟨u,rfl⟩:=g;unfold FU;go_wp2_with fail;go_ret;exact⟨U,U⟩
def Jy(p q:Nat):Nat:=oB (oB 14695981039346656037 p) q
def ant(p q:Nat):Jy p q<18446744073709551616:=FW _ _<|FW _ _ Z
noncomputable def Jz:ŏ:=(Tryz.f162.body.bind kt).getD Ķ
noncomputable def JA:ŏ:=(kt Jz).getD Ķ
def Q2(X:é->É->Prop):aV->é->É->Prop
 |.exit 2,a,w=>X a w
 |_,_,_=>False
def vI(b c d:Nat)(a:Nat)(i:Int)(u:Nat->Ç):é:=⟨#[Ê (Ã ⟨b,0,Ä⟩) c d,u 1,u 2,Â Ë a,u 4,u 5,u 6,u 7,u 8,u 9,u 10,Â Ë a,Â Ë i,u 13,u 14,u 15,u 16,u 17,u 18,u 19,u 20,u 21,u 22,u 23,u 24,u 25,u 26,u 27,u 28,u 29,u 30,u 31,u 32,u 33,u 34,u 35,u 36,u 37],[]⟩
def Dq(b c d:Nat)(e:Nat)(i:Int)(a:é):Prop:=∃u,a=vI b c d e i u
section
variable{X:é->É->Prop}{cp:Nat}
def anu(u:Nat->Ç)(c:∀a,Dq b n cp i i a->X a w): Î À JA (Exit.then K<|Q2 X) (vI b n cp i i u) w:=by
 unfold vI;conv=>arg 2;whnf
 go_wp2_with fail
 exact c _ (gh _)
def anv(c p q z:Nat)(k:Jy p q=z)(t:c<i)(x:2*i<=n)(y:n<=16)(l:p<18446744073709551616)(m:q<18446744073709551616)(u:Nat->Ç) (o:w.cell? ⟨b,2*c,Ä⟩=Ã (Â Æ p)) (r:w.cell? ⟨b,2*c+1,Ä⟩=Ã (Â Æ q)) (h:∃v,w.cell? ⟨b,c,Ä⟩=Ã v) (B:w.frozen? ⟨b,c,Ä⟩=Ï) (f:∀a,Dq b n cp i ((c+1:Nat):Int) a->K a (w.setCell ⟨b,c,Ä⟩<|Â Æ z).drew): Î À JA (Exit.then K<|Q2 X) (vI b n cp i c u) w:=by
 unfold vI;conv=>arg 2;whnf
 subst k;unfold Jy at f;let⟨C,h⟩:=h;have D:(0:Int)<=(c:Int):=Z
 have E:(c:Int)<(i:Int):=Z
 have F:(2:Int)*(c:Int)+1<(n:Int):=Z
 have G:((2:Int)*(c:Int)).toNat=2*c:=Z
 have H:((2:Int)*(c:Int)+1).toNat=2*c+1:=Z
 have I:Ë.wrap (2*(c:Int))=2*(c:Int):=Jk Z Z;have j:Ë.wrap (2*(c:Int)+1)=2*(c:Int)+1:=Jk Z Z;have J:(0:Int)<=2*(c:Int):=Z
 have L:2*(c:Int)<(n:Int):=Z
 have M:(0:Int)<=2*(c:Int)+1:=Z
 have N:(c:Int)<(n:Int):=Z
 have s:=fc f;clear f;go_wp2_with fail;have d:=fc<|Á o r;refine mq (λe=>e.cell? ⟨b,2*c,Ä⟩=Ã (Â Æ p)/\e.cell? ⟨b,2*c+1,Ä⟩=Ã (Â Æ q)) [16] fp ?_;refine tk 0 d.out ?_;refine tk 1 d.out ?_;refine tk 2 d.out ?_;refine tk 3 d.out ?_;refine tk 4 d.out ?_;refine tk 5 d.out ?_;refine tk 6 d.out ?_;refine tk 8 d.out ?_;refine tk 9 d.out ?_;refine tk 10 d.out ?_;refine tk 11 d.out ?_;refine tk 12 d.out ?_;refine tk 13 d.out ?_;refine gA 7 ?_;intro K f;go_simp;go_at_call 177;refine(Jx 14695981039346656037 p Z l _).mono ?_;rintro e g ⟨rfl,j⟩;subst g;refine f.out _ _ (λ_=>d.out) ?_;refine gA 14 ?_;intro K f;go_simp;go_at_call 177;refine(Jx (oB 14695981039346656037 p) q (FW _ _ Z) m _).mono ?_;rintro e g ⟨rfl,j⟩;subst g;refine f.out _ _ (λ_=>d.out) ?_;refine gA 15 ?_;intro K f;go_simp;refine f.out _ _ (λ_=>d.out) ?_;refine gA 16 ?_;intro K f;go_simp;refine f.out _ _ (λq=>absurd fi q) ?_;refine lY fp ?_ _;go_wp2_with fail;exact s.out _ (gh _)
end
def pr(l:List Nat)(t:Nat):Nat:=Jy (l.getD (2*t) 0)<|l.getD (2*t+1) 0
def aaj(l:List Nat)(t:Nat):Jy (l.getD (2*t) 0) (l.getD (2*t+1) 0)=pr l t:=by unfold pr;exact Eq.refl _
def jO(l:List Nat)(i:Nat):List Nat:=(ċ l.length).map λt=>if t<i then pr l t else l.getD t 0
def uS(l:List Nat):List Nat:=(ċ<|l.length/2).map<|pr l
def kz(l:List Nat):List Ç:=l.map λ(x:Nat)=>Â Æ x
def sw(l:List Nat):Prop:=∀t,l.getD t 0<18446744073709551616
theorem JB(l:List Nat)(i:Nat):(jO l i).length=l.length:=by simp[jO]
theorem Np(l:List Nat)(i t:Nat)(h:t<l.length):(jO l i)[t]?=Ã (if t<i then pr l t else l.getD t 0):=by simp[jO,û h]
theorem anw(l:List Nat):jO l 0=l:=by refine þ λt=> ?_;grind [Np,JB]
theorem anx(l:List Nat)(i:Nat)(h:i<l.length):(jO l i).set i (pr l i)=jO l (i+1):=by refine þ λt=> ?_;grind [Np,JB,ĕ]
theorem anz(l:List Nat):jO l (l.length/2)=uS l++l.drop (l.length/2):=by
 refine þ λt=> ?_;have b:(uS l).length=l.length/2:=by simp[uS]
 by_cases a:t<l.length
 .rw[Np _ _ t a];by_cases q:t<l.length/2
  .rw[if_pos q,ç Z];simp[uS,û q]
  .grind
 .grind [JB,Ó,List.length_drop]
def anB(l:List Nat)(t:Nat):pr l t<18446744073709551616:=by rw[<-aaj];exact ant _ _
def Nq{N:Nat}(a:0<N)(h:∀x∈jJ,x<N)(t:Nat):jJ.getD t 0<N:=by
 rw[Ĳ];cases e:jJ[t]? with
 |none=>exact a
 |some x=>exact h x<|ġ e
def aak(l:List Nat):sw (uS l):=Nq Z λx a=>by unfold uS at a;obtain⟨t,_,rfl⟩:=ņ.1 a;exact anB l t
def sx:Nat->List Nat->Nat
 |0,l=>l.getD 0 0
 |k+1,l=>sx k<|uS l
def TC(l:List Nat)(i x:Nat):kz (l.set i x)=(kz l).set i (Â Æ x):=by simp[kz,List.map_set]
theorem JC(l:List Nat)(i x:Nat)(h:l[i]?=Ã x):(kz l)[i]?=Ã (Â Æ x):=by simp[kz,h]
section
variable{cp:Nat}{l:List Nat}{junk:List Ç}
def II(b n cp i:Nat)(T:ô)(l:List Nat)(junk:List Ç)(d:É)(a:é)(w:É):Prop:=
 ∃c:Nat,Dq b n cp i c a/\c<=i/\e8 (λk=>k=b) d w/\ff b (kz (jO l c)++junk) T w
def IE(b n cp i:Nat)(T:ô)(l:List Nat)(junk:List Ç)(c:É)(a:é)(w:É):Prop:=
 Dq b n cp i i a/\e8 (λk=>k=b) c w/\ff b (kz (jO l i)++junk) T w
def Nr(i:Nat)(a:é)(_:É):Nat:=match a.tmps.getD 12 Ă with
 |Â _ b=>i-b.toNat
 |_=>0
def aal(c:Dq b n cp i j y):Nr i y w=i-j:=by obtain⟨u,rfl⟩:=c;show i-(j:Int).toNat=_;simp
def anC(g:sw l)(r:l.length=n)(s:2*i=n)(m:n<=16)(a:é)(w:É)(o:II b n cp i T l junk u a w): Î À JA (Exit.then (λc d=>II b n cp i T l junk u c d/\Nr i c d<Nr i a w)<|Q2<|IE b n cp i T l junk u) a w:=by
 let⟨c,h,v,j,e⟩:=o;rw[aal h];obtain⟨d,rfl⟩:=h;by_cases p:c=i
 .subst p;exact anu d λa q=>⟨q,j,e⟩
 .have f:=λt x y=>
   e.r t _<|by rw[ç (by simp[kz,JB];omega)];exact JC _ _ _<|by rw[Np l c t Z,if_neg Z]
  refine anv c (l.getD (2*c) 0) (l.getD (2*c+1) 0) (pr l c) (aaj l c) Z Z m (g _) (g _) d (f _ Z Z) (f _ Z Z) ⟨_,f c Z Z⟩ (e.C c) λa q=>⟨⟨c+1,q,Z,(j.fe<|e8.I (X:=λk=>k=b) U _).fe<|e8.fS _ _,?_⟩,by rw[aal q];omega⟩;rw[<-anx l c Z,TC,<-ğ _ _ (by simp[kz,JB];omega)];exact((e.fP c<|Â Æ<|pr l c).I (e8.fS (λ_=>False) _) id)
def anD(c:sw l)(d:l.length=n)(e:2*i=n)(f:n<=16)(g:ff b (kz l++junk) T w)(h:Dq b n cp i (0:Nat) y): Î À (à JA) (Q2<|IE b n cp i T l junk w) y w:= ĉ (II b n cp i T l junk w) (Nr i) ⟨0,h,â _,e8.fU _ _,by rwa[anw]⟩<|anC c d e f
end
def FX(b a c:Nat)(u:Nat->Ç):é:=⟨#[Ê (Ã ⟨b,0,Ä⟩) a c,u 1,u 2,u 3,u 4,u 5,u 6,u 7,u 8,u 9,u 10,u 11,u 12,u 13,u 14,u 15,u 16,u 17,u 18,u 19,u 20,u 21,u 22,u 23,u 24,u 25,u 26,u 27,u 28,u 29,u 30,u 31,u 32,u 33,u 34,u 35,u 36,u 37],[]⟩
def FY(b c d:Nat)(a:é):Prop:=∃u,a=FX b c d u
section
variable{cp:Nat}{l:List Nat}{junk:List Ç}
def anE(c:n=1)(u:Nat->Ç)(d:∀a,FY b n cp a->H a w): Î À Jz (Exit.then K<|QQ H) (FX b n cp u) w:=by
 unfold FX;conv=>arg 2;whnf
 subst c;go_wp2_with fail;exact d _ (gh _)
def anF(u:Nat->Ç)(g:sw l)(h:l.length=n)(j:2*i=n)(s:0<i)(m:n<=16)(t:n<=cp)(d:ff b (kz l++junk) T w) (o:∀a e,FY b i cp a->e8 (λk=>k=b) w e->ff b (kz (jO l i)++junk) T e->K a e): Î À Jz (Exit.then K<|QQ H) (FX b n cp u) w:=by
 have L:∀a,Dq b n cp i (0:Nat) a->Î À (à JA) (Q2<|IE b n cp i T l junk w) a w:=λa p=>anD g h j m d p;unfold FX;conv=>arg 2;whnf
 have x:(n:Int).tdiv 2=(i:Int):=by rw[Int.tdiv_eq_ediv_of_nonneg Z];omega
 have y:(0:Int)<=(i:Int):=Z
 have z:(i:Int)<=(cp:Int):=Z
 have c:=fc<|Á L o;go_wp2_with fail;refine Ý ?_ (c.out.1 _ (gh _));rintro(_|(_|_|_|_)|_|_|_|_) a v hq;all_goals first|exact absurd hq id|skip
 let⟨q,r,d⟩:=hq;obtain⟨u,rfl⟩:=q;unfold vI;have f:=fc<|Á r d;go_wp2_with fail;exact c.out.2 _ _ (gh _) f.out.1 f.out.2
def OI(b cp:Nat)(T:ô)(c:É)(d:Nat)(a:é)(w:É):Prop:=
 ∃(k:Nat) (l:List Nat) (junk:List Ç),FY b l.length cp a/\l.length=2^k/\l.length<=16/\l.length<=cp/\sw l/\e8 (λk=>k=b) c w/\ff b (kz l++junk) T w/\sx k l=d
def OE(b cp:Nat)(c:É)(d:Nat)(a:é)(w:É):Prop:=FY b 1 cp a/\1<=cp/\e8 (λk=>k=b) c w/\w.cell? ⟨b,0,Ä⟩=Ã (Â Æ d)
def xY(a:é)(_:É):Nat:=match a.tmps.getD 0 Ă with
 |Ê _ n _=>n
 |_=>0
def JD(c:FY b n cp y):xY y w=n:=by obtain⟨u,rfl⟩:=c;rfl
def anG(a:é)(w:É)(r:OI b cp T u i a w): Î À Jz (Exit.then (λc d=>OI b cp T u i c d/\xY c d<xY a w)<|QQ<|OE b cp u i) a w:=by
 let⟨k,l,junk,g,h,s,t,v,j,m,n⟩:=r;rw[JD g];obtain⟨c,rfl⟩:=g;cases k with
 |zero=>
  have e:=h;have f:w.cell? ⟨b,0,Ä⟩=Ã (Â Æ<|l.getD 0 0):=m.r 0 _ (by rw[ç (by simp[kz];omega)];exact JC _ _ _<|by rw[Ĳ,Ô Z];rfl);have o:l.getD 0 0=i:=n;rw[o]at f;refine anE e c λa q=>⟨by rwa[e]at q,Z,j,f⟩
 |succ k=>
  have x:2*2^k=l.length:=by rw[h,Nat.pow_succ];omega
  have y:0<2^k:=Nat.pow_pos Z;have f:l.length/2=2^k:=Z
  have o:(uS l).length=2^k:=by simp[uS,f]
  refine anF c v U x y s t m λa d q z p=>⟨⟨k,uS l,kz (l.drop<|l.length/2)++junk,by rwa[o],o,Z,Z,aak l,j.fe z,?_,n⟩,by rw[JD q];omega⟩;have e:=anz l;rw[f]at e;rw[e]at p;rw[f,<-Ċ];simpa[kz]using p
end
def aam{cp:Nat}{l:List Nat}{junk:List Ç}(c:l.length=2^k)(d:l.length<=16)(f:l.length<=cp)(g:sw l)(h:ff b (kz l++junk) T w): Ò À 162 #[Ê (Ã ⟨b,0,Ä⟩) l.length cp] w λe a=>e=È (Â Æ<|sx k l)/\e8 (λi=>i=b) w a:=by
 have L:∀a,FY b l.length cp a->Î À (à Jz) (QQ<|OE b cp w<|sx k l) a w:=λa e=>
  ĉ (OI b cp T w<|sx k l) xY ⟨k,l,junk,e,c,d,f,g,e8.fU _ _,h,U⟩ anG
 generalize sx k l=r at*;generalize l.length=n at*;go_enter Tryz.func162,Tryz.ntmps162;go_wp2_with fail;refine Ý ?_ ((fc L).out _ (gh _));rintro(_|(_|_)|_|_|_|_) a v hq;all_goals first|exact absurd hq id|skip
 let⟨i,j,m,o⟩:=hq;obtain⟨u,rfl⟩:=i;unfold FX;go_wp2_with fail;go_ret;simp_all
def anH:À.underlying 118=Ã (.array 16 36):=fp
def anI(w:É)(c:i<16)(e:d[i]?=Ã (Â Æ h)):(Κ 118 (Ē d)<|Â Ë (i:Int)).run À w=χ (Â Æ h) w:=by
 have a:(0:Int)<=(i:Int):=Z
 have b:(i:Int)<16:=Z
 simp[Κ,ř anH,asIntOf,go_sem,a,b];go_simp
noncomputable def JF:ŏ:=(bg.body.bind kt).getD Ķ
def FZ(c o b:Nat)(a:Array Ç)(i:Int)(u:Nat->Ç):é:=⟨#[Å<|Ã ⟨c,o,Ä⟩,u 1,u 2,Å<|Ã ⟨b,0,Ä⟩,u 4,u 5,u 6,u 7,u 8,u 9,u 10,Ē a,Â Ë i,u 13,u 14,u 15,u 16,u 17,u 18,u 19,u 20,u 21,u 22,u 23,u 24,u 25,u 26,u 27,u 28,u 29,u 30,u 31,u 32,u 33,u 34,u 35,u 36,u 37,u 38,u 39,u 40,u 41,u 42,u 43,u 44,u 45,u 46,u 47],[]⟩
def Dr(d o b:Nat)(c:Array Ç)(i:Int)(a:é):Prop:=∃u,a=FZ d o b c i u
section
variable{X:é->É->Prop}
def anJ(u:Nat->Ç)(c:∀a,Dr n i b d 16 a->X a w): Î À JF (Exit.then K<|QQ X) (FZ n i b d 16 u) w:=by
 unfold FZ;conv=>arg 2;whnf
 go_wp2_with fail
 exact c _ (gh _)
def anK(c p z:Nat)(j:oB 14695981039346656037 p=z)(k:c<16)(l:p<18446744073709551616)(f:d[c]?=Ã (Â Æ p))(g:∃v,w.cell? ⟨b,c,Ä⟩=Ã v)(o:w.frozen? ⟨b,c,Ä⟩=Ï)(u:Nat->Ç) (h:∀a,Dr n i b d ((c+1:Nat):Int) a->K a (w.setCell ⟨b,c,Ä⟩<|Â Æ z)): Î À JF (Exit.then K<|QQ X) (FZ n i b d c u) w:=by
 unfold FZ;conv=>arg 2;whnf
 let⟨q,g⟩:=g;have r:=λW=>anI W k f;have m:=fc h;clear h f;go_wp2_with (go_at_call 177;refine(Jx 14695981039346656037 p Z l _).mono ?_;rintro e s ⟨rfl,rfl⟩;rw[j]);exact m.out _ (gh _)
def lf(x:Nat):Nat:=oB 14695981039346656037 x
theorem Ns(x:Nat):lf x<18446744073709551616:=FW _ _ Z
def aan(x:Nat):oB 14695981039346656037 x=lf x:=by unfold lf;exact Eq.refl _
def oC(l:List Nat)(i:Nat):List Nat:=(ċ 16).map λt=>if t<i then lf (l.getD t 0)else 0
theorem JG(l:List Nat)(i:Nat):(oC l i).length=16:=by simp[oC]
theorem aao(l:List Nat)(i t:Nat)(h:t<16):(oC l i)[t]?=Ã (if t<i then lf (l.getD t 0)else 0):=by simp[oC,û h]
theorem anL(l:List Nat)(i:Nat)(h:i<16):(oC l i).set i (lf<|l.getD i 0)=oC l (i+1):=by refine þ λt=> ?_;grind [aao,JG,ĕ]
def aap(l:List Nat):sw (oC l 16):=Nq Z λx a=>by
 unfold oC at a;obtain⟨t,_,rfl⟩:=ņ.1 a;split
 .exact Ns _
 .omega
def AI(n i b:Nat)(l:List Nat)(d:É)(a:é)(w:É):Prop:=
 ∃c:Nat,Dr n i b (kz l).toArray c a/\c<=16/\e8 (λk=>k=b) d w/\ff b (kz<|oC l c) 118 w
def AE(n i b:Nat)(l:List Nat)(c:É)(a:é)(w:É):Prop:=
 Dr n i b (kz l).toArray 16 a/\e8 (λk=>k=b) c w/\ff b (kz<|oC l 16) 118 w
def Nt(a:é)(_:É):Nat:=match a.tmps.getD 12 Ă with
 |Â _ i=>16-i.toNat
 |_=>0
def aaq(c:Dr n i b d j y):Nt y w=16-j:=by obtain⟨u,rfl⟩:=c;show 16-(j:Int).toNat=_;simp
theorem anM(h:sw jJ)(p:jJ.length=16)(a:é)(w:É)(j:AI n i b jJ u a w): Î À JF (Exit.then (λc d=>AI n i b jJ u c d/\Nt c d<Nt a w)<|QQ<|AE n i b jJ u) a w:=by
 let⟨c,f,r,g,e⟩:=j;rw[aaq f];obtain⟨d,rfl⟩:=f;by_cases m:c=16
 .subst m;exact anJ d λa q=>⟨q,g,e⟩
 .have o:(kz jJ).toArray[c]?=Ã (Â Æ<|jJ.getD c 0):=by
   grind [JC]
  refine anK c (jJ.getD c 0) (lf<|jJ.getD c 0) (aan _) Z (h _) o ⟨_,(e.r c _<|JC _ _ _<|by rw[aao jJ c c Z,if_neg Z])⟩ (e.C c) d λa q=>⟨⟨c+1,q,Z,g.fe (e8.I (X:=λk=>k=b) U _),?_⟩,by rw[aaq q];omega⟩;rw[<-anL jJ c Z,TC];exact e.fP c<|Â Æ<|lf<|jJ.getD c 0
def anN{l:List Nat}(c:sw l)(d:l.length=16)(e:ff b (kz<|oC l 0) 118 w)(f:Dr n i b (kz l).toArray (0:Nat) y): Î À (à JF) (QQ<|AE n i b l w) y w:= ĉ (AI n i b l w) Nt ⟨0,f,â _,e8.fU _ _,e⟩<|anM c d
end
def Ds:ŏ->List ŏ
 |à c=>[c]
 |.seq a b=>Ds a++Ds b
 |.block _ c=>Ds c
 |.scope c=>Ds c
 |.cond _ a b=>Ds a++Ds b
 |_=>[]
noncomputable def JH:ŏ:=((bg.body.map Ds).getD []).getD 1 Ķ
def F0(a o:Nat)(P:ByteArray)(n:Nat)(i:Int)(u:Nat->Ç):é:=⟨#[Å<|Ã ⟨a,o,Ä⟩,u 1,u 2,u 3,u 4,u 5,Â Æ n,u 7,u 8,u 9,u 10,u 11,u 12,u 13,u 14,u 15,u 16,u 17,u 18,u 19,u 20,u 21,u 22,u 23,u 24,u 25,u 26,u 27,u 28,u 29,u 30,u 31,u 32,u 33,Â Ë P.size,Â Ë i,u 36,u 37,u 38,u 39,u 40,u 41,u 42,u 43,u 44,u 45,u 46,u 47],[]⟩
def Dt(b o:Nat)(P:ByteArray)(n:Nat)(i:Int)(a:é):Prop:=∃u,a=F0 b o P n i u
def zR(n:Nat)(l:List UInt8):Nat:=l.foldl (λn c=>tb n c.toNat) n
def anO(b:Nat)(c:Int)(d:c=B.size)(u:Nat->Ç)(e:∀a,Dt n i B b c a->H a w): Î À JH (Exit.then K<|Q2 H) (F0 n i B b c u) w:=by
 unfold F0;conv=>arg 2;whnf
 subst d;go_wp2_with fail;exact e _ (gh _)
def anP{B:ByteArray}{c:UInt8}(w:É)(a:B.data.toList[i]?=Ã c):(Κ 9 (Í B)<|Â Ë (i:Int)).run À w=χ (Â aW (c.toNat:Nat)) w:=by
 have e:(0:Int)<=(i:Int):=Z
 let⟨b,d⟩:=Ü.1 a;have f:i<B.size:=by simpa using b
 have g:B[i]=c:=by rw[<-d];exact(Array.getElem_toList _).symm
 go_simp
def anQ(b d z:Nat)(c:UInt8)(g:tb b c.toNat=z)(l:d<B.size)(m:B.size<=1000000)(k:b<18446744073709551616)(h:B.data.toList[d]?=Ã c)(o:w.cell? ⟨n,i+1,Ä⟩=Ã (Í B))(u:Nat->Ç) (j:∀a,Dt n i B z ((d+1:Nat):Int) a->K a w): Î À JH (Exit.then K<|Q2 H) (F0 n i B b d u) w:=by
 unfold F0;conv=>arg 2;whnf
 have p:(0:Int)<=(d:Int):=Z
 have q:(d:Int)<(B.size:Int):=Z
 have r:(B.size:Int)<=1000000:=Z
 have s:=λW=>anP W h;have t:=c.toNat_lt;have T:=aah b c.toNat k Z w;rw[g]at T;generalize c.toNat=cn at*;have f:=fc<|Á T j;clear j T h g;go_wp2_with (go_at_call 178;apply f.out.1.mono;rintro e v ⟨rfl,rfl⟩);exact f.out.2 _ (gh _)
def BI(n i:Nat)(B:ByteArray)(d:É)(e:Nat)(a:é)(w:É):Prop:=
 ∃b c:Nat,Dt n i B b c a/\c<=B.size/\b<18446744073709551616/\w=d/\zR b (B.data.toList.drop c)=e
def BE(n i:Nat)(B:ByteArray)(b:É)(c:Nat)(a:é)(w:É):Prop:=Dt n i B c B.size a/\w=b
def Nu(m:Nat)(a:é)(_:É):Nat:=match a.tmps.getD 35 Ă with
 |Â _ i=>m-i.toNat
 |_=>0
def aar(c:Dt n i B j b y):Nu m y w=m-b:=by obtain⟨u,rfl⟩:=c;show m-(b:Int).toNat=_;simp
def anR(h:B.size<=1000000)(k:u.cell? ⟨n,i+1,Ä⟩=Ã (Í B))(a:é)(w:É)(l:BI n i B u j a w): Î À JH (Exit.then (λb c=>BI n i B u j b c/\Nu B.size b c<Nu B.size a w)<|Q2<|BE n i B u j) a w:=by
 obtain⟨b,c,f,p,m,rfl,e⟩:=l;rw[aar f];obtain⟨d,rfl⟩:=f;have r:B.data.toList.length=B.size:=fi
 by_cases o:c=B.size
 .rw[ę Z]at e;subst e;exact anO b c Z d λa q=>⟨by rwa[o]at q,U⟩
 .have g:c<B.data.toList.length:=Z
  rw[ē g]at e;refine anQ b c (tb b (B.data.toList[c]).toNat) (B.data.toList[c]) (Eq.refl _) Z h m (Ô g) k d λa q=>⟨⟨_,c+1,q,Z,Nl _ _,U,e⟩,by rw[aar q];omega⟩
def anS(b:B.size<=1000000)(c:j<18446744073709551616)(d:w.cell? ⟨n,i+1,Ä⟩=Ã (Í B))(e:Dt n i B j (0:Nat) y): Î À (à JH) (Q2<|BE n i B w<|zR j B.data.toList) y w:= ĉ (BI n i B w<|zR j B.data.toList) (Nu B.size) ⟨j,0,e,â _,c,U,U⟩<|anR b d
abbrev zA:List Ç:=[Â Æ 0,Â Æ 0,Â Æ 0,Â Æ 0,Â Æ 0,Â Æ 0,Â Æ 0,Â Æ 0,Â Æ 0,Â Æ 0,Â Æ 0,Â Æ 0,Â Æ 0,Â Æ 0,Â Æ 0,Â Æ 0]
def Du(B:Nat)(P:ByteArray)(a:List Nat):Nat:=zR (oB (lf B)<|sx 4<|oC a 16) P.data.toList
def TD:∀(k:Nat) (l:List Nat),sw l->sx k l<18446744073709551616
 |0,_,h=>h 0
 |k+1,l,_=>TD k (uS l)<|aak l
def anT(l:List Nat):kz (oC l 0)=zA:=by rfl
def anU{P:ByteArray}(d f g p r s x y z C D E F G I J:Nat)(Y:(kz jJ).toArray=#[Â Æ d,Â Æ f,Â Æ g,Â Æ p,Â Æ r,Â Æ s,Â Æ x,Â Æ y,Â Æ z,Â Æ C,Â Æ D,Â Æ E,Â Æ F,Â Æ G,Â Æ I,Â Æ J])(hl:jJ.length=16)(hB:m<18446744073709551616)(hP:P.size<=1000000)(hs:sw jJ) (K:w.cell? ⟨n,j,Ä⟩=Ã (Â Æ m)) (c1:w.cell? ⟨n,j+1,Ä⟩=Ã (Í P)) (r0:w.cell? ⟨n,j+2,Ä⟩=Ã (Â Æ d)) (r1:w.cell? ⟨n,j+2+1,Ä⟩=Ã (Â Æ f)) (r2:w.cell? ⟨n,j+2+2,Ä⟩=Ã (Â Æ g)) (r3:w.cell? ⟨n,j+2+3,Ä⟩=Ã (Â Æ p)) (r4:w.cell? ⟨n,j+2+4,Ä⟩=Ã (Â Æ r)) (r5:w.cell? ⟨n,j+2+5,Ä⟩=Ã (Â Æ s)) (r6:w.cell? ⟨n,j+2+6,Ä⟩=Ã (Â Æ x)) (r7:w.cell? ⟨n,j+2+7,Ä⟩=Ã (Â Æ y)) (r8:w.cell? ⟨n,j+2+8,Ä⟩=Ã (Â Æ z)) (r9:w.cell? ⟨n,j+2+9,Ä⟩=Ã (Â Æ C)) (r10:w.cell? ⟨n,j+2+10,Ä⟩=Ã (Â Æ D)) (r11:w.cell? ⟨n,j+2+11,Ä⟩=Ã (Â Æ E)) (r12:w.cell? ⟨n,j+2+12,Ä⟩=Ã (Â Æ F)) (r13:w.cell? ⟨n,j+2+13,Ä⟩=Ã (Â Æ G)) (r14:w.cell? ⟨n,j+2+14,Ä⟩=Ã (Â Æ I)) (r15:w.cell? ⟨n,j+2+15,Ä⟩=Ã (Â Æ J)): Ò À 161 #[Å<|Ã ⟨n,j,Ä⟩] w λe c=>e=È (Â Æ<|Du m P jJ)/\e8 (λ_=>False) w c:=by
 have gI:=á w _ K;have L1:∀a,Dr n j w.heap.size #[Â Æ d,Â Æ f,Â Æ g,Â Æ p,Â Æ r,Â Æ s,Â Æ x,Â Æ y,Â Æ z,Â Æ C,Â Æ D,Â Æ E,Â Æ F,Â Æ G,Â Æ I,Â Æ J] (0:Nat) a->Î À (à JF) (QQ<|AE n j w.heap.size jJ<|w.alloc<|Ð zA.toArray 118) a (w.alloc<|Ð zA.toArray 118):=λa L=>
  anN hs hl (by rw[anT];exact ff.N w zA 118)<|by rwa[Y]
 have M:∀W,ff w.heap.size (kz<|oC jJ 16) 118 W->Ò À 162 #[Ê (Ã ⟨w.heap.size,0,Ä⟩) 16 16] W λe c=>e=È (Â Æ<|sx 4<|oC jJ 16)/\e8 (λi=>i=w.heap.size) W c:=λW hW=>by have t:=aam (w:=W) (b:=w.heap.size) (cp:=16) (k:=4) (T:=118) (l:=oC jJ 16) (junk:=[]) (by rw[JG]) (by rw[JG];omega) (by rw[JG];omega) (aap jJ) (by rwa[ò]);rwa[JG]at t
 have N:=TD 4 (oC jJ 16)<|aap jJ;obtain⟨t,O⟩:∃t,sx 4 (oC jJ 16)=t:=⟨_,U⟩;have hac:Du m P jJ=zR (oB (lf m) t) P.data.toList:=by unfold Du;rw[O]
 rw[hac];rw[O]at M N;have L2:∀W a,W.cell? ⟨n,j+1,Ä⟩=Ã (Í P)->Dt n j P (oB (lf m) t) (0:Nat) a->Î À (à JH) (Q2<|BE n j P W<|zR (oB (lf m) t) P.data.toList) a W:=λW a h L=>
  anS hP (FW _ _<|Ns m) h L
 have C1:∀W,Ò À 177 #[Â Æ 14695981039346656037,Â Æ m] W λe c=>e=È (Â Æ<|lf m)/\c=W:=λW=>by rw[<-aan];exact Jx 14695981039346656037 m Z hB W
 have C2:∀W,Ò À 177 #[Â Æ<|lf m,Â Æ t] W λe c=>e=È (Â Æ<|oB (lf m) t)/\c=W:=λW=>Jx (lf m) t (Ns m) N W;have H:=fc<|Á K<|Á c1<|Á L1<|Á M<|Á L2<|Á C1 C2;clear L1 M L2 C1 C2 hac O N hs K c1 Y;generalize zR (oB (lf m) t) P.data.toList=res at*;generalize oB (lf m) t=n2 at*;generalize lf m=n1 at*;go_enter Tryz.func161,Tryz.ntmps161;go_wp2_with fail;refine Ý (Q:=QQ<|AE n j w.heap.size jJ<|w.alloc<|Ð zA.toArray 118) ?_ (H.out.2.2.1 _ (gh _));rintro(_|(_|_)|_|_|_|_) a v hq;all_goals first|exact absurd hq id|skip
 let⟨S,hk,hBv⟩:=hq;have V:e8 (λ_=>False) w v:=(e8.gE (λ_=>False) w zA.toArray 118).C hk λi hi q=>by omega
 have g0:=V.r H.out.1 id;obtain⟨u,rfl⟩:=S;unfold FZ;have HV:=fc<|Á V hBv;clear V hBv hk r0 r1 r2 r3 r4 r5 r6 r7 r8 r9 r10 r11 r12 r13 r14 r15;go_wp2_with (first
  |(go_at_call 162;refine(H.out.2.2.2.1 _ HV.out.2).mono ?_;rintro e w2 ⟨rfl,ze⟩;have X:=HV.out.1.C ze (λi hi q=>by omega);have g1:=X.r H.out.2.1 id;have HK:=fc X;clear ze X)
  |(go_at_call 177;with_reducible refine(H.out.2.2.2.2.2.2 _).mono ?_;rintro e X ⟨rfl,rfl⟩)
  |(go_at_call 177;refine(H.out.2.2.2.2.2.1 _).mono ?_;rintro e X ⟨rfl,rfl⟩))
 refine Ý (Q:=Q2<|BE n j P _ res) ?_ (H.out.2.2.2.2.1 _ _ g1 (gh _));rintro(_|(_|_|_|_)|_|_|_|_) a v2 hq;all_goals first|exact absurd hq id|skip
 obtain⟨S,rfl⟩:=hq;obtain⟨u,rfl⟩:=S;unfold F0;go_wp2_with fail;go_ret;exact⟨U,HK.out⟩
def anV{P:ByteArray}(c:j<18446744073709551616)(d:P.size<=1000000)(f:jJ.length=16)(g:sw jJ) (h:w.cell? ⟨i,n,Ä⟩=Ã (Â Æ j)) (k:w.cell? ⟨i,n+1,Ä⟩=Ã (Í P)) (b:∀(a x:Nat),jJ[a]?=Ã x->w.cell? ⟨i,n+2+a,Ä⟩=Ã (Â Æ x)): Ò À 161 #[Å<|Ã ⟨i,n,Ä⟩] w λe l=>e=È (Â Æ<|Du j P jJ)/\e8 (λ_=>False) w l:=by
 match jJ,f with
 |[a0,a1,a2,a3,a4,a5,a6,a7,a8,a9,a10,a11,a12,a13,a14,a15],_=>exact anU a0 a1 a2 a3 a4 a5 a6 a7 a8 a9 a10 a11 a12 a13 a14 a15 fM fM c d g h k (b 0 a0 U) (b 1 a1 U) (b 2 a2 U) (b 3 a3 U) (b 4 a4 U) (b 5 a5 U) (b 6 a6 U) (b 7 a7 U) (b 8 a8 U) (b 9 a9 U) (b 10 a10 U) (b 11 a11 U) (b 12 a12 U) (b 13 a13 U) (b 14 a14 U)<|b 15 a15 U
abbrev zB:List Ç:=[Â Æ 0,Â Æ 0,Â Æ 0,Â Æ 0,Â Æ 0,Â Æ 0,Â Æ 0,Â Æ 0]
noncomputable def Nv:ŏ:=(Tryz.f122.body.bind kt).getD Ķ
def F1(a b:Nat)(i:Int)(u:Nat->Ç):é:=⟨#[Å<|Ã ⟨a,0,Ä⟩,u 1,u 2,Å<|Ã ⟨b,0,Ä⟩,u 4,Â Ë i,u 6,u 7,u 8,u 9,u 10,u 11,u 12,u 13,u 14,u 15,u 16,u 17],[]⟩
def F2(c b:Nat)(i:Int)(a:é):Prop:=∃u,a=F1 c b i u
section
variable{X:é->É->Prop}
def anW(u:Nat->Ç)(c:∀a,F2 i b 8 a->X a w): Î À Nv (Exit.then K<|QQ X) (F1 i b 8 u) w:=by
 unfold F1;conv=>arg 2;whnf
 go_wp2_with fail
 exact c _ (gh _)
def anX(c z:Nat)(o:c<8)(T:Ò À 161 #[Å<|Ã ⟨i,c*18,Ä⟩] w λe j=>e=È (Â Æ z)/\e8 (λ_=>False) w j)(g:List Ç)(h:Ç)(k:g[c]?=Ã h)(l:ff b g 116 w)(u:Nat->Ç) (m:∀a f,F2 i b ((c+1:Nat):Int) a->e8 (λ_=>False) w f->K a (f.setCell ⟨b,c,Ä⟩<|Â Æ z)): Î À Nv (Exit.then K<|QQ X) (F1 i b c u) w:=by
 unfold F1;conv=>arg 2;whnf
 have H:=fc<|Á T<|Á m l;go_wp2_with (go_at_call 161;apply H.out.1.mono;rintro e f ⟨rfl,d⟩;have p:=(H.out.2.2.I d id).r c h k;have q:=(H.out.2.2.I d id).C c;have n:=fc d;clear d);exact H.out.2.1 _ _ (gh _) n.out
def qF(D:Nat->Nat)(i:Nat):List Nat:=(ċ 8).map λt=>if t<i then D t else 0
theorem JJ(D:Nat->Nat)(i:Nat):(qF D i).length=8:=by simp[qF]
theorem aas(D:Nat->Nat)(i t:Nat)(h:t<8):(qF D i)[t]?=Ã (if t<i then D t else 0):=by simp[qF,û h]
theorem anY(D:Nat->Nat)(i:Nat)(h:i<8):(qF D i).set i (D i)=qF D (i+1):=by refine þ λt=> ?_;grind [aas,JJ,ĕ]
def aat(b:∀i,D i<18446744073709551616):sw (qF D 8):=Nq Z λx a=>by
 unfold qF at a;obtain⟨t,_,rfl⟩:=ņ.1 a;split
 .exact b _
 .omega
def anZ(D:Nat->Nat):kz (qF D 0)=zB:=by rfl
def DI(i b:Nat)(D:Nat->Nat)(d:É)(a:é)(w:É):Prop:=
 ∃c:Nat,F2 i b c a/\c<=8/\e8 (λk=>k=b) d w/\ff b (kz<|qF D c) 116 w
def DE(i b:Nat)(D:Nat->Nat)(c:É)(a:é)(w:É):Prop:=
 F2 i b 8 a/\e8 (λk=>k=b) c w/\ff b (kz<|qF D 8) 116 w
def Nw(a:é)(_:É):Nat:=match a.tmps.getD 5 Ă with
 |Â _ i=>8-i.toNat
 |_=>0
def aau(c:F2 i b n y):Nw y w=8-n:=by obtain⟨u,rfl⟩:=c;show 8-(n:Int).toNat=_;simp
def an0(C:∀c,c<8->∀W,e8 (λk=>k=b) u W->Ò À 161 #[Å<|Ã ⟨i,c*18,Ä⟩] W λe f=>e=È (Â Æ<|D c)/\e8 (λ_=>False) W f)(a:é)(w:É)(m:DI i b D u a w): Î À Nv (Exit.then (λd f=>DI i b D u d f/\Nw d f<Nw a w)<|QQ<|DE i b D u) a w:=by
 let⟨c,j,o,g,h⟩:=m;rw[aau j];obtain⟨d,rfl⟩:=j;by_cases n:c=8
 .subst n;exact anW d λa q=>⟨q,g,h⟩
 .refine anX c (D c) Z (C c Z w g) _ _ (JC _ _ _<|by rw[aas D c c Z,if_neg Z]) h d λa p q l=>⟨⟨c+1,q,Z,(g.fe<|l.S λ_ _=>Ě).fe (e8.I (X:=λk=>k=b) U _),?_⟩,by rw[aau q];omega⟩;rw[<-anY D c Z,TC];exact(h.I l id).fP c<|Â Æ<|D c
end
def Nx(D:Nat->Nat):Nat:=sx 3<|qF D 8
def an1(h:∀b,D b<18446744073709551616)(C:∀b,b<8->∀W,e8 (λk=>k=w.heap.size) (w.alloc<|Ð zB.toArray 116) W->Ò À 161 #[Å<|Ã ⟨i,b*18,Ä⟩] W λe c=>e=È (Â Æ<|D b)/\e8 (λ_=>False) W c): Ò À 122 #[Å<|Ã ⟨i,0,Ä⟩] w λe c=>e=È (Â Æ<|Nx D)/\e8 (λ_=>False) w c:=by
 have L:∀a,F2 i w.heap.size (0:Nat) a->Î À (à Nv) (QQ<|DE i w.heap.size D<|w.alloc<|Ð zB.toArray 116) a (w.alloc<|Ð zB.toArray 116):=λa j=>
  ĉ (DI i w.heap.size D<|w.alloc<|Ð zB.toArray 116) Nw ⟨0,j,â _,e8.fU _ _,by rw[anZ];exact ff.N w zB 116⟩<|an0 C
 have T:∀W,ff w.heap.size (kz<|qF D 8) 116 W->Ò À 162 #[Ê (Ã ⟨w.heap.size,0,Ä⟩) 8 8] W λe c=>e=È (Â Æ<|sx 3<|qF D 8)/\e8 (λb=>b=w.heap.size) W c:=λW l=>by have t:=aam (cp:=8) (k:=3) (by rw[JJ]) (by rw[JJ];omega) (by rw[JJ];omega) (aat h) (by rwa[ò]);rwa[JJ]at t
 unfold Nx;have H:=fc<|Á L T;generalize sx 3 (qF D 8)=t at*;go_enter Tryz.func122,Tryz.ntmps122;go_wp2_with fail;refine Ý (Q:=QQ<|DE i w.heap.size D<|w.alloc<|Ð zB.toArray 116) ?_ (H.out.1 _ (gh _));rintro(_|(_|_)|_|_|_|_) a v hq;all_goals first|exact absurd hq id|skip
 let⟨m,n,o⟩:=hq;have p:=(e8.gE (λ_=>False) w zB.toArray 116).C n λb r q=>by omega
 obtain⟨u,rfl⟩:=m;unfold F1;have d:=fc<|Á p o;go_wp2_with (go_at_call 162;refine(H.out.2 _ d.out.2).mono ?_;rintro e x ⟨rfl,f⟩;have g:=d.out.1.C f (λb r q=>by omega);have s:=fc g;clear f g);go_ret;exact⟨U,s.out⟩
def JK(a:Je):List Nat:=(ċ 16).map λj=>(a.C j).toNat
def aav(a:Je):Nat:=Du a.fu.toNat a.r<|JK a
def xZ(s:St):Nat:=Nx λi=>aav<|s i
theorem an2(l:List UInt8):∀n,n<18446744073709551616->zR n l<18446744073709551616:=by
 induction l with
 |nil=>exact λn h=>h
 |cons c r h=>exact λn _=>h _<|Nl _ _
theorem aaw(B:Nat)(P:ByteArray)(a:List Nat):Du B P a<18446744073709551616:=by unfold Du;grind [an2,FW,Ns]
def TF(s:St)(h:i<144):(iu s)[i]?=Ã (qA s i):=by simp[iu,û h]
def my.an3{s:St}(m:my n s h W)(a:gH s)(i:Nat)(f:i<8): Ò À 161 #[Å<|Ã ⟨n,i*18,Ä⟩] W λe b=>e=È (Â Æ<|aav<|s i)/\e8 (λ_=>False) W b:=by
 have g:=λj d=>by have:=m.C j _<|TF s d;simpa using this
 have b:=a.fu i;have k:=g (i*18) Z;have l:=g (i*18+1) Z;rw[<-ry s (Ê Ä 0 0) Z,Jg _ _ f]at k;rw[<-ry s (Ê Ä 0 0) Z,M3 _ _ f]at l;refine anV (by have e:=b.1;have c:=b.2;omega) (by have:=(a.I i).1;omega) (by simp[JK]) ?_ ?_ l ?_
 .refine Nq Z λx e=> ?_;unfold JK at e;obtain⟨t,_,rfl⟩:=ņ.1 e;have c:=(a.C i t).2;omega
 .rw[k];unfold qz;rw[Ĕ b.1]
 .intro j x e;have d:j<16:=by have:=(Ü.1 e).1;simpa[JK]using this
  have c:=g (i*18+2+j) Z;rw[<-ry s (Ê Ä 0 0) Z,M4 _ _ f d]at c;have t:((s i).C j).toNat=x:=by simpa[JK,û d]using e
  rw[c,<-t];unfold qz;rw[Ĕ (a.C i j).1]
def an4{s:St}(b:my i s h w)(c:gH s): Ò À 122 #[Å<|Ã ⟨i,0,Ä⟩] w λe d=>e=È (Â Æ<|xZ s)/\e8 (λ_=>False) w d:=an1 (λa=>aaw _ _ _) λa f W k=>((b.r (e8.gE (λ_=>False) w _ _) id).r k<|by show i≠w.heap.size;exact Nat.ne_of_lt<|á w _ b.h).an3 c a f
def kj(i:Nat):St:=λj=>⟨if j<i then 1000 else 0,⟨#[]⟩,λ_=>0⟩
theorem an5(i:Nat):kj (i+1)=(kj i).fu i 1000:=by funext j;unfold kj St.fu St.fP;grind
theorem an6(s:St)(a:i<8)(x:Int):(iu s).set (i*18) (Â Æ x)=iu (s.fu i x):=by have h:=w_ s (Ê Ä 0 0) a x;rw[zO,zO,ğ _ _ (by rw[su];omega)]at h;exact List.append_cancel_right h
def an7(s:St)(a:i<8):(iu s)[i*18]?=Ã (Â Æ (s i).fu):=by rw[TF s Z,<-ry s (Ê Ä 0 0) Z,Jg _ _ a];rfl
noncomputable def Ny:ŏ:=(Tryz.f60.body.bind kt).getD Ķ
def F3(r b:Nat)(i:Int)(u:Nat->Ç):é:=⟨#[Å<|Ã ⟨r,0,Ä⟩,Å<|Ã ⟨b,0,Ä⟩,u 2,Â Ë i,u 4,u 5,u 6,u 7,u 8,u 9,u 10],[]⟩
def F4(r b:Nat)(i:Int)(a:é):Prop:=∃u,a=F3 r b i u
section
variable{X:é->É->Prop}
def an8(u:Nat->Ç)(c:∀a,F4 i b 8 a->X a w): Î À Ny (Exit.then K<|QQ X) (F3 i b 8 u) w:=by
 unfold F3;conv=>arg 2;whnf
 go_wp2_with fail
 exact c _ (gh _)
def an9(c:Nat)(g:c<8)(e:Ç)(h:w.cell? ⟨b,c*18,Ä⟩=Ã e)(j:w.frozen? ⟨b,c*18,Ä⟩=Ï)(u:Nat->Ç) (d:∀a,F4 i b ((c+1:Nat):Int) a->K a (w.setCell ⟨b,c*18,Ä⟩<|Â Æ 1000)): Î À Ny (Exit.then K<|QQ X) (F3 i b c u) w:=by
 unfold F3;conv=>arg 2;whnf
 have f:=fc d;clear d;go_wp2_with fail;exact f.out _ (gh _)
def TG(i b:Nat)(d:É)(a:é)(w:É):Prop:=∃c:Nat,F4 i b c a/\c<=8/\e8 (λk=>k=b) d w/\ff b (iu<|kj c) 140 w
def FE0(i b:Nat)(c:É)(a:é)(w:É):Prop:=F4 i b 8 a/\e8 (λk=>k=b) c w/\ff b (iu<|kj 8) 140 w
def Nz(a:é)(_:É):Nat:=match a.tmps.getD 3 Ă with
 |Â _ i=>8-i.toNat
 |_=>0
def aax(c:F4 i b n y):Nz y w=8-n:=by obtain⟨u,rfl⟩:=c;show 8-(n:Int).toNat=_;simp
theorem aoa(a:é)(w:É)(h:TG i b u a w): Î À Ny (Exit.then (λc d=>TG i b u c d/\Nz c d<Nz a w)<|QQ<|FE0 i b u) a w:=by
 let⟨c,f,l,g,e⟩:=h;rw[aax f];obtain⟨d,rfl⟩:=f;by_cases j:c=8
 .subst j;exact an8 d λa q=>⟨q,g,e⟩
 .refine an9 c Z _ (e.r _ _<|an7 _ Z) (e.C _) d λa q=>⟨⟨c+1,q,Z,g.fe (e8.I (X:=λk=>k=b) U _),?_⟩,by rw[aax q];omega⟩;have k:=e.fP (c*18)<|Â Æ 1000;grind [an6,an5]
end
def aob:(À.info? 140).map (λi=>(i.size,i.zero.map λz=>z.cells.toList))=Ã (144,Ã<|iu<|kj 0):=fp
def aoc(s:St):∀v∈iu s,v.oneCell'=Ú:=λv a=>Te s (lv:=Ê Ä 0 0) U v<|by rw[zO];exact œ _ a
def aod(w:É):Ò À 60 #[] w λe l=>e=È (Ē (iu<|kj 8).toArray)/\e8 (λ_=>False) w l:=by
 let⟨m,n,o⟩:=Ì.1 Tw;let⟨O,h,c⟩:=Ì.1 aob;simp only[Prod.mk.injEq]at c;let⟨p,r⟩:=c;let⟨t,x,y⟩:=Ì.1 r;have z:t.cells=(iu<|kj 0).toArray:=by rw[<-y]
 have B:∀s,(À.info? 140).map (·.size)=Ã (iu s).length:=λs=>by rw[h,su];simp[p]
 have L:∀W a,ff (w.heap.size+1) (iu<|kj 0) 140 W->F4 w.heap.size (w.heap.size+1) (0:Nat) a->Î À (à Ny) (QQ<|FE0 w.heap.size (w.heap.size+1) W) a W:=λW a f C=>
  ĉ (TG w.heap.size (w.heap.size+1) W) Nz ⟨0,C,â _,e8.fU _ _,f⟩ aoa
 have j:=e8.gE (λ_=>False) (w.alloc<|Ð (iu<|kj 0).toArray 140) (iu<|kj 0).toArray 140;have D:=(ff.N w (iu<|kj 0) 140).I j id;have E:ff (w.heap.size+1) (iu<|kj 0) 140 ((w.alloc<|Ð (iu<|kj 0).toArray 140).alloc<|Ð (iu<|kj 0).toArray 140):=by have:=ff.N (w.alloc<|Ð (iu<|kj 0).toArray 140) (iu<|kj 0) 140;simpa using this
 have b:=fc<|Á n<|Á o<|Á h<|Á x<|Á z B;have H:=fc (Á L<|Á ((e8.gE (λ_=>False) w (iu<|kj 0).toArray 140).fe j)<|Á D E);go_enter Tryz.func60,Tryz.ntmps60;go_wp2_with (first
  |(with_reducible refine ć U (Ã 0) U _ _ (Ta U b.out.2.2.1 b.out.2.2.2.1) ?_;rw[b.out.2.2.2.2.1])
  |(with_reducible refine ć U (Ã 1) U _ _ (Ta U b.out.2.2.1 b.out.2.2.2.1) ?_;rw[b.out.2.2.2.2.1]))
 refine Ý ?_ (H.out.1 _ _ H.out.2.2.2 (gh _));rintro(_|(_|_)|_|_|_|_) a v c;all_goals first|exact absurd c id|skip
 let⟨F,k,f⟩:=c;have g:=H.out.2.2.1.I k Z;obtain⟨u,rfl⟩:=F;unfold F3;have G:=ff.Y (by rw[ò];exact f);have I:v.there w.heap.size 0 (iu<|kj 8).toArray.size:=g.Tb (by simp[su]);have J:=Nd (iu<|kj 8) [] [] v (iu<|kj 0) (by rw[su,su]) (by simpa using g);have K:=(H.out.2.1.C k λi M q=>by omega).C (Jo (iu<|kj 8) 0 v g.G) λi M q=>by omega
 have d:=fc<|Á K<|Á J<|Á G I;go_wp2_with (first
  |(with_reducible refine Ė U 140 _ U (w.heap.size+1) 0 U (iu<|kj 8) m d.out.2.2.1 b.out.1 b.out.2.1 (b.out.2.2.2.2.2 _) ?_)
  |(with_reducible refine ľ U 140 _ _ U w.heap.size 0 (iu (kj 8)).toArray U U d.out.2.2.2 (by rw[b.out.2.2.2.2.2 (kj 8)];simp) (Ī (aoc _)) ?_))
 have N:ff w.heap.size (iu (kj 8)++[]) 140 (v.setCells w.heap.size 0<|iu<|kj 8):=by simpa using d.out.2.1
 refine ð (Tf U U (ff.Y N) b.out.1 b.out.2.1<|b.out.2.2.2.2.2 _) U<|⟨U,d.out.1⟩
structure fH where
 s:St
 r:List (Nat×Int)
 C:List (Int×Bool)
 h:Int
def zS(a:Ą)(k:Nat)(d:List Ç)(w:É):Prop:=
 ∃p c,w.cell? a=Ã (Ê p k c)/\∀(j:Nat) (x:Ç),d[j]?=Ã x->∃b o,p=Ã ⟨b,o,Ä⟩/\w.cell? ⟨b,o+j,Ä⟩=Ã x
def zS.r(h:zS a k l w)(q:e8 (λ_=>False) w u):zS a k l u:=by let⟨p,c,d,e⟩:=h;exact⟨p,c,q.r d id,λj x f=>by let⟨b,o,g,i⟩:=e j x f;exact⟨b,o,g,q.r i id⟩⟩
structure sy(b:Nat)(v:fH)(w:É):Prop where
 r:my b v.s v.h w
 C:gH v.s
 I:0<=v.h
 M:v.h<=40
 N:zS ⟨b,144,Ä⟩ v.r.length (kr v.r) w
 S:zS ⟨b,146,Ä⟩ v.C.length (uQ v.C) w
def sy.Y{v:fH}(h:sy b v w)(q:e8 (λ_=>False) w u):sy b v u:= ⟨h.r.r q id,h.C,h.I,h.M,h.N.r q,h.S.r q⟩
structure qG(bp:Option Ą)(n:Nat)(vs:List (Nat×fH))(w:É):Prop where
 r:n=vs.length
 C:∀(j b:Nat) (v:fH),vs[j]?=Ã (b,v)->∃sb so,bp=Ã ⟨sb,so,Ä⟩/\w.cell? ⟨sb,so+j,Ä⟩=Ã (Å<|Ã ⟨b,0,Ä⟩)/\sy b v w
def qG.I{a:List (Nat×fH)}(h:qG O n a w)(q:e8 (λ_=>False) w u):qG O n a u:= ⟨h.r,λj b v e=>by let⟨c,d,f,g,i⟩:=h.C j b v e;exact⟨c,d,f,q.r g id,i.Y q⟩⟩
def ya(a b:Nat×fH):Nat×fH:=if a.2.h<b.2.h then b else a
def tF(d:Nat×fH)(a:List (Nat×fH)):Nat×fH:=a.foldl ya d
noncomputable def NA:ŏ:=(Tryz.f153.body.bind kt).getD Ķ
def F5(a:Option Ą)(n b:Nat)(c:Nat)(i:Int)(u:Nat->Ç):é:=⟨#[Ê a n b,Ă,Å Ä,Å<|Ã ⟨c,0,Ä⟩,u 4,u 5,u 6,u 7,u 8,Ê a n b,Â Ë n,Â Ë i,u 12,u 13,u 14,u 15,u 16,u 17,u 18,u 19,u 20,u 21,u 22,u 23,u 24,u 25,u 26],[]⟩
def JL(b:Option Ą)(n c:Nat)(d:Nat)(i:Int)(a:é):Prop:=∃u,a=F5 b n c d i u
section
variable{X:é->É->Prop}{bp:Option Ą}{cp:Nat}
def aoe(u:Nat->Ç)(b:Int)(c:b=n)(d:∀a,JL bp n cp i b a->X a w): Î À NA (Exit.then K<|QQ X) (F5 bp n cp i b u) w:=by
 unfold F5;conv=>arg 2;whnf
 subst c;go_wp2_with fail;exact d _ (gh _)
def aof(u:Nat->Ç)(c:Int)(j:Nat)(o:c=j)(q:j<n)(r:n<=1000)(h k b:Nat)(p:bp=Ã ⟨h,k,Ä⟩)(s:w.cell? ⟨h,k+j,Ä⟩=Ã (Å<|Ã ⟨b,0,Ä⟩))(e f:Int)(t:w.cell? ⟨b,145,Ä⟩=Ã (Â Ë e))(v:w.cell? ⟨i,145,Ä⟩=Ã (Â Ë f)) (d:∀a m,JL bp n cp (if f<e then b else i) (c+1) a->K a (w.drewN m)): Î À NA (Exit.then K<|QQ X) (F5 bp n cp i c u) w:=by
 unfold F5;conv=>arg 2;whnf
 subst o p;by_cases l:f<e
 .rw[if_pos l]at d;have g:=fc d;clear d;go_wp2_with fail;go_quiet (fail);go_wp2_with fail;exact g.out _ _ (gh _)
 .rw[if_neg l]at d;have g:=fc d;clear d;go_wp2_with fail;go_quiet (fail);go_wp2_with fail;exact g.out _ _ (gh _)
def HI(bp:Option Ą)(n cp:Nat)(vs:List (Nat×fH))(b:É)(c:Nat×fH)(a:é)(w:É):Prop:=
 ∃(j:Nat) (d:Nat×fH),JL bp n cp d.1 j a/\j<=n/\e8 (λ_=>False) b w/\sy d.1 d.2 b/\tF d (vs.drop j)=c
def HE(bp:Option Ą)(n cp:Nat)(b:É)(c:Nat×fH)(a:é)(w:É):Prop:=JL bp n cp c.1 n a/\e8 (λ_=>False) b w
def TH(n:Nat)(a:é)(_:É):Nat:=match a.tmps.getD 11 Ă with
 |Â _ i=>n-i.toNat
 |_=>0
theorem aog{f:List (Nat×fH)}{i:Nat×fH}(k:qG bp n f W)(t:n<=1000)(a:é)(w:É)(x:HI bp n cp f W i a w): Î À NA (Exit.then (λl b=>HI bp n cp f W i l b/\TH n l b<TH n a w)<|QQ<|HE bp n cp W i) a w:=by
 let⟨j,d,y,H,c,z,g⟩:=x;obtain⟨u,rfl⟩:=y;by_cases o:j=n
 .rw[(ę<|by rw[<-k.r];omega)]at g;subst g;refine aoe u j (by rw[o]) λa b=>⟨?_,c⟩;rwa[o]at b
 .have r:j<n:=Z
  obtain⟨⟨b,v⟩,s⟩:∃p,f[j]?=Ã p:=⟨_,Ô<|by rwa[<-k.r]⟩;let⟨B,C,D,E,F⟩:=k.C j b v s;let⟨G,e⟩:=Ü.1 s;rw[ē G,e]at g;refine aof u j j U r t B C b D (c.r E id) v.h d.2.h (c.r F.r.h id) (c.r z.r.h id) λl m q=> ?_;have I:ya d (b,v)=(if d.2.h<v.h then b else d.1,if d.2.h<v.h then v else d.2):=by unfold ya;split<;>rfl
  refine⟨⟨j+1,ya d (b,v),?_,Z,c.fe<|e8.iP _ _ _,?_,g⟩,?_⟩
  .grind
  .grind
  .obtain⟨v,rfl⟩:=q;show n-((j:Int)+1).toNat<n-((j:Int)).toNat;omega
def aoh{b:List (Nat×fH)}{d:Nat×fH}(c:qG bp n b w)(g:n<=1000)(f:b[0]?=Ã d): Ò À 153 #[Ê bp n cp] w λe a=>e=È (Å<|Ã ⟨(tF d b).1,0,Ä⟩)/\e8 (λ_=>False) w a:=by
 let⟨l,m,e,h,i⟩:=c.C 0 d.1 d.2 f;have o:0<n:=by rw[c.r];exact(Ü.1 f).1
 have L:∀a,JL bp n cp d.1 0 a->Î À (à NA) (QQ<|HE bp n cp w<|tF d b) a w:=λa j=>
  ĉ (HI bp n cp b w<|tF d b) (TH n) ⟨0,d,j,â _,e8.fU _ _,i,U⟩<|aog c g
 subst e;generalize tF d b=r at*;simp only[Nat.add_zero]at h;go_enter Tryz.func153,Tryz.ntmps153;go_wp2_with fail;refine Ý ?_ ((fc L).out _ (gh _));rintro(_|(_|_)|_|_|_|_) a v hq;all_goals first|exact absurd hq id|skip
 let⟨k,p⟩:=hq;obtain⟨u,rfl⟩:=k;unfold F5;go_wp2_with fail;go_ret;simp_all
end
def ma(a:List (Nat×fH))(b:Int):Option (Nat×fH):=
 if b=-1 then(a[0]?).map λd=>tF d a else a[b.toNat]?
def jV(b:Option Nat):Ç:=Å<|b.map λb=>⟨b,0,Ä⟩
section
variable{cp:Nat}{a:List (Nat×fH)}
def NB(f:qG O n a w)(i:n<=1000)(j:0<n)(c:Int)(m:-1<=c): Ò À 113 #[Ê O n cp,Â Ë c] w λe b=>e=È (jV ((ma a c).map (·.1)))/\e8 (λ_=>False) w b:=by
 by_cases h:c=-1
 .subst h;obtain⟨d,b⟩:∃d,a[0]?=Ã d:=⟨_,Ô<|by rwa[<-f.r]⟩;have e:ma a (-1)=Ã (tF d a):=by unfold ma;rw[if_pos U,b];rfl
  rw[e];go_enter Ż,Ŧ;go_wp2_with (go_at_call 153;refine(fc<|aoh (cp:=cp) f i b).out.mono ?_;rintro e k ⟨rfl,g⟩);go_ret;exact⟨U,g⟩
 .obtain⟨k,rfl⟩:∃k:Nat,c=k:=⟨c.toNat,Z⟩;have e:ma a (k:Int)=a[k]?:=by unfold ma;rw[if_neg h,Ŷ]
  rw[e];by_cases g:k<n
  .obtain⟨⟨b,v⟩,d⟩:∃p,a[k]?=Ã p:=⟨_,Ô<|by rwa[<-f.r]⟩;let⟨o,q,l,r,s⟩:=f.C k b v d;rw[d];subst l;go_enter Ż,Ŧ;go_wp2_with fail;go_ret;exact⟨U,e8.fU _ _⟩
  .rw[(List.getElem?_eq_none<|by rw[<-f.r];omega)];go_enter Ż,Ŧ;go_wp2_with fail;go_ret;exact⟨U,e8.fU _ _⟩
end
theorem aay(a:List (Nat×fH)):∀(l:List (Nat×fH)) (d:Nat×fH),d∈a->(∀x∈l,x∈a)->tF d l∈a
 |[],d,hd,_=>hd
 |x::l,d,hd,hl=>by
  show tF (ya d x) l∈a;refine aay a l _ ?_ λy b=>hl y<|Ś _ b;unfold ya;split
  .exact hl x List.mem_cons_self
  .exact hd
theorem JN{a:List (Nat×fH)}{p:Nat×fH}(h:ma a c=Ã p):p∈a:=by unfold ma at h;grind [Ì,aay,List.mem_of_getElem]
def qG.M{a:List (Nat×fH)}(h:qG O n a w){p:Nat×fH}(b:p∈a):sy p.1 p.2 w:=by let⟨j,c⟩:=List.getElem?_of_mem b;let⟨_,_,_,_,d⟩:=h.C j p.1 p.2 c;exact d
theorem aaz(c:w.cell? ⟨b,i,Ä⟩=Ã v)(h:w.ownsRow 0 e j v n l):zS ⟨b,i,Ä⟩ n l w:=by
 rcases h.2 with⟨rfl,rfl⟩|⟨g,f,k,rfl,_,m,_,_,_,o⟩
 .have d:=ß (by simpa using h.1);subst d;exact⟨Ä,0,c,λa x q=>by simp at q⟩
 .refine⟨_,_,c,λa x q=>⟨g,0,U,?_⟩⟩;have:=h.cells U a x q;grind [Addr.add_mid]
def NX.aoi{s:St}{b:List (Nat×Int)}{c:List (Int×Bool)}(x:NX i h v z s b c u w)(d:gH s)(e:0<=h)(f:h<=40):sy i ⟨s,b,c,h⟩ w:=by have a:ff i (ja s v++[Â Ë h,z]) 147 w:=x.r;refine⟨⟨?_,a.r 145 _<|by rw[ü (by rw[mK];omega),mK];rfl⟩,d,e,f,aaz x.r.Di x.C,aaz x.G x.I⟩;rw[zO,Ċ]at a;exact a.Y
def aoj:(À.info? 136).map (λi=>(i.zero,i.size,i.bytes))=Ã (Ã<|Å Ä,1,8):=fp
def aol{p:Array ş}{r:List ş}(C:o.guard=Ä)(s x:Ů)(t:ô) (D:o.op=aG {callee:=.builtin .append,args:=#[s,x],argTypes:=#[t,t]}) (E:P.underlying t=Ã (bq e)) (F:P.info? e=Ã zJ) (G:zJ.zero=Ã z) (B:zJ.size=1) (H:zJ.bytes=8) (g k n:Nat) (b:List Ç) (I:b.length=n) (J:∀j v,b[j]?=Ã v->w.cell? ((⟨g,k,Ä⟩:Ą).add j)=Ã v) (L:y.eval s=Ê (Ã ⟨g,k,Ä⟩) n n) (l:Nat) (v:Ç) (M:y.eval x=Ê (Ã ⟨l,0,Ä⟩) 1 1) (N:∀j u,[v][j]?=Ã u->w.cell? ((⟨l,0,Ä⟩:Ą).add j)=Ã u) (X:n<=1000) (O:mj e=Ï) (h:∀c f,n+1<=c->e8 (λ_=>False) w f->(∃m:Array Ç,f.heap[w.heap.size]?=Ã (Ð m e (0,0))/\0<m.size/\∀u∈m.toList,u∈b\/u=v\/u∈z.cells.toList)->(∀j u,(b++[v])[j]?=Ã u->f.cell? ⟨w.heap.size,0+j,Ä⟩=Ã u)->aT P p vJ r (y.put o.dst<|Ê (Ã ⟨w.heap.size,0,Ä⟩) (n+1) c) f):aT P p vJ (o::r) y w:=by refine ű C λK S=> ?_;have T:=Λ w t o.type e zJ z E F G ⟨g,k,Ä⟩ n n b (by rw[I,B];omega) J ⟨l,0,Ä⟩ 1 1 [v] (by rw[B];rfl) N Z Z (ŕ Z<|by rw[H];omega);unfold Ń ĥ;simp only[D,ag,aR,ah,Ų,ų,Ĵ,ļ,Ť,Ŵ,L,M,T];refine S _ _ (h _ _ (Θ w (n+1) n e) ((e8.fS _ _).fe<|e8.gE _ _ _ _<|Ø O) ⟨_,ì w.drew _,by simp;omega,λu d=>by simp only[Š,ú]at d;rcases d with(q|q)|q;exact Ø q;exact Ù (Ø<|by simpa using q);exact Ù<|Ù<|SL q⟩ λj u d=> ?_);have V:(w.drew.alloc<|Ð (b.toArray++[v].toArray++ö z.cells (Œ w (n+1) n e-(n+1))) e).heap[w.heap.size]?=_:=ì w.drew _;simp only[Η,V,ũ,ĭ,if_false,ł];have W:=(Ü.1 d).1;rw[Array.getElem?_append_left (by simpa using W)];simpa using d
def tH(v:Ç)(T:ô)(w:É):Prop:=v=Ê Ä 0 0\/∃g n c a,v=Ê (Ã ⟨g,0,Ä⟩) n c/\w.heap[g]?=Ã (Ð a T (0,0))
def tH.I(h:w.ownsRow 0 T i v n l):tH v T w:=by
 rcases h.2 with⟨q,_⟩|⟨g,a,b,c,_,d,_⟩
 .exact Ø q
 .exact Ù ⟨g,_,a,b,c,d⟩
def tH.C(h:tH v T w)(k:e8 (λ_=>False) w u):tH v T u:=by
 rcases h with q|⟨g,n,c,b,d,a⟩
 .exact Ø q
 .refine Ù ⟨g,n,c,b,d,?_⟩;rwa[k.N g (Array.getElem?_eq_some_iff.1 a).1 id]
def sB(a:List (Nat×fH)):List Ç:=a.map λp=>Å<|Ã ⟨p.1,0,Ä⟩
structure TJ(vs:List (Nat×fH))(B:Nat)(w w':É)(g:Nat):Prop where
 C:w.heap.size<=g
 r:∃cur:Array Ç,w'.heap[g]?=Ã (Ð cur 136 (0,0))/\0<cur.size/\∀u∈cur.toList,u∈sB vs\/u=Å (Ã ⟨B,0,Ä⟩)\/u=Å Ä
structure TK(B:Nat)(s:St)(h:Int)(w w':É):Prop where
 C:w.heap.size<=B
 r:∃lv uv,ff B (ja s lv++[Â Ë h,uv]) 147 w'/\tH lv 257 w'/\tH uv 246 w'/\(∀j,lv.ownBlock=Ã j->w.heap.size<=j)/\∀j,uv.ownBlock=Ã j->w.heap.size<=j
section
variable{bp:Option Ą}{cp:Nat}{vs:List (Nat×fH)}
def aom(a b:Nat)(d:n<=1000)(f:n<=cp):Ò À 155 #[Ê (Ã ⟨a,b,Ä⟩) n cp] w λe c=>e=È (Ê (Ã ⟨a,b,Ä⟩) n n)/\c=w:=by go_enter Tryz.func155,Tryz.ntmps155;go_wp2;go_ret;exact⟨U,U⟩
def aon(b:qG bp n vs w)(h:n<=1000)(l:0<n)(m:n<=cp)(B:Nat): Ò À 116 #[Ê bp n cp,Å<|Ã ⟨B,0,Ä⟩] w λe a=>∃g c,e=È (Ê (Ã ⟨g,0,Ä⟩) (n+1) c)/\n+1<=c/\e8 (λ_=>False) w a/\TJ vs B w a g/\∀j u,(sB vs++[Å<|Ã ⟨B,0,Ä⟩])[j]?=Ã u->a.cell? ⟨g,0+j,Ä⟩=Ã u:=by
 let⟨G,r,s,t,x⟩:=í aoj;obtain⟨d,y⟩:∃d,vs[0]?=Ã d:=⟨_,Ô<|by rwa[<-b.r]⟩;let⟨g,f,i,_,_⟩:=b.C 0 d.1 d.2 y;have z:∀(o:Obj) (j:Nat) (v:Ç),(sB vs)[j]?=Ã v->(w.alloc o).cell? ((⟨g,f,Ä⟩:Ą).add j)=Ã v:=λo j v q=>by unfold sB at q;rw[ķ]at q;obtain⟨p,C,rfl⟩:=Ì.1 q;let⟨D,E,H,k,_⟩:=b.C j p.1 p.2 C;rw[i]at H;cases H;rwa[Addr.add_mid,World.cell?_alloc_lt _ _ _<|á w _ k]
 have H:=fc (Á z<|Á r<|Á s<|Á t<|Á x<|show(sB vs).length=n by unfold sB;rw[Ο];exact b.r.symm);subst i;go_enter Tryz.func116,Tryz.ntmps116;go_wp2_with (first
  |(go_at_call 155;refine(aom g f h m).mono ?_;rintro e a ⟨rfl,k⟩;subst a)
  |(at_builtin;refine aol U _ _ 65 U Tryz.underlying65 H.out.2.1 H.out.2.2.1 H.out.2.2.2.1 H.out.2.2.2.2.1 g f n (sB vs) H.out.2.2.2.2.2 (H.out.1 _) U w.heap.size (Å (Ã ⟨B,0,Ä⟩)) U (ÿ _ _ _) h A ?_;intro c C a e k p))
 go_ret;refine⟨_,_,U,a,(e8.gE _ _ _ _).fe e,⟨fi,by let⟨c,C,D,E⟩:=k;exact⟨c,by simpa using C,D,λu F=>(E u F).elim Ø λq=>q.elim (λq=>Ù<|Ø q) λq=>Ù<|Ù<|by simpa[Ġ]using q⟩⟩,λj u q=>by have:=p j u q;simpa using this⟩
end
structure Dv(r:Nat)(v:Int)(x:Nat)(bp:Option Ą)(n cp:Nat)(w:É):Prop where
 M:w.cell? ⟨r,0,Ä⟩=Ã (Â Ë x)
 N:w.cell? ⟨r,5,Ä⟩=Ã (Â Ë v)
 I:w.cell? ⟨r,8,Ä⟩=Ã (Ê bp n cp)
def Dv.C{r:Nat}(h:Dv r c i O n j w)(k:e8 (λ_=>False) w u):Dv r c i O n j u:=⟨k.r h.M id,k.r h.N id,k.r h.I id⟩
def rB(a:List (Nat×fH))(v:Int)(x:Nat)(gJ:List Tx):Option fH×ByteArray:=
 match ma a v with
 |none=>(Ä,nW 3)
 |some p=>if a.length=40 then(Ä,nW 4)else match vV x p.2.s gJ with
  |none=>(Ä,nW 5)
  |some r=>(Ã ⟨r.1,r.2.1,r.2.2,p.2.h+1⟩,oA a.length)
def NC(c:Ç)(d:List (Nat×fH))(w:É):Prop:=∃a n b,c=Ê a n b/\n<=b/\qG a n d w
def TL(f:List (Nat×fH))(i:Ç)(w:É)(o:Option fH×ByteArray)(e:az)(a:É):Prop:=
 e8 (λ_=>False) w a/\((o.1=Ä/\e=È (æ #[i,Í o.2]))\/∃v b d,o.1=Ã v/\e=È (æ #[d,Í o.2])/\NC d (f++[(b,v)]) a/\TK b v.s v.h w a/\∃g n c,d=Ê (Ã ⟨g,0,Ä⟩) n c/\TJ f b w a g)
def aoo{c:List (Nat×fH)}{v:fH}(e:qG O n c w)(f:sy j v w)(h:∀a u,(sB c++[Å<|Ã ⟨j,0,Ä⟩])[a]?=Ã u->w.cell? ⟨i,0+a,Ä⟩=Ã u):qG (Ã ⟨i,0,Ä⟩) (n+1) (c++[(j,v)]) w:=by
 refine⟨by rw[e.r];simp,λa b u q=>⟨i,0,U,?_,?_⟩⟩
 .apply h a _;have:sB c++[Å<|Ã ⟨j,0,Ä⟩]=sB (c++[(j,v)]):=by simp[sB]
  rw[this];unfold sB;rw[ķ,q];rfl
 .rcases ů a c.length with d|d
  .rw[ç d]at q;let⟨_,_,_,_,k⟩:=e.C a b u q;exact k
  .rw[ü d]at q;have k:a-c.length=0:=by
    have:=(Ü.1 q).1;simp at this;omega
   rw[k]at q;cases q;exact f
def aop{e:az}(a:FR h W Ä e u)(k:e8 (λ_=>False) w W):e=È (Å Ä)/\e8 (λ_=>False) w u:=by
 rcases a with⟨_,b,c⟩|⟨_,_,_,_,_,_,q,_⟩
 .exact⟨b,k.fe c⟩
 .cases q
def aoq{e:az}{s:St}{a:List (Nat×Int)}{b:List (Int×Bool)}(c:FR h W (Ã (s,a,b)) e u)(l:0<=h)(m:h<40)(k:e8 (λ_=>False) w W):∃B,e=È (Å<|Ã ⟨B,0,Ä⟩)/\e8 (λ_=>False) w u/\sy B ⟨s,a,b,h+1⟩ u/\TK B s (h+1) w u:=by
 rcases c with⟨q,_⟩|⟨n,o,p,B,d,f,q,g,x,i⟩
 .cases q
 .cases q;exact⟨B,g,k.fe x.M,x.aoi i Z Z,ë k.M x.N,d,f,x.r,tH.I x.C,tH.I x.I,λj q=>ë k.M<|x.S j q,λj q=>ë k.M<|x.Y j q⟩
section
variable{bp:Option Ą}{cp r x:Nat}{v:Int}{vs:List (Nat×fH)}{f:List (Nat×Tx)}
def aor{p:Nat×fH}(F:Ò À 113 #[Ê bp n cp,Â Ë v] w λe a=>e=È (jV<|Ã p.1)/\e8 (λ_=>False) w a)(f:Dv r v x O b i w)(m:((n:Int)==40)=Ï)(N:∀W,e8 (λ_=>False) w W->Ò À 115 #[Å<|Ã ⟨p.1,0,Ä⟩,Â Ë x,Ê O b i] W (FR p.2.h W Ä)): Ò À 66 #[Ê bp n cp,Å<|Ã ⟨r,0,Ä⟩] w (TL vs (Ê bp n cp) w (Ä,nW 5)):=by
 have o:=f.N;have H:=fc<|Á F<|Á N f;go_enter ś,Ň;go_wp2_with (go_at_call 113;refine H.out.1.mono ?_;rintro e d ⟨rfl,c⟩;dsimp only[jV,ū]);have g:=fc (Á ((H.out.2.2.C c).C<|e8.fS (λ_=>False) _).M ((H.out.2.2.C c).C<|e8.fS (λ_=>False) _).I);go_region_held3 (λa=>a.cell? ⟨r,0,Ä⟩=Ã (Â Ë x)/\a.cell? ⟨r,8,Ä⟩=Ã (Ê O b i)) (first|exact g.out|exact j.out) (first
   |(go_at_call 115;refine(H.out.2.1 _ (c.fe kp)).mono ?_;rintro e k l;obtain⟨rfl,d⟩:e=È (Å Ä)/\e8 (λ_=>False) w k:=aop l (c.fe kp);dsimp only;have j:=fc (Á (H.out.2.2.C d).M (H.out.2.2.C d).I)))
 go_wp2_with (first
  |(go_at_call 114;refine(FT 5 A _).mono ?_;rintro e a ⟨rfl,c⟩;subst a))
 go_ret2;exact⟨d,Ø ⟨U,U⟩⟩
def aos{p:Nat×fH}{f:St}{g:List (Nat×Int)}{j:List (Int×Bool)}(k:qG bp n vs w)(Q:n<=40)(q:0<n)(s:n<=cp)(t:0<=p.2.h)(u:p.2.h<40)(F:Ò À 113 #[Ê bp n cp,Â Ë v] w λe a=>e=È (jV<|Ã p.1)/\e8 (λ_=>False) w a)(l:Dv r v x O b i w)(S:((n:Int)==40)=Ï)(N:∀W,e8 (λ_=>False) w W->Ò À 115 #[Å<|Ã ⟨p.1,0,Ä⟩,Â Ë x,Ê O b i] W (FR p.2.h W<|Ã (f,g,j))): Ò À 66 #[Ê bp n cp,Å<|Ã ⟨r,0,Ä⟩] w (TL vs (Ê bp n cp) w (Ã ⟨f,g,j,p.2.h+1⟩,oA vs.length)):=by
 have T:=l.N;rw[<-k.r];have H:=fc<|Á F<|Á N<|Á l k;go_enter ś,Ň;go_wp2_with (go_at_call 113;refine H.out.1.mono ?_;rintro e o ⟨rfl,d⟩;dsimp only[jV,ū]);have y:=fc (Á ((H.out.2.2.1.C d).C<|e8.fS (λ_=>False) _).M ((H.out.2.2.1.C d).C<|e8.fS (λ_=>False) _).I);go_region_held3 (λa=>a.cell? ⟨r,0,Ä⟩=Ã (Â Ë x)/\a.cell? ⟨r,8,Ä⟩=Ã (Ê O b i)) (first|exact y.out|exact o.out) (first
   |(go_at_call 115;refine(H.out.2.1 _ (d.fe kp)).mono ?_;rintro e D z;obtain⟨B,rfl,c,C,m⟩:=aoq (w:=w) z t u (d.fe kp);dsimp only;have o:=fc (Á (H.out.2.2.1.C c).M (H.out.2.2.1.C c).I)))
 have W:=aon (H.out.2.2.2.I c) Z q s B;have z:=fc W;go_wp2_with (first
  |(go_at_call 116;refine z.out.mono ?_;rintro e G ⟨I,J,rfl,D,d,o,E⟩)
  |(go_at_call 117;refine(aag n Z _).mono ?_;rintro e a ⟨rfl,G⟩;subst a))
 go_ret2;refine⟨c.fe d,Ù ⟨_,B,_,U,U,⟨_,_,_,U,D,?_⟩,⟨m.C,by let⟨G,I,J,K,L,M,P⟩:=m.r;exact⟨G,I,J.I d id,K.C d,L.C d,M,P⟩⟩,_,_,_,U,ë c.M o.C,o.r⟩⟩;exact aoo ((H.out.2.2.2.I c).I d) (C.Y d) E
def aot(a:qG bp n vs w)(C:n<=40)(j:0<n)(D:n<=cp)(t:∀p∈vs,p.2.h<40)(d:Dv r v x O b i w)(u:Dp O b f w)(E:b<=1000)(y:iJ w)(G:x<8)(z:-1<=v): Ò À 66 #[Ê bp n cp,Å<|Ã ⟨r,0,Ä⟩] w (TL vs (Ê bp n cp) w<|rB vs v x<|lN f):=by
 have L:=d.N;unfold rB;cases g:ma vs v with
 |none=>
  have F:=NB (cp:=cp) a Z j v z;rw[g]at F;have H:=fc F;go_enter ś,Ň;go_wp2_with (first
   |(go_at_call 113;refine H.out.mono ?_;rintro e I ⟨rfl,q⟩;dsimp only[jV,ū])
   |(go_at_call 114;refine(FT 3 A _).mono ?_;rintro e l ⟨rfl,J⟩;subst l))
  go_ret2;exact⟨q,Ø ⟨U,U⟩⟩
 |some p=>
  have m:=JN g;have c:=a.M m;have F:=NB (cp:=cp) a Z j v z;rw[g]at F;have N:∀W,e8 (λ_=>False) w W->Ò À 115 #[Å<|Ã ⟨p.1,0,Ä⟩,Â Ë x,Ê O b i] W (FR p.2.h W<|vV x p.2.s<|lN f):=λW k=>
   anh (c.r.r k id) c.I (by have:=c.M;omega) c.C (u.I k) (y.r k id) E G
  have K:=a.r;by_cases B:n=40
  .simp only;rw[if_pos Z];have H:=fc F;clear F N a d u y t c g m K;have o:((n:Int)==40)=Ú:=by rw[B];rfl
   clear B;go_enter ś,Ň;go_wp2_with (first
    |(go_at_call 113;refine H.out.mono ?_;rintro e I ⟨rfl,q⟩;dsimp only[jV,ū])
    |(go_at_call 114;refine(FT 4 A _).mono ?_;rintro e l ⟨rfl,J⟩;subst l))
   go_ret2;exact⟨q,Ø ⟨U,U⟩⟩
  .simp only;rw[if_neg Z];have o:((n:Int)==40)=Ï:=by rw[beq_eq_false_iff_ne];omega
   have l:=t p m;have H:=c.I;cases e:vV x p.2.s (lN f)with
   |none=>
    rw[e]at N;exact aor F d o N
   |some q=>
    let⟨I,J,M⟩:=q;rw[e]at N;exact aos a C j D H l F d o N
end
theorem aou(h:l.length=145):À.built 147 [(0,Ē l.toArray)]=Ã (l++[Â Ë 0,Ê Ä 0 0]).toArray:=by let⟨z,d,a,b,c⟩:=Ts X' Y_ A;rw[Tq Z_ a,c];have:=Nj (place:=λi=>[(0,145),(145,1),(146,1)].toArray[i]?) (pre:=[]) (suf:=[Â Ë 0,Ê Ä 0 0]) (i:=0) (v:=Ē l.toArray) (rest:=[]) U (by show l.toArray.size=145;simp[h]) b;simpa[ı,Ġ]using this
theorem aov(a:o.op=Χ 147 #[(0,qQ)])(b:xX qQ=Ē l.toArray)(c:l.length=145):(ĥ xX o).run À w=χ (.value<|Ē (l++[Â Ë 0,Ê Ä 0 0]).toArray) w:=by grind [Tt,aou]
def jw:fH:=⟨kj 8,[],[],0⟩
def aaA:gH (kj 8):=by refine⟨λi=> ?_,λi j=>⟨Ö _,show(0:Int)<18446744073709551616 by decide⟩,λi=>⟨show(0:Nat)<=40 by decide,λc a=>by cases a⟩⟩;show gd (if i<8 then 1000 else 0);split<;>exact⟨A,A⟩
theorem aow{s:St}(b:gH s)(h:ff i (iu s++[Ê Ä 0 0]++[Â Ë 0,Ê Ä 0 0]) 147 w):sy i ⟨s,[],[],0⟩ w:=by
 have c:=su s;refine⟨⟨λj v d=> ?_,?_⟩,b,Ö _,show(0:Int)<=40 by decide,?_,?_⟩
 .rw[ł];apply h.r j v;grind
 .apply h.r 145 _;simp_all
 .refine⟨Ä,0,h.r 144 _ ?_,λj x a=>by cases a⟩;grind
 .refine⟨Ä,0,h.r 146 _ ?_,λj x a=>by cases a⟩;simp_all
def yb(ls:List (Nat×Int)):Prop:=∀e∈ls,e.1<8/\gd e.2
def TM(J:St->List (Nat×Int)->Prop)(F:mo):Prop:=∀s a x y g k,gH s->x<8->y<8->gd k->0<=g->g<=100000->(a.length:Int)+g<=1000000->J s a->J (F s a x y g k).s (F s a x y g k).I
structure aaB(J:St->List (Nat×Int)->Prop):Prop where
 st:∀{s ls} (y j:Nat) (v:Int),J s ls->J (s.r y j v) ls
 mv:∀{s ls y} (q:Int) {p:Int},gH s->y<8->gd p->J s ls->J (rA s y q p).2 ls
 lg:∀{s ls y p},y<8->gd p->J s ls->J s (ls++[(y,p)])
section
variable{c:RC}{F:mo}{J:St->List (Nat×Int)->Prop}
theorem aox(b:aaB J)(i:TM J F)(d:c.y<8)(k:Nat)(t:RT)(o:k<=20)(a:oh t)(h:J t.s t.C):J (oy F c k t).s (oy F c k t).C:=by
 have f:=tC a.r;have g:=tC<|pM a.r;by_cases j:k=16
 .subst j;exact b.st _ _ _ h
 by_cases l:k=18
 .subst l;exact b.mv _ a.s d g h
 by_cases m:k=19
 .subst m;exact b.lg d f h
 by_cases n:k=20
 .subst n;show J (iV F c t _ _ _).2.2.s (iV F c t _ _ _).2.2.C;unfold iV;split
  .exact h
  .have e:=tC<|pM<|pM a.r;have p:=a.g0;have q:=a.C;have r:=a.I;have u:=f.1;have v:=g.1;exact i _ _ _ _ _ _ a.s d Z e Z Z Z h
 have e:(oy F c k t).s=t.s/\(oy F c k t).C=t.C:=by unfold oy;grind
 grind
def aaC(b:aaB J):∀n,TM J<|zL n
 |0=>λ_ _ _ _ _ _ _ _ _ _ _ _ _ h=>h
 |n+1=>λs d x y g k a f e i j l m h=>by
  show J (sr (zL n) ⟨x,y,k,4-(n:Int),g⟩ s d).s (sr (zL n) ⟨x,y,k,4-(n:Int),g⟩ s d).I;unfold sr;simp only;split
  .exact(FO (c:=⟨x,y,k,4-(n:Int),g⟩) (a.I y).1 (λn o=>S7 a y o) (Jr n) f e i (aox b (aaC b n) e) _ _ _ uP ⟨fi,fi,a,j,l,m⟩ h).2
  .exact h
end
def TN:TM (λ_ e=>yb e) gi:=aaC ⟨λ_ _ _ h=>h,λ_ _ _ _ _ h=>h,λa b h e c=>by
 rcases ú.1 c with q|q
 .exact h e q
 .simp at q;subst q;exact⟨a,b⟩⟩ 4
def aoy{s:St}(b:gH s){ls:List (Nat×Int)}{t:Tx}(a:t.Ok)(c:(ls.length:Int)+400<=1000000)(h:yb ls):yb (mr s ls t).2.2.2:=by
 unfold mr;split
 .exact h
 .split
  .exact h
  .unfold zN;split
   .exact h
   .rename_i d;have e:=(b.fu t.x).2;exact TN _ ls t.x t.y (t.n-10) t.k (b.r t.x ⟨Z,Z⟩) a.x a.y ⟨a.r,by have:=a.C;omega⟩ Z Z Z h
def zU(a:List (Int×Bool)):Prop:=∀e∈a,0<=e.1/\e.1<=400
def zU.Qj{a:List (Int×Bool)}(h:zU a){e:Int×Bool}(b:0<=e.1)(c:e.1<=400):zU (a++[e]):=λx d=>by
 rcases ú.1 d with q|q
 .exact h x q
 .simp at q;subst q;exact⟨b,c⟩
structure TO(v:fH):Prop where
 C:yb v.r
 r:zU v.C
 I:v.r.length<=400000
 M:v.C.length<=1000
def TP:∀(gJ:List Tx) {s:St} {ls:List (Nat×Int)} {a:List (Int×Bool)} {r:St×List (Nat×Int)×List (Int×Bool)},(∀t∈gJ,t.Ok)->gH s->yb ls->zU a->ls.length+400*gJ.length<=400000->a.length+gJ.length<=1000->uR m s ls a gJ=Ã r->gH r.1/\yb r.2.1/\zU r.2.2/\r.2.1.length<=400000/\r.2.2.length<=1000
 |[],s,ls,a,r,_,hs,hl,hu,n1,n2,h=>by cases h;exact⟨hs,hl,hu,by simpa using n1,by simpa using n2⟩
 |t::q,s,ls,a,r,ht,hs,hl,hu,n1,n2,h=>by
  unfold uR at h;simp only[Ľ]at n1 n2;split at h
  .have d:=aaf (ls:=ls) hs (ht t fi) Z;have e:=d.r;exact TP q (λb c=>ht b<|Ś _ c) (d.s.r m<|zI _) (aoy hs (ht t fi) Z hl) (hu.Qj d.g0 d.C) Z (by simp;omega) h
  .cases h
def aoz{s:St}{gJ:List Tx}{r:St×List (Nat×Int)×List (Int×Bool)}(a:∀t∈gJ,t.Ok)(b:gH s)(j:gJ.length<=1000)(e:vV m s gJ=Ã r):TO ⟨r.1,r.2.1,r.2.2,h⟩:=by unfold vV at e;obtain⟨k,c,rfl⟩:=Ì.1 e;let⟨_,d,f,g,i⟩:=TP gJ a b (λ_ q=>by cases q) (λ_ q=>by cases q) (by simp;omega) (by simp;omega) c;exact⟨d,f,g,i⟩
end Go.Proofs.Y.gw
namespace Go.Proofs
open Go.Shelf
def Tryz.lays283_ren:Ĭ:=⟨fun|283=>187|n=>n,fun|3=>3|9=>9|4=>4|n=>n,fun|n=>n⟩
def Tryz.lays283:aN À Tryz.lays283_ren:={
 mixed:=fp
 f283:=ź.trans<|congrArg Ã fp
 t3:=ě
 a3:=Ŝ
 z3:=ň
 v3:=ħ
 t4:=Ĝ
 a4:=ŝ
 z4:=ŉ
 v4:=Ĩ
 t9:=đ
 a9:=Ş
 z9:=Ŋ
 v9:=ĩ}
open Go.Lib in
def Tryz.internal_strconv_small(i:Nat)(h:i<100)(w:É):
 Ò À 187 #[Â Ë i] w λe a=>e=È (Í ⟨(Ļ i).toArray⟩)/\a=w:=Any.internal_strconv_small Tryz.lays283 i h w
def Tryz.laysM284_ren:Ĭ:=⟨fun|284=>188|129=>198|317=>197|318=>199|n=>n,fun|53=>36|3=>3|212=>291|0=>0|4=>4|46=>168|5=>5|9=>9|n=>n,fun|17=>1|n=>n⟩
def Tryz.laysM284:Go.Proofs.LaysM.n284 À Tryz.laysM284_ren:={
 mixed:=fp
 f129:=Tryz.func198.trans<|congrArg Ã fp
 f284:=Tryz.func188.trans<|congrArg Ã fp
 f317:=Tryz.func197.trans<|congrArg Ã fp
 f318:=Tryz.func199.trans<|congrArg Ã fp
 t0:=Δ
 a0:=aJ
 z0:=aA
 v0:=Ρ
 t3:=ě
 a3:=Ŝ
 z3:=ň
 v3:=ħ
 t4:=Ĝ
 a4:=ŝ
 z4:=ŉ
 v4:=Ĩ
 t5:=Ε
 a5:=aK
 z5:=aB
 v5:=Τ
 t9:=đ
 a9:=Ş
 z9:=Ŋ
 v9:=ĩ
 t46:=Ŭ
 a46:=ς
 z46:=ε
 v46:=Ž
 t53:=ĸ
 a53:=ž
 z53:=ŧ
 v53:=ŀ
 t212:=Tryz.underlying291
 a212:=Tryz.isAgg291
 z212:=Tryz.sizeOf291
 v212:=Tryz.zeroValue291
 g17:=fp
 i0:=fp
 i3:=fp
 i4:=fp
 i5:=fp
 i9:=fp
 i46:=fp
 i53:=fp
 i212:=fp
 m17:=by kernel_rfl}
open Go.Lib in
def Tryz.internal_strconv_numDigits(u:Nat)(a:1<=u)(b:u<18446744073709551616)(w:É)(c:ae À w "internal/strconv.uint64pow10" Æ aC):
 Ò À 188 #[Â Æ u] w λe d=>e=È (Â Ë<|č u)/\d=w:=Any.internal_strconv_numDigits Tryz.laysM284 u a b w c
def Tryz.lays285_ren:Ĭ:=⟨fun|285=>189|n=>n,fun|37=>107|53=>36|3=>3|4=>4|51=>95|9=>9|5=>5|0=>0|n=>n,fun|n=>n⟩
def Tryz.lays285:aO À Tryz.lays285_ren:={
 mixed:=fp
 f285:=Tryz.func189.trans<|congrArg Ã fp
 t0:=Δ
 a0:=aJ
 z0:=aA
 v0:=Ρ
 t3:=ě
 a3:=Ŝ
 z3:=ň
 v3:=ħ
 t4:=Ĝ
 a4:=ŝ
 z4:=ŉ
 v4:=Ĩ
 t5:=Ε
 a5:=aK
 z5:=aB
 v5:=Τ
 t9:=đ
 a9:=Ş
 z9:=Ŋ
 v9:=ĩ
 t37:=ý
 a37:=Tryz.isAgg107
 z37:=Tryz.sizeOf107
 v37:=Tryz.zeroValue107
 t51:=ſ
 a51:=aD
 z51:=σ
 v51:=Ζ
 t53:=ĸ
 a53:=ž
 z53:=ŧ
 v53:=ŀ}
open Go.RowKit Go.Sort Go.Lib in
def Tryz.internal_strconv_formatBase10(a c f:Nat)(u:Nat)(d:Array UInt8)(w:É)(h:Holds (λ(b:UInt8)=>Â aW (b.toNat:Int)) w a c d)(i:u<10^d.size)(j:u<18446744073709551616)(k:d.size<4611686018427387904):
 Ò À 189 #[Ê (Ã ⟨a,c,Ä⟩) d.size f,Â Æ u] w λe l=>
  e=È (æ #[])/\∃(n m:Nat) (g:Array UInt8),l=(ζ (λ(b:UInt8)=>Â aW (b.toNat:Int)) w a c g).drewN n/\FmtInv d.size u 0 m g:=Any.internal_strconv_formatBase10 Tryz.lays285 a c f u d w h i j k
def Tryz.lays99_ren:Ĭ:=⟨fun|99=>175|206=>194|n=>n,fun|9=>9|4=>4|3=>3|n=>n,fun|n=>n⟩
def Tryz.lays99:aU À Tryz.lays99_ren:={
 mixed:=fp
 f99:=Tryz.func175.trans<|congrArg Ã fp
 f206:=Tryz.func194.trans<|congrArg Ã fp
 t3:=ě
 a3:=Ŝ
 z3:=ň
 v3:=ħ
 t4:=Ĝ
 a4:=ŝ
 z4:=ŉ
 v4:=Ĩ
 t9:=đ
 a9:=Ş
 z9:=Ŋ
 v9:=ĩ}
open Go.RowKit Go.Lib in
def Tryz.strings_HasPrefix(s p:ByteArray)(w:É):
 Ò À 175 #[Í s,Í p] w λe a=>e=È (Ñ<|Lib.hasPrefix s.data.toList p.data.toList)/\a=w:=Any.strings_HasPrefix Tryz.lays99 s p w
def Tryz.lays212_ren:Ĭ:=⟨fun|212=>174|263=>192|264=>193|n=>n,fun|46=>168|51=>95|146=>285|53=>36|148=>287|n=>n,fun|n=>n⟩
def Tryz.lays212:aP À Tryz.lays212_ren:={
 mixed:=fp
 f212:=Tryz.func174.trans<|congrArg Ã fp
 f263:=Tryz.func192.trans<|congrArg Ã fp
 f264:=Tryz.func193.trans<|congrArg Ã fp
 t46:=Ŭ
 a46:=ς
 z46:=ε
 v46:=Ž
 t51:=ſ
 a51:=aD
 z51:=σ
 v51:=Ζ
 t53:=ĸ
 a53:=ž
 z53:=ŧ
 v53:=ŀ
 t146:=Tryz.underlying285
 a146:=Tryz.isAgg285
 z146:=Tryz.sizeOf285
 v146:=Tryz.zeroValue285
 t148:=Tryz.underlying287
 a148:=Tryz.isAgg287
 z148:=Tryz.sizeOf287
 v148:=Tryz.zeroValue287}
open Go.RowKit Go.Lib in
def Tryz.bits_Mul(x y:Nat)(a:x<18446744073709551616)(b:y<18446744073709551616)(w:É):
 Ò À 174 #[Â Æ x,Â Æ y] w λe c=>e=È (æ #[Â Æ ((x*y/18446744073709551616:Nat):Int),Â Æ ((x*y%18446744073709551616:Nat):Int)])/\c=w:=Any.bits_Mul Tryz.lays212 x y a b w
end Go.Proofs
namespace Go.Proofs.Y.gw
open Go Go.Proofs Go.RowKit Go.Sort Go.Proofs.Y.Lift
def zV:UInt8->Ç:=λb=>Â aW (b.toNat:Int)
def lO(w:É):Prop:=ae À w "internal/strconv.uint64pow10" Æ aC
def aoA(a:ko w)(b:Nat)(f:Array Ç->Array Ç):ko (Ł w b f):=by
 intro i o h;unfold Ł at h;simp only[Û]at h;split at h
 .cases d:w.heap[i]? with
  |none=>rw[d]at h;cases h
  |some e=>
   have:=a _ _ d;rw[d]at h;cases e with
   |cells c t z=>simp only[ñ,è]at h;subst h;exact λx=>x
   |_=>exact absurd trivial this
 .exact a i o h
def aoB(a:sj m w)(b:Nat)(f:Array Ç->Array Ç)(j:NF b w):sj m (Ł w b f):=by
 intro i c T k l h g;unfold Ł at h;simp only[Û]at h;split at h
 .rename_i e;subst e;cases d:w.heap[b]? with
  |none=>rw[d]at h;cases h
  |some n=>
   rw[d]at h;cases n with
   |cells o t z=>
    simp only[ñ,è,onCells,Ĥ]at h;have:=j _ _ _ d;rw[h.2.1,g]at this;cases this
   |_=>simp only[ñ,è,onCells]at h;cases h
 .exact a i c T k l h g
def e8.fP(w:World)(T:TypeId)(cs:Array Value)(off:Nat)(d:Array UInt8)(n:Nat)(hT:mj T=false:=by decide):e8 (λ_=>False) w ((putRow zV (w.alloc<|.cells cs T) w.heap.size off d).drewN n):= ⟨by simp[ζ,Ł,World.drewN],λk hk _=>by show(Ł (w.alloc<|Ð cs T) w.heap.size _).heap[k]?=_;unfold Ł;simp only[Û];rw[if_neg Z];exact ď _ _ _ hk,λa=>aoA (Ja a cs T (0,0)) _ _,λ_ a=>aoB (Jb a cs T (0,0)<|Ø hT) _ _<|ff.G (ff.N w cs.toList T) hT⟩
def aoC(w:É)(T:ô)(a:Nat)(c:a<=24):Holds zV (w.alloc<|Ð Ģ T) w.heap.size 0 (ō a (0:UInt8)):=λj b=>by
 have d:j<a:=by simpa using b
 refine⟨?_,World.frozen?_alloc_new _ _ _ _⟩;rw[World.cell?_alloc_new,Lib.zeros24_at _ Z,getElem!_pos _ j b];simp[zV]
def fI(u:Nat):ByteArray:=⟨(Ļ u).toArray⟩
def aoD(u:Nat)(h:u<100)(w:É):Ò À 172 #[Â Æ u,Â Ë 10] w λe a=>e=È (Í<|fI u)/\a=w:=by go_enter aE,υ;go_wp2_with (go_at_call 187;refine(Tryz.internal_strconv_small u h _).mono ?_;rintro e a ⟨rfl,rfl⟩);go_ret;exact⟨U,U⟩
def aoE(u:Nat)(h:¬u<100)(c:u<18446744073709551616)(w:É)(m:lO w):Ò À 172 #[Â Æ u,Â Ë 10] w λe b=>e=È (Í<|fI u)/\e8 (λ_=>False) w b:=by
 have g:1<=u:=Z
 have o:č u<=20:=by have:=Lib.numDigits_eq u g c;split at this<;>omega
 have n:À.arrayLen 276=24:=fp
 have p:∀W,(Instr.sliceAt 276 (Å<|Ã ⟨w.heap.size,0,Ä⟩) Ä (Ã<|Â Ë (č u:Int)) Ä).run À W=χ (Ê (Ã ⟨w.heap.size,0,Ä⟩) (č u) 24) W:=λW=>by rw[run_sliceAt_array_h W 276 ⟨w.heap.size,0,Ä⟩ (by simp[Program.arrayLen,Program.elem,Tryz.type276]) Ë (č u:Int) Z (by rw[n];omega)];go_simp
 have i:=aoC w 276 (č u) Z;have l:=Tryz.internal_strconv_formatBase10 w.heap.size 0 24 u (ō (č u) 0) (w.alloc<|Ð Ģ 276) i (by rw[Ď];exact Lib.lt_pow_nDigits u) c (by rw[Ď];omega);rw[Ď]at l;go_enter aE,υ;go_wp2_with (go_at_call 188;refine(Tryz.internal_strconv_numDigits u g c _<|Lib.tabIs_alloc m _).mono ?_;rintro e b ⟨rfl,rfl⟩);go_at_call 189;apply l.mono;rintro e b ⟨rfl,k,q,a,d,hF⟩;replace d:b=(ζ zV (w.alloc<|Ð Ģ 276) w.heap.size 0 a).drewN k:=d;subst d;have r:(convert 107 9<|Ê (Ã ⟨w.heap.size,0,Ä⟩) (č u) 24).run À ((ζ zV (w.alloc<|Ð Ģ 276) w.heap.size 0 a).drewN k)=χ (Í<|fI u) ((ζ zV (w.alloc<|Ð Ģ 276) w.heap.size 0 a).drewN k):=by have h:=run_convert_bytes_back (P:=À) ((ζ zV (w.alloc<|Ð Ģ 276) w.heap.size 0 a).drewN k) 107 9 5 ⟨w.heap.size,0,Ä⟩ 24 (Ļ u) fp fp fp (λj f=>by rw[Lib.row_is_numeral hF j f,Lib.add_plain,World.cell?_drewN];exact cell?_putRow zV _ w.heap.size 0 _ a (Lib.hid i).out (by rw[hF.size,Ď]) j<|by rw[hF.size];rwa[ģ]at f);rwa[ģ]at h
 go_wp2;go_ret;exact⟨U,e8.fP w 276 _ _ a k⟩
def aoF(u:Nat)(d:u<18446744073709551616)(w:É)(f:lO w):Ò À 172 #[Â Æ u,Â Ë 10] w λe c=>e=È (Í<|fI u)/\e8 (λ_=>False) w c:=by
 by_cases h:u<100
 .exact(aoD u h w).mono λe c ⟨a,b⟩=>⟨a,b▸e8.fU _ _⟩
 .exact aoE u h d w f
def aoG(u:Nat)(b:u<18446744073709551616)(w:É)(c:lO w):Ò À 157 #[Â Æ u,Â Ë 10] w λe a=>e=È (Í<|fI u)/\e8 (λ_=>False) w a:=by go_enter Tryz.func157,Tryz.ntmps157;go_wp2_with (go_at_call 172;refine(aoF u b _ c).mono ?_;rintro e a ⟨rfl,d⟩);go_ret;exact⟨U,d⟩
def yc(u:Nat)(b:u<18446744073709551616)(w:É)(c:lO w):Ò À 118 #[Â Æ u] w λe a=>e=È (Í<|fI u)/\e8 (λ_=>False) w a:=by go_enter Tryz.func118,Tryz.ntmps118;go_wp2_with (go_at_call 157;refine(aoG u b _ c).mono ?_;rintro e a ⟨rfl,d⟩);go_ret;exact⟨U,d⟩
end Go.Proofs.Y.gw
namespace Go.Proofs.Y.gw
open Go Go.Proofs Go.RowKit Go.Proofs.Y.Lift
def TQ(B:Nat):iU:=⟨B,144,[]⟩
def aoH(B:Nat):(TQ B).Ok:=⟨show(144:Nat)≠36 by decide,show(144:Nat)≠257 by decide,show(144:Nat)≠282 by decide,show(144:Nat)≠300 by decide,show(144:Nat)≠252 by decide,show(144:Nat)≠246 by decide⟩
def aaD{s:St}(l:my n s h w)(z:gH s)(B:iJ w)(x y:Nat)(g k:Int)(T:x<8)(V:y<8)(Y:0<=g)(uM:g<=100000)(hk:gd k)(r:zH)(D:r=gi s [] x y g k): Ò À 158 #[Å<|Ã ⟨n,0,Ä⟩,Â Ë x,Â Ë y,Â Æ g,Â Æ k] w λe f=>
  ∃lv,e=È (æ #[Ē #[Â Æ r.r,Ñ r.C,Â Æ r.M],lv])/\f.ownsRow 0 257 2 lv r.I.length (kr r.I)/\e8 (λ_=>False) w f:=by
 let⟨dd,E,F⟩:=Ì.1 Tw;have G:(À.info? 140).map (·.size)=Ã (iu s).length:=by rw[su];exact aac
 let⟨i0,z0,I,J,K,L⟩:=O_ N';have m:=Te s (lv:=Ê Ä 0 0) U;rw[zO]at m;have o:(iu s++[Ê Ä 0 0]).length=145:=by rw[Ó,su];rfl
 have M:=e8.gE (λ_=>False) w #[Â Æ 0,Ñ Ï,Â Æ 0] 252;have N:=(l.r M id).C;have gI:=á w _ l.h;have C:∀W,iB (w.heap.size+1) 144 [] s (Ê Ä 0 0) W->iJ W->Ò À 173 #[Å<|Ã ⟨w.heap.size+1,0,Ä⟩,Â Ë x,Â Ë y,Â Æ g,Â Æ k,Â Ë 1] W λe f=>e=È (Ē #[Â Æ r.r,Ñ r.C,Â Æ r.M])/\∃jC,im (TQ<|w.heap.size+1) (Ê Ä 0 0) 0 W r.s r.I f jC:=λW hW hrW=>by rw[D];exact T_ (TQ<|w.heap.size+1) (aoH _) s _ [] x y g k W hW (ā _ _ _ _) hrW z T V Y uM hk<|by simp;omega
 have a:=fc<|Á E<|Á F<|Á G<|Á N<|Á I<|Á K<|Á (J.trans o.symm)<|Á (L.trans o.symm) m;have H:=fc<|Á B C;clear E F G I J K L m o N l C B z M D;go_enter Tryz.func158,Tryz.ntmps158;go_wp2_with (first
  |(with_reducible refine Ė U 140 _ U n 0 U (iu s) dd a.out.2.2.2.1 a.out.1 a.out.2.1 a.out.2.2.1 ?_)
  |(with_reducible refine ć U (Ã 19) U _ _ (Tv U U<|su s) ?_)
  |(with_reducible refine Td U U 144 U 12 U _ _ U U a.out.2.2.2.2.1 a.out.2.2.2.2.2.1 (iu s++[Ê Ä 0 0]) a.out.2.2.2.2.2.2.1 a.out.2.2.2.2.2.2.2.1 U U a.out.2.2.2.2.2.2.2.2 ?_;intro t hB1 O SF))
 have CZ:t.heap.size=w.heap.size+1+1:=by simpa using SF
 have P:iB (w.heap.size+1) 144 [] s (Ê Ä 0 0) t:=by unfold iB;rw[ò,zO];simpa using hB1
 have Q:=(e8.gE _ _ _ _).fe O;have Lv:=(ff.N w [Â Æ 0,Ñ Ï,Â Æ 0] 252).I O id;go_at_call 173;refine(H.out.2 t P<|H.out.1.r Q id).mono ?_;rintro e u ⟨rfl,lv,d⟩;have b:=Lv.I d.C (λq=>q.elim (λq=>absurd q<|by show w.heap.size≠w.heap.size+1;omega) λq=>by cases q);have s5:=d.C.M;have hlv:u.cell? ⟨w.heap.size+1,144,Ä⟩=Ã lv:=d.r.Jh Z;obtain⟨la,lc,rfl⟩:=jj d.I;have l0:=b.M;have y0:=b.C 0;have y1:=b.C 1;have y2:=b.C 2;have c0:=b.r 0 _ U;have c1:=b.r 1 _ U;have c2:=b.r 2 _ U;have Tn:w.heap.size+1<u.heap.size:=Z
 have c:=fc<|Á d<|Á b<|Á Q P;go_wp2_with fail;go_region;go_wp2_with fail;let⟨d2,na,rZ⟩:=Ì.1 Tg;have S:=((e8.I (X:=λk=>k=w.heap.size) (w:=u) (p:=⟨w.heap.size,0,Ä⟩) U<|Â Æ r.r).fe<|e8.I (X:=λk=>k=w.heap.size) (p:=⟨w.heap.size,1,Ä⟩) U<|Ñ r.C).fe (e8.I (X:=λk=>k=w.heap.size) (p:=⟨w.heap.size,2,Ä⟩) U<|Â Æ r.M);have v:=λW=>(e8.gE (λ_=>False) W #[Â Æ r.r,Ñ r.C,Â Æ r.M] 252).fe<|e8.fS _ _;apply ð (zM U U (ff.Y (vs:=[Â Æ r.r,Ñ r.C,Â Æ r.M])<|(((c.out.2.1.fP 0<|Â Æ r.r).fP 1<|Ñ r.C).fP 2<|Â Æ r.M).I (v _) id) na rZ Ti) U;refine⟨_,U,ie (ie c.out.1.I S λj hj y=> ?_) (v _) λ_ _=>id,?_⟩
 .let⟨j,i⟩:=lX c.out.1.I hj;rw[y,c.out.2.1]at i;cases i
 .refine((c.out.2.2.1.C c.out.1.C λi j q=> ?_).C S λi j q=> ?_).fe<|v _
  .rcases q with q|q
   .exact absurd q<|by show i≠w.heap.size+1;omega
   .cases q
  .omega
def oD(s:St)(x y:Nat)(k:Int):Nat->Nat->ByteArray
 |_,0=>⟨#[45]⟩
 |i,n+1=>if(gi s [] x y i k).C then fI i else oD s x y k (i+1) n
noncomputable def ND:ŏ:=(Tryz.f120.body.bind kt).getD Ķ
def Dw(a x y:Nat)(k:Int)(r:Ç)(i:Int)(u:Nat->Ç):é:=⟨#[Å<|Ã ⟨a,0,Ä⟩,Â Ë x,Â Ë y,Â Æ k,u 4,u 5,u 6,u 7,r,u 9,u 10,u 11,Â Æ i,u 13,u 14,u 15,u 16,u 17,u 18,u 19,u 20,u 21,u 22,u 23,u 24,u 25,u 26,u 27,u 28,u 29],[]⟩
def zW(b x y:Nat)(k:Int)(r:Ç)(i:Int)(a:é):Prop:=∃u,a=Dw b x y k r i u
theorem lO.r(h:lO w)(q:e8 (λ_=>False) w u):lO u:=by
 unfold lO ae World.var? at*;cases a:À.globalNamed "internal/strconv.uint64pow10" with
 |none=>rw[a]at h;cases h
 |some g=>
  rw[a]at h;simp only[Option.bind_some]at h|-;have b:g<w.heap.size:=by grind
  rwa[q.N g b id]
section
variable{Y:é->É->Prop}{s:St}
def aoI(b:Ç)(u:Nat->Ç)(d:∀a,zW j i n c b 401 a->H a w): Î À ND (Exit.then K<|QN H Y) (Dw j i n c b 401 u) w:=by
 unfold Dw;conv=>arg 2;whnf
 go_wp2_with fail
 exact d _ (gh _)
def aoJ(p:Ç)(u:Nat->Ç)(b:Nat)(P:b<401)(B:my j s h w)(C:gH s)(D:iJ w)(E:lO w)(F:i<8)(G:n<8)(I:gd c) (q:(gi s [] i n b c).C=Ï->∀a g,zW j i n c p ((b+1:Nat):Int) a->e8 (λ_=>False) w g->K a g) (r:(gi s [] i n b c).C=Ú->∀a g,zW j i n c (Í<|fI b) b a->e8 (λ_=>False) w g->Y a g): Î À ND (Exit.then K<|QN H Y) (Dw j i n c p b u) w:=by
 unfold Dw;conv=>arg 2;whnf
 have T:=aaD B C D i n b c F G Z Z I _ U;obtain⟨t,o,v,x,y,J⟩:∃t o v x y,gi s [] i n b c=⟨t,o,v,x,y⟩:=⟨_,_,_,_,_,U⟩;rw[J]at T q r;have d:=fc<|Á T<|Á q<|Á r E;cases o with
 |true=>
  go_wp2_with (first
   |(go_at_call 158;refine d.out.1.mono ?_;rintro e l ⟨L,rfl,f,k⟩;obtain⟨M,N,rfl⟩:=jj f;have m:=fc<|Á k f;clear k f)
   |(go_at_call 118;refine(yc b Z _ (d.out.2.2.2.r (m.out.1.fe (e8.gE (λ_=>False) l _ _)))).mono ?_;rintro e Q ⟨rfl,z⟩;have O:=fc z;clear z))
  exact d.out.2.2.1 trivial _ _ (gh _)<|(m.out.1.fe<|e8.gE (λ_=>False) l _ _).fe O.out
 |false=>
  go_wp2_with (first
   |(go_at_call 158;refine d.out.1.mono ?_;rintro e l ⟨L,rfl,f,k⟩;obtain⟨M,N,rfl⟩:=jj f;have m:=fc (Á k f);clear k f))
  exact d.out.2.1 trivial _ _ (gh _)<|m.out.1.fe<|e8.gE (λ_=>False) l _ _
def LI(j i n:Nat)(c:Int)(d:Ç)(s:St)(e:É)(f:ByteArray)(a:é)(w:É):Prop:=
 ∃b:Nat,zW j i n c d b a/\b<=401/\e8 (λ_=>False) e w/\oD s i n c b (401-b)=f
def LE(j i n:Nat)(c:Int)(b:Ç)(d:É)(e:ByteArray)(a:é)(w:É):Prop:=zW j i n c b 401 a/\e8 (λ_=>False) d w/\e=⟨#[45]⟩
def LR(j i n:Nat)(c:Int)(d:É)(e:ByteArray)(a:é)(w:É):Prop:=∃b,zW j i n c (Í e) b a/\e8 (λ_=>False) d w
def NG(a:é)(_:É):Nat:=match a.tmps.getD 12 Ă with
 |Â _ i=>401-i.toNat
 |_=>0
def aaE(d:zW j i n c v b y):NG y w=401-b:=by obtain⟨u,rfl⟩:=d;show 401-(b:Int).toNat=_;simp
def aoK(p:my j s h u)(r:gH s)(t:iJ u)(x:lO u)(y:i<8)(z:n<8)(C:gd c)(a:é)(w:É)(D:LI j i n c v s u B a w): Î À ND (Exit.then (λg k=>LI j i n c v s u B g k/\NG g k<NG a w)<|QN (LE j i n c v u B)<|LR j i n c u B) a w:=by
 let⟨b,o,H,e,f⟩:=D;rw[aaE (w:=w) o];obtain⟨d,rfl⟩:=o;by_cases E:b=401
 .subst E;exact aoI v d λa q=>⟨q,e,f.symm⟩
 .have F:401-b=(401-(b+1))+1:=Z
  rw[F,oD]at f;refine aoJ v d b Z (p.r e id) r (t.r e id) (x.r e) y z C ?_ ?_
  .intro l g k q m;rw[l]at f;exact⟨⟨b+1,q,Z,e.fe m,f⟩,by rw[aaE q];omega⟩
  .intro l g k q m;rw[l]at f;have G:fI b=B:=f;rw[G]at q;exact⟨b,q,e.fe m⟩
def aoL(d:my j s h w)(f:gH s)(g:iJ w)(k:lO w)(l:i<8)(m:n<8)(o:gd c): Ò À 120 #[Å<|Ã ⟨j,0,Ä⟩,Â Ë i,Â Ë n,Â Æ c] w λe a=>e=È (Í<|oD s i n c 0 401)/\e8 (λ_=>False) w a:=by
 have L:∀a,zW j i n c (Í ⟨#[]⟩) 0 a->Î À (à ND) (QN (LE j i n c (Í ⟨#[]⟩) w<|oD s i n c 0 401)<|LR j i n c w<|oD s i n c 0 401) a w:=λa p=>
  ĉ (LI j i n c (Í ⟨#[]⟩) s w<|oD s i n c 0 401) NG ⟨0,p,â _,e8.fU _ _,U⟩<|aoK d f g k l m o
 generalize oD s i n c 0 401=r at*;go_enter Tryz.func120,Tryz.ntmps120;go_wp2_with fail;refine Ý ?_ ((fc L).out _ (gh _));rintro(_|(_|_)|_|_|_|_) a v hq;all_goals first|exact absurd hq id|skip
 .obtain⟨b,q,rfl⟩:=hq;obtain⟨u,rfl⟩:=b;unfold Dw;go_wp2_with fail;go_ret;simp_all
 .let⟨e,b,q⟩:=hq;obtain⟨u,rfl⟩:=b;unfold Dw;go_wp2_with fail;go_ret;simp_all
end
def zY:(À.info? 9).map (λi=>(i.zero,i.size,i.bytes))=Ã (Ã<|Í ⟨#[]⟩,1,16):=fp
def jq(xs:List ByteArray):List Ç:=xs.map Í
structure ig(w0:É)(tv:Ç)(xs:List ByteArray)(w:É):Prop where
 fj:w.ownsRow w0.heap.size 9 1 tv xs.length (jq xs)
 r:e8 (λ_=>False) w0 w
section
variable{w0:É}{tv:Ç}{xs:List ByteArray}
def ig.M(w0:É){w:É}(k:e8 (λ_=>False) w0 w):ig w0 (Ê Ä 0 0) [] w:=⟨ā _ _ _ _,k⟩
def ig.fK(h:ig w0 tv xs w)(k:e8 (λ_=>False) w u):ig w0 tv xs u:=⟨ie h.fj k λ_ _=>id,h.r.fe k⟩
def ig.C(h:ig w0 tv xs w)(a:qy w w0.heap.size 9 1 tv xs.length (jq xs) 1 [Í B] v u):ig w0 v (xs++[B]) u:=by
 refine⟨?_,h.r.C a.r λi b q=> ?_⟩
 .have:=a.fj;rwa[show jq xs++[Í B]=jq (xs++[B]) by simp[jq],show xs.length+1=(xs++[B]).length by simp]at this
 .have:=(h.fj.lt i q).1;omega
end
theorem pN(u:Nat)(h:u<18446744073709551616):(fI u).size<=20:=by have:=Lib.nDigits_le20 u h;unfold fI;show(Ļ u).toArray.size<=20;grind [ģ]
def nK(p:Option Ą)(a:List Ç)(w:É):Prop:=∀(j:Nat) (x:Ç),a[j]?=Ã x->∃b o,p=Ã ⟨b,o,Ä⟩/\w.cell? ⟨b,o+j,Ä⟩=Ã x
def nK.C(h:nK O l w)(q:e8 (λ_=>False) w u):nK O l u:=λj x a=>by let⟨b,o,c,d⟩:=h j x a;exact⟨b,o,c,q.r d id⟩
def nK.r{base:Nat}(h:w.ownsRow base e i (Ê O n j) n l):nK O l w:=λb x d=>by
 rcases h.2 with⟨f,k⟩|⟨g,m,o,f,_⟩
 .have:=h.1;rw[k,Nat.zero_mul]at this;rw[ß this]at d;cases d
 .cases f;refine⟨g,0,U,?_⟩;have:=h.cells (g:=g) U b x d;rwa[Addr.add_mid]at this
def TR{α:Type}(f g:α->Ç):∀(l:List α) (j:Nat) (x:α),l[j]?=Ã x->(l.flatMap λp=>[f p,g p])[j*2]?=Ã (f x)/\(l.flatMap λp=>[f p,g p])[j*2+1]?=Ã (g x)
 |[],j,x,h=>by cases h
 |a::l,0,x,h=>by cases h;exact⟨U,U⟩
 |a::l,j+1,x,h=>by rw[show(j+1)*2=j*2+1+1 by omega];exact TR f g l j x h
def iF(y:Nat):ByteArray:=ø ⟨#[97,98,99,100,101,102,103,104]⟩ y<|y+1
def rC(e:Nat×Int):ByteArray:=iF e.1++fI e.2.toNat
noncomputable def NH:ŏ:=(Tryz.f124.body.bind kt).getD Ķ
def F6(a:Option Ą)(n b:Nat)(c:Ç)(i:Int)(u:Nat->Ç):é:=⟨#[Ê a n b,u 1,u 2,c,u 4,u 5,Ê a n b,Â Ë n,Â Ë i,u 9,u 10,u 11,u 12,u 13,u 14,u 15,u 16,u 17,u 18,u 19,u 20,u 21,u 22,u 23,u 24,u 25,u 26],[]⟩
def F7(b:Option Ą)(n c:Nat)(d:Ç)(i:Int)(a:é):Prop:=∃u,a=F6 b n c d i u
section
variable{X:é->É->Prop}{w0:É}{cp:Nat}{tv:Ç}{xs:List ByteArray}
def aoM(u:Nat->Ç)(i:Int)(b:i=n)(c:∀a,F7 O n cp tv n a->X a w): Î À NH (Exit.then K<|QQ X) (F6 O n cp tv i u) w:=by
 unfold F6;conv=>arg 2;whnf
 subst b;go_wp2_with fail;exact c _ (gh _)
def aoN(u:Nat->Ç)(r:ig w0 tv xs w)(j:Nat)(N:j<n)(P:n<=400000)(Q:xs.length<=400000)(y p:Nat)(S:y<8)(s:p<18446744073709551616)(B:lO w)(l m:Nat)(C:O=Ã ⟨l,m,Ä⟩)(T:w.cell? ⟨l,m+j*2,Ä⟩=Ã (Â Ë y))(V:w.cell? ⟨l,m+j*2+1,Ä⟩=Ã (Â Æ p)) (b:∀a d t,F7 O n cp t ((j+1:Nat):Int) a->ig w0 t (xs++[iF y++fI p]) d->K a d): Î À NH (Exit.then K<|QQ X) (F6 O n cp tv j u) w:=by
 unfold F6;conv=>arg 2;whnf
 subst C;have W:(0:Int)<=(j:Int):=Z
 have Y:(j:Int)<(n:Int):=Z
 have y0:(0:Int)<=(y:Int):=Z
 have y1:(y:Int)<8:=Z
 have ji:=pN p s;have oS:Ë.wrap ((y:Int)+1)=(y:Int)+1:=by rw[ó];omega
 have Fs:(0:Int)<=(y:Int)+1:=Z
 have zg:(y:Int)+1<=8:=Z
 have rm:(y:Int)<=(y:Int)+1:=Z
 have uG:((y:Int)+1).toNat=y+1:=Z
 have xT:¬9223372036854775807<min (y+1) 8-y+(fI p).size:=Z
 obtain⟨ta,tc,rfl⟩:=jj r.fj;have H:=fc<|Á r<|Á B b;go_wp2_with fail;change Î À _ _ _ (w.alloc<|Ð #[Â Ë y,Â Æ p] 257);have v:=e8.gE (λ_=>False) w #[Â Ë y,Â Æ p] 257;have D:=(H.out.1.fK v).fK<|e8.fS _ _;have E:=(H.out.2.1.r v).r<|e8.fS _ _;have o:=(ff.N w [Â Ë y,Â Æ p] 257).I (e8.fS (λ_=>False) _) id;let⟨i0,F,G,I,J⟩:=í zY;have g:=fc<|Á F<|Á G<|Á I J;refine mq (λd=>d.cell? ⟨w.heap.size,0,Ä⟩=Ã (Â Ë y)/\d.cell? ⟨w.heap.size,1,Ä⟩=Ã (Â Æ p)) [] fp ?_;have c:=fc<|Á (o.r 0 _ rfl)<|o.r 1 _ rfl;generalize w.heap.size=ub at*;generalize Č (w.alloc<|Ð #[Â Ë y,Â Æ p] 257)=w1 at*;apply tk 0 c.out;apply tk 1 c.out;apply tk 2 c.out;apply tk 3 c.out;apply tk 4 c.out;apply tk 5 c.out;apply tk 6 c.out;apply tk 7 c.out;apply tk 8 c.out;apply gA 9;intro K b;go_simp;go_at_call 118;refine(yc p s _ E).mono ?_;rintro e L ⟨rfl,x⟩;have M:=D.fK x;have f:=o.I x id;apply b.out _ _ λ_=>⟨f.r 0 _ U,f.r 1 _ U⟩;apply gA 10;intro K b;go_simp;apply b.out _ _ λ_=>⟨f.r 0 _ U,f.r 1 _ U⟩;have z:=e8.gE (λ_=>False) L #[Í<|iF y++fI p] 9;have h:=M.fK z;have i:=f.I z id;apply gA 11;intro K b;go_simp;apply b.out _ _ λ_=>⟨i.r 0 _ U,i.r 1 _ U⟩;apply gA 12;intro K b;refine Na fM _ _ 25 fM ù g.out.1 g.out.2.1 g.out.2.2.1 g.out.2.2.2 U fM h.fj ⟨_,0,Ä⟩ [Í<|iF y++fI p] fM Z U (ÿ _ _ _) (λu k=>by simp at k;subst k;rfl) (by unfold ą;omega) Z h.r.M ?_;intro tv1 w9 q;obtain⟨a2,cp2,rfl⟩:=jj q.fj;have k:=i.I q.r<|jD h.fj i A;apply b.out _ _ λ_=>⟨k.r 0 _ U,k.r 1 _ U⟩;apply gA 13;intro K b;go_simp;apply b.out _ _ λ_=>⟨k.r 0 _ U,k.r 1 _ U⟩;refine lY fp ?_ _;go_wp2_with fail;exact H.out.2.2 _ _ _ (gh _)<|h.C q
def TS(O:Option Ą)(n cp:Nat)(w0:É)(l:List (Nat×Int))(a:é)(w:É):Prop:=
 ∃(j:Nat) (tv:Ç),F7 O n cp tv j a/\j<=n/\ig w0 tv ((l.take j).map rC) w
def ltE(O:Option Ą)(n cp:Nat)(w0:É)(l:List (Nat×Int))(a:é)(w:É):Prop:=
 ∃tv,F7 O n cp tv n a/\ig w0 tv (l.map rC) w
def NJ(n:Nat)(a:é)(_:É):Nat:=match a.tmps.getD 8 Ă with
 |Â _ i=>n-i.toNat
 |_=>0
def aaF(b:F7 O n cp tv i y):NJ n y w=n-i:=by obtain⟨u,rfl⟩:=b;show n-(i:Int).toNat=_;simp
theorem aoO{l:List (Nat×Int)}(D:n=l.length)(k:n<=400000)(m:yb l)(o:lO w0)(f:nK O (kr l) w0)(a:é)(w:É)(p:TS O n cp w0 l a w): Î À NH (Exit.then (λb d=>TS O n cp w0 l b d/\NJ n b d<NJ n a w)<|QQ<|ltE O n cp w0 l) a w:=by
 let⟨j,tv,g,E,b⟩:=p;rw[aaF g];obtain⟨u,rfl⟩:=g;by_cases r:j=n
 .subst r;refine aoM u _ U λa q=>⟨tv,q,?_⟩;grind
 .obtain⟨x,e⟩:∃x,l[j]?=Ã x:=⟨_,Ô Z⟩;obtain⟨g0,s⟩:=TR _ _ l j x e;let⟨t,v,h,y⟩:=f (j*2) _ g0;let⟨F,G,i,z⟩:=f (j*2+1) _ s;rw[h]at i;cases i;have c:=m x<|ġ e;refine aoN u b j Z k (by simp;omega) x.1 x.2.toNat c.1 (by have:=c.2.1;have:=c.2.2;omega) (o.r b.r) t v h (b.r.r y id) (by rw[Ĕ c.2.1];exact b.r.r z id) λa d B q C=>⟨⟨j+1,B,q,Z,?_⟩,by rw[aaF q];omega⟩;rwa[Α,e,Υ]
def aaG{l:List (Nat×Int)}(b:n=l.length)(g:n<=400000)(c:yb l)(d:lO w)(f:nK O (kr l) w): Ò À 124 #[Ê O n cp] w λe a=>∃tv,e=È tv/\ig w tv (l.map rC) a:=by
 have L:∀a,F7 O n cp (Ê Ä 0 0) (0:Nat) a->Î À (à NH) (QQ<|ltE O n cp w l) a w:=λa e=>
  ĉ (TS O n cp w l) (NJ n) ⟨0,_,e,â _,ig.M w<|e8.fU _ _⟩<|aoO b g c d f
 have H:=fc L;clear L c d f b;go_enter Tryz.func124,Tryz.ntmps124;go_wp2_with fail;refine Ý ?_ (H.out _ (gh _));rintro(_|(_|_)|_|_|_|_) a v hq;all_goals first|exact absurd hq id|skip
 let⟨tv,h,i⟩:=hq;obtain⟨u,rfl⟩:=h;unfold F6;go_wp2_with fail;go_ret;simp_all
end
def aaH(b:Bool):xM b=((b.toNat:Nat):Int):=by cases b<;>rfl
def F8(e:Int×Bool):ByteArray:=fI e.2.toNat++⟨#[58]⟩++fI e.1.toNat
noncomputable def NK:ŏ:=(Tryz.f125.body.bind kt).getD Ķ
def F9(a:Option Ą)(n b:Nat)(c:Ç)(i:Int)(u:Nat->Ç):é:=⟨#[Ê a n b,u 1,u 2,c,u 4,u 5,Ê a n b,Â Ë n,Â Ë i,u 9,u 10,u 11,u 12,u 13,u 14,u 15,u 16,u 17,u 18,u 19,u 20,u 21,u 22,u 23,u 24,u 25],[]⟩
def Gb(b:Option Ą)(n c:Nat)(d:Ç)(i:Int)(a:é):Prop:=∃u,a=F9 b n c d i u
section
variable{cp:Nat}{xs:List ByteArray}
def aoP(u:Nat->Ç)(i:Int)(b:i=n)(c:∀a,Gb O n cp v n a->H a w): Î À NK (Exit.then K<|QQ H) (F9 O n cp v i u) w:=by
 unfold F9;conv=>arg 2;whnf
 subst b;go_wp2_with fail;exact c _ (gh _)
def aoQ(c:Nat->Ç)(r:ig u v xs w)(j:Nat)(hj:j<n)(hn:n<=1000)(um:xs.length<=1000)(p:Nat)(b:Bool)(C:p<18446744073709551616)(D:lO w)(s t:Nat)(V:O=Ã ⟨s,t,Ä⟩)(W:w.cell? ⟨s,t+j*2,Ä⟩=Ã (Â Æ p))(X:w.cell? ⟨s,t+j*2+1,Ä⟩=Ã (Ñ b)) (f:∀a h E,Gb O n cp E ((j+1:Nat):Int) a->ig u E (xs++[fI b.toNat++⟨#[58]⟩++fI p]) h->K a h): Î À NK (Exit.then K<|QQ H) (F9 O n cp v j c) w:=by
 unfold F9;conv=>arg 2;whnf
 subst V;have ji:=pN p C;have F:b.toNat<18446744073709551616:=by cases b<;>decide
 have hsb:=pN b.toNat F;have xT:¬9223372036854775807<(fI b.toNat).size+1:=Z
 have hw5:¬9223372036854775807<(fI b.toNat).size+1+(fI p).size:=Z
 obtain⟨ta,tc,rfl⟩:=jj r.fj;have d:=fc<|Á r<|Á D f;clear r D f;go_wp2_with fail;change Î À _ _ _ (w.alloc<|Ð #[Â Æ p,Ñ b] 246);have G:=e8.gE (λ_=>False) w #[Â Æ p,Ñ b] 246;have Y:=(d.out.1.fK G).fK<|e8.fS _ _;have I:=(d.out.2.1.r G).r<|e8.fS _ _;have x:ff w.heap.size [Â Æ p,Ñ b] 246 (Č<|w.alloc<|Ð #[Â Æ p,Ñ b] 246):=(ff.N w [Â Æ p,Ñ b] 246).I (e8.fS (λ_=>False) _) id;let⟨i0,J,L,M,N⟩:=í zY;have k:=fc<|Á J<|Á L<|Á M N;clear J L M N W X;refine mq (λh=>h.cell? ⟨w.heap.size,0,Ä⟩=Ã (Â Æ p)/\h.cell? ⟨w.heap.size,1,Ä⟩=Ã (Ñ b)) [] fp ?_;have g:=fc<|Á (x.r 0 _ rfl)<|x.r 1 _ rfl;generalize w.heap.size=ub at*;generalize Č (w.alloc<|Ð #[Â Æ p,Ñ b] 246)=w1 at*;apply tk 0 g.out;apply tk 1 g.out;apply tk 2 g.out;apply tk 6 g.out;apply tk 7 g.out;apply gA 3;intro K f;go_simp;go_at_call 159;refine(Ji _ _).mono ?_;rintro e P ⟨rfl,rm⟩;subst P;dsimp only;rw[aaH];apply f.out _ _ λ_=>g.out;clear f K;apply gA 4;intro K f;go_simp;go_at_call 118;refine(yc b.toNat F _ I).mono ?_;rintro e P ⟨rfl,y⟩;have T2:=Y.fK y;have z:=x.I y id;have P2:=I.r y;have Q:=fc<|Á (z.r 0 _ rfl)<|z.r 1 _ rfl;dsimp only;apply f.out _ _ λ_=>Q.out;clear f K;apply tk 5 Q.out;apply gA 8;intro K f;go_simp;go_at_call 118;refine(yc p C _ P2).mono ?_;rintro e w3 ⟨rfl,S⟩;have i:=z.I S id;dsimp only;apply f.out _ _ λ_=>⟨i.r 0 _ U,i.r 1 _ U⟩;clear f K;apply gA 9;intro K f;go_simp;apply f.out _ _ λ_=>⟨i.r 0 _ U,i.r 1 _ U⟩;clear f K;have T:=e8.gE (λ_=>False) w3 #[Í<|fI b.toNat++⟨#[58]⟩++fI p] 9;have l:=(T2.fK S).fK T;have o:=i.I T id;apply gA 10;intro K f;go_simp;apply f.out _ _ λ_=>⟨o.r 0 _ U,o.r 1 _ U⟩;clear f K;apply gA 11;intro K f;refine Na (base:=u.heap.size) (n:=xs.length) (xs:=jq xs) (m:=1) fM _ _ 25 fM ù k.out.1 k.out.2.1 k.out.2.2.1 k.out.2.2.2 U fM l.fj ⟨_,0,Ä⟩ [Í<|fI b.toNat++⟨#[58]⟩++fI p] fM Z U (ÿ _ _ _) (λc q=>by simp at q;subst q;rfl) (by unfold ą;omega) Z l.r.M ?_;intro tv1 w9 B;obtain⟨a2,cp2,rfl⟩:=jj B.fj;have q:=o.I B.r<|jD l.fj o A;apply f.out _ _ λ_=>⟨q.r 0 _ U,q.r 1 _ U⟩;clear f K;apply gA 12;intro K f;go_simp;apply f.out _ _ λ_=>⟨q.r 0 _ U,q.r 1 _ U⟩;clear f K;try simp only[ĵ,Õ,ã,ä]
 refine lY fp ?_ _;go_wp2_with fail;exact d.out.2.2 _ _ _ (gh _)<|l.C B
def TT(O:Option Ą)(n cp:Nat)(u:É)(l:List (Int×Bool))(a:é)(w:É):Prop:=
 ∃(j:Nat) (v:Ç),Gb O n cp v j a/\j<=n/\ig u v ((l.take j).map F8) w
def TU(O:Option Ą)(n cp:Nat)(u:É)(l:List (Int×Bool))(a:é)(w:É):Prop:=
 ∃v,Gb O n cp v n a/\ig u v (l.map F8) w
def NL(n:Nat)(a:é)(_:É):Nat:=match a.tmps.getD 8 Ă with
 |Â _ i=>n-i.toNat
 |_=>0
def aaI(b:Gb O n cp v i y):NL n y w=n-i:=by obtain⟨u,rfl⟩:=b;show n-(i:Int).toNat=_;simp
def aoR{l:List (Int×Bool)}(m:n=l.length)(o:n<=1000)(p:zU l)(r:lO u)(g:nK O (uQ l) u)(a:é)(w:É)(s:TT O n cp u l a w): Î À NK (Exit.then (λb d=>TT O n cp u l b d/\NL n b d<NL n a w)<|QQ<|TU O n cp u l) a w:=by
 let⟨j,v,h,G,c⟩:=s;rw[aaI h];obtain⟨b,rfl⟩:=h;by_cases t:j=n
 .subst t;refine aoP b _ U λa q=>⟨v,q,?_⟩;rwa[m,List.take_length]at c
 .obtain⟨x,e⟩:∃x,l[j]?=Ã x:=⟨_,Ô Z⟩;obtain⟨g0,y⟩:=TR _ _ l j x e;let⟨z,B,i,C⟩:=g (j*2) _ g0;let⟨H,I,k,D⟩:=g (j*2+1) _ y;rw[i]at k;cases k;have f:=p x<|ġ e;refine aoQ b c j Z o (by simp;omega) x.1.toNat x.2 (by have:=f.1;have:=f.2;omega) (r.r c.r) z B i (by rw[Ĕ f.1];exact c.r.r C id) (c.r.r D id) λa d E q F=>⟨⟨j+1,E,q,Z,?_⟩,by rw[aaI q];omega⟩;rwa[Α,e,Υ]
def aoS{l:List (Int×Bool)}(b:n=l.length)(g:n<=1000)(c:zU l)(d:lO w)(f:nK O (uQ l) w): Ò À 125 #[Ê O n cp] w λe a=>∃v,e=È v/\ig w v (l.map F8) a:=by
 have L:∀a,Gb O n cp (Ê Ä 0 0) (0:Nat) a->Î À (à NK) (QQ<|TU O n cp w l) a w:=λa h=>
  ĉ (TT O n cp w l) (NL n) ⟨0,_,h,â _,ig.M w<|e8.fU _ _⟩<|aoR b g c d f
 have H:=fc L;clear L c d f b;go_enter Tryz.func125,Tryz.ntmps125;go_wp2_with fail;refine Ý (Q:=QQ<|TU O n cp w l) ?_ (H.out _ (gh _));rintro(_|(_|_)|_|_|_|_) a v hq;all_goals first|exact absurd hq id|skip
 let⟨v,i,e⟩:=hq;obtain⟨u,rfl⟩:=i;unfold F9;have j:=fc e;clear e;go_wp2_with fail;go_ret;exact⟨_,U,j.out⟩
end
def Dx(j:Nat):ByteArray:=ø ⟨#[48,49,50,51,52,53,54,55,56,57,97,98,99,100,101,102]⟩ j<|j+1
def Dy(s t:St)(i j:Nat):List ByteArray:=if(s i).C j=(t i).C j then[]else[iF i++Dx j]
def qH(s t:St)(i j:Nat):List ByteArray:=(ċ j).flatMap<|Dy s t i
def vW(b a:Int)(p c:ByteArray)(i:Nat):List ByteArray:=(if b=a then[]else[iF i++⟨#[36]⟩])++(if p.toList=c.toList then[]else[iF i++⟨#[123]⟩])
def yd(s t:St)(i:Nat):List ByteArray:=vW (s i).fu (t i).fu (s i).r (t i).r i++qH s t i 16
def pO(s t:St)(n:Nat):List ByteArray:=(ċ n).flatMap<|yd s t
def aoT(s t:St)(i j:Nat):(Dy s t i j).length<=1:=by unfold Dy;split<;>simp
def TV(s t:St)(i j:Nat):qH s t i (j+1)=qH s t i j++Dy s t i j:=by unfold qH;rw[Ŏ,Ţ];simp
theorem NM(s t:St)(i:Nat):∀j,(qH s t i j).length<=j
 |0=>by simp[qH]
 |j+1=>by rw[TV,Ó];have:=NM s t i j;have:=aoT s t i j;omega
theorem aaJ(b a:Int)(p c:ByteArray)(i:Nat):(vW b a p c i).length<=2:=by unfold vW;rw[Ó];split<;>split<;>simp
def aaK(s t:St)(n:Nat):pO s t (n+1)=pO s t n++yd s t n:=by unfold pO;rw[Ŏ,Ţ];simp
def TW(s t:St):∀n,(pO s t n).length<=18*n
 |0=>by simp[pO]
 |n+1=>by rw[aaK,Ó];have:=TW s t n;unfold yd;rw[Ó];have:=NM s t n 16;have:=aaJ (s n).fu (t n).fu (s n).r (t n).r n;omega
def ye(i:Nat):(iF i).size<=1:=by unfold iF;rw[ŋ];omega
def aaL(i:Nat):(Dx i).size<=1:=by unfold Dx;rw[ŋ];omega
def my.gT{s:St}(c:my n s h W)(a:i<8):W.cell? ⟨n,i*18,Ä⟩=Ã (Â Æ (s i).fu)/\W.cell? ⟨n,i*18+1,Ä⟩=Ã (Í (s i).r)/\∀j,j<16->W.cell? ⟨n,i*18+2+j,Ä⟩=Ã (Â Æ<|(s i).C j):=by
 have g:∀j,j<144->W.cell? ⟨n,j,Ä⟩=Ã (qA s j):=λj b=>by have:=c.C j _<|TF s b;simpa using this
 refine⟨?_,?_,λj b=> ?_⟩
 .rw[g _ Z,<-ry s (Ê Ä 0 0) Z,Jg _ _ a];rfl
 .rw[g _ Z,<-ry s (Ê Ä 0 0) Z,M3 _ _ a]
 .rw[g _ Z,<-ry s (Ê Ä 0 0) Z,M4 _ _ a b];rfl
noncomputable def zZ:ŏ:=(Tryz.f126.body.bind kt).getD Ķ
noncomputable def yf:ŏ:=(kt zZ).getD Ķ
def uT(a b i:Nat)(c:Ç)(j:Int)(u:Nat->Ç):é:=⟨#[Å<|Ã ⟨a,0,Ä⟩,Å<|Ã ⟨b,0,Ä⟩,u 2,u 3,u 4,c,Â Ë i,Í<|iF i,Å<|Ã ⟨a,i*18,Ä⟩,Å<|Ã ⟨b,i*18,Ä⟩,u 10,Â Ë i,u 12,u 13,u 14,u 15,u 16,u 17,u 18,u 19,u 20,u 21,u 22,u 23,u 24,u 25,u 26,u 27,u 28,u 29,u 30,u 31,u 32,u 33,u 34,u 35,u 36,u 37,u 38,u 39,u 40,u 41,u 42,u 43,u 44,u 45,u 46,u 47,u 48,u 49,u 50,u 51,u 52,u 53,Â Ë j,u 55,u 56,u 57,u 58,u 59,u 60,u 61,u 62,u 63,u 64,u 65,u 66,u 67,u 68,u 69,u 70,u 71,u 72,u 73,u 74,u 75,u 76,u 77,u 78,u 79,u 80,u 81],[]⟩
def uU(b c i:Nat)(d:Ç)(j:Int)(a:é):Prop:=∃u,a=uT b c i d j u
def tJ(a b:Nat)(c:Ç)(i:Int)(u:Nat->Ç):é:=⟨#[Å<|Ã ⟨a,0,Ä⟩,Å<|Ã ⟨b,0,Ä⟩,u 2,u 3,u 4,c,u 6,u 7,u 8,u 9,u 10,Â Ë i,u 12,u 13,u 14,u 15,u 16,u 17,u 18,u 19,u 20,u 21,u 22,u 23,u 24,u 25,u 26,u 27,u 28,u 29,u 30,u 31,u 32,u 33,u 34,u 35,u 36,u 37,u 38,u 39,u 40,u 41,u 42,u 43,u 44,u 45,u 46,u 47,u 48,u 49,u 50,u 51,u 52,u 53,u 54,u 55,u 56,u 57,u 58,u 59,u 60,u 61,u 62,u 63,u 64,u 65,u 66,u 67,u 68,u 69,u 70,u 71,u 72,u 73,u 74,u 75,u 76,u 77,u 78,u 79,u 80,u 81],[]⟩
def vY(b c:Nat)(d:Ç)(i:Int)(a:é):Prop:=∃u,a=tJ b c d i u
section
variable{X:é->É->Prop}{w0:É}{xs:List ByteArray}{s t:St}
def aoU(u:Nat->Ç)(b:∀a,uU n j i v (16:Nat) a->X a w): Î À yf (Exit.then K<|Q2 X) (uT n j i v (16:Nat) u) w:=by
 unfold uT;conv=>arg 2;whnf
 go_wp2_with fail
 exact b _ (gh _)
def aoV(u:Nat->Ç)(b:Nat)(d:i<8)(e:b<16)(p:Int)(f:w.cell? ⟨n,i*18+2+b,Ä⟩=Ã (Â Æ p))(g:w.cell? ⟨j,i*18+2+b,Ä⟩=Ã (Â Æ p)) (c:∀a,uU n j i v ((b+1:Nat):Int) a->K a w.drew): Î À yf (Exit.then K<|Q2 X) (uT n j i v b u) w:=by
 unfold uT;conv=>arg 2;whnf
 have h:(0:Int)<=(b:Int):=Z
 have k:(b:Int)<16:=Z
 have H:=fc c;clear c;go_wp2_with fail;go_region;go_wp2_with fail;exact H.out _ (gh _)
def aoW(u:Nat->Ç)(d:ig w0 v xs w)(t:xs.length<=1000)(b:Nat)(x:i<8)(y:b<16)(p q:Int)(z:(p==q)=Ï)(B:w.cell? ⟨n,i*18+2+b,Ä⟩=Ã (Â Æ p))(C:w.cell? ⟨j,i*18+2+b,Ä⟩=Ã (Â Æ q)) (f:∀a g h,uU n j i g ((b+1:Nat):Int) a->ig w0 g (xs++[iF i++Dx b]) h->K a h): Î À yf (Exit.then K<|Q2 X) (uT n j i v b u) w:=by
 unfold uT;conv=>arg 2;whnf
 have D:(0:Int)<=(b:Int):=Z
 have E:(b:Int)<16:=Z
 have F:Ë.wrap ((b:Int)+1)=(b:Int)+1:=by rw[ó];omega
 have G:(0:Int)<=(b:Int)+1:=Z
 have I:(b:Int)+1<=16:=Z
 have J:(b:Int)<=(b:Int)+1:=Z
 have L:((b:Int)+1).toNat=b+1:=Z
 have M:¬9223372036854775807<(iF i).size+(Dx b).size:=by have:=ye i;have:=aaL b;omega
 have N:ø ⟨#[48,49,50,51,52,53,54,55,56,57,97,98,99,100,101,102]⟩ b (b+1)=Dx b:=U;obtain⟨O,P,rfl⟩:=jj d.fj;let⟨Q,k,l,o,r⟩:=í zY;have c:=fc<|Á k<|Á l<|Á o r;have H:=fc<|Á d f;clear d f k l o r;go_wp2_with fail;go_region;go_wp2_with (at_builtin;refine Df (base:=w0.heap.size) (n:=xs.length) (xs:=jq xs) (m:=1) U _ _ 25 U ù c.out.1 c.out.2.1 c.out.2.2.1 c.out.2.2.2 U U ((H.out.1).fK kp).fj ⟨_,0,Ä⟩ [Í<|iF i++Dx b] U Z U (ÿ _ _ _) (λu e=>by simp at e;subst e;rfl) (by unfold ą;omega) Z ((H.out.1).fK kp).r.M ?_;intro S T e;obtain⟨V,W,rfl⟩:=jj e.fj;have s:=fc<|((H.out.1).fK kp).C e;clear e);exact H.out.2 _ _ _ (gh _) s.out
def DJ(n j i:Nat)(w0:É)(xs:List ByteArray)(s t:St)(a:é)(w:É):Prop:=
 ∃(b:Nat) (v:Ç),uU n j i v b a/\b<=16/\ig w0 v (xs++qH s t i b) w
def vZ(n j i:Nat)(w0:É)(xs:List ByteArray)(s t:St)(a:é)(w:É):Prop:=
 ∃(v:Ç),uU n j i v (16:Nat) a/\ig w0 v (xs++qH s t i 16) w
def NN(a:é)(_:É):Nat:=match a.tmps.getD 54 Ă with
 |Â _ i=>16-i.toNat
 |_=>0
def TX(c:uU n j i v b y):NN y w=16-b:=by obtain⟨u,rfl⟩:=c;show 16-(b:Int).toNat=_;simp
def aoX(o:my n s h w0)(p:my j t c w0)(e:i<8)(B:xs.length<=900)(a:é)(w:É)(r:DJ n j i w0 xs s t a w): Î À yf (Exit.then (λb g=>DJ n j i w0 xs s t b g/\NN b g<NN a w)<|Q2<|vZ n j i w0 xs s t) a w:=by
 let⟨b,v,l,C,d⟩:=r;rw[TX l];obtain⟨u,rfl⟩:=l;by_cases x:b=16
 .subst x;exact aoU u λa q=>⟨v,q,d⟩
 .have m:=d.r.r ((o.gT e).2.2 b Z) id;have k:=d.r.r ((p.gT e).2.2 b Z) id;by_cases q:(s i).C b=(t i).C b
  .rw[<-q]at k;refine aoV u b e Z _ m k λa f=>⟨⟨b+1,v,f,Z,?_⟩,by rw[TX f];omega⟩;rw[TV,Dy,if_pos q,ò];exact d.fK<|e8.fS _ _
  .refine aoW u d (by rw[Ó];have:=NM s t i b;omega) b e Z _ _ (by simpa using q) m k λa y g f z=>⟨⟨b+1,y,f,Z,?_⟩,by rw[TX f];omega⟩;rwa[TV,Dy,if_neg q,<-Ċ]
def aoY(u:Nat->Ç)(b:∀a,vY n j v (8:Nat) a->X a w): Î À zZ (Exit.then K<|QQ X) (tJ n j v (8:Nat) u) w:=by
 unfold tJ;conv=>arg 2;whnf
 go_wp2_with fail
 exact b _ (gh _)
def aoZ(u:Nat->Ç)(d:ig w0 v xs w)(E:xs.length<=800)(F:i<8)(b h:Int)(p k:ByteArray)(G:(b==h)=Ú)(I:(p.toList==k.toList)=Ú)(l:w0.cell? ⟨n,i*18,Ä⟩=Ã (Â Æ b))(m:w0.cell? ⟨j,i*18,Ä⟩=Ã (Â Æ h))(f:w0.cell? ⟨n,i*18+1,Ä⟩=Ã (Í p))(g:w0.cell? ⟨j,i*18+1,Ä⟩=Ã (Í k)) (L:∀a e W,uU n j i e (0:Nat) a->ig w0 e xs W->Î À (à yf) (Q2<|vZ n j i w0 xs s t) a W) (o:∀a e q,vY n j e ((i+1:Nat):Int) a->ig w0 e (xs++qH s t i 16) q->K a q): Î À zZ (Exit.then K<|QQ X) (tJ n j v i u) w:=by
 unfold tJ;conv=>arg 2;whnf
 have J:=d.r.r l id;have M:=d.r.r m id;have N:=d.r.r f id;have O:=d.r.r g id;have P:(0:Int)<=(i:Int):=Z
 have S:(i:Int)<8:=Z
 have T:Ë.wrap ((i:Int)+1)=(i:Int)+1:=by rw[ó];omega
 have V:(0:Int)<=(i:Int)+1:=Z
 have Y:(i:Int)+1<=8:=Z
 have rm:(i:Int)<=(i:Int)+1:=Z
 have uG:((i:Int)+1).toNat=i+1:=Z
 have xT:¬9223372036854775807<(iF i).size+1:=by have:=ye i;omega
 have TY:ø ⟨#[97,98,99,100,101,102,103,104]⟩ i (i+1)=iF i:=U;obtain⟨ta,tc,rfl⟩:=jj d.fj;let⟨i0,r,x,y,z⟩:=í zY;have HI:=fc<|Á r<|Á x<|Á y z;have H:=fc<|Á d<|Á f<|Á g<|Á L o;clear d r x y z L o l m f g;go_wp2_with fail;go_region;go_wp2_with fail;go_region;go_wp2_with fail;go_region;go_wp2_with fail;refine Ý (Q:=Q2<|vZ n j i w0 xs s t) ?_ (H.out.2.2.2.1 _ _ _ (gh _)<|(H.out.1).fK kp);rintro(_|(_|_|_|_)|_|_|_|_) a c hq;all_goals first|exact absurd hq id|skip
 let⟨T0,C,B⟩:=hq;obtain⟨c,rfl⟩:=C;unfold uT;have D:=fc B;clear B;go_wp2_with fail;exact H.out.2.2.2.2 _ _ _ (gh _) D.out
def ao0(u:Nat->Ç)(d:ig w0 v xs w)(G:xs.length<=800)(I:i<8)(b l:Int)(p o:ByteArray)(J:(b==l)=Ú)(M:(p.toList==o.toList)=Ï)(q:w0.cell? ⟨n,i*18,Ä⟩=Ã (Â Æ b))(r:w0.cell? ⟨j,i*18,Ä⟩=Ã (Â Æ l))(h:w0.cell? ⟨n,i*18+1,Ä⟩=Ã (Í p))(k:w0.cell? ⟨j,i*18+1,Ä⟩=Ã (Í o)) (L:∀a e W,uU n j i e (0:Nat) a->ig w0 e (xs++[iF i++⟨#[123]⟩]) W->Î À (à yf) (Q2<|vZ n j i w0 (xs++[iF i++⟨#[123]⟩]) s t) a W) (x:∀a e y,vY n j e ((i+1:Nat):Int) a->ig w0 e ((xs++[iF i++⟨#[123]⟩])++qH s t i 16) y->K a y): Î À zZ (Exit.then K<|QQ X) (tJ n j v i u) w:=by
 unfold tJ;conv=>arg 2;whnf
 have N:=d.r.r q id;have O:=d.r.r r id;have P:=d.r.r h id;have S:=d.r.r k id;have T:(0:Int)<=(i:Int):=Z
 have V:(i:Int)<8:=Z
 have Y:Ë.wrap ((i:Int)+1)=(i:Int)+1:=by rw[ó];omega
 have Fs:(0:Int)<=(i:Int)+1:=Z
 have zg:(i:Int)+1<=8:=Z
 have rm:(i:Int)<=(i:Int)+1:=Z
 have uG:((i:Int)+1).toNat=i+1:=Z
 have xT:¬9223372036854775807<(iF i).size+1:=by have:=ye i;omega
 have TY:ø ⟨#[97,98,99,100,101,102,103,104]⟩ i (i+1)=iF i:=U;obtain⟨ta,tc,rfl⟩:=jj d.fj;let⟨i0,z,B,C,D⟩:=í zY;have f:=fc<|Á z<|Á B<|Á C D;have H:=fc<|Á d<|Á h<|Á k<|Á L x;clear d z B C D L x q r h k;go_wp2_with fail;go_region;go_wp2_with fail;go_region;go_wp2_with fail;go_region;go_wp2_with (at_builtin;refine Df (base:=w0.heap.size) (n:=xs.length) (xs:=jq xs) (m:=1) U _ _ 25 U ù f.out.1 f.out.2.1 f.out.2.2.1 f.out.2.2.2 U U ((H.out.1).fK kp).fj ⟨_,0,Ä⟩ [Í<|iF i++⟨#[123]⟩] U Z U (λc u g=>e8.r (X:=λ_=>False) kp (ÿ w (Í<|iF i++⟨#[123]⟩) 9 c u g) id) (λu g=>by simp at g;subst g;rfl) (by unfold ą;omega) Z ((H.out.1).fK kp).r.M ?_;intro E F c;obtain⟨ta2,tc2,rfl⟩:=jj c.fj;have g:=fc<|((H.out.1).fK kp).C c;clear c);refine Ý (Q:=Q2<|vZ n j i w0 (xs++[iF i++⟨#[123]⟩]) s t) ?_ (H.out.2.2.2.1 _ _ _ (gh _)<|(g.out).fK kp);rintro(_|(_|_|_|_)|_|_|_|_) a c hq;all_goals first|exact absurd hq id|skip
 let⟨T0,E,g⟩:=hq;obtain⟨c,rfl⟩:=E;unfold uT;have F:=fc g;clear g;go_wp2_with fail;exact H.out.2.2.2.2 _ _ _ (gh _) F.out
def ao1(u:Nat->Ç)(d:ig w0 v xs w)(I:xs.length<=800)(J:i<8)(b l:Int)(p o:ByteArray)(M:(b==l)=Ï)(N:(p.toList==o.toList)=Ú)(q:w0.cell? ⟨n,i*18,Ä⟩=Ã (Â Æ b))(r:w0.cell? ⟨j,i*18,Ä⟩=Ã (Â Æ l))(h:w0.cell? ⟨n,i*18+1,Ä⟩=Ã (Í p))(k:w0.cell? ⟨j,i*18+1,Ä⟩=Ã (Í o)) (L:∀a e W,uU n j i e (0:Nat) a->ig w0 e (xs++[iF i++⟨#[36]⟩]) W->Î À (à yf) (Q2<|vZ n j i w0 (xs++[iF i++⟨#[36]⟩]) s t) a W) (x:∀a e y,vY n j e ((i+1:Nat):Int) a->ig w0 e ((xs++[iF i++⟨#[36]⟩])++qH s t i 16) y->K a y): Î À zZ (Exit.then K<|QQ X) (tJ n j v i u) w:=by
 unfold tJ;conv=>arg 2;whnf
 have O:=d.r.r q id;have P:=d.r.r r id;have S:=d.r.r h id;have T:=d.r.r k id;have V:(0:Int)<=(i:Int):=Z
 have Y:(i:Int)<8:=Z
 have oS:Ë.wrap ((i:Int)+1)=(i:Int)+1:=by rw[ó];omega
 have Fs:(0:Int)<=(i:Int)+1:=Z
 have zg:(i:Int)+1<=8:=Z
 have rm:(i:Int)<=(i:Int)+1:=Z
 have uG:((i:Int)+1).toNat=i+1:=Z
 have xT:¬9223372036854775807<(iF i).size+1:=by have:=ye i;omega
 have TY:ø ⟨#[97,98,99,100,101,102,103,104]⟩ i (i+1)=iF i:=U;have FP:(xs++[iF i++⟨#[36]⟩]).length=xs.length+1:=fi
 obtain⟨ta,tc,rfl⟩:=jj d.fj;let⟨i0,z,B,C,D⟩:=í zY;have f:=fc<|Á z<|Á B<|Á C D;have H:=fc<|Á d<|Á h<|Á k<|Á L x;clear d z B C D L x q r h k;go_wp2_with fail;go_region;go_wp2_with fail;go_region;go_wp2_with (at_builtin;refine Df (base:=w0.heap.size) (n:=xs.length) (xs:=jq xs) (m:=1) U _ _ 25 U ù f.out.1 f.out.2.1 f.out.2.2.1 f.out.2.2.2 U U ((H.out.1).fK kp).fj ⟨_,0,Ä⟩ [Í<|iF i++⟨#[36]⟩] U Z U (λc u g=>e8.r (X:=λ_=>False) kp (ÿ w (Í<|iF i++⟨#[36]⟩) 9 c u g) id) (λu g=>by simp at g;subst g;rfl) (by unfold ą;omega) Z ((H.out.1).fK kp).r.M ?_;intro E F c;obtain⟨G,tc1,rfl⟩:=jj c.fj;have g:=fc<|((H.out.1).fK kp).C c;clear c);have d3:=g.out.r.r H.out.2.1 id;have d4:=g.out.r.r H.out.2.2.1 id;go_region;go_wp2_with fail;refine Ý (Q:=Q2<|vZ n j i w0 (xs++[iF i++⟨#[36]⟩]) s t) ?_ (H.out.2.2.2.1 _ _ _ (gh _)<|(g.out).fK kp);rintro(_|(_|_|_|_)|_|_|_|_) a c hq;all_goals first|exact absurd hq id|skip
 let⟨T0,F,E⟩:=hq;obtain⟨c,rfl⟩:=F;unfold uT;have G:=fc E;clear E;go_wp2_with fail;exact H.out.2.2.2.2 _ _ _ (gh _) G.out
def ao2(u:Nat->Ç)(f:ig w0 v xs w)(N:xs.length<=800)(O:i<8)(b q:Int)(p r:ByteArray)(P:(b==q)=Ï)(S:(p.toList==r.toList)=Ï)(x:w0.cell? ⟨n,i*18,Ä⟩=Ã (Â Æ b))(y:w0.cell? ⟨j,i*18,Ä⟩=Ã (Â Æ q))(k:w0.cell? ⟨n,i*18+1,Ä⟩=Ã (Í p))(l:w0.cell? ⟨j,i*18+1,Ä⟩=Ã (Í r)) (L:∀a g W,uU n j i g (0:Nat) a->ig w0 g ((xs++[iF i++⟨#[36]⟩])++[iF i++⟨#[123]⟩]) W->Î À (à yf) (Q2<|vZ n j i w0 ((xs++[iF i++⟨#[36]⟩])++[iF i++⟨#[123]⟩]) s t) a W) (z:∀a g B,vY n j g ((i+1:Nat):Int) a->ig w0 g (((xs++[iF i++⟨#[36]⟩])++[iF i++⟨#[123]⟩])++qH s t i 16) B->K a B): Î À zZ (Exit.then K<|QQ X) (tJ n j v i u) w:=by
 unfold tJ;conv=>arg 2;whnf
 have T:=f.r.r x id;have V:=f.r.r y id;have Y:=f.r.r k id;have c4:=f.r.r l id;have e0:(0:Int)<=(i:Int):=Z
 have e1:(i:Int)<8:=Z
 have oS:Ë.wrap ((i:Int)+1)=(i:Int)+1:=by rw[ó];omega
 have Fs:(0:Int)<=(i:Int)+1:=Z
 have zg:(i:Int)+1<=8:=Z
 have rm:(i:Int)<=(i:Int)+1:=Z
 have uG:((i:Int)+1).toNat=i+1:=Z
 have xT:¬9223372036854775807<(iF i).size+1:=by have:=ye i;omega
 have TY:ø ⟨#[97,98,99,100,101,102,103,104]⟩ i (i+1)=iF i:=U;have G:(xs++[iF i++⟨#[36]⟩]).length=xs.length+1:=fi
 obtain⟨ta,tc,rfl⟩:=jj f.fj;let⟨i0,C,D,E,F⟩:=í zY;have e:=fc<|Á C<|Á D<|Á E F;have H:=fc<|Á f<|Á k<|Á l<|Á L z;clear f C D E F L z x y k l;go_wp2_with fail;go_region;go_wp2_with fail;go_region;go_wp2_with (at_builtin;refine Df (base:=w0.heap.size) (n:=xs.length) (xs:=jq xs) (m:=1) U _ _ 25 U ù e.out.1 e.out.2.1 e.out.2.2.1 e.out.2.2.2 U U ((H.out.1).fK kp).fj ⟨_,0,Ä⟩ [Í<|iF i++⟨#[36]⟩] U Z U (λc u d=>e8.r (X:=λ_=>False) kp (ÿ w (Í<|iF i++⟨#[36]⟩) 9 c u d) id) (λu d=>by simp at d;subst d;rfl) (by unfold ą;omega) Z ((H.out.1).fK kp).r.M ?_;intro J I o;obtain⟨M,tc1,rfl⟩:=jj o.fj;have h:=fc<|((H.out.1).fK kp).C o;clear o);have d3:=h.out.r.r H.out.2.1 id;have d4:=h.out.r.r H.out.2.2.1 id;go_region;go_wp2_with (at_builtin;refine Df (base:=w0.heap.size) (n:=(xs++[iF i++⟨#[36]⟩]).length) (xs:=jq<|xs++[iF i++⟨#[36]⟩]) (m:=1) U _ _ 25 U ù e.out.1 e.out.2.1 e.out.2.2.1 e.out.2.2.2 U U ((h.out).fK kp).fj ⟨_,0,Ä⟩ [Í<|iF i++⟨#[123]⟩] U Z U (λc u d=>e8.r (X:=λ_=>False) kp (ÿ I (Í<|iF i++⟨#[123]⟩) 9 c u d) id) (λu d=>by simp at d;subst d;rfl) (by unfold ą;omega) Z ((h.out).fK kp).r.M ?_;intro d o c;obtain⟨J,M,rfl⟩:=jj c.fj;have I:=fc<|((h.out).fK kp).C c;clear c);have d:=I.out;rw[G]at d;refine Ý (Q:=Q2<|vZ n j i w0 ((xs++[iF i++⟨#[36]⟩])++[iF i++⟨#[123]⟩]) s t) ?_ (H.out.2.2.2.1 _ _ _ (gh _)<|(d).fK kp);rintro(_|(_|_|_|_)|_|_|_|_) a c hq;all_goals first|exact absurd hq id|skip
 let⟨T0,J,o⟩:=hq;obtain⟨c,rfl⟩:=J;unfold uT;have M:=fc o;clear o;go_wp2_with fail;exact H.out.2.2.2.2 _ _ _ (gh _) M.out
def DO(n j:Nat)(w0:É)(s t:St)(a:é)(w:É):Prop:=
 ∃(i:Nat) (v:Ç),vY n j v i a/\i<=8/\ig w0 v (pO s t i) w
def T1(n j:Nat)(w0:É)(s t:St)(a:é)(w:É):Prop:=
 ∃(v:Ç),vY n j v (8:Nat) a/\ig w0 v (pO s t 8) w
def JO(a:é)(_:É):Nat:=match a.tmps.getD 11 Ă with
 |Â _ i=>8-i.toNat
 |_=>0
def aaM(b:vY n j v i y):JO y w=8-i:=by obtain⟨u,rfl⟩:=b;show 8-(i:Int).toNat=_;simp
def ao3(B:my n s h w0)(C:my j t c w0)(a:é)(w:É)(E:DO n j w0 s t a w): Î À zZ (Exit.then (λq g=>DO n j w0 s t q g/\JO q g<JO a w)<|QQ<|T1 n j w0 s t) a w:=by
 let⟨i,v,D,H,l⟩:=E;rw[aaM D];obtain⟨u,rfl⟩:=D;by_cases F:i=8
 .subst F;exact aoY u λa q=>⟨v,q,l⟩
 have k:i<8:=Z
 have I:=TW s t i;let⟨m,o,_⟩:=B.gT k;let⟨p,r,_⟩:=C.gT k;have L:∀q:List ByteArray,q.length<=900->∀a b W,uU n j i b (0:Nat) a->ig w0 b q W->Î À (à yf) (Q2<|vZ n j i w0 q s t) a W:=λq y a b W G z=>
  ĉ (DJ n j i w0 q s t) NN ⟨0,b,G,Z,by show ig w0 b (q++[]) W;rwa[ò]⟩<|aoX B C k y
 have x:∀q:List ByteArray,pO s t i++vW (s i).fu (t i).fu (s i).r (t i).r i=q->∀a b g,vY n j b ((i+1:Nat):Int) a->ig w0 b (q++qH s t i 16) g->DO n j w0 s t a g/\JO a g<8-i:=λq y a b g f z=>⟨⟨i+1,b,f,Z,by rwa[aaK,yd,<-Ċ,y]⟩,by rw[aaM f];omega⟩;by_cases d:(s i).fu=(t i).fu<;>by_cases e:(s i).r.toList=(t i).r.toList
 .exact aoZ u l Z k _ _ _ _ (by simpa using d) (by simpa using e) m p o r (L _ Z)<|x _<|by unfold vW;rw[if_pos d,if_pos e,ò,ò]
 .exact ao0 u l Z k _ _ _ _ (by simpa using d) (by simpa using e) m p o r (L _<|by rw[Ó];simp;omega)<|x _<|by unfold vW;rw[if_pos d,if_neg e,Ξ]
 .exact ao1 u l Z k _ _ _ _ (by simpa using d) (by simpa using e) m p o r (L _<|by rw[Ó];simp;omega)<|x _<|by unfold vW;rw[if_neg d,if_pos e,ò]
 .exact ao2 u l Z k _ _ _ _ (by simpa using d) (by simpa using e) m p o r (L _<|by rw[Ó,Ó];simp;omega)<|x _<|by unfold vW;rw[if_neg d,if_neg e,Ċ]
def ao4(b:my n s h w)(d:my j t c w): Ò À 126 #[Å<|Ã ⟨n,0,Ä⟩,Å<|Ã ⟨j,0,Ä⟩] w λe a=>∃v,e=È v/\ig w v (pO s t 8) a:=by
 have L:∀a,vY n j (Ê Ä 0 0) (0:Nat) a->Î À (à zZ) (QQ<|T1 n j w s t) a w:=λa f=>
  ĉ (DO n j w s t) JO ⟨0,_,f,â _,ig.M w<|e8.fU _ _⟩<|ao3 b d
 have H:=fc L;clear L b d;go_enter Tryz.func126,Tryz.ntmps126;go_wp2_with fail;refine Ý (Q:=QQ<|T1 n j w s t) ?_ (H.out _ (gh _));rintro(_|(_|_)|_|_|_|_) a v hq;all_goals first|exact absurd hq id|skip
 let⟨k,g,e⟩:=hq;obtain⟨u,rfl⟩:=g;unfold tJ;have i:=fc e;clear e;go_wp2_with fail;go_ret;exact⟨_,U,i.out⟩
end
def ao5:(À.info? 5).map (λi=>(i.zero,i.size,i.bytes))=Ã (Ã<|Â aW 0,1,1):=fp
theorem e8.G(f:X p.block)(n:Nat):e8 X w (w.freeze p n):=by
 by_cases b:n=0
 .rw[Đ,if_pos b];exact e8.fU _ _
 rw[Đ,if_neg b];refine⟨fi,λk _ g=> ?_,λa i o h=> ?_,λ_ a=>by have:=U_ a p n;rwa[Đ,if_neg b]at this⟩
 .grind
 .simp only[Û]at h;split at h
  .cases d:w.heap[i]? with
   |none=>rw[d]at h;cases h
   |some e=>
    have:=a _ _ d;rw[d]at h;cases e with
    |cells c t z=>simp only[ñ,è]at h;subst h;exact λx=>x
    |_=>exact absurd trivial this
  .exact a i o h
def aaN:(À.info? 109).map (·.size)=Ã 2:=fp
def ao6:liesAt À À.depth 109 (2/À.cellsOf 109) 0 109 1=Ú:=fp
def ao7(b:Nat)(w:É)(d:w.cell? ⟨b,0,Ä⟩=Ã (Å<|Ã ⟨b,0,Ä⟩)):Ò À 78 #[Å<|Ã ⟨b,0,Ä⟩] w λe a=>e=È (æ #[])/\a=w:=by let⟨j,c,_⟩:=Ì.1 aaN;go_enter aL,aF;go_wp2;rw[Lib.run_neq_ptr_same w _ ĳ c];go_wp2;go_end0;exact⟨U,U⟩
def ao8(b:Nat)(w:É)(g:w.cell? ⟨b,0,Ä⟩=Ã (Å Ä))(a:w.shape? b=Ã (109,2))(h:w.frozen? ⟨b,0,Ä⟩=Ï):Ò À 78 #[Å<|Ã ⟨b,0,Ä⟩] w λe d=>e=È (æ #[])/\d=w.setCell ⟨b,0,Ä⟩ (Å<|Ã ⟨b,0,Ä⟩):=by let⟨j,c,f⟩:=Ì.1 aaN;go_enter aL,aF;go_wp2;rw[Lib.run_to_unsafe w ⟨b,0,Ä⟩ ĳ ŭ c (by rw[f];decide) a<|Nat.zero_lt_succ 1];simp only[į];rw[Ħ];go_wp2;rw[ţ Tryz.func129 fp fp fp fp];rw[Lib.run_noEscape];simp only[į];rw[Ħ];go_wp2;rw[Lib.run_from_unsafe w ⟨b,0,Ä⟩ ŭ ĳ c a ao6];simp only[į];rw[Ħ];go_wp2;go_end0;exact⟨U,U⟩
theorem aaO{base:Nat}{u h:ô}(j:P.underlying t=Ã (bq e))(k:P.underlying u=Ã .string)(p:P.info? e=Ã zJ)(G:zJ.zero=Ã (Â aW 0)) (D:zJ.size=1) (H:zJ.bytes=1) (E:w.ownsRow base e 1 v n l) (s:ByteArray) (J:n+s.size<=ą) (Q:n+s.size<=140737488355328) (r:(Ō #[t,u] h #[v,Í s]).run P w=χ z W) (I:mj e=Ï):(ko w->ko W)/\(∀m,sj m w->sj m W):=by
 have S:n+s.size<=9223372036854775807:=by simp only[ą]at J;omega
 have K:l.length=n:=by simpa using E.1
 rcases E.2 with⟨rfl,rfl⟩|⟨g,y,B,rfl,V,F,X,Y,L,htake⟩
 .by_cases C:s.size=0
  .have a:=Lib.run_firstCells_string (P:=P) w 1 s;rw[C]at a;simp[Ō,ř j,ř k,sizeOf,typeInfo,p,D,bz,C,a]at r;grind
  .have b:=run_append_nil_string w t u h e zJ (Â aW 0) j k p G s Z Z (by rw[H];omega);rw[r]at b;cases b;exact⟨λa=>Ja a _ _ _,λ_ a=>Jb a _ _ _<|Ø I⟩
 .by_cases M:n+s.size<=y
  .have avd:B.size=y:=by simpa using L
   have b:=Lib.run_append_room_string w t u h e zJ j k p D g n y B F s M Z;rw[r]at b;cases b;refine⟨λa q o d=> ?_,λm a q c T N C d O=> ?_⟩
   .by_cases f:q=g
    .subst f;rw[Ğ w q B _ e _ F]at d;cases d;exact λx=>x
    .rw[Ę w g q _ f]at d;exact a q o d
   .by_cases f:q=g
    .subst f;rw[Ğ w q B _ e _ F]at d;grind
    .rw[Ę w g q _ f]at d;exact a q c T N C d O
  .have c:=E.cells U;have b:=Lib.run_append_grow_string w t u h e zJ (Â aW 0) j k p G ⟨g,0,Ä⟩ n y l (by rw[D];simpa using K) c s Z Z (by rw[H];exact ŕ Z Z);rw[r]at b;cases b;exact⟨λa=>Ja a _ _ _,λ_ a=>Jb a _ _ _<|Ø I⟩
def ao9{P:Program}{ops:Array Oper}{rest:List Oper}{o:Oper}{a:Act}{Q:Exit->Act->World->Prop}{w:World}(SQ:o.guard=none)(sl x:Operand)(t u:TypeId) (ho:o.op=.call {callee:=.builtin .append,args:=#[sl,x],argTypes:=#[t,u]}) {base:Nat} {e:TypeId} {i:TypeInfo} (ht:P.underlying t=some (.slice e)) (hu:P.underlying u=some .string) (hi:P.info? e=some i) (hz:i.zero=some (.int .u8 0)) (xK:i.size=1) (xL:i.bytes=1) {v:Value} {n:Nat} {xs:List Value} (hs:a.eval sl=v) (lJ:w.ownsRow base e 1 v n xs) (s:ByteArray) (hx:a.eval x=.string s) (Dg:n+s.size<=maxLen) (Dh:n+s.size<=140737488355328) (De:base<=w.heap.size) (h:∀v' w',w'.ownsRow base e 1 v' (n+s.size) (xs++Lib.strCells s)->e8 (λk=>v.ownBlock=some k) w w'->wpList P ops Q rest (a.put o.dst v') w') (hT:mj e=false:=by decide):wpList P ops Q (o::rest) a w:=by refine ű SQ λK hK=> ?_;let⟨v',w',hr,h2,h3,_⟩:=Lib.run_append_own_string w base t u o.type e i ht hu hi hz xK xL v n xs lJ s Dg Dh De;have kp:e8 (λk=>v.ownBlock=Ã k) w w':=⟨h3.size,λk hk q=>h3.block k hk λe=>q e.symm,(aaO ht hu hi hz xK xL lJ s Dg Dh hr hT).1,(aaO ht hu hi hz xK xL lJ s Dg Dh hr hT).2⟩;unfold Ń ĥ;simp only[ho,ag,aR,ah,Ų,ų,Ĵ,ļ,Ť,Ŵ,hs,hx,hr];exact hK _ _<|h v' w' h2 kp
structure o5(w0:É)(b:Nat)(bs:List Ç)(w:É):Prop where
 I:w0.heap.size<=b
 r:e8 (λ_=>False) w0 w
 C:∃v,ff b [Å<|Ã ⟨b,0,Ä⟩,v] 109 w/\w.ownsRow w0.heap.size 5 1 v bs.length bs
def o5.fK(h:o5 u b l w)(k:e8 (λ_=>False) w W):o5 u b l W:=by let⟨v,a,c⟩:=h.C;exact⟨h.I,h.r.fe k,v,a.I k id,ie c k λ_ _=>id⟩
theorem T3(h:o5 u b l w)(s:ByteArray)(m:l.length+s.size<=140737488355328): Ò À 55 #[Å<|Ã ⟨b,0,Ä⟩,Í s] w λe i=>e=È (æ #[Â Ë s.size,.nilIface])/\o5 u b (l++Lib.strCells s) i:=by
 let⟨B,c,n,o,p⟩:=í ao5;let⟨v,a,d⟩:=h.C;obtain⟨C,D,rfl⟩:=jj d;have t:=a.r 0 _ U;have E:=a.r 1 _ U;have x:=h.r.M;have y:=jD d a A;have H:=fc<|Á h<|Á c<|Á n<|Á o<|Á p<|Á a d;go_enter Tryz.func55,Tryz.ntmps55;go_wp2_with (first
  |(go_at_call 78;refine(ao7 b _ t).mono ?_;rintro e i ⟨rfl,j⟩;subst i)
  |(at_builtin;refine ao9 U _ _ 107 9 U ý đ H.out.2.1 H.out.2.2.1 H.out.2.2.2.1 H.out.2.2.2.2.1 U H.out.2.2.2.2.2.2 s U (by unfold ą;omega) m x ?_;intro g f j k;obtain⟨q,r,rfl⟩:=jj j;have i:=H.out.2.2.2.2.2.1.I k y;have z:=i.r 0 _ U;have F:=i.r 1 _ U;have G:=i.C 1;have e:=fc (Á k (Á i j));clear k i j))
 go_ret2;have z:=e.out.2.1.fP 1<|Ê q (l.length+s.size) r;have g:e8 (λk=>k=b) f (f.setCell ⟨b,1,Ä⟩<|Ê q (l.length+s.size) r):=e8.I (X:=λk=>k=b) U _<|Ù e.out.2.1.G;refine⟨U,H.out.1.I,(H.out.1.r.C e.out.1 λi c q=> ?_).C g λi c q=> ?_,_,z,?_⟩
 .have:=(H.out.2.2.2.2.2.2.lt i q).1;omega
 .have:=H.out.1.I;omega
 .have:=ie e.out.2.2 g λj q r=>jD e.out.2.2 e.out.2.1 A (by rw[q,r]);grind [Ó,Lib.strCells_length]
def apa:(À.info? 5).map (·.size)=Ã 1:=fp
def apb:À.cellsOf 5=1:=fp
structure JP(w0:É)(b:Nat)(p:Ç)(w:É):Prop where
 C:w0.heap.size<=b
 I:e8 (λ_=>False) w0 w
 r:ff b [p,Ê Ä 0 0] 109 w
section
variable{w0:É}{p:Ç}
def JP.ER(h:JP w0 b (Å<|Ã ⟨b,0,Ä⟩) w)(f:d.size<=ą):o5 w0 b [] ((w.alloc<|Ð d 5).setCell ⟨b,1,Ä⟩<|Ê (Ã ⟨w.heap.size,0,Ä⟩) 0 d.size).drew.drew.drew:=by have a:=e8.gE (λ_=>False) w d 5;have c:e8 (λk=>k=b) (w.alloc<|Ð d 5) ((w.alloc<|Ð d 5).setCell ⟨b,1,Ä⟩<|Ê (Ã ⟨w.heap.size,0,Ä⟩) 0 d.size):=e8.I (X:=λk=>k=b) U _<|Ù (h.r.I a id).G;have k:=(h.r.I a id).fP 1<|Ê (Ã ⟨w.heap.size,0,Ä⟩) 0 d.size;have m:=h.r.M;have g:(w.alloc<|Ð d 5).ownsRow w0.heap.size 5 1 (Ê (Ã ⟨w.heap.size,0,Ä⟩) 0 d.size) 0 []:= ⟨U,Ù ⟨w.heap.size,d.size,d,U,h.I.M,ì w _,â _,f,fi,fi⟩⟩;have l:o5 w0 b [] ((w.alloc<|Ð d 5).setCell ⟨b,1,Ä⟩<|Ê (Ã ⟨w.heap.size,0,Ä⟩) 0 d.size):= ⟨h.C,(h.I.fe a).C c λi n q=>by have:=h.C;omega,_,k,ie g c λj q r=>by cases q;have e:w.heap.size=b:=r;omega⟩;exact((l.fK<|e8.fS _ _).fK<|e8.fS _ _).fK<|e8.fS _ _
theorem apc(h:JP w0 b (Å<|Ã ⟨b,0,Ä⟩) w)(n:Nat)(j:n<=281474976710656): Ò À 79 #[Å<|Ã ⟨b,0,Ä⟩,Â Ë n] w λe c=>e=È (æ #[])/\o5 w0 b [] c:=by
 let⟨a,g,o,k⟩:=Lib.run_makeNoZero w.drew #[3] 107 5 ý n j;have i:Ë.wrap (Ë.wrap 0+(n:Int))=n:=by grind [ó]
 have p:(callFunc 130 #[Â Ë<|Ë.wrap<|Ë.wrap 0+(n:Int)]).run À w.drew=χ (.value<|Ê (Ã ⟨w.drew.heap.size,0,Ä⟩) n a.size) (w.drew.drew.drew.alloc<|Ð a 5):=by rw[i,ţ Tryz.func130 fp fp fp fp,g];rfl
 have e:=fc (Á (show w.drew.cell? ⟨b,1,Ä⟩=Ã (Ê Ä 0 0)from h.r.r 1 _ rfl) trivial);have d:=h.r.I (e8.gE (λ_=>False) w a 5) id;have l:=d.r 1 _ U;have f:=l;have q:=d.C 1;have r:∀W:É,(ξ #[107,107] 3 #[Ê (Ã ⟨w.heap.size,0,Ä⟩) 0 a.size,Ê Ä 0 0]).run À W=χ (goInt 0) W:= λW=>run_copy_none W 107 107 3 5 _ _ 0 a.size 0 0 ý apa U;have m:=fc (h.ER<|k<|by unfold ą;omega);clear i h d g;go_enter Tryz.func79,Tryz.ntmps79;go_wp2;refine mq (λc=>c.cell? ⟨b,1,Ä⟩=Ã (Ê Ä 0 0)/\True) [] fp ?_;refine tk 0 e.out ?_;refine tk 1 e.out ?_;refine tk 2 e.out ?_;refine tk 3 e.out ?_;refine tk 4 e.out ?_;refine tk 5 e.out ?_;refine tk 6 e.out ?_;refine tk 7 e.out ?_;refine tk 9 e.out ?_;refine tk 10 e.out ?_;refine tk 11 e.out ?_;refine tk 12 e.out ?_;refine tk 13 e.out ?_;refine gA 8 ?_;intro K c;go_simp;refine c.out _ _ (λ_=>⟨f,trivial⟩) ?_;refine gA 14 ?_;intro K c;go_simp;refine c.out _ _ (λ_=>⟨f,trivial⟩) ?_;refine gA 15 ?_;intro K c;go_simp;refine c.out _ _ (λ_=>⟨f,trivial⟩) ?_;refine lY fp ?_ _;go_wp2;go_end0;exact⟨U,m.out⟩
def apd(h:JP w0 b (Å Ä) w)(n:Nat)(l:0<n)(d:n<=281474976710656): Ò À 54 #[Å<|Ã ⟨b,0,Ä⟩,Â Ë n] w λe a=>e=È (æ #[])/\o5 w0 b [] a:=by
 have f:w.shape? b=Ã (109,2):=by have i:w.heap[b]?=_:=h.r;simp[Ÿ,i]
 have c:=fc (show JP w0 b (Å<|Ã ⟨b,0,Ä⟩) (w.setCell ⟨b,0,Ä⟩<|Å<|Ã ⟨b,0,Ä⟩).drew from⟨h.C,(h.I.C (e8.I (X:=λk=>k=b) U _<|Ù h.r.G) λi k q=>by have:=h.C;omega).fe<|e8.fS _ _,(h.r.fP 0 _).I (e8.fS (λ_=>False) _) id⟩);have i:=fc<|Á (c.out.r.r 1 _ rfl) trivial;have q:=h.r.r 0 _ U;have g:=h.r.C 0;have m:¬((n:Int)<0):=Z
 have o:(0:Int)<(n:Int):=Z
 have p:Ë.wrap 0<(n:Int):=by rw[ó];omega
 go_enter Tryz.func54,Tryz.ntmps54;go_wp2_with (go_at_call 78;refine(ao8 b w q f g).mono ?_;rintro e a ⟨rfl,k⟩;subst a);refine mq (λa=>a.cell? ⟨b,1,Ä⟩=Ã (Ê Ä 0 0)/\True) [] fp ?_;apply tk 0 i.out;apply tk 1 i.out;apply tk 2 i.out;apply tk 3 i.out;apply tk 4 i.out;apply tk 5 i.out;apply tk 6 i.out;apply tk 7 i.out;apply tk 8 i.out;apply tk 9 i.out;apply tk 10 i.out;apply tk 11 i.out;apply tk 12 i.out;refine lY fp ?_ _;go_wp2_with (go_at_call 79;refine(apc c.out n d).mono ?_;rintro e a ⟨rfl,k⟩;have j:=fc k;clear k);go_end0;exact⟨U,j.out⟩
def ape{l:List UInt8}(h:o5 w0 b (õ l) w)(f:l≠[]): Ò À 56 #[Å<|Ã ⟨b,0,Ä⟩] w λe K=>e=È (Í ⟨l.toArray⟩)/\e8 (λ_=>False) w0 K:=by
 let⟨v,m,d⟩:=h.C;have n:l.length≠0:=by simpa using f
 rw[Ř]at d;obtain⟨g,a,c,rfl,t,o,u,s,y,z⟩:∃g a c,v=Ê (Ã ⟨g,0,Ä⟩) l.length a/\w0.heap.size<=g/\w.heap[g]?=Ã (Ð c 5 (0,0))/\l.length<=a/\a<=ą/\c.size=a*1/\c.toList.take (l.length*1)=õ l:=by
  rcases d.2 with⟨_,e⟩|⟨g,a,c,i,r⟩
  .exact absurd e n
  .exact⟨g,a,c,i,r⟩
 have e:=fc (Á (show w.drew.cell? ⟨b,1,Ä⟩=Ã (Ê (Ã ⟨g,0,Ä⟩) l.length a)from m.r 1 _ rfl) trivial);have B:∀W:É,(φ #[107] 177 #[Ê (Ã ⟨g,0,Ä⟩) l.length a]).run À W=χ (Å<|Ã ⟨g,0,Ä⟩) W:=λW=>
  Lib.run_unsafeSliceData_row _ _ _ _ _ _ Z
 have C:(Ő #[177,3] 9 #[Å<|Ã ⟨g,0,Ä⟩,Â Ë l.length]).run À w.drew=χ (Í ⟨l.toArray⟩) (w.drew.freeze ⟨g,0,Ä⟩ l.length):=by refine Ĺ w.drew 177 3 9 5 Ū apb g c.size (by have i:w.drew.heap[g]?=Ã (Ð c 5 (0,0)):=o;simp[Ÿ,i]) l f Z (by unfold ą at s;omega) ?_;intro j x i;have:=d.cells U j (Â aW x.toNat) (by simp[õ,i]);exact this
 have x:=fc ((h.r.fe<|e8.fS _ _).C (e8.G (X:=λk=>k=g) (p:=⟨g,0,Ä⟩) U l.length) λi j q=>by omega);have j:=fc (Á ((e8.G (X:=λk=>k=g) (p:=⟨g,0,Ä⟩) rfl l.length).r e.out.1 λq=>jD d m A<|by show Ã g=Ã b;rw[show g=b from(show b=g from q).symm]) trivial);go_enter Tryz.func56,Tryz.ntmps56;go_wp2;refine mq (λK=>K.cell? ⟨b,1,Ä⟩=Ã (Ê (Ã ⟨g,0,Ä⟩) l.length a)/\True) [] fp ?_;apply tk 0 e.out;apply tk 1 e.out;apply tk 2 e.out;apply tk 3 e.out;apply tk 4 e.out;apply tk 5 e.out;apply tk 6 e.out;apply tk 7 e.out;apply tk 8 e.out;apply tk 9 e.out;apply gA 10;intro K i;go_simp;apply i.out _ _ λ_=>j.out;apply gA 11;intro K i;go_simp;apply i.out _ _ λ_=>j.out;refine lY fp ?_ _;go_wp2;go_ret;exact⟨U,x.out⟩
end
end Go.Proofs.Y.gw
