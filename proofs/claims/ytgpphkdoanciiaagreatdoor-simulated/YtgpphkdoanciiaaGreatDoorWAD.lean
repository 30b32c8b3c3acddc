import Derived.Test.YtgpphkdoanciiaaGreatDoorWAC
import Derived.Test.YtgpphkdoanciiaaGreatDoorChecked
import Derived.WalkKit
import Derived.WalkSpells
import Derived.WalkLawsBesides
import Derived.Deep.Light
import Derived.Maps.AppendAt
import Derived.RegionTactic
import Derived.Deep.RegionWith
import Derived.Deep.QuietTactic
import Derived.BigQuiet
import Derived.Deep.RegionHeld3
import Derived.WalkMore
import Derived.Deep.MidRow
import Derived.Great.Walk
import Derived.Lib.UnsafeStr
import Derived.Lib.BufferWrite
import Derived.Laws.Tables
import Derived.Laws.Bits64
import Derived.Shelf.Strconv.Itoa0
import Derived.Shelf.Strconv.Itoa1
import Derived.Shelf.LaysM
import Derived.Shelf.Strconv.Itoa2
import Derived.Shelf.Strconv.Itoa3
import Derived.Shelf.Strings.Repeat
import Derived.Shelf.Strings.OnBuilder
import Derived.Shelf.Strconv.Clone
import Derived.Shelf.Strings.Prefix
import Derived.Shelf.Bits.Mul64
import Derived.Test.YtgpphkdoanciiaaGreatDoorProg
import Derived.Lib.ItoaLen
set_option linter.all false
set_option maxRecDepth 1000000
set_option maxHeartbeats 8000000
open Go.Proofs.Tryz renaming prog->À,ntmps205->å,func205->ê,underlying25->ù,underlying107->ý,underlying9->đ,underlying3->ě,underlying4->Ĝ,zeroValue3->ħ,zeroValue4->Ĩ,zeroValue9->ĩ,underlying106->ĳ,underlying36->ĸ,ntmps170->ĺ,zeroValue36->ŀ,func170->Ņ,ntmps66->Ň,sizeOf3->ň,sizeOf4->ŉ,sizeOf9->Ŋ,func66->ś,isAgg3->Ŝ,isAgg4->ŝ,isAgg9->Ş,ntmps154->ť,ntmps113->Ŧ,sizeOf36->ŧ,underlying177->Ū,underlying168->Ŭ,underlying170->ŭ,func154->Ź,func187->ź,func113->Ż,zeroValue168->Ž,isAgg36->ž,underlying95->ſ,underlying0->Δ,underlying5->Ε,zeroValue95->Ζ,zeroValue0->Ρ,zeroValue5->Τ,sizeOf168->ε,ntmps209->η,ntmps210->θ,ntmps173->κ,ntmps168->ν,ntmps196->ο,ntmps169->π,ntmps187->ρ,isAgg168->ς,sizeOf95->σ,ntmps172->υ,func209->ai,func210->ak,func173->au,func168->av,func196->ax,func169->ay,sizeOf0->aA,sizeOf5->aB,isAgg95->aD,func172->aE,ntmps78->aF,isAgg0->aJ,isAgg5->aK,func78->aL,f161->bg
open And renaming intro->Á
open Go.Value renaming int->Â,pointer->Å,slice->Ê,string->Í,bool->Ñ,tuple->æ,agg->Ē,cells->Ġ,ownBlock->Į
open Option renaming some->Ã,none->Ä,map_eq_some_iff->Ì,map_some->ñ,isSome_none->ũ,map->ū
open Go.IntKind renaming u64->Æ,i64->Ë,wrap_i64->ó,u8->aW,wrap_u64->bb
open Go renaming Value->Ç,World->É,Calls->Ò,Act->é,heap_alloc_new->ì,info_parts->í,bodyPost_ret->ð,TypeId->ô,cell_one_new->ÿ,undef->Ă,Addr->Ą,maxLen->ą,wp_loop->ĉ,wpList_load_mid->Ė,setRow_other->Ę,setRow_heap->Ğ,execOp->ĥ,all_oneCell_toArray->Ī,wpList_store_mid->ľ,Code->ŏ,grownCap->Œ,growslice_fits->ŕ,run_underlying->ř,Oper->ş,run_callFunc_extern->ţ,Operand->Ů,wpList_plain->ű,cell_two_new->ŵ,grownCap_ge->Θ,run_append_grow->Λ,run_loadVar_mid->Ν,ready_mono->Ω,wpOp_step->ψ,resolve->ag,builtin->ah,yielded->aj,results->ar,Ending->az,Program->aH,invoke->aR,wpList->aT,Exit->aV
open Go.Ending renaming returned->È
open Go.Code renaming wp->Î,wp_mono->Ý,loop->à,skip->Ķ
open Bool renaming false->Ï,true->Ú,false_eq_true->ĭ
open Go.Obj renaming cells->Ð
open List renaming length_append->Ó,getElem?_eq_getElem->Ô,setIfInBounds_toArray->Õ,getElem?_eq_some_iff->Ü,eq_nil_of_length_eq_zero->ß,set_cons_zero->ã,set_cons_succ->ä,getElem?_append_left->ç,append_nil->ò,mem_append->ú,getElem?_range->û,getElem?_append_right->ü,ext_getElem?->þ,size_toArray->Ĉ,append_assoc->Ċ,range->ċ,drop_eq_getElem_cons->ē,length_set->ĕ,drop_eq_nil_of_le->ę,set_append_left->ğ,mem_of_getElem?->ġ,getD_eq_getElem?_getD->Ĳ,getElem?_map->ķ,map_toArray->ļ,length_cons->Ľ,mem_map->ņ,range_succ->Ŏ,mem_append_left->œ,getElem?_set_ne->Ŗ,mem_cons_of_mem->Ś,flatMap_append->Ţ,map_cons->Ť,map_nil->Ŵ,take_add_one->Α,mem_flatMap->Β,length_nil->Μ,nil_append->Ξ,length_map->Ο,map_append->Υ
open Int renaming le_refl->Ö,toNat_of_nonneg->Ĕ,toNat_natCast->Ŷ,le_trans->ŷ
open Or renaming inl->Ø,inr->Ù
open Array renaming getElem?_modify->Û,size_replicate->Ď,getD_eq_getD_getElem?->ī,replicate->ō,toList_append->Š,length_toList->š,size_append->Ű
open Nat renaming le_refl->Þ,zero_le->â,le_trans->ë,le_add_right->Ŀ,zero_add->ł,add_mul->ő,mul_le_mul_right->Ŕ,mul_one->ŗ,lt_of_lt_of_le->Ũ,lt_or_ge->ů,mod_lt->aQ
open Go.World renaming block_lt_of_cell?->á,ownsRow_nil->ā,alloc->ă,setCell->Ć,drew->Č,freeze->Đ,shape?->Ÿ,cell?->Η
open Option.some renaming injEq->è
open Go.Operand renaming tmp->î,func->bk
open Go.Ground renaming data->ï
open Go.Lib renaming byteCells->õ,nDigits->č,zeros24->Ģ,decDigits_length->ģ,run_unsafeString_row->Ĺ,decDigits->Ļ,byteCells_length->Ř,TabIs->ae,pow10Tab->aC
open Go.Builtin renaming zeroCells->ö,append_->Ō,unsafeString_->Ő,copy_->ξ,unsafeSliceData_->φ,min->br,lenOf->bz
open ByteArray renaming extract->ø,size_extract->ŋ,ext->bu
open Go.Region renaming ready->Ā,wanted->ĝ,binds->ń,Mode->Ι
open Go.Great renaming wpList_runTo->ć
open Go.RowKit.Below renaming heap_alloc->ď,heap_setCell->ė
open False renaming elim->Ě
open Go.Obj.cells renaming injEq->Ĥ
open Go.Oper renaming upon_value->Ħ,wp->Ń
open Go.Shelf renaming Ren->Ĭ
open Go.Result renaming andThen->į,andThen_ok->Ĵ,ok->χ
open Go.TypeDesc renaming isRow->İ,slice->bq
open Go.Instr renaming fill->ı,index->Κ
open Go.Act renaming put->ĵ
open Go.Sort renaming mapBlock->Ł,putRow->ζ
open Go.Sem renaming run_bind->Ų,run_pure->ų
open Go.Op renaming build->Χ,call->aG,alloc->bl
open Go.Proofs.Lays renaming n283->aN,n285->aO,n212->aP,n99->aU
variable{i n j b k m J j9 j7 j6:Nat}{w u W jX:É}{v x z jQ:Ç}{a p:Ą}{h c:Int}{e t T:ô}{d q:Array Ç}{P:aH}{y:é}{B:ByteArray}{X:Nat->Prop}{O:Option Ą}{l:List Ç}{yQ:Bool}{K H:é->É->Prop}{o:ş}{D:Nat->Nat}{jJ:List Nat}{qQ:Ů}{zQ:List Int}{zJ:Go.TypeInfo}{xX:Ů->Ç}{xJ:Nat×Nat}{vX:List ByteArray}{vJ:aV->é->É->Prop}{s:Go.Func}
namespace Go.Proofs.Y.gA
open Go Go.Proofs Go.RowKit Go.Proofs.Y.Lift
def fc{p:Prop}(h:p):Hid p:=h
def t_{b:Bool}(h:yQ=b):È (Ñ yQ)=È (Ñ b):=by rw[h]
def FM{k:IntKind}{b:Int}(h:c=b):È (Â k c)=È (Â k b):=by rw[h]
def u_{b:ByteArray}(h:B=b):È (Í B)=È (Í b):=by rw[h]
def kr:Ç->Bool
 |Â aW _=>Ï
 |Â _ _=>Ú
 |Ñ _=>Ú
 |_=>Ï
def ml(T:ô):Bool:=T==257||T==246
def sk(m:Nat)(w:É):Prop:=∀(b:Nat) (c:Array Ç) (T:ô) (v:Nat×Nat),m<=b->w.heap[b]?=Ã (Ð c T v)->ml T=Ú->0<c.size/\∀v∈c.toList,kr v=Ú
def NF(b:Nat)(w:É):Prop:=∀(c:Array Ç) (T:ô) (a:Nat×Nat),w.heap[b]?=Ã (Ð c T a)->ml T=Ï
structure e8(X:Nat->Prop)(w w':É):Prop where
 M:w.heap.size<=w'.heap.size
 N:∀k,k<w.heap.size->¬X k->w'.heap[k]?=w.heap[k]?
 gV:kq w->kq w'
 Y:∀m,sk m w->sk m w'
section
variable{Y:Nat->Prop}{w' d:É}
def e8.fW(X:Nat->Prop)(w:É):e8 X w w:=⟨Þ _,λ_ _ _=>rfl,id,λ_=>id⟩
def e8.fe(h:e8 X W jX)(k:e8 X jX d):e8 X W d:= ⟨ë h.M k.M,λi b c=>(k.N i (Ũ b h.M) c).trans<|h.N i b c,λa=>k.gV<|h.gV a,λm a=>k.Y m<|h.Y m a⟩
def e8.S(h:e8 X w w')(b:∀k,k<w.heap.size->X k->Y k):e8 Y w w':= ⟨h.M,λk a c=>h.N k a λx=>c<|b k a x,h.gV,h.Y⟩
def e8.C(h:e8 X W jX)(k:e8 Y jX d)(e:∀i,i<W.heap.size->Y i->X i):e8 X W d:= ⟨ë h.M k.M,λi b c=>(k.N i (Ũ b h.M) λy=>c<|e i b y).trans<|h.N i b c,λa=>k.gV<|h.gV a,λm a=>k.Y m<|h.Y m a⟩
def alr(a:kq w)(p:Ą)(v:Ç):kq (w.setCell p v):=by
 intro i o h;by_cases e:i=p.block
 .subst e;unfold Ć at h;simp only[Û,if_true]at h;cases b:w.heap[p.block]? with
  |none=>rw[b]at h;cases h
  |some d=>
   have:=a _ _ b;rw[b]at h;cases d with
   |cells c t z=>simp only[ñ,è]at h;subst h;exact λx=>x
   |_=>exact absurd trivial this
 .rw[ė _ _ _ _ (by simpa using e)]at h;exact a i o h
theorem Jb(a:kq w)(b:Array Ç)(t:ô)(z:Nat×Nat):kq (w.alloc<|Ð b t z):=by
 intro i o h;by_cases e:i<w.heap.size
 .rw[ď _ _ _ e]at h;exact a i o h
 .by_cases c:i=w.heap.size
  .subst c;rw[ì]at h;cases h;exact λx=>x
  .have:(w.alloc<|Ð b t z).heap.size<=i:=by simp;omega
   grind
def als(a:sk m w)(p:Ą)(v:Ç)(f:kr v=Ú\/NF p.block w):sk m (w.setCell p v):=by
 intro i c T k g h b;by_cases e:i=p.block
 .subst e;unfold Ć at h;simp only[Û,if_true]at h;cases d:w.heap[p.block]? with
  |none=>rw[d]at h;cases h
  |some l=>
   rw[d]at h;cases l with
   |cells o t z=>
    simp only[ñ,è,Ĥ]at h;obtain⟨n,rfl,rfl⟩:=h;rcases f with f|f
    .subst n;split
     .exact a _ _ _ _ g d b
     .refine⟨by rw[Array.size_setIfInBounds];exact(a _ _ _ _ g d b).1,λu j=> ?_⟩;rw[Array.toList_setIfInBounds]at j;rcases List.mem_or_eq_of_mem_set j with q|q
      .exact(a _ _ _ _ g d b).2 u q
      .rwa[q]
    .rw[f _ _ _ d]at b;cases b
   |_=>cases h
 .rw[ė _ _ _ _ (by simpa using e)]at h;exact a i c T k g h b
theorem Jc(a:sk m w)(b:Array Ç)(t:ô)(z:Nat×Nat)(j:ml t=Ï\/0<b.size/\∀v∈b.toList,kr v=Ú):sk m (w.alloc<|Ð b t z):=by
 intro i c T d f h g;by_cases e:i<w.heap.size
 .rw[ď _ _ _ e]at h;exact a i c T d f h g
 .by_cases k:i=w.heap.size
  .grind [ì]
  .have:(w.alloc<|Ð b t z).heap.size<=i:=by simp;omega
   grind
def e8.I{p:Addr}(hx:X p.block)(v:Value)(hv:kr v=true\/NF p.block w:=by first|exact Or.inl (by rfl)|exact Or.inr<|by assumption):e8 X w (w.setCell p v):= ⟨fi,λk _ hk=>ė _ _ _ _ (by intro e;subst e;exact hk hx),λa=>alr a p v,λ_ a=>als a p v hv⟩
def e8.gG(X:Nat->Prop)(w:World)(cs:Array Value)(t:TypeId)(hf:ml t=false\/0<cs.size/\∀v∈cs.toList,kr v=true:=by first|exact Or.inl (by decide)|exact Or.inr ⟨by simp,by simp[kr]⟩):e8 X w (w.alloc<|.cells cs t):= ⟨fi,λk hk _=>ď _ _ _ hk,λa=>Jb a cs t (0,0),λ_ a=>Jc a cs t (0,0) hf⟩
def e8.iR(X:Nat->Prop)(w:É)(n:Nat):e8 X w (w.drewN n):=⟨Þ _,λ_ _ _=>rfl,id,λ_=>id⟩
def e8.fU(X:Nat->Prop)(w:É):e8 X w w.drew:=⟨Þ _,λ_ _ _=>rfl,id,λ_=>id⟩
def kp{X:Nat->Prop}{w w':World}(h:e8 X w w':=by repeat' (first|(with_reducible exact e8.fW _ _)|(with_reducible refine e8.fe ?_<|e8.iR _ _ _)|(with_reducible refine e8.fe ?_<|e8.fU _ _)|(with_reducible refine e8.fe ?_<|e8.gG _ _ _ _))):e8 X w w':=h
def e8.r(h:e8 X w w')(b:w.cell? a=Ã v)(c:¬X a.block):w'.cell? a=Ã v:=by rwa[World.cell?_of_block<|h.N _ (á w a b) c]
end
def Je{u:Ç}(h:j≠b):(w.setCell ⟨j,i,Ä⟩ u).cell? ⟨b,n,Ä⟩=w.cell? ⟨b,n,Ä⟩:= World.cell?_setCell_other _ _ _ _<|by intro e;injection e with e1 e2;exact h e1
def ff(j:Nat)(vs:List Ç)(T:ô)(w:É):Prop:=w.heap[j]?=Ã (Ð vs.toArray T (0,0))
section
variable{vs:List Ç}{w':É}
def ff.N(w:É)(vs:List Ç)(T:ô):ff w.heap.size vs T (w.alloc<|Ð vs.toArray T):=ì w _
def ff.M(h:ff j vs T w):j<w.heap.size:=by
 rcases ů j w.heap.size with a|a
 .exact a
 .unfold ff at h;rw[Array.getElem?_eq_none a]at h;cases h
def ff.r(h:ff j vs T w)(i:Nat)(v:Ç)(a:vs[i]?=Ã v):w.cell? ⟨j,i,Ä⟩=Ã v:=by unfold ff at h;simp only[Η,h,ũ,ĭ,if_false,List.getElem?_toArray];exact a
def ff.C(h:ff j vs T w)(i:Nat):w.frozen? ⟨j,i,Ä⟩=Ï:=by unfold ff at h;simp[World.frozen?,h]
def ff.Ax(h:ff j vs T w)(e:w'.heap[j]?=w.heap[j]?):ff j vs T w':=by unfold ff;rwa[e]
def ff.I(h:ff j vs T w)(k:e8 X w w')(a:¬X j):ff j vs T w':=h.Ax<|k.N j h.M a
theorem ff.fQ(h:ff j vs T w)(i:Nat)(u:Ç):ff j (vs.set i u) T (w.setCell ⟨j,i,Ä⟩ u):=by unfold ff at h|-;unfold Ć;grind
def ff.G(h:ff j vs T w)(hT:ml T=false:=by decide):NF j w:=λc T' fr q=>by unfold ff at h;rw[h]at q;cases q;exact hT
theorem ff.S(h:ff j vs T w)(k:ff i l e w)(a:T≠e):j≠i:=by rintro rfl;unfold ff at h k;grind
end
section
variable{w':É}{base:Nat}{size:Nat}{xs:List Ç}
def alu(h:w.ownsRow base e size v n xs)(k:∀j,v.ownBlock=Ã j->w'.heap[j]?=w.heap[j]?):w'.ownsRow base e size v n xs:=by
 let⟨c,a⟩:=h;refine⟨c,?_⟩;rcases a with a|⟨g,d,f,b,i,l,r⟩
 .exact Ø a
 .refine Ù ⟨g,d,f,b,i,?_,r⟩;rw[k g (by rw[b];rfl)];exact l
def ij(h:w.ownsRow base e size v n xs)(k:e8 X w w')(b:∀j,v.ownBlock=Ã j->¬X j):w'.ownsRow base e size v n xs:= alu h λj a=>k.N j (h.lt j a).2<|b j a
theorem jl(h:w.ownsRow base e size v n xs):∃a c,v=Ê a n c:=by rcases h.2 with⟨b,d⟩|⟨g,f,i,b,_⟩;all_goals grind
def lY(h:w.ownsRow base e size v n xs)(a:v.ownBlock=Ã j):∃b,w.heap[j]?=Ã (Ð b e (0,0)):=by
 rcases h.2 with⟨c,_⟩|⟨g,f,b,c,_,d,_⟩
 .rw[c]at a;cases a
 .rw[c]at a;cases a;exact⟨b,d⟩
theorem jF(h:w.ownsRow base e size v n xs)(k:ff j l T w)(a:e≠T):v.ownBlock≠Ã j:=by intro q;let⟨b,c⟩:=lY h q;unfold ff at k;grind
theorem alv(h:w.ownsRow base e size v n xs)(k:w.ownsRow i t b x m l)(a:e≠t)(c:v.ownBlock=Ã j):x.ownBlock≠Ã j:=by grind [lY]
theorem SN{n:Nat}(h:v∈(ö d n).toList):v∈d.toList:=by unfold ö at h;grind [Array.toList_map,getElem,aQ]
structure qz(w:É)(base:Nat)(e:ô)(size:Nat)(v:Ç)(n:Nat)(xs:List Ç)(m:Nat)(news:List Ç)(v':Ç)(w':É):Prop where
 fj:w'.ownsRow base e size v' (n+m) (xs++news)
 r:e8 (λk=>v.ownBlock=Ã k) w w'
 C:v'.ownBlock=v.ownBlock\/v'.ownBlock=Ã w.heap.size
 I:∀v0 n0 xK,w.ownsRow base e size v0 n0 xK->(v0.ownBlock=v.ownBlock->n0<=n)->w'.ownsRow base e size v0 n0 xK
def qz.alx(c:w.ownsRow base e size v n xs)(f:l.length=m*size)(g:base<=w.heap.size)(j:n+m<=i)(o:i<=ą)(p:d.size=i*size)(q:d.toList.take ((n+m)*size)=xs++l)(r:ml e=Ï\/0<d.size/\∀v∈d.toList,kr v=Ú): qz w base e size v n xs m l (Ê (Ã ⟨w.heap.size,0,Ä⟩) (n+m) i) (w.drew.alloc<|Ð d e):=by have b:∀X,e8 X w (w.drew.alloc<|Ð d e):=λX=>⟨fi,λk s _=>ď _ _ _ s,λa=>Jb a d e (0,0),λ_ a=>Jc a d e (0,0) r⟩;refine⟨⟨by rw[Ó,c.1,f,ő],Ù ⟨w.heap.size,i,d,U,g,ì w.drew _,j,o,p,q⟩⟩,b _,Ù U,λt u x h _=>ij h (b λ_=>False) λ_ _=>id⟩
theorem SO{ty:ô}{bytes:Nat}(F:P.underlying t=Ã (bq e))(G:P.info? e=Ã zJ)(Q:zJ.zero=Ã z) (xL:zJ.size=size) (xM:zJ.bytes=bytes) (se:z.cells.size=size) (p:w.ownsRow base e size v n xs) (a:Ą) (c:Nat) (b:List Ç) (hm:0<m) (r:b.length=m*size) (H:∀j u,b[j]?=Ã u->w.cell? (a.add j)=Ã u) (h1:∀u∈b,u.oneCell'=Ú) (S:n+m<=ą) (V:(n+m)*bytes<=140737488355328) (Df:base<=w.heap.size) (W:ml e=Ï\/(0<b.length/\(∀u∈xs++b,kr u=Ú)/\∀u∈z.cells.toList,kr u=Ú)): ∃x w',(Ō #[t,t] ty #[v,Ê (Ã a) m c]).run P w=χ x w'/\qz w base e size v n xs m b x w':=by
 subst xL;subst xM;have aly:n+m<=9223372036854775807:=by simp only[ą]at S;omega
 have hlen:(xs++b).length=(n+m)*zJ.size:=by rw[Ó,p.1,r,ő]
 have au9:=p;have tk:∀d,((xs.toArray++b.toArray++ö z.cells (Œ w (n+m) d e-(n+m))).toList.take ((n+m)*zJ.size)=xs++b):=λd=>by grind
 have sz:∀d,(xs.toArray++b.toArray++ö z.cells (Œ w (n+m) d e-(n+m))).size=Œ w (n+m) d e*zJ.size:=λd=>by have x:=Θ w (n+m) d e;simp only[Ű,Ĉ,size_zeroCells,se,p.1,r,<-ő];congr 1;omega
 have alz:∀d,ml e=Ï\/0<(xs.toArray++b.toArray++ö z.cells (Œ w (n+m) d e-(n+m))).size/\∀v∈(xs.toArray++b.toArray++ö z.cells (Œ w (n+m) d e-(n+m))).toList,kr v=Ú:=λd=>by
  cases s:ml e with
  |false=>exact Ø U
  |true=>
   rcases W with q|⟨x,B,I⟩
   .rw[q]at s;cases s
   .refine Ù ⟨by simp only[Ű,Ĉ];omega,λv f=> ?_⟩;simp only[Š,ú]at f;rcases f with(f|f)|f
    .exact B v<|œ _ f
    .exact B v<|List.mem_append_right _ f
    .exact I v<|SN f
 have gr:=λd=>qz.alx p r Df (Θ w (n+m) d e) (grownCap_le_maxLen w (n+m) d e S) (sz d) (tk d)<|alz d;rcases p.2 with⟨rfl,rfl⟩|⟨g,y,h,rfl,hbg,C,hnc,hcm,X,htake⟩
 .have J:=ß (by simpa using p.1);subst J;have Y:=run_append_nil w t ty e zJ z F G Q a m c b r H hm Z (by have x:=V;simp only[ł]at x;omega);grind
 .by_cases K:n+m<=y
  .have SQ:n*zJ.size+b.length<=h.size:=by rw[r,X,<-ő];exact Ŕ _ K
   have Y:=run_append_room w t ty e zJ F G g n y h C a m c b r H h1 K SQ;have E:=Ğ w g h (h.toList.take (n*zJ.size)++b++h.toList.drop (n*zJ.size+b.length)).toArray e _ C;have L:=λk (M:k≠g)=>Ę w g k (h.toList.take (n*zJ.size)++b++h.toList.drop (n*zJ.size+b.length)).toArray M;have N:(h.toList.take (n*zJ.size)++b++h.toList.drop (n*zJ.size+b.length)).toArray.size=h.size:=by grind
   have kp:e8 (λk=>Į (Ê (Ã ⟨g,0,Ä⟩) n y)=Ã k) w (w.setRow g (h.toList.take (n*zJ.size)++b++h.toList.drop (n*zJ.size+b.length)).toArray):=by
    refine⟨fi,λk _ M=>L k λe=>M (by simp[Į,e]),λal q o l=> ?_,λm' hF q c T fr O l s=> ?_⟩;rotate_left
    .by_cases D:q=g
     .subst D;rw[E]at l;cases l;rcases W with qq|⟨_,B,_⟩
      .grind
      .refine⟨by rw[N];exact(hF _ _ _ _ O C s).1,λu x=> ?_⟩;simp only[ú]at x;rcases x with(x|x)|x
       .grind
       .grind
       .exact(hF _ _ _ _ O C s).2 u<|List.mem_of_mem_drop x
     .rw[L q D]at l;exact hF q c T fr O l s
    by_cases D:q=g
    .subst D;rw[E]at l;cases l;exact λx=>x
    .rw[L q D]at l;exact al q o l
   refine⟨_,_,Y,⟨hlen,Ù ⟨g,y,_,U,hbg,E,K,hcm,by rw[N,X],?_⟩⟩,kp,Ø U,λo q xK x s=> ?_⟩
   .grind
   .by_cases f:o.ownBlock=Ã g
    .let⟨B,I⟩:=x;refine⟨B,?_⟩;rcases I with⟨rfl,_⟩|⟨g0,D,ava,rfl,O,l,T,b4,b5,b6⟩
     .cases f
     .have:g0=g:=by simpa[Į]using f
      subst this;rw[C]at l;cases l;refine Ù ⟨g0,D,_,U,O,E,T,b4,by rw[N,b5],?_⟩;rw[htake];have avb:q*zJ.size<=n*zJ.size:=Ŕ _<|s f;grind
    .exact ij x kp λj l J=>f<|by rw[l];simpa[Į]using J.symm
  .exact⟨_,_,(Λ w t ty e zJ z F G Q ⟨g,0,Ä⟩ n y xs p.1 (p.cells U) a m c b r H Z Z<|ŕ Z V),gr y⟩
def Dg{P:Program}{ops:Array Oper}{rest:List Oper}{o:Oper}{a:Act}{Q:Exit->Act->World->Prop}(SR:o.guard=none)(s x:Operand)(t:TypeId) (ho:o.op=.call {callee:=.builtin .append,args:=#[s,x],argTypes:=#[t,t]}) {i:TypeInfo} {z:Value} {bytes:Nat} (ht:P.underlying t=some (.slice e)) (hi:P.info? e=some i) (hz:i.zero=some z) (xL:i.size=size) (xM:i.bytes=bytes) (se:z.cells.size=size) (hs:a.eval s=v) (lL:w.ownsRow base e size v n xs) (ad:Addr) {m c:Nat} (news:List Value) (hx:a.eval x=.slice (some ad) m c) (hm:0<m) (hl:news.length=m*size) (SS:∀j u,news[j]?=some u->w.cell? (ad.add j)=some u) (h1:∀u∈news,u.oneCell'=true) (Dh:n+m<=maxLen) (Di:(n+m)*bytes<=140737488355328) (Df:base<=w.heap.size) (h:∀v' w',qz w base e size v n xs m news v' w'->wpList P ops Q rest (a.put o.dst v') w') (hfl:ml e=false\/(0<news.length/\(∀u∈xs++news,kr u=true)/\∀u∈z.cells.toList,kr u=true):=by first|exact Or.inl (by decide)|exact Or.inr ⟨by simp,by simp[kr],by simp[kr,Value.cells]⟩): wpList P ops Q (o::rest) a w:=by refine ű SR λK hK=> ?_;let⟨v',w',hr,h2⟩:=SO (ty:=o.type) ht hi hz xL xM se lL ad c news hm hl SS h1 Dh Di Df hfl;unfold Ń ĥ;simp only[ho,ag,aR,ah,Ų,ų,Ĵ,ļ,Ť,Ŵ,hs,hx,hr];exact hK _ _<|h v' w' h2
end
structure Jf where
 fu:Int
 r:ByteArray
 C:Nat->Int
abbrev St:=Nat->Jf
def St.fQ(s:St)(i:Nat)(a:Jf):St:=λj=>if j=i then a else s j
def St.fu(s:St)(i:Nat)(b:Int):St:=s.fQ i {s i with fu:=b}
def St.C(s:St)(i:Nat)(p:ByteArray):St:=s.fQ i {s i with r:=p}
def St.r(s:St)(i j:Nat)(v:Int):St:=s.fQ i {s i with C:=λk=>if k=j then v else(s i).C k}
def qA(n:Int):Ç:=Â Æ n
def SU(n:Int):Ç:=Â Ë n
def qB(s:St)(i:Nat):Ç:=if i%18=0 then qA (s<|i/18).fu else if i%18=1 then Í (s<|i/18).r else qA ((s<|i/18).C<|i%18-2)
def sr(s:St)(a:Ç)(i:Nat):Ç:=if 144<=i then a else qB s i
def rz(s:St)(a:Ç)(h:i<144):sr s a i=qB s i:=by unfold sr;rw[if_neg Z]
def jc(s:St)(lv:Ç):List Ç:=(ċ 145).map<|sr s lv
def mL(s:St)(lv:Ç):(jc s lv).length=145:=by simp[jc]
theorem Jg(s:St)(a:Ç)(h:i<145):(jc s a)[i]?=Ã (sr s a i):=by unfold jc;grind
theorem w_{s:St}(h:l.length=145)(a:∀i,i<145->l[i]?=Ã (sr s v i)):l=jc s v:=by apply þ;grind [Jg,mL]
section
variable(s:St)(lv:Ç)
def Jh(h:i<8):sr s lv (i*18)=qA (s i).fu:=by rw[rz _ _ Z,qB,if_pos Z,show i*18/18=i from by omega]
def M3(h:i<8):sr s lv (i*18+1)=Í (s i).r:=by rw[rz _ _ Z,qB,if_neg Z,if_pos Z,show(i*18+1)/18=i from by omega]
def M4(h:i<8)(a:j<16):sr s lv (i*18+2+j)=qA ((s i).C j):=by rw[rz _ _ Z,qB,if_neg Z,if_neg Z,show(i*18+2+j)/18=i from by omega,show(i*18+2+j)%18-2=j from by omega]
theorem M5:sr s lv 144=lv:=by unfold sr;grind
theorem alA(v:Ç):(jc s lv).set 144 v=jc s v:=by
 refine w_ (by rw[ĕ,mL]) λi a=> ?_;by_cases e:i=144
 .grind [mL,M5]
 .rw[Ŗ<|Ne.symm e,Jg _ _ a,rz _ _ Z,rz _ _ Z]
theorem SV(f:i<144){c:St}(g:sr c lv i=v)(h:∀b,b<144->b≠i->qB c b=qB s b):(jc s lv).set i v=jc c lv:=by
 refine w_ (by rw[ĕ,mL]) λb d=> ?_;by_cases e:b=i
 .grind [mL]
 .rw[Ŗ<|Ne.symm e,Jg _ _ d];grind [rz,M5]
def y_(h:i<8)(b:Int):(jc s lv).set (i*18) (qA b)=jc (s.fu i b) lv:=by
 refine SV s lv Z ?_ λk a c=> ?_
 .rw[Jh _ _ h];simp[St.fu,St.fQ]
 .unfold qB;by_cases e:k/18=i
  .have:k%18≠0:=Z
   simp[St.fu,St.fQ,e,this]
  .simp[St.fu,St.fQ,e]
def alB(h:i<8)(p:ByteArray):(jc s lv).set (i*18+1) (Í p)=jc (s.C i p) lv:=by
 refine SV s lv Z ?_ λk a b=> ?_
 .rw[M3 _ _ h];simp[St.C,St.fQ]
 .unfold qB;by_cases e:k/18=i
  .have:k%18≠1:=Z
   simp[St.C,St.fQ,e,this]
  .simp[St.C,St.fQ,e]
def alC(h:i<8)(c:j<16)(v:Int):(jc s lv).set (i*18+2+j) (qA v)=jc (s.r i j v) lv:=by
 refine SV s lv Z ?_ λk d f=> ?_
 .rw[M4 _ _ h c];simp[St.r,St.fQ]
 .unfold qB;by_cases e:k/18=i
  .by_cases a:k%18=0
   .simp[St.r,St.fQ,e,a]
   .by_cases b:k%18=1
    .simp[St.r,St.fQ,e,b]
    .have:k%18-2≠j:=Z
     simp[St.r,St.fQ,e,a,b,this]
  .simp[St.r,St.fQ,e]
end
def iD(b:Nat)(T:ô)(tl:List Ç)(s:St)(lv:Ç)(w:É):Prop:=ff b (jc s lv++tl) T w
section
variable{tl:List Ç}{s:St}{lv:Ç}
def iD.Ji(h:iD b T tl s lv w)(a:i<145):w.cell? ⟨b,i,Ä⟩=Ã (sr s lv i):= ff.r h i _<|by rw[ç (by rwa[mL]),Jg _ _ a]
def iD.qO(h:iD b T tl s lv w)(c:i<145){a:St}(e:(jc s lv).set i v=jc a x):iD b T tl a x (w.setCell ⟨b,i,Ä⟩ v):=by have:=ff.fQ h i v;rw[ğ _ _ (show i<(jc s lv).length by rwa[mL]),e]at this;exact this
def iD.fu(h:iD b T tl s lv w)(a:i<8):w.cell? ⟨b,i*18,Ä⟩=Ã (Â Æ (s i).fu):=by rw[h.Ji Z,Jh _ _ a];rfl
def iD.M6(h:iD b T tl s lv w)(a:i<8):w.cell? ⟨b,i*18+1,Ä⟩=Ã (Í (s i).r):=by rw[h.Ji Z,M3 _ _ a]
def iD.z_(h:iD b T tl s lv w)(a:i<8)(c:j<16):w.cell? ⟨b,i*18+2+j,Ä⟩=Ã (Â Æ<|(s i).C j):=by rw[h.Ji Z,M4 _ _ a c];rfl
def iD.Dj(h:iD b T tl s lv w):w.cell? ⟨b,144,Ä⟩=Ã lv:=by rw[h.Ji Z,M5]
def iD.zF(h:iD b T tl s lv w)(a:i<8)(x:Int):iD b T tl (s.fu i x) lv (w.setCell ⟨b,i*18,Ä⟩<|Â Æ x):=h.qO Z<|y_ s lv a x
def iD.alD(h:iD b T tl s lv w)(a:i<8)(x:ByteArray):iD b T tl (s.C i x) lv (w.setCell ⟨b,i*18+1,Ä⟩<|Í x):=h.qO Z<|alB s lv a x
def iD.SY(h:iD b T tl s lv w)(a:i<8)(c:j<16)(x:Int):iD b T tl (s.r i j x) lv (w.setCell ⟨b,i*18+2+j,Ä⟩<|Â Æ x):=h.qO Z<|alC s lv a c x
def iD.alE(h:iD b T tl s lv w)(v:Ç):iD b T tl s v (w.setCell ⟨b,144,Ä⟩ v):=h.qO Z<|alA s lv v
end
def xN(b:Bool):Int:=if b then 1 else 0
def Jj(b:Bool)(w:É):Ò À 159 #[Ñ b] w λe a=>e=È (Â Æ<|xN b)/\a=w:=by
 go_enter Tryz.func159,Tryz.ntmps159;go_wp2;all_goals go_ret
 all_goals refine⟨FM ?_,U⟩
 all_goals simp[xN, *]
def A_(b o:Nat)(s:Int)(c:0<=s)(d:s<18446744073709551616)(w:É):Ò À 208 #[Å<|Ã ⟨b,o,Ä⟩,Â Æ s] w λe a=>e=È (Å<|Ã ⟨b,o+2+(s%16).toNat,Ä⟩)/\a=w:=by
 go_enter Tryz.func208,Tryz.ntmps208;go_wp2;all_goals go_ret
 exact⟨U,U⟩
def wu(n:Int):Int:=Æ.wrap n
def alF(a:0<=h)(b:h<18446744073709551616):wu h=h:=by show h%18446744073709551616=h;omega
def A'(n:Int):wu n=n%18446744073709551616:=rfl
def alG(n:Int):0<=wu n:=by rw[A'];omega
def alH(n:Int):wu n<18446744073709551616:=by rw[A'];omega
def xO(k p q:Int):Int:=
 if k=2 then wu (p+q)else if k=3 then wu (p-q)else if k=4 then wu (p*q)
 else if k=5 then(if q=0 then 0 else p/q)else if k=6 then xN (decide<|p<q)else xN (decide<|p=q)
def alI(k p q:Int)(b:0<=p)(c:p<18446744073709551616)(d:0<=q)(f:q<18446744073709551616)(w:É):Ò À 211 #[Â Ë k,Â Æ p,Â Æ q] w λe a=>e=È (Â Æ<|xO k p q)/\a=w:=by
 go_enter Tryz.func211,Tryz.ntmps211;go_wp2_with (go_at_call 159;refine(Jj _ _).mono ?_;rintro e a ⟨rfl,rfl⟩);all_goals simp only[beq_iff_eq,beq_eq_false_iff_ne,ne_eq]at*
 all_goals first
  |(exfalso;simp_all;done)
  |(go_ret;refine⟨FM ?_,U⟩;unfold xO;simp[wu, *];done)
  |(go_ret;refine⟨FM ?_,U⟩;unfold xO;simp[wu, *];rfl)
structure RC where
 x:Nat
 y:Nat
 k:Int
 d:Int
 g:Int
def rA(a:Nat)(c:RC)(b:Ç):List Ç:=[Å<|Ã ⟨a,0,Ä⟩,Â Ë c.x,Â Ë c.y,Â Æ c.k,Â Ë c.d,Â Æ c.g,b]
def pM(l:List Int):List Ç:=l.map qA
theorem alJ{base:Nat}(h:w.ownsRow base e 1 (Ê O (n+1) i) (n+1) (l++[x])):w.ownsRow base e 1 (Ê O n i) n l:=by
 let⟨d,b⟩:=h;simp only[Ó,Ľ,Μ,ŗ]at d;refine⟨Z,?_⟩;rcases b with⟨b,_⟩|⟨g,q,f,b,j,k,r,m,o,p⟩
 .cases b
 .cases b;refine Ù ⟨g,i,f,U,j,k,Z,m,o,?_⟩;have:=congrArg (List.take n) p;grind
def M7{base:Nat}(h:w.ownsRow base e 1 (Ê O (n+1) i) (n+1) (l++[x])):∃g,O=Ã ⟨g,0,Ä⟩/\w.cell? ⟨g,n,Ä⟩=Ã x/\n+1<=i:=by
 let⟨f,d⟩:=h;simp only[Ó,Ľ,Μ,ŗ]at f;rcases d with⟨d,_⟩|⟨g,o,p,d,q,j,k,r,s,m⟩
 .cases d
 .cases d;refine⟨g,U,?_,k⟩;have:=congrArg (λb=>b[n]?) m;simp only[ŗ]at this;rw[List.getElem?_take_of_lt Z,ü Z,show n-l.length=0 by omega]at this;simp only[Η,j];simpa using this
def M8(j d:Nat)(c:RC)(f:Ç)(base:Nat)(b:List Int)(p:Int)(w:É)(i:ff d (rA j c f) 282 w)(h:w.ownsRow base 36 1 f (b.length+1) (pM b++[qA p]))(k:b.length<=1000): Ò À 204 #[Å<|Ã ⟨d,0,Ä⟩] w λe g=>e=È (Â Æ p)/\∃a,g=w.setCell ⟨d,6,Ä⟩ a/\w.ownsRow base 36 1 a b.length (pM b)/\a.ownBlock=f.ownBlock:=by obtain⟨a,l,rfl⟩:=jl h;obtain⟨g,rfl,m,o⟩:=M7 h;have e:=alJ h;have q:=i.r 6 _ U;have r:=i.C 6;have H:=fc e;generalize b.length=n at*;go_enter Tryz.func204,Tryz.ntmps204;go_wp2;go_ret;refine⟨U,_,U,?_,U⟩;simpa using H.out
def alK:(À.info? 36).map (λi=>(i.zero,i.size,i.bytes))=Ã (Ã<|Â Æ 0,1,8):=fp
def B_(p b:Nat)(c:RC)(d:Ç)(base:Nat)(k:List Ç)(n:Nat)(f m:Nat)(q:Nat)(a:List Ç)(w:É)(g:ff b (rA p c d) 282 w)(l:w.ownsRow base 36 1 d n k)(E:n+m<=1000) (r:0<m) (s:a.length=m) (t:∀j u,a[j]?=Ã u->w.cell? ((⟨f,0,Ä⟩:Ą).add j)=Ã u) (v:∀u∈a,u.oneCell'=Ú) (x:base<=w.heap.size): Ò À 203 #[Å<|Ã ⟨b,0,Ä⟩,Ê (Ã ⟨f,0,Ä⟩) m q] w λe o=>e=È (æ #[])/\∃h i,qz w base 36 1 d n k m a h i/\o=i.setCell ⟨b,6,Ä⟩ h:=by let⟨F,y,z,B,C⟩:=í alK;have D:=g.r 6 _ U;have o:=jF l g A;have H:=fc g;go_enter Tryz.func203,Tryz.ntmps203;go_wp2_with (at_builtin;refine Dg U _ _ 231 U Tryz.underlying231 y z B C U U l ⟨f,0,Ä⟩ a U r (by rw[s,ŗ]) t v (by unfold ą;omega) Z x ?_;intro h i e;obtain⟨G,I,rfl⟩:=jl e.fj;have J:=e.r.r D o;have K:=(H.out.I e.r o).C 6);go_end0;exact⟨U,_,_,e,U⟩
def kt(l:List (Nat×Int)):List Ç:=l.flatMap λp=>[SU p.1,qA p.2]
structure iW where
 r:Nat
 T:ô
 C:List Ç
structure iW.Ok(E:iW):Prop where
 M:E.T≠36
 r:E.T≠257
 I:E.T≠282
 N:E.T≠300
 alL:E.T≠252
 alM:E.T≠246
def iW.Ok.C{E:iW}(h:E.Ok):ml E.T=Ï:=by unfold ml;rw[beq_eq_false_iff_ne.2 h.r,beq_eq_false_iff_ne.2 h.alM];rfl
structure R(E:iW)(rb:Nat)(c:RC)(sv lv:Ç)(ss:List Int)(s:St)(ls:List (Nat×Int))(w:É):Prop where
 r:ff rb (rA E.r c sv) 282 w
 I:w.ownsRow 0 36 1 sv ss.length (pM ss)
 C:iD E.r E.T E.C s lv w
 M:w.ownsRow 0 257 2 lv ls.length (kt ls)
structure Tr(E:iW)(rb:Nat)(sv lv:Ç)(n:Nat)(w:É)(ki jE:Ç)(n':Nat)(w':É):Prop where
 r:e8 (λk=>k=E.r\/k=rb\/sv.ownBlock=Ã k\/lv.ownBlock=Ã k) w w'
 s:∀j,ki.ownBlock=Ã j->sv.ownBlock=Ã j\/w.heap.size<=j
 l:∀j,jE.ownBlock=Ã j->lv.ownBlock=Ã j\/w.heap.size<=j
 C:∀v0 n0 xK,w.ownsRow 0 257 2 v0 n0 xK->(v0.ownBlock=lv.ownBlock->n0<=n)->w'.ownsRow 0 257 2 v0 n0 xK/\(v0.ownBlock=jE.ownBlock->n0<=n')
section
variable{E:iW}{rb:Nat}{c:RC}{sv lv f o:Ç}{ss:List Int}{s:St}{ls:List (Nat×Int)}
def Tr.fW(E:iW)(rb:Nat)(sv lv:Ç)(n:Nat)(w:É):Tr E rb sv lv n w sv lv n w:= ⟨e8.fW _ _,λ_ h=>Ø h,λ_ h=>Ø h,λ_ _ _ h k=>⟨h,k⟩⟩
theorem Tr.fe(h:Tr E rb sv lv n w f z b u)(k:Tr E rb f z b u o jQ m W):Tr E rb sv lv n w o jQ m W:=by
 refine⟨h.r.C k.r ?_,λj a=> ?_,λj a=> ?_,λc d g p q=> ?_⟩
 .rintro i r (e|e|e|e)
  .exact Ø e
  .grind
  .exact Ù<|Ù<|Ø<|(h.s i e).resolve_right Z
  .exact Ù<|Ù<|Ù<|(h.l i e).resolve_right Z
 .rcases k.s j a with e|e
  .exact h.s j e
  .exact Ù<|ë h.r.M e
 .rcases k.l j a with e|e
  .exact h.l j e
  .exact Ù<|ë h.r.M e
 .let⟨e,i⟩:=h.C c d g p q;exact k.C c d g e i
def Tr.I(k:e8 X w u)(c:∀i,i<w.heap.size->X i->i=E.r\/i=rb\/sv.ownBlock=Ã i)(d:∀j,f.ownBlock=Ã j->sv.ownBlock=Ã j\/w.heap.size<=j)(g:∀i a,X i->w.heap[i]?≠Ã (Ð a 257 (0,0))):Tr E rb sv lv n w f lv n u:= ⟨k.S λi h q=>(c i h q).elim Ø λe=>Ù (e.elim Ø λe=>Ù<|Ø e),d,λj q=>Ø q,λp r s b l=>⟨ij b k λj m q=>by let⟨a,o⟩:=lY b m;exact g j a q o,l⟩⟩
def Tr.alN{Y:Nat->Prop}(t:Tr E rb sv lv n w f z b u)(k:e8 Y u W)(m:∀i,Y i->w.heap.size<=i)(o:∀i a,Y i->u.heap[i]?≠Ã (Ð a 257 (0,0))):Tr E rb sv lv n w f z b W:= ⟨t.r.C k λi v q=>absurd (m i q) Z,t.s,t.l,λc d e g h=>⟨ij (t.C c d e g h).1 k λj p q=>by let⟨a,r⟩:=lY (t.C c d e g h).1 p;exact o j a q r,(t.C c d e g h).2⟩⟩
def R.alO(ok:E.Ok)(h:R E rb c sv lv ss s ls w)(a:ff j l 252 w)(k:e8 (λi=>i=j) w u):R E rb c sv lv ss s ls u:= ⟨h.r.I k<|ff.S h.r a A,ij h.I k λi q r=>jF h.I a A (by rw[q,r]),h.C.I k<|ff.S h.C a ok.alL,ij h.M k λi q r=>jF h.M a A<|by rw[q,r]⟩
theorem R.N(ok:E.Ok)(h:R E rb c sv lv ss s ls w)(i:Nat){c':RC}{ki:Ç}{ss':List Int}(e:(rA E.r c sv).set i v=rA E.r c' ki)(b:w.ownsRow 0 36 1 ki ss'.length (pM ss'))(d:∀j,ki.ownBlock=Ã j->sv.ownBlock=Ã j): R E rb c' ki lv ss' s ls (w.setCell ⟨rb,i,Ä⟩ v)/\Tr E rb sv lv ls.length w ki lv ls.length (w.setCell ⟨rb,i,Ä⟩ v):=by have a:=e8.I (X:=λk=>k=rb) (p:=⟨rb,i,Ä⟩) U v<|Ù h.r.G;refine⟨⟨by have:=h.r.fQ i v;rwa[e]at this,ij b a λj q r=>jF b h.r A (by rw[q,r]),h.C.I a<|ff.S h.C h.r ok.I,ij h.M a λj q r=>jF h.M h.r A<|by rw[q,r]⟩,Tr.I a (λi _ q=>Ù<|Ø q) (λj q=>Ø<|d j q) λi f q g=> ?_⟩;have k:=h.r;unfold ff at k;grind
def R.S(ok:E.Ok)(h:R E rb c sv lv ss s ls w)(i:Nat){d:St}(k:iD E.r E.T E.C d lv (w.setCell ⟨E.r,i,Ä⟩ v)): R E rb c sv lv ss d ls (w.setCell ⟨E.r,i,Ä⟩ v)/\Tr E rb sv lv ls.length w sv lv ls.length (w.setCell ⟨E.r,i,Ä⟩ v):=by have b:=e8.I (X:=λk=>k=E.r) (p:=⟨E.r,i,Ä⟩) U v<|Ù<|ff.G h.C ok.C;refine⟨⟨h.r.I b (ff.S h.C h.r ok.I).symm,ij h.I b λj q r=>jF h.I h.C ok.M.symm (by rw[q,r]),k,ij h.M b λj q r=>jF h.M h.C ok.r.symm<|by rw[q,r]⟩,Tr.I b (λi _ q=>Ø q) (λj q=>Ø q) λi e q a=> ?_⟩;rw[q,h.C]at a;injection a with a;injection a with _ a;exact ok.r a
theorem R.Y(ok:E.Ok)(h:R E rb c sv lv ss s ls w){ns:List Int}{u:É}(o:ns.length=m)(a:qz w 0 36 1 sv ss.length (pM ss) m (pM ns) v u): R E rb c v lv (ss++ns) s ls (u.setCell ⟨rb,6,Ä⟩ v)/\Tr E rb sv lv ls.length w v lv ls.length (u.setCell ⟨rb,6,Ä⟩ v):=by
 subst o;have d:∀{i:Nat} {f:Array Ç} {T:ô},sv.ownBlock=Ã i->w.heap[i]?=Ã (Ð f T (0,0))->T=36:=λ{i f T} q l=>by let⟨g,e⟩:=lY h.I q;grind
 have b:R E rb c sv lv ss s ls u:=⟨h.r.I a.r λq=>absurd (d q h.r) A,a.I _ _ _ h.I λ_=>Þ _,h.C.I a.r λq=>ok.M<|d q h.C,ij h.M a.r λj q r=>by let⟨g,e⟩:=lY h.M q;exact absurd (d r e) A⟩;have n:u.ownsRow 0 36 1 v (ss++ns).length (pM<|ss++ns):=by have:=a.fj;rwa[show pM ss++pM ns=pM (ss++ns) by simp[pM],show ss.length+ns.length=(ss++ns).length by simp]at this
 have g:=e8.I (X:=λk=>k=rb) (p:=⟨rb,6,Ä⟩) U v<|Ù b.r.G;refine⟨⟨b.r.fQ 6 v,ij n g λj q r=>jF n b.r A (by rw[q,r]),b.C.I g<|ff.S b.C b.r ok.I,ij b.M g λj q r=>jF b.M b.r A<|by rw[q,r]⟩,(Tr.I a.r (λi _ q=>Ù<|Ù q) (λj q=>a.C.elim (λe=>Ø<|by rwa[<-e]) λe=>Ù<|by rw[e]at q;cases q;exact Þ _) λi f q l=>absurd (d q l) A).fe<|Tr.I g (λi _ q=>Ù<|Ø q) (λj q=>Ø q) λi f q l=> ?_⟩;have e:=b.r;unfold ff at e;grind
end
section
variable{E:iW}{rb:Nat}{c:RC}{sv lv:Ç}{s:St}{ls:List (Nat×Int)}
def R.fK(h:R E rb c sv lv zQ s ls w)(k:e8 (λ_=>False) w W):R E rb c sv lv zQ s ls W:= ⟨h.r.I k id,ij h.I k λ_ _=>id,h.C.I k id,ij h.M k λ_ _=>id⟩
def Tr.fK(k:e8 (λ_=>False) w W):Tr E rb sv lv n w sv lv n W:=Tr.I k (λ_ _=>Ě) (λ_ q=>Ø q) λ_ _=>Ě
end
def jb:List (Int×Int×Int):=[(0,0,0),(1,0,1),(1,2,1),(1,2,1),(2,2,1),(2,2,1),(1,2,1),(1,2,1),(1,1,2),(1,2,2),(1,1,0),(1,0,1),(1,0,1),(1,0,1),(1,0,1),(3,1,1),(6,2,0),(2,2,0),(8,2,1),(4,1,0),(8,3,2),(1,1,0),(1,0,0)]
structure iL(w:É):Prop where
 M:∃cs fz,w.heap[2]?=Ã (Ð cs 300 fz)
 I:∀(k:Nat) (r:Int×Int×Int),jb[k]?=Ã r->w.cell? ⟨2,k*3,Ä⟩=Ã (Â Æ r.1)/\w.cell? ⟨2,k*3+1,Ä⟩=Ã (Â Ë r.2.1)/\w.cell? ⟨2,k*3+2,Ä⟩=Ã (Â Ë r.2.2)
theorem iL.r(h:iL w)(k:e8 X w u)(a:¬X 2):iL u:=by
 let⟨b,c,d⟩:=h.M;have e:2<w.heap.size:=by grind
 refine⟨⟨b,c,by rwa[k.N 2 e a]⟩,λi r f=> ?_⟩;let⟨g,j,l⟩:=h.I i r f;exact⟨k.r g a,k.r j a,k.r l a⟩
theorem iL.C(h:iL w)(a:w.heap[j]?=Ã (Ð d T xJ))(b:T≠300):j≠2:=by rintro rfl;let⟨c,e,f⟩:=h.M;grind
def iL.N{E:iW}(ok:E.Ok){rb:Nat}{c:RC}{sv lv:Ç}{s:St}{a:List (Nat×Int)}(h:iL w)(r:R E rb c sv lv zQ s a w)(t:Tr E rb sv lv n w v x i u):iL u:=by
 refine h.r t.r ?_;rintro(e|e|e|e)
 .exact h.C r.C ok.N e.symm
 .exact h.C r.r A e.symm
 .let⟨b,q⟩:=lY r.I e;exact h.C q A U
 .let⟨b,q⟩:=lY r.M e;exact h.C q A U
theorem M9:∀(k:Nat) (r:Int×Int×Int),jb[k]?=Ã r->0<=r.1/\r.1<=8/\0<=r.2.1/\r.2.1<=3/\0<=r.2.2/\r.2.2<=2:=by
 have h:∀r∈jb,0<=r.1/\r.1<=8/\0<=r.2.1/\r.2.1<=3/\0<=r.2.2/\r.2.2<=2:=A
 grind
def mo(g:Int)(n:Nat)(b a c:Int):Bool:= !(decide (g<b)||(decide ((n:Int)-a<0)||decide (32<(n:Int)-a+c)))
def SZ(E:iW)(f:Nat)(c:RC)(a d:Ç)(i:List Int)(s:St)(e:List (Nat×Int))(w:É)(j:Int)(b:Bool)(h:É):Prop:=
 R E f (if b then{c with g:=c.g-j}else c) a d i s e h/\Tr E f a d e.length w a d e.length h
section
variable{E:iW}{rb:Nat}{c:RC}{sv lv:Ç}{s:St}{ls:List (Nat×Int)}
def S0(a:R E rb c sv lv zQ s ls w)(k:e8 (λ_=>False) w u):SZ E rb c sv lv zQ s ls w h Ï u:=⟨a.fK k,Tr.fK k⟩
def alP(ok:E.Ok)(a:R E rb c sv lv zQ s ls w){g:Int}(d:c.g=g)(e:u=W.setCell ⟨rb,5,Ä⟩ (Â Æ<|g-h))(k:e8 (λ_=>False) w W):SZ E rb c sv lv zQ s ls w h Ú u:=by subst d e;have b:=a.fK k;let⟨f,i⟩:=b.N ok 5 (c':={c with g:=c.g-h}) U b.I λ_ q=>q;exact⟨f,(Tr.fK k).fe i⟩
end
def Dk(E:iW)(ok:E.Ok)(m:Nat)(c:RC)(q r:Ç)(d:List Int)(s:St)(t:List (Nat×Int))(w:É)(h:R E m c q r d s t w)(u:iL w)(k:Nat)(f b i:Int)(o:jb[k]?=Ã (f,b,i))(y:d.length<=1000)(P:0<=c.g)(Q:c.g<18446744073709551616): Ò À 202 #[Å<|Ã ⟨m,0,Ä⟩,Â Ë k] w λe a=>e=È (Ñ<|mo c.g d.length f b i)/\SZ E m c q r d s t w f (mo c.g d.length f b i) a:=by
 let⟨z,B,C⟩:=u.I k _ o;obtain⟨a,S,rfl⟩:=jl h.I;have D:=h.r.r 6 _ U;have T:=h.r.r 5 _ U;have V:=h.r.C 5;have W:=h.r.M;have X:k<23:=(Ü.1 o).1;let⟨F,G,I,J,K,L⟩:=M9 k _ o;simp only at F G I J K L z B C;obtain⟨n,j⟩:∃n,d.length=n:=⟨_,U⟩;rw[j]at D y;have e:mo c.g d.length f b i= !(decide (c.g<f)||(decide ((n:Int)-b<0)||decide (32<(n:Int)-b+i))):=by rw[j];rfl
 have H:=fc<|Á h<|Á j e;clear u h j e;generalize M:c.g=g at*;go_enter Tryz.func202,Tryz.ntmps202;go_wp2;go_quiet (fail);go_wp2;by_cases v:g<f
 .go_quiet (fail)
  go_wp2;let⟨h,j,e⟩:=H.out;have l:mo g d.length f b i=Ï:=by rw[e];simp[v]
  go_ret;rw[l];refine⟨U,S0 h ?_⟩;exact kp
 .have N:=decide_eq_false v;by_cases x:(n:Int)-b<0
  .go_quiet (fail)
   go_wp2;let⟨h,j,e⟩:=H.out;have l:mo g d.length f b i=Ï:=by rw[e];simp[x]
   go_ret;rw[l];refine⟨U,S0 h ?_⟩;exact kp
  .have O:=decide_eq_false x;go_quiet (fail);go_wp2
   .have p:32<(n:Int)-b+i:=by assumption
    let⟨h,j,e⟩:=H.out;have l:mo g d.length f b i=Ï:=by rw[e];simp[p]
    go_ret;rw[l];refine⟨U,S0 h ?_⟩;exact kp
   .go_region
    go_wp2;have p:(n:Int)-b+i<=32:=by assumption
    let⟨h,j,e⟩:=H.out;have l:mo g d.length f b i=Ú:=by rw[e];simp[N,O,p]
    go_ret;rw[l];refine⟨U,alP ok h M U ?_⟩;exact kp
def rB(s:St)(y:Nat)(q p:Int):Int×St:=
 if(s y).fu<p then(0,s)else(1,(s.fu y<|(s y).fu-p).fu (q%8).toNat<|wu<|(s.fu y ((s y).fu-p) (q%8).toNat).fu+p)
def zG(E:iW)(e:Nat)(c:RC)(a b:Ç)(g:List Int)(s:St)(d:List (Nat×Int))(w:É)(h:St)(f:É):Prop:=
 R E e c a b g h d f/\Tr E e a b d.length w a b d.length f
section
variable{E:iW}{rb:Nat}{c:RC}{sv lv:Ç}{s d f:St}{a:List (Nat×Int)}
def zG.fK(h:R E rb c sv lv zQ s a w)(k:e8 (λ_=>False) w u):zG E rb c sv lv zQ s a w s u:=⟨h.fK k,Tr.fK k⟩
def zG.fu(ok:E.Ok)(h:zG E rb c sv lv zQ s a w d W)(e:i<8)(x:Int):zG E rb c sv lv zQ s a w (d.fu i x) (W.setCell ⟨E.r,i*18,Ä⟩<|Â Æ x):=by let⟨b,f⟩:=h;let⟨g,j⟩:=b.S ok (i*18)<|b.C.zF e x;exact⟨g,f.fe j⟩
end
def alQ(E:iW)(ok:E.Ok)(d:Nat)(c:RC)(f g:Ç)(i:List Int)(s:St)(j:List (Nat×Int))(w:É)(h:R E d c f g i s j w)(q p:Int)(n:0<=q)(o:q<18446744073709551616)(r:0<=p)(t:p<18446744073709551616)(a:c.y<8)(u:0<=(s c.y).fu)(v:(s c.y).fu<18446744073709551616): Ò À 209 #[Å<|Ã ⟨d,0,Ä⟩,Â Æ q,Â Æ p] w λe k=>e=È (Â Æ (rB s c.y q p).1)/\zG E d c f g i s j w (rB s c.y q p).2 k:=by
 have x:=h.r.r 0 _ U;have z:=h.r.r 2 _ U;have B:=h.r.M;have C:=ff.M h.C;have D:=h.C.fu a;have F:=ff.C h.C<|c.y*18;have k:(q%8).toNat<8:=Z
 have H:=fc h;by_cases l:(s c.y).fu<p
 .have e:rB s c.y q p=(0,s):=by unfold rB;rw[if_pos l]
  rw[e];generalize(s c.y).fu=b at*;generalize c.y=y at*;go_enter ai,η;go_wp2;go_quiet (fail);go_wp2;go_ret;refine⟨U,zG.fK H.out ?_⟩;exact kp
 .have e:rB s c.y q p=(1,(s.fu c.y<|(s c.y).fu-p).fu (q%8).toNat<|wu<|(s.fu c.y ((s c.y).fu-p) (q%8).toNat).fu+p):=by unfold rB;rw[if_neg l]
  rw[e];have G:=λm=>((h.fK<|e8.iR _ w m).C.zF a<|(s c.y).fu-p).fu k;have I:∀m,((w.drewN m).setCell ⟨E.r,c.y*18,Ä⟩<|Â Æ<|(s c.y).fu-p).frozen? ⟨E.r,(q%8).toNat*18,Ä⟩=Ï:=λm=>ff.C ((h.fK<|e8.iR _ w m).C.zF a<|(s c.y).fu-p) _;generalize(s.fu c.y ((s c.y).fu-p) (q%8).toNat).fu=b2 at*;generalize(s c.y).fu=b at*;go_enter ai,η;go_wp2;go_quiet (fail);go_wp2;go_ret;refine⟨U,((zG.fK H.out ?_).fu ok a _).fu ok k _⟩;exact kp
def kR(E:iW)(rb:Nat)(sv lv:Ç)(n:Nat)(w:É)(c:RC)(f:List Int)(s:St)(a:List (Nat×Int))(b:É):Prop:=
 ∃d e,R E rb c d e f s a b/\Tr E rb sv lv n w d e a.length b
section
variable{E:iW}{rb:Nat}{c a:RC}{sv lv:Ç}{w':É}{b:List Int}{s d:St}{ls f:List (Nat×Int)}{p:Int}
def R.jV(h:R E rb c sv lv zQ s ls w):kR E rb sv lv ls.length w c zQ s ls w:=⟨sv,lv,h,Tr.fW _ _ _ _ _ _⟩
def nK(ok:E.Ok)(h:R E rb c sv lv (zQ++[p]) s ls w)(g:zQ.length<=900):Ò À 204 #[Å<|Ã ⟨rb,0,Ä⟩] w λe w'=>e=È (Â Æ p)/\ ∃a,R E rb c a lv zQ s ls w'/\Tr E rb sv lv ls.length w a lv ls.length w':=by have b:=h.I;rw[show pM (zQ++[p])=pM zQ++[qA p] by simp[pM],show(zQ++[p]).length=zQ.length+1 by simp]at b;refine(M8 E.r rb c sv 0 zQ p w h.r b Z).mono ?_;rintro e w' ⟨rfl,a,rfl,d,f⟩;exact⟨U,a,h.N ok 6 U d λj q=>by rwa[<-f]⟩
def zH(ok:E.Ok)(h:R E rb c sv lv zQ s ls w)(i:zQ.length<=900)(x:Int):Ò À 203 #[Å<|Ã ⟨rb,0,Ä⟩,Ê (Ã ⟨w.heap.size,0,Ä⟩) 1 1] (w.alloc<|Ð #[Â Æ x] 36) λe w'=>e=È (æ #[])/\ ∃b,R E rb c b lv (zQ++[x]) s ls w'/\Tr E rb sv lv ls.length w b lv ls.length w':=by have k:=e8.gG (λ_=>False) w #[Â Æ x] 36;have d:=h.fK k;refine(B_ E.r rb c sv 0 (pM zQ) zQ.length w.heap.size 1 1 [Â Æ x] _ d.r d.I Z Z U (ÿ _ _ _) (λa f=>by simp at f;subst f;rfl)<|â _).mono ?_;rintro e w' ⟨rfl,b,u,a,rfl⟩;let⟨f,g⟩:=d.Y ok (ns:=[x]) U a;exact⟨U,b,f,(Tr.fK k).fe g⟩
def S2(ok:E.Ok)(h:R E rb c sv lv zQ s ls w)(i:zQ.length<=900)(x y:Int):Ò À 203 #[Å<|Ã ⟨rb,0,Ä⟩,Ê (Ã ⟨w.heap.size,0,Ä⟩) 2 2] (w.alloc<|Ð #[Â Æ x,Â Æ y] 36) λe w'=>e=È (æ #[])/\ ∃b,R E rb c b lv (zQ++[x,y]) s ls w'/\Tr E rb sv lv ls.length w b lv ls.length w':=by have k:=e8.gG (λ_=>False) w #[Â Æ x,Â Æ y] 36;have d:=h.fK k;refine(B_ E.r rb c sv 0 (pM zQ) zQ.length w.heap.size 2 2 [Â Æ x,Â Æ y] _ d.r d.I Z Z U (ŵ _ _ _ _) (λa f=>by simp at f;rcases f with rfl|rfl<;>rfl)<|â _).mono ?_;rintro e w' ⟨rfl,b,u,a,rfl⟩;let⟨f,g⟩:=d.Y ok (ns:=[x,y]) U a;exact⟨U,b,f,(Tr.fK k).fe g⟩
end
structure iu(E:iW)(lv:Ç)(n:Nat)(w:É)(s:St)(ls:List (Nat×Int))(w':É)(jE:Ç):Prop where
 r:iD E.r E.T E.C s jE w'
 I:w'.ownsRow 0 257 2 jE ls.length (kt ls)
 C:e8 (λk=>k=E.r\/lv.ownBlock=Ã k) w w'
 l:∀j,jE.ownBlock=Ã j->lv.ownBlock=Ã j\/w.heap.size<=j
 M:∀v0 n0 xK,w.ownsRow 0 257 2 v0 n0 xK->(v0.ownBlock=lv.ownBlock->n0<=n)->w'.ownsRow 0 257 2 v0 n0 xK/\(v0.ownBlock=jE.ownBlock->n0<=ls.length)
structure zI where
 r:Int
 C:Bool
 M:Int
 s:St
 I:List (Nat×Int)
abbrev mq:=St->List (Nat×Int)->Nat->Nat->Int->Int->zI
def gh(n:Int):Prop:=0<=n/\n<18446744073709551616
def lC(c:Int):Nat:=
 if 48<=c/\c<=57 then 1 else if c=43 then 2 else if c=45 then 3 else if c=42 then 4 else if c=47 then 5 else if c=60 then 6 else if c=61 then 7
 else if c=100 then 8 else if c=120 then 9 else if c=112 then 10 else if c=107 then 11 else if c=99 then 12 else if c=121 then 13 else if c=98 then 14
 else if c=108 then 15 else if c=116 then 16 else if c=106 then 17 else if c=118 then 18 else if c=101 then 19 else if c=111 then 20 else if c=114 then 21 else if c=102 then 22 else 0
def xP(c:UInt8):Bool:=decide<|lC (c.toNat:Int)≠0
structure gJ(s:St):Prop where
 fu:∀i,gh (s i).fu
 C:∀i j,gh<|(s i).C j
 I:∀i,(s i).r.size<=40/\∀c∈(s i).r.data.toList,xP c=Ú
def gd(l:List Int):Int:=l.getLastD 0
theorem B'(l:List Int)(h:0<l.length):l=l.dropLast++[gd l]:=by
 have a:l≠[]:=by intro e;subst e;simp at h
 unfold gd;grind [List.dropLast_concat_getLast]
section
variable{E:iW}{c:RC}{s:St}{a:List (Nat×Int)}{q r:Int}
def alR(ok:E.Ok)(b:R E i c x v (zQ++[h]) s a w)(k:zQ.length<=800)(l:c.y<8): Ò À 205 #[Å<|Ã ⟨i,0,Ä⟩,Â Ë 8] w λe H=>e=È (æ #[])/\kR E i x v a.length w c (zQ++[h,h]) s a H:=by have m:=b.r.r 0 _ U;have n:=b.r.r 2 _ U;have o:=b.r.M;have p:=ff.M b.C;have H:=fc b;go_enter ê,å;go_wp2_with fail;go_quiet (fail);go_wp2_with fail;go_at_call 204;refine(nK ok (H.out.fK<|e8.iR _ _ _) (by first|omega|(simp;omega))).mono ?_;rintro e q ⟨rfl,r,d,f⟩;go_wp2_with fail;go_at_call 203;refine(S2 ok d (by first|omega|(simp;omega)) _ _).mono ?_;rintro e t ⟨rfl,u,g,j⟩;go_wp2_with fail;go_end0;exact⟨U,_,_,g,(((Tr.fK<|e8.iR _ _ _).fe f).fe j)⟩
def alS(ok:E.Ok)(b:R E i c x v ((zQ++[h])++[q]) s a w)(m:zQ.length<=800)(n:c.y<8): Ò À 205 #[Å<|Ã ⟨i,0,Ä⟩,Â Ë 9] w λe H=>e=È (æ #[])/\kR E i x v a.length w c (zQ++[q,h]) s a H:=by have o:=b.r.r 0 _ U;have p:=b.r.r 2 _ U;have r:=b.r.M;have t:=ff.M b.C;have H:=fc b;go_enter ê,å;go_wp2_with fail;go_quiet (fail);go_wp2_with fail;go_at_call 204;refine(nK ok (H.out.fK<|e8.iR _ _ _) (by first|omega|(simp;omega))).mono ?_;rintro e u ⟨rfl,z,d,f⟩;go_wp2_with fail;go_at_call 204;refine(nK ok d (by first|omega|(simp;omega))).mono ?_;rintro e B ⟨rfl,C,g,j⟩;go_wp2_with fail;go_at_call 203;refine(S2 ok g (by first|omega|(simp;omega)) _ _).mono ?_;rintro e D ⟨rfl,F,k,l⟩;go_wp2_with fail;go_end0;exact⟨U,_,_,k,((((Tr.fK<|e8.iR _ _ _).fe f).fe j).fe l)⟩
def alT(ok:E.Ok)(b:R E i c x v (zQ++[h]) s a w)(g:zQ.length<=800)(j:c.y<8): Ò À 205 #[Å<|Ã ⟨i,0,Ä⟩,Â Ë 10] w λe H=>e=È (æ #[])/\kR E i x v a.length w c zQ s a H:=by have k:=b.r.r 0 _ U;have l:=b.r.r 2 _ U;have m:=b.r.M;have n:=ff.M b.C;have H:=fc b;go_enter ê,å;go_wp2_with fail;go_quiet (fail);go_wp2_with fail;go_at_call 204;refine(nK ok (H.out.fK<|e8.iR _ _ _) (by first|omega|(simp;omega))).mono ?_;rintro e o ⟨rfl,p,d,f⟩;go_wp2_with fail;go_end0;exact⟨U,_,_,d,((Tr.fK<|e8.iR _ _ _).fe f)⟩
def alU(ok:E.Ok)(h:R E i c x v zQ s a w)(f:zQ.length<=800)(g:c.y<8): Ò À 205 #[Å<|Ã ⟨i,0,Ä⟩,Â Ë 11] w λe H=>e=È (æ #[])/\kR E i x v a.length w c (zQ++[c.k]) s a H:=by have j:=h.r.r 0 _ U;have l:=h.r.r 2 _ U;have m:=h.r.M;have n:=ff.M h.C;have o:=h.r.r 3 _ U;have H:=fc h;go_enter ê,å;go_wp2_with fail;go_quiet (fail);go_wp2_with fail;go_at_call 203;refine(zH ok (H.out.fK<|e8.iR _ _ _) (by first|omega|(simp;omega)) _).mono ?_;rintro e p ⟨rfl,q,b,d⟩;go_wp2_with fail;go_end0;exact⟨U,_,_,b,((Tr.fK<|e8.iR _ _ _).fe d)⟩
def alV(ok:E.Ok)(h:R E i c x v zQ s a w)(f:zQ.length<=800)(g:c.y<8)(j:c.x<8): Ò À 205 #[Å<|Ã ⟨i,0,Ä⟩,Â Ë 12] w λe H=>e=È (æ #[])/\kR E i x v a.length w c (zQ++[(c.x:Int)]) s a H:=by have k:=h.r.r 0 _ U;have l:=h.r.r 2 _ U;have m:=h.r.M;have n:=ff.M h.C;have o:=h.r.r 1 _ U;have H:=fc h;go_enter ê,å;go_wp2_with fail;go_quiet (fail);go_wp2_with fail;go_at_call 203;refine(zH ok (H.out.fK<|e8.iR _ _ _) (by first|omega|(simp;omega)) _).mono ?_;rintro e p ⟨rfl,q,b,d⟩;go_wp2_with fail;go_end0;exact⟨U,_,_,b,((Tr.fK<|e8.iR _ _ _).fe d)⟩
def alW(ok:E.Ok)(h:R E i c x v zQ s a w)(f:zQ.length<=800)(g:c.y<8): Ò À 205 #[Å<|Ã ⟨i,0,Ä⟩,Â Ë 13] w λe H=>e=È (æ #[])/\kR E i x v a.length w c (zQ++[(c.y:Int)]) s a H:=by have j:=h.r.r 0 _ U;have k:=h.r.r 2 _ U;have l:=h.r.M;have m:=ff.M h.C;have H:=fc h;go_enter ê,å;go_wp2_with fail;go_quiet (fail);go_wp2_with fail;go_at_call 203;refine(zH ok (H.out.fK<|e8.iR _ _ _) (by first|omega|(simp;omega)) _).mono ?_;rintro e n ⟨rfl,o,b,d⟩;go_wp2_with fail;go_end0;exact⟨U,_,_,b,((Tr.fK<|e8.iR _ _ _).fe d)⟩
def alX(ok:E.Ok)(h:R E i c x v zQ s a w)(g:zQ.length<=800)(b:c.y<8): Ò À 205 #[Å<|Ã ⟨i,0,Ä⟩,Â Ë 14] w λe H=>e=È (æ #[])/\kR E i x v a.length w c (zQ++[(s c.y).fu]) s a H:=by have j:=h.r.r 0 _ U;have k:=h.r.r 2 _ U;have l:=h.r.M;have m:=ff.M h.C;have n:=h.C.fu b;have H:=fc h;go_enter ê,å;go_wp2_with fail;go_quiet (fail);go_wp2_with fail;go_at_call 203;refine(zH ok (H.out.fK<|e8.iR _ _ _) (by first|omega|(simp;omega)) _).mono ?_;rintro e o ⟨rfl,p,d,f⟩;go_wp2_with fail;go_end0;exact⟨U,_,_,d,((Tr.fK<|e8.iR _ _ _).fe f)⟩
def alY(ok:E.Ok)(b:R E i c x v (zQ++[h]) s a w)(o:zQ.length<=800)(g:c.y<8)(d:gh h): Ò À 205 #[Å<|Ã ⟨i,0,Ä⟩,Â Ë 15] w λe f=>e=È (æ #[])/\kR E i x v a.length w c (zQ++[(s c.y).C (h%16).toNat]) s a f:=by have p:=b.r.r 0 _ U;have q:=b.r.r 2 _ U;have r:=b.r.M;have t:=ff.M b.C;have H:=fc b;go_enter ê,å;go_wp2_with fail;go_quiet (fail);go_wp2_with fail;go_at_call 204;refine(nK ok (H.out.fK<|e8.iR _ _ _) (by first|omega|(simp;omega))).mono ?_;rintro e u ⟨rfl,z,f,k⟩;have B:=f.C.z_ g (j:=(h%16).toNat) Z;have C:=d.1;have D:=d.2;go_wp2_with fail;go_at_call 208;refine(A_ E.r (c.y*18) h d.1 d.2 _).mono ?_;rintro e l ⟨rfl,F⟩;subst l;go_wp2_with fail;go_at_call 203;refine(zH ok f (by first|omega|(simp;omega)) _).mono ?_;rintro e G ⟨rfl,I,m,n⟩;go_wp2_with fail;go_end0;exact⟨U,_,_,m,(((Tr.fK<|e8.iR _ _ _).fe k).fe n)⟩
def alZ(ok:E.Ok)(b:R E i c x v ((zQ++[h])++[q]) s a w)(r:zQ.length<=800)(g:c.y<8)(d:gh q): Ò À 205 #[Å<|Ã ⟨i,0,Ä⟩,Â Ë 16] w λe f=>e=È (æ #[])/\kR E i x v a.length w c zQ (s.r c.y (q%16).toNat h) a f:=by have t:=b.r.r 0 _ U;have u:=b.r.r 2 _ U;have z:=b.r.M;have B:=ff.M b.C;have H:=fc b;go_enter ê,å;go_wp2_with fail;go_quiet (fail);go_wp2_with fail;go_at_call 204;refine(nK ok (H.out.fK<|e8.iR _ _ _) (by first|omega|(simp;omega))).mono ?_;rintro e C ⟨rfl,D,k,l⟩;go_wp2_with fail;go_at_call 204;refine(nK ok k (by first|omega|(simp;omega))).mono ?_;rintro e F ⟨rfl,G,f,m⟩;have I:=f.C.z_ g (j:=(q%16).toNat) (by have:=d.1;omega);have J:=ff.C f.C<|c.y*18+2+(q%16).toNat;go_wp2_with fail;go_at_call 208;refine(A_ E.r (c.y*18) q d.1 d.2 _).mono ?_;rintro e n ⟨rfl,K⟩;subst n;go_wp2_with fail;go_end0;let⟨o,p⟩:=f.S ok (c.y*18+2+(q%16).toNat) (f.C.SY g (by have:=d.1;omega) h);exact⟨U,_,_,o,(((Tr.fK<|e8.iR _ _ _).fe l).fe m).fe p⟩
def al0(ok:E.Ok)(b:R E i c x v ((zQ++[h])++[q]) s a w)(u:zQ.length<=800)(j:c.y<8)(d:gh h)(f:gh q)(g:gJ s): Ò À 205 #[Å<|Ã ⟨i,0,Ä⟩,Â Ë 18] w λe H=>e=È (æ #[])/\kR E i x v a.length w c (zQ++[(rB s c.y q h).1]) (rB s c.y q h).2 a H:=by have z:=b.r.r 0 _ U;have B:=b.r.r 2 _ U;have C:=b.r.M;have D:=ff.M b.C;have H:=fc b;go_enter ê,å;go_wp2_with fail;go_quiet (fail);go_wp2_with fail;go_at_call 204;refine(nK ok (H.out.fK<|e8.iR _ _ _) (by first|omega|(simp;omega))).mono ?_;rintro e F ⟨rfl,G,k,l⟩;go_wp2_with fail;go_at_call 204;refine(nK ok k (by first|omega|(simp;omega))).mono ?_;rintro e I ⟨rfl,J,m,n⟩;go_wp2_with fail;go_at_call 209;refine(alQ E ok i c _ v _ s a _ m q h f.1 f.2 d.1 d.2 j (g.fu _).1 (g.fu _).2).mono ?_;rintro e K ⟨rfl,o,p⟩;go_wp2_with fail;go_at_call 203;refine(zH ok o (by first|omega|(simp;omega)) _).mono ?_;rintro e L ⟨rfl,M,r,t⟩;go_wp2_with fail;go_end0;exact⟨U,_,_,r,(((((Tr.fK<|e8.iR _ _ _).fe l).fe n).fe p).fe t)⟩
def al1{k:Int}(ok:E.Ok)(b:R E i c x v ((zQ++[h])++[q]) s a w)(r:zQ.length<=800)(t:c.y<8)(d:gh h)(f:gh q)(u:2<=k)(z:k<=7): Ò À 205 #[Å<|Ã ⟨i,0,Ä⟩,Â Ë k] w λe H=>e=È (æ #[])/\kR E i x v a.length w c (zQ++[xO k h q]) s a H:=by
 have B:=b.r.r 0 _ U;have C:=b.r.r 2 _ U;have D:=b.r.M;have F:=ff.M b.C;have G:(k==8)=Ï:=by rw[beq_eq_false_iff_ne];omega
 have I:(k==9)=Ï:=by rw[beq_eq_false_iff_ne];omega
 have J:(k==10)=Ï:=by rw[beq_eq_false_iff_ne];omega
 have K:(k==11)=Ï:=by rw[beq_eq_false_iff_ne];omega
 have L:(k==12)=Ï:=by rw[beq_eq_false_iff_ne];omega
 have M:(k==13)=Ï:=by rw[beq_eq_false_iff_ne];omega
 have N:(k==14)=Ï:=by rw[beq_eq_false_iff_ne];omega
 have O:(k==15)=Ï:=by rw[beq_eq_false_iff_ne];omega
 have P:(k==16)=Ï:=by rw[beq_eq_false_iff_ne];omega
 have Q:(k==18)=Ï:=by rw[beq_eq_false_iff_ne];omega
 have S:(k==19)=Ï:=by rw[beq_eq_false_iff_ne];omega
 have T:(k==20)=Ï:=by rw[beq_eq_false_iff_ne];omega
 have H:=fc b;go_enter ê,å;go_wp2_with fail;go_quiet (fail);go_wp2_with fail;go_at_call 204;refine(nK ok (H.out.fK<|e8.iR _ _ _) (by first|omega|(simp;omega))).mono ?_;rintro e V ⟨rfl,W,g,j⟩;go_wp2_with fail;go_at_call 204;refine(nK ok g (by first|omega|(simp;omega))).mono ?_;rintro e X ⟨rfl,Y,l,m⟩;go_wp2_with fail;go_at_call 211;refine(alI k h q d.1 d.2 f.1 f.2 _).mono ?_;rintro e n ⟨rfl,uH⟩;subst n;go_wp2_with fail;go_at_call 203;refine(zH ok l (by first|omega|(simp;omega)) _).mono ?_;rintro e w4 ⟨rfl,sv4,o,p⟩;go_wp2_with fail;go_end0;exact⟨U,_,_,o,((((Tr.fK<|e8.iR _ _ _).fe j).fe m).fe p)⟩
end
def Na{P:Program}{ops:Array Oper}{o:Oper}{a:Act}{w:World}{K:Act->World->Prop}{Q:Exit->Act->World->Prop}{E:Prop}{base:Nat}{e:TypeId}{size n:Nat}{v:Value}{xs:List Value} (hg:o.guard=none) (s x:Operand) (t:TypeId) (qS:o.op=Op.call {callee:=Callee.builtin Builtin.append,args:=#[s,x],argTypes:=#[t,t]}) {i:TypeInfo} {z:Value} {bytes:Nat} (ht:P.underlying t=some (.slice e)) (hi:P.info? e=some i) (hz:i.zero=some z) (xL:i.size=size) (xM:i.bytes=bytes) (se:z.cells.size=size) (hs:a.eval s=v) (lL:w.ownsRow base e size v n xs) (ad:Addr) {m c:Nat} (news:List Value) (hx:a.eval x=.slice (some ad) m c) (hm:0<m) (hl:news.length=m*size) (SS:∀j u,news[j]?=some u->w.cell? (ad.add j)=some u) (h1:∀u∈news,u.oneCell'=true) (Dh:n+m<=maxLen) (Di:(n+m)*bytes<=140737488355328) (Df:base<=w.heap.size) (h:∀v' w',qz w base e size v n xs m news v' w'->K (a.put o.dst v') w') (hfl:ml e=false\/(0<news.length/\(∀u∈xs++news,kr u=true)/\∀u∈z.cells.toList,kr u=true):=by first|exact Or.inl (by decide)|exact Or.inr ⟨by simp,by simp[kr],by simp[kr,Value.cells]⟩): if Region.wanted o (yielded ops a.tmps)=true then Oper.wp P o a w K Q else E:=by
 have hw:ĝ o (aj ops a.tmps)=Ú:=by simp[ĝ,hg]
 rw[if_pos hw];let⟨v',w',hr,h2⟩:=SO (ty:=o.type) ht hi hz xL xM se lL ad c news hm hl SS h1 Dh Di Df hfl;unfold Ń;simp[ĥ,qS,ag,aR,ah,hs,hx,hr,į];exact h v' w' h2
def al2:(À.info? 257).map (λi=>(i.zero,i.size,i.bytes))=Ã (Ã<|Ē #[Â Ë 0,Â Æ 0],2,16):=fp
def C_(b:List (Nat×Int)):∀u∈kt b,kr u=Ú:=λu a=>by unfold kt at a;let⟨e,_,h⟩:=Β.1 a;simp[SU,qA]at h;rcases h with rfl|rfl<;>rfl
section
variable{E:iW}{c:RC}{g d:Ç}{s:St}{ls:List (Nat×Int)}{p:Int}
theorem R.al3(ok:E.Ok)(h:R E k c g jQ zQ s ls w)(a:qz w 0 257 2 jQ ls.length (kt ls) 1 [Â Ë b,Â Æ p] d W): (R E k c g jQ zQ s ls W/\W.ownsRow 0 257 2 d (ls++[(b,p)]).length (kt<|ls++[(b,p)]))/\ R E k c g d zQ s (ls++[(b,p)]) (W.setCell ⟨E.r,144,Ä⟩ d)/\Tr E k g jQ ls.length w g d (ls++[(b,p)]).length (W.setCell ⟨E.r,144,Ä⟩ d):=by
 have m:∀{i:Nat} {o:Array Ç} {T:ô},jQ.ownBlock=Ã i->w.heap[i]?=Ã (Ð o T (0,0))->T=257:=λ{i o T} q hc=>by let⟨l,e⟩:=lY h.M q;grind
 have f:R E k c g jQ zQ s ls W:=⟨h.r.I a.r λq=>absurd (m q h.r) A,ij h.I a.r (λj q r=>by let⟨l,e⟩:=lY h.I q;exact absurd (m r e) A),h.C.I a.r λq=>ok.r<|m q h.C,a.I _ _ _ h.M λ_=>Þ _⟩;have n:W.ownsRow 0 257 2 d (ls++[(b,p)]).length (kt<|ls++[(b,p)]):=by have:=a.fj;rwa[show kt ls++[Â Ë b,Â Æ p]=kt (ls++[(b,p)]) by simp[kt,SU,qA],show ls.length+1=(ls++[(b,p)]).length by simp]at this
 have l:=e8.I (X:=λe=>e=E.r) (p:=⟨E.r,144,Ä⟩) U d<|Ù<|ff.G f.C ok.C;refine⟨⟨f,n⟩,⟨f.r.I l (ff.S f.C f.r ok.I).symm,ij f.I l λj q r=>jF f.I f.C ok.M.symm (by rw[q,r]),f.C.alE d,ij n l λj q r=>jF n f.C ok.r.symm<|by rw[q,r]⟩,?_,λj q=>Ø q,λj q=> ?_,λv x y t z=> ?_⟩
 .refine(a.r.S λe _ q=>Ù<|Ù<|Ù q).C l λi _ q=>Ø q
 .rcases a.C with e|e;all_goals grind
 .have u:=a.I v x y t z;refine⟨ij u l λj q r=>jF u f.C ok.r.symm (by rw[q,r]),λq=> ?_⟩;rcases a.C with e|e
  .grind
  .rw[e]at q;have:=(t.lt _ q).2;omega
end
def gk{f:(Nat->Value)->Act}(a:Act)(h:a=f (λn=>a.tmps.getD n undef):=by rfl):∃u,a=f u:=⟨_,h⟩
section
variable{md:Ι}{ops:Array ş}{Q:aV->é->É->Prop}{S:É->Prop}{X:List Nat}
def o0(P:aH)(md:Ι)(ops:Array ş)(Q:aV->é->É->Prop)(S:É->Prop)(X:List Nat):Nat->Array Bool->é->É->Prop
 |0,listed,a,w=>Ā md ops listed=[]/\Q .normal a w
 |fuel+1,listed,a,w=>(Ā md ops listed=[]->Q .normal a w)/\
  ∀i∈Ā md ops listed,wpOp P ops Q i (λc b=>(i∉X->S b)/\o0 P md ops Q S X fuel (listed.setIfInBounds i Ú) c b) a w
def C':∀(b:Nat) (listed:Array Bool) (a:é) (w:É),o0 P md ops Q S X b listed a w->wpAny P md ops Q b listed a w
 |0,_,_,_,h=>h
 |b+1,_,_,_,h=>⟨h.1,λi c=>wpOp_mono (λd e q=>C' b _ d e q.2)<|h.2 i c⟩
def sZ(md:Ι)(ops:Array ş)(X:List Nat)(i:Nat):Bool:=X.all λx=>match ops[x]? with
 |some o=>o.after.toList.any λe=>ń md e&&e.on==i
 |none=>Ú
theorem al4{listed:Array Bool}(a:sZ md ops X i=Ú)(c:ops[j]?=Ã o)(d:listed.getD i Ï=Ï)(f:∀e∈o.after,ń md e=Ú->listed.getD e.on Ï=Ú):j∉X:=by intro b;have g:=List.all_eq_true.1 a j b;grind
theorem al5{m:ş}(x:ops[i]?=Ã m)(y:∀(j:Nat) (o:ş) n b,ops[j]?=Ã o->o.op≠.select n b)(E:sZ md ops X i=Ú) (F:∀c a w,Q (.panic c) (a.put m.dst v) w->Q (.panic c) a w): ∀(p:Nat) (d:Array Bool) (a:é) (w:É),(∀j g,ops[j]?=Ã g->j≠i->d.getD j Ú=Ï->(∀e∈g.after,ń md e=Ú->e.on≠i)->m.apart ops g=Ú)-> i∈Ā md ops d->YieldsIf P ops S m v a->S w->o0 P md ops Q S X p (d.setIfInBounds i Ú) (a.put m.dst v) w->o0 P md ops Q S X (p+1) d a w:=by
 have G:∀{d:Array Bool},i∈Ā md ops d->d.getD i Ï=Ï:=λ{d} l=>by have D:=(mem_ready.1 l).1;grind
 intro p
 induction p with
 |zero=>
  intro d a w _ l s r H;refine⟨λh=>absurd (h▸l) fi,λj t=> ?_⟩;by_cases f:j=i
  .subst f;exact s.wpOp x r ⟨λ_=>r,H⟩
  .exact absurd (H.1▸Ω t f) fi
 |succ p I=>
  intro d a w z l s r H;refine⟨λh=>absurd (h▸l) fi,λj t=> ?_⟩;by_cases f:j=i
  .subst f;exact s.wpOp x r ⟨λ_=>r,H⟩
  .let⟨B,g,u,J⟩:=mem_ready.1 t;have K:∀e∈g.after,ń md e=Ú->e.on≠i:=λe V W Y=>by
    grind
   refine wpOp_mono (λD L q=>⟨q.2.1,I (d.setIfInBounds j Ú) D L (λk M N O C T=>z k M N O ?_ T) (Ω l<|Ne.symm f) q.1 (q.2.1<|al4 E u (G l) J) ?_⟩)<|wpOp_putIf u (z j g u f B K) (λn b=>y i m n b x) (λn b=>y j g n b u) F s<|H.2 j<|Ω t f
   .by_cases D:j=k
    .subst D;exact B
    .rwa[getD_set_ne Ú D]at C
   .rw[Array.setIfInBounds_comm _ _ f];exact q.2.2
def Jk{oi:ş}{listed:Array Bool}(b:ops[i]?=Ã oi) (d:Region.noSelect ops=Ú) (e:Region.free md ops listed i=Ú) (f:(Ā md ops listed).contains i=Ú) (g:sZ md ops X i=Ú) (j:∀c y w,Q (.panic c) (y.put oi.dst v) w->Q (.panic c) y w) (k:S w) (l:YieldsIf P ops S oi v y) (h:o0 P md ops Q S X n (listed.setIfInBounds i Ú) (y.put oi.dst v) w):o0 P md ops Q S X (n+1) listed y w:= al5 b (Region.noSelect_spec d) g j n listed y w (Region.free_spec b e) (by simpa using f) l k h
def al6{listed:Array Bool}(c:Ā md ops listed=[i])(e:ops[i]?=Ã o) (h:∀b:é->É->Prop,Shut (∀y w,(i∉X->S w)->o0 P md ops Q S X n (listed.setIfInBounds i Ú) y w->b y w)->if ĝ o (aj ops y.tmps)=Ú then Ń P o y w b Q else b (y.put o.dst Ă) w):o0 P md ops Q S X (n+1) listed y w:=by
 refine⟨λq=>absurd (c▸q) fi,λj d=> ?_⟩;rw[c]at d;have:j=i:=by simpa using d
 subst this;exact ψ e λb f=>h b λy w g k=>f y w ⟨g,k⟩
def ix:List ş->Nat->Option ş
 |[],_=>Ä
 |o::_,0=>Ã o
 |_::l,n+1=>ix l n
def D_:∀{l:List ş} {i:Nat} {o:ş},ix l i=Ã o->l.toArray[i]?=Ã o
 |[],_,_,h=>by cases h
 |o::l,0,_,h=>by simpa[ix]using h
 |o::l,n+1,_,h=>by simpa using D_ (l:=l) h
def D'(h:ix ops.toList i=Ã o):ops[i]?=Ã o:=by simpa using D_ h
def tk(i:Nat){oi:Oper}{v:Value}{fuel:Nat}{listed:Array Bool}{a0 a a':Act}{w:World}(hS:S w)(h:o0 P md ops Q S X fuel (listed.setIfInBounds i true) a' w) (h0:a0=a:=by(try simp only[Act.put,List.setIfInBounds_toArray,List.set_cons_zero,List.set_cons_succ]);rfl) (hi:ix ops.toList i=some oi:=by rfl) (hs:Region.noSelect ops=true:=by kernel_rfl) (hf:Region.free md ops listed i=true:=by kernel_rfl) (hr:(Region.ready md ops listed).contains i=true:=by kernel_rfl) (hw:sZ md ops X i=true:=by kernel_rfl) (hQ:∀v c a w,Q (.panic c) (a.put oi.dst v) w->Q (.panic c) a w:=by exact λ_ _ _ _ h=>h) (hn:Region.wanted oi (yielded ops a.tmps)=true:=by rfl) (hy:∀w,S w->(execOp a.eval oi).run P w=.ok (.value v) w:=by intro w h;revert h;simp only[and_imp];intros;go_simp;try(with_reducible rfl)) (ha:a.put oi.dst v=a':=by(try simp only[Act.put,List.setIfInBounds_toArray,List.set_cons_zero,List.set_cons_succ]);rfl):o0 P md ops Q S X (fuel+1) listed a0 w:= h0▸Jk (D' hi) hs hf hr hw (hQ v) hS (Ø ⟨hn,hy⟩) (ha▸h)
def gC(i:Nat){o:Oper}{fuel:Nat}{listed:Array Bool}{a0 a:Act}{w:World} (h:∀K':Act->World->Prop,Shut (∀a w,(i∉X->S w)->o0 P md ops Q S X fuel (listed.setIfInBounds i true) a w->K' a w)->if Region.wanted o (yielded ops a.tmps)=true then Oper.wp P o a w K' Q else K' (a.put o.dst undef) w) (h0:a0=a:=by(try simp only[Act.put,List.setIfInBounds_toArray,List.set_cons_zero,List.set_cons_succ]);rfl) (hr:Region.ready md ops listed=[i]:=by kernel_rfl) (ho:ix ops.toList i=some o:=by rfl):o0 P md ops Q S X (fuel+1) listed a0 w:=h0▸al6 hr (D' ho) h
def al7{oi oj:ş}{listed:Array Bool}(g:Ā md ops listed=[i,j])(h:ops[i]?=Ã oi)(l:ops[j]?=Ã oj) (m:∀b:é->É->Prop,Shut (∀y w,(i∉X->S w)->o0 P md ops Q S X n (listed.setIfInBounds i Ú) y w->b y w)->if ĝ oi (aj ops y.tmps)=Ú then Ń P oi y w b Q else b (y.put oi.dst Ă) w) (o:∀b:é->É->Prop,Shut (∀y w,(j∉X->S w)->o0 P md ops Q S X n (listed.setIfInBounds j Ú) y w->b y w)->if ĝ oj (aj ops y.tmps)=Ú then Ń P oj y w b Q else b (y.put oj.dst Ă) w):o0 P md ops Q S X (n+1) listed y w:=by
 refine⟨λq=>absurd (g▸q) fi,λk c=> ?_⟩;rw[g]at c;rcases List.mem_cons.1 c with rfl|c
 .exact ψ h λb d=>m b λy w e f=>d y w ⟨e,f⟩
 .have:k=j:=by simpa using c
  subst this;exact ψ l λb d=>o b λy w e f=>d y w ⟨e,f⟩
def lZ{listed:Array Bool}(b:Ā md ops listed=[])(h:Q .normal y w):∀c,o0 P md ops Q S X c listed y w
 |0=>⟨b,h⟩
 |_+1=>⟨λ_=>h,by rw[b];simp⟩
def mr{id:Nat}(S:É->Prop)(X:List Nat)(b:P.follows .mixedOrders=Ú) (h:o0 P .any ops Q S X ops.size (ō ops.size Ï) y w.drew):(Code.region id ops Ú).wp P Q y w:= wp_region_any b<|C' _ _ _ _ h
end
section
variable{E:iW}{c:RC}{s:St}{a:List (Nat×Int)}
def al8(ok:E.Ok)(b:R E i c x v (zQ++[h]) s a w)(G:zQ.length<=800)(I:c.y<8)(J:a.length<=1000000): Ò À 205 #[Å<|Ã ⟨i,0,Ä⟩,Â Ë 19] w λe u=>e=È (æ #[])/\kR E i x v a.length w c zQ s (a++[(c.y,h)]) u:=by
 have L:w.cell? ⟨i,0,Ä⟩=Ã (Å<|Ã ⟨E.r,0,Ä⟩):=b.r.r 0 _ U;have M:w.cell? ⟨i,2,Ä⟩=Ã (Â Ë c.y):=b.r.r 2 _ U;have N:=b.r.M;have O:=ff.M b.C;let⟨P,o,p,r,t⟩:=í al2;have k:=fc<|Á o<|Á p<|Á r t;have H:=fc b;clear b o p r t;go_enter ê,å;go_wp2_with fail;go_quiet (fail);go_wp2_with fail;have f:=fc<|Á ((H.out.fK<|(e8.iR _ _ nq).fe<|e8.fU _ _).r.r 0 _ rfl)<|Á ((H.out.fK<|(e8.iR _ _ nq).fe<|e8.fU _ _).r.r 2 _ rfl) (H.out.fK<|(e8.iR _ _ nq).fe<|e8.fU _ _).C.Dj;refine mr (λu=>u.cell? ⟨i,0,Ä⟩=Ã (Å<|Ã ⟨E.r,0,Ä⟩)/\u.cell? ⟨i,2,Ä⟩=Ã (Â Ë c.y)/\u.cell? ⟨E.r,144,Ä⟩=Ã v) [22] fp ?_;refine tk 0 f.out ?_;refine tk 1 f.out ?_;refine tk 2 f.out ?_;refine tk 3 f.out ?_;refine tk 4 f.out ?_;refine tk 5 f.out ?_;refine tk 6 f.out ?_;refine tk 7 f.out ?_;refine tk 8 f.out ?_;refine tk 9 f.out ?_;refine tk 10 f.out ?_;refine tk 11 f.out ?_;refine tk 12 f.out ?_;refine tk 13 f.out ?_;refine tk 14 f.out ?_;refine tk 15 f.out ?_;refine gC 16 ?_;intro K d;go_simp;go_at_call 204;refine(nK ok (H.out.fK<|e8.iR _ _ _) Z).mono ?_;rintro e z ⟨rfl,Q,g,C⟩;dsimp only;refine d.out _ _ (λ_=>⟨g.r.r 0 _ U,g.r.r 2 _ U,g.C.Dj⟩) ?_;clear d K;refine gC 17 ?_;intro K d;go_simp;refine d.out _ _ (λ_=>⟨g.r.r 0 _ U,g.r.r 2 _ U,g.C.Dj⟩) ?_;clear d K;have j:=g.fK (e8.gG (λ_=>False) z #[Â Ë c.y,Â Æ h] 257);refine gC 18 ?_;intro K d;go_simp;refine d.out _ _ (λ_=>⟨j.r.r 0 _ U,j.r.r 2 _ U,j.C.Dj⟩) ?_;clear d K;refine gC 19 ?_;intro K d;refine Na (hfl:=Ù ⟨fi,λu l=>(ú.1 l).elim (C_ a u) (λq=>by simp at q;rcases q with rfl|rfl<;>rfl),by simp[kr,Ġ]⟩) (base:=0) (n:=a.length) (xs:=kt a) (m:=1) fN _ _ 142 fN Tryz.underlying142 k.out.1 k.out.2.1 k.out.2.2.1 k.out.2.2.2 U fN j.M ⟨z.heap.size,0,Ä⟩ [Â Ë c.y,Â Æ h] fN Z U (ŵ _ _ _ _) (λu l=>by simp at l;rcases l with rfl|rfl<;>rfl) (by unfold ą;omega) Z (â _) ?_;intro S T l;obtain⟨V,W,rfl⟩:=jl l.fj;let⟨⟨u,_⟩,D,F⟩:=j.al3 ok l;refine d.out _ _ (λ_=>⟨u.r.r 0 _ U,u.r.r 2 _ U,u.C.Dj⟩) ?_;clear d K;have B:=u.C.Dj;have X:=ff.C u.C 144;refine gC 20 ?_;intro K d;go_simp;refine d.out _ _ (λ_=>⟨u.r.r 0 _ U,u.r.r 2 _ U,B⟩) ?_;clear d K;refine gC 21 ?_;intro K d;go_simp;refine d.out _ _ (λ_=>⟨u.r.r 0 _ U,u.r.r 2 _ U,B⟩) ?_;clear d K;refine gC 22 ?_;intro K d;go_simp;refine d.out _ _ (λq=>absurd fi q) ?_;clear d K;try simp only[ĵ,Õ,ã,ä]
 refine lZ fp ?_ _;go_wp2_with fail;go_end0;exact⟨U,_,_,D,(((Tr.fK<|(e8.iR _ _ _).fe<|e8.fU _ _).fe C).fe<|Tr.fK<|e8.gG _ _ _ _).fe F⟩
end
structure RT where
 r:List Int
 s:St
 C:List (Nat×Int)
 g:Int
def iX(F:mq)(c:RC)(t:RT)(q p k:Int):Int×Int×RT:=
 if c.d=4 then(0,0,t)else
  ((F t.s t.C c.y (q%8).toNat (min p t.g) k).M,xN (F t.s t.C c.y (q%8).toNat (min p t.g) k).C,
    {t with s:=(F t.s t.C c.y (q%8).toNat (min p t.g) k).s,C:=(F t.s t.C c.y (q%8).toNat (min p t.g) k).I,g:=t.g-(F t.s t.C c.y (q%8).toNat (min p t.g) k).r})
def fY(l:List Int):List Int:=l.dropLast
def oz(F:mq)(c:RC)(a:Nat)(t:RT):RT:=
 if a=8 then{t with r:=fY t.r++[gd t.r,gd t.r]}
 else if a=9 then{t with r:=fY (fY t.r)++[gd t.r,gd<|fY t.r]}
 else if a=10 then{t with r:=fY t.r}
 else if a=11 then{t with r:=t.r++[c.k]}
 else if a=12 then{t with r:=t.r++[(c.x:Int)]}
 else if a=13 then{t with r:=t.r++[(c.y:Int)]}
 else if a=14 then{t with r:=t.r++[(t.s c.y).fu]}
 else if a=15 then{t with r:=fY t.r++[(t.s c.y).C (gd t.r%16).toNat]}
 else if a=16 then{t with r:=fY<|fY t.r,s:=t.s.r c.y (gd t.r%16).toNat (gd<|fY t.r)}
 else if a=18 then{t with r:=fY (fY t.r)++[(rB t.s c.y (gd t.r)<|gd<|fY t.r).1],s:=(rB t.s c.y (gd t.r)<|gd<|fY t.r).2}
 else if a=19 then{t with r:=fY t.r,C:=t.C++[(c.y,gd t.r)]}
 else if a=20 then
  {(iX F c t (gd t.r) (gd<|fY t.r)<|gd<|fY<|fY t.r).2.2 with r:=fY (fY<|fY t.r)++[(iX F c t (gd t.r) (gd<|fY t.r)<|gd<|fY<|fY t.r).1,(iX F c t (gd t.r) (gd<|fY t.r)<|gd<|fY<|fY t.r).2.1]}
 else{t with r:=fY (fY t.r)++[xO a (gd<|fY t.r)<|gd t.r]}
structure E_(ls:List (Nat×Int))(g:Int)(e:zI):Prop where
 C:0<=e.r
 r:e.r<=g
 N:gJ e.s
 M:gh e.M
 I:(e.I.length:Int)<=ls.length+e.r
def qC(F:mq):Prop:=∀s a x y g k,gJ s->x<8->y<8->gh k->0<=g->g<=100000->(a.length:Int)+g<=1000000->E_ a g (F s a x y g k)
def tC(F:mq)(d:Int):Prop:=∀(E:iW),E.Ok->∀(s:St) (b:Ç) (a:List (Nat×Int)) (x y:Nat) (g k:Int) (w:É),iD E.r E.T E.C s b w->w.ownsRow 0 257 2 b a.length (kt a)->iL w->gJ s->x<8->y<8->0<=g->g<=100000->gh k->(a.length:Int)+g<=1000000->
 Ò À 173 #[Å<|Ã ⟨E.r,0,Ä⟩,Â Ë x,Â Ë y,Â Æ g,Â Æ k,Â Ë d] w λe c=>
  e=È (Ē #[Â Æ (F s a x y g k).r,Ñ (F s a x y g k).C,Â Æ (F s a x y g k).M])/\∃f,iu E b a.length w (F s a x y g k).s (F s a x y g k).I c f
section
variable{E:iW}{rb:Nat}{c:RC}{sv lv:Ç}{s b:St}{ls a:List (Nat×Int)}{q p:Int}
theorem R.xR(ok:E.Ok)(d:R E rb c sv lv zQ s ls w)(r:iu E lv ls.length w b a u v):R E rb c sv v zQ b a u/\Tr E rb sv lv ls.length w sv v a.length u:=by
 have g:∀{j:Nat} {i:Array Ç} {T:ô},w.heap[j]?=Ã (Ð i T (0,0))->T≠E.T->T≠257->¬(j=E.r\/lv.ownBlock=Ã j):=λ{j i T} f h1 h2=>by
  rintro(e|e)
  .rw[e,d.C]at f;grind
  .let⟨m,k⟩:=lY d.M e;grind
 refine⟨⟨d.r.I r.C<|g d.r ok.I.symm A,ij d.I r.C λj f=> ?_,r.r,r.I⟩,r.C.S λh _ q=>q.elim Ø λq=>Ù<|Ù<|Ù q,λj q=>Ø q,r.l,r.M⟩;let⟨m,k⟩:=lY d.I f;exact g k ok.M.symm A
def al9(ok:E.Ok)(a:R E rb c sv lv zQ s ls w)(b:c.d=4): Ò À 210 #[Å<|Ã ⟨rb,0,Ä⟩,Â Æ q,Â Æ p,Â Æ h] w λe u=>e=È (æ #[Â Æ 0,Â Æ 0])/\u=w:=by
 have e:w.cell? ⟨rb,4,Ä⟩=Ã (Â Ë 4):=by have:=a.r.r 4 (Â Ë c.d) U;rwa[b]at this
 go_enter ak,θ;go_wp2_with fail;go_ret2;exact⟨U,U⟩
end
section
variable{E:iW}{c:RC}{w':É}{s f:St}{a l:List (Nat×Int)}{q p:Int}{F:mq}
def ama(E:iW)(n:Nat)(c:RC)(jQ x:Ç)(zQ:List Int)(a:List (Nat×Int))(w W:É)(r:zI)(w':É):Prop:=
 ∃z,iu E x a.length W r.s r.I w' z/\R E n c jQ z zQ r.s r.I w'/\Tr E n jQ x a.length w jQ z r.I.length w'
def amb(p g:Int):(if g<p then g else p)=min p g:=by rw[Int.min_def];split<;>split<;>omega
def Jl(a:0<=h)(b:h<9223372036854775808):Ë.wrap h=h:=by show(if(Ë.signed&&decide (h%(2^64:Int)≥(2^63:Int)))=Ú then h%(2^64:Int)-2^64 else h%(2^64:Int))=h;rw[(Int.emod_eq_of_lt a Z),if_neg];simp;omega
def amc{q:Int}(h:gh q):Ë.wrap (q.tmod 8)=((q%8).toNat:Int):=by
 rw[Int.tmod_eq_emod_of_nonneg h.1];have:Ë.wrap (q%8)=q%8:=by exact Jl Z Z
 rw[this];omega
def amd(a:0<=h)(b:h<4):Ë.wrap (h+1)=h+1:=by exact Jl Z Z
def vE(ok:E.Ok)(b:R E n c jQ x zQ s a w)(j:0<=c.d)(k:c.d<4)(hF:tC F (c.d+1))(l:iL w)(m:gJ s)(o:c.y<8)(i:gh q)(t:gh p)(u:gh h)(C:0<=c.g)(D:c.g<=100000)(G:(a.length:Int)+c.g<=1000000)(W:É)(kW:e8 (λ_=>False) w W): Ò À 173 #[Å<|Ã ⟨E.r,0,Ä⟩,Â Ë c.y,Â Ë<|Ë.wrap<|q.tmod 8,Â Æ<|min p c.g,Â Æ h,Â Ë<|Ë.wrap<|c.d+1] W λe w'=>
  e=È (Ē #[Â Æ (F s a c.y (q%8).toNat (min p c.g) h).r,Ñ (F s a c.y (q%8).toNat (min p c.g) h).C,Â Æ (F s a c.y (q%8).toNat (min p c.g) h).M])/\ama E n c jQ x zQ a w W (F s a c.y (q%8).toNat (min p c.g) h) w':=by
 have f:=b.fK kW;rw[amc i,amd j k];have H:=t.1;have I:=i.1;refine(hF E ok s x a c.y (q%8).toNat (min p c.g) h W f.C f.M (l.r kW id) m o Z Z Z u Z).mono ?_;rintro e w' ⟨rfl,z,r⟩;let⟨v,B⟩:=f.xR ok r;exact⟨U,z,r,v,(Tr.fK kW).fe B⟩
def ame{b:List Ç}(h:R E n c jQ x zQ s a w)(r:iu E x i (Č<|ă w<|Ð b.toArray T) f l u z):ff w.heap.size b T u:=by
 refine ff.I (w:=Č<|ă w<|Ð b.toArray T) (ff.N w b T) r.C ?_;rintro(e|e)
 .have:=ff.M h.C;omega
 .have:=(h.M.lt _ e).2;omega
def S3{f:List Ç}{ki:Ç}(ok:E.Ok)(d:R E n c jQ x zQ s a u)(t:Tr E n ki z b w jQ x k u)(m:w.heap.size<=j)(e:ff j f 252 u)(i:Nat)(v:Ç): R E n c jQ x zQ s a (u.setCell ⟨j,i,Ä⟩ v)/\Tr E n ki z b w jQ x k (u.setCell ⟨j,i,Ä⟩ v)/\ff j (f.set i v) 252 (u.setCell ⟨j,i,Ä⟩ v):=by have g:e8 (λh=>h=j) u (u.setCell ⟨j,i,Ä⟩ v):=e8.I (X:=λh=>h=j) (p:=⟨j,i,Ä⟩) U v<|Ù e.G;refine⟨d.alO ok e g,t.alN g (λi q=>by omega) λi o q l=> ?_,e.fQ i v⟩;unfold ff at e;rw[q,e]at l;cases l
def amf(ok:E.Ok)(f:R E n c jQ x zQ s a w)(oU:0<=c.d)(hd:c.d<4)(hF:tC F (c.d+1))(hI:qC F)(hr:iL w)(P:gJ s)(hx:c.x<8)(hy:c.y<8)(Q:gh q)(S:gh p)(hk:gh h)(vy:0<=c.g)(uN:c.g<=100000)(hlen:(a.length:Int)+c.g<=1000000): Ò À 210 #[Å<|Ã ⟨n,0,Ä⟩,Â Æ q,Â Æ p,Â Æ h] w λe w'=>e=È (æ #[Â Æ (F s a c.y (q%8).toNat (min p c.g) h).M,Â Æ<|xN (F s a c.y (q%8).toNat (min p c.g) h).C])/\kR E n jQ x a.length w {c with g:=c.g-(F s a c.y (q%8).toNat (min p c.g) h).r} zQ (F s a c.y (q%8).toNat (min p c.g) h).s (F s a c.y (q%8).toNat (min p c.g) h).I w':=by
 have c0:w.cell? ⟨n,0,Ä⟩=Ã (Å<|Ã ⟨E.r,0,Ä⟩):=f.r.r 0 _ U;have c2:w.cell? ⟨n,2,Ä⟩=Ã (Â Ë c.y):=f.r.r 2 _ U;have c4:w.cell? ⟨n,4,Ä⟩=Ã (Â Ë c.d):=f.r.r 4 _ U;have c5:w.cell? ⟨n,5,Ä⟩=Ã (Â Æ c.g):=f.r.r 5 _ U;have gK:=f.r.M;have Mq:=ff.M f.C;have hq0:=Q.1;have CM:=Q.2;have F_:=S.1;have hp1:=S.2;have call:=vE ok f oU hd hF hr P hy Q S hk vy uN hlen;have T:=hI s a c.y (q%8).toNat (min p c.g) h P hy Z hk Z Z Z;have M:=T.C;have N:=T.r;clear T;generalize F s a c.y (q%8).toNat (min p c.g) h=r at*;have H:=fc<|Á f<|Á call<|Á M N;have S4:(c.d==4)=Ï:=by rw[beq_eq_false_iff_ne];omega
 clear f hr P hlen call M N;go_enter ak,θ;go_wp2_with fail;have k:=fc<|Á ((H.out.1.fK<|e8.fU _ _).r.r 0 _ rfl)<|Á ((H.out.1.fK<|e8.fU _ _).r.r 2 _ rfl)<|Á ((H.out.1.fK<|e8.fU _ _).r.r 4 _ rfl)<|(H.out.1.fK<|e8.fU _ _).r.r 5 _ rfl;refine mr (λw'=>w'.cell? ⟨n,0,Ä⟩=Ã (Å<|Ã ⟨E.r,0,Ä⟩)/\w'.cell? ⟨n,2,Ä⟩=Ã (Â Ë c.y)/\w'.cell? ⟨n,4,Ä⟩=Ã (Â Ë c.d)/\w'.cell? ⟨n,5,Ä⟩=Ã (Â Æ c.g)) [25] fp ?_;refine tk 0 k.out ?_;refine tk 1 k.out ?_;refine tk 2 k.out ?_;refine tk 3 k.out ?_;refine tk 4 k.out ?_;refine tk 5 k.out ?_;refine tk 6 k.out ?_;refine tk 7 k.out ?_;refine tk 8 k.out ?_;refine tk 9 k.out ?_;refine tk 10 k.out ?_;refine tk 11 k.out ?_;refine tk 12 k.out ?_;refine tk 13 k.out ?_;refine tk 14 k.out ?_;refine tk 15 k.out ?_;refine Jk (i:=16) (oi:={dst:=Ã 32,op:=aG {callee:=Go.Callee.builtin br,args:=#[î 27,î 31],argTypes:=#[36,36]},type:=36,pos:= "run.go:186",after:=#[{on:=11,ground:=ï},{on:=15,ground:=ï}],guard:=Ä}) (v:=Â Æ<|min p c.g) U fp fp fp fp (λ_ _ _ f=>f) k.out (Ø ⟨fN,?amg⟩) ?avc
 case amg=>(intro w hSw;let⟨q0,q2,q4,q5⟩:=hSw;go_simp<;>rw[amb])
 refine tk 17 k.out ?_;refine tk 18 k.out ?_;refine tk 19 k.out ?_;refine tk 20 k.out ?_;refine tk 21 k.out ?_;refine tk 22 k.out ?_;refine al7 (i:=23) (j:=24) (oi:={dst:=Ã 39,op:=aG {callee:=Go.Callee.value<|bk 173,args:=#[î 19,î 23,î 26,î 32,î 33,î 38],argTypes:=#[267,3,3,36,36,3]},type:=252,pos:= "run.go:186",after:=#[{on:=3,ground:=ï},{on:=7,ground:=ï},{on:=10,ground:=ï},{on:=16,ground:=ï},{on:=17,ground:=ï},{on:=22,ground:=ï}],guard:=Ä}) (oj:={dst:=Ã 10,op:=bl 252,type:=0,pos:= "run.go:186",after:=#[],guard:=Ä}) fp U U ?_ ?_
 .intro K l;go_simp;go_at_call 173;refine(H.out.2.1 _ kp).mono ?_;rintro e z ⟨rfl,zy,O,o,D⟩;dsimp only;refine l.out _ _ (λ_=>⟨o.r.r 0 _ U,o.r.r 2 _ U,o.r.r 4 _ U,o.r.r 5 _ U⟩) ?_;clear l K;have G:=o.fK (e8.gG (λ_=>False) z #[Â Æ 0,Ñ Ï,Â Æ 0] 252);refine gC 24 ?_;intro K l;go_simp;refine l.out _ _ (λ_=>⟨G.r.r 0 _ U,G.r.r 2 _ U,G.r.r 4 _ U,G.r.r 5 _ U⟩) ?_;clear l K;refine gC 25 ?_;intro K l;go_simp;refine l.out _ _ (λq=>absurd fi q) ?_;clear l K;try simp only[ĵ,Õ,ã,ä]
  refine lZ fp ?_ _;have V:=e8.gG (λ_=>False) z #[Â Æ r.r,Ñ r.C,Â Æ r.M] 252;have t:=o.fK V;have I:=D.fe<|Tr.fK V;have m:ff z.heap.size [Â Æ r.r,Ñ r.C,Â Æ r.M] 252 _:=ff.N z _ 252;generalize ă z (Ð #[Â Æ r.r,Ñ r.C,Â Æ r.M] 252)=W at*;generalize z.heap.size=b at*;clear G V o D O;have v0:=m.r 0 _ U;have X:=m.r 1 _ U;have Y:=m.r 2 _ U;have z5:W.cell? ⟨n,5,Ä⟩=Ã (Â Æ c.g):=t.r.r 5 _ U;have y5:=t.r.C 5;have zl:=t.r.M;have zb:=m.M;have M:=H.out.2.2.1;have N:=H.out.2.2.2;have J:=ff.S t.r m A;have y1:=(Je (w:=W) (i:=5) (u:=Â Æ<|c.g-r.r) J).trans X;have y2:=(Je (w:=W) (i:=5) (u:=Â Æ<|c.g-r.r) J).trans Y;have C:=fc<|Á t I;clear t I m k;go_wp2_with fail;go_region;go_wp2_with fail;have k:=fc<|Á y1 y2;refine mr (λw'=>w'.cell? ⟨b,1,Ä⟩=Ã (Ñ r.C)/\w'.cell? ⟨b,2,Ä⟩=Ã (Â Æ r.M)) [] fp ?_;refine tk 0 k.out ?_;refine tk 1 k.out ?_;refine tk 2 k.out ?_;refine tk 3 k.out ?_;refine tk 4 k.out ?_;refine gC 5 ?_;intro K l;go_simp;go_at_call 159;refine(Jj _ _).mono ?_;rintro e w2 ⟨rfl,rn⟩;subst w2;dsimp only;refine l.out _ _ (λ_=>k.out) ?_;clear l K;refine gC 6 ?_;intro K l;go_simp;refine l.out _ _ (λ_=>k.out) ?_;clear l K;refine gC 7 ?_;intro K l;go_simp;refine l.out _ _ (λ_=>k.out) ?_;clear l K;try simp only[ĵ,Õ,ã,ä]
  refine lZ fp ?_ _;go_wp2_with fail;go_ret2;let⟨n1,n2⟩:=C.out.1.N ok 5 (v:=Â Æ<|c.g-r.r) (c':={c with g:=c.g-r.r}) (ki:=jQ) (ss':=zQ) U C.out.1.I λ_ q=>q;have L:=(e8.fU (λ_=>False)<|W.setCell ⟨n,5,Ä⟩<|Â Æ<|c.g-r.r).fe (e8.fU (λ_=>False) _);exact⟨U,_,_,n1.fK L,(C.out.2.fe n2).fe<|Tr.fK L⟩
 .intro K l;go_simp;refine l.out _ _ (λ_=>⟨(H.out.1.fK<|((e8.fU _ _).fe<|e8.gG _ _ _ _)).r.r 0 _ U,(H.out.1.fK<|((e8.fU _ _).fe<|e8.gG _ _ _ _)).r.r 2 _ U,(H.out.1.fK<|((e8.fU _ _).fe<|e8.gG _ _ _ _)).r.r 4 _ U,(H.out.1.fK<|((e8.fU _ _).fe<|e8.gG _ _ _ _)).r.r 5 _ U⟩) ?_;clear l K;refine gC 23 ?_;intro K l;go_simp;go_at_call 173;refine(H.out.2.1 (Č<|ă w<|Ð #[Â Æ 0,Ñ Ï,Â Æ 0] 252) kp).mono ?_;rintro e z ⟨rfl,zy,O,o,D⟩;dsimp only;refine l.out _ _ (λ_=>⟨o.r.r 0 _ U,o.r.r 2 _ U,o.r.r 4 _ U,o.r.r 5 _ U⟩) ?_;clear l K;have B:=ame H.out.1 O;have k0:=B.r 0 _ U;have k1:=B.r 1 _ U;have k2:=B.r 2 _ U;have f0:=B.C 0;have f1:=B.C 1;have f2:=B.C 2;refine gC 25 ?_;intro K l;go_simp;refine l.out _ _ (λq=>absurd fi q) ?_;clear l K;try simp only[ĵ,Õ,ã,ä]
  refine lZ fp ?_ _;let⟨a1,a2,a3⟩:=S3 ok o D (Þ _) B 0<|Â Æ r.r;let⟨b1,b2,b3⟩:=S3 ok a1 a2 (Þ _) a3 1<|Ñ r.C;let⟨t,I,m⟩:=S3 ok b1 b2 (Þ _) b3 2<|Â Æ r.M;generalize Ć (Ć (Ć z ⟨w.heap.size,0,Ä⟩<|Â Æ r.r) ⟨w.heap.size,1,Ä⟩<|Ñ r.C) ⟨w.heap.size,2,Ä⟩ (Â Æ r.M)=W at*;replace m:ff w.heap.size [Â Æ r.r,Ñ r.C,Â Æ r.M] 252 W:=m;clear a1 a2 a3 b1 b2 b3 B k0 k1 k2 f0 f1 f2 o D O;have v0:=m.r 0 _ U;have X:=m.r 1 _ U;have Y:=m.r 2 _ U;have z5:W.cell? ⟨n,5,Ä⟩=Ã (Â Æ c.g):=t.r.r 5 _ U;have y5:=t.r.C 5;have zl:=t.r.M;have zb:=m.M;have M:=H.out.2.2.1;have N:=H.out.2.2.2;have J:=ff.S t.r m A;have y1:=(Je (w:=W) (i:=5) (u:=Â Æ<|c.g-r.r) J).trans X;have y2:=(Je (w:=W) (i:=5) (u:=Â Æ<|c.g-r.r) J).trans Y;have C:=fc<|Á t I;clear t I m k;go_wp2_with fail;go_region;go_wp2_with fail;have k:=fc<|Á y1 y2;refine mr (λw'=>w'.cell? ⟨w.heap.size,1,Ä⟩=Ã (Ñ r.C)/\w'.cell? ⟨w.heap.size,2,Ä⟩=Ã (Â Æ r.M)) [] fp ?_;refine tk 0 k.out ?_;refine tk 1 k.out ?_;refine tk 2 k.out ?_;refine tk 3 k.out ?_;refine tk 4 k.out ?_;refine gC 5 ?_;intro K l;go_simp;go_at_call 159;refine(Jj _ _).mono ?_;rintro e w2 ⟨rfl,rn⟩;subst w2;dsimp only;refine l.out _ _ (λ_=>k.out) ?_;clear l K;refine gC 6 ?_;intro K l;go_simp;refine l.out _ _ (λ_=>k.out) ?_;clear l K;refine gC 7 ?_;intro K l;go_simp;refine l.out _ _ (λ_=>k.out) ?_;clear l K;try simp only[ĵ,Õ,ã,ä]
  refine lZ fp ?_ _;go_wp2_with fail;go_ret2;let⟨n1,n2⟩:=C.out.1.N ok 5 (v:=Â Æ<|c.g-r.r) (c':={c with g:=c.g-r.r}) (ki:=jQ) (ss':=zQ) U C.out.1.I λ_ q=>q;have L:=(e8.fU (λ_=>False)<|W.setCell ⟨n,5,Ä⟩<|Â Æ<|c.g-r.r).fe (e8.fU (λ_=>False) _);exact⟨U,_,_,n1.fK L,(C.out.2.fe n2).fe<|Tr.fK L⟩
end
section
variable{E:iW}{rb:Nat}{c:RC}{sv lv:Ç}{s i:St}{f j:List (Nat×Int)}{q p:Int}{F:mq}
def o5(c:RC)(g:Int):RC:={c with g:=g}
def amh(ok:E.Ok)(a:R E rb c sv lv zQ s f w)(i:0<=c.d)(G:c.d<=4)(hF:c.d<4->tC F (c.d+1))(j:qC F)(k:iL w)(l:gJ s)(m:c.x<8)(n:c.y<8)(o:gh q)(r:gh p)(v:gh h)(z:0<=c.g)(B:c.g<=100000)(C:(f.length:Int)+c.g<=1000000)(t:RT)(D:t=(iX F c ⟨zQ,s,f,c.g⟩ q p h).2.2): Ò À 210 #[Å<|Ã ⟨rb,0,Ä⟩,Â Æ q,Â Æ p,Â Æ h] w λe u=>e=È (æ #[Â Æ (iX F c ⟨zQ,s,f,c.g⟩ q p h).1,Â Æ (iX F c ⟨zQ,s,f,c.g⟩ q p h).2.1])/\kR E rb sv lv f.length w (o5 c t.g) zQ t.s t.C u:=by
 subst D;by_cases b:c.d=4
 .have e:iX F c ⟨zQ,s,f,c.g⟩ q p h=(0,0,⟨zQ,s,f,c.g⟩):=by unfold iX;rw[if_pos b]
  rw[e];refine(al9 ok a b).mono ?_;rintro e u ⟨rfl,rfl⟩;exact⟨U,a.jV⟩
 .have e:iX F c ⟨zQ,s,f,c.g⟩ q p h=((F s f c.y (q%8).toNat (min p c.g) h).M,xN (F s f c.y (q%8).toNat (min p c.g) h).C,⟨zQ,(F s f c.y (q%8).toNat (min p c.g) h).s,(F s f c.y (q%8).toNat (min p c.g) h).I,c.g-(F s f c.y (q%8).toNat (min p c.g) h).r⟩):=by unfold iX;rw[if_neg b]
  rw[e];exact amf ok a i Z (hF Z) j k l m n o r v z B C
def ami(ok:E.Ok)(i:R E rb c sv lv (((zQ++[h])++[p])++[q]) s f w)(hn:zQ.length<=800)(o:0<=c.d)(r:c.d<=4)(hF:c.d<4->tC F (c.d+1))(v:qC F)(z:iL w)(B:gJ s)(C:c.x<8)(D:c.y<8)(G:gh q)(I:gh p)(J:gh h)(K:0<=c.g)(L:c.g<=100000)(M:(f.length:Int)+c.g<=1000000)(t:RT)(N:t=(iX F c ⟨zQ,s,f,c.g⟩ q p h).2.2)(a b:Int)(j:a=(iX F c ⟨zQ,s,f,c.g⟩ q p h).1)(k:b=(iX F c ⟨zQ,s,f,c.g⟩ q p h).2.1): Ò À 205 #[Å<|Ã ⟨rb,0,Ä⟩,Â Ë 20] w λe u=>e=È (æ #[])/\kR E rb sv lv f.length w (o5 c t.g) (zQ++[a,b]) t.s t.C u:=by have c0:=i.r.r 0 _ U;have c2:=i.r.r 2 _ U;have gK:=i.r.M;have Mq:=ff.M i.C;have H:=fc<|Á i<|Á z<|Á hF v;go_enter ê,å;go_wp2_with fail;go_quiet (fail);go_wp2_with fail;have O:=Tr.fK (E:=E) (rb:=rb) (sv:=sv) (lv:=lv) (n:=f.length) (e8.iR (λ_=>False) w nq);have P:=H.out.1.fK (e8.iR (λ_=>False) w nq);go_at_call 204;refine(nK ok P (by first|omega|(simp;omega))).mono ?_;rintro e w1 ⟨rfl,sv1,Q,S⟩;go_wp2_with fail;go_at_call 204;refine(nK ok Q (by first|omega|(simp;omega))).mono ?_;rintro e w2 ⟨rfl,Jm,T,V⟩;go_wp2_with fail;go_at_call 204;refine(nK ok T (by first|omega|(simp;omega))).mono ?_;rintro e w3 ⟨rfl,Nb,W,X⟩;have l:=((O.fe S).fe V).fe X;go_wp2_with fail;go_at_call 210;refine(amh ok W o r H.out.2.2.1 H.out.2.2.2 (H.out.2.1.N ok H.out.1 l) B C D G I J K L M t N).mono ?_;rintro e w4 ⟨rfl,sv4,lv4,Y,t4⟩;rw[<-j,<-k];go_wp2_with fail;go_at_call 203;refine(S2 ok Y (by first|omega|(simp;omega)) _ _).mono ?_;rintro e w5 ⟨rfl,sv5,m,t5⟩;go_wp2_with fail;go_end0;rw[<-j,<-k]at m;exact⟨U,_,_,m,(l.fe t4).fe t5⟩
end
def tD(h:∀p∈zQ,gh p):gh (gd zQ):=by
 by_cases a:0<zQ.length
 .apply h _;rw[B' zQ a];simp[gd]
 .have:zQ=[]:=ß Z;subst this;exact⟨A,A⟩
def pN(h:∀p∈zQ,gh p):∀p∈fY zQ,gh p:=λp a=>h p<|List.dropLast_subset zQ a
def qD(l:List Int):(fY l).length=l.length-1:=by simp[fY]
def xS(h:0<zQ.length):fY zQ++[gd zQ]=zQ:=(B' zQ h).symm
theorem amj(F:mq)(c:RC)(l b:List Int)(s:St)(a:List (Nat×Int))(g q p k:Int): (iX F c ⟨l,s,a,g⟩ q p k).1=(iX F c ⟨b,s,a,g⟩ q p k).1/\(iX F c ⟨l,s,a,g⟩ q p k).2.1=(iX F c ⟨b,s,a,g⟩ q p k).2.1/\(iX F c ⟨l,s,a,g⟩ q p k).2.2.s=(iX F c ⟨b,s,a,g⟩ q p k).2.2.s/\ (iX F c ⟨l,s,a,g⟩ q p k).2.2.C=(iX F c ⟨b,s,a,g⟩ q p k).2.2.C/\(iX F c ⟨l,s,a,g⟩ q p k).2.2.g=(iX F c ⟨b,s,a,g⟩ q p k).2.2.g:=by unfold iX;grind
section
variable{E:iW}{rb:Nat}{c:RC}{sv lv:Ç}{s:St}{f:List (Nat×Int)}{F:mq}
def amk(ok:E.Ok)(h:R E rb c sv lv zQ s f w)(Y:zQ.length<=700)(C:0<=c.d)(D:c.d<=4)(hF:c.d<4->tC F (c.d+1))(G:qC F)(H:iL w)(v:gJ s)(z:c.x<8)(a:c.y<8)(r:∀p∈zQ,gh p)(I:0<=c.g)(J:c.g<=100000)(K:(f.length:Int)+c.g<=1000000) (k:Nat) (uO:2<=k) (um:k<=20) (F':k≠17) (L B M:Int) (b:jb[k]?=Ã (L,B,M)) (Dl:B<=zQ.length) (t:RT) (N:t=oz F c k ⟨zQ,s,f,c.g⟩): Ò À 205 #[Å<|Ã ⟨rb,0,Ä⟩,Â Ë k] w λe i=>e=È (æ #[])/\kR E rb sv lv f.length w (o5 c t.g) t.r t.s t.C i:=by
 subst N;have i:=tD r;have u:=tD<|pN r;have O:=tD<|pN<|pN r;have j:1<=zQ.length->R E rb c sv lv (fY zQ++[gd zQ]) s f w:=λq=>by rwa[xS Z]
 have l:2<=zQ.length->R E rb c sv lv ((fY (fY zQ)++[gd<|fY zQ])++[gd zQ]) s f w:=λq=>by rw[xS (by rw[qD];omega),xS Z];exact h
 have P:3<=zQ.length->R E rb c sv lv (((fY (fY<|fY zQ)++[gd<|fY<|fY zQ])++[gd<|fY zQ])++[gd zQ]) s f w:=λq=>by rw[xS (by rw[qD,qD];omega),xS (by rw[qD];omega),xS Z];exact h
 have m:zQ.length<=800:=Z
 have n:(fY zQ).length<=800:=by rw[qD];omega
 have o:(fY<|fY zQ).length<=800:=by rw[qD];omega
 have Q:(fY<|fY<|fY zQ).length<=800:=by rw[qD];omega
 have cases:(k=2\/k=3\/k=4\/k=5\/k=6\/k=7)\/k=8\/k=9\/k=10\/k=11\/k=12\/k=13\/k=14\/k=15\/k=16\/k=18\/k=19\/k=20:=Z
 rcases cases with hq|rfl|rfl|rfl|rfl|rfl|rfl|rfl|rfl|rfl|rfl|rfl|rfl
 .have S:2<=zQ.length:=by
   rcases hq with rfl|rfl|rfl|rfl|rfl|rfl<;>(simp[jb]at b;omega)
  have e:oz F c k ⟨zQ,s,f,c.g⟩=⟨fY (fY zQ)++[xO k (gd<|fY zQ)<|gd zQ],s,f,c.g⟩:=by rcases hq with rfl|rfl|rfl|rfl|rfl|rfl<;>rfl
  rw[e];exact al1 ok (l S) o a u i Z Z
 .exact alR ok (j<|by simp[jb]at b;omega) n a
 .exact alS ok (l<|by simp[jb]at b;omega) o a
 .exact alT ok (j<|by simp[jb]at b;omega) n a
 .exact alU ok h m a
 .exact alV ok h m a z
 .exact alW ok h m a
 .exact alX ok h m a
 .exact alY ok (j<|by simp[jb]at b;omega) n a i
 .exact alZ ok (l<|by simp[jb]at b;omega) o a i
 .exact al0 ok (l<|by simp[jb]at b;omega) o a u i v
 .exact al8 ok (j<|by simp[jb]at b;omega) n a Z
 .let⟨S,T,V,W,X⟩:=amj F c zQ (fY<|fY<|fY zQ) s f c.g (gd zQ) (gd<|fY zQ)<|gd<|fY<|fY zQ;have e:oz F c 20 ⟨zQ,s,f,c.g⟩=⟨fY (fY<|fY zQ)++[(iX F c ⟨zQ,s,f,c.g⟩ (gd zQ) (gd<|fY zQ)<|gd<|fY<|fY zQ).1,(iX F c ⟨zQ,s,f,c.g⟩ (gd zQ) (gd<|fY zQ)<|gd<|fY<|fY zQ).2.1],(iX F c ⟨zQ,s,f,c.g⟩ (gd zQ) (gd<|fY zQ)<|gd<|fY<|fY zQ).2.2.s,(iX F c ⟨zQ,s,f,c.g⟩ (gd zQ) (gd<|fY zQ)<|gd<|fY<|fY zQ).2.2.C,(iX F c ⟨zQ,s,f,c.g⟩ (gd zQ) (gd<|fY zQ)<|gd<|fY<|fY zQ).2.2.g⟩:=U;rw[e,S,T,V,W,X];exact ami ok (P<|by simp[jb]at b;omega) Q C D hF G H v z a i u O I J K _ U _ _ U U
end
def qE(c:Int)(w:É):Ò À 103 #[Â aW c] w λe a=>e=È (Â Ë<|lC c)/\a=w:=by
 go_enter Tryz.func103,Tryz.ntmps103;go_wp2;all_goals go_ret
 all_goals refine⟨FM ?_,U⟩
 all_goals simp only[beq_iff_eq,beq_eq_false_iff_ne,ne_eq]at*
 all_goals(try subst c)
 all_goals first|rfl|(unfold lC;simp[*];done)|(unfold lC;rw[if_neg Z];simp[*])
def ku:ŏ->Option ŏ
 |à c=>Ã c
 |.seq a b=>match ku a with
  |some c=>Ã c
  |none=>ku b
 |.block _ c=>ku c
 |.scope c=>ku c
 |.cond _ a b=>match ku a with
  |some c=>Ã c
  |none=>ku b
 |_=>Ä
noncomputable def uP:ŏ:=(Tryz.f191.body.bind ku).getD Ķ
def oh(a:Nat)(P:ByteArray)(b:Int)(u:Nat->Ç):é:=⟨#[Å<|Ã ⟨a,0,Ä⟩,Ă,Â Æ 0,Ñ Ï,Í P,Â Æ P.size,Â Æ b,u 7,u 8,u 9,u 10,u 11,u 12,u 13,u 14,u 15,u 16,u 17,u 18,u 19,u 20,u 21,u 22,u 23,u 24,u 25,u 26,u 27,u 28,u 29,u 30,u 31,u 32,u 33,u 34,u 35,u 36,u 37,u 38,u 39,u 40,u 41,u 42,u 43,u 44,u 45,u 46,u 47,u 48,u 49,u 50,u 51,u 52,u 53,u 54,u 55,u 56,u 57,u 58,u 59,u 60,u 61,u 62,u 63,u 64,u 65,u 66,u 67,u 68,u 69,u 70,u 71,u 72,u 73,u 74,u 75,u 76,u 77,u 78,u 79,u 80],[]⟩
def Dm(b:Nat)(P:ByteArray)(c:Int)(a:é):Prop:=∃u,a=oh b P c u
def G_(a:Nat)(P:ByteArray)(v:Int)(b:Bool)(u:Nat->Ç):é:=⟨#[Å<|Ã ⟨a,0,Ä⟩,Ă,Â Æ v,Ñ b,Í P,Â Æ P.size,u 6,u 7,u 8,u 9,u 10,u 11,u 12,u 13,u 14,u 15,u 16,u 17,u 18,u 19,u 20,u 21,u 22,u 23,u 24,u 25,u 26,u 27,u 28,u 29,u 30,u 31,u 32,u 33,u 34,u 35,u 36,u 37,u 38,u 39,u 40,u 41,u 42,u 43,u 44,u 45,u 46,u 47,u 48,u 49,u 50,u 51,u 52,u 53,u 54,u 55,u 56,u 57,u 58,u 59,u 60,u 61,u 62,u 63,u 64,u 65,u 66,u 67,u 68,u 69,u 70,u 71,u 72,u 73,u 74,u 75,u 76,u 77,u 78,u 79,u 80],[]⟩
def FN(c:Nat)(P:ByteArray)(v:Int)(b:Bool)(a:é):Prop:=∃u,a=G_ c P v b u
def QQ(X:é->É->Prop):aV->é->É->Prop
 |.exit 0,a,w=>X a w
 |_,_,_=>False
section
variable{X:é->É->Prop}{E:iW}{c:RC}{s:St}{f:List (Nat×Int)}{F:mq}
def aml(ok:E.Ok)(u:Nat->Ç)(b:R E i c z x zQ s f w)(j:B.size<=40)(e:h=B.size) (g:∀a d,FN i B 0 Ú a->kR E i z x f.length w c zQ s f d->X a d): Î À uP (Exit.then K<|QQ X) (oh i B h u) w:=by
 unfold oh;conv=>arg 2;whnf
 subst e;go_wp2_with fail;exact g _ _ (gk _) b.jV
def amm(ok:E.Ok)(u:Nat->Ç)(b:R E i c z x zQ s f w)(l:B.size<=40)(m:(B.size:Int)<h) (e:∀a d,FN i B 0 Ï a->kR E i z x f.length w (o5 c 0) zQ s f d->X a d): Î À uP (Exit.then K<|QQ X) (oh i B h u) w:=by
 unfold oh;conv=>arg 2;whnf
 have n:w.cell? ⟨i,5,Ä⟩=Ã (Â Æ c.g):=b.r.r 5 _ U;have o:=b.r.C 5;have p:(h==(B.size:Int))=Ï:=by rw[beq_eq_false_iff_ne];omega
 have H:=fc b;clear b;go_wp2_with fail;let⟨j,k⟩:=H.out.N ok 5 (v:=Â Æ 0) (c':=o5 c 0) (ki:=z) (ss':=zQ) U H.out.I λ_ q=>q;exact e _ _ (gk _) ⟨_,_,j,k⟩
def amn(ok:E.Ok)(u:Nat->Ç)(b:R E i c z x zQ s f w)(P:B.size<=40)(n:Nat)(G:h=n)(I:n<B.size)(y:iL w)(m o p:Int)(Q:zQ.length<=700)(J:0<=c.g)(S:c.g<=100000)(k:Nat)(C:lC ((B[n]'I).toNat:Int)=k)(r:jb[k]?=Ã (m,o,p))(D:mo c.g zQ.length m o p=Ï) (L:∀a j,FN i B 0 Ï a->kR E i z x f.length w (o5 c 0) zQ s f j->X a j): Î À uP (Exit.then K<|QQ X) (oh i B h u) w:=by
 unfold oh;conv=>arg 2;whnf
 subst G;have T:((n:Int)==(B.size:Int))=Ï:=by rw[beq_eq_false_iff_ne];omega
 have V:decide ((B.size:Int)<(n:Int))=Ï:=decide_eq_false Z;have W:(0:Int)<=(n:Int):=Z
 have Y:(n:Int)<(B.size:Int):=Z
 have d:=Dk E ok i c z x zQ s f w b y k m o p r Z J Z;rw[D]at d;have H:=fc<|Á b<|Á d<|Á r C;clear b d y r D C;go_wp2_with (go_at_call 103;refine(qE _ _).mono ?_;rintro e j ⟨rfl,l⟩;subst j;rw[H.out.2.2.2]);go_at_call 202;apply H.out.2.1.mono;rintro e M ⟨rfl,l,F⟩;have k5:M.cell? ⟨i,5,Ä⟩=Ã (Â Æ c.g):=l.r.r 5 _ U;have g5:=l.r.C 5;have t:=fc<|Á l F;clear l F;go_wp2_with fail;let⟨N,O⟩:=R.N ok t.out.1 5 (v:=Â Æ 0) (c':=o5 c 0) (ki:=z) (ss':=zQ) U t.out.1.I λ_ q=>q;exact L _ _ (gk _) ⟨_,_,N,t.out.2.fe O⟩
def amo(ok:E.Ok)(u:Nat->Ç)(b:R E i c z x zQ s f w)(J:B.size<=40)(n:Nat)(C:h=n)(D:n<B.size)(q:iL w)(k l m:Int)(L:zQ.length<=700)(F:0<=c.g)(M:c.g<=100000)(r:lC ((B[n]'D).toNat:Int)=22)(o:jb[(22:Nat)]?=Ã (k,l,m))(t:mo c.g zQ.length k l m=Ú) (G:∀a j,FN i B 0 Ï a->kR E i z x f.length w (o5 c<|c.g-k) zQ s f j->X a j): Î À uP (Exit.then K<|QQ X) (oh i B h u) w:=by
 unfold oh;conv=>arg 2;whnf
 subst C;have N:((n:Int)==(B.size:Int))=Ï:=by rw[beq_eq_false_iff_ne];omega
 have O:decide ((B.size:Int)<(n:Int))=Ï:=decide_eq_false Z;have P:(0:Int)<=(n:Int):=Z
 have Q:(n:Int)<(B.size:Int):=Z
 have d:=Dk E ok i c z x zQ s f w b q 22 k l m o Z F Z;rw[t]at d;have H:=fc<|Á b<|Á d<|Á o r;clear b d q o t r;go_wp2_with (go_at_call 103;refine(qE _ _).mono ?_;rintro e j ⟨rfl,I⟩;subst j;rw[H.out.2.2.2]);go_at_call 202;apply H.out.2.1.mono;rintro e S ⟨rfl,p,v⟩;rw[if_pos U]at p;have y:=fc<|Á p v;clear p v;go_wp2_with (go_at_call 103;refine(qE _ _).mono ?_;rintro e j ⟨rfl,I⟩;subst j;rw[H.out.2.2.2]);exact G _ _ (gk _) ⟨_,_,y.out.1,y.out.2⟩
def amq(ok:E.Ok)(u:Nat->Ç)(b:R E i c z x zQ s f w)(P:B.size<=40)(n:Nat)(F:h=n)(G:n<B.size)(r:iL w)(k l m:Int)(I:zQ.length<=700)(J:0<=c.g)(Q:c.g<=100000)(p:Int)(t:List Int)(L:zQ=t++[p])(v:lC ((B[n]'G).toNat:Int)=21)(o:jb[(21:Nat)]?=Ã (k,l,m))(y:mo c.g zQ.length k l m=Ú) (M:∀a j,FN i B p Ú a->kR E i z x f.length w (o5 c<|c.g-k) t s f j->X a j): Î À uP (Exit.then K<|QQ X) (oh i B h u) w:=by
 unfold oh;conv=>arg 2;whnf
 subst F;have S:((n:Int)==(B.size:Int))=Ï:=by rw[beq_eq_false_iff_ne];omega
 have T:decide ((B.size:Int)<(n:Int))=Ï:=decide_eq_false Z;have V:(0:Int)<=(n:Int):=Z
 have W:(n:Int)<(B.size:Int):=Z
 have d:=Dk E ok i c z x zQ s f w b r 21 k l m o Z J Z;rw[y]at d;have H:=fc<|Á b<|Á d<|Á o v;clear b d r o y v;go_wp2_with (go_at_call 103;refine(qE _ _).mono ?_;rintro e j ⟨rfl,N⟩;subst j;rw[H.out.2.2.2]);go_at_call 202;apply H.out.2.1.mono;rintro e Y ⟨rfl,q,C⟩;rw[if_pos U]at q;have D:=fc<|Á q C;clear q C;subst L;go_wp2_with (go_at_call 103;refine(qE _ _).mono ?_;rintro e j ⟨rfl,N⟩;subst j;rw[H.out.2.2.2]);go_at_call 204;refine(nK ok D.out.1<|by simp at I;omega).mono ?_;rintro e w2 ⟨rfl,Jm,N,O⟩;go_wp2_with fail;exact M _ _ (gk _) ⟨_,_,N,D.out.2.fe O⟩
def amr(ok:E.Ok)(u:Nat->Ç)(b:R E i c z x zQ s f w)(L:B.size<=40)(n:Nat)(D:h=n)(k:n<B.size)(r:iL w)(l m o:Int)(M:zQ.length<=700)(F:0<=c.g)(N:c.g<=100000)(O:(48:Int)<=((B[n]'k).toNat:Int))(P:((B[n]'k).toNat:Int)<=57)(t:lC ((B[n]'k).toNat:Int)=1)(p:jb[(1:Nat)]?=Ã (l,m,o))(v:mo c.g zQ.length l m o=Ú) (G:∀a j,Dm i B ((n:Int)+1) a->kR E i z x f.length w (o5 c<|c.g-l) (zQ++[((B[n]'k).toNat:Int)-48]) s f j->K a j): Î À uP (Exit.then K<|QQ X) (oh i B h u) w:=by
 unfold oh;conv=>arg 2;whnf
 subst D;have Q:((n:Int)==(B.size:Int))=Ï:=by rw[beq_eq_false_iff_ne];omega
 have S:decide ((B.size:Int)<(n:Int))=Ï:=decide_eq_false Z;have T:(0:Int)<=(n:Int):=Z
 have V:(n:Int)<(B.size:Int):=Z
 have d:=Dk E ok i c z x zQ s f w b r 1 l m o p Z F Z;rw[v]at d;have H:=fc<|Á b<|Á d<|Á p t;clear b d r p v t;go_wp2_with (go_at_call 103;refine(qE _ _).mono ?_;rintro e j ⟨rfl,I⟩;subst j;rw[H.out.2.2.2]);go_at_call 202;apply H.out.2.1.mono;rintro e W ⟨rfl,q,y⟩;rw[if_pos U]at q;have C:=fc<|Á q y;clear q y;go_wp2_with (go_at_call 103;refine(qE _ _).mono ?_;rintro e j ⟨rfl,I⟩;subst j;rw[H.out.2.2.2]);go_at_call 203;refine(zH ok C.out.1 Z _).mono ?_;rintro e Y ⟨rfl,Jm,I,J⟩;go_wp2_with fail;exact G _ _ (gk _) ⟨_,_,I,C.out.2.fe J⟩
def ams(ok:E.Ok)(u:Nat->Ç)(b:R E i c z x zQ s f w)(W:B.size<=40)(n:Nat)(M:h=n)(N:n<B.size)(t:iL w)(k l m:Int)(v:zQ.length<=700)(O:0<=c.g)(Y:c.g<=100000)(p q:Int)(y:List Int)(P:zQ=(y++[p])++[q])(Q:¬p=0)(C:lC ((B[n]'N).toNat:Int)=17)(o:jb[(17:Nat)]?=Ã (k,l,m))(D:mo c.g zQ.length k l m=Ú) (S:∀a j,Dm i B q a->kR E i z x f.length w (o5 c<|c.g-k) y s f j->K a j): Î À uP (Exit.then K<|QQ X) (oh i B h u) w:=by
 unfold oh;conv=>arg 2;whnf
 subst M;have e1:((n:Int)==(B.size:Int))=Ï:=by rw[beq_eq_false_iff_ne];omega
 have e2:decide ((B.size:Int)<(n:Int))=Ï:=decide_eq_false Z;have I1:(0:Int)<=(n:Int):=Z
 have vR:(n:Int)<(B.size:Int):=Z
 have d:=Dk E ok i c z x zQ s f w b t 17 k l m o Z O Z;rw[D]at d;have H:=fc<|Á b<|Á d<|Á o C;clear b d t o D C;go_wp2_with (go_at_call 103;refine(qE _ _).mono ?_;rintro e j ⟨rfl,I⟩;subst j;rw[H.out.2.2.2]);go_at_call 202;apply H.out.2.1.mono;rintro e w1 ⟨rfl,r,F⟩;rw[if_pos U]at r;have G:=fc<|Á r F;clear r F;subst P;have e3:(p !=0)=Ú:=by rwa[bne_iff_ne]
 go_wp2_with (go_at_call 103;refine(qE _ _).mono ?_;rintro e j ⟨rfl,I⟩;subst j;rw[H.out.2.2.2])
 go_at_call 204;refine(nK ok G.out.1<|by simp at v|-;omega).mono ?_;rintro e w2 ⟨rfl,Jm,I,J⟩;go_wp2_with fail;go_at_call 204;refine(nK ok I<|by simp at v;omega).mono ?_;rintro e w3 ⟨rfl,Nb,V,L⟩;have T:=(G.out.2.fe J).fe L;clear I J L;go_wp2_with fail;exact S _ _ (gk _) ⟨_,_,V,T⟩
def amt(ok:E.Ok)(u:Nat->Ç)(b:R E i c z x zQ s f w)(W:B.size<=40)(n:Nat)(M:h=n)(N:n<B.size)(t:iL w)(k l m:Int)(v:zQ.length<=700)(O:0<=c.g)(Y:c.g<=100000)(p q:Int)(y:List Int)(P:zQ=(y++[p])++[q])(Q:p=0)(C:lC ((B[n]'N).toNat:Int)=17)(o:jb[(17:Nat)]?=Ã (k,l,m))(D:mo c.g zQ.length k l m=Ú) (S:∀a j,Dm i B ((n:Int)+1) a->kR E i z x f.length w (o5 c<|c.g-k) y s f j->K a j): Î À uP (Exit.then K<|QQ X) (oh i B h u) w:=by
 unfold oh;conv=>arg 2;whnf
 subst M;have e1:((n:Int)==(B.size:Int))=Ï:=by rw[beq_eq_false_iff_ne];omega
 have e2:decide ((B.size:Int)<(n:Int))=Ï:=decide_eq_false Z;have I1:(0:Int)<=(n:Int):=Z
 have vR:(n:Int)<(B.size:Int):=Z
 have d:=Dk E ok i c z x zQ s f w b t 17 k l m o Z O Z;rw[D]at d;have H:=fc<|Á b<|Á d<|Á o C;clear b d t o D C;go_wp2_with (go_at_call 103;refine(qE _ _).mono ?_;rintro e j ⟨rfl,I⟩;subst j;rw[H.out.2.2.2]);go_at_call 202;apply H.out.2.1.mono;rintro e w1 ⟨rfl,r,F⟩;rw[if_pos U]at r;have G:=fc<|Á r F;clear r F;subst P;subst Q;go_wp2_with (go_at_call 103;refine(qE _ _).mono ?_;rintro e j ⟨rfl,I⟩;subst j;rw[H.out.2.2.2]);go_at_call 204;refine(nK ok G.out.1<|by simp at v|-;omega).mono ?_;rintro e w2 ⟨rfl,Jm,I,J⟩;go_wp2_with fail;go_at_call 204;refine(nK ok I<|by simp at v;omega).mono ?_;rintro e w3 ⟨rfl,Nb,V,L⟩;have T:=(G.out.2.fe J).fe L;clear I J L;go_wp2_with fail;exact S _ _ (gk _) ⟨_,_,V,T⟩
def amu(ok:E.Ok)(u:Nat->Ç)(b:R E i c z x zQ s f w)(hP:B.size<=40)(n:Nat)(Q:h=n)(S:n<B.size)(r:iL w)(l o q:Int)(T:zQ.length<=700)(V:0<=c.g)(uN:c.g<=100000)(k:Nat)(W:2<=k)(Y:k<=20)(F':k≠17)(Dl:o<=zQ.length)(oU:0<=c.d)(hd:c.d<=4)(hF:c.d<4->tC F (c.d+1))(I:qC F)(J:gJ s)(hx:c.x<8)(hy:c.y<8)(L:∀p∈zQ,gh p)(hlen:(f.length:Int)+c.g<=1000000)(t:RT)(M:t=oz F c k ⟨zQ,s,f,c.g-l⟩)(H_:0<=l)(S5:l<=c.g)(N:lC ((B[n]'S).toNat:Int)=k)(v:jb[(k:Nat)]?=Ã (l,o,q))(O:mo c.g zQ.length l o q=Ú) (hK:∀a m,Dm i B ((n:Int)+1) a->kR E i z x f.length w (o5 c t.g) t.r t.s t.C m->K a m): Î À uP (Exit.then K<|QQ X) (oh i B h u) w:=by
 unfold oh;conv=>arg 2;whnf
 subst Q;have e1:((n:Int)==(B.size:Int))=Ï:=by rw[beq_eq_false_iff_ne];omega
 have e2:decide ((B.size:Int)<(n:Int))=Ï:=decide_eq_false Z;have I1:(0:Int)<=(n:Int):=Z
 have vR:(n:Int)<(B.size:Int):=Z
 have j:=Dk E ok i c z x zQ s f w b r k l o q v Z V Z;rw[O]at j;have H:=fc<|Á b<|Á j<|Á r<|Á v N;clear b j r v O N;go_wp2_with (go_at_call 103;refine(qE _ _).mono ?_;rintro e m ⟨rfl,hw⟩;subst m;rw[H.out.2.2.2.2]);go_at_call 202;apply H.out.2.1.mono;rintro e w1 ⟨rfl,C,P⟩;rw[if_pos U]at C;have G:=fc<|Á C P;clear C P;have e11:((k:Int)==1)=Ï:=by rw[beq_eq_false_iff_ne];omega
 have e27:((k:Int)==17)=Ï:=by rw[beq_eq_false_iff_ne];omega
 have e31:((k:Int)==21)=Ï:=by rw[beq_eq_false_iff_ne];omega
 have e32:((k:Int)==22)=Ï:=by rw[beq_eq_false_iff_ne];omega
 have D:=amk (t:=t) ok G.out.1 T oU hd hF I (H.out.2.2.1.N ok H.out.1 G.out.2) J hx hy L (by show 0<=c.g-l;omega) (by show c.g-l<=100000;omega) (by show(f.length:Int)+(c.g-l)<=1000000;omega) k W Y F' l o q H.out.2.2.2.1 Dl M;have HD:=fc D;clear D hF I J L hlen M;go_wp2_with (go_at_call 103;refine(qE _ _).mono ?_;rintro e m ⟨rfl,hw⟩;subst m;rw[H.out.2.2.2.2]);go_at_call 205;apply HD.out.mono;rintro e w2 ⟨rfl,Jm,MO,h2,t2⟩;go_wp2_with fail;exact hK _ _ (gk _) ⟨_,_,h2,G.out.2.fe t2⟩
end
def qF(k:Nat):Int×Int×Int:=(jb[k]?).getD (0,0,0)
def FO(P:ByteArray)(a:Int):Int:=((P.data.getD a.toNat 0).toNat:Int)
def lN(P:ByteArray)(a:Int):Nat:=lC<|FO P a
def tE(F:mq)(c:RC)(P:ByteArray):Nat->Int->RT->Int×Bool×RT
 |0,_,t=>(0,Ï,t)
 |f+1,pl,t=>
  if pl=P.size then(0,Ú,t)
  else if(P.size:Int)<pl then(0,Ï,{t with g:=0})
  else if mo t.g t.r.length (qF<|lN P pl).1 (qF<|lN P pl).2.1 (qF<|lN P pl).2.2=Ï then(0,Ï,{t with g:=0})
  else if lN P pl=1 then tE F c P f (pl+1) {t with r:=t.r++[FO P pl-48],g:=t.g-(qF<|lN P pl).1}
  else if lN P pl=17 then
   if gd (fY t.r)=0 then tE F c P f (pl+1) {t with r:=fY<|fY t.r,g:=t.g-(qF<|lN P pl).1}else tE F c P f (gd t.r) {t with r:=fY<|fY t.r,g:=t.g-(qF<|lN P pl).1}
  else if lN P pl=21 then(gd t.r,Ú,{t with r:=fY t.r,g:=t.g-(qF<|lN P pl).1})
  else if lN P pl=22 then(0,Ï,{t with g:=t.g-(qF<|lN P pl).1})
  else tE F c P f (pl+1) (oz F c (lN P pl) {t with g:=t.g-(qF<|lN P pl).1})
structure om(t:RT):Prop where
 r:∀p∈t.r,gh p
 M:t.r.length<=32
 s:gJ t.s
 g0:0<=t.g
 C:t.g<=100000
 I:(t.C.length:Int)+t.g<=1000000
def amv{p:Prop}[Decidable p](c:i<=m)(d:b<=m):(if p then i else b)<=m:=by split;exact c;exact d
def I_(c:Int):lC c<=22:=by unfold lC;repeat' (first|refine amv A ?_|decide)
def uQ:gh 0:=⟨A,A⟩
def amw:gh 1:=⟨A,A⟩
theorem I'(h:k<=22):jb[k]?=Ã (qF k):=by
 unfold qF;have:k<jb.length:=by show k<23;omega
 grind
def zK(n:Int):gh (wu n):=⟨alG n,alH n⟩
def J_(b:Bool):gh (xN b):=by cases b<;>exact⟨A,A⟩
def amx{q:Int}(a:gh c)(d:gh q):gh (xO h c q):=by
 unfold xO;repeat' split
 all_goals first|exact zK _|exact J_ _|exact⟨A,A⟩|skip
 rename_i e;have b:=a.1;exact⟨Int.ediv_nonneg b d.1,Int.lt_of_le_of_lt (Int.ediv_le_self _ b) a.2⟩
def gJ.fQ{s:St}(h:gJ s){a:Jf}(b:gh a.fu)(d:∀j,gh<|a.C j)(e:a.r.size<=40/\∀c∈a.r.data.toList,xP c=Ú):gJ (s.fQ i a):=by
 refine⟨λj=> ?_,λj k=> ?_,λj=> ?_⟩<;>unfold St.fQ<;>split
 .exact b
 .exact h.fu j
 .exact d k
 .exact h.C j k
 .exact e
 .exact h.I j
def gJ.r{s:St}(h:gJ s)(i:Nat){b:Int}(a:gh b):gJ (s.fu i b):=h.fQ a (h.C i)<|h.I i
def gJ.SY{s:St}(h:gJ s)(i j:Nat)(a:gh c):gJ (s.r i j c):=by
 refine h.fQ (h.fu i) (λk=> ?_)<|h.I i;show gh (if k=j then c else(s i).C k);split
 .exact a
 .exact h.C i k
def amy{s:St}(h:gJ s)(y:Nat){p:Int}(a:gh p):gh (rB s y c p).1/\gJ (rB s y c p).2:=by
 unfold rB;split
 .exact⟨uQ,h⟩
 .rename_i d;have b:=h.fu y;have e:=a.1;refine⟨amw,gJ.r (gJ.r h y ⟨Z,by have:=b.2;omega⟩) _<|zK _⟩
def J'(h:n<8):gh (n:Int):=⟨Z,Z⟩
section
variable{F:mq}{c:RC}{t:RT}
def tF{m:List Int}(h:∀p∈zQ,gh p)(k:∀p∈m,gh p):∀p∈zQ++m,gh p:=λp a=>(ú.1 a).elim (h p)<|k p
def xT{a:Int}(h:gh a):∀p∈[a],gh p:=λp b=>by simp at b;subst b;exact h
def S6{a b:Int}(h:gh a)(k:gh b):∀p∈[a,b],gh p:=λp c=>by simp at c;rcases c with rfl|rfl;exact h;exact k
def amz(b:qC F)(a:om t)(d:c.y<8){p k:Int}(f:gh h)(i:gh p)(j:gh k): gh (iX F c t h p k).1/\gh (iX F c t h p k).2.1/\gJ (iX F c t h p k).2.2.s/\0<=(iX F c t h p k).2.2.g/\(iX F c t h p k).2.2.g<=t.g/\((iX F c t h p k).2.2.C.length:Int)+(iX F c t h p k).2.2.g<=(t.C.length:Int)+t.g:=by
 unfold iX;split
 .exact⟨uQ,uQ,a.s,a.g0,Ö _,Ö _⟩
 .have l:0<=min p t.g:=by have:=i.1;have:=a.g0;omega
  have m:=a.C;have n:=a.I;have o:=f.1;have e:=b t.s t.C c.y (h%8).toNat (min p t.g) k a.s d Z j l Z Z;have r:=e.C;have u:=e.r;have v:=e.I;refine⟨e.M,J_ _,e.N,?_,?_,?_⟩;all_goals simp only
  all_goals have:=a.g0
  all_goals omega
theorem K_(v:qC F)(w:c.x<8)(r:c.y<8)(z:gh c.k)(P:2<=k)(Q:k<=20)(S:k≠17){o u:Int}(d:jb[k]?=Ã (h,o,u)){g:Int}(T:t.g=g-h)(a:om t)(V:(t.C.length:Int)+g<=1000000)(W:o<=t.r.length)(X:(t.r.length:Int)-o+u<=32): om (oz F c k t)/\(oz F c k t).g<=t.g/\((oz F c k t).C.length:Int)+(oz F c k t).g<=t.C.length+g:=by
 have i:=tD a.r;have j:=tD<|pN a.r;have B:=tD<|pN<|pN a.r;have m:=pN a.r;have n:=pN m;have C:=pN n;have f:=qD t.r;have q:=qD<|fY t.r;have Y:=qD<|fY<|fY t.r;have g1:=a.C;obtain⟨D,E,G,H,I,J⟩:=M9 k _ d;simp only at D E G H I J;have len:=a.M;have b:∀{l:List Int},(∀p∈l,gh p)->l.length<=32->om {t with r:=l}:=λp K=>⟨p,K,a.s,a.g0,a.C,a.I⟩;have cases:(k=2\/k=3\/k=4\/k=5\/k=6\/k=7)\/k=8\/k=9\/k=10\/k=11\/k=12\/k=13\/k=14\/k=15\/k=16\/k=18\/k=19\/k=20:=Z
 rcases cases with hq|rfl|rfl|rfl|rfl|rfl|rfl|rfl|rfl|rfl|rfl|rfl|rfl
 .have e:oz F c k t={t with r:=fY (fY t.r)++[xO k (gd<|fY t.r)<|gd t.r]}:=by
   rcases hq with rfl|rfl|rfl|rfl|rfl|rfl<;>rfl
  rw[e];exact⟨b (tF n<|xT<|amx j i) (by simp[f,q];omega),Ö _,by simp only;omega⟩
 .exact⟨b (tF m<|S6 i i) (by simp[f];simp[jb]at d;omega),Ö _,by show(t.C.length:Int)+t.g<=_;omega⟩
 .exact⟨b (tF n<|S6 i j) (by simp[f,q];omega),Ö _,by show(t.C.length:Int)+t.g<=_;omega⟩
 .exact⟨b m (by rw[f];omega),Ö _,by show(t.C.length:Int)+t.g<=_;omega⟩
 .exact⟨b (tF a.r<|xT z) (by simp;simp[jb]at d;omega),Ö _,by show(t.C.length:Int)+t.g<=_;omega⟩
 .exact⟨b (tF a.r<|xT<|J' w) (by simp;simp[jb]at d;omega),Ö _,by show(t.C.length:Int)+t.g<=_;omega⟩
 .exact⟨b (tF a.r<|xT<|J' r) (by simp;simp[jb]at d;omega),Ö _,by show(t.C.length:Int)+t.g<=_;omega⟩
 .exact⟨b (tF a.r<|xT<|a.s.fu _) (by simp;simp[jb]at d;omega),Ö _,by show(t.C.length:Int)+t.g<=_;omega⟩
 .exact⟨b (tF m<|xT<|a.s.C _ _) (by simp[f];omega),Ö _,by show(t.C.length:Int)+t.g<=_;omega⟩
 .exact⟨⟨n,by show(fY<|fY t.r).length<=32;omega,a.s.SY _ _ j,a.g0,a.C,a.I⟩,Ö _,by show(t.C.length:Int)+t.g<=_;omega⟩
 .obtain⟨e,L⟩:=amy a.s c.y j;exact⟨⟨tF n<|xT e,by show(fY (fY t.r)++[_]).length<=32;simp[f,q];omega,L,a.g0,a.C,a.I⟩,Ö _,by show(t.C.length:Int)+t.g<=_;omega⟩
 .have e:h=4:=by simp[jb]at d;omega
  refine⟨⟨m,by show(fY t.r).length<=32;omega,a.s,a.g0,a.C,?_⟩,Ö _,?_⟩
  .show((t.C++[_]).length:Int)+t.g<=_;simp;omega
  .show((t.C++[_]).length:Int)+t.g<=_;simp;omega
 .obtain⟨e,L,M,N,O,w6⟩:=amz v a r i j B;refine⟨⟨tF C<|S6 e L,?_,M,N,?_,?_⟩,O,?_⟩
  .show(fY (fY<|fY t.r)++[_,_]).length<=32;grind
  .show(iX F c t _ _ _).2.2.g<=_;omega
  .show((iX F c t _ _ _).2.2.C.length:Int)+(iX F c t _ _ _).2.2.g<=_;omega
  .show((iX F c t _ _ _).2.2.C.length:Int)+(iX F c t _ _ _).2.2.g<=_;omega
end
def Dn(a:Nat)(w:É):Nat:=match w.cell? ⟨a,5,Ä⟩with
 |some (Â _ n)=>n.toNat
 |_=>0
def R.G{E:iW}{c:RC}{s:St}{a:List (Nat×Int)}(h:R E i c v x zQ s a w):Dn i w=c.g.toNat:=by unfold Dn;rw[h.r.r 5 _ U]
def SI(E:iW)(d:Nat)(c:RC)(P:ByteArray)(F:mq)(f h:Ç)(i:Nat)(j:É)(k:Int×Bool×RT)(a:é)(w:É):Prop:=
 ∃(b:Int) (t:RT) (e:Nat),Dm d P b a/\gh b/\kR E d f h i j (o5 c t.g) t.r t.s t.C w/\om t/\iL w/\t.g.toNat<e/\tE F c P e b t=k
def SX(E:iW)(d:Nat)(c:RC)(P:ByteArray)(e f:Ç)(h:Nat)(i:É)(b:Int×Bool×RT)(a:é)(w:É):Prop:=
 FN d P b.1 b.2.1 a/\kR E d e f h i (o5 c b.2.2.g) b.2.2.r b.2.2.s b.2.2.C w
def S7(a:n<B.size):FO B (n:Int)=((B[n]'a).toNat:Int):=by unfold FO;rw[Ŷ];have b:n<B.data.size:=a;simp only[Array.getD,b,dif_pos];rfl
theorem S8{s:St}(b:gJ s)(y:Nat)(a:n<(s y).r.size):1<=lN (s y).r (n:Int):=by
 unfold lN;rw[S7 a];have c:((s y).r[n]'a)∈(s y).r.data.toList:=by have:(s y).r[n]'a=(s y).r.data[n]'a:=U;grind [Array.getElem_mem]
 have:=(b.I y).2 _ c;unfold xP at this;have:=of_decide_eq_true this;omega
def L_{b a d:Int}(h:mo c n b a d=Ú):b<=c/\a<=n/\(n:Int)-a+d<=32:=by unfold mo at h;simp at h;omega
def amA{p:Prop}[Decidable p](c:i≠m)(d:b≠m):(if p then i else b)≠m:=by split;exact c;exact d
def M_(h:lC c=1):48<=c/\c<=57:=by
 by_cases a:48<=c/\c<=57
 .exact a
 .exfalso;revert h;unfold lC;rw[if_neg a];repeat' (first|refine amA A ?_|decide)
def amB(a:1<=k)(b:k<=22):1<=(qF k).1:=by
 have h:∀k:Fin 23,1<=k.val->1<=(qF k.val).1:=A
 exact h ⟨k,Z⟩ a
section
variable{E:iW}{c:RC}{F:mq}{l:Int×Bool×RT}
def amC(ok:E.Ok)(hP:B.size<=40)(amD:∀n,n<B.size->1<=lN B (n:Int))(oU:0<=c.d)(hd:c.d<=4)(hF:c.d<4->tC F (c.d+1))(hI:qC F)(hx:c.x<8)(hy:c.y<8)(Jn:gh c.k)(a:é)(w:É)(h:SI E j c B F z v i W l a w): Î À uP (Exit.then (λa' w'=>SI E j c B F z v i W l a' w'/\Dn j w'<Dn j w)<|QQ<|SX E j c B z v i W l) a w:=by
 let⟨pl,t,fuel,hfr,rQ,⟨sv,lv,hR,hT⟩,ht,hr,hfu,kj⟩:=h;have g0:=ht.g0;have g1:=ht.C;have hl:=ht.M;have amE:=hR.G;obtain⟨f,rfl⟩:∃f,fuel=f+1:=⟨fuel-1,Z⟩;unfold tE at kj;obtain⟨u,rfl⟩:=hfr;by_cases h1:pl=B.size
 .rw[if_pos h1]at kj;subst kj;apply aml ok u hR hP h1;rintro a' w' q1 ⟨ki,jE,r1,r2⟩;exact⟨q1,ki,jE,r1,hT.fe r2⟩
 rw[if_neg h1]at kj;by_cases h2:(B.size:Int)<pl
 .rw[if_pos h2]at kj;subst kj;apply amm ok u hR hP h2;rintro a' w' q1 ⟨ki,jE,r1,r2⟩;exact⟨q1,ki,jE,r1,hT.fe r2⟩
 rw[if_neg h2]at kj;have F_:=rQ.1;obtain⟨n,rfl⟩:∃n:Nat,pl=n:=⟨pl.toNat,Z⟩;have hn:n<B.size:=Z
 have k1:=amD n hn;have uO:lC ((B[n]'hn).toNat:Int)=lN B (n:Int):=by unfold lN;rw[S7 hn]
 have k2:lN B (n:Int)<=22:=I_ _;have hk:=I' k2;have H_:=amB k1 k2;let⟨b1,b2,b3,b4,b5,b6⟩:=M9 _ _ hk;have amF:=S7 hn;generalize lN B (n:Int)=k at*;generalize hro:qF k=ro at*;let⟨co,ta,pu⟩:=ro;simp only at kj hk H_ b1 b2 b3 b4 b5 b6;by_cases h3:mo t.g t.r.length co ta pu=Ï
 .rw[if_pos h3]at kj;subst kj;apply amn ok u hR hP n U hn hr co ta pu Z g0 g1 k uO hk h3;rintro a' w' q1 ⟨ki,jE,r1,r2⟩;exact⟨q1,ki,jE,r1,hT.fe r2⟩
 rw[if_neg h3]at kj;have oV:mo t.g t.r.length co ta pu=Ú:=by cases e:mo t.g t.r.length co ta pu with
  |true=>rfl
  |false=>exact absurd e h3
 let⟨S5,Dl,S9⟩:=L_ oV;have Ta:=ht.I;have vR:gh ((n:Int)+1):=⟨Z,Z⟩;have Nc:∀{a':é} {w':É} {Jo:Int} {t':RT} {ki jE:Ç},Dm j B Jo a'->gh Jo->R E j (o5 c t'.g) ki jE t'.r t'.s t'.C w'->Tr E j sv lv t.C.length w ki jE t'.C.length w'->om t'->t'.g<=t.g-co->tE F c B f Jo t'=l->SI E j c B F z v i W l a' w'/\Dn j w'<Dn j w:=by intro a' w' Jo t' ki jE q1 q2 q3 q4 q5 q6 q7;refine⟨⟨Jo,t',f,q1,q2,⟨ki,jE,q3,hT.fe q4⟩,q5,hr.N ok hR q4,Z,q7⟩,?_⟩;rw[q3.G,amE];show t'.g.toNat<t.g.toNat;omega
 by_cases h4:k=1
 .rw[if_pos h4]at kj;subst h4;have M':=M_ uO;apply amr ok u hR hP n U hn hr co ta pu Z g0 g1 M'.1 M'.2 uO hk oV;rintro a' w' q1 ⟨ki,jE,r1,r2⟩;rw[amF]at kj;refine Nc (t':={t with r:=t.r++[((B[n]'hn).toNat:Int)-48],g:=t.g-co}) q1 vR r1 r2 ⟨tF ht.r<|xT ⟨Z,Z⟩,?_,ht.s,by show 0<=t.g-co;omega,by show t.g-co<=100000;omega,by show(t.C.length:Int)+(t.g-co)<=1000000;omega⟩ (Ö _) kj;simp[jb]at hk;simp;omega
 rw[if_neg h4]at kj;by_cases h5:k=17
 .rw[if_pos h5]at kj;subst h5;have amG:ta=2:=by simp[jb]at hk;omega
  have e2:t.r=(fY (fY t.r)++[gd<|fY t.r])++[gd t.r]:=by rw[xS (by rw[qD];omega),xS Z]
  have tok:om {t with r:=fY<|fY t.r,g:=t.g-co}:=⟨pN<|pN ht.r,by show(fY<|fY t.r).length<=32;rw[qD,qD];omega,ht.s,by show 0<=t.g-co;omega,by show t.g-co<=100000;omega,by show(t.C.length:Int)+(t.g-co)<=1000000;omega⟩;by_cases h6:gd (fY t.r)=0
  .rw[if_pos h6]at kj;apply amt ok u hR hP n U hn hr co ta pu Z g0 g1 _ _ _ e2 h6 uO hk oV;rintro a' w' q1 ⟨ki,jE,r1,r2⟩;exact Nc (t':={t with r:=fY<|fY t.r,g:=t.g-co}) q1 vR r1 r2 tok (Ö _) kj
  .rw[if_neg h6]at kj;apply ams ok u hR hP n U hn hr co ta pu Z g0 g1 _ _ _ e2 h6 uO hk oV;rintro a' w' q1 ⟨ki,jE,r1,r2⟩;exact Nc (t':={t with r:=fY<|fY t.r,g:=t.g-co}) q1 (tD ht.r) r1 r2 tok (Ö _) kj
 rw[if_neg h5]at kj;by_cases h6:k=21
 .rw[if_pos h6]at kj;subst h6 kj;have amG:ta=1:=by simp[jb]at hk;omega
  apply amq ok u hR hP n U hn hr co ta pu Z g0 g1 _ _ (xS Z).symm uO hk oV;rintro a' w' q1 ⟨ki,jE,r1,r2⟩;exact⟨q1,ki,jE,r1,hT.fe r2⟩
 rw[if_neg h6]at kj;by_cases h7:k=22
 .rw[if_pos h7]at kj;subst h7 kj;apply amo ok u hR hP n U hn hr co ta pu Z g0 g1 uO hk oV;rintro a' w' q1 ⟨ki,jE,r1,r2⟩;exact⟨q1,ki,jE,r1,hT.fe r2⟩
 rw[if_neg h7]at kj;let⟨d1,d2,d3⟩:=K_ (t:={t with g:=t.g-co}) hI hx hy Jn Z Z h5 hk U ⟨ht.r,ht.M,ht.s,by show 0<=t.g-co;omega,by show t.g-co<=100000;omega,by show(t.C.length:Int)+(t.g-co)<=1000000;omega⟩ Ta Dl S9;apply amu ok u hR hP n U hn hr co ta pu Z g0 g1 k Z Z h5 Dl oU hd hF hI ht.s hx hy ht.r Ta (oz F c k {t with g:=t.g-co}) U b1 S5 uO hk oV;rintro a' w' q1 ⟨ki,jE,r1,r2⟩;exact Nc q1 vR r1 r2 d1 d2 kj
end
section
variable{E:iW}{c:RC}{F:mq}{lv:Ç}{s:St}{b:List (Nat×Int)}
def oA(F:mq)(c:RC)(s:St)(b:List (Nat×Int)):Int×Bool×RT:=tE F c (s c.y).r (c.g.toNat+1) 0 ⟨[],s,b,c.g⟩
def N_(ok:E.Ok)(h:R E i c v lv [] s b w)(l:0<=c.d)(o:c.d<=4)(hF:c.d<4->tC F (c.d+1))(p:qC F)(q:iL w)(f:gJ s)(r:c.x<8)(j:c.y<8)(t:gh c.k)(z:0<=c.g)(B:c.g<=100000)(C:(b.length:Int)+c.g<=1000000): Ò À 191 #[Å<|Ã ⟨i,0,Ä⟩] w λe a=>e=È (æ #[Â Æ (oA F c s b).1,Ñ (oA F c s b).2.1])/\kR E i v lv b.length w (o5 c (oA F c s b).2.2.g) (oA F c s b).2.2.r (oA F c s b).2.2.s (oA F c s b).2.2.C a:=by
 have G:=h.r.r 0 _ U;have I:=h.r.r 2 _ U;have J:=h.C.M6 j;have K:=h.r.M;have M:=ff.M h.C;have e:=(f.I c.y).1;have L:∀m,∀a,Dm i (s c.y).r 0 a->Î À (à uP) (QQ<|SX E i c (s c.y).r v lv b.length w<|oA F c s b) a (w.drewN m):=λm a D=>by refine ĉ (SI E i c (s c.y).r F v lv b.length w<|oA F c s b) (λ_ w=>Dn i w) ?_ (amC ok e (λn u=>S8 f c.y u) l o hF p r j t);have k:=e8.iR (λ_=>False) w m;exact⟨0,⟨[],s,b,c.g⟩,c.g.toNat+1,D,uQ,⟨v,lv,h.fK k,Tr.fK k⟩,⟨fi,fi,f,z,B,C⟩,q.r k id,fi,U⟩
 have H:=fc L;generalize oA F c s b=res at*;generalize N:(s c.y).r=P at*;go_enter Tryz.func191,Tryz.ntmps191;go_wp2_with fail;go_step3;go_wp2_with fail;go_quiet (fail);go_wp2_with fail;go_step3;go_wp2_with fail;refine Ý ?_ (H.out _ _ (gk _));rintro(_|(_|_)|_|_|_|_) a v hq;all_goals first|exact absurd hq id|skip
 let⟨n,O⟩:=hq;obtain⟨u,rfl⟩:=n;unfold G_;go_wp2_with fail;(try rw[Exit.noGoto_ret]);go_ret2;simp_all
end
def Tb(a:o.op=bl T)(b:P.info? T=Ã zJ)(c:zJ.zero=Ã z): (ĥ xX o).run P w=χ (.value<|Å<|Ã ⟨w.heap.size,0,Ä⟩) (w.alloc<|Ð z.cells T):=by unfold ĥ;simp[a,Instr.alloc,zeroValue,typeInfo,b,c,newVar,newRow]
def Nd:∀(e a d:List Ç) (w:É) (c:List Ç),c.length=e.length->ff b (a++c++d) T w->ff b (a++e++d) T (w.setCells b a.length e)
 |[],a,d,w,c,hl,h=>by have:c=[]:=ß (by simpa using hl);subst this;exact h
 |v::r,a,d,w,c,hl,h=>by
  match c,hl,h with
  |x::c,hl,h=>
   have f:=h.fQ a.length v;rw[show(a++x::c++d).set a.length v=(a++[v])++c++d by simp]at f;have:=Nd r (a++[v]) d _ c (by simpa using hl) f;rw[show(a++[v]).length=a.length+1 by simp]at this;rw[show a++v::r++d=a++[v]++r++d by simp];exact this
def NF.qO(h:NF b w)(p:Ą)(v:Ç):NF b (w.setCell p v):=λc T d q=>by
 by_cases e:b=p.block
 .subst e;unfold Ć at q;simp only[Û,if_true]at q;cases a:w.heap[p.block]? with
  |none=>rw[a]at q;cases q
  |some f=>
   rw[a]at q;cases f with
   |cells g t z=>
    simp only[ñ,è,Ĥ]at q;rw[<-q.2.1];exact h _ _ _ a
   |_=>cases q
 .rw[ė _ _ _ _ (by simpa using e)]at q;exact h c T d q
def Jp:∀(vs:List Ç) (o:Nat) (w:É),NF b w->e8 (λk=>k=b) w (w.setCells b o vs)
 |[],_,w,_=>e8.fW _ w
 |v::r,o,w,h=>(e8.I (X:=λk=>k=b) (p:=⟨b,o,Ä⟩) U v<|Ù h).fe<|Jp r (o+1) _<|h.qO _ _
def ff.Td{vs:List Ç}(h:ff j vs T w)(a:n<=vs.length):w.there j 0 n:=λi b=>by refine⟨?_,h.C _⟩;rw[h.r (0+i) (vs[0+i]'Z)<|Ô Z];rfl
def ff.Y{vs tl:List Ç}(h:ff j (vs++tl) T w):w.rangeAt j 0 vs:=λi v a=>by apply h.r (0+i) v;rwa[ł,ç (Ü.1 a).1]
def Te{P:Program}{ops:Array Oper}{rest:List Oper}{o1 o2:Oper}{a:Act}{w:World}{Q:Exit->Act->World->Prop}(g1:o1.guard=none)(g2:o2.guard=none)(T:TypeId)(h1:o1.op=.alloc T)(d:Tmp)(hd:o1.dst=some d)(x y:Operand)(h2:o2.op=.store T x y)(ng:o2.dst=none) {i:TypeInfo} {z:Value} (hi:P.info? T=some i) (hz:i.zero=some z) (cs:List Value) (jk:i.size=cs.length) (se:z.cells.size=cs.length) (hx:(a.put (some d)<|.pointer<|some ⟨w.heap.size,0,none⟩).eval x=.pointer (some ⟨w.heap.size,0,none⟩)) (hy:(a.put (some d)<|.pointer<|some ⟨w.heap.size,0,none⟩).eval y=.agg cs.toArray) (Nf:∀v∈cs,v.oneCell'=true) (h:∀w',ff w.heap.size cs T w'->e8 (λ_=>False) w w'->w'.heap.size=w.heap.size+1->wpList P ops Q rest (a.put (some d)<|.pointer<|some ⟨w.heap.size,0,none⟩) w') (hT:ml T=false:=by decide):wpList P ops Q (o1::o2::rest) a w:=by
 apply ć g1 (Ã d) hd _ _ (Tb h1 hi hz);have hB:ff w.heap.size z.cells.toList T (w.alloc<|Ð z.cells T):=by have:=ff.N w z.cells.toList T;simpa using this
 refine ľ g2 T x y h2 w.heap.size 0 cs.toArray hx hy (hB.Td<|by simp[se]) (by rw[hi];simp[jk]) (Ī Nf) ?_;rw[ng];have hB2:=Nd cs [] [] (w.alloc<|Ð z.cells T) z.cells.toList (by simpa using se) (by simpa using hB);refine h _ (by simpa using hB2) ?_ ?_
 .refine(e8.gG (λ_=>False) w _ _<|Ø hT).C (Jp _ _ _<|hB.G hT) λk hk e=> ?_;omega
 .have:∀(vs:List Ç) (o:Nat) (w:É) (b:Nat),(w.setCells b o vs).heap.size=w.heap.size:=by
   intro vs
   induction vs with
   |nil=>intro o w b;rfl
   |cons v r ih=>intro o w b;rw[World.setCells,ih];simp
  simp[this]
section
variable{c:RC}{F:mq}
structure zL(t:RT)(r:Int×Bool×RT):Prop where
 M:gh r.1
 s:gJ r.2.2.s
 g0:0<=r.2.2.g
 C:r.2.2.g<=t.g
 I:(r.2.2.C.length:Int)+r.2.2.g<=t.C.length+t.g
def zL.r{t a:RT}{r:Int×Bool×RT}(h:zL a r)(b:a.g<=t.g)(c:(a.C.length:Int)+a.g<=t.C.length+t.g):zL t r:= ⟨h.M,h.s,h.g0,ŷ h.C b,ŷ h.I c⟩
def FP{J:St->List (Nat×Int)->Prop}(u:B.size<=40)(d:∀n,n<B.size->1<=lN B (n:Int))(h:qC F)(i:c.x<8)(j:c.y<8)(m:gh c.k)(o:∀(k:Nat) (t:RT),k<=20->om t->J t.s t.C->J (oz F c k t).s (oz F c k t).C):∀(p:Nat) (b:Int) (t:RT),gh b->om t->J t.s t.C->zL t (tE F c B p b t)/\J (tE F c B p b t).2.2.s (tE F c B p b t).2.2.C
 |0,_,t,_,ht,hj=>⟨⟨uQ,ht.s,ht.g0,Ö _,Ö _⟩,hj⟩
 |f+1,b,t,rQ,ht,hj=>by
  have S:=ht.g0;have g1:=ht.C;have T:=ht.M;have V:=ht.I;have L:zL t (0,Ï,{t with g:=0})/\J t.s t.C:=⟨⟨uQ,ht.s,Ö _,S,by show(t.C.length:Int)+0<=_;omega⟩,hj⟩;unfold tE;by_cases M:b=B.size
  .rw[if_pos M];exact⟨⟨uQ,ht.s,ht.g0,Ö _,Ö _⟩,hj⟩
  rw[if_neg M];by_cases N:(B.size:Int)<b
  .rwa[if_pos N]
  rw[if_neg N];have F_:=rQ.1;obtain⟨n,rfl⟩:∃n:Nat,b=n:=⟨b.toNat,Z⟩;have W:n<B.size:=Z
  have k1:=d n W;have X:lN B (n:Int)<=22:=I_ _;have v:=I' X;let⟨Y,b2,b3,b4,b5,b6⟩:=M9 _ _ v;have amH:lN B (n:Int)=1->48<=FO B (n:Int)/\FO B (n:Int)<=57:=M_;generalize lN B (n:Int)=k at*;generalize hro:qF k=ro at*;let⟨a,w,z⟩:=ro;simp only at v Y b2 b3 b4 b5 b6|-;by_cases C:mo t.g t.r.length a w z=Ï
  .rwa[if_pos C]
  rw[if_neg C];have oV:mo t.g t.r.length a w z=Ú:=by cases e:mo t.g t.r.length a w z with
   |true=>rfl
   |false=>exact absurd e C
  let⟨S5,Dl,S9⟩:=L_ oV;have D:gh ((n:Int)+1):=⟨Z,Z⟩;have E:∀{l:List Int},(∀p∈l,gh p)->l.length<=32->om {t with r:=l,g:=t.g-a}:=λG H=>⟨G,H,ht.s,by show 0<=t.g-a;omega,by show t.g-a<=100000;omega,by show(t.C.length:Int)+(t.g-a)<=1000000;omega⟩;have I:∀{l:List Int} {r:Int×Bool×RT},zL {t with r:=l,g:=t.g-a} r/\J r.2.2.s r.2.2.C->zL t r/\J r.2.2.s r.2.2.C:=λq=>⟨q.1.r (by show t.g-a<=t.g;omega) (by show(t.C.length:Int)+(t.g-a)<=_;omega),q.2⟩;by_cases p:k=1
  .rw[if_pos p];have:=amH p;subst p;refine I<|FP u d h i j m o f _ _ D (E (tF ht.r<|xT ⟨Z,Z⟩) ?_) hj;simp[jb]at v;simp;omega
  rw[if_neg p];by_cases K:k=17
  .rw[if_pos K];have O:=E (pN<|pN ht.r) (by rw[qD,qD];omega);split
   .exact I<|FP u d h i j m o f _ _ D O hj
   .exact I<|FP u d h i j m o f _ _ (tD ht.r) O hj
  rw[if_neg K];by_cases O:k=21
  .rw[if_pos O];exact⟨⟨tD ht.r,ht.s,by show 0<=t.g-a;omega,by show t.g-a<=t.g;omega,by show(t.C.length:Int)+(t.g-a)<=_;omega⟩,hj⟩
  rw[if_neg O];by_cases P:k=22
  .rw[if_pos P];exact⟨⟨uQ,ht.s,by show 0<=t.g-a;omega,by show t.g-a<=t.g;omega,by show(t.C.length:Int)+(t.g-a)<=_;omega⟩,hj⟩
  rw[if_neg P];have Q:=E ht.r T;let⟨d1,d2,d3⟩:=K_ (t:={t with g:=t.g-a}) h i j m Z Z K v U Q V Dl S9;let⟨G,H⟩:=FP u d h i j m o f _ _ D d1<|o k _ Z Q hj;exact⟨G.r (ŷ d2<|by show t.g-a<=t.g;omega) d3,H⟩
def N'{s:St}{a:List (Nat×Int)}(d:qC F)(b:gJ s)(e:c.x<8)(f:c.y<8)(h:gh c.k)(i:0<=c.g)(j:c.g<=100000)(l:(a.length:Int)+c.g<=1000000):zL ⟨[],s,a,c.g⟩ (oA F c s a):= (FP (J:=λ_ _=>True) (b.I c.y).1 (λn m=>S8 b c.y m) d e f h (λ_ _ _ _ _=>trivial) _ _ _ uQ ⟨fi,fi,b,i,j,l⟩ trivial).1
end
def amI:(À.underlying 144).map İ=Ã Ú:=fp
def O_:(À.info? 144).map (λi=>(i.size,i.zero.map (·.cells.size)))=Ã (145,Ã 145):=fp
def P_(h:(P.info? e).map (λi=>(i.size,i.zero.map (·.cells.size)))=Ã (n,Ã m)):∃i z,P.info? e=Ã i/\i.size=n/\i.zero=Ã z/\z.cells.size=m:=by let⟨i,a,h⟩:=Ì.1 h;simp only[Prod.mk.injEq,Ì]at h;let⟨b,z,c,d⟩:=h;exact⟨i,z,a,b,c,d⟩
def Tf(s:St){lv:Ç}(b:lv.oneCell'=Ú):∀v∈jc s lv,v.oneCell'=Ú:=λv c=>by
 obtain⟨i,a,rfl⟩:=List.getElem_of_mem c;rw[mL]at a;have:=Jg s lv a;rw[Ô (by rwa[mL])]at this;injection this with this;rw[this];unfold sr qB;repeat' split
 all_goals first|exact b|rfl
def Tg{t:Tmp}{d:TypeDesc}(h:s.results=#[.cell t T])(a:q.getD t Ă=Å (Ã ⟨b,0,Ä⟩))(c:w.rangeAt b 0 l)(e:P.underlying T=Ã d)(f:d.isRow=Ú)(g:(P.info? T).map (·.size)=Ã l.length): (ar s q).run P w=χ (Ē l.toArray) w:=by rw[ī]at a;simp only[ar,h];simp[a,asAddr,Ν w b 0 T l d c e f g]
def Ti:(À.underlying 252).map İ=Ã Ú:=fp
def Tk:(À.info? 252).map (·.size)=Ã 3:=fp
def amJ{e:Array ş}{f:List ş}{a:é}(i:o.guard=Ä)(d:ô)(x y:Ů)(j:o.op=.store d x y) (b:Nat) (c:List Ç) (k:a.eval x=Å (Ã ⟨b,0,Ä⟩)) (l:a.eval y=Ē c.toArray) (m:w.there b 0 c.toArray.size) (n:(P.info? d).map (·.size)=Ã c.toArray.size) (p:c.toArray.all (·.oneCell')=Ú) (h:∀g,g=w.setCells b 0 c->aT P e vJ f (a.put o.dst Ă) g):aT P e vJ (o::f) a w:= ľ i d x y j b 0 c.toArray k l m n p<|h _ U
def su(F:mq)(c:RC)(s:St)(a:List (Nat×Int)):zI:=
 ⟨c.g-(oA F c s a).2.2.g,(oA F c s a).2.1,(oA F c s a).1,if(oA F c s a).2.1 then(oA F c s a).2.2.s else s,if(oA F c s a).2.1 then(oA F c s a).2.2.C else a⟩
section
variable{E:iW}{c:RC}{lv:Ç}{s:St}{f:List (Nat×Int)}{F:mq}
def P'(k:e8 (λ_=>False) w u)(t:Tr E i (Ê Ä 0 0) lv n u x v f.length W)(o:w.heap.size<=i)(r:R E i c x v zQ s f W):iu E lv n w s f W v:=by
 refine⟨r.C,r.M,?_,λj q=>(t.l j q).imp id λe=>ë k.M e,λb d g h m=>t.C b d g (ij h k λ_ _=>id) m⟩;refine(k.S λ_ _=>Ě).C t.r ?_;rintro a p (e|e|e|e)
 .exact Ø e
 .omega
 .cases e
 .exact Ù e
def iu.N{Y:Nat->Prop}(r:iu E lv n w s f W v)(k:e8 Y W jX)(m:∀i,Y i->w.heap.size<=i)(o:∀i d,Y i->W.heap[i]?≠Ã (Ð d 257 (0,0)))(p:¬Y E.r):iu E lv n w s f jX v:=by
 have e:∀{a b c},W.ownsRow 0 257 2 a b c->jX.ownsRow 0 257 2 a b c:=λ{a b c} q=>ij q k λj t y=>by let⟨d,u⟩:=lY q t;exact o j d y u
 exact⟨r.r.I k p,e r.I,r.C.C k λi x y=>absurd (m i y) Z,r.l,λa b c g h=>⟨e (r.M a b c g h).1,(r.M a b c g h).2⟩⟩
def iu.rf{a:St}{c:List (Nat×Int)}(ok:E.Ok)(m:w.ownsRow 0 257 2 lv c.length (kt c))(r:iu E lv c.length w s f W v):iu E lv c.length w a c (W.setCells E.r 0<|jc a lv) lv:=by have k:=Jp (b:=E.r) (jc a lv) 0 W<|ff.G r.r ok.C;have l:∀{d e g},W.ownsRow 0 257 2 d e g->(W.setCells E.r 0<|jc a lv).ownsRow 0 257 2 d e g:=λ{d e g} q=>ij q k λj n y=>jF q r.r ok.r.symm (by rw[n,y]);have o:=Nd (T:=E.T) (b:=E.r) (jc a lv) [] E.C W (jc s v) (by rw[mL,mL]) (by have h:=r.r;unfold iD at h;simpa using h);refine⟨by unfold iD;simpa using o,l (r.M _ _ _ m λ_=>Þ _).1,r.C.C k λi _ q=>Ø q,λj q=>Ø q,λd e g p h=>⟨l (r.M d e g p h).1,h⟩⟩
def Q_(ok:E.Ok)(oU:0<=c.d)(hd:c.d<=4)(hF:c.d<4->tC F (c.d+1))(hI:qC F)(V:iD E.r E.T E.C s lv w)(Tl:w.ownsRow 0 257 2 lv f.length (kt f))(hr:iL w)(hs:gJ s)(hx:c.x<8)(hy:c.y<8)(Jn:gh c.k)(vy:0<=c.g)(uN:c.g<=100000)(hlen:(f.length:Int)+c.g<=1000000): Ò À 173 #[Å<|Ã ⟨E.r,0,Ä⟩,Â Ë c.x,Â Ë c.y,Â Æ c.g,Â Æ c.k,Â Ë c.d] w λe a=>
  e=È (Ē #[Â Æ (su F c s f).r,Ñ (su F c s f).C,Â Æ (su F c s f).M])/\∃v,iu E lv f.length w (su F c s f).s (su F c s f).I a v:=by
 let⟨dd,Q',R_⟩:=Ì.1 amI;let⟨i0,z0,Jq,jk,Jr,se⟩:=P_ O_;have Nf:=Tf s (lv:=lv) (by obtain⟨a,u,rfl⟩:=jl Tl;rfl);have gK:=ff.M V;have R':(À.info? 144).map (·.size)=Ã (jc s lv).length:=by rw[Jq,mL];simp[jk]
 have k0:=e8.gG (λ_=>False) w #[Â Æ 0,Ñ Ï,Â Æ 0] 252;have Rb:(w.alloc<|Ð #[Â Æ 0,Ñ Ï,Â Æ 0] 252).rangeAt E.r 0 (jc s lv):=ff.Y<|V.I k0 id;have h:=fc<|Á Q'<|Á R_<|Á R'<|Á Rb<|Á Jq<|Á Jr<|Á (jk.trans (mL s lv).symm)<|Á (se.trans (mL s lv).symm) Nf;have H:=fc<|Á V<|Á Tl<|Á hr<|Á hF<|Á hI hs;clear Q' R_ Jq jk Jr se Nf R' Rb V Tl hr hF hI hs k0;obtain⟨a,b,t,kj⟩:∃a b t,oA F c s f=(a,b,t):=⟨_,_,_,U⟩;have iJ:su F c s f=⟨c.g-t.g,b,a,if b then t.s else s,if b then t.C else f⟩:=by unfold su;rw[kj]
 rw[iJ];have Ng:=N' H.out.2.2.2.2.1 H.out.2.2.2.2.2 hx hy Jn vy uN hlen;rw[kj]at Ng;have tg0:0<=t.g:=Ng.g0;have tg1:t.g<=c.g:=Ng.C;clear Ng;cases b with
 |true=>
  go_enter au,κ;go_wp2_with (first
   |(with_reducible refine Ė U 144 _ U E.r 0 U (jc s lv) dd h.out.2.2.2.1 h.out.1 h.out.2.1 h.out.2.2.1 ?_)
   |(with_reducible refine Te U U 144 U 13 U _ _ U U h.out.2.2.2.2.1 h.out.2.2.2.2.2.1 (jc s lv) h.out.2.2.2.2.2.2.1 h.out.2.2.2.2.2.2.2.1 U U h.out.2.2.2.2.2.2.2.2 ?_;intro l G z I))
  have J:l.heap.size=w.heap.size+1+1:=by simpa using I
  have K:ff (w.heap.size+1) (jc s lv) 144 l:=by simpa using G
  have n:e8 (λ_=>False) w (l.alloc<|Ð #[Å<|Ã ⟨E.r,0,Ä⟩,Â Ë c.x,Â Ë c.y,Â Æ c.k,Â Ë c.d,Â Æ c.g,Ê Ä 0 0] 282):=((e8.gG _ _ _ _).fe z).fe<|e8.gG _ _ _ _;have L:=e8.gG (λ_=>False) l #[Å<|Ã ⟨E.r,0,Ä⟩,Â Ë c.x,Â Ë c.y,Â Æ c.k,Â Ë c.d,Â Æ c.g,Ê Ä 0 0] 282;have M:R E (w.heap.size+1+1) c (Ê Ä 0 0) lv [] s f (l.alloc<|Ð #[Å<|Ã ⟨E.r,0,Ä⟩,Â Ë c.x,Â Ë c.y,Â Æ c.k,Â Ë c.d,Â Æ c.g,Ê Ä 0 0] 282):= ⟨by rw[<-J];exact ff.N l (rA E.r c<|Ê Ä 0 0) 282,ā _ _ _ _,H.out.1.I n id,ij H.out.2.1 n λ_ _=>id⟩;have N:ff w.heap.size [Â Æ 0,Ñ Ï,Â Æ 0] 252 l:=(ff.N w [Â Æ 0,Ñ Ï,Â Æ 0] 252).I z id;have S:=N_ (F:=F) ok M oU hd H.out.2.2.2.1 H.out.2.2.2.2.1 (H.out.2.2.1.r n id) H.out.2.2.2.2.2 hx hy Jn vy uN hlen;rw[kj]at S;go_at_call 191;apply S.mono;clear S;rintro e W ⟨rfl,Nb,Nh,o,B⟩;have O:=P' n B Z o;have C:∀{j:Nat} {D:List Ç} {T:ô},ff j D T l->w.heap.size<=j->ff j D T W:=λ{j D T} hB hj=>by
   refine(hB.I L id).I B.r ?_;have:=hB.M;rintro(q|q|q|q)
   .omega
   .omega
   .cases q
   .have:=(H.out.2.1.lt j q).2;omega
  have m:=C N<|Þ _;have P:=C K Z;have e0:=m.r 0 _ U;have e1:=m.r 1 _ U;have e2:=m.r 2 _ U;have f0:=m.C 0;have f1:=m.C 1;have f2:=m.C 2;have g5:W.cell? ⟨w.heap.size+1+1,5,Ä⟩=Ã (Â Æ t.g):=o.r.r 5 _ U;have ZC:=o.r.M;have r:=fc<|Á O<|Á o<|Á m P;clear O o B m P C M N K n L G z I J;go_wp2_with fail;let⟨d2,ng,sd⟩:=Ì.1 Ti;have u:=((r.out.2.2.1.fQ 0<|Â Æ<|c.g-t.g).fQ 1<|Ñ Ú).fQ 2<|Â Æ a;apply ð (Tg U U (ff.Y (tl:=[]) (vs:=[Â Æ<|c.g-t.g,Ñ Ú,Â Æ a]) u) ng sd Tk) U;refine⟨U,Nh,r.out.1.N (Y:=λk=>k=w.heap.size) (((e8.I (X:=λk=>k=w.heap.size) (p:=⟨w.heap.size,0,Ä⟩) U _).fe<|e8.I (X:=λk=>k=w.heap.size) (p:=⟨w.heap.size,1,Ä⟩) U _).fe<|e8.I (X:=λk=>k=w.heap.size) (p:=⟨w.heap.size,2,Ä⟩) U _) (λi q=>by omega) (λi cur q Q=> ?_) Z⟩;have h0:W.heap[w.heap.size]?=_:=r.out.2.2.1;rw[q,h0]at Q;cases Q
 |false=>
  go_enter au,κ;go_wp2_with (first
   |(with_reducible refine Ė U 144 _ U E.r 0 U (jc s lv) dd h.out.2.2.2.1 h.out.1 h.out.2.1 h.out.2.2.1 ?_)
   |(with_reducible refine Te U U 144 U 13 U _ _ U U h.out.2.2.2.2.1 h.out.2.2.2.2.2.1 (jc s lv) h.out.2.2.2.2.2.2.1 h.out.2.2.2.2.2.2.2.1 U U h.out.2.2.2.2.2.2.2.2 ?_;intro l G z I))
  have J:l.heap.size=w.heap.size+1+1:=by simpa using I
  have K:ff (w.heap.size+1) (jc s lv) 144 l:=by simpa using G
  have n:e8 (λ_=>False) w (l.alloc<|Ð #[Å<|Ã ⟨E.r,0,Ä⟩,Â Ë c.x,Â Ë c.y,Â Æ c.k,Â Ë c.d,Â Æ c.g,Ê Ä 0 0] 282):=((e8.gG _ _ _ _).fe z).fe<|e8.gG _ _ _ _;have L:=e8.gG (λ_=>False) l #[Å<|Ã ⟨E.r,0,Ä⟩,Â Ë c.x,Â Ë c.y,Â Æ c.k,Â Ë c.d,Â Æ c.g,Ê Ä 0 0] 282;have M:R E (w.heap.size+1+1) c (Ê Ä 0 0) lv [] s f (l.alloc<|Ð #[Å<|Ã ⟨E.r,0,Ä⟩,Â Ë c.x,Â Ë c.y,Â Æ c.k,Â Ë c.d,Â Æ c.g,Ê Ä 0 0] 282):= ⟨by rw[<-J];exact ff.N l (rA E.r c<|Ê Ä 0 0) 282,ā _ _ _ _,H.out.1.I n id,ij H.out.2.1 n λ_ _=>id⟩;have N:ff w.heap.size [Â Æ 0,Ñ Ï,Â Æ 0] 252 l:=(ff.N w [Â Æ 0,Ñ Ï,Â Æ 0] 252).I z id;have S:=N_ (F:=F) ok M oU hd H.out.2.2.2.1 H.out.2.2.2.2.1 (H.out.2.2.1.r n id) H.out.2.2.2.2.2 hx hy Jn vy uN hlen;rw[kj]at S;go_at_call 191;apply S.mono;clear S;rintro e W ⟨rfl,Nb,Nh,o,B⟩;have O:=P' n B Z o;have C:∀{j:Nat} {D:List Ç} {T:ô},ff j D T l->w.heap.size<=j->ff j D T W:=λ{j D T} hB hj=>by
   refine(hB.I L id).I B.r ?_;have:=hB.M;rintro(q|q|q|q)
   .omega
   .omega
   .cases q
   .have:=(H.out.2.1.lt j q).2;omega
  have m:=C N<|Þ _;have P:=C K Z;have e0:=m.r 0 _ U;have e1:=m.r 1 _ U;have e2:=m.r 2 _ U;have f0:=m.C 0;have f1:=m.C 1;have f2:=m.C 2;have g5:W.cell? ⟨w.heap.size+1+1,5,Ä⟩=Ã (Â Æ t.g):=o.r.r 5 _ U;have ZC:=o.r.M;have r:=fc<|Á O<|Á o<|Á m P;clear O o B m P C M N K n L G z I J;have rg:W.rangeAt (w.heap.size+1) 0 (jc s lv):=ff.Y (tl:=[]) (by simpa using r.out.2.2.2);have th:W.there E.r 0 (jc s lv).toArray.size:=by have:=r.out.1.r;unfold iD at this;exact this.Td<|by simp only[Ĉ,Ó,mL];omega
  have S_:(À.info? 144).map (·.size)=Ã (jc s lv).toArray.size:=by rw[h.out.2.2.1];simp
  have nJ:=Ī h.out.2.2.2.2.2.2.2.2;have HNF:=fc<|ff.G r.out.2.1.C ok.C;have HG:=fc<|Á rg<|Á th<|Á S_ nJ;clear rg th S_ nJ;go_wp2_with (first
   |(with_reducible refine Ė U 144 _ U (w.heap.size+1) 0 U (jc s lv) dd HG.out.1 h.out.1 h.out.2.1 h.out.2.2.1 ?_)
   |(with_reducible refine amJ U 144 _ _ U E.r (jc s lv) U U HG.out.2.1 HG.out.2.2.1 HG.out.2.2.2 ?_;intro jX xU;have kb:e8 (λk=>k=E.r) W jX:=(by rw[xU];exact Jp _ _ _ HNF.out);have u:=r.out.2.2.1.I kb Z;have p0:=u.r 0 _ U;have p1:=u.r 1 _ U;have p2:=u.r 2 _ U;have y0:=u.C 0;have y1:=u.C 1;have y2:=u.C 2;have Tm:=r.out.2.1.r.I kb Z;have p5:jX.cell? ⟨w.heap.size+1+1,5,Ä⟩=Ã (Â Æ t.g):=Tm.r 5 _ U;have hl4:=Tm.M;have S':=fc u;clear kb u Tm;have HW:=fc xU;clear xU))
  let⟨d2,ng,sd⟩:=Ì.1 Ti;apply ð (Tg U U (ff.Y (tl:=[]) (vs:=[Â Æ<|c.g-t.g,Ñ Ï,Â Æ a])<|((S'.out.fQ 0<|Â Æ<|c.g-t.g).fQ 1<|Ñ Ï).fQ 2<|Â Æ a) ng sd Tk) U;have u:iu E lv f.length w s f jX lv:=by rw[HW.out];exact r.out.1.rf ok H.out.2.1
  refine⟨U,lv,u.N (Y:=λk=>k=w.heap.size) (((e8.I (X:=λk=>k=w.heap.size) (p:=⟨w.heap.size,0,Ä⟩) U _).fe<|e8.I (X:=λk=>k=w.heap.size) (p:=⟨w.heap.size,1,Ä⟩) U _).fe<|e8.I (X:=λk=>k=w.heap.size) (p:=⟨w.heap.size,2,Ä⟩) U _) (λi q=>by omega) (λi cur q Q=> ?_) Z⟩;rw[q,S'.out]at Q;cases Q
end
def zM:Nat->mq
 |0=>λs a _ _ _ _=>⟨0,Ï,0,s,a⟩
 |n+1=>λs a x y g k=>su (zM n) ⟨x,y,k,4-(n:Int),g⟩ s a
theorem amK{F:mq}(d:qC F){c:RC}{s:St}{a:List (Nat×Int)}(b:gJ s)(e:c.x<8)(f:c.y<8)(i:gh c.k)(j:0<=c.g)(l:c.g<=100000)(m:(a.length:Int)+c.g<=1000000):E_ a c.g (su F c s a):=by
 have h:=N' d b e f i j l m;have p:=h.g0;have n:=h.C;have o:=h.I;simp only at n o;unfold su;refine⟨by simp only;omega,by simp only;omega,?_,h.M,?_⟩
 .simp only;split
  .exact h.s
  .exact b
 .grind
def Js:∀n,qC<|zM n
 |0=>λs a x y g k b _ _ _ d _ _=>⟨Ö _,d,b,uQ,by show(a.length:Int)<=a.length+0;omega⟩
 |n+1=>λs a x y g k b d e f h i j=>amK (c:=⟨x,y,k,4-(n:Int),g⟩) (Js n) b d e f h i j
def T_:∀n,n<=3->tC (zM<|n+1) (4-(n:Int))
 |0,_=>λE a s t u x y g k w b d f i j l m o p r=>Q_ (c:=⟨x,y,k,4-((0:Nat):Int),g⟩) (F:=zM 0) a (show(0:Int)<=4-((0:Nat):Int) by decide) (show(4:Int)-((0:Nat):Int)<=4 by decide) (λq=>absurd q<|show¬(4:Int)-((0:Nat):Int)<4 by decide) (Js 0) b d f i j l p m o r
 |n+1,h=>λE a s t u x y g k w b d f i j l m o p r=>by
  have e:(4:Int)-((n+1:Nat):Int)+1=4-(n:Int):=Z
  exact Q_ a (by show 0<=4-((n+1:Nat):Int);omega) (by show 4-((n+1:Nat):Int)<=4;omega) (λ_=>by show tC _ (4-((n+1:Nat):Int)+1);rw[e];exact(T_ n Z)) (Js<|n+1) b d f i j l p m o r
def gl:mq:=zM 4
def Ni:qC gl:=Js 4
def U_:tC gl 1:=T_ 3 A
def iD.n5{tl:List Ç}{s:St}(h:iD b T tl s v w)(k:e8 X w u)(a:¬X b):iD b T tl s v u:=ff.I h k a
section
variable{E:iW}{lv:Ç}{w1:É}{s B d:St}{ls f r:List (Nat×Int)}
def iu.fW(a:iD E.r E.T E.C s lv w)(b:w.ownsRow 0 257 2 lv ls.length (kt ls)):iu E lv ls.length w s ls w lv:= ⟨a,b,e8.fW _ _,λ_ q=>Ø q,λ_ _ _ c d=>⟨c,d⟩⟩
def iu.fe(h:iu E lv n w B f w1 v)(k:iu E v f.length w1 d r u jQ):iu E lv n w d r u jQ:=by
 refine⟨k.r,k.I,h.C.C k.C ?_,λj q=> ?_,λa b c g m=> ?_⟩
 .rintro i o (e|e)
  .exact Ø e
  .exact Ù<|(h.l i e).resolve_right Z
 .rcases k.l j q with e|e
  .exact h.l j e
  .exact Ù<|ë h.C.M e
 .let⟨e,i⟩:=h.M a b c g m;exact k.M a b c e i
def iu.fK(h:iu E lv n w s ls w1 v)(k:e8 (λ_=>False) w1 u):iu E lv n w s ls u v:= h.N k (λ_=>Ě) (λ_ _=>Ě) id
def iu.Y(ok:E.Ok)(h:iu E lv n w s ls w1 v)(i:Nat)(k:iD E.r E.T E.C d v (w1.setCell ⟨E.r,i,Ä⟩ x)):iu E lv n w d ls (w1.setCell ⟨E.r,i,Ä⟩ x) v:=by have e:=e8.I (X:=λk=>k=E.r) (p:=⟨E.r,i,Ä⟩) U x<|Ù<|ff.G h.r ok.C;have f:∀{a b c},w1.ownsRow 0 257 2 a b c->(w1.setCell ⟨E.r,i,Ä⟩ x).ownsRow 0 257 2 a b c:=λ{a b c} q=>ij q e λj o y=>jF q h.r ok.r.symm (by rw[o,y]);exact⟨k,f h.I,h.C.C e λi _ q=>Ø q,h.l,λa b c g m=>⟨f (h.M a b c g m).1,(h.M a b c g m).2⟩⟩
def iu.fu(ok:E.Ok)(h:iu E lv n w s ls w1 v)(a:i<8)(x:Int):iu E lv n w (s.fu i x) ls (w1.setCell ⟨E.r,i*18,Ä⟩<|Â Æ x) v:=h.Y ok _<|h.r.zF a x
def iu.M6(ok:E.Ok)(h:iu E lv n w s ls w1 v)(a:i<8)(x:ByteArray):iu E lv n w (s.C i x) ls (w1.setCell ⟨E.r,i*18+1,Ä⟩<|Í x) v:=h.Y ok _<|h.r.alD a x
end
def xV(s:St)(x y:Nat)(n:Int):Bool×St:=
 if(s x).fu<n+10 then(Ï,s)else(Ú,(s.fu x<|(s x).fu-(n+10)).fu y<|wu<|(s.fu x ((s x).fu-(n+10)) y).fu+n)
section
variable{E:iW}{lv:Ç}{s:St}{ls:List (Nat×Int)}
def amL(ok:E.Ok)(c:iD E.r E.T E.C s lv w)(g:w.ownsRow 0 257 2 lv ls.length (kt ls))(f:gJ s)(x y:Nat)(n:Int)(a:x<8)(d:y<8)(h:0<=n)(i:n<=1000000): Ò À 168 #[Å<|Ã ⟨E.r,0,Ä⟩,Â Ë x,Â Ë y,Â Æ n] w λe m=>e=È (Ñ (xV s x y n).1)/\iu E lv ls.length w (xV s x y n).2 ls m lv:=by
 have j:=c.fu a;have k:=ff.C c<|x*18;have l:=(f.fu x).1;have o:=(f.fu x).2;have p:∀m,((w.drewN m).setCell ⟨E.r,x*18,Ä⟩<|Â Æ<|(s x).fu-(n+10)).cell? ⟨E.r,y*18,Ä⟩=Ã (Â Æ (s.fu x ((s x).fu-(n+10)) y).fu):=λm=>((c.n5 (e8.iR (λ_=>False) w m) id).zF a _).fu d;have q:∀m,((w.drewN m).setCell ⟨E.r,x*18,Ä⟩<|Â Æ<|(s x).fu-(n+10)).frozen? ⟨E.r,y*18,Ä⟩=Ï:=λm=>ff.C ((c.n5 (e8.iR (λ_=>False) w m) id).zF a _) _;have r:=(c.zF a<|(s x).fu-(n+10)).fu d;have t:=ff.C (c.zF a<|(s x).fu-(n+10))<|y*18;have H:=fc<|iu.fW c g;unfold xV;by_cases e:(s x).fu<n+10
 .rw[if_pos e];generalize(s x).fu=b at*;go_enter av,ν;go_wp2_with fail;go_ret;exact⟨U,H.out⟩
 .rw[if_neg e];generalize(s.fu x ((s x).fu-(n+10)) y).fu=b2 at*;generalize(s x).fu=b at*;go_enter av,ν;go_wp2_with fail;go_region;go_wp2_with fail;go_region;go_wp2_with fail;go_ret;refine⟨U,?_⟩;first
   |exact((H.out.fu ok a _).fu ok d _).fK<|e8.iR _ _ _
   |exact(((H.out.fK<|e8.iR _ _ _).fu ok a _).fu ok d _)
   |exact(((H.out.fK<|e8.fU _ _).fu ok a _).fK<|e8.fU _ _).fu ok d _
   |exact((H.out.fu ok a _).fu ok d _).still<|(Keep.drew _ _).trans<|Keep.drew _ _
end
def amM(a:kq w)(p:Ą)(n:Nat):kq (w.freeze p n):=by
 unfold Đ;split
 .exact a
 .intro i o h;simp only[Û]at h;split at h
  .cases b:w.heap[i]? with
   |none=>rw[b]at h;cases h
   |some d=>
    have:=a _ _ b;rw[b]at h;cases d with
    |cells c t z=>simp only[ñ,è]at h;subst h;exact λx=>x
    |_=>exact absurd trivial this
  .exact a i o h
def U'(a:sk m w)(p:Ą)(n:Nat):sk m (w.freeze p n):=by
 unfold Đ;split
 .exact a
 .intro i c T f e h b;simp only[Û]at h;split at h
  .cases d:w.heap[i]? with
   |none=>rw[d]at h;cases h
   |some g=>
    rw[d]at h;cases g with
    |cells j t z=>
     simp only[ñ,è,Ĥ]at h;rw[<-h.1];rw[<-h.2.1]at b;exact a _ _ _ _ e d b
    |_=>cases h
  .exact a i c T f e h b
theorem amN{w w1:World}{g:Nat}{cur Y:Array Value}{e:TypeId}{z:Nat×Nat}(hw:e8 (λ_=>False) w w1)(hg:w1.heap[g]?=some (.cells cur e z))(avd:w.heap.size<=g)(he:ml e=false:=by decide):e8 (λ_=>False) w (w1.setRow g Y):=by
 refine⟨by simpa using hw.M,λk hk _=>(Ę w1 g k Y Z).trans<|hw.N k hk id,λal i o ho=> ?_,λm a i c T fr hm h hT=> ?_⟩;rotate_left
 .by_cases hi:i=g
  .subst hi;rw[Ğ w1 i cur Y e z hg]at h;grind
  .rw[Ę w1 g i Y hi]at h;exact hw.Y m a i c T fr hm h hT
 by_cases hi:i=g
 .subst hi;rw[Ğ w1 i cur Y e z hg]at ho;cases ho;exact λx=>x
 .rw[Ę w1 g i Y hi]at ho;exact hw.gV al i o ho
def amO(b:e8 (λ_=>False) w u)(e:w.heap.size<=p.block):e8 (λ_=>False) w (u.freeze p n):=by
 refine⟨?_,λk c _=> ?_,λd=>amM (b.gV d) p n,λm a=>U' (b.Y m a) p n⟩
 .unfold Đ;split
  .exact b.M
  .simpa using b.M
 .unfold Đ;split
  .exact b.N k c id
  .simp only[Û];rw[if_neg Z];exact b.N k c id
def Tn:(À.info? 5).map (λi=>(i.zero,i.size,i.bytes))=Ã (Ã<|Â aW 0,1,1):=fp
def amP(n:Nat)(e:n<=1000000):∃M:Array Ç,M.size=n/\∀W:É,(Instr.makeSlice 107 (Â Ë (n:Int))<|Â Ë (n:Int)).run À W=χ (Ê (Ã ⟨W.heap.size,0,Ä⟩) n n) (W.alloc<|Ð M 5):=by let⟨i,a,b,c,d⟩:=í Tn;refine⟨madeCells (Â aW 0).cells<|(n:Int).toNat*i.size,by rw[size_madeCells,c];simp,λW=> ?_⟩;simpa using run_make W 107 5 i (Â aW 0) ý a b Ë Ë n n Z Z (by rw[d];omega) Z
theorem amQ{M:Array Ç}(e:M.size=B.size)(b:W.heap[i]?=Ã (Ð M 5 (0,0))): (ξ #[107,9] 3 #[Ê (Ã ⟨i,0,Ä⟩) B.size B.size,Í B]).run À W=χ (goInt B.size) (W.setRow i (õ B.data.toList).toArray):=by let⟨a,c,_,d,_⟩:=í Tn;have h:=Lib.run_copy_row_string W 107 9 3 5 i 0 B.size B.size B M 5 ý (by rw[c];simp[d]) b (Þ _) Z;grind [List.drop_of_length_le]
def amR(d:B.size≠0)(m:B.size<=1000000)(c:W.heap[i]?=Ã (Ð (õ B.data.toList).toArray 5 (0,0))): (Ő #[177,3] 9 #[Å<|Ã ⟨i,0,Ä⟩,Â Ë (B.size:Int)]).run À W=χ (Í B) (W.freeze ⟨i,0,Ä⟩ B.size):=by
 let⟨a,f,_,k,_⟩:=í Tn;have b:=Lib.size_eq B;have l:(õ B.data.toList).toArray.size=B.size:=by rw[Ĉ,Ř,<-b]
 have h:=Ĺ W 177 3 9 5 Ū (by simp[Program.cellsOf,f,k]) i B.size (by unfold Ÿ;rw[c];simp only[l]) B.data.toList (by intro e;rw[e]at b;exact d b) Z Z (λj x e=>Lib.cells_of_row c _ j _<|by rw[List.take_of_length_le<|Þ _];simp[õ,e]);rwa[<-b]at h
def amS(s:ByteArray)(a:s.size<=1000000)(w:É):Ò À 196 #[Í s] w λe c=>e=È (Í s)/\e8 (λ_=>False) w c:=by
 by_cases b:s.size=0
 .have d:=bu<|Array.eq_empty_of_size_eq_zero b;subst d;go_enter ax,ο;go_wp2;go_ret;exact⟨U,e8.fW _ _⟩
 .let⟨M,d,mk⟩:=amP s.size a;have g:=amQ d<|ì w<|Ð M 5;have h:=amR b a<|Ğ (w.alloc<|Ð M 5) w.heap.size M (õ s.data.toList).toArray 5 (0,0)<|ì w _;have f:=fc (amO (p:=⟨w.heap.size,0,Ä⟩) (n:=s.size) (amN (Y:=(õ s.data.toList).toArray) (e8.gG (λ_=>False) w M 5) (ì w _)<|Þ _)<|Þ _);generalize(õ s.data.toList).toArray=Y at*;go_enter ax,ο;go_wp2;go_ret;exact⟨U,f.out⟩
def amT(s:ByteArray)(a:s.size<=1000000)(w:É):Ò À 186 #[Í s] w λe b=>e=È (Í s)/\e8 (λ_=>False) w b:=by go_enter Tryz.func186,Tryz.ntmps186;go_wp2_with (go_at_call 196;refine(amS s a _).mono ?_;rintro e d ⟨rfl,c⟩);go_ret;exact⟨U,c⟩
def xW(s:St)(x:Nat)(p:ByteArray):Bool×St:=
 if(s x).fu<20 then(Ï,s)else(Ú,(s.fu x<|(s x).fu-20).C x p)
def zN{t u:Tmp}{cs:List Ç}{d:TypeDesc}(h:s.results=#[.cell t T,.tmp u])(a:q.getD t Ă=Å (Ã ⟨b,0,Ä⟩))(c:w.rangeAt b 0 cs)(e:P.underlying T=Ã d)(f:d.isRow=Ú)(g:(P.info? T).map (·.size)=Ã cs.length): (ar s q).run P w=χ (æ #[Ē cs.toArray,q.getD u Ă]) w:=by have i:=Ν w b 0 T cs d c e f g;rw[ī]at a;simp only[ar,h];simp[a,asAddr,i]
def Jt:(À.underlying 246).map İ=Ã Ú:=fp
def Dp:(À.info? 246).map (·.size)=Ã 2:=fp
section
variable{E:iW}{lv:Ç}{s:St}{ls:List (Nat×Int)}
def amU(ok:E.Ok)(a:iD E.r E.T E.C s lv w)(h:w.ownsRow 0 257 2 lv ls.length (kt ls))(f:gJ s)(x:Nat)(p:ByteArray)(c:x<8)(i:p.size<=1000000): Ò À 169 #[Å<|Ã ⟨E.r,0,Ä⟩,Â Ë x,Í p] w λe d=>e=È (Ñ (xW s x p).1)/\iu E lv ls.length w (xW s x p).2 ls d lv:=by
 have k:=ff.M a;have l:=a.fu c;have m:=ff.C a<|x*18;have n:=(f.fu x).1;have o:=(f.fu x).2;have q:(0:Int)<=(x:Int):=Z
 have r:(x:Int)<8:=Z
 have H:=fc<|iu.fW a h;unfold xW;by_cases g:(s x).fu<20
 .rw[if_pos g];generalize(s x).fu=b at*;go_enter ay,π;go_wp2_with fail;go_ret;exact⟨U,H.out⟩
 .rw[if_neg g];generalize(s x).fu=b at*;go_enter ay,π;go_wp2_with fail;go_region;go_wp2_with fail;go_region_held3 (λ_=>True) (trivial) (first
    |(go_at_call 186;refine(amT p i _).mono ?_;rintro e t ⟨rfl,j⟩;dsimp only;have d:=((H.out.fu ok c (b-20)).fK (e8.iR (λ_=>False) _ 2)).fK j;have u:=d.r.M6 c;have v:=ff.C d.r (x*18+1)))
  go_wp2_with fail
  go_ret;exact⟨U,d.M6 ok c p⟩
def zO(s:St)(ls:List (Nat×Int))(x y:Nat)(n k:Int):(Int×Bool)×Bool×St×List (Nat×Int):=
 if n<10\/400<n\/(s x).fu<n then((0,Ï),Ï,s,ls)
 else(((gl (s.fu x<|(s x).fu-n) ls x y (n-10) k).r+10,(gl (s.fu x<|(s x).fu-n) ls x y (n-10) k).C),Ú,
  (gl (s.fu x ((s x).fu-n)) ls x y (n-10) k).s.fu x (wu (((gl (s.fu x ((s x).fu-n)) ls x y (n-10) k).s x).fu+(n-((gl (s.fu x ((s x).fu-n)) ls x y (n-10) k).r+10)))),(gl (s.fu x ((s x).fu-n)) ls x y (n-10) k).I)
def amV(a:iD E.r E.T E.C s lv w)(c:w.ownsRow 0 257 2 lv ls.length (kt ls))(x y:Nat)(n k:Int)(d:x<8)(j:0<=n)(l:n<10\/400<n\/(s x).fu<n): Ò À 170 #[Å<|Ã ⟨E.r,0,Ä⟩,Â Ë x,Â Ë y,Â Æ n,Â Æ k] w λe H=>e=È (æ #[Ē #[Â Æ 0,Ñ Ï],Ñ Ï])/\iu E lv ls.length w s ls H lv:=by
 have m:=ff.M a;have o:=a.fu d;have p:(0:Int)<=(x:Int):=Z
 have q:(x:Int)<8:=Z
 let⟨r,f,g⟩:=Ì.1 Jt;have H:=fc<|Á (iu.fW a c)<|Á f g;generalize(s x).fu=b at*;by_cases h:n<10
 .go_enter Ņ,ĺ;go_wp2_with fail;have e:=e8.gG (λ_=>False) w #[Â Æ 0,Ñ Ï] 246;apply ð (zN U U (ff.Y (vs:=[Â Æ 0,Ñ Ï])<|ff.N w [Â Æ 0,Ñ Ï] 246) H.out.2.1 H.out.2.2 Dp) U;exact⟨U,H.out.1.fK e⟩
 .have t:=decide_eq_false h;by_cases i:400<n
  .go_enter Ņ,ĺ;go_wp2_with fail;have e:=e8.gG (λ_=>False) w #[Â Æ 0,Ñ Ï] 246;apply ð (zN U U (ff.Y (vs:=[Â Æ 0,Ñ Ï])<|ff.N w [Â Æ 0,Ñ Ï] 246) H.out.2.1 H.out.2.2 Dp) U;exact⟨U,H.out.1.fK e⟩
  .have u:=decide_eq_false i;have v:b<n:=Z
   go_enter Ņ,ĺ;go_wp2_with fail;have e:=e8.gG (λ_=>False) w #[Â Æ 0,Ñ Ï] 246;apply ð (zN U U (ff.Y (vs:=[Â Æ 0,Ñ Ï])<|ff.N w [Â Æ 0,Ñ Ï] 246) H.out.2.1 H.out.2.2 Dp) U;exact⟨U,H.out.1.fK e⟩
def amW(ok:E.Ok)(a:iD E.r E.T E.C s lv w)(l:w.ownsRow 0 257 2 lv ls.length (kt ls))(m:iL w)(g:gJ s)(x y:Nat)(n k:Int)(c:x<8)(B:y<8)(D:gh k)(I1:10<=n)(vR:n<=400)(ave:n<=(s x).fu)(hlen:(ls.length:Int)+n<=1000000)(r:zI)(o:r=gl (s.fu x<|(s x).fu-n) ls x y (n-10) k): Ò À 170 #[Å<|Ã ⟨E.r,0,Ä⟩,Â Ë x,Â Ë y,Â Æ n,Â Æ k] w λe t=>e=È (æ #[Ē #[Â Æ<|r.r+10,Ñ r.C],Ñ Ú])/\∃u,iu E lv ls.length w (r.s.fu x<|wu<|(r.s x).fu+(n-(r.r+10))) r.I t u:=by
 have gK:=ff.M a;have d1:=a.fu c;have f1:=ff.C a<|x*18;have Ya:(0:Int)<=(x:Int):=Z
 have AW:(x:Int)<8:=Z
 have b0:=(g.fu x).1;have b1:=(g.fu x).2;have v:gJ (s.fu x<|(s x).fu-n):=g.r x ⟨Z,Z⟩;have h:=Ni _ ls x y (n-10) k v c B D Z Z Z;have F:=iu.fW a l;have C:∀W j,iu E lv ls.length w (s.fu x<|(s x).fu-n) ls W j->iL W->Ò À 173 #[Å<|Ã ⟨E.r,0,Ä⟩,Â Ë x,Â Ë y,Â Æ<|n-10,Â Æ k,Â Ë 1] W λe t=>e=È (Ē #[Â Æ r.r,Ñ r.C,Â Æ r.M])/\∃u,iu E j ls.length W r.s r.I t u:=λW j G P=>by rw[o];exact U_ E ok _ j ls x y (n-10) k W G.r G.I P v c B Z Z D Z
 rw[<-o]at h;have u0:=h.C;have u1:=h.r;let⟨d2,I,J⟩:=Ì.1 Jt;have K:∀i,iL (w.setCell ⟨E.r,i,Ä⟩<|Â Æ<|(s x).fu-n):=λi=>m.r (e8.I (X:=λk=>k=E.r) U _) λq=>m.C a ok.N q.symm;have H:=fc<|Á F<|Á C<|Á K<|Á I<|Á J l;clear a l m g v h F C K I J o;generalize(s x).fu=b at*;have e1:decide (n<10)=Ï:=decide_eq_false Z;have e2:decide (400<n)=Ï:=decide_eq_false Z;have e3:decide (b<n)=Ï:=decide_eq_false Z;generalize Q:(r.s x).fu=b2;go_enter Ņ,ĺ;go_wp2_with fail;have L:=(H.out.1.fu ok c<|b-n).fK (e8.gG (λ_=>False) _ #[Â Æ 0,Ñ Ï] 246);go_at_call 173;refine(H.out.2.1 _ _ L<|(H.out.2.2.1 _).r (e8.gG (λ_=>False) _ _ _) id).mono ?_;rintro e S ⟨rfl,V,f⟩;have d:ff w.heap.size [Â Æ 0,Ñ Ï] 246 S:=by
  have z:ff w.heap.size [Â Æ 0,Ñ Ï] 246 ((w.setCell ⟨E.r,x*18,Ä⟩<|Â Æ<|b-n).alloc<|Ð #[Â Æ 0,Ñ Ï] 246):=by have:=ff.N (w.setCell ⟨E.r,x*18,Ä⟩<|Â Æ<|b-n) [Â Æ 0,Ñ Ï] 246;simpa using this
  refine z.I f.C ?_;rintro(q|q)
  .omega
  .have:=(H.out.2.2.2.2.2.lt _ q).2;omega
 have Y:=f.r.fu c;have z1:=ff.C f.r<|x*18;have FQ:=ff.M f.r;have To:=d.M;have c0:=d.r 0 _ U;have c1:=d.r 1 _ U;have y0:=d.C 0;have y1:=d.C 1;have M:=fc<|Á (L.fe f) d;rw[Q]at Y;go_wp2_with fail;go_region;go_wp2_with fail;have q1:=M.out.1.fu ok c<|wu<|b2+(n-(r.r+10));have N:=M.out.2.I (e8.I (X:=λk=>k=E.r) (p:=⟨E.r,x*18,Ä⟩) U<|Â Æ<|wu<|b2+(n-(r.r+10))) Z;have q2:=q1.N ((e8.I (X:=λk=>k=w.heap.size) (p:=⟨w.heap.size,0,Ä⟩) U<|Â Æ<|r.r+10).fe<|e8.I (X:=λk=>k=w.heap.size) (p:=⟨w.heap.size,1,Ä⟩) U<|Ñ r.C) (λi q=>by omega) (λi cur q O=>by have z:=N;rw[q,z]at O;cases O) Z;have z:∀W:É,∀O,e8 (λ_=>False) W ((W.alloc<|Ð O 252).drew):=λW O=>(e8.gG _ _ _ _).fe<|e8.fU _ _;have hb:=(((N.fQ 0<|Â Æ<|r.r+10).fQ 1<|Ñ r.C)).I (z _ #[Â Æ<|r.r+10,Ñ r.C,Â Æ r.M]) id;apply ð (zN U U (ff.Y (vs:=[Â Æ<|r.r+10,Ñ r.C]) hb) H.out.2.2.2.1 H.out.2.2.2.2.1 Dp) U;exact⟨U,V,q2.fK<|z _ _⟩
end
structure Tx where
 x:Nat
 y:Nat
 n:Int
 k:Int
 r:Int
 C:ByteArray
structure ma(a:Nat)(t:Tx)(w:É):Prop where
 b:∃cs fz,w.heap[a]?=Ã (Ð cs 200 fz)
 r:w.cell? ⟨a,0,Ä⟩=Ã (Â Ë t.x)
 C:w.cell? ⟨a,1,Ä⟩=Ã (Â Ë t.y)
 I:w.cell? ⟨a,2,Ä⟩=Ã (Â Ë t.n)
 M:w.cell? ⟨a,3,Ä⟩=Ã (Â Ë t.k)
 Y:w.cell? ⟨a,4,Ä⟩=Ã (Â Ë t.r)
 N:w.cell? ⟨a,5,Ä⟩=Ã (Í t.C)
structure Tx.Ok(t:Tx):Prop where
 x:t.x<8
 y:t.y<8
 I:0<=t.n
 M:t.n<1000000
 r:0<=t.k
 C:t.k<1000000
 N:t.C.size<=40/\∀c∈t.C.data.toList,xP c=Ú
def ma.G{t:Tx}(h:ma i t w):i<w.heap.size:=á w _ h.r
def ma.S{t:Tx}(h:ma i t w)(k:e8 X w u)(b:¬X i):ma i t u:=by let⟨c,d,e⟩:=h.b;exact⟨⟨c,d,by rwa[k.N i h.G b]⟩,k.r h.r b,k.r h.C b,k.r h.I b,k.r h.M b,k.r h.Y b,k.r h.N b⟩
def ma.iU{t:Tx}(h:ma i t w)(c:w.heap[j]?=Ã (Ð d T xJ))(e:T≠200):i≠j:=by rintro rfl;let⟨f,g,b⟩:=h.b;rw[c]at b;cases b;exact e U
def ma.xR{E:iW}{t:Tx}{s c:St}{ls b:List (Nat×Int)}(d:E.T≠200)(h:ma i t w)(e:iD E.r E.T E.C c v w)(f:w.ownsRow 0 257 2 v b.length (kt b))(r:iu E v n w s ls u x):ma i t u:=by
 refine h.S r.C ?_;rintro(q|q)
 .exact h.iU e d q
 .let⟨j,g⟩:=lY f q;exact h.iU g A U
def my(s:St)(ls:List (Nat×Int))(t:Tx):(Int×Bool)×Bool×St×List (Nat×Int):=
 if t.r=1 then((10,Ú),(xV s t.x t.y t.n).1,(xV s t.x t.y t.n).2,ls)
 else if t.r=2 then((20,Ú),(xW s t.x t.C).1,(xW s t.x t.C).2,ls)
 else zO s ls t.x t.y t.n t.k
def FR(a:0<=h)(b:h<1000000):Æ.wrap h=h:=by show wu h=h;exact alF a Z
def Ju(E:iW)(a:Ç)(n:Nat)(w:É)(o:(Int×Bool)×Bool×St×List (Nat×Int))(e:az)(b:É):Prop:=
 e=È (æ #[Ē #[Â Æ o.1.1,Ñ o.1.2],Ñ o.2.1])/\∃c,iu E a n w o.2.2.1 o.2.2.2 b c
def amX{E:iW}{s:St}{ls:List (Nat×Int)}(ok:E.Ok)(b:iD E.r E.T E.C s v w)(c:w.ownsRow 0 257 2 v ls.length (kt ls))(f:iL w)(g:gJ s)(x y:Nat)(n k:Int)(d:x<8)(i:y<8)(j:gh k)(l:0<=n)(m:(ls.length:Int)+400<=1000000): Ò À 170 #[Å<|Ã ⟨E.r,0,Ä⟩,Â Ë x,Â Ë y,Â Æ n,Â Æ k] w (Ju E v ls.length w<|zO s ls x y n k):=by
 unfold zO;by_cases a:n<10\/400<n\/(s x).fu<n
 .rw[if_pos a];exact(amV b c x y n k d l a).mono λe o h=>⟨h.1,v,h.2⟩
 .rw[if_neg a];exact amW ok b c f g x y n k d i j Z Z Z Z _ U
def iu.S{E:iW}{s:St}{ls:List (Nat×Int)}(k:e8 (λ_=>False) w W)(r:iu E v n W s ls u x):iu E v n w s ls u x:= ⟨r.r,r.I,(k.S λ_ _=>Ě).C r.C λ_ _ q=>q,λj q=>(r.l j q).imp id λe=>ë k.M e,λa b c d f=>r.M a b c (ij d k λ_ _=>id) f⟩
section
variable{E:iW}{lv:Ç}{s:St}{ls:List (Nat×Int)}{a:Nat}{t:Tx}
def Tp{zy:Value}{w1:World}{n:Nat}{s1:St}{V_:List (Nat×Int)}(r:iu E lv n w s1 V_ w1 zy)(hB:ff w.heap.size [.int .u64 0,.bool false] 246 w1)(hlb:E.r<w.heap.size)(v0 v1:Value)(hf0:kr v0=true:=by rfl)(hf1:kr v1=true:=by rfl): iu E lv n w s1 V_ ((w1.setCell ⟨w.heap.size,0,none⟩ v0).setCell ⟨w.heap.size,1,none⟩ v1) zy/\ff w.heap.size [v0,v1] 246 ((w1.setCell ⟨w.heap.size,0,none⟩ v0).setCell ⟨w.heap.size,1,none⟩ v1):=by refine⟨r.N (Y:=λk=>k=w.heap.size) ((e8.I (X:=λk=>k=w.heap.size) (p:=⟨w.heap.size,0,Ä⟩) U v0<|Ø hf0).fe<|e8.I (X:=λk=>k=w.heap.size) (p:=⟨w.heap.size,1,Ä⟩) U v1<|Ø hf1) (λi q=>by omega) (λi cur q hc=> ?_) Z,(hB.fQ 0 v0).fQ 1 v1⟩;rw[q,hB]at hc;cases hc
def Tq{W:É}{a:St}{b:List (Nat×Int)}{cs:List Ç}(c:jX=(w.alloc<|Ð cs.toArray T).drewN 1\/jX=w.alloc (Ð cs.toArray T))(d:w.ownsRow 0 257 2 lv ls.length (kt ls))(f:E.r<w.heap.size)(r:iu E lv n jX a b u v):ff w.heap.size cs T u:=by
 have e:ff w.heap.size cs T jX:=by
  rcases c with rfl|rfl
  .exact ff.N w cs T
  .exact ff.N w cs T
 refine e.I r.C ?_;rintro(q|q)
 .omega
 .have:=(d.lt _ q).2;omega
def amY(ok:E.Ok)(S:E.T≠200)(m:iD E.r E.T E.C s lv w)(o:w.ownsRow 0 257 2 lv ls.length (kt ls))(B:iL w)(D:gJ s)(d:ma a t w)(f:t.Ok)(hlen:(ls.length:Int)+400<=1000000)(F:t.r=1): Ò À 154 #[Å<|Ã ⟨E.r,0,Ä⟩,Å<|Ã ⟨a,0,Ä⟩] w (Ju E lv ls.length w<|my s ls t):=by
 have G:=ff.M m;have W_:=d.G;have V:=d.r;have Y:=d.C;have c2:=d.I;have c3:=d.M;have c4:=d.Y;have c5:=d.N;have hn:=FR f.I f.M;have hk:=FR f.r f.C;let⟨d2,I,J⟩:=Ì.1 Jt;have L:=fc<|Á I J;clear I J;have h:=(e8.gG (λ_=>False) w #[Â Æ 0,Ñ Ï] 246).fe<|e8.fU _ _;have u:=m.n5 h id;have v:=ij o h λ_ _=>id;have c:=d.S h id;have RA:=B.r h id;rw[F]at c4;have M:my s ls t=((10,Ú),(xV s t.x t.y t.n).1,(xV s t.x t.y t.n).2,ls):=by unfold my;rw[if_pos F]
 rw[M];have C:=amL (ls:=ls) ok u v D t.x t.y t.n f.x f.y f.I (by have:=f.M;omega);have N:∀(l:É) (O:St) (P:List (Nat×Int)) (Q:Ç),iu E lv ls.length _ O P l Q->ma a t l:=λl O P Q r=>ma.xR S c u v r;have H:=fc<|Á C<|Á o N;clear C N m o B D d f u v RA M;go_enter Ź,ť;go_wp2_with fail;have b:=fc<|Á c.r<|Á c.C<|Á c.I<|Á c.M c.N;clear V Y c2 c3 c5 c;refine mr (λe=>e.cell? ⟨a,0,Ä⟩=Ã (Â Ë t.x)/\e.cell? ⟨a,1,Ä⟩=Ã (Â Ë t.y)/\e.cell? ⟨a,2,Ä⟩=Ã (Â Ë t.n)/\e.cell? ⟨a,3,Ä⟩=Ã (Â Ë t.k)/\e.cell? ⟨a,5,Ä⟩=Ã (Í t.C)) [22] fp ?_;apply tk 0 b.out;apply tk 1 b.out;apply tk 2 b.out;apply tk 3 b.out;apply tk 4 b.out;apply tk 5 b.out;apply tk 6 b.out;apply tk 7 b.out;apply tk 8 b.out;apply tk 9 b.out;apply tk 10 b.out;apply tk 11 b.out;apply tk 12 b.out;apply tk 13 b.out;apply tk 14 b.out;apply tk 15 b.out;apply tk 16 b.out;apply tk 17 b.out;apply tk 18 b.out;apply tk 19 b.out;apply gC 20;intro K g;go_simp;go_at_call 168;apply H.out.1.mono;rintro e l ⟨rfl,z⟩;dsimp only;have c:=H.out.2.2 _ _ _ _ z;apply g.out _ _ λ_=>⟨c.r,c.C,c.I,c.M,c.N⟩;clear g K;have i:=Tq (W:=w) (cs:=[Â Æ 0,Ñ Ï]) (Ø U) H.out.2.1 G z;have e0:=i.r 0 _ U;have e1:=i.r 1 _ U;have y0:=i.C 0;have y1:=i.C 1;have j:=c.S ((e8.I (X:=λk=>k=w.heap.size) (p:=⟨w.heap.size,0,Ä⟩) U<|Â Æ 10).fe<|e8.I (X:=λk=>k=w.heap.size) (p:=⟨w.heap.size,1,Ä⟩) U<|Ñ Ú) Z;apply gC 21;intro K g;go_simp;apply g.out _ _ λ_=>⟨j.r,j.C,j.I,j.M,j.N⟩;clear g K;apply gC 22;intro K g;go_simp;apply g.out _ _ λq=>absurd fi q;clear g K;try simp only[ĵ,Õ,ã,ä]
 refine lZ fp ?_ _;go_wp2_with fail;let⟨q,q2⟩:=Tp (iu.S h z) i G (Â Æ 10)<|Ñ Ú;apply ð (zN U U (ff.Y (tl:=[]) (vs:=[Â Æ 10,Ñ Ú]) q2) L.out.1 L.out.2 Dp) U;exact⟨U,lv,q⟩
def amZ(ok:E.Ok)(S:E.T≠200)(m:iD E.r E.T E.C s lv w)(o:w.ownsRow 0 257 2 lv ls.length (kt ls))(B:iL w)(D:gJ s)(d:ma a t w)(g:t.Ok)(hlen:(ls.length:Int)+400<=1000000)(F:t.r=2): Ò À 154 #[Å<|Ã ⟨E.r,0,Ä⟩,Å<|Ã ⟨a,0,Ä⟩] w (Ju E lv ls.length w<|my s ls t):=by
 have G:=ff.M m;have W_:=d.G;have V:=d.r;have Y:=d.C;have c2:=d.I;have c3:=d.M;have c4:=d.Y;have c5:=d.N;have hn:=FR g.I g.M;have hk:=FR g.r g.C;let⟨d2,I,J⟩:=Ì.1 Jt;have L:=fc<|Á I J;clear I J;have h:=(e8.gG (λ_=>False) w #[Â Æ 0,Ñ Ï] 246).fe<|e8.fU _ _;have u:=m.n5 h id;have v:=ij o h λ_ _=>id;have b:=d.S h id;have RA:=B.r h id;rw[F]at c4;have M:my s ls t=((20,Ú),(xW s t.x t.C).1,(xW s t.x t.C).2,ls):=by unfold my;rw[if_neg Z,if_pos F]
 rw[M];have C:=amU (ls:=ls) ok u v D t.x t.C g.x (by have:=g.N.1;omega);have N:∀(l:É) (O:St) (P:List (Nat×Int)) (Q:Ç),iu E lv ls.length _ O P l Q->ma a t l:=λl O P Q r=>ma.xR S b u v r;have H:=fc<|Á C<|Á o N;clear C N m o B D d g u v RA M;go_enter Ź,ť;go_wp2_with fail;have c:=fc<|Á b.r<|Á b.C<|Á b.I<|Á b.M b.N;clear V Y c2 c3 c5 b;refine mr (λe=>e.cell? ⟨a,0,Ä⟩=Ã (Â Ë t.x)/\e.cell? ⟨a,1,Ä⟩=Ã (Â Ë t.y)/\e.cell? ⟨a,2,Ä⟩=Ã (Â Ë t.n)/\e.cell? ⟨a,3,Ä⟩=Ã (Â Ë t.k)/\e.cell? ⟨a,5,Ä⟩=Ã (Í t.C)) [15] fp ?_;apply tk 0 c.out;apply tk 1 c.out;apply tk 2 c.out;apply tk 3 c.out;apply tk 4 c.out;apply tk 5 c.out;apply tk 6 c.out;apply tk 7 c.out;apply tk 8 c.out;apply tk 9 c.out;apply tk 10 c.out;apply tk 11 c.out;apply tk 12 c.out;apply gC 13;intro K f;go_simp;go_at_call 169;apply H.out.1.mono;rintro e l ⟨rfl,z⟩;dsimp only;have b:=H.out.2.2 _ _ _ _ z;apply f.out _ _ λ_=>⟨b.r,b.C,b.I,b.M,b.N⟩;clear f K;have i:=Tq (W:=w) (cs:=[Â Æ 0,Ñ Ï]) (Ø U) H.out.2.1 G z;have e0:=i.r 0 _ U;have e1:=i.r 1 _ U;have y0:=i.C 0;have y1:=i.C 1;have j:=b.S ((e8.I (X:=λk=>k=w.heap.size) (p:=⟨w.heap.size,0,Ä⟩) U<|Â Æ 20).fe<|e8.I (X:=λk=>k=w.heap.size) (p:=⟨w.heap.size,1,Ä⟩) U<|Ñ Ú) Z;apply gC 14;intro K f;go_simp;apply f.out _ _ λ_=>⟨j.r,j.C,j.I,j.M,j.N⟩;clear f K;apply gC 15;intro K f;go_simp;apply f.out _ _ λq=>absurd fi q;clear f K;try simp only[ĵ,Õ,ã,ä]
 refine lZ fp ?_ _;go_wp2_with fail;let⟨q,q2⟩:=Tp (iu.S h z) i G (Â Æ 20)<|Ñ Ú;apply ð (zN U U (ff.Y (tl:=[]) (vs:=[Â Æ 20,Ñ Ú]) q2) L.out.1 L.out.2 Dp) U;exact⟨U,lv,q⟩
def am0(ok:E.Ok)(X:E.T≠200)(m:iD E.r E.T E.C s lv w)(p:w.ownsRow 0 257 2 lv ls.length (kt ls))(B:iL w)(D:gJ s)(f:ma a t w)(d:t.Ok)(Y:(ls.length:Int)+400<=1000000)(F:t.r≠1)(G:t.r≠2): Ò À 154 #[Å<|Ã ⟨E.r,0,Ä⟩,Å<|Ã ⟨a,0,Ä⟩] w (Ju E lv ls.length w<|my s ls t):=by
 have I:=ff.M m;have W_:=f.G;have c0:=f.r;have c1:=f.C;have c2:=f.I;have c3:=f.M;have c4:=f.Y;have c5:=f.N;have hn:=FR d.I d.M;have hk:=FR d.r d.C;let⟨d2,J,L⟩:=Ì.1 Jt;have M:=fc<|Á J L;clear J L;have h:=(e8.gG (λ_=>False) w #[Â Æ 0,Ñ Ï] 246).fe<|e8.fU _ _;have u:=m.n5 h id;have v:=ij p h λ_ _=>id;have c:=f.S h id;have N:=B.r h id;have z1:(t.r==1)=Ï:=by rwa[beq_eq_false_iff_ne]
 have z2:(t.r==2)=Ï:=by rwa[beq_eq_false_iff_ne]
 have O:my s ls t=zO s ls t.x t.y t.n t.k:=by unfold my;rw[if_neg F,if_neg G]
 rw[O];have C:=amX (ls:=ls) ok u v N D t.x t.y t.n t.k d.x d.y ⟨d.r,by have:=d.C;omega⟩ d.I Y;have P:∀(j:É) (Q:St) (S:List (Nat×Int)) (l:Ç),iu E lv ls.length _ Q S j l->ma a t j:=λj Q S l r=>ma.xR X c u v r;have H:=fc<|Á C<|Á p P;clear C P m p B D f d u v N O;generalize zO s ls t.x t.y t.n t.k=o at*;go_enter Ź,ť;go_wp2_with fail;have b:=fc<|Á c.r<|Á c.C<|Á c.I<|Á c.M c.N;clear c0 c1 c2 c3 c5 c;refine mr (λe=>e.cell? ⟨a,0,Ä⟩=Ã (Â Ë t.x)/\e.cell? ⟨a,1,Ä⟩=Ã (Â Ë t.y)/\e.cell? ⟨a,2,Ä⟩=Ã (Â Ë t.n)/\e.cell? ⟨a,3,Ä⟩=Ã (Â Ë t.k)/\e.cell? ⟨a,5,Ä⟩=Ã (Í t.C)) [26,27] fp ?_;apply tk 0 b.out;apply tk 1 b.out;apply tk 2 b.out;apply tk 3 b.out;apply tk 4 b.out;apply tk 5 b.out;apply tk 6 b.out;apply tk 7 b.out;apply tk 8 b.out;apply tk 9 b.out;apply tk 10 b.out;apply tk 11 b.out;apply tk 12 b.out;apply tk 13 b.out;apply tk 14 b.out;apply tk 15 b.out;apply tk 16 b.out;apply tk 17 b.out;apply tk 18 b.out;apply tk 19 b.out;apply tk 20 b.out;apply tk 21 b.out;apply tk 22 b.out;apply gC 23;intro K g;go_simp;go_at_call 170;apply H.out.1.mono;rintro e j ⟨rfl,l,z⟩;dsimp only;have c:=H.out.2.2 _ _ _ _ z;apply g.out _ _ λ_=>⟨c.r,c.C,c.I,c.M,c.N⟩;clear g K;have i:=Tq (W:=w) (cs:=[Â Æ 0,Ñ Ï]) (Ø U) H.out.2.1 I z;have e0:=i.r 0 _ U;have e1:=i.r 1 _ U;have y0:=i.C 0;have y1:=i.C 1;have V:=Á c.r<|Á c.C<|Á c.I<|Á c.M c.N;have b:=fc V;clear V c;apply tk 24 b.out;apply tk 25 b.out;apply gC 26;intro K g;go_simp;apply g.out _ _ λq=>absurd fi q;clear g K;apply gC 27;intro K g;go_simp;apply g.out _ _ λq=>absurd fi q;clear g K;try simp only[ĵ,Õ,ã,ä]
 refine lZ fp ?_ _;go_wp2_with fail;let⟨q,q2⟩:=Tp (iu.S h z) i I (Â Æ o.1.1)<|Ñ o.1.2;apply ð (zN U U (ff.Y (tl:=[]) (vs:=[Â Æ o.1.1,Ñ o.1.2]) q2) M.out.1 M.out.2 Dp) U;exact⟨U,l,q⟩
def X_(ok:E.Ok)(b:E.T≠200)(c:iD E.r E.T E.C s lv w)(d:w.ownsRow 0 257 2 lv ls.length (kt ls))(e:iL w)(f:gJ s)(g:ma a t w)(h:t.Ok)(i:(ls.length:Int)+400<=1000000): Ò À 154 #[Å<|Ã ⟨E.r,0,Ä⟩,Å<|Ã ⟨a,0,Ä⟩] w (Ju E lv ls.length w<|my s ls t):=by
 by_cases j:t.r=1
 .exact amY ok b c d e f g h i j
 .by_cases k:t.r=2
  .exact amZ ok b c d e f g h i k
  .exact am0 ok b c d e f g h i j k
end
def X':∀(d a b c:List Ç) (k:Nat),b.length=d.length->(d.zipIdx k).foldl (λ(q:Array Ç) (p:Value×Nat)=>q.setIfInBounds (a.length-k+p.2) p.1) (a++b++c).toArray=(a++d++c).toArray\/a.length<k
 |[],a,b,c,k,h=>by have:b=[]:=ß (by simpa using h);subst this;exact Ø U
 |v::r,a,b,c,k,h=>by
  rcases ů a.length k with q|q
  .exact Ù q
  .match b,h with
   |x::b,h=>
    apply Ø;have p:=(X' r (a++[v]) b c (k+1)<|by simpa using h).resolve_right (by simp;omega);simp only[List.zipIdx_cons,List.foldl_cons];rw[show a.length-k+k=a.length by omega,Õ,show(a++x::b++c).set a.length v=a++[v]++b++c by simp];rw[show(a++[v]).length-(k+1)=a.length-k by simp]at p;rw[p];simp
theorem Nj{place:Nat->Option (Nat×Nat)}{pre old suf:List Ç}{rest:List (Nat×Value)}(a:place i=Ã (pre.length,n))(b:v.cells.size=n)(c:old.length=n): ı place (pre++old++suf).toArray ((i,v)::rest)=ı place (pre++v.cells.toList++suf).toArray rest:=by rw[Instr.fill.eq_2];simp only[a];rw[if_neg (by simp only[Ĉ,Ó,Bool.or_eq_true,decide_eq_true_eq,not_or];omega)];have:=(X' v.cells.toList pre old suf 0<|by rw[c,š,b]).resolve_right Z;simp only[Nat.sub_zero]at this;grind [Array.toList_zipIdx]
def am1:((À.info? 144).bind (·.zero)).map (λz=>z.cells.toList.drop 144)=Ã [Ê Ä 0 0]:=fp
def am2:((À.info? 144).bind (·.zero)).map (λz=>z.cells.size)=Ã 145:=fp
def Y_:((À.info? 147).bind (·.zero)).map (λz=>z.cells.toList.drop 145)=Ã [Â Ë 0,Ê Ä 0 0]:=fp
def Z_:((À.info? 147).bind (·.zero)).map (λz=>z.cells.size)=Ã 147:=fp
def Nk(P:aH)(t:ô):Option (List<|Nat×Nat):=match P.underlying t with
 |some (.struct fs)=>fs.toList.mapM λf=>(P.info? f.type).map λi=>(f.offset,i.size)
 |_=>Ä
def am3:Nk À 144=Ã [(0,144),(144,1)]:=fp
def Z':Nk À 147=Ã [(0,145),(145,1),(146,1)]:=fp
def Ts{c:List (Nat×Nat)}(a:Nk P t=Ã c)(b:(P.info? t).bind (·.zero)=Ã z)(e:List (Nat×Value)):P.built t e=ı (c.toArray[·]?) z.cells e:=by
 unfold Nk at a;unfold Program.built;cases f:P.info? t with
 |none=>rw[f]at b;cases b
 |some h=>
  rw[f]at b;have b:h.zero=Ã z:=b;cases g:P.underlying t with
  |none=>rw[g]at a;cases a
  |some d=>
   rw[g]at a;cases d<;>first|(cases a;done)|skip
   simp only at a;simp only[b,a]
theorem Tt{suf:List Ç}(h:((P.info? t).bind (·.zero)).map (λz=>z.cells.toList.drop n)=Ã suf)(a:((P.info? t).bind (·.zero)).map (λz=>z.cells.size)=Ã m)(c:n<=m):∃z old,(P.info? t).bind (·.zero)=Ã z/\old.length=n/\z.cells=(old++suf).toArray:=by
 let⟨z,b,d⟩:=Ì.1 h;rw[b]at a;have a:z.cells.size=m:=by injection a
 refine⟨z,z.cells.toList.take n,b,by rw[List.length_take,š,a];omega,?_⟩;grind
def am4(h:l.length=144):À.built 144 [(0,Ē l.toArray)]=Ã (l++[Ê Ä 0 0]).toArray:=by let⟨z,d,a,b,c⟩:=Tt am1 am2 A;rw[Ts am3 a,c];have:=Nj (place:=λi=>[(0,144),(144,1)].toArray[i]?) (pre:=[]) (suf:=[Ê Ä 0 0]) (i:=0) (v:=Ē l.toArray) (rest:=[]) U (by show l.toArray.size=144;simp[h]) b;simpa[ı,Ġ]using this
def am5(h:l.length=145)(a:v.cells=#[v]):À.built 147 [(0,Ē l.toArray),(1,v)]=Ã (l++[v,Ê Ä 0 0]).toArray:=by let⟨z,g,c,d,f⟩:=Tt Y_ Z_ A;rw[Ts Z' c,f];have b:=Nj (place:=λi=>[(0,145),(145,1),(146,1)].toArray[i]?) (pre:=[]) (suf:=[Â Ë 0,Ê Ä 0 0]) (i:=0) (v:=Ē l.toArray) (rest:=[(1,v)]) U (by show l.toArray.size=145;simp[h]) d;simp only[Ξ]at b;rw[b];have e:(Ē l.toArray).cells.toList=l:=rfl;rw[e];rw[show(l++[Â Ë 0,Ê Ä 0 0])=l++[Â Ë 0]++[Ê Ä 0 0] by simp,(Nj (place:=λi=>[(0,145),(145,1),(146,1)].toArray[i]?) (old:=[Â Ë 0]) (suf:=[Ê Ä 0 0]) (i:=1) (rest:=[]) (by show Ã (145,1)=Ã (l.length,1);rw[h]) (by rw[a];rfl) U)];simp[ı,a]
def iy(s:St):List Ç:=(ċ 144).map<|qB s
def sw(s:St):(iy s).length=144:=by simp[iy]
theorem zP(s:St)(lv:Ç):jc s lv=iy s++[lv]:=by unfold jc iy;grind [Ŏ,List.map_congr_left,rz,M5]
def aac(a:o.op=.box T qQ)(b:xX qQ=Ē d):(ĥ xX o).run P w=χ (.value<|Å<|Ã ⟨w.heap.size,0,Ä⟩) (w.alloc<|Ð d T):=by unfold ĥ;simp[a,b,Instr.box,newVar,newRow,Ġ]
def Tv{a:Array (Nat×Operand)}(b:o.op=Χ T a)(h:P.built T (a.map λ(i,x)=>(i,xX x)).toList=Ã d):(ĥ xX o).run P w=χ (.value<|Ē d) w:=by have:=run_build w T (a.map λ(i,x)=>(i,xX x)) d h;unfold ĥ;simp_all
theorem Tw(a:o.op=Χ 144 #[(0,qQ)])(b:xX qQ=Ē l.toArray)(c:l.length=144):(ĥ xX o).run À w=χ (.value<|Ē (l++[Ê Ä 0 0]).toArray) w:=by grind [Tv,am4]
theorem am6{y:Ů}(a:o.op=Χ 147 #[(0,qQ),(1,y)])(b:xX qQ=Ē l.toArray)(c:xX y=v)(d:l.length=145)(e:v.cells=#[v]):(ĥ xX o).run À w=χ (.value<|Ē (l++[v,Ê Ä 0 0]).toArray) w:=by apply Tv a;grind [am5]
def Ty:(À.underlying 140).map İ=Ã Ú:=fp
def aad:(À.info? 140).map (·.size)=Ã 144:=fp
structure mA(vb:Nat)(s:St)(h:Int)(w:É):Prop where
 C:w.rangeAt vb 0 (iy s)
 h:w.cell? ⟨vb,145,Ä⟩=Ã (Â Ë h)
def mA.r{s:St}(a:mA i s h w)(k:e8 X w u)(b:¬X i):mA i s h u:= ⟨λj v c=>k.r (a.C j v c) b,k.r a.h b⟩
def uR(l:List (Int×Bool)):List Ç:=l.flatMap λp=>[Â Æ p.1,Ñ p.2]
structure NX(B:Nat)(h:Int)(lv uv:Ç)(s:St)(ls:List (Nat×Int))(us:List (Int×Bool))(w0 w:É):Prop where
 r:iD B 147 [Â Ë h,uv] s lv w
 C:w.ownsRow 0 257 2 lv ls.length (kt ls)
 I:w.ownsRow 0 246 2 uv us.length (uR us)
 M:e8 (λ_=>False) w0 w
 N:w0.heap.size<=B
 S:∀j,lv.ownBlock=Ã j->w0.heap.size<=j
 Y:∀j,uv.ownBlock=Ã j->w0.heap.size<=j
def NX.iZ(w:É)(s:St)(h:Int):NX w.heap.size h (Ê Ä 0 0) (Ê Ä 0 0) s [] [] w ((ă w<|Ð (iy s++[Ê Ä 0 0,Â Ë h,Ê Ä 0 0]).toArray 147).drew):=by refine⟨?_,ā _ _ _ _,ā _ _ _ _,(e8.gG _ _ _ _).fe<|e8.fU _ _,Þ _,(λj q=>nomatch q),(λj q=>nomatch q)⟩;unfold iD;rw[zP,show iy s++[Ê Ä 0 0]++[Â Ë h,Ê Ä 0 0]=iy s++[Ê Ä 0 0,Â Ë h,Ê Ä 0 0] by simp];exact ff.N w _ 147
noncomputable def Jv:ŏ:=(Tryz.f115.body.bind ku).getD Ķ
def zR(c m B:Nat)(a:Option Ą)(n b:Nat)(i:Int)(u:Nat->Ç):é:=⟨#[Å<|Ã ⟨c,0,Ä⟩,Â Ë m,Ê a n b,Ă,Ă,Ă,Å Ä,Å<|Ã ⟨B,0,Ä⟩,u 8,u 9,u 10,u 11,u 12,u 13,u 14,u 15,u 16,u 17,u 18,u 19,u 20,u 21,u 22,u 23,u 24,Ê a n b,Â Ë n,Â Ë i,u 28,u 29,u 30,u 31,u 32,u 33,u 34,u 35,u 36,u 37,u 38,u 39,u 40,u 41,u 42,u 43,u 44,u 45,u 46,u 47,u 48,u 49,u 50,u 51,u 52,u 53,u 54,u 55,u 56,u 57,u 58,u 59,u 60,u 61,u 62,u 63,u 64,u 65,u 66,u 67,u 68,u 69,u 70,u 71,u 72,u 73,u 74,u 75,u 76,u 77,u 78,u 79,u 80,u 81,u 82],[]⟩
def Jw(b m B:Nat)(c:Option Ą)(n d:Nat)(i:Int)(a:é):Prop:=∃u,a=zR b m B c n d i u
def QN(X Y:é->É->Prop):aV->é->É->Prop
 |.exit 0,a,w=>X a w
 |.ret,a,w=>Y a w
 |_,_,_=>False
section
variable{lv:Ç}{s d:St}{ls f:List (Nat×Int)}{c:List (Int×Bool)}
def Tz(j:Nat)(h:Int)(x:Ç):iW:=⟨j,147,[Â Ë h,x]⟩
def TA(j:Nat)(h:Int)(x:Ç):(Tz j h x).Ok:=⟨by show(147:Nat)≠36;decide,by show(147:Nat)≠257;decide,by show(147:Nat)≠282;decide,by show(147:Nat)≠300;decide,by show(147:Nat)≠252;decide,by show(147:Nat)≠246;decide⟩
def NX.fK(a:NX j h lv x s ls c u w)(k:e8 (λ_=>False) w W):NX j h lv x s ls c u W:= ⟨a.r.n5 k id,ij a.C k λ_ _=>id,ij a.I k λ_ _=>id,a.M.fe k,a.N,a.S,a.Y⟩
def NX.xR(a:NX j h lv x s ls c u w)(r:iu (Tz j h x) lv ls.length w d f W v):NX j h v x d f c u W:=by
 have k:=a.r;refine⟨r.r,r.I,ij a.I r.C ?_,a.M.C r.C ?_,a.N,λb q=> ?_,a.Y⟩
 .rintro b i (q|q)
  .let⟨m,g⟩:=lY a.I i;have e:b=j:=q;rw[e,k]at g;cases g
  .exact alv a.I a.C A i q
 .rintro i g (q|q)
  .have:=a.N;have e:i=j:=q;omega
  .have:=a.S i q;omega
 .rcases r.l b q with e|e
  .exact a.S b e
  .exact ë a.M.M e
def NX.fu(a:NX j h lv x s ls c u w)(b:i<8)(v:Int):NX j h lv x (s.fu i v) ls c u (w.setCell ⟨j,i*18,Ä⟩<|Â Æ v):= a.xR<|(iu.fW (E:=Tz j h x) a.r a.C).fu (TA _ _ _) b v
def aae(c:List (Int×Bool)):∀u∈uR c,kr u=Ú:=λu a=>by unfold uR at a;let⟨e,_,h⟩:=Β.1 a;simp at h;rcases h with rfl|rfl<;>rfl
def am7:(À.info? 246).map (λi=>(i.zero,i.size,i.bytes))=Ã (Ã<|Ē #[Â Æ 0,Ñ Ï],2,16):=fp
def NX.G(a:NX j h lv x s ls c u w):w.cell? ⟨j,146,Ä⟩=Ã x:= ff.r a.r 146 _<|by rw[ü (by rw[mL];omega),mL];rfl
def NX.am8{g:Int}(b:NX j h lv x s ls c u w)(a:qz w 0 246 2 x c.length (uR c) 1 [Â Æ g,Ñ yQ] v W): NX j h lv x s ls c u W/\NX j h lv v s ls (c++[(g,yQ)]) u (W.setCell ⟨j,146,Ä⟩ v):=by
 have m:∀{i:Nat} {n:Array Ç} {T:ô},x.ownBlock=Ã i->w.heap[i]?=Ã (Ð n T (0,0))->T=246:=λ{i n T} q hc=>by let⟨k,e⟩:=lY b.I q;rw[hc]at e;cases e;rfl
 have o:=b.M.C a.r λi y q=>by have:=b.Y i q;omega
 have f:NX j h lv x s ls c u W:=⟨b.r.n5 a.r λq=>absurd (m q b.r) A,ij b.C a.r (λd q r=>by let⟨k,e⟩:=lY b.C q;exact absurd (m r e) A),a.I _ _ _ b.I λ_=>Þ _,o,b.N,b.S,b.Y⟩;have t:W.ownsRow 0 246 2 v (c++[(g,yQ)]).length (uR<|c++[(g,yQ)]):=by have:=a.fj;rwa[show uR c++[Â Æ g,Ñ yQ]=uR (c++[(g,yQ)]) by simp[uR],show c.length+1=(c++[(g,yQ)]).length by simp]at this
 have l:e8 (λk=>k=j) W (W.setCell ⟨j,146,Ä⟩ v):=e8.I (X:=λk=>k=j) (p:=⟨j,146,Ä⟩) U v<|Ù<|ff.G f.r;have k:=ff.fQ f.r 146 v;rw[List.set_append_right _ _ (by rw[mL];omega),mL]at k;refine⟨f,k,ij f.C l λd q r=>jF f.C f.r A (by rw[q,r]),ij t l λd q r=>jF t f.r A (by rw[q,r]),o.C l λi y q=>by have:=b.N;omega,b.N,b.S,λd q=> ?_⟩;rcases a.C with e|e
 .exact b.Y d<|by rwa[<-e]
 .rw[e]at q;cases q;exact b.M.M
end
section
variable{X:é->É->Prop}{cp:Nat}{lv:Ç}{s:St}{ls:List (Nat×Int)}{c:List (Int×Bool)}
def am9(d:Nat->Ç)(e:NX j h lv x s ls c u w)(i:Int)(f:i=n) (g:∀a,Jw b m j O n cp i a->X a w): Î À Jv (Exit.then K<|QN X H) (zR b m j O n cp i d) w:=by
 unfold zR;conv=>arg 2;whnf
 subst f;go_wp2_with fail;exact g _ (gk _)
def ana(d:Nat->Ç)(f:NX j h lv x s ls c u w)(i:Int)(k:Nat)(q:i=k)(P:k<n)(Q:n<=1000)(tb o a:Nat)(r:O=Ã ⟨tb,o,Ä⟩)(S:w.cell? ⟨tb,o+k,Ä⟩=Ã (Å<|Ã ⟨a,0,Ä⟩))(t:Tx)(v:ma a t w)(y:t.Ok)(z:iL w)(B:gJ s)(D:(ls.length:Int)+400<=1000000)(g:Int)(E:Bool)(F:St)(G:List (Nat×Int))(I:my s ls t=((g,E),Ï,F,G)) (J:∀a p,a.tmps.getD 6 Ă=Å Ä->a.defers=[]->e8 (λ_=>False) u p->H a p): Î À Jv (Exit.then K<|QN X H) (zR b m j O n cp i d) w:=by
 unfold zR;conv=>arg 2;whnf
 subst q r;have C:=X_ (TA _ _ _) (by show(147:Nat)≠200;decide) f.r f.C z B v y D;rw[I]at C;have T:(0:Int)<=(k:Int):=Z
 have V:(k:Int)<(n:Int):=Z
 have W:=ff.M f.r;have l:=fc<|Á f C;go_wp2_with fail;go_at_call 154;apply l.out.2.mono;rintro e Y ⟨rfl,zy,L⟩;have M:=l.out.1.xR L;have N:=fc M;go_wp2_with fail;exact J _ _ U U<|N.out.M.fe<|e8.gG _ _ _ _
def anb(d:Nat->Ç)(f:NX j h lv x s ls c u w)(i:Int)(k:Nat)(W:i=k)(hj:k<n)(hn:n<=1000)(tb N a:Nat)(Y:O=Ã ⟨tb,N,Ä⟩)(hc:w.cell? ⟨tb,N+k,Ä⟩=Ã (Å<|Ã ⟨a,0,Ä⟩))(t:Tx)(ht:ma a t w)(MD:t.Ok)(hr:iL w)(hs:gJ s)(hlen:(ls.length:Int)+400<=1000000)(g:Int)(o:Bool)(B:St)(P:List (Nat×Int))(ho:my s ls t=((g,o),Ú,B,P))(Q:m<8)(F:gJ B)(vy:0<=g)(uN:g<=1000)(Ma:c.length<=1000) (p:∀a v jE TB,Jw b m j O n cp (i+1) a->NX j h jE TB (B.fu m<|wu<|(B m).fu+g) P (c++[(g,o)]) u v->K a v): Î À Jv (Exit.then K<|QN X H) (zR b m j O n cp i d) w:=by
 unfold zR;conv=>arg 2;whnf
 subst W Y;have C:=X_ (TA _ _ _) (by show(147:Nat)≠200;decide) f.r f.C hr hs ht MD hlen;rw[ho]at C;have e1:(0:Int)<=(k:Int):=Z
 have e2:(k:Int)<(n:Int):=Z
 have avf:=ff.M f.r;have l:=fc<|Á f C;go_wp2_with fail;go_at_call 154;apply l.out.2.mono;rintro e r ⟨rfl,zy,r1⟩;have D:=l.out.1.xR r1;have m1:=D.r.fu Q;have z1:=ff.C D.r<|m*18;have FQ:=ff.M D.r;have b0:=(F.fu m).1;have b1:=(F.fu m).2;have hub:x.ownBlock≠Ã r.heap.size:=λq=>by have:=(D.I.lt _ q).2;omega
 have HX:=fc<|Á D F;generalize hb:(B m).fu=b at*;have hm0:(0:Int)<=(m:Int):=Z
 have hm1:(m:Int)<8:=Z
 go_wp2_with fail
 go_region
 have hx8:=(HX.out.1.fu Q<|wu<|b+g).fK ((e8.gG (λ_=>False) _ #[Â Æ g,Ñ o] 246).fe<|e8.fU _ _);have hU:ff r.heap.size [Â Æ g,Ñ o] 246 (Č<|ă (r.setCell ⟨j,m*18,Ä⟩<|Â Æ<|wu<|b+g)<|Ð #[Â Æ g,Ñ o] 246):=by
  have:=ff.N (r.setCell ⟨j,m*18,Ä⟩<|Â Æ<|wu<|b+g) [Â Æ g,Ñ o] 246;have z:ff r.heap.size [Â Æ g,Ñ o] 246 (ă (r.setCell ⟨j,m*18,Ä⟩<|Â Æ<|wu<|b+g)<|Ð #[Â Æ g,Ñ o] 246):=by simpa using this
  exact z
 go_wp2_with fail
 change Î À _ _ _ (Č<|ă (r.setCell ⟨j,m*18,Ä⟩<|Â Æ<|wu<|b+g)<|Ð #[Â Æ g,Ñ o] 246);generalize Č (ă (r.setCell ⟨j,m*18,Ä⟩<|Â Æ<|wu<|b+g)<|Ð #[Â Æ g,Ñ o] 246)=w8 at*;generalize r.heap.size=ub at*;have S:=hx8.fK (e8.fU (λ_=>False) w8);have G:=hU.I (e8.fU (λ_=>False) w8) id;let⟨i0,Jq,Jr,anc,ane⟩:=í am7;have E:=fc<|Á Jq<|Á Jr<|Á anc ane;have y:=fc<|Á S.G<|Á (G.r 0 _ rfl)<|G.r 1 _ rfl;have T:=fc<|Á S G;refine mr (λv=>v.cell? ⟨j,146,Ä⟩=Ã x/\v.cell? ⟨ub,0,Ä⟩=Ã (Â Æ g)/\v.cell? ⟨ub,1,Ä⟩=Ã (Ñ o)) [10] fp ?_;refine tk 0 y.out ?_;refine tk 1 y.out ?_;refine tk 2 y.out ?_;refine tk 3 y.out ?_;refine tk 4 y.out ?_;refine tk 5 y.out ?_;have I:=T.out.1.fK (e8.gG (λ_=>False) _ #[Â Æ g,Ñ o] 246);have J:=T.out.2.I (e8.gG (λ_=>False) _ #[Â Æ g,Ñ o] 246) id;refine gC 6 ?_;intro K p;go_simp;refine p.out _ _ (λ_=>⟨I.G,J.r 0 _ U,J.r 1 _ U⟩) ?_;refine gC 7 ?_;intro K p;refine Na (hfl:=Ù ⟨fi,λd z=>(ú.1 z).elim (aae c d) (λq=>by simp at q;rcases q with rfl|rfl<;>rfl),by simp[kr,Ġ]⟩) fN _ _ 145 fN Tryz.underlying145 E.out.1 E.out.2.1 E.out.2.2.1 E.out.2.2.2 U fN I.I ⟨_,0,Ä⟩ [Â Æ g,Ñ o] fN Z U (ŵ _ _ _ _) (λd z=>by simp at z;rcases z with rfl|rfl<;>rfl) (by unfold ą;omega) Z (â _) ?_;intro uv1 w9 L;obtain⟨a2,cp2,rfl⟩:=jl L.fj;let⟨M,n2⟩:=I.am8 L;have z:=J.I L.r hub;refine p.out _ _ (λ_=>⟨M.G,z.r 0 _ U,z.r 1 _ U⟩) ?_;have V:=M.G;have fz:=ff.C M.r 146;refine gC 8 ?_;intro K p;go_simp;refine p.out _ _ (λ_=>⟨V,z.r 0 _ U,z.r 1 _ U⟩) ?_;refine gC 9 ?_;intro K p;go_simp;refine p.out _ _ (λ_=>⟨V,z.r 0 _ U,z.r 1 _ U⟩) ?_;refine gC 10 ?_;intro K p;go_simp;refine p.out _ _ (λq=>absurd fi q) ?_;refine lZ fp ?_ _;go_wp2_with fail;subst hb;exact p _ _ _ _ (gk _) n2
end
def uS(m:Nat):St->List (Nat×Int)->List (Int×Bool)->List Tx->Option (St×List (Nat×Int)×List (Int×Bool))
 |s,ls,us,[]=>Ã (s,ls,us)
 |s,ls,us,t::r=>if(my s ls t).2.1 then uS m ((my s ls t).2.2.1.fu m<|wu<|((my s ls t).2.2.1 m).fu+(my s ls t).1.1) (my s ls t).2.2.2 (us++[(my s ls t).1]) r else Ä
def anf{s:St}(b:gJ s)(x y:Nat)(c:0<=h):gJ (xV s x y h).2:=by
 unfold xV;split
 .exact b
 .rename_i a;have:=(b.fu x).2;exact(b.r x ⟨Z,Z⟩).r y<|zK _
def ang{s:St}(a:gJ s)(x:Nat)(e:B.size<=40/\∀c∈B.data.toList,xP c=Ú):gJ (xW s x B).2:=by
 unfold xW;split
 .exact a
 .rename_i h;have:=(a.fu x).2;have d:=a.r x (b:=(s x).fu-20) ⟨Z,Z⟩;exact d.fQ (d.fu x) (d.C x) e
structure aaf(r:List (Nat×Int))(o:(Int×Bool)×Bool×St×List (Nat×Int)):Prop where
 g0:0<=o.1.1
 C:o.1.1<=400
 s:gJ o.2.2.1
 r:o.2.2.2.length<=r.length+400
def anh{s:St}(f:gJ s){d:List (Nat×Int)}(g:i<8)(l:j<8)(m:gh c)(p:(d.length:Int)+400<=1000000):aaf d (zO s d i j h c):=by
 unfold zO;split
 .exact⟨Ö _,by show(0:Int)<=400;decide,f,Ŀ _ _⟩
 .rename_i a;have q:=(f.fu i).2;have o:=f.r i (b:=(s i).fu-h) ⟨Z,Z⟩;have e:=Ni _ d i j (h-10) c o g l m Z Z Z;have r:=e.C;have t:=e.r;have u:=e.I;exact⟨by show 0<=_+10;omega,by show _+10<=400;omega,e.N.r i<|zK _,by show(gl _ _ _ _ _ _).I.length<=_;omega⟩
def aag{s:St}(b:gJ s){ls:List (Nat×Int)}{t:Tx}(a:t.Ok)(c:(ls.length:Int)+400<=1000000):aaf ls (my s ls t):=by
 unfold my;split
 .exact⟨by show(0:Int)<=10;decide,by show(10:Int)<=400;decide,anf b _ _ a.I,Ŀ _ _⟩
 .split
  .exact⟨by show(0:Int)<=20;decide,by show(20:Int)<=400;decide,ang b _ a.N,Ŀ _ _⟩
  .exact anh b a.x a.y ⟨a.r,by have:=a.C;omega⟩ c
structure Dq(bp:Option Ą)(n:Nat)(gL:List (Nat×Tx))(w:É):Prop where
 r:n=gL.length
 C:∀(j a:Nat) (t:Tx),gL[j]?=Ã (a,t)->∃tb te,bp=Ã ⟨tb,te,Ä⟩/\w.cell? ⟨tb,te+j,Ä⟩=Ã (Å<|Ã ⟨a,0,Ä⟩)/\ma a t w/\t.Ok
def Dq.I{gL:List (Nat×Tx)}(h:Dq O n gL w)(k:e8 (λ_=>False) w u):Dq O n gL u:= ⟨h.r,λj a t q=>by let⟨tb,b,c,d,e,f⟩:=h.C j a t q;exact⟨tb,b,c,k.r d id,e.S k id,f⟩⟩
def lO(gL:List (Nat×Tx)):List Tx:=gL.map (·.2)
section
variable{bp:Option Ą}{cp:Nat}{gL:List (Nat×Tx)}{d:Option (St×List (Nat×Int)×List (Int×Bool))}
def TC(n:Nat)(a:é)(_:É):Nat:=match a.tmps.getD 27 Ă with
 |Â _ i=>n-i.toNat
 |_=>0
def NI(b m i:Nat)(bp:Option Ą)(n cp:Nat)(h:Int)(u:É)(gL:List (Nat×Tx))(d:Option (St×List (Nat×Int)×List (Int×Bool)))(a:é)(w:É):Prop:=
 ∃(j:Nat) (s:St) (c:List (Nat×Int)) (e:List (Int×Bool)) (f g:Ç),Jw b m i bp n cp j a/\j<=n/\NX i h f g s c e u w/\gJ s/\c.length<=400*j/\e.length=j/\uS m s c e ((lO gL).drop j)=d
def NE(b m i:Nat)(bp:Option Ą)(n cp:Nat)(h:Int)(u:É)(d:Option (St×List (Nat×Int)×List (Int×Bool)))(a:é)(w:É):Prop:=
 ∃(s:St) (c:List (Nat×Int)) (e:List (Int×Bool)) (f g:Ç),Jw b m i bp n cp n a/\NX i h f g s c e u w/\gJ s/\d=Ã (s,c,e)
def NR(u:É)(d:Option (St×List (Nat×Int)×List (Int×Bool)))(a:é)(w:É):Prop:=
 a.tmps.getD 6 Ă=Å Ä/\a.defers=[]/\e8 (λ_=>False) u w/\d=Ä
theorem ani(C:Dq bp n gL u)(K:iL u)(L:n<=1000)(V:m<8)(a:é)(w:É)(W:NI b m i bp n cp h u gL d a w): Î À Jv (Exit.then (λo q=>NI b m i bp n cp h u gL d o q/\TC n o q<TC n a w)<|QN (NE b m i bp n cp h u d)<|NR u d) a w:=by
 let⟨j,s,r,M,X,Y,hfr,hj,x,y,Ta,Ma,e⟩:=W;obtain⟨c,rfl⟩:=hfr;by_cases vx:j=n
 .have D:(lO gL).drop j=[]:=ę (by unfold lO;rw[Ο,<-C.r];omega);rw[D]at e;refine am9 c x j (by rw[vx]) λa v=>⟨s,r,M,X,Y,?_,x,y,e.symm⟩;grind
 .have E:j<n:=Z
  obtain⟨⟨a,t⟩,N⟩:∃p,gL[j]?=Ã p:=⟨_,Ô<|by rwa[<-C.r]⟩;have D:(lO gL).drop j=t::(lO gL).drop (j+1):=by
   have v:(lO gL)[j]?=Ã t:=by unfold lO;rw[ķ,N];rfl
   grind [ē]
  let⟨tb,O,P,Q,S,F⟩:=(C.I x.M).C j a t N;have G:(r.length:Int)+400<=1000000:=Z
  have k:=aag y F G;rw[D]at e;unfold uS at e;obtain⟨g,l,H,z,f,I⟩:∃g l H z f,my s r t=((g,l),H,z,f):=⟨_,_,_,_,_,U⟩;rw[I]at e k;have g0:=k.g0;have g1:g<=400:=k.C;have T:=k.s;have FQ:f.length<=r.length+400:=k.r;cases H with
  |false=>
   simp only[ĭ,if_false]at e;exact ana c x j j U E L tb O a P Q t S F (K.r x.M id) y G g l z f I λo q B J v=>⟨B,J,v,e.symm⟩
  |true=>
   simp only[if_true]at e;refine anb c x j j U E L tb O a P Q t S F (K.r x.M id) y G g l z f I V T g0 Z Z λo q jE TB B J=>⟨⟨j+1,_,f,M++[(g,l)],jE,TB,by simpa using B,Z,J,T.r m<|zK _,Z,by simp[Ma],e⟩,?_⟩;obtain⟨v,rfl⟩:=B;show n-((j:Int)+1).toNat<n-((j:Int)).toNat;omega
def vW(m:Nat)(s:St)(gL:List Tx):Option (St×List (Nat×Int)×List (Int×Bool)):=
 (uS m s [] [] gL).map λr=>(r.1.fu m<|wu<|(r.1 m).fu+50,r.2)
def FT(h:Int)(w:É)(r:Option (St×List (Nat×Int)×List (Int×Bool)))(e:az)(a:É):Prop:=
 (r=Ä/\e=È (Å Ä)/\e8 (λ_=>False) w a)\/
 ∃s b c i d f,r=Ã (s,b,c)/\e=È (Å<|Ã ⟨i,0,Ä⟩)/\NX i (h+1) d f s b c w a/\gJ s
def anj{s:St}(e:mA b s h w)(Y:0<=h)(hh1:h<=1000)(y:gJ s)(z:Dq bp n gL w)(B:iL w)(J:n<=1000)(f:m<8): Ò À 115 #[Å<|Ã ⟨b,0,Ä⟩,Â Ë m,Ê bp n cp] w (FT h w<|vW m s<|lO gL):=by
 let⟨M,C,D⟩:=Ì.1 Ty;have E:(À.info? 140).map (·.size)=Ã (iy s).length:=by rw[sw];exact aad
 have k:=fc<|Á C<|Á D E;have F:=(e.r (e8.fU (λ_=>False) w) id).C;have G:=(e.r (e8.fU (λ_=>False) w) id).h;have oT:Ë.wrap (h+1)=h+1:=Jl Z Z;have c:=fc<|Á F G;have gK:=á w _ e.h;have L:∀l a,NX w.heap.size (h+1) (Ê Ä 0 0) (Ê Ä 0 0) s [] [] w l->Jw b m w.heap.size bp n cp 0 a->Î À (à Jv) (QN (NE b m w.heap.size bp n cp (h+1) w<|uS m s [] []<|lO gL)<|NR w<|uS m s [] []<|lO gL) a l:=λl a x N=>
  ĉ (NI b m w.heap.size bp n cp (h+1) w gL<|uS m s [] []<|lO gL) (TC n) ⟨0,s,[],[],_,_,N,â _,x,y,fi,U,U⟩<|ani z B J f
 have H:=fc<|Á e L;have I:vW m s (lO gL)=(uS m s [] []<|lO gL).map λr=>(r.1.fu m<|wu<|(r.1 m).fu+50,r.2):=U;rw[I];clear C D F G e E L y z B I;generalize uS m s [] [] (lO gL)=d at*;go_enter Tryz.func115,Tryz.ntmps115;go_wp2_with fail;refine mr (λg=>g.rangeAt b 0 (iy s)/\g.cell? ⟨b,145,Ä⟩=Ã (Â Ë h)) [] fp ?_;refine tk 0 c.out ?_;refine tk 1 c.out ?_;refine tk 2 c.out ?_;refine tk 3 c.out ?_;refine Jk (i:=4) (oi:={dst:=Ã 16,op:=Go.Op.load 140<|î 15,type:=140,pos:= "block.go:30",after:=#[{on:=3,ground:=ï}],guard:=Ä}) U fp fp fp fp (λ_ _ _ h=>h) c.out (yieldsIf_load_mid fN 140 _ U b 0 U (iy s) M (λw h=>h.1) k.out.1 k.out.2.1 k.out.2.2) ?_;refine Jk (i:=5) (oi:={dst:=Ã 17,op:=Χ 144 #[(0,î 16)],type:=144,pos:= "block.go:30",after:=#[{on:=4,ground:=ï}],guard:=Ä}) U fp fp fp fp (λ_ _ _ h=>h) c.out (Ø ⟨fN,λ_ _=>Tw U U<|sw s⟩) ?_;refine tk 6 c.out ?_;refine tk 7 c.out ?_;refine tk 8 c.out ?_;refine tk 9 c.out ?_;refine tk 10 c.out ?_;refine Jk (i:=11) U fp fp fp fp (λ_ _ _ h=>h) c.out (Ø ⟨fN,λ_ _=>am6 U U U (by simp[sw]) U⟩) ?_;have g:=fc ((H.out.1.r (e8.fU (λ_=>False) w) id).r (e8.gG (λ_=>False) _ ((iy s++[Ê Ä 0 0])++[Â Ë<|h+1,Ê Ä 0 0]).toArray 147) id);refine gC 12 ?_;intro K o;rw[if_pos fN];unfold Ń;rw[aac U U,Ħ];refine o.out _ _ (λ_=>⟨g.out.C,g.out.h⟩) ?_;refine gC 13 ?_;intro K o;go_simp;refine o.out _ _ (λ_=>⟨g.out.C,g.out.h⟩) ?_;refine lZ fp ?_ _;go_wp2_with fail;have O:=NX.iZ w s<|h+1;refine Ý ?_ (H.out.2 _ _ O (gk _));rintro(_|(_|_)|_|_|_|_) a v hq;all_goals first|exact absurd hq id|skip
 .let⟨p,P,Q,S,T,V,j,q,W⟩:=hq;subst W;have d1:=j.r.fu f;have f1:=ff.C j.r<|m*18;have FQ:=ff.M j.r;have b0:=(q.fu m).1;have b1:=(q.fu m).2;have hm0:(0:Int)<=(m:Int):=Z
  have hm1:(m:Int)<8:=Z
  have t:=fc<|Á j q;generalize X:(p m).fu=b at*;obtain⟨u,rfl⟩:=V;unfold zR;go_wp2_with fail;go_region;go_wp2_with fail;go_ret;refine Ù ⟨p.fu m<|wu<|(p m).fu+50,P,Q,w.heap.size,S,T,U,U,?_,t.out.2.r m<|zK _⟩;rw[X];first
   |exact(t.out.1.fu f<|wu<|b+50).fK<|e8.fU _ _
   |exact(t.out.1.still<|Keep.drew _ _).fu f<|wu<|b+50
 .let⟨j,p,q,t⟩:=hq;simp only[Exit.inBlock,Exit.then];apply ð (results_tmp U _ _ _) p;exact Ø ⟨by rw[t];rfl,by rw[j],q⟩
end
def oB(i:Nat):ByteArray:=if i<10 then⟨#[(48+i).toUInt8]⟩else⟨#[(48+i/10).toUInt8,(48+i%10).toUInt8]⟩
def ank:∀k:Fin 10,(⟨#[48,49,50,51,52,53,54,55,56,57,97,98,99,100,101,102,103,104,105,106,107,108,109,110,111,112,113,114,115,116,117,118,119,120,121,122]⟩:ByteArray).extract k.val (k.val+1)=oB k.val:=by decide+kernel
def anl:∀k:Fin 100,k.val<10\/(⟨#[48,48,48,49,48,50,48,51,48,52,48,53,48,54,48,55,48,56,48,57,49,48,49,49,49,50,49,51,49,52,49,53,49,54,49,55,49,56,49,57,50,48,50,49,50,50,50,51,50,52,50,53,50,54,50,55,50,56,50,57,51,48,51,49,51,50,51,51,51,52,51,53,51,54,51,55,51,56,51,57,52,48,52,49,52,50,52,51,52,52,52,53,52,54,52,55,52,56,52,57,53,48,53,49,53,50,53,51,53,52,53,53,53,54,53,55,53,56,53,57,54,48,54,49,54,50,54,51,54,52,54,53,54,54,54,55,54,56,54,57,55,48,55,49,55,50,55,51,55,52,55,53,55,54,55,55,55,56,55,57,56,48,56,49,56,50,56,51,56,52,56,53,56,54,56,55,56,56,56,57,57,48,57,49,57,50,57,51,57,52,57,53,57,54,57,55,57,56,57,57]⟩:ByteArray).extract (k.val*2) (k.val*2+2)=oB k.val:=by decide+kernel
def anm(i:Nat)(h:i<10)(w:É):Ò À 187 #[Â Ë i] w λe a=>e=È (Í<|oB i)/\a=w:=by
 go_enter ź,ρ;go_wp2;all_goals go_ret
 refine⟨u_<|ank ⟨i,h⟩,U⟩
def ano(i:Nat)(h:i<100)(b:10<=i)(w:É):Ò À 187 #[Â Ë i] w λe a=>e=È (Í<|oB i)/\a=w:=by
 go_enter ź,ρ;go_wp2;all_goals go_ret
 refine⟨u_ ((anl ⟨i,h⟩).resolve_left<|by show¬i<10;omega),U⟩
theorem anp(i:Nat)(h:i<100)(w:É):Ò À 187 #[Â Ë i] w λe a=>e=È (Í<|oB i)/\a=w:=by grind [anm,ano]
def anq(i:Nat)(h:i<100)(w:É):Ò À 171 #[Â Ë i,Â Ë 10] w λe a=>e=È (Í<|oB i)/\a=w:=by go_enter Tryz.func171,Tryz.ntmps171;go_wp2_with (go_at_call 187;refine(anp i h _).mono ?_;rintro e a ⟨rfl,rfl⟩);go_ret;exact⟨U,U⟩
def aah(i:Nat)(h:i<100)(w:É):Ò À 117 #[Â Ë i] w λe a=>e=È (Í<|oB i)/\a=w:=by
 go_enter Tryz.func117,Tryz.ntmps117;go_wp2_with (first
  |(go_at_call 171;refine(anq i h _).mono ?_;rintro e a ⟨rfl,rfl⟩)
  |go_in)
 go_ret;exact⟨U,U⟩
def nX(i:Nat):ByteArray:=⟨#[33]⟩++oB i
def FU(i:Nat)(h:i<10)(w:É):Ò À 114 #[Â Ë i] w λe a=>e=È (Í<|nX i)/\a=w:=by
 have b:(oB i).size=1:=by unfold oB;rw[if_pos h];rfl
 go_enter Tryz.func114,Tryz.ntmps114;go_wp2_with (go_at_call 117;refine(aah i Z _).mono ?_;rintro e a ⟨rfl,rfl⟩);go_ret;exact⟨U,U⟩
def tb(n c:Nat):Nat:=(n^^^c)*1099511628211%18446744073709551616
def Nl(n c:Nat):tb n c<18446744073709551616:=aQ _ Z
def aai(n c:Nat)(a:n<18446744073709551616)(f:c<256)(w:É):Ò À 178 #[Â Æ n,Â aW c] w λe b=>e=È (Â Æ<|tb n c)/\b=w:=by
 go_enter Tryz.func178,Tryz.ntmps178;go_wp2_with fail;go_ret;refine⟨?_,U⟩;have d:Æ.wrap (((n^^^c:Nat):Int)*1099511628211)=((tb n c:Nat):Int):=by rw[bb];unfold tb;omega
 rw[bits_xor_u64_nat n c a Z,d];rfl
def tn(m:Nat):Nat->Nat->Nat
 |n,0=>n
 |n,j+1=>tn m (tb n<|m/2^(8*j)%256) j
def aaj(m:Nat):∀(j n:Nat),n<18446744073709551616->tn m n j<18446744073709551616
 |0,_,h=>h
 |j+1,_,_=>aaj m j _<|Nl _ _
noncomputable def Nn:ŏ:=(Tryz.f177.body.bind ku).getD Ķ
def FV(m n:Nat)(i:Int)(u:Nat->Ç):é:=⟨#[Â Æ n,Â Æ m,u 2,u 3,u 4,Â Ë i,u 6,u 7,u 8,u 9,u 10,u 11,u 12,u 13,u 14,u 15,u 16],[]⟩
def FW(m n:Nat)(i:Int)(a:é):Prop:=∃u,a=FV m n i u
section
variable{X:é->É->Prop}
def anr(m n j:Nat)(f:j<8)(d:n<18446744073709551616)(g:m<18446744073709551616)(u:Nat->Ç)(b:∀a,FW m (tb n<|m/2^(8*j)%256) (((8*j:Nat):Int)-8) a->K a w): Î À Nn (Exit.then K<|QQ X) (FV m n (8*j:Nat) u) w:=by
 unfold FV;conv=>arg 2;whnf
 have h:(0:Int)<=((8*j:Nat):Int):=Z
 have i:((8*j:Nat):Int)<64:=Z
 have T:=aai n (m/2^(8*j)%256) d Z w;generalize 8*j=j8 at*;have c:((m/2^j8%256:Nat):Int)=(m:Int)/2^j8%256:=fi
 rw[c]at T;have H:=fc<|Á T b;clear T b c;go_wp2_with (go_at_call 178;apply H.out.1.mono;rintro e k ⟨rfl,rfl⟩);exact H.out.2 _ (gk _)
def ant(m n:Nat)(u:Nat->Ç)(b:∀a,FW m n (-8) a->X a w): Î À Nn (Exit.then K<|QQ X) (FV m n (-8) u) w:=by
 unfold FV;conv=>arg 2;whnf
 go_wp2_with fail
 exact b _ (gk _)
def TI(m:Nat)(b:É)(c:Nat)(a:é)(w:É):Prop:=∃n j:Nat,FW m n (((8*j:Nat):Int)-8) a/\j<=8/\n<18446744073709551616/\w=b/\tn m n j=c
def TE(m:Nat)(b:É)(c:Nat)(a:é)(w:É):Prop:=FW m c (-8) a/\w=b
def xY(a:é)(_:É):Nat:=match a.tmps.getD 5 Ă with
 |Â _ i=>(i+8).toNat
 |_=>0
def Jx(b:FW m n h y):xY y w=(h+8).toNat:=by obtain⟨u,rfl⟩:=b;rfl
def anu(f:m<18446744073709551616)(a:é)(w:É)(g:TI m u i a w): Î À Nn (Exit.then (λb e=>TI m u i b e/\xY b e<xY a w)<|QQ<|TE m u i) a w:=by
 obtain⟨n,j,c,k,h,rfl,d⟩:=g;rw[Jx (w:=w) c];obtain⟨b,rfl⟩:=c;cases j with
 |zero=>
  subst d;exact ant m n b λa q=>⟨q,U⟩
 |succ j=>
  have e:(((8*(j+1):Nat):Int)-8)=((8*j:Nat):Int):=Z
  rw[e];refine anr m n j Z h f b λa q=>⟨⟨_,j,q,Z,Nl _ _,U,d⟩,?_⟩;rw[Jx q];omega
end
def oC(n m:Nat):Nat:=tn m n 8
def FX(n m:Nat)(a:n<18446744073709551616):oC n m<18446744073709551616:=aaj m 8 n a
def Jy(n m:Nat)(b:n<18446744073709551616)(c:m<18446744073709551616)(w:É):Ò À 177 #[Â Æ n,Â Æ m] w λe d=>e=È (Â Æ<|oC n m)/\d=w:=by
 have L:∀a,FW m n 56 a->Î À (à Nn) (QQ<|TE m w<|oC n m) a w:=λa f=>
  ĉ (TI m w<|oC n m) xY ⟨n,8,f,Þ _,b,U,U⟩<|anu c
 generalize oC n m=r at*;go_enter Tryz.func177,Tryz.ntmps177;go_wp2_with fail;refine Ý ?_ ((fc L).out _ (gk _));rintro(_|(_|_)|_|_|_|_) a v hq;all_goals first|exact absurd hq id|skip
 obtain⟨g,rfl⟩:=hq;obtain⟨u,rfl⟩:=g;unfold FV;go_wp2_with fail;go_ret;exact⟨U,U⟩
def Jz(p q:Nat):Nat:=oC (oC 14695981039346656037 p) q
def anv(p q:Nat):Jz p q<18446744073709551616:=FX _ _<|FX _ _ Z
noncomputable def JA:ŏ:=(Tryz.f162.body.bind ku).getD Ķ
noncomputable def JB:ŏ:=(ku JA).getD Ķ
def Q2(X:é->É->Prop):aV->é->É->Prop
 |.exit 2,a,w=>X a w
 |_,_,_=>False
def vK(b c d:Nat)(a:Nat)(i:Int)(u:Nat->Ç):é:=⟨#[Ê (Ã ⟨b,0,Ä⟩) c d,u 1,u 2,Â Ë a,u 4,u 5,u 6,u 7,u 8,u 9,u 10,Â Ë a,Â Ë i,u 13,u 14,u 15,u 16,u 17,u 18,u 19,u 20,u 21,u 22,u 23,u 24,u 25,u 26,u 27,u 28,u 29,u 30,u 31,u 32,u 33,u 34,u 35,u 36,u 37],[]⟩
def Dr(b c d:Nat)(e:Nat)(i:Int)(a:é):Prop:=∃u,a=vK b c d e i u
section
variable{X:é->É->Prop}{cp:Nat}
def anw(u:Nat->Ç)(c:∀a,Dr b n cp i i a->X a w): Î À JB (Exit.then K<|Q2 X) (vK b n cp i i u) w:=by
 unfold vK;conv=>arg 2;whnf
 go_wp2_with fail
 exact c _ (gk _)
def anx(c p q z:Nat)(k:Jz p q=z)(t:c<i)(x:2*i<=n)(y:n<=16)(l:p<18446744073709551616)(m:q<18446744073709551616)(u:Nat->Ç) (o:w.cell? ⟨b,2*c,Ä⟩=Ã (Â Æ p)) (r:w.cell? ⟨b,2*c+1,Ä⟩=Ã (Â Æ q)) (h:∃v,w.cell? ⟨b,c,Ä⟩=Ã v) (B:w.frozen? ⟨b,c,Ä⟩=Ï) (f:∀a,Dr b n cp i ((c+1:Nat):Int) a->K a (w.setCell ⟨b,c,Ä⟩<|Â Æ z).drew): Î À JB (Exit.then K<|Q2 X) (vK b n cp i c u) w:=by
 unfold vK;conv=>arg 2;whnf
 subst k;unfold Jz at f;let⟨C,h⟩:=h;have D:(0:Int)<=(c:Int):=Z
 have E:(c:Int)<(i:Int):=Z
 have F:(2:Int)*(c:Int)+1<(n:Int):=Z
 have G:((2:Int)*(c:Int)).toNat=2*c:=Z
 have H:((2:Int)*(c:Int)+1).toNat=2*c+1:=Z
 have I:Ë.wrap (2*(c:Int))=2*(c:Int):=Jl Z Z;have j:Ë.wrap (2*(c:Int)+1)=2*(c:Int)+1:=Jl Z Z;have J:(0:Int)<=2*(c:Int):=Z
 have L:2*(c:Int)<(n:Int):=Z
 have M:(0:Int)<=2*(c:Int)+1:=Z
 have N:(c:Int)<(n:Int):=Z
 have s:=fc f;clear f;go_wp2_with fail;have d:=fc<|Á o r;refine mr (λe=>e.cell? ⟨b,2*c,Ä⟩=Ã (Â Æ p)/\e.cell? ⟨b,2*c+1,Ä⟩=Ã (Â Æ q)) [16] fp ?_;refine tk 0 d.out ?_;refine tk 1 d.out ?_;refine tk 2 d.out ?_;refine tk 3 d.out ?_;refine tk 4 d.out ?_;refine tk 5 d.out ?_;refine tk 6 d.out ?_;refine tk 8 d.out ?_;refine tk 9 d.out ?_;refine tk 10 d.out ?_;refine tk 11 d.out ?_;refine tk 12 d.out ?_;refine tk 13 d.out ?_;refine gC 7 ?_;intro K f;go_simp;go_at_call 177;refine(Jy 14695981039346656037 p Z l _).mono ?_;rintro e g ⟨rfl,j⟩;subst g;refine f.out _ _ (λ_=>d.out) ?_;refine gC 14 ?_;intro K f;go_simp;go_at_call 177;refine(Jy (oC 14695981039346656037 p) q (FX _ _ Z) m _).mono ?_;rintro e g ⟨rfl,j⟩;subst g;refine f.out _ _ (λ_=>d.out) ?_;refine gC 15 ?_;intro K f;go_simp;refine f.out _ _ (λ_=>d.out) ?_;refine gC 16 ?_;intro K f;go_simp;refine f.out _ _ (λq=>absurd fi q) ?_;refine lZ fp ?_ _;go_wp2_with fail;exact s.out _ (gk _)
end
def pr(l:List Nat)(t:Nat):Nat:=Jz (l.getD (2*t) 0)<|l.getD (2*t+1) 0
def aak(l:List Nat)(t:Nat):Jz (l.getD (2*t) 0) (l.getD (2*t+1) 0)=pr l t:=by unfold pr;exact Eq.refl _
def jR(l:List Nat)(i:Nat):List Nat:=(ċ l.length).map λt=>if t<i then pr l t else l.getD t 0
def uT(l:List Nat):List Nat:=(ċ<|l.length/2).map<|pr l
def kA(l:List Nat):List Ç:=l.map λ(x:Nat)=>Â Æ x
def sx(l:List Nat):Prop:=∀t,l.getD t 0<18446744073709551616
def JC(l:List Nat)(i:Nat):(jR l i).length=l.length:=by simp[jR]
def Np(l:List Nat)(i t:Nat)(h:t<l.length):(jR l i)[t]?=Ã (if t<i then pr l t else l.getD t 0):=by simp[jR,û h]
theorem anz(l:List Nat):jR l 0=l:=by refine þ λt=> ?_;grind [Np,JC]
theorem anB(l:List Nat)(i:Nat)(h:i<l.length):(jR l i).set i (pr l i)=jR l (i+1):=by refine þ λt=> ?_;grind [Np,JC,ĕ]
theorem anC(l:List Nat):jR l (l.length/2)=uT l++l.drop (l.length/2):=by
 refine þ λt=> ?_;have b:(uT l).length=l.length/2:=by simp[uT]
 by_cases a:t<l.length
 .rw[Np _ _ t a];by_cases q:t<l.length/2
  .rw[if_pos q,ç Z];simp[uT,û q]
  .grind
 .grind [JC,Ó,List.length_drop]
def anD(l:List Nat)(t:Nat):pr l t<18446744073709551616:=by rw[<-aak];exact anv _ _
def Nq{N:Nat}(a:0<N)(h:∀x∈jJ,x<N)(t:Nat):jJ.getD t 0<N:=by
 rw[Ĳ];cases e:jJ[t]? with
 |none=>exact a
 |some x=>exact h x<|ġ e
def aal(l:List Nat):sx (uT l):=Nq Z λx a=>by unfold uT at a;obtain⟨t,_,rfl⟩:=ņ.1 a;exact anD l t
def sy:Nat->List Nat->Nat
 |0,l=>l.getD 0 0
 |k+1,l=>sy k<|uT l
def TD(l:List Nat)(i x:Nat):kA (l.set i x)=(kA l).set i (Â Æ x):=by simp[kA,List.map_set]
def JD(l:List Nat)(i x:Nat)(h:l[i]?=Ã x):(kA l)[i]?=Ã (Â Æ x):=by simp[kA,h]
section
variable{cp:Nat}{l:List Nat}{junk:List Ç}
def II(b n cp i:Nat)(T:ô)(l:List Nat)(junk:List Ç)(d:É)(a:é)(w:É):Prop:=
 ∃c:Nat,Dr b n cp i c a/\c<=i/\e8 (λk=>k=b) d w/\ff b (kA (jR l c)++junk) T w
def IE(b n cp i:Nat)(T:ô)(l:List Nat)(junk:List Ç)(c:É)(a:é)(w:É):Prop:=
 Dr b n cp i i a/\e8 (λk=>k=b) c w/\ff b (kA (jR l i)++junk) T w
def Nr(i:Nat)(a:é)(_:É):Nat:=match a.tmps.getD 12 Ă with
 |Â _ b=>i-b.toNat
 |_=>0
def aam(c:Dr b n cp i j y):Nr i y w=i-j:=by obtain⟨u,rfl⟩:=c;show i-(j:Int).toNat=_;simp
def anE(g:sx l)(r:l.length=n)(s:2*i=n)(m:n<=16)(a:é)(w:É)(o:II b n cp i T l junk u a w): Î À JB (Exit.then (λc d=>II b n cp i T l junk u c d/\Nr i c d<Nr i a w)<|Q2<|IE b n cp i T l junk u) a w:=by
 let⟨c,h,v,j,e⟩:=o;rw[aam h];obtain⟨d,rfl⟩:=h;by_cases p:c=i
 .subst p;exact anw d λa q=>⟨q,j,e⟩
 .have f:=λt x y=>
   e.r t _<|by rw[ç (by simp[kA,JC];omega)];exact JD _ _ _<|by rw[Np l c t Z,if_neg Z]
  refine anx c (l.getD (2*c) 0) (l.getD (2*c+1) 0) (pr l c) (aak l c) Z Z m (g _) (g _) d (f _ Z Z) (f _ Z Z) ⟨_,f c Z Z⟩ (e.C c) λa q=>⟨⟨c+1,q,Z,(j.fe<|e8.I (X:=λk=>k=b) U _).fe<|e8.fU _ _,?_⟩,by rw[aam q];omega⟩;rw[<-anB l c Z,TD,<-ğ _ _ (by simp[kA,JC];omega)];exact((e.fQ c<|Â Æ<|pr l c).I (e8.fU (λ_=>False) _) id)
def anF(c:sx l)(d:l.length=n)(e:2*i=n)(f:n<=16)(g:ff b (kA l++junk) T w)(h:Dr b n cp i (0:Nat) y): Î À (à JB) (Q2<|IE b n cp i T l junk w) y w:= ĉ (II b n cp i T l junk w) (Nr i) ⟨0,h,â _,e8.fW _ _,by rwa[anz]⟩<|anE c d e f
end
def FY(b a c:Nat)(u:Nat->Ç):é:=⟨#[Ê (Ã ⟨b,0,Ä⟩) a c,u 1,u 2,u 3,u 4,u 5,u 6,u 7,u 8,u 9,u 10,u 11,u 12,u 13,u 14,u 15,u 16,u 17,u 18,u 19,u 20,u 21,u 22,u 23,u 24,u 25,u 26,u 27,u 28,u 29,u 30,u 31,u 32,u 33,u 34,u 35,u 36,u 37],[]⟩
def FZ(b c d:Nat)(a:é):Prop:=∃u,a=FY b c d u
section
variable{cp:Nat}{l:List Nat}{junk:List Ç}
def anG(c:n=1)(u:Nat->Ç)(d:∀a,FZ b n cp a->H a w): Î À JA (Exit.then K<|QQ H) (FY b n cp u) w:=by
 unfold FY;conv=>arg 2;whnf
 subst c;go_wp2_with fail;exact d _ (gk _)
def anH(u:Nat->Ç)(g:sx l)(h:l.length=n)(j:2*i=n)(s:0<i)(m:n<=16)(t:n<=cp)(d:ff b (kA l++junk) T w) (o:∀a e,FZ b i cp a->e8 (λk=>k=b) w e->ff b (kA (jR l i)++junk) T e->K a e): Î À JA (Exit.then K<|QQ H) (FY b n cp u) w:=by
 have L:∀a,Dr b n cp i (0:Nat) a->Î À (à JB) (Q2<|IE b n cp i T l junk w) a w:=λa p=>anF g h j m d p;unfold FY;conv=>arg 2;whnf
 have x:(n:Int).tdiv 2=(i:Int):=by rw[Int.tdiv_eq_ediv_of_nonneg Z];omega
 have y:(0:Int)<=(i:Int):=Z
 have z:(i:Int)<=(cp:Int):=Z
 have c:=fc<|Á L o;go_wp2_with fail;refine Ý ?_ (c.out.1 _ (gk _));rintro(_|(_|_|_|_)|_|_|_|_) a v hq;all_goals first|exact absurd hq id|skip
 let⟨q,r,d⟩:=hq;obtain⟨u,rfl⟩:=q;unfold vK;have f:=fc<|Á r d;go_wp2_with fail;exact c.out.2 _ _ (gk _) f.out.1 f.out.2
def OI(b cp:Nat)(T:ô)(c:É)(d:Nat)(a:é)(w:É):Prop:=
 ∃(k:Nat) (l:List Nat) (junk:List Ç),FZ b l.length cp a/\l.length=2^k/\l.length<=16/\l.length<=cp/\sx l/\e8 (λk=>k=b) c w/\ff b (kA l++junk) T w/\sy k l=d
def OE(b cp:Nat)(c:É)(d:Nat)(a:é)(w:É):Prop:=FZ b 1 cp a/\1<=cp/\e8 (λk=>k=b) c w/\w.cell? ⟨b,0,Ä⟩=Ã (Â Æ d)
def xZ(a:é)(_:É):Nat:=match a.tmps.getD 0 Ă with
 |Ê _ n _=>n
 |_=>0
def JF(c:FZ b n cp y):xZ y w=n:=by obtain⟨u,rfl⟩:=c;rfl
def anI(a:é)(w:É)(r:OI b cp T u i a w): Î À JA (Exit.then (λc d=>OI b cp T u i c d/\xZ c d<xZ a w)<|QQ<|OE b cp u i) a w:=by
 let⟨k,l,junk,g,h,s,t,v,j,m,n⟩:=r;rw[JF g];obtain⟨c,rfl⟩:=g;cases k with
 |zero=>
  have e:=h;have f:w.cell? ⟨b,0,Ä⟩=Ã (Â Æ<|l.getD 0 0):=m.r 0 _ (by rw[ç (by simp[kA];omega)];exact JD _ _ _<|by rw[Ĳ,Ô Z];rfl);have o:l.getD 0 0=i:=n;rw[o]at f;refine anG e c λa q=>⟨by rwa[e]at q,Z,j,f⟩
 |succ k=>
  have x:2*2^k=l.length:=by rw[h,Nat.pow_succ];omega
  have y:0<2^k:=Nat.pow_pos Z;have f:l.length/2=2^k:=Z
  have o:(uT l).length=2^k:=by simp[uT,f]
  refine anH c v U x y s t m λa d q z p=>⟨⟨k,uT l,kA (l.drop<|l.length/2)++junk,by rwa[o],o,Z,Z,aal l,j.fe z,?_,n⟩,by rw[JF q];omega⟩;have e:=anC l;rw[f]at e;rw[e]at p;rw[f,<-Ċ];simpa[kA]using p
end
def aan{cp:Nat}{l:List Nat}{junk:List Ç}(c:l.length=2^k)(d:l.length<=16)(f:l.length<=cp)(g:sx l)(h:ff b (kA l++junk) T w): Ò À 162 #[Ê (Ã ⟨b,0,Ä⟩) l.length cp] w λe a=>e=È (Â Æ<|sy k l)/\e8 (λi=>i=b) w a:=by
 have L:∀a,FZ b l.length cp a->Î À (à JA) (QQ<|OE b cp w<|sy k l) a w:=λa e=>
  ĉ (OI b cp T w<|sy k l) xZ ⟨k,l,junk,e,c,d,f,g,e8.fW _ _,h,U⟩ anI
 generalize sy k l=r at*;generalize l.length=n at*;go_enter Tryz.func162,Tryz.ntmps162;go_wp2_with fail;refine Ý ?_ ((fc L).out _ (gk _));rintro(_|(_|_)|_|_|_|_) a v hq;all_goals first|exact absurd hq id|skip
 let⟨i,j,m,o⟩:=hq;obtain⟨u,rfl⟩:=i;unfold FY;go_wp2_with fail;go_ret;simp_all
def anJ:À.underlying 118=Ã (.array 16 36):=fp
def anK(w:É)(c:i<16)(e:d[i]?=Ã (Â Æ h)):(Κ 118 (Ē d)<|Â Ë (i:Int)).run À w=χ (Â Æ h) w:=by
 have a:(0:Int)<=(i:Int):=Z
 have b:(i:Int)<16:=Z
 simp[Κ,ř anJ,asIntOf,go_sem,a,b];go_simp
noncomputable def JG:ŏ:=(bg.body.bind ku).getD Ķ
def F0(c o b:Nat)(a:Array Ç)(i:Int)(u:Nat->Ç):é:=⟨#[Å<|Ã ⟨c,o,Ä⟩,u 1,u 2,Å<|Ã ⟨b,0,Ä⟩,u 4,u 5,u 6,u 7,u 8,u 9,u 10,Ē a,Â Ë i,u 13,u 14,u 15,u 16,u 17,u 18,u 19,u 20,u 21,u 22,u 23,u 24,u 25,u 26,u 27,u 28,u 29,u 30,u 31,u 32,u 33,u 34,u 35,u 36,u 37,u 38,u 39,u 40,u 41,u 42,u 43,u 44,u 45,u 46,u 47],[]⟩
def Ds(d o b:Nat)(c:Array Ç)(i:Int)(a:é):Prop:=∃u,a=F0 d o b c i u
section
variable{X:é->É->Prop}
def anL(u:Nat->Ç)(c:∀a,Ds n i b d 16 a->X a w): Î À JG (Exit.then K<|QQ X) (F0 n i b d 16 u) w:=by
 unfold F0;conv=>arg 2;whnf
 go_wp2_with fail
 exact c _ (gk _)
def anM(c p z:Nat)(j:oC 14695981039346656037 p=z)(k:c<16)(l:p<18446744073709551616)(f:d[c]?=Ã (Â Æ p))(g:∃v,w.cell? ⟨b,c,Ä⟩=Ã v)(o:w.frozen? ⟨b,c,Ä⟩=Ï)(u:Nat->Ç) (h:∀a,Ds n i b d ((c+1:Nat):Int) a->K a (w.setCell ⟨b,c,Ä⟩<|Â Æ z)): Î À JG (Exit.then K<|QQ X) (F0 n i b d c u) w:=by
 unfold F0;conv=>arg 2;whnf
 let⟨q,g⟩:=g;have r:=λW=>anK W k f;have m:=fc h;clear h f;go_wp2_with (go_at_call 177;refine(Jy 14695981039346656037 p Z l _).mono ?_;rintro e s ⟨rfl,rfl⟩;rw[j]);exact m.out _ (gk _)
def lf(x:Nat):Nat:=oC 14695981039346656037 x
def Ns(x:Nat):lf x<18446744073709551616:=FX _ _ Z
def aao(x:Nat):oC 14695981039346656037 x=lf x:=by unfold lf;exact Eq.refl _
def oD(l:List Nat)(i:Nat):List Nat:=(ċ 16).map λt=>if t<i then lf (l.getD t 0)else 0
def JH(l:List Nat)(i:Nat):(oD l i).length=16:=by simp[oD]
def aap(l:List Nat)(i t:Nat)(h:t<16):(oD l i)[t]?=Ã (if t<i then lf (l.getD t 0)else 0):=by simp[oD,û h]
theorem anN(l:List Nat)(i:Nat)(h:i<16):(oD l i).set i (lf<|l.getD i 0)=oD l (i+1):=by refine þ λt=> ?_;grind [aap,JH,ĕ]
def aaq(l:List Nat):sx (oD l 16):=Nq Z λx a=>by
 unfold oD at a;obtain⟨t,_,rfl⟩:=ņ.1 a;split
 .exact Ns _
 .omega
def AI(n i b:Nat)(l:List Nat)(d:É)(a:é)(w:É):Prop:=
 ∃c:Nat,Ds n i b (kA l).toArray c a/\c<=16/\e8 (λk=>k=b) d w/\ff b (kA<|oD l c) 118 w
def AE(n i b:Nat)(l:List Nat)(c:É)(a:é)(w:É):Prop:=
 Ds n i b (kA l).toArray 16 a/\e8 (λk=>k=b) c w/\ff b (kA<|oD l 16) 118 w
def Nt(a:é)(_:É):Nat:=match a.tmps.getD 12 Ă with
 |Â _ i=>16-i.toNat
 |_=>0
def aar(c:Ds n i b d j y):Nt y w=16-j:=by obtain⟨u,rfl⟩:=c;show 16-(j:Int).toNat=_;simp
theorem anO(h:sx jJ)(p:jJ.length=16)(a:é)(w:É)(j:AI n i b jJ u a w): Î À JG (Exit.then (λc d=>AI n i b jJ u c d/\Nt c d<Nt a w)<|QQ<|AE n i b jJ u) a w:=by
 let⟨c,f,r,g,e⟩:=j;rw[aar f];obtain⟨d,rfl⟩:=f;by_cases m:c=16
 .subst m;exact anL d λa q=>⟨q,g,e⟩
 .have o:(kA jJ).toArray[c]?=Ã (Â Æ<|jJ.getD c 0):=by
   grind [JD]
  refine anM c (jJ.getD c 0) (lf<|jJ.getD c 0) (aao _) Z (h _) o ⟨_,(e.r c _<|JD _ _ _<|by rw[aap jJ c c Z,if_neg Z])⟩ (e.C c) d λa q=>⟨⟨c+1,q,Z,g.fe (e8.I (X:=λk=>k=b) U _),?_⟩,by rw[aar q];omega⟩;rw[<-anN jJ c Z,TD];exact e.fQ c<|Â Æ<|lf<|jJ.getD c 0
def anP{l:List Nat}(c:sx l)(d:l.length=16)(e:ff b (kA<|oD l 0) 118 w)(f:Ds n i b (kA l).toArray (0:Nat) y): Î À (à JG) (QQ<|AE n i b l w) y w:= ĉ (AI n i b l w) Nt ⟨0,f,â _,e8.fW _ _,e⟩<|anO c d
end
def Dt:ŏ->List ŏ
 |à c=>[c]
 |.seq a b=>Dt a++Dt b
 |.block _ c=>Dt c
 |.scope c=>Dt c
 |.cond _ a b=>Dt a++Dt b
 |_=>[]
noncomputable def JJ:ŏ:=((bg.body.map Dt).getD []).getD 1 Ķ
def F1(a o:Nat)(P:ByteArray)(n:Nat)(i:Int)(u:Nat->Ç):é:=⟨#[Å<|Ã ⟨a,o,Ä⟩,u 1,u 2,u 3,u 4,u 5,Â Æ n,u 7,u 8,u 9,u 10,u 11,u 12,u 13,u 14,u 15,u 16,u 17,u 18,u 19,u 20,u 21,u 22,u 23,u 24,u 25,u 26,u 27,u 28,u 29,u 30,u 31,u 32,u 33,Â Ë P.size,Â Ë i,u 36,u 37,u 38,u 39,u 40,u 41,u 42,u 43,u 44,u 45,u 46,u 47],[]⟩
def Du(b o:Nat)(P:ByteArray)(n:Nat)(i:Int)(a:é):Prop:=∃u,a=F1 b o P n i u
def zS(n:Nat)(l:List UInt8):Nat:=l.foldl (λn c=>tb n c.toNat) n
def anQ(b:Nat)(c:Int)(d:c=B.size)(u:Nat->Ç)(e:∀a,Du n i B b c a->H a w): Î À JJ (Exit.then K<|Q2 H) (F1 n i B b c u) w:=by
 unfold F1;conv=>arg 2;whnf
 subst d;go_wp2_with fail;exact e _ (gk _)
def anR{B:ByteArray}{c:UInt8}(w:É)(a:B.data.toList[i]?=Ã c):(Κ 9 (Í B)<|Â Ë (i:Int)).run À w=χ (Â aW (c.toNat:Nat)) w:=by
 have e:(0:Int)<=(i:Int):=Z
 let⟨b,d⟩:=Ü.1 a;have f:i<B.size:=by simpa using b
 have g:B[i]=c:=by rw[<-d];exact(Array.getElem_toList _).symm
 go_simp
def anS(b d z:Nat)(c:UInt8)(g:tb b c.toNat=z)(l:d<B.size)(m:B.size<=1000000)(k:b<18446744073709551616)(h:B.data.toList[d]?=Ã c)(o:w.cell? ⟨n,i+1,Ä⟩=Ã (Í B))(u:Nat->Ç) (j:∀a,Du n i B z ((d+1:Nat):Int) a->K a w): Î À JJ (Exit.then K<|Q2 H) (F1 n i B b d u) w:=by
 unfold F1;conv=>arg 2;whnf
 have p:(0:Int)<=(d:Int):=Z
 have q:(d:Int)<(B.size:Int):=Z
 have r:(B.size:Int)<=1000000:=Z
 have s:=λW=>anR W h;have t:=c.toNat_lt;have T:=aai b c.toNat k Z w;rw[g]at T;generalize c.toNat=cn at*;have f:=fc<|Á T j;clear j T h g;go_wp2_with (go_at_call 178;apply f.out.1.mono;rintro e v ⟨rfl,rfl⟩);exact f.out.2 _ (gk _)
def BI(n i:Nat)(B:ByteArray)(d:É)(e:Nat)(a:é)(w:É):Prop:=
 ∃b c:Nat,Du n i B b c a/\c<=B.size/\b<18446744073709551616/\w=d/\zS b (B.data.toList.drop c)=e
def BE(n i:Nat)(B:ByteArray)(b:É)(c:Nat)(a:é)(w:É):Prop:=Du n i B c B.size a/\w=b
def Nu(m:Nat)(a:é)(_:É):Nat:=match a.tmps.getD 35 Ă with
 |Â _ i=>m-i.toNat
 |_=>0
def aas(c:Du n i B j b y):Nu m y w=m-b:=by obtain⟨u,rfl⟩:=c;show m-(b:Int).toNat=_;simp
def anT(h:B.size<=1000000)(k:u.cell? ⟨n,i+1,Ä⟩=Ã (Í B))(a:é)(w:É)(l:BI n i B u j a w): Î À JJ (Exit.then (λb c=>BI n i B u j b c/\Nu B.size b c<Nu B.size a w)<|Q2<|BE n i B u j) a w:=by
 obtain⟨b,c,f,p,m,rfl,e⟩:=l;rw[aas f];obtain⟨d,rfl⟩:=f;have r:B.data.toList.length=B.size:=fi
 by_cases o:c=B.size
 .rw[ę Z]at e;subst e;exact anQ b c Z d λa q=>⟨by rwa[o]at q,U⟩
 .have g:c<B.data.toList.length:=Z
  rw[ē g]at e;refine anS b c (tb b (B.data.toList[c]).toNat) (B.data.toList[c]) (Eq.refl _) Z h m (Ô g) k d λa q=>⟨⟨_,c+1,q,Z,Nl _ _,U,e⟩,by rw[aas q];omega⟩
def anU(b:B.size<=1000000)(c:j<18446744073709551616)(d:w.cell? ⟨n,i+1,Ä⟩=Ã (Í B))(e:Du n i B j (0:Nat) y): Î À (à JJ) (Q2<|BE n i B w<|zS j B.data.toList) y w:= ĉ (BI n i B w<|zS j B.data.toList) (Nu B.size) ⟨j,0,e,â _,c,U,U⟩<|anT b d
abbrev zA:List Ç:=[Â Æ 0,Â Æ 0,Â Æ 0,Â Æ 0,Â Æ 0,Â Æ 0,Â Æ 0,Â Æ 0,Â Æ 0,Â Æ 0,Â Æ 0,Â Æ 0,Â Æ 0,Â Æ 0,Â Æ 0,Â Æ 0]
def Dv(B:Nat)(P:ByteArray)(a:List Nat):Nat:=zS (oC (lf B)<|sy 4<|oD a 16) P.data.toList
def TF:∀(k:Nat) (l:List Nat),sx l->sy k l<18446744073709551616
 |0,_,h=>h 0
 |k+1,l,_=>TF k (uT l)<|aal l
def anV(l:List Nat):kA (oD l 0)=zA:=by rfl
def anW{P:ByteArray}(d f g p r s x y z C D E F G I J:Nat)(Y:(kA jJ).toArray=#[Â Æ d,Â Æ f,Â Æ g,Â Æ p,Â Æ r,Â Æ s,Â Æ x,Â Æ y,Â Æ z,Â Æ C,Â Æ D,Â Æ E,Â Æ F,Â Æ G,Â Æ I,Â Æ J])(hl:jJ.length=16)(hB:m<18446744073709551616)(hP:P.size<=1000000)(hs:sx jJ) (K:w.cell? ⟨n,j,Ä⟩=Ã (Â Æ m)) (c1:w.cell? ⟨n,j+1,Ä⟩=Ã (Í P)) (r0:w.cell? ⟨n,j+2,Ä⟩=Ã (Â Æ d)) (r1:w.cell? ⟨n,j+2+1,Ä⟩=Ã (Â Æ f)) (r2:w.cell? ⟨n,j+2+2,Ä⟩=Ã (Â Æ g)) (r3:w.cell? ⟨n,j+2+3,Ä⟩=Ã (Â Æ p)) (r4:w.cell? ⟨n,j+2+4,Ä⟩=Ã (Â Æ r)) (r5:w.cell? ⟨n,j+2+5,Ä⟩=Ã (Â Æ s)) (r6:w.cell? ⟨n,j+2+6,Ä⟩=Ã (Â Æ x)) (r7:w.cell? ⟨n,j+2+7,Ä⟩=Ã (Â Æ y)) (r8:w.cell? ⟨n,j+2+8,Ä⟩=Ã (Â Æ z)) (r9:w.cell? ⟨n,j+2+9,Ä⟩=Ã (Â Æ C)) (r10:w.cell? ⟨n,j+2+10,Ä⟩=Ã (Â Æ D)) (r11:w.cell? ⟨n,j+2+11,Ä⟩=Ã (Â Æ E)) (r12:w.cell? ⟨n,j+2+12,Ä⟩=Ã (Â Æ F)) (r13:w.cell? ⟨n,j+2+13,Ä⟩=Ã (Â Æ G)) (r14:w.cell? ⟨n,j+2+14,Ä⟩=Ã (Â Æ I)) (r15:w.cell? ⟨n,j+2+15,Ä⟩=Ã (Â Æ J)): Ò À 161 #[Å<|Ã ⟨n,j,Ä⟩] w λe c=>e=È (Â Æ<|Dv m P jJ)/\e8 (λ_=>False) w c:=by
 have gK:=á w _ K;have L1:∀a,Ds n j w.heap.size #[Â Æ d,Â Æ f,Â Æ g,Â Æ p,Â Æ r,Â Æ s,Â Æ x,Â Æ y,Â Æ z,Â Æ C,Â Æ D,Â Æ E,Â Æ F,Â Æ G,Â Æ I,Â Æ J] (0:Nat) a->Î À (à JG) (QQ<|AE n j w.heap.size jJ<|w.alloc<|Ð zA.toArray 118) a (w.alloc<|Ð zA.toArray 118):=λa L=>
  anP hs hl (by rw[anV];exact ff.N w zA 118)<|by rwa[Y]
 have M:∀W,ff w.heap.size (kA<|oD jJ 16) 118 W->Ò À 162 #[Ê (Ã ⟨w.heap.size,0,Ä⟩) 16 16] W λe c=>e=È (Â Æ<|sy 4<|oD jJ 16)/\e8 (λi=>i=w.heap.size) W c:=λW hW=>by have t:=aan (w:=W) (b:=w.heap.size) (cp:=16) (k:=4) (T:=118) (l:=oD jJ 16) (junk:=[]) (by rw[JH]) (by rw[JH];omega) (by rw[JH];omega) (aaq jJ) (by rwa[ò]);rwa[JH]at t
 have N:=TF 4 (oD jJ 16)<|aaq jJ;obtain⟨t,O⟩:∃t,sy 4 (oD jJ 16)=t:=⟨_,U⟩;have hac:Dv m P jJ=zS (oC (lf m) t) P.data.toList:=by unfold Dv;rw[O]
 rw[hac];rw[O]at M N;have L2:∀W a,W.cell? ⟨n,j+1,Ä⟩=Ã (Í P)->Du n j P (oC (lf m) t) (0:Nat) a->Î À (à JJ) (Q2<|BE n j P W<|zS (oC (lf m) t) P.data.toList) a W:=λW a h L=>
  anU hP (FX _ _<|Ns m) h L
 have C1:∀W,Ò À 177 #[Â Æ 14695981039346656037,Â Æ m] W λe c=>e=È (Â Æ<|lf m)/\c=W:=λW=>by rw[<-aao];exact Jy 14695981039346656037 m Z hB W
 have C2:∀W,Ò À 177 #[Â Æ<|lf m,Â Æ t] W λe c=>e=È (Â Æ<|oC (lf m) t)/\c=W:=λW=>Jy (lf m) t (Ns m) N W;have H:=fc<|Á K<|Á c1<|Á L1<|Á M<|Á L2<|Á C1 C2;clear L1 M L2 C1 C2 hac O N hs K c1 Y;generalize zS (oC (lf m) t) P.data.toList=res at*;generalize oC (lf m) t=n2 at*;generalize lf m=n1 at*;go_enter Tryz.func161,Tryz.ntmps161;go_wp2_with fail;refine Ý (Q:=QQ<|AE n j w.heap.size jJ<|w.alloc<|Ð zA.toArray 118) ?_ (H.out.2.2.1 _ (gk _));rintro(_|(_|_)|_|_|_|_) a v hq;all_goals first|exact absurd hq id|skip
 let⟨S,hk,hBv⟩:=hq;have V:e8 (λ_=>False) w v:=(e8.gG (λ_=>False) w zA.toArray 118).C hk λi hi q=>by omega
 have g0:=V.r H.out.1 id;obtain⟨u,rfl⟩:=S;unfold F0;have HV:=fc<|Á V hBv;clear V hBv hk r0 r1 r2 r3 r4 r5 r6 r7 r8 r9 r10 r11 r12 r13 r14 r15;go_wp2_with (first
  |(go_at_call 162;refine(H.out.2.2.2.1 _ HV.out.2).mono ?_;rintro e w2 ⟨rfl,zf⟩;have X:=HV.out.1.C zf (λi hi q=>by omega);have g1:=X.r H.out.2.1 id;have HK:=fc X;clear zf X)
  |(go_at_call 177;with_reducible refine(H.out.2.2.2.2.2.2 _).mono ?_;rintro e X ⟨rfl,rfl⟩)
  |(go_at_call 177;refine(H.out.2.2.2.2.2.1 _).mono ?_;rintro e X ⟨rfl,rfl⟩))
 refine Ý (Q:=Q2<|BE n j P _ res) ?_ (H.out.2.2.2.2.1 _ _ g1 (gk _));rintro(_|(_|_|_|_)|_|_|_|_) a v2 hq;all_goals first|exact absurd hq id|skip
 obtain⟨S,rfl⟩:=hq;obtain⟨u,rfl⟩:=S;unfold F1;go_wp2_with fail;go_ret;exact⟨U,HK.out⟩
def anX{P:ByteArray}(c:j<18446744073709551616)(d:P.size<=1000000)(f:jJ.length=16)(g:sx jJ) (h:w.cell? ⟨i,n,Ä⟩=Ã (Â Æ j)) (k:w.cell? ⟨i,n+1,Ä⟩=Ã (Í P)) (b:∀(a x:Nat),jJ[a]?=Ã x->w.cell? ⟨i,n+2+a,Ä⟩=Ã (Â Æ x)): Ò À 161 #[Å<|Ã ⟨i,n,Ä⟩] w λe l=>e=È (Â Æ<|Dv j P jJ)/\e8 (λ_=>False) w l:=by
 match jJ,f with
 |[a0,a1,a2,a3,a4,a5,a6,a7,a8,a9,a10,a11,a12,a13,a14,a15],_=>exact anW a0 a1 a2 a3 a4 a5 a6 a7 a8 a9 a10 a11 a12 a13 a14 a15 fN fN c d g h k (b 0 a0 U) (b 1 a1 U) (b 2 a2 U) (b 3 a3 U) (b 4 a4 U) (b 5 a5 U) (b 6 a6 U) (b 7 a7 U) (b 8 a8 U) (b 9 a9 U) (b 10 a10 U) (b 11 a11 U) (b 12 a12 U) (b 13 a13 U) (b 14 a14 U)<|b 15 a15 U
abbrev zB:List Ç:=[Â Æ 0,Â Æ 0,Â Æ 0,Â Æ 0,Â Æ 0,Â Æ 0,Â Æ 0,Â Æ 0]
noncomputable def Nv:ŏ:=(Tryz.f122.body.bind ku).getD Ķ
def F2(a b:Nat)(i:Int)(u:Nat->Ç):é:=⟨#[Å<|Ã ⟨a,0,Ä⟩,u 1,u 2,Å<|Ã ⟨b,0,Ä⟩,u 4,Â Ë i,u 6,u 7,u 8,u 9,u 10,u 11,u 12,u 13,u 14,u 15,u 16,u 17],[]⟩
def F3(c b:Nat)(i:Int)(a:é):Prop:=∃u,a=F2 c b i u
section
variable{X:é->É->Prop}
def anY(u:Nat->Ç)(c:∀a,F3 i b 8 a->X a w): Î À Nv (Exit.then K<|QQ X) (F2 i b 8 u) w:=by
 unfold F2;conv=>arg 2;whnf
 go_wp2_with fail
 exact c _ (gk _)
def anZ(c z:Nat)(o:c<8)(T:Ò À 161 #[Å<|Ã ⟨i,c*18,Ä⟩] w λe j=>e=È (Â Æ z)/\e8 (λ_=>False) w j)(g:List Ç)(h:Ç)(k:g[c]?=Ã h)(l:ff b g 116 w)(u:Nat->Ç) (m:∀a f,F3 i b ((c+1:Nat):Int) a->e8 (λ_=>False) w f->K a (f.setCell ⟨b,c,Ä⟩<|Â Æ z)): Î À Nv (Exit.then K<|QQ X) (F2 i b c u) w:=by
 unfold F2;conv=>arg 2;whnf
 have H:=fc<|Á T<|Á m l;go_wp2_with (go_at_call 161;apply H.out.1.mono;rintro e f ⟨rfl,d⟩;have p:=(H.out.2.2.I d id).r c h k;have q:=(H.out.2.2.I d id).C c;have n:=fc d;clear d);exact H.out.2.1 _ _ (gk _) n.out
def qG(D:Nat->Nat)(i:Nat):List Nat:=(ċ 8).map λt=>if t<i then D t else 0
def JK(D:Nat->Nat)(i:Nat):(qG D i).length=8:=by simp[qG]
def aat(D:Nat->Nat)(i t:Nat)(h:t<8):(qG D i)[t]?=Ã (if t<i then D t else 0):=by simp[qG,û h]
theorem an0(D:Nat->Nat)(i:Nat)(h:i<8):(qG D i).set i (D i)=qG D (i+1):=by refine þ λt=> ?_;grind [aat,JK,ĕ]
def aau(b:∀i,D i<18446744073709551616):sx (qG D 8):=Nq Z λx a=>by
 unfold qG at a;obtain⟨t,_,rfl⟩:=ņ.1 a;split
 .exact b _
 .omega
def an1(D:Nat->Nat):kA (qG D 0)=zB:=by rfl
def DI(i b:Nat)(D:Nat->Nat)(d:É)(a:é)(w:É):Prop:=
 ∃c:Nat,F3 i b c a/\c<=8/\e8 (λk=>k=b) d w/\ff b (kA<|qG D c) 116 w
def DE(i b:Nat)(D:Nat->Nat)(c:É)(a:é)(w:É):Prop:=
 F3 i b 8 a/\e8 (λk=>k=b) c w/\ff b (kA<|qG D 8) 116 w
def Nw(a:é)(_:É):Nat:=match a.tmps.getD 5 Ă with
 |Â _ i=>8-i.toNat
 |_=>0
def aav(c:F3 i b n y):Nw y w=8-n:=by obtain⟨u,rfl⟩:=c;show 8-(n:Int).toNat=_;simp
def an2(C:∀c,c<8->∀W,e8 (λk=>k=b) u W->Ò À 161 #[Å<|Ã ⟨i,c*18,Ä⟩] W λe f=>e=È (Â Æ<|D c)/\e8 (λ_=>False) W f)(a:é)(w:É)(m:DI i b D u a w): Î À Nv (Exit.then (λd f=>DI i b D u d f/\Nw d f<Nw a w)<|QQ<|DE i b D u) a w:=by
 let⟨c,j,o,g,h⟩:=m;rw[aav j];obtain⟨d,rfl⟩:=j;by_cases n:c=8
 .subst n;exact anY d λa q=>⟨q,g,h⟩
 .refine anZ c (D c) Z (C c Z w g) _ _ (JD _ _ _<|by rw[aat D c c Z,if_neg Z]) h d λa p q l=>⟨⟨c+1,q,Z,(g.fe<|l.S λ_ _=>Ě).fe (e8.I (X:=λk=>k=b) U _),?_⟩,by rw[aav q];omega⟩;rw[<-an0 D c Z,TD];exact(h.I l id).fQ c<|Â Æ<|D c
end
def Nx(D:Nat->Nat):Nat:=sy 3<|qG D 8
def an3(h:∀b,D b<18446744073709551616)(C:∀b,b<8->∀W,e8 (λk=>k=w.heap.size) (w.alloc<|Ð zB.toArray 116) W->Ò À 161 #[Å<|Ã ⟨i,b*18,Ä⟩] W λe c=>e=È (Â Æ<|D b)/\e8 (λ_=>False) W c): Ò À 122 #[Å<|Ã ⟨i,0,Ä⟩] w λe c=>e=È (Â Æ<|Nx D)/\e8 (λ_=>False) w c:=by
 have L:∀a,F3 i w.heap.size (0:Nat) a->Î À (à Nv) (QQ<|DE i w.heap.size D<|w.alloc<|Ð zB.toArray 116) a (w.alloc<|Ð zB.toArray 116):=λa j=>
  ĉ (DI i w.heap.size D<|w.alloc<|Ð zB.toArray 116) Nw ⟨0,j,â _,e8.fW _ _,by rw[an1];exact ff.N w zB 116⟩<|an2 C
 have T:∀W,ff w.heap.size (kA<|qG D 8) 116 W->Ò À 162 #[Ê (Ã ⟨w.heap.size,0,Ä⟩) 8 8] W λe c=>e=È (Â Æ<|sy 3<|qG D 8)/\e8 (λb=>b=w.heap.size) W c:=λW l=>by have t:=aan (cp:=8) (k:=3) (by rw[JK]) (by rw[JK];omega) (by rw[JK];omega) (aau h) (by rwa[ò]);rwa[JK]at t
 unfold Nx;have H:=fc<|Á L T;generalize sy 3 (qG D 8)=t at*;go_enter Tryz.func122,Tryz.ntmps122;go_wp2_with fail;refine Ý (Q:=QQ<|DE i w.heap.size D<|w.alloc<|Ð zB.toArray 116) ?_ (H.out.1 _ (gk _));rintro(_|(_|_)|_|_|_|_) a v hq;all_goals first|exact absurd hq id|skip
 let⟨m,n,o⟩:=hq;have p:=(e8.gG (λ_=>False) w zB.toArray 116).C n λb r q=>by omega
 obtain⟨u,rfl⟩:=m;unfold F2;have d:=fc<|Á p o;go_wp2_with (go_at_call 162;refine(H.out.2 _ d.out.2).mono ?_;rintro e x ⟨rfl,f⟩;have g:=d.out.1.C f (λb r q=>by omega);have s:=fc g;clear f g);go_ret;exact⟨U,s.out⟩
def JL(a:Jf):List Nat:=(ċ 16).map λj=>(a.C j).toNat
def aaw(a:Jf):Nat:=Dv a.fu.toNat a.r<|JL a
def ya(s:St):Nat:=Nx λi=>aaw<|s i
def an4(l:List UInt8):∀n,n<18446744073709551616->zS n l<18446744073709551616:=by
 induction l with
 |nil=>exact λn h=>h
 |cons c r h=>exact λn _=>h _<|Nl _ _
theorem aax(B:Nat)(P:ByteArray)(a:List Nat):Dv B P a<18446744073709551616:=by unfold Dv;grind [an4,FX,Ns]
def TG(s:St)(h:i<144):(iy s)[i]?=Ã (qB s i):=by simp[iy,û h]
def mA.an5{s:St}(m:mA n s h W)(a:gJ s)(i:Nat)(f:i<8): Ò À 161 #[Å<|Ã ⟨n,i*18,Ä⟩] W λe b=>e=È (Â Æ<|aaw<|s i)/\e8 (λ_=>False) W b:=by
 have g:=λj d=>by have:=m.C j _<|TG s d;simpa using this
 have b:=a.fu i;have k:=g (i*18) Z;have l:=g (i*18+1) Z;rw[<-rz s (Ê Ä 0 0) Z,Jh _ _ f]at k;rw[<-rz s (Ê Ä 0 0) Z,M3 _ _ f]at l;refine anX (by have e:=b.1;have c:=b.2;omega) (by have:=(a.I i).1;omega) (by simp[JL]) ?_ ?_ l ?_
 .refine Nq Z λx e=> ?_;unfold JL at e;obtain⟨t,_,rfl⟩:=ņ.1 e;have c:=(a.C i t).2;omega
 .rw[k];unfold qA;rw[Ĕ b.1]
 .intro j x e;have d:j<16:=by have:=(Ü.1 e).1;simpa[JL]using this
  have c:=g (i*18+2+j) Z;rw[<-rz s (Ê Ä 0 0) Z,M4 _ _ f d]at c;have t:((s i).C j).toNat=x:=by simpa[JL,û d]using e
  rw[c,<-t];unfold qA;rw[Ĕ (a.C i j).1]
def an6{s:St}(b:mA i s h w)(c:gJ s): Ò À 122 #[Å<|Ã ⟨i,0,Ä⟩] w λe d=>e=È (Â Æ<|ya s)/\e8 (λ_=>False) w d:=an3 (λa=>aax _ _ _) λa f W k=>((b.r (e8.gG (λ_=>False) w _ _) id).r k<|by show i≠w.heap.size;exact Nat.ne_of_lt<|á w _ b.h).an5 c a f
def kl(i:Nat):St:=λj=>⟨if j<i then 1000 else 0,⟨#[]⟩,λ_=>0⟩
theorem an7(i:Nat):kl (i+1)=(kl i).fu i 1000:=by funext j;unfold kl St.fu St.fQ;grind
def an8(s:St)(a:i<8)(x:Int):(iy s).set (i*18) (Â Æ x)=iy (s.fu i x):=by have h:=y_ s (Ê Ä 0 0) a x;rw[zP,zP,ğ _ _ (by rw[sw];omega)]at h;exact List.append_cancel_right h
def an9(s:St)(a:i<8):(iy s)[i*18]?=Ã (Â Æ (s i).fu):=by rw[TG s Z,<-rz s (Ê Ä 0 0) Z,Jh _ _ a];rfl
noncomputable def Ny:ŏ:=(Tryz.f60.body.bind ku).getD Ķ
def F4(r b:Nat)(i:Int)(u:Nat->Ç):é:=⟨#[Å<|Ã ⟨r,0,Ä⟩,Å<|Ã ⟨b,0,Ä⟩,u 2,Â Ë i,u 4,u 5,u 6,u 7,u 8,u 9,u 10],[]⟩
def F5(r b:Nat)(i:Int)(a:é):Prop:=∃u,a=F4 r b i u
section
variable{X:é->É->Prop}
def aoa(u:Nat->Ç)(c:∀a,F5 i b 8 a->X a w): Î À Ny (Exit.then K<|QQ X) (F4 i b 8 u) w:=by
 unfold F4;conv=>arg 2;whnf
 go_wp2_with fail
 exact c _ (gk _)
def aob(c:Nat)(g:c<8)(e:Ç)(h:w.cell? ⟨b,c*18,Ä⟩=Ã e)(j:w.frozen? ⟨b,c*18,Ä⟩=Ï)(u:Nat->Ç) (d:∀a,F5 i b ((c+1:Nat):Int) a->K a (w.setCell ⟨b,c*18,Ä⟩<|Â Æ 1000)): Î À Ny (Exit.then K<|QQ X) (F4 i b c u) w:=by
 unfold F4;conv=>arg 2;whnf
 have f:=fc d;clear d;go_wp2_with fail;exact f.out _ (gk _)
def TH(i b:Nat)(d:É)(a:é)(w:É):Prop:=∃c:Nat,F5 i b c a/\c<=8/\e8 (λk=>k=b) d w/\ff b (iy<|kl c) 140 w
def FE0(i b:Nat)(c:É)(a:é)(w:É):Prop:=F5 i b 8 a/\e8 (λk=>k=b) c w/\ff b (iy<|kl 8) 140 w
def Nz(a:é)(_:É):Nat:=match a.tmps.getD 3 Ă with
 |Â _ i=>8-i.toNat
 |_=>0
def aay(c:F5 i b n y):Nz y w=8-n:=by obtain⟨u,rfl⟩:=c;show 8-(n:Int).toNat=_;simp
theorem aoc(a:é)(w:É)(h:TH i b u a w): Î À Ny (Exit.then (λc d=>TH i b u c d/\Nz c d<Nz a w)<|QQ<|FE0 i b u) a w:=by
 let⟨c,f,l,g,e⟩:=h;rw[aay f];obtain⟨d,rfl⟩:=f;by_cases j:c=8
 .subst j;exact aoa d λa q=>⟨q,g,e⟩
 .refine aob c Z _ (e.r _ _<|an9 _ Z) (e.C _) d λa q=>⟨⟨c+1,q,Z,g.fe (e8.I (X:=λk=>k=b) U _),?_⟩,by rw[aay q];omega⟩;have k:=e.fQ (c*18)<|Â Æ 1000;grind [an8,an7]
end
def aod:(À.info? 140).map (λi=>(i.size,i.zero.map λz=>z.cells.toList))=Ã (144,Ã<|iy<|kl 0):=fp
def aoe(s:St):∀v∈iy s,v.oneCell'=Ú:=λv a=>Tf s (lv:=Ê Ä 0 0) U v<|by rw[zP];exact œ _ a
def aof(w:É):Ò À 60 #[] w λe l=>e=È (Ē (iy<|kl 8).toArray)/\e8 (λ_=>False) w l:=by
 let⟨m,n,o⟩:=Ì.1 Ty;let⟨O,h,c⟩:=Ì.1 aod;simp only[Prod.mk.injEq]at c;let⟨p,r⟩:=c;let⟨t,x,y⟩:=Ì.1 r;have z:t.cells=(iy<|kl 0).toArray:=by rw[<-y]
 have B:∀s,(À.info? 140).map (·.size)=Ã (iy s).length:=λs=>by rw[h,sw];simp[p]
 have L:∀W a,ff (w.heap.size+1) (iy<|kl 0) 140 W->F5 w.heap.size (w.heap.size+1) (0:Nat) a->Î À (à Ny) (QQ<|FE0 w.heap.size (w.heap.size+1) W) a W:=λW a f C=>
  ĉ (TH w.heap.size (w.heap.size+1) W) Nz ⟨0,C,â _,e8.fW _ _,f⟩ aoc
 have j:=e8.gG (λ_=>False) (w.alloc<|Ð (iy<|kl 0).toArray 140) (iy<|kl 0).toArray 140;have D:=(ff.N w (iy<|kl 0) 140).I j id;have E:ff (w.heap.size+1) (iy<|kl 0) 140 ((w.alloc<|Ð (iy<|kl 0).toArray 140).alloc<|Ð (iy<|kl 0).toArray 140):=by have:=ff.N (w.alloc<|Ð (iy<|kl 0).toArray 140) (iy<|kl 0) 140;simpa using this
 have b:=fc<|Á n<|Á o<|Á h<|Á x<|Á z B;have H:=fc (Á L<|Á ((e8.gG (λ_=>False) w (iy<|kl 0).toArray 140).fe j)<|Á D E);go_enter Tryz.func60,Tryz.ntmps60;go_wp2_with (first
  |(with_reducible refine ć U (Ã 0) U _ _ (Tb U b.out.2.2.1 b.out.2.2.2.1) ?_;rw[b.out.2.2.2.2.1])
  |(with_reducible refine ć U (Ã 1) U _ _ (Tb U b.out.2.2.1 b.out.2.2.2.1) ?_;rw[b.out.2.2.2.2.1]))
 refine Ý ?_ (H.out.1 _ _ H.out.2.2.2 (gk _));rintro(_|(_|_)|_|_|_|_) a v c;all_goals first|exact absurd c id|skip
 let⟨F,k,f⟩:=c;have g:=H.out.2.2.1.I k Z;obtain⟨u,rfl⟩:=F;unfold F4;have G:=ff.Y (by rw[ò];exact f);have I:v.there w.heap.size 0 (iy<|kl 8).toArray.size:=g.Td (by simp[sw]);have J:=Nd (iy<|kl 8) [] [] v (iy<|kl 0) (by rw[sw,sw]) (by simpa using g);have K:=(H.out.2.1.C k λi M q=>by omega).C (Jp (iy<|kl 8) 0 v g.G) λi M q=>by omega
 have d:=fc<|Á K<|Á J<|Á G I;go_wp2_with (first
  |(with_reducible refine Ė U 140 _ U (w.heap.size+1) 0 U (iy<|kl 8) m d.out.2.2.1 b.out.1 b.out.2.1 (b.out.2.2.2.2.2 _) ?_)
  |(with_reducible refine ľ U 140 _ _ U w.heap.size 0 (iy (kl 8)).toArray U U d.out.2.2.2 (by rw[b.out.2.2.2.2.2 (kl 8)];simp) (Ī (aoe _)) ?_))
 have N:ff w.heap.size (iy (kl 8)++[]) 140 (v.setCells w.heap.size 0<|iy<|kl 8):=by simpa using d.out.2.1
 refine ð (Tg U U (ff.Y N) b.out.1 b.out.2.1<|b.out.2.2.2.2.2 _) U<|⟨U,d.out.1⟩
structure fH where
 s:St
 r:List (Nat×Int)
 C:List (Int×Bool)
 h:Int
def zU(a:Ą)(k:Nat)(d:List Ç)(w:É):Prop:=
 ∃p c,w.cell? a=Ã (Ê p k c)/\∀(j:Nat) (x:Ç),d[j]?=Ã x->∃b o,p=Ã ⟨b,o,Ä⟩/\w.cell? ⟨b,o+j,Ä⟩=Ã x
def zU.r(h:zU a k l w)(q:e8 (λ_=>False) w u):zU a k l u:=by let⟨p,c,d,e⟩:=h;exact⟨p,c,q.r d id,λj x f=>by let⟨b,o,g,i⟩:=e j x f;exact⟨b,o,g,q.r i id⟩⟩
structure sB(b:Nat)(v:fH)(w:É):Prop where
 r:mA b v.s v.h w
 C:gJ v.s
 I:0<=v.h
 M:v.h<=40
 N:zU ⟨b,144,Ä⟩ v.r.length (kt v.r) w
 S:zU ⟨b,146,Ä⟩ v.C.length (uR v.C) w
def sB.Y{v:fH}(h:sB b v w)(q:e8 (λ_=>False) w u):sB b v u:= ⟨h.r.r q id,h.C,h.I,h.M,h.N.r q,h.S.r q⟩
structure qH(bp:Option Ą)(n:Nat)(vs:List (Nat×fH))(w:É):Prop where
 r:n=vs.length
 C:∀(j b:Nat) (v:fH),vs[j]?=Ã (b,v)->∃sb so,bp=Ã ⟨sb,so,Ä⟩/\w.cell? ⟨sb,so+j,Ä⟩=Ã (Å<|Ã ⟨b,0,Ä⟩)/\sB b v w
def qH.I{a:List (Nat×fH)}(h:qH O n a w)(q:e8 (λ_=>False) w u):qH O n a u:= ⟨h.r,λj b v e=>by let⟨c,d,f,g,i⟩:=h.C j b v e;exact⟨c,d,f,q.r g id,i.Y q⟩⟩
def yb(a b:Nat×fH):Nat×fH:=if a.2.h<b.2.h then b else a
def tH(d:Nat×fH)(a:List (Nat×fH)):Nat×fH:=a.foldl yb d
noncomputable def NA:ŏ:=(Tryz.f153.body.bind ku).getD Ķ
def F6(a:Option Ą)(n b:Nat)(c:Nat)(i:Int)(u:Nat->Ç):é:=⟨#[Ê a n b,Ă,Å Ä,Å<|Ã ⟨c,0,Ä⟩,u 4,u 5,u 6,u 7,u 8,Ê a n b,Â Ë n,Â Ë i,u 12,u 13,u 14,u 15,u 16,u 17,u 18,u 19,u 20,u 21,u 22,u 23,u 24,u 25,u 26],[]⟩
def JN(b:Option Ą)(n c:Nat)(d:Nat)(i:Int)(a:é):Prop:=∃u,a=F6 b n c d i u
section
variable{X:é->É->Prop}{bp:Option Ą}{cp:Nat}
def aog(u:Nat->Ç)(b:Int)(c:b=n)(d:∀a,JN bp n cp i b a->X a w): Î À NA (Exit.then K<|QQ X) (F6 bp n cp i b u) w:=by
 unfold F6;conv=>arg 2;whnf
 subst c;go_wp2_with fail;exact d _ (gk _)
def aoh(u:Nat->Ç)(c:Int)(j:Nat)(o:c=j)(q:j<n)(r:n<=1000)(h k b:Nat)(p:bp=Ã ⟨h,k,Ä⟩)(s:w.cell? ⟨h,k+j,Ä⟩=Ã (Å<|Ã ⟨b,0,Ä⟩))(e f:Int)(t:w.cell? ⟨b,145,Ä⟩=Ã (Â Ë e))(v:w.cell? ⟨i,145,Ä⟩=Ã (Â Ë f)) (d:∀a m,JN bp n cp (if f<e then b else i) (c+1) a->K a (w.drewN m)): Î À NA (Exit.then K<|QQ X) (F6 bp n cp i c u) w:=by
 unfold F6;conv=>arg 2;whnf
 subst o p;by_cases l:f<e
 .rw[if_pos l]at d;have g:=fc d;clear d;go_wp2_with fail;go_quiet (fail);go_wp2_with fail;exact g.out _ _ (gk _)
 .rw[if_neg l]at d;have g:=fc d;clear d;go_wp2_with fail;go_quiet (fail);go_wp2_with fail;exact g.out _ _ (gk _)
def HI(bp:Option Ą)(n cp:Nat)(vs:List (Nat×fH))(b:É)(c:Nat×fH)(a:é)(w:É):Prop:=
 ∃(j:Nat) (d:Nat×fH),JN bp n cp d.1 j a/\j<=n/\e8 (λ_=>False) b w/\sB d.1 d.2 b/\tH d (vs.drop j)=c
def HE(bp:Option Ą)(n cp:Nat)(b:É)(c:Nat×fH)(a:é)(w:É):Prop:=JN bp n cp c.1 n a/\e8 (λ_=>False) b w
def TJ(n:Nat)(a:é)(_:É):Nat:=match a.tmps.getD 11 Ă with
 |Â _ i=>n-i.toNat
 |_=>0
theorem aoi{f:List (Nat×fH)}{i:Nat×fH}(k:qH bp n f W)(t:n<=1000)(a:é)(w:É)(x:HI bp n cp f W i a w): Î À NA (Exit.then (λl b=>HI bp n cp f W i l b/\TJ n l b<TJ n a w)<|QQ<|HE bp n cp W i) a w:=by
 let⟨j,d,y,H,c,z,g⟩:=x;obtain⟨u,rfl⟩:=y;by_cases o:j=n
 .rw[(ę<|by rw[<-k.r];omega)]at g;subst g;refine aog u j (by rw[o]) λa b=>⟨?_,c⟩;rwa[o]at b
 .have r:j<n:=Z
  obtain⟨⟨b,v⟩,s⟩:∃p,f[j]?=Ã p:=⟨_,Ô<|by rwa[<-k.r]⟩;let⟨B,C,D,E,F⟩:=k.C j b v s;let⟨G,e⟩:=Ü.1 s;rw[ē G,e]at g;refine aoh u j j U r t B C b D (c.r E id) v.h d.2.h (c.r F.r.h id) (c.r z.r.h id) λl m q=> ?_;have I:yb d (b,v)=(if d.2.h<v.h then b else d.1,if d.2.h<v.h then v else d.2):=by unfold yb;split<;>rfl
  refine⟨⟨j+1,yb d (b,v),?_,Z,c.fe<|e8.iR _ _ _,?_,g⟩,?_⟩
  .grind
  .grind
  .obtain⟨v,rfl⟩:=q;show n-((j:Int)+1).toNat<n-((j:Int)).toNat;omega
def aoj{b:List (Nat×fH)}{d:Nat×fH}(c:qH bp n b w)(g:n<=1000)(f:b[0]?=Ã d): Ò À 153 #[Ê bp n cp] w λe a=>e=È (Å<|Ã ⟨(tH d b).1,0,Ä⟩)/\e8 (λ_=>False) w a:=by
 let⟨l,m,e,h,i⟩:=c.C 0 d.1 d.2 f;have o:0<n:=by rw[c.r];exact(Ü.1 f).1
 have L:∀a,JN bp n cp d.1 0 a->Î À (à NA) (QQ<|HE bp n cp w<|tH d b) a w:=λa j=>
  ĉ (HI bp n cp b w<|tH d b) (TJ n) ⟨0,d,j,â _,e8.fW _ _,i,U⟩<|aoi c g
 subst e;generalize tH d b=r at*;simp only[Nat.add_zero]at h;go_enter Tryz.func153,Tryz.ntmps153;go_wp2_with fail;refine Ý ?_ ((fc L).out _ (gk _));rintro(_|(_|_)|_|_|_|_) a v hq;all_goals first|exact absurd hq id|skip
 let⟨k,p⟩:=hq;obtain⟨u,rfl⟩:=k;unfold F6;go_wp2_with fail;go_ret;simp_all
end
def mb(a:List (Nat×fH))(b:Int):Option (Nat×fH):=
 if b=-1 then(a[0]?).map λd=>tH d a else a[b.toNat]?
def jY(b:Option Nat):Ç:=Å<|b.map λb=>⟨b,0,Ä⟩
section
variable{cp:Nat}{a:List (Nat×fH)}
def NB(f:qH O n a w)(i:n<=1000)(j:0<n)(c:Int)(m:-1<=c): Ò À 113 #[Ê O n cp,Â Ë c] w λe b=>e=È (jY ((mb a c).map (·.1)))/\e8 (λ_=>False) w b:=by
 by_cases h:c=-1
 .subst h;obtain⟨d,b⟩:∃d,a[0]?=Ã d:=⟨_,Ô<|by rwa[<-f.r]⟩;have e:mb a (-1)=Ã (tH d a):=by unfold mb;rw[if_pos U,b];rfl
  rw[e];go_enter Ż,Ŧ;go_wp2_with (go_at_call 153;refine(fc<|aoj (cp:=cp) f i b).out.mono ?_;rintro e k ⟨rfl,g⟩);go_ret;exact⟨U,g⟩
 .obtain⟨k,rfl⟩:∃k:Nat,c=k:=⟨c.toNat,Z⟩;have e:mb a (k:Int)=a[k]?:=by unfold mb;rw[if_neg h,Ŷ]
  rw[e];by_cases g:k<n
  .obtain⟨⟨b,v⟩,d⟩:∃p,a[k]?=Ã p:=⟨_,Ô<|by rwa[<-f.r]⟩;let⟨o,q,l,r,s⟩:=f.C k b v d;rw[d];subst l;go_enter Ż,Ŧ;go_wp2_with fail;go_ret;exact⟨U,e8.fW _ _⟩
  .rw[(List.getElem?_eq_none<|by rw[<-f.r];omega)];go_enter Ż,Ŧ;go_wp2_with fail;go_ret;exact⟨U,e8.fW _ _⟩
end
def aaz(a:List (Nat×fH)):∀(l:List (Nat×fH)) (d:Nat×fH),d∈a->(∀x∈l,x∈a)->tH d l∈a
 |[],d,hd,_=>hd
 |x::l,d,hd,hl=>by
  show tH (yb d x) l∈a;refine aaz a l _ ?_ λy b=>hl y<|Ś _ b;unfold yb;split
  .exact hl x List.mem_cons_self
  .exact hd
theorem JO{a:List (Nat×fH)}{p:Nat×fH}(h:mb a c=Ã p):p∈a:=by unfold mb at h;grind [Ì,aaz,List.mem_of_getElem]
def qH.M{a:List (Nat×fH)}(h:qH O n a w){p:Nat×fH}(b:p∈a):sB p.1 p.2 w:=by let⟨j,c⟩:=List.getElem?_of_mem b;let⟨_,_,_,_,d⟩:=h.C j p.1 p.2 c;exact d
theorem aaA(c:w.cell? ⟨b,i,Ä⟩=Ã v)(h:w.ownsRow 0 e j v n l):zU ⟨b,i,Ä⟩ n l w:=by
 rcases h.2 with⟨rfl,rfl⟩|⟨g,f,k,rfl,_,m,_,_,_,o⟩
 .have d:=ß (by simpa using h.1);subst d;exact⟨Ä,0,c,λa x q=>by simp at q⟩
 .refine⟨_,_,c,λa x q=>⟨g,0,U,?_⟩⟩;have:=h.cells U a x q;grind [Addr.add_mid]
def NX.aol{s:St}{b:List (Nat×Int)}{c:List (Int×Bool)}(x:NX i h v z s b c u w)(d:gJ s)(e:0<=h)(f:h<=40):sB i ⟨s,b,c,h⟩ w:=by have a:ff i (jc s v++[Â Ë h,z]) 147 w:=x.r;refine⟨⟨?_,a.r 145 _<|by rw[ü (by rw[mL];omega),mL];rfl⟩,d,e,f,aaA x.r.Dj x.C,aaA x.G x.I⟩;rw[zP,Ċ]at a;exact a.Y
def aom:(À.info? 136).map (λi=>(i.zero,i.size,i.bytes))=Ã (Ã<|Å Ä,1,8):=fp
def aon{p:Array ş}{r:List ş}(C:o.guard=Ä)(s x:Ů)(t:ô) (D:o.op=aG {callee:=.builtin .append,args:=#[s,x],argTypes:=#[t,t]}) (E:P.underlying t=Ã (bq e)) (F:P.info? e=Ã zJ) (G:zJ.zero=Ã z) (B:zJ.size=1) (H:zJ.bytes=8) (g k n:Nat) (b:List Ç) (I:b.length=n) (J:∀j v,b[j]?=Ã v->w.cell? ((⟨g,k,Ä⟩:Ą).add j)=Ã v) (L:y.eval s=Ê (Ã ⟨g,k,Ä⟩) n n) (l:Nat) (v:Ç) (M:y.eval x=Ê (Ã ⟨l,0,Ä⟩) 1 1) (N:∀j u,[v][j]?=Ã u->w.cell? ((⟨l,0,Ä⟩:Ą).add j)=Ã u) (X:n<=1000) (O:ml e=Ï) (h:∀c f,n+1<=c->e8 (λ_=>False) w f->(∃m:Array Ç,f.heap[w.heap.size]?=Ã (Ð m e (0,0))/\0<m.size/\∀u∈m.toList,u∈b\/u=v\/u∈z.cells.toList)->(∀j u,(b++[v])[j]?=Ã u->f.cell? ⟨w.heap.size,0+j,Ä⟩=Ã u)->aT P p vJ r (y.put o.dst<|Ê (Ã ⟨w.heap.size,0,Ä⟩) (n+1) c) f):aT P p vJ (o::r) y w:=by refine ű C λK S=> ?_;have T:=Λ w t o.type e zJ z E F G ⟨g,k,Ä⟩ n n b (by rw[I,B];omega) J ⟨l,0,Ä⟩ 1 1 [v] (by rw[B];rfl) N Z Z (ŕ Z<|by rw[H];omega);unfold Ń ĥ;simp only[D,ag,aR,ah,Ų,ų,Ĵ,ļ,Ť,Ŵ,L,M,T];refine S _ _ (h _ _ (Θ w (n+1) n e) ((e8.fU _ _).fe<|e8.gG _ _ _ _<|Ø O) ⟨_,ì w.drew _,by simp;omega,λu d=>by simp only[Š,ú]at d;rcases d with(q|q)|q;exact Ø q;exact Ù (Ø<|by simpa using q);exact Ù<|Ù<|SN q⟩ λj u d=> ?_);have V:(w.drew.alloc<|Ð (b.toArray++[v].toArray++ö z.cells (Œ w (n+1) n e-(n+1))) e).heap[w.heap.size]?=_:=ì w.drew _;simp only[Η,V,ũ,ĭ,if_false,ł];have W:=(Ü.1 d).1;rw[Array.getElem?_append_left (by simpa using W)];simpa using d
def tJ(v:Ç)(T:ô)(w:É):Prop:=v=Ê Ä 0 0\/∃g n c a,v=Ê (Ã ⟨g,0,Ä⟩) n c/\w.heap[g]?=Ã (Ð a T (0,0))
def tJ.I(h:w.ownsRow 0 T i v n l):tJ v T w:=by
 rcases h.2 with⟨q,_⟩|⟨g,a,b,c,_,d,_⟩
 .exact Ø q
 .exact Ù ⟨g,_,a,b,c,d⟩
def tJ.C(h:tJ v T w)(k:e8 (λ_=>False) w u):tJ v T u:=by
 rcases h with q|⟨g,n,c,b,d,a⟩
 .exact Ø q
 .refine Ù ⟨g,n,c,b,d,?_⟩;rwa[k.N g (Array.getElem?_eq_some_iff.1 a).1 id]
def sC(a:List (Nat×fH)):List Ç:=a.map λp=>Å<|Ã ⟨p.1,0,Ä⟩
structure TK(vs:List (Nat×fH))(B:Nat)(w w':É)(g:Nat):Prop where
 C:w.heap.size<=g
 r:∃cur:Array Ç,w'.heap[g]?=Ã (Ð cur 136 (0,0))/\0<cur.size/\∀u∈cur.toList,u∈sC vs\/u=Å (Ã ⟨B,0,Ä⟩)\/u=Å Ä
structure TL(B:Nat)(s:St)(h:Int)(w w':É):Prop where
 C:w.heap.size<=B
 r:∃lv uv,ff B (jc s lv++[Â Ë h,uv]) 147 w'/\tJ lv 257 w'/\tJ uv 246 w'/\(∀j,lv.ownBlock=Ã j->w.heap.size<=j)/\∀j,uv.ownBlock=Ã j->w.heap.size<=j
section
variable{bp:Option Ą}{cp:Nat}{vs:List (Nat×fH)}
def aoo(a b:Nat)(d:n<=1000)(f:n<=cp):Ò À 155 #[Ê (Ã ⟨a,b,Ä⟩) n cp] w λe c=>e=È (Ê (Ã ⟨a,b,Ä⟩) n n)/\c=w:=by go_enter Tryz.func155,Tryz.ntmps155;go_wp2;go_ret;exact⟨U,U⟩
def aop(b:qH bp n vs w)(h:n<=1000)(l:0<n)(m:n<=cp)(B:Nat): Ò À 116 #[Ê bp n cp,Å<|Ã ⟨B,0,Ä⟩] w λe a=>∃g c,e=È (Ê (Ã ⟨g,0,Ä⟩) (n+1) c)/\n+1<=c/\e8 (λ_=>False) w a/\TK vs B w a g/\∀j u,(sC vs++[Å<|Ã ⟨B,0,Ä⟩])[j]?=Ã u->a.cell? ⟨g,0+j,Ä⟩=Ã u:=by
 let⟨G,r,s,t,x⟩:=í aom;obtain⟨d,y⟩:∃d,vs[0]?=Ã d:=⟨_,Ô<|by rwa[<-b.r]⟩;let⟨g,f,i,_,_⟩:=b.C 0 d.1 d.2 y;have z:∀(o:Obj) (j:Nat) (v:Ç),(sC vs)[j]?=Ã v->(w.alloc o).cell? ((⟨g,f,Ä⟩:Ą).add j)=Ã v:=λo j v q=>by unfold sC at q;rw[ķ]at q;obtain⟨p,C,rfl⟩:=Ì.1 q;let⟨D,E,H,k,_⟩:=b.C j p.1 p.2 C;rw[i]at H;cases H;rwa[Addr.add_mid,World.cell?_alloc_lt _ _ _<|á w _ k]
 have H:=fc (Á z<|Á r<|Á s<|Á t<|Á x<|show(sC vs).length=n by unfold sC;rw[Ο];exact b.r.symm);subst i;go_enter Tryz.func116,Tryz.ntmps116;go_wp2_with (first
  |(go_at_call 155;refine(aoo g f h m).mono ?_;rintro e a ⟨rfl,k⟩;subst a)
  |(at_builtin;refine aon U _ _ 65 U Tryz.underlying65 H.out.2.1 H.out.2.2.1 H.out.2.2.2.1 H.out.2.2.2.2.1 g f n (sC vs) H.out.2.2.2.2.2 (H.out.1 _) U w.heap.size (Å (Ã ⟨B,0,Ä⟩)) U (ÿ _ _ _) h A ?_;intro c C a e k p))
 go_ret;refine⟨_,_,U,a,(e8.gG _ _ _ _).fe e,⟨fi,by let⟨c,C,D,E⟩:=k;exact⟨c,by simpa using C,D,λu F=>(E u F).elim Ø λq=>q.elim (λq=>Ù<|Ø q) λq=>Ù<|Ù<|by simpa[Ġ]using q⟩⟩,λj u q=>by have:=p j u q;simpa using this⟩
end
structure Dw(r:Nat)(v:Int)(x:Nat)(bp:Option Ą)(n cp:Nat)(w:É):Prop where
 M:w.cell? ⟨r,0,Ä⟩=Ã (Â Ë x)
 N:w.cell? ⟨r,5,Ä⟩=Ã (Â Ë v)
 I:w.cell? ⟨r,8,Ä⟩=Ã (Ê bp n cp)
def Dw.C{r:Nat}(h:Dw r c i O n j w)(k:e8 (λ_=>False) w u):Dw r c i O n j u:=⟨k.r h.M id,k.r h.N id,k.r h.I id⟩
def rC(a:List (Nat×fH))(v:Int)(x:Nat)(gL:List Tx):Option fH×ByteArray:=
 match mb a v with
 |none=>(Ä,nX 3)
 |some p=>if a.length=40 then(Ä,nX 4)else match vW x p.2.s gL with
  |none=>(Ä,nX 5)
  |some r=>(Ã ⟨r.1,r.2.1,r.2.2,p.2.h+1⟩,oB a.length)
def NC(c:Ç)(d:List (Nat×fH))(w:É):Prop:=∃a n b,c=Ê a n b/\n<=b/\qH a n d w
def TM(f:List (Nat×fH))(i:Ç)(w:É)(o:Option fH×ByteArray)(e:az)(a:É):Prop:=
 e8 (λ_=>False) w a/\((o.1=Ä/\e=È (æ #[i,Í o.2]))\/∃v b d,o.1=Ã v/\e=È (æ #[d,Í o.2])/\NC d (f++[(b,v)]) a/\TL b v.s v.h w a/\∃g n c,d=Ê (Ã ⟨g,0,Ä⟩) n c/\TK f b w a g)
def aoq{c:List (Nat×fH)}{v:fH}(e:qH O n c w)(f:sB j v w)(h:∀a u,(sC c++[Å<|Ã ⟨j,0,Ä⟩])[a]?=Ã u->w.cell? ⟨i,0+a,Ä⟩=Ã u):qH (Ã ⟨i,0,Ä⟩) (n+1) (c++[(j,v)]) w:=by
 refine⟨by rw[e.r];simp,λa b u q=>⟨i,0,U,?_,?_⟩⟩
 .apply h a _;have:sC c++[Å<|Ã ⟨j,0,Ä⟩]=sC (c++[(j,v)]):=by simp[sC]
  rw[this];unfold sC;rw[ķ,q];rfl
 .rcases ů a c.length with d|d
  .rw[ç d]at q;let⟨_,_,_,_,k⟩:=e.C a b u q;exact k
  .rw[ü d]at q;have k:a-c.length=0:=by
    have:=(Ü.1 q).1;simp at this;omega
   rw[k]at q;cases q;exact f
def aor{e:az}(a:FT h W Ä e u)(k:e8 (λ_=>False) w W):e=È (Å Ä)/\e8 (λ_=>False) w u:=by
 rcases a with⟨_,b,c⟩|⟨_,_,_,_,_,_,q,_⟩
 .exact⟨b,k.fe c⟩
 .cases q
def aos{e:az}{s:St}{a:List (Nat×Int)}{b:List (Int×Bool)}(c:FT h W (Ã (s,a,b)) e u)(l:0<=h)(m:h<40)(k:e8 (λ_=>False) w W):∃B,e=È (Å<|Ã ⟨B,0,Ä⟩)/\e8 (λ_=>False) w u/\sB B ⟨s,a,b,h+1⟩ u/\TL B s (h+1) w u:=by
 rcases c with⟨q,_⟩|⟨n,o,p,B,d,f,q,g,x,i⟩
 .cases q
 .cases q;exact⟨B,g,k.fe x.M,x.aol i Z Z,ë k.M x.N,d,f,x.r,tJ.I x.C,tJ.I x.I,λj q=>ë k.M<|x.S j q,λj q=>ë k.M<|x.Y j q⟩
section
variable{bp:Option Ą}{cp r x:Nat}{v:Int}{vs:List (Nat×fH)}{f:List (Nat×Tx)}
def aot{p:Nat×fH}(F:Ò À 113 #[Ê bp n cp,Â Ë v] w λe a=>e=È (jY<|Ã p.1)/\e8 (λ_=>False) w a)(f:Dw r v x O b i w)(m:((n:Int)==40)=Ï)(N:∀W,e8 (λ_=>False) w W->Ò À 115 #[Å<|Ã ⟨p.1,0,Ä⟩,Â Ë x,Ê O b i] W (FT p.2.h W Ä)): Ò À 66 #[Ê bp n cp,Å<|Ã ⟨r,0,Ä⟩] w (TM vs (Ê bp n cp) w (Ä,nX 5)):=by
 have o:=f.N;have H:=fc<|Á F<|Á N f;go_enter ś,Ň;go_wp2_with (go_at_call 113;refine H.out.1.mono ?_;rintro e d ⟨rfl,c⟩;dsimp only[jY,ū]);have g:=fc (Á ((H.out.2.2.C c).C<|e8.fU (λ_=>False) _).M ((H.out.2.2.C c).C<|e8.fU (λ_=>False) _).I);go_region_held3 (λa=>a.cell? ⟨r,0,Ä⟩=Ã (Â Ë x)/\a.cell? ⟨r,8,Ä⟩=Ã (Ê O b i)) (first|exact g.out|exact j.out) (first
   |(go_at_call 115;refine(H.out.2.1 _ (c.fe kp)).mono ?_;rintro e k l;obtain⟨rfl,d⟩:e=È (Å Ä)/\e8 (λ_=>False) w k:=aor l (c.fe kp);dsimp only;have j:=fc (Á (H.out.2.2.C d).M (H.out.2.2.C d).I)))
 go_wp2_with (first
  |(go_at_call 114;refine(FU 5 A _).mono ?_;rintro e a ⟨rfl,c⟩;subst a))
 go_ret2;exact⟨d,Ø ⟨U,U⟩⟩
def aou{p:Nat×fH}{f:St}{g:List (Nat×Int)}{j:List (Int×Bool)}(k:qH bp n vs w)(Q:n<=40)(q:0<n)(s:n<=cp)(t:0<=p.2.h)(u:p.2.h<40)(F:Ò À 113 #[Ê bp n cp,Â Ë v] w λe a=>e=È (jY<|Ã p.1)/\e8 (λ_=>False) w a)(l:Dw r v x O b i w)(S:((n:Int)==40)=Ï)(N:∀W,e8 (λ_=>False) w W->Ò À 115 #[Å<|Ã ⟨p.1,0,Ä⟩,Â Ë x,Ê O b i] W (FT p.2.h W<|Ã (f,g,j))): Ò À 66 #[Ê bp n cp,Å<|Ã ⟨r,0,Ä⟩] w (TM vs (Ê bp n cp) w (Ã ⟨f,g,j,p.2.h+1⟩,oB vs.length)):=by
 have T:=l.N;rw[<-k.r];have H:=fc<|Á F<|Á N<|Á l k;go_enter ś,Ň;go_wp2_with (go_at_call 113;refine H.out.1.mono ?_;rintro e o ⟨rfl,d⟩;dsimp only[jY,ū]);have y:=fc (Á ((H.out.2.2.1.C d).C<|e8.fU (λ_=>False) _).M ((H.out.2.2.1.C d).C<|e8.fU (λ_=>False) _).I);go_region_held3 (λa=>a.cell? ⟨r,0,Ä⟩=Ã (Â Ë x)/\a.cell? ⟨r,8,Ä⟩=Ã (Ê O b i)) (first|exact y.out|exact o.out) (first
   |(go_at_call 115;refine(H.out.2.1 _ (d.fe kp)).mono ?_;rintro e D z;obtain⟨B,rfl,c,C,m⟩:=aos (w:=w) z t u (d.fe kp);dsimp only;have o:=fc (Á (H.out.2.2.1.C c).M (H.out.2.2.1.C c).I)))
 have W:=aop (H.out.2.2.2.I c) Z q s B;have z:=fc W;go_wp2_with (first
  |(go_at_call 116;refine z.out.mono ?_;rintro e G ⟨I,J,rfl,D,d,o,E⟩)
  |(go_at_call 117;refine(aah n Z _).mono ?_;rintro e a ⟨rfl,G⟩;subst a))
 go_ret2;refine⟨c.fe d,Ù ⟨_,B,_,U,U,⟨_,_,_,U,D,?_⟩,⟨m.C,by let⟨G,I,J,K,L,M,P⟩:=m.r;exact⟨G,I,J.I d id,K.C d,L.C d,M,P⟩⟩,_,_,_,U,ë c.M o.C,o.r⟩⟩;exact aoq ((H.out.2.2.2.I c).I d) (C.Y d) E
def aov(a:qH bp n vs w)(C:n<=40)(j:0<n)(D:n<=cp)(t:∀p∈vs,p.2.h<40)(d:Dw r v x O b i w)(u:Dq O b f w)(E:b<=1000)(y:iL w)(G:x<8)(z:-1<=v): Ò À 66 #[Ê bp n cp,Å<|Ã ⟨r,0,Ä⟩] w (TM vs (Ê bp n cp) w<|rC vs v x<|lO f):=by
 have L:=d.N;unfold rC;cases g:mb vs v with
 |none=>
  have F:=NB (cp:=cp) a Z j v z;rw[g]at F;have H:=fc F;go_enter ś,Ň;go_wp2_with (first
   |(go_at_call 113;refine H.out.mono ?_;rintro e I ⟨rfl,q⟩;dsimp only[jY,ū])
   |(go_at_call 114;refine(FU 3 A _).mono ?_;rintro e l ⟨rfl,J⟩;subst l))
  go_ret2;exact⟨q,Ø ⟨U,U⟩⟩
 |some p=>
  have m:=JO g;have c:=a.M m;have F:=NB (cp:=cp) a Z j v z;rw[g]at F;have N:∀W,e8 (λ_=>False) w W->Ò À 115 #[Å<|Ã ⟨p.1,0,Ä⟩,Â Ë x,Ê O b i] W (FT p.2.h W<|vW x p.2.s<|lO f):=λW k=>
   anj (c.r.r k id) c.I (by have:=c.M;omega) c.C (u.I k) (y.r k id) E G
  have K:=a.r;by_cases B:n=40
  .simp only;rw[if_pos Z];have H:=fc F;clear F N a d u y t c g m K;have o:((n:Int)==40)=Ú:=by rw[B];rfl
   clear B;go_enter ś,Ň;go_wp2_with (first
    |(go_at_call 113;refine H.out.mono ?_;rintro e I ⟨rfl,q⟩;dsimp only[jY,ū])
    |(go_at_call 114;refine(FU 4 A _).mono ?_;rintro e l ⟨rfl,J⟩;subst l))
   go_ret2;exact⟨q,Ø ⟨U,U⟩⟩
  .simp only;rw[if_neg Z];have o:((n:Int)==40)=Ï:=by rw[beq_eq_false_iff_ne];omega
   have l:=t p m;have H:=c.I;cases e:vW x p.2.s (lO f)with
   |none=>
    rw[e]at N;exact aot F d o N
   |some q=>
    let⟨I,J,M⟩:=q;rw[e]at N;exact aou a C j D H l F d o N
end
def aow(h:l.length=145):À.built 147 [(0,Ē l.toArray)]=Ã (l++[Â Ë 0,Ê Ä 0 0]).toArray:=by let⟨z,d,a,b,c⟩:=Tt Y_ Z_ A;rw[Ts Z' a,c];have:=Nj (place:=λi=>[(0,145),(145,1),(146,1)].toArray[i]?) (pre:=[]) (suf:=[Â Ë 0,Ê Ä 0 0]) (i:=0) (v:=Ē l.toArray) (rest:=[]) U (by show l.toArray.size=145;simp[h]) b;simpa[ı,Ġ]using this
theorem aox(a:o.op=Χ 147 #[(0,qQ)])(b:xX qQ=Ē l.toArray)(c:l.length=145):(ĥ xX o).run À w=χ (.value<|Ē (l++[Â Ë 0,Ê Ä 0 0]).toArray) w:=by grind [Tv,aow]
def jy:fH:=⟨kl 8,[],[],0⟩
def aaB:gJ (kl 8):=by refine⟨λi=> ?_,λi j=>⟨Ö _,show(0:Int)<18446744073709551616 by decide⟩,λi=>⟨show(0:Nat)<=40 by decide,λc a=>by cases a⟩⟩;show gh (if i<8 then 1000 else 0);split<;>exact⟨A,A⟩
theorem aoy{s:St}(b:gJ s)(h:ff i (iy s++[Ê Ä 0 0]++[Â Ë 0,Ê Ä 0 0]) 147 w):sB i ⟨s,[],[],0⟩ w:=by
 have c:=sw s;refine⟨⟨λj v d=> ?_,?_⟩,b,Ö _,show(0:Int)<=40 by decide,?_,?_⟩
 .rw[ł];apply h.r j v;grind
 .apply h.r 145 _;simp_all
 .refine⟨Ä,0,h.r 144 _ ?_,λj x a=>by cases a⟩;grind
 .refine⟨Ä,0,h.r 146 _ ?_,λj x a=>by cases a⟩;simp_all
def yc(ls:List (Nat×Int)):Prop:=∀e∈ls,e.1<8/\gh e.2
def TN(J:St->List (Nat×Int)->Prop)(F:mq):Prop:=∀s a x y g k,gJ s->x<8->y<8->gh k->0<=g->g<=100000->(a.length:Int)+g<=1000000->J s a->J (F s a x y g k).s (F s a x y g k).I
structure aaC(J:St->List (Nat×Int)->Prop):Prop where
 st:∀{s ls} (y j:Nat) (v:Int),J s ls->J (s.r y j v) ls
 mv:∀{s ls y} (q:Int) {p:Int},gJ s->y<8->gh p->J s ls->J (rB s y q p).2 ls
 lg:∀{s ls y p},y<8->gh p->J s ls->J s (ls++[(y,p)])
section
variable{c:RC}{F:mq}{J:St->List (Nat×Int)->Prop}
theorem aoz(b:aaC J)(i:TN J F)(d:c.y<8)(k:Nat)(t:RT)(o:k<=20)(a:om t)(h:J t.s t.C):J (oz F c k t).s (oz F c k t).C:=by
 have f:=tD a.r;have g:=tD<|pN a.r;by_cases j:k=16
 .subst j;exact b.st _ _ _ h
 by_cases l:k=18
 .subst l;exact b.mv _ a.s d g h
 by_cases m:k=19
 .subst m;exact b.lg d f h
 by_cases n:k=20
 .subst n;show J (iX F c t _ _ _).2.2.s (iX F c t _ _ _).2.2.C;unfold iX;split
  .exact h
  .have e:=tD<|pN<|pN a.r;have p:=a.g0;have q:=a.C;have r:=a.I;have u:=f.1;have v:=g.1;exact i _ _ _ _ _ _ a.s d Z e Z Z Z h
 have e:(oz F c k t).s=t.s/\(oz F c k t).C=t.C:=by unfold oz;grind
 grind
def aaD(b:aaC J):∀n,TN J<|zM n
 |0=>λ_ _ _ _ _ _ _ _ _ _ _ _ _ h=>h
 |n+1=>λs d x y g k a f e i j l m h=>by
  show J (su (zM n) ⟨x,y,k,4-(n:Int),g⟩ s d).s (su (zM n) ⟨x,y,k,4-(n:Int),g⟩ s d).I;unfold su;simp only;split
  .exact(FP (c:=⟨x,y,k,4-(n:Int),g⟩) (a.I y).1 (λn o=>S8 a y o) (Js n) f e i (aoz b (aaD b n) e) _ _ _ uQ ⟨fi,fi,a,j,l,m⟩ h).2
  .exact h
end
def TO:TN (λ_ e=>yc e) gl:=aaD ⟨λ_ _ _ h=>h,λ_ _ _ _ _ h=>h,λa b h e c=>by
 rcases ú.1 c with q|q
 .exact h e q
 .simp at q;subst q;exact⟨a,b⟩⟩ 4
def aoA{s:St}(b:gJ s){ls:List (Nat×Int)}{t:Tx}(a:t.Ok)(c:(ls.length:Int)+400<=1000000)(h:yc ls):yc (my s ls t).2.2.2:=by
 unfold my;split
 .exact h
 .split
  .exact h
  .unfold zO;split
   .exact h
   .rename_i d;have e:=(b.fu t.x).2;exact TO _ ls t.x t.y (t.n-10) t.k (b.r t.x ⟨Z,Z⟩) a.x a.y ⟨a.r,by have:=a.C;omega⟩ Z Z Z h
def zV(a:List (Int×Bool)):Prop:=∀e∈a,0<=e.1/\e.1<=400
def zV.Qk{a:List (Int×Bool)}(h:zV a){e:Int×Bool}(b:0<=e.1)(c:e.1<=400):zV (a++[e]):=λx d=>by
 rcases ú.1 d with q|q
 .exact h x q
 .simp at q;subst q;exact⟨b,c⟩
structure TP(v:fH):Prop where
 C:yc v.r
 r:zV v.C
 I:v.r.length<=400000
 M:v.C.length<=1000
def TQ:∀(gL:List Tx) {s:St} {ls:List (Nat×Int)} {a:List (Int×Bool)} {r:St×List (Nat×Int)×List (Int×Bool)},(∀t∈gL,t.Ok)->gJ s->yc ls->zV a->ls.length+400*gL.length<=400000->a.length+gL.length<=1000->uS m s ls a gL=Ã r->gJ r.1/\yc r.2.1/\zV r.2.2/\r.2.1.length<=400000/\r.2.2.length<=1000
 |[],s,ls,a,r,_,hs,hl,hu,n1,n2,h=>by cases h;exact⟨hs,hl,hu,by simpa using n1,by simpa using n2⟩
 |t::q,s,ls,a,r,ht,hs,hl,hu,n1,n2,h=>by
  unfold uS at h;simp only[Ľ]at n1 n2;split at h
  .have d:=aag (ls:=ls) hs (ht t fi) Z;have e:=d.r;exact TQ q (λb c=>ht b<|Ś _ c) (d.s.r m<|zK _) (aoA hs (ht t fi) Z hl) (hu.Qk d.g0 d.C) Z (by simp;omega) h
  .cases h
def aoB{s:St}{gL:List Tx}{r:St×List (Nat×Int)×List (Int×Bool)}(a:∀t∈gL,t.Ok)(b:gJ s)(j:gL.length<=1000)(e:vW m s gL=Ã r):TP ⟨r.1,r.2.1,r.2.2,h⟩:=by unfold vW at e;obtain⟨k,c,rfl⟩:=Ì.1 e;let⟨_,d,f,g,i⟩:=TQ gL a b (λ_ q=>by cases q) (λ_ q=>by cases q) (by simp;omega) (by simp;omega) c;exact⟨d,f,g,i⟩
end Go.Proofs.Y.gA
namespace Go.Proofs
open Go.Shelf
def Tryz.lays283_ren:Ĭ:=⟨fun|283=>187|n=>n,fun|3=>3|9=>9|4=>4|n=>n,fun|n=>n⟩
def Tryz.lays283:aN À Tryz.lays283_ren:={
 mixed:=fp
 f283:=ź.trans<|congrArg Ã fp
 t3:=ě
 a3:=Ŝ
 z3:=ň
 v3:=ħ
 t4:=Ĝ
 a4:=ŝ
 z4:=ŉ
 v4:=Ĩ
 t9:=đ
 a9:=Ş
 z9:=Ŋ
 v9:=ĩ}
open Go.Lib in
def Tryz.internal_strconv_small(i:Nat)(h:i<100)(w:É):
 Ò À 187 #[Â Ë i] w λe a=>e=È (Í ⟨(Ļ i).toArray⟩)/\a=w:=Any.internal_strconv_small Tryz.lays283 i h w
def Tryz.laysM284_ren:Ĭ:=⟨fun|284=>188|129=>198|317=>197|318=>199|n=>n,fun|53=>36|3=>3|212=>291|0=>0|4=>4|46=>168|5=>5|9=>9|n=>n,fun|17=>1|n=>n⟩
def Tryz.laysM284:Go.Proofs.LaysM.n284 À Tryz.laysM284_ren:={
 mixed:=fp
 f129:=Tryz.func198.trans<|congrArg Ã fp
 f284:=Tryz.func188.trans<|congrArg Ã fp
 f317:=Tryz.func197.trans<|congrArg Ã fp
 f318:=Tryz.func199.trans<|congrArg Ã fp
 t0:=Δ
 a0:=aJ
 z0:=aA
 v0:=Ρ
 t3:=ě
 a3:=Ŝ
 z3:=ň
 v3:=ħ
 t4:=Ĝ
 a4:=ŝ
 z4:=ŉ
 v4:=Ĩ
 t5:=Ε
 a5:=aK
 z5:=aB
 v5:=Τ
 t9:=đ
 a9:=Ş
 z9:=Ŋ
 v9:=ĩ
 t46:=Ŭ
 a46:=ς
 z46:=ε
 v46:=Ž
 t53:=ĸ
 a53:=ž
 z53:=ŧ
 v53:=ŀ
 t212:=Tryz.underlying291
 a212:=Tryz.isAgg291
 z212:=Tryz.sizeOf291
 v212:=Tryz.zeroValue291
 g17:=fp
 i0:=fp
 i3:=fp
 i4:=fp
 i5:=fp
 i9:=fp
 i46:=fp
 i53:=fp
 i212:=fp
 m17:=by kernel_rfl}
open Go.Lib in
def Tryz.internal_strconv_numDigits(u:Nat)(a:1<=u)(b:u<18446744073709551616)(w:É)(c:ae À w "internal/strconv.uint64pow10" Æ aC):
 Ò À 188 #[Â Æ u] w λe d=>e=È (Â Ë<|č u)/\d=w:=Any.internal_strconv_numDigits Tryz.laysM284 u a b w c
def Tryz.lays285_ren:Ĭ:=⟨fun|285=>189|n=>n,fun|37=>107|53=>36|3=>3|4=>4|51=>95|9=>9|5=>5|0=>0|n=>n,fun|n=>n⟩
def Tryz.lays285:aO À Tryz.lays285_ren:={
 mixed:=fp
 f285:=Tryz.func189.trans<|congrArg Ã fp
 t0:=Δ
 a0:=aJ
 z0:=aA
 v0:=Ρ
 t3:=ě
 a3:=Ŝ
 z3:=ň
 v3:=ħ
 t4:=Ĝ
 a4:=ŝ
 z4:=ŉ
 v4:=Ĩ
 t5:=Ε
 a5:=aK
 z5:=aB
 v5:=Τ
 t9:=đ
 a9:=Ş
 z9:=Ŋ
 v9:=ĩ
 t37:=ý
 a37:=Tryz.isAgg107
 z37:=Tryz.sizeOf107
 v37:=Tryz.zeroValue107
 t51:=ſ
 a51:=aD
 z51:=σ
 v51:=Ζ
 t53:=ĸ
 a53:=ž
 z53:=ŧ
 v53:=ŀ}
open Go.RowKit Go.Sort Go.Lib in
def Tryz.internal_strconv_formatBase10(a c f:Nat)(u:Nat)(d:Array UInt8)(w:É)(h:Holds (λ(b:UInt8)=>Â aW (b.toNat:Int)) w a c d)(i:u<10^d.size)(j:u<18446744073709551616)(k:d.size<4611686018427387904):
 Ò À 189 #[Ê (Ã ⟨a,c,Ä⟩) d.size f,Â Æ u] w λe l=>
  e=È (æ #[])/\∃(n m:Nat) (g:Array UInt8),l=(ζ (λ(b:UInt8)=>Â aW (b.toNat:Int)) w a c g).drewN n/\FmtInv d.size u 0 m g:=Any.internal_strconv_formatBase10 Tryz.lays285 a c f u d w h i j k
def Tryz.lays99_ren:Ĭ:=⟨fun|99=>175|206=>194|n=>n,fun|9=>9|4=>4|3=>3|n=>n,fun|n=>n⟩
def Tryz.lays99:aU À Tryz.lays99_ren:={
 mixed:=fp
 f99:=Tryz.func175.trans<|congrArg Ã fp
 f206:=Tryz.func194.trans<|congrArg Ã fp
 t3:=ě
 a3:=Ŝ
 z3:=ň
 v3:=ħ
 t4:=Ĝ
 a4:=ŝ
 z4:=ŉ
 v4:=Ĩ
 t9:=đ
 a9:=Ş
 z9:=Ŋ
 v9:=ĩ}
open Go.RowKit Go.Lib in
def Tryz.strings_HasPrefix(s p:ByteArray)(w:É):
 Ò À 175 #[Í s,Í p] w λe a=>e=È (Ñ<|Lib.hasPrefix s.data.toList p.data.toList)/\a=w:=Any.strings_HasPrefix Tryz.lays99 s p w
def Tryz.lays212_ren:Ĭ:=⟨fun|212=>174|263=>192|264=>193|n=>n,fun|46=>168|51=>95|146=>285|53=>36|148=>287|n=>n,fun|n=>n⟩
def Tryz.lays212:aP À Tryz.lays212_ren:={
 mixed:=fp
 f212:=Tryz.func174.trans<|congrArg Ã fp
 f263:=Tryz.func192.trans<|congrArg Ã fp
 f264:=Tryz.func193.trans<|congrArg Ã fp
 t46:=Ŭ
 a46:=ς
 z46:=ε
 v46:=Ž
 t51:=ſ
 a51:=aD
 z51:=σ
 v51:=Ζ
 t53:=ĸ
 a53:=ž
 z53:=ŧ
 v53:=ŀ
 t146:=Tryz.underlying285
 a146:=Tryz.isAgg285
 z146:=Tryz.sizeOf285
 v146:=Tryz.zeroValue285
 t148:=Tryz.underlying287
 a148:=Tryz.isAgg287
 z148:=Tryz.sizeOf287
 v148:=Tryz.zeroValue287}
open Go.RowKit Go.Lib in
def Tryz.bits_Mul(x y:Nat)(a:x<18446744073709551616)(b:y<18446744073709551616)(w:É):
 Ò À 174 #[Â Æ x,Â Æ y] w λe c=>e=È (æ #[Â Æ ((x*y/18446744073709551616:Nat):Int),Â Æ ((x*y%18446744073709551616:Nat):Int)])/\c=w:=Any.bits_Mul Tryz.lays212 x y a b w
end Go.Proofs
namespace Go.Proofs.Y.gA
open Go Go.Proofs Go.RowKit Go.Sort Go.Proofs.Y.Lift
def zW:UInt8->Ç:=λb=>Â aW (b.toNat:Int)
def lP(w:É):Prop:=ae À w "internal/strconv.uint64pow10" Æ aC
def aoC(a:kq w)(b:Nat)(f:Array Ç->Array Ç):kq (Ł w b f):=by
 intro i o h;unfold Ł at h;simp only[Û]at h;split at h
 .cases d:w.heap[i]? with
  |none=>rw[d]at h;cases h
  |some e=>
   have:=a _ _ d;rw[d]at h;cases e with
   |cells c t z=>simp only[ñ,è]at h;subst h;exact λx=>x
   |_=>exact absurd trivial this
 .exact a i o h
def aoD(a:sk m w)(b:Nat)(f:Array Ç->Array Ç)(j:NF b w):sk m (Ł w b f):=by
 intro i c T k l h g;unfold Ł at h;simp only[Û]at h;split at h
 .rename_i e;subst e;cases d:w.heap[b]? with
  |none=>rw[d]at h;cases h
  |some n=>
   rw[d]at h;cases n with
   |cells o t z=>
    simp only[ñ,è,onCells,Ĥ]at h;have:=j _ _ _ d;rw[h.2.1,g]at this;cases this
   |_=>simp only[ñ,è,onCells]at h;cases h
 .exact a i c T k l h g
def e8.fQ(w:World)(T:TypeId)(cs:Array Value)(off:Nat)(d:Array UInt8)(n:Nat)(hT:ml T=false:=by decide):e8 (λ_=>False) w ((putRow zW (w.alloc<|.cells cs T) w.heap.size off d).drewN n):= ⟨by simp[ζ,Ł,World.drewN],λk hk _=>by show(Ł (w.alloc<|Ð cs T) w.heap.size _).heap[k]?=_;unfold Ł;simp only[Û];rw[if_neg Z];exact ď _ _ _ hk,λa=>aoC (Jb a cs T (0,0)) _ _,λ_ a=>aoD (Jc a cs T (0,0)<|Ø hT) _ _<|ff.G (ff.N w cs.toList T) hT⟩
def aoE(w:É)(T:ô)(a:Nat)(c:a<=24):Holds zW (w.alloc<|Ð Ģ T) w.heap.size 0 (ō a (0:UInt8)):=λj b=>by
 have d:j<a:=by simpa using b
 refine⟨?_,World.frozen?_alloc_new _ _ _ _⟩;rw[World.cell?_alloc_new,Lib.zeros24_at _ Z,getElem!_pos _ j b];simp[zW]
def fI(u:Nat):ByteArray:=⟨(Ļ u).toArray⟩
def aoF(u:Nat)(h:u<100)(w:É):Ò À 172 #[Â Æ u,Â Ë 10] w λe a=>e=È (Í<|fI u)/\a=w:=by go_enter aE,υ;go_wp2_with (go_at_call 187;refine(Tryz.internal_strconv_small u h _).mono ?_;rintro e a ⟨rfl,rfl⟩);go_ret;exact⟨U,U⟩
def aoG(u:Nat)(h:¬u<100)(c:u<18446744073709551616)(w:É)(m:lP w):Ò À 172 #[Â Æ u,Â Ë 10] w λe b=>e=È (Í<|fI u)/\e8 (λ_=>False) w b:=by
 have g:1<=u:=Z
 have o:č u<=20:=by have:=Lib.numDigits_eq u g c;split at this<;>omega
 have n:À.arrayLen 276=24:=fp
 have p:∀W,(Instr.sliceAt 276 (Å<|Ã ⟨w.heap.size,0,Ä⟩) Ä (Ã<|Â Ë (č u:Int)) Ä).run À W=χ (Ê (Ã ⟨w.heap.size,0,Ä⟩) (č u) 24) W:=λW=>by rw[run_sliceAt_array_h W 276 ⟨w.heap.size,0,Ä⟩ (by simp[Program.arrayLen,Program.elem,Tryz.type276]) Ë (č u:Int) Z (by rw[n];omega)];go_simp
 have i:=aoE w 276 (č u) Z;have l:=Tryz.internal_strconv_formatBase10 w.heap.size 0 24 u (ō (č u) 0) (w.alloc<|Ð Ģ 276) i (by rw[Ď];exact Lib.lt_pow_nDigits u) c (by rw[Ď];omega);rw[Ď]at l;go_enter aE,υ;go_wp2_with (go_at_call 188;refine(Tryz.internal_strconv_numDigits u g c _<|Lib.tabIs_alloc m _).mono ?_;rintro e b ⟨rfl,rfl⟩);go_at_call 189;apply l.mono;rintro e b ⟨rfl,k,q,a,d,hF⟩;replace d:b=(ζ zW (w.alloc<|Ð Ģ 276) w.heap.size 0 a).drewN k:=d;subst d;have r:(convert 107 9<|Ê (Ã ⟨w.heap.size,0,Ä⟩) (č u) 24).run À ((ζ zW (w.alloc<|Ð Ģ 276) w.heap.size 0 a).drewN k)=χ (Í<|fI u) ((ζ zW (w.alloc<|Ð Ģ 276) w.heap.size 0 a).drewN k):=by have h:=run_convert_bytes_back (P:=À) ((ζ zW (w.alloc<|Ð Ģ 276) w.heap.size 0 a).drewN k) 107 9 5 ⟨w.heap.size,0,Ä⟩ 24 (Ļ u) fp fp fp (λj f=>by rw[Lib.row_is_numeral hF j f,Lib.add_plain,World.cell?_drewN];exact cell?_putRow zW _ w.heap.size 0 _ a (Lib.hid i).out (by rw[hF.size,Ď]) j<|by rw[hF.size];rwa[ģ]at f);rwa[ģ]at h
 go_wp2;go_ret;exact⟨U,e8.fQ w 276 _ _ a k⟩
def aoH(u:Nat)(d:u<18446744073709551616)(w:É)(f:lP w):Ò À 172 #[Â Æ u,Â Ë 10] w λe c=>e=È (Í<|fI u)/\e8 (λ_=>False) w c:=by
 by_cases h:u<100
 .exact(aoF u h w).mono λe c ⟨a,b⟩=>⟨a,b▸e8.fW _ _⟩
 .exact aoG u h d w f
def aoI(u:Nat)(b:u<18446744073709551616)(w:É)(c:lP w):Ò À 157 #[Â Æ u,Â Ë 10] w λe a=>e=È (Í<|fI u)/\e8 (λ_=>False) w a:=by go_enter Tryz.func157,Tryz.ntmps157;go_wp2_with (go_at_call 172;refine(aoH u b _ c).mono ?_;rintro e a ⟨rfl,d⟩);go_ret;exact⟨U,d⟩
def yd(u:Nat)(b:u<18446744073709551616)(w:É)(c:lP w):Ò À 118 #[Â Æ u] w λe a=>e=È (Í<|fI u)/\e8 (λ_=>False) w a:=by go_enter Tryz.func118,Tryz.ntmps118;go_wp2_with (go_at_call 157;refine(aoI u b _ c).mono ?_;rintro e a ⟨rfl,d⟩);go_ret;exact⟨U,d⟩
end Go.Proofs.Y.gA
namespace Go.Proofs.Y.gA
open Go Go.Proofs Go.RowKit Go.Proofs.Y.Lift
def TR(B:Nat):iW:=⟨B,144,[]⟩
def aoJ(B:Nat):(TR B).Ok:=⟨show(144:Nat)≠36 by decide,show(144:Nat)≠257 by decide,show(144:Nat)≠282 by decide,show(144:Nat)≠300 by decide,show(144:Nat)≠252 by decide,show(144:Nat)≠246 by decide⟩
def aaE{s:St}(l:mA n s h w)(z:gJ s)(B:iL w)(x y:Nat)(g k:Int)(T:x<8)(V:y<8)(Y:0<=g)(uN:g<=100000)(hk:gh k)(r:zI)(D:r=gl s [] x y g k): Ò À 158 #[Å<|Ã ⟨n,0,Ä⟩,Â Ë x,Â Ë y,Â Æ g,Â Æ k] w λe f=>
  ∃lv,e=È (æ #[Ē #[Â Æ r.r,Ñ r.C,Â Æ r.M],lv])/\f.ownsRow 0 257 2 lv r.I.length (kt r.I)/\e8 (λ_=>False) w f:=by
 let⟨dd,E,F⟩:=Ì.1 Ty;have G:(À.info? 140).map (·.size)=Ã (iy s).length:=by rw[sw];exact aad
 let⟨i0,z0,I,J,K,L⟩:=P_ O_;have m:=Tf s (lv:=Ê Ä 0 0) U;rw[zP]at m;have o:(iy s++[Ê Ä 0 0]).length=145:=by rw[Ó,sw];rfl
 have M:=e8.gG (λ_=>False) w #[Â Æ 0,Ñ Ï,Â Æ 0] 252;have N:=(l.r M id).C;have gK:=á w _ l.h;have C:∀W,iD (w.heap.size+1) 144 [] s (Ê Ä 0 0) W->iL W->Ò À 173 #[Å<|Ã ⟨w.heap.size+1,0,Ä⟩,Â Ë x,Â Ë y,Â Æ g,Â Æ k,Â Ë 1] W λe f=>e=È (Ē #[Â Æ r.r,Ñ r.C,Â Æ r.M])/\∃jE,iu (TR<|w.heap.size+1) (Ê Ä 0 0) 0 W r.s r.I f jE:=λW hW hrW=>by rw[D];exact U_ (TR<|w.heap.size+1) (aoJ _) s _ [] x y g k W hW (ā _ _ _ _) hrW z T V Y uN hk<|by simp;omega
 have a:=fc<|Á E<|Á F<|Á G<|Á N<|Á I<|Á K<|Á (J.trans o.symm)<|Á (L.trans o.symm) m;have H:=fc<|Á B C;clear E F G I J K L m o N l C B z M D;go_enter Tryz.func158,Tryz.ntmps158;go_wp2_with (first
  |(with_reducible refine Ė U 140 _ U n 0 U (iy s) dd a.out.2.2.2.1 a.out.1 a.out.2.1 a.out.2.2.1 ?_)
  |(with_reducible refine ć U (Ã 19) U _ _ (Tw U U<|sw s) ?_)
  |(with_reducible refine Te U U 144 U 12 U _ _ U U a.out.2.2.2.2.1 a.out.2.2.2.2.2.1 (iy s++[Ê Ä 0 0]) a.out.2.2.2.2.2.2.1 a.out.2.2.2.2.2.2.2.1 U U a.out.2.2.2.2.2.2.2.2 ?_;intro t hB1 O SG))
 have C0:t.heap.size=w.heap.size+1+1:=by simpa using SG
 have P:iD (w.heap.size+1) 144 [] s (Ê Ä 0 0) t:=by unfold iD;rw[ò,zP];simpa using hB1
 have Q:=(e8.gG _ _ _ _).fe O;have Lv:=(ff.N w [Â Æ 0,Ñ Ï,Â Æ 0] 252).I O id;go_at_call 173;refine(H.out.2 t P<|H.out.1.r Q id).mono ?_;rintro e u ⟨rfl,lv,d⟩;have b:=Lv.I d.C (λq=>q.elim (λq=>absurd q<|by show w.heap.size≠w.heap.size+1;omega) λq=>by cases q);have s6:=d.C.M;have hlv:u.cell? ⟨w.heap.size+1,144,Ä⟩=Ã lv:=d.r.Ji Z;obtain⟨la,lc,rfl⟩:=jl d.I;have l0:=b.M;have y0:=b.C 0;have y1:=b.C 1;have y2:=b.C 2;have c0:=b.r 0 _ U;have c1:=b.r 1 _ U;have c2:=b.r 2 _ U;have To:w.heap.size+1<u.heap.size:=Z
 have c:=fc<|Á d<|Á b<|Á Q P;go_wp2_with fail;go_region;go_wp2_with fail;let⟨d2,ng,sd⟩:=Ì.1 Ti;have S:=((e8.I (X:=λk=>k=w.heap.size) (w:=u) (p:=⟨w.heap.size,0,Ä⟩) U<|Â Æ r.r).fe<|e8.I (X:=λk=>k=w.heap.size) (p:=⟨w.heap.size,1,Ä⟩) U<|Ñ r.C).fe (e8.I (X:=λk=>k=w.heap.size) (p:=⟨w.heap.size,2,Ä⟩) U<|Â Æ r.M);have v:=λW=>(e8.gG (λ_=>False) W #[Â Æ r.r,Ñ r.C,Â Æ r.M] 252).fe<|e8.fU _ _;apply ð (zN U U (ff.Y (vs:=[Â Æ r.r,Ñ r.C,Â Æ r.M])<|(((c.out.2.1.fQ 0<|Â Æ r.r).fQ 1<|Ñ r.C).fQ 2<|Â Æ r.M).I (v _) id) ng sd Tk) U;refine⟨_,U,ij (ij c.out.1.I S λj hj y=> ?_) (v _) λ_ _=>id,?_⟩
 .let⟨j,i⟩:=lY c.out.1.I hj;rw[y,c.out.2.1]at i;cases i
 .refine((c.out.2.2.1.C c.out.1.C λi j q=> ?_).C S λi j q=> ?_).fe<|v _
  .rcases q with q|q
   .exact absurd q<|by show i≠w.heap.size+1;omega
   .cases q
  .omega
def oE(s:St)(x y:Nat)(k:Int):Nat->Nat->ByteArray
 |_,0=>⟨#[45]⟩
 |i,n+1=>if(gl s [] x y i k).C then fI i else oE s x y k (i+1) n
noncomputable def ND:ŏ:=(Tryz.f120.body.bind ku).getD Ķ
def Dx(a x y:Nat)(k:Int)(r:Ç)(i:Int)(u:Nat->Ç):é:=⟨#[Å<|Ã ⟨a,0,Ä⟩,Â Ë x,Â Ë y,Â Æ k,u 4,u 5,u 6,u 7,r,u 9,u 10,u 11,Â Æ i,u 13,u 14,u 15,u 16,u 17,u 18,u 19,u 20,u 21,u 22,u 23,u 24,u 25,u 26,u 27,u 28,u 29],[]⟩
def zY(b x y:Nat)(k:Int)(r:Ç)(i:Int)(a:é):Prop:=∃u,a=Dx b x y k r i u
theorem lP.r(h:lP w)(q:e8 (λ_=>False) w u):lP u:=by
 unfold lP ae World.var? at*;cases a:À.globalNamed "internal/strconv.uint64pow10" with
 |none=>rw[a]at h;cases h
 |some g=>
  rw[a]at h;simp only[Option.bind_some]at h|-;have b:g<w.heap.size:=by grind
  rwa[q.N g b id]
section
variable{Y:é->É->Prop}{s:St}
def aoK(b:Ç)(u:Nat->Ç)(d:∀a,zY j i n c b 401 a->H a w): Î À ND (Exit.then K<|QN H Y) (Dx j i n c b 401 u) w:=by
 unfold Dx;conv=>arg 2;whnf
 go_wp2_with fail
 exact d _ (gk _)
def aoL(p:Ç)(u:Nat->Ç)(b:Nat)(P:b<401)(B:mA j s h w)(C:gJ s)(D:iL w)(E:lP w)(F:i<8)(G:n<8)(I:gh c) (q:(gl s [] i n b c).C=Ï->∀a g,zY j i n c p ((b+1:Nat):Int) a->e8 (λ_=>False) w g->K a g) (r:(gl s [] i n b c).C=Ú->∀a g,zY j i n c (Í<|fI b) b a->e8 (λ_=>False) w g->Y a g): Î À ND (Exit.then K<|QN H Y) (Dx j i n c p b u) w:=by
 unfold Dx;conv=>arg 2;whnf
 have T:=aaE B C D i n b c F G Z Z I _ U;obtain⟨t,o,v,x,y,J⟩:∃t o v x y,gl s [] i n b c=⟨t,o,v,x,y⟩:=⟨_,_,_,_,_,U⟩;rw[J]at T q r;have d:=fc<|Á T<|Á q<|Á r E;cases o with
 |true=>
  go_wp2_with (first
   |(go_at_call 158;refine d.out.1.mono ?_;rintro e l ⟨L,rfl,f,k⟩;obtain⟨M,N,rfl⟩:=jl f;have m:=fc<|Á k f;clear k f)
   |(go_at_call 118;refine(yd b Z _ (d.out.2.2.2.r (m.out.1.fe (e8.gG (λ_=>False) l _ _)))).mono ?_;rintro e Q ⟨rfl,z⟩;have O:=fc z;clear z))
  exact d.out.2.2.1 trivial _ _ (gk _)<|(m.out.1.fe<|e8.gG (λ_=>False) l _ _).fe O.out
 |false=>
  go_wp2_with (first
   |(go_at_call 158;refine d.out.1.mono ?_;rintro e l ⟨L,rfl,f,k⟩;obtain⟨M,N,rfl⟩:=jl f;have m:=fc (Á k f);clear k f))
  exact d.out.2.1 trivial _ _ (gk _)<|m.out.1.fe<|e8.gG (λ_=>False) l _ _
def LI(j i n:Nat)(c:Int)(d:Ç)(s:St)(e:É)(f:ByteArray)(a:é)(w:É):Prop:=
 ∃b:Nat,zY j i n c d b a/\b<=401/\e8 (λ_=>False) e w/\oE s i n c b (401-b)=f
def LE(j i n:Nat)(c:Int)(b:Ç)(d:É)(e:ByteArray)(a:é)(w:É):Prop:=zY j i n c b 401 a/\e8 (λ_=>False) d w/\e=⟨#[45]⟩
def LR(j i n:Nat)(c:Int)(d:É)(e:ByteArray)(a:é)(w:É):Prop:=∃b,zY j i n c (Í e) b a/\e8 (λ_=>False) d w
def NG(a:é)(_:É):Nat:=match a.tmps.getD 12 Ă with
 |Â _ i=>401-i.toNat
 |_=>0
def aaF(d:zY j i n c v b y):NG y w=401-b:=by obtain⟨u,rfl⟩:=d;show 401-(b:Int).toNat=_;simp
def aoM(p:mA j s h u)(r:gJ s)(t:iL u)(x:lP u)(y:i<8)(z:n<8)(C:gh c)(a:é)(w:É)(D:LI j i n c v s u B a w): Î À ND (Exit.then (λg k=>LI j i n c v s u B g k/\NG g k<NG a w)<|QN (LE j i n c v u B)<|LR j i n c u B) a w:=by
 let⟨b,o,H,e,f⟩:=D;rw[aaF (w:=w) o];obtain⟨d,rfl⟩:=o;by_cases E:b=401
 .subst E;exact aoK v d λa q=>⟨q,e,f.symm⟩
 .have F:401-b=(401-(b+1))+1:=Z
  rw[F,oE]at f;refine aoL v d b Z (p.r e id) r (t.r e id) (x.r e) y z C ?_ ?_
  .intro l g k q m;rw[l]at f;exact⟨⟨b+1,q,Z,e.fe m,f⟩,by rw[aaF q];omega⟩
  .intro l g k q m;rw[l]at f;have G:fI b=B:=f;rw[G]at q;exact⟨b,q,e.fe m⟩
def aoN(d:mA j s h w)(f:gJ s)(g:iL w)(k:lP w)(l:i<8)(m:n<8)(o:gh c): Ò À 120 #[Å<|Ã ⟨j,0,Ä⟩,Â Ë i,Â Ë n,Â Æ c] w λe a=>e=È (Í<|oE s i n c 0 401)/\e8 (λ_=>False) w a:=by
 have L:∀a,zY j i n c (Í ⟨#[]⟩) 0 a->Î À (à ND) (QN (LE j i n c (Í ⟨#[]⟩) w<|oE s i n c 0 401)<|LR j i n c w<|oE s i n c 0 401) a w:=λa p=>
  ĉ (LI j i n c (Í ⟨#[]⟩) s w<|oE s i n c 0 401) NG ⟨0,p,â _,e8.fW _ _,U⟩<|aoM d f g k l m o
 generalize oE s i n c 0 401=r at*;go_enter Tryz.func120,Tryz.ntmps120;go_wp2_with fail;refine Ý ?_ ((fc L).out _ (gk _));rintro(_|(_|_)|_|_|_|_) a v hq;all_goals first|exact absurd hq id|skip
 .obtain⟨b,q,rfl⟩:=hq;obtain⟨u,rfl⟩:=b;unfold Dx;go_wp2_with fail;go_ret;simp_all
 .let⟨e,b,q⟩:=hq;obtain⟨u,rfl⟩:=b;unfold Dx;go_wp2_with fail;go_ret;simp_all
end
def zZ:(À.info? 9).map (λi=>(i.zero,i.size,i.bytes))=Ã (Ã<|Í ⟨#[]⟩,1,16):=fp
def ju(xs:List ByteArray):List Ç:=xs.map Í
structure ik(w0:É)(tv:Ç)(xs:List ByteArray)(w:É):Prop where
 fj:w.ownsRow w0.heap.size 9 1 tv xs.length (ju xs)
 r:e8 (λ_=>False) w0 w
section
variable{w0:É}{tv:Ç}{xs:List ByteArray}
def ik.M(w0:É){w:É}(k:e8 (λ_=>False) w0 w):ik w0 (Ê Ä 0 0) [] w:=⟨ā _ _ _ _,k⟩
def ik.fK(h:ik w0 tv xs w)(k:e8 (λ_=>False) w u):ik w0 tv xs u:=⟨ij h.fj k λ_ _=>id,h.r.fe k⟩
def ik.C(h:ik w0 tv xs w)(a:qz w w0.heap.size 9 1 tv xs.length (ju xs) 1 [Í B] v u):ik w0 v (xs++[B]) u:=by
 refine⟨?_,h.r.C a.r λi b q=> ?_⟩
 .have:=a.fj;rwa[show ju xs++[Í B]=ju (xs++[B]) by simp[ju],show xs.length+1=(xs++[B]).length by simp]at this
 .have:=(h.fj.lt i q).1;omega
end
theorem pO(u:Nat)(h:u<18446744073709551616):(fI u).size<=20:=by have:=Lib.nDigits_le20 u h;unfold fI;show(Ļ u).toArray.size<=20;grind [ģ]
def nL(p:Option Ą)(a:List Ç)(w:É):Prop:=∀(j:Nat) (x:Ç),a[j]?=Ã x->∃b o,p=Ã ⟨b,o,Ä⟩/\w.cell? ⟨b,o+j,Ä⟩=Ã x
def nL.C(h:nL O l w)(q:e8 (λ_=>False) w u):nL O l u:=λj x a=>by let⟨b,o,c,d⟩:=h j x a;exact⟨b,o,c,q.r d id⟩
def nL.r{base:Nat}(h:w.ownsRow base e i (Ê O n j) n l):nL O l w:=λb x d=>by
 rcases h.2 with⟨f,k⟩|⟨g,m,o,f,_⟩
 .have:=h.1;rw[k,Nat.zero_mul]at this;rw[ß this]at d;cases d
 .cases f;refine⟨g,0,U,?_⟩;have:=h.cells (g:=g) U b x d;rwa[Addr.add_mid]at this
def TS{α:Type}(f g:α->Ç):∀(l:List α) (j:Nat) (x:α),l[j]?=Ã x->(l.flatMap λp=>[f p,g p])[j*2]?=Ã (f x)/\(l.flatMap λp=>[f p,g p])[j*2+1]?=Ã (g x)
 |[],j,x,h=>by cases h
 |a::l,0,x,h=>by cases h;exact⟨U,U⟩
 |a::l,j+1,x,h=>by rw[show(j+1)*2=j*2+1+1 by omega];exact TS f g l j x h
def iH(y:Nat):ByteArray:=ø ⟨#[97,98,99,100,101,102,103,104]⟩ y<|y+1
def rD(e:Nat×Int):ByteArray:=iH e.1++fI e.2.toNat
noncomputable def NH:ŏ:=(Tryz.f124.body.bind ku).getD Ķ
def F7(a:Option Ą)(n b:Nat)(c:Ç)(i:Int)(u:Nat->Ç):é:=⟨#[Ê a n b,u 1,u 2,c,u 4,u 5,Ê a n b,Â Ë n,Â Ë i,u 9,u 10,u 11,u 12,u 13,u 14,u 15,u 16,u 17,u 18,u 19,u 20,u 21,u 22,u 23,u 24,u 25,u 26],[]⟩
def F8(b:Option Ą)(n c:Nat)(d:Ç)(i:Int)(a:é):Prop:=∃u,a=F7 b n c d i u
section
variable{X:é->É->Prop}{w0:É}{cp:Nat}{tv:Ç}{xs:List ByteArray}
def aoO(u:Nat->Ç)(i:Int)(b:i=n)(c:∀a,F8 O n cp tv n a->X a w): Î À NH (Exit.then K<|QQ X) (F7 O n cp tv i u) w:=by
 unfold F7;conv=>arg 2;whnf
 subst b;go_wp2_with fail;exact c _ (gk _)
def aoP(u:Nat->Ç)(r:ik w0 tv xs w)(j:Nat)(N:j<n)(P:n<=400000)(Q:xs.length<=400000)(y p:Nat)(S:y<8)(s:p<18446744073709551616)(B:lP w)(l m:Nat)(C:O=Ã ⟨l,m,Ä⟩)(T:w.cell? ⟨l,m+j*2,Ä⟩=Ã (Â Ë y))(V:w.cell? ⟨l,m+j*2+1,Ä⟩=Ã (Â Æ p)) (b:∀a d t,F8 O n cp t ((j+1:Nat):Int) a->ik w0 t (xs++[iH y++fI p]) d->K a d): Î À NH (Exit.then K<|QQ X) (F7 O n cp tv j u) w:=by
 unfold F7;conv=>arg 2;whnf
 subst C;have W:(0:Int)<=(j:Int):=Z
 have Y:(j:Int)<(n:Int):=Z
 have y0:(0:Int)<=(y:Int):=Z
 have y1:(y:Int)<8:=Z
 have jk:=pO p s;have oT:Ë.wrap ((y:Int)+1)=(y:Int)+1:=by rw[ó];omega
 have Ft:(0:Int)<=(y:Int)+1:=Z
 have zh:(y:Int)+1<=8:=Z
 have rn:(y:Int)<=(y:Int)+1:=Z
 have uH:((y:Int)+1).toNat=y+1:=Z
 have xU:¬9223372036854775807<min (y+1) 8-y+(fI p).size:=Z
 obtain⟨ta,tc,rfl⟩:=jl r.fj;have H:=fc<|Á r<|Á B b;go_wp2_with fail;change Î À _ _ _ (w.alloc<|Ð #[Â Ë y,Â Æ p] 257);have v:=e8.gG (λ_=>False) w #[Â Ë y,Â Æ p] 257;have D:=(H.out.1.fK v).fK<|e8.fU _ _;have E:=(H.out.2.1.r v).r<|e8.fU _ _;have o:=(ff.N w [Â Ë y,Â Æ p] 257).I (e8.fU (λ_=>False) _) id;let⟨i0,F,G,I,J⟩:=í zZ;have g:=fc<|Á F<|Á G<|Á I J;refine mr (λd=>d.cell? ⟨w.heap.size,0,Ä⟩=Ã (Â Ë y)/\d.cell? ⟨w.heap.size,1,Ä⟩=Ã (Â Æ p)) [] fp ?_;have c:=fc<|Á (o.r 0 _ rfl)<|o.r 1 _ rfl;generalize w.heap.size=ub at*;generalize Č (w.alloc<|Ð #[Â Ë y,Â Æ p] 257)=w1 at*;apply tk 0 c.out;apply tk 1 c.out;apply tk 2 c.out;apply tk 3 c.out;apply tk 4 c.out;apply tk 5 c.out;apply tk 6 c.out;apply tk 7 c.out;apply tk 8 c.out;apply gC 9;intro K b;go_simp;go_at_call 118;refine(yd p s _ E).mono ?_;rintro e L ⟨rfl,x⟩;have M:=D.fK x;have f:=o.I x id;apply b.out _ _ λ_=>⟨f.r 0 _ U,f.r 1 _ U⟩;apply gC 10;intro K b;go_simp;apply b.out _ _ λ_=>⟨f.r 0 _ U,f.r 1 _ U⟩;have z:=e8.gG (λ_=>False) L #[Í<|iH y++fI p] 9;have h:=M.fK z;have i:=f.I z id;apply gC 11;intro K b;go_simp;apply b.out _ _ λ_=>⟨i.r 0 _ U,i.r 1 _ U⟩;apply gC 12;intro K b;refine Na fN _ _ 25 fN ù g.out.1 g.out.2.1 g.out.2.2.1 g.out.2.2.2 U fN h.fj ⟨_,0,Ä⟩ [Í<|iH y++fI p] fN Z U (ÿ _ _ _) (λu k=>by simp at k;subst k;rfl) (by unfold ą;omega) Z h.r.M ?_;intro tv1 w9 q;obtain⟨a2,cp2,rfl⟩:=jl q.fj;have k:=i.I q.r<|jF h.fj i A;apply b.out _ _ λ_=>⟨k.r 0 _ U,k.r 1 _ U⟩;apply gC 13;intro K b;go_simp;apply b.out _ _ λ_=>⟨k.r 0 _ U,k.r 1 _ U⟩;refine lZ fp ?_ _;go_wp2_with fail;exact H.out.2.2 _ _ _ (gk _)<|h.C q
def TT(O:Option Ą)(n cp:Nat)(w0:É)(l:List (Nat×Int))(a:é)(w:É):Prop:=
 ∃(j:Nat) (tv:Ç),F8 O n cp tv j a/\j<=n/\ik w0 tv ((l.take j).map rD) w
def ltE(O:Option Ą)(n cp:Nat)(w0:É)(l:List (Nat×Int))(a:é)(w:É):Prop:=
 ∃tv,F8 O n cp tv n a/\ik w0 tv (l.map rD) w
def NJ(n:Nat)(a:é)(_:É):Nat:=match a.tmps.getD 8 Ă with
 |Â _ i=>n-i.toNat
 |_=>0
def aaG(b:F8 O n cp tv i y):NJ n y w=n-i:=by obtain⟨u,rfl⟩:=b;show n-(i:Int).toNat=_;simp
theorem aoQ{l:List (Nat×Int)}(D:n=l.length)(k:n<=400000)(m:yc l)(o:lP w0)(f:nL O (kt l) w0)(a:é)(w:É)(p:TT O n cp w0 l a w): Î À NH (Exit.then (λb d=>TT O n cp w0 l b d/\NJ n b d<NJ n a w)<|QQ<|ltE O n cp w0 l) a w:=by
 let⟨j,tv,g,E,b⟩:=p;rw[aaG g];obtain⟨u,rfl⟩:=g;by_cases r:j=n
 .subst r;refine aoO u _ U λa q=>⟨tv,q,?_⟩;grind
 .obtain⟨x,e⟩:∃x,l[j]?=Ã x:=⟨_,Ô Z⟩;obtain⟨g0,s⟩:=TS _ _ l j x e;let⟨t,v,h,y⟩:=f (j*2) _ g0;let⟨F,G,i,z⟩:=f (j*2+1) _ s;rw[h]at i;cases i;have c:=m x<|ġ e;refine aoP u b j Z k (by simp;omega) x.1 x.2.toNat c.1 (by have:=c.2.1;have:=c.2.2;omega) (o.r b.r) t v h (b.r.r y id) (by rw[Ĕ c.2.1];exact b.r.r z id) λa d B q C=>⟨⟨j+1,B,q,Z,?_⟩,by rw[aaG q];omega⟩;rwa[Α,e,Υ]
def aaH{l:List (Nat×Int)}(b:n=l.length)(g:n<=400000)(c:yc l)(d:lP w)(f:nL O (kt l) w): Ò À 124 #[Ê O n cp] w λe a=>∃tv,e=È tv/\ik w tv (l.map rD) a:=by
 have L:∀a,F8 O n cp (Ê Ä 0 0) (0:Nat) a->Î À (à NH) (QQ<|ltE O n cp w l) a w:=λa e=>
  ĉ (TT O n cp w l) (NJ n) ⟨0,_,e,â _,ik.M w<|e8.fW _ _⟩<|aoQ b g c d f
 have H:=fc L;clear L c d f b;go_enter Tryz.func124,Tryz.ntmps124;go_wp2_with fail;refine Ý ?_ (H.out _ (gk _));rintro(_|(_|_)|_|_|_|_) a v hq;all_goals first|exact absurd hq id|skip
 let⟨tv,h,i⟩:=hq;obtain⟨u,rfl⟩:=h;unfold F7;go_wp2_with fail;go_ret;simp_all
end
def aaI(b:Bool):xN b=((b.toNat:Nat):Int):=by cases b<;>rfl
def F9(e:Int×Bool):ByteArray:=fI e.2.toNat++⟨#[58]⟩++fI e.1.toNat
noncomputable def NK:ŏ:=(Tryz.f125.body.bind ku).getD Ķ
def Gb(a:Option Ą)(n b:Nat)(c:Ç)(i:Int)(u:Nat->Ç):é:=⟨#[Ê a n b,u 1,u 2,c,u 4,u 5,Ê a n b,Â Ë n,Â Ë i,u 9,u 10,u 11,u 12,u 13,u 14,u 15,u 16,u 17,u 18,u 19,u 20,u 21,u 22,u 23,u 24,u 25],[]⟩
def Gc(b:Option Ą)(n c:Nat)(d:Ç)(i:Int)(a:é):Prop:=∃u,a=Gb b n c d i u
section
variable{cp:Nat}{xs:List ByteArray}
def aoR(u:Nat->Ç)(i:Int)(b:i=n)(c:∀a,Gc O n cp v n a->H a w): Î À NK (Exit.then K<|QQ H) (Gb O n cp v i u) w:=by
 unfold Gb;conv=>arg 2;whnf
 subst b;go_wp2_with fail;exact c _ (gk _)
def aoS(c:Nat->Ç)(r:ik u v xs w)(j:Nat)(hj:j<n)(hn:n<=1000)(uo:xs.length<=1000)(p:Nat)(b:Bool)(C:p<18446744073709551616)(D:lP w)(s t:Nat)(V:O=Ã ⟨s,t,Ä⟩)(W:w.cell? ⟨s,t+j*2,Ä⟩=Ã (Â Æ p))(X:w.cell? ⟨s,t+j*2+1,Ä⟩=Ã (Ñ b)) (f:∀a h E,Gc O n cp E ((j+1:Nat):Int) a->ik u E (xs++[fI b.toNat++⟨#[58]⟩++fI p]) h->K a h): Î À NK (Exit.then K<|QQ H) (Gb O n cp v j c) w:=by
 unfold Gb;conv=>arg 2;whnf
 subst V;have jk:=pO p C;have F:b.toNat<18446744073709551616:=by cases b<;>decide
 have hsb:=pO b.toNat F;have xU:¬9223372036854775807<(fI b.toNat).size+1:=Z
 have hw5:¬9223372036854775807<(fI b.toNat).size+1+(fI p).size:=Z
 obtain⟨ta,tc,rfl⟩:=jl r.fj;have d:=fc<|Á r<|Á D f;clear r D f;go_wp2_with fail;change Î À _ _ _ (w.alloc<|Ð #[Â Æ p,Ñ b] 246);have G:=e8.gG (λ_=>False) w #[Â Æ p,Ñ b] 246;have Y:=(d.out.1.fK G).fK<|e8.fU _ _;have I:=(d.out.2.1.r G).r<|e8.fU _ _;have x:ff w.heap.size [Â Æ p,Ñ b] 246 (Č<|w.alloc<|Ð #[Â Æ p,Ñ b] 246):=(ff.N w [Â Æ p,Ñ b] 246).I (e8.fU (λ_=>False) _) id;let⟨i0,J,L,M,N⟩:=í zZ;have k:=fc<|Á J<|Á L<|Á M N;clear J L M N W X;refine mr (λh=>h.cell? ⟨w.heap.size,0,Ä⟩=Ã (Â Æ p)/\h.cell? ⟨w.heap.size,1,Ä⟩=Ã (Ñ b)) [] fp ?_;have g:=fc<|Á (x.r 0 _ rfl)<|x.r 1 _ rfl;generalize w.heap.size=ub at*;generalize Č (w.alloc<|Ð #[Â Æ p,Ñ b] 246)=w1 at*;apply tk 0 g.out;apply tk 1 g.out;apply tk 2 g.out;apply tk 6 g.out;apply tk 7 g.out;apply gC 3;intro K f;go_simp;go_at_call 159;refine(Jj _ _).mono ?_;rintro e P ⟨rfl,rn⟩;subst P;dsimp only;rw[aaI];apply f.out _ _ λ_=>g.out;clear f K;apply gC 4;intro K f;go_simp;go_at_call 118;refine(yd b.toNat F _ I).mono ?_;rintro e P ⟨rfl,y⟩;have T2:=Y.fK y;have z:=x.I y id;have P2:=I.r y;have Q:=fc<|Á (z.r 0 _ rfl)<|z.r 1 _ rfl;dsimp only;apply f.out _ _ λ_=>Q.out;clear f K;apply tk 5 Q.out;apply gC 8;intro K f;go_simp;go_at_call 118;refine(yd p C _ P2).mono ?_;rintro e w3 ⟨rfl,S⟩;have i:=z.I S id;dsimp only;apply f.out _ _ λ_=>⟨i.r 0 _ U,i.r 1 _ U⟩;clear f K;apply gC 9;intro K f;go_simp;apply f.out _ _ λ_=>⟨i.r 0 _ U,i.r 1 _ U⟩;clear f K;have T:=e8.gG (λ_=>False) w3 #[Í<|fI b.toNat++⟨#[58]⟩++fI p] 9;have l:=(T2.fK S).fK T;have o:=i.I T id;apply gC 10;intro K f;go_simp;apply f.out _ _ λ_=>⟨o.r 0 _ U,o.r 1 _ U⟩;clear f K;apply gC 11;intro K f;refine Na (base:=u.heap.size) (n:=xs.length) (xs:=ju xs) (m:=1) fN _ _ 25 fN ù k.out.1 k.out.2.1 k.out.2.2.1 k.out.2.2.2 U fN l.fj ⟨_,0,Ä⟩ [Í<|fI b.toNat++⟨#[58]⟩++fI p] fN Z U (ÿ _ _ _) (λc q=>by simp at q;subst q;rfl) (by unfold ą;omega) Z l.r.M ?_;intro tv1 w9 B;obtain⟨a2,cp2,rfl⟩:=jl B.fj;have q:=o.I B.r<|jF l.fj o A;apply f.out _ _ λ_=>⟨q.r 0 _ U,q.r 1 _ U⟩;clear f K;apply gC 12;intro K f;go_simp;apply f.out _ _ λ_=>⟨q.r 0 _ U,q.r 1 _ U⟩;clear f K;try simp only[ĵ,Õ,ã,ä]
 refine lZ fp ?_ _;go_wp2_with fail;exact d.out.2.2 _ _ _ (gk _)<|l.C B
def TU(O:Option Ą)(n cp:Nat)(u:É)(l:List (Int×Bool))(a:é)(w:É):Prop:=
 ∃(j:Nat) (v:Ç),Gc O n cp v j a/\j<=n/\ik u v ((l.take j).map F9) w
def TV(O:Option Ą)(n cp:Nat)(u:É)(l:List (Int×Bool))(a:é)(w:É):Prop:=
 ∃v,Gc O n cp v n a/\ik u v (l.map F9) w
def NL(n:Nat)(a:é)(_:É):Nat:=match a.tmps.getD 8 Ă with
 |Â _ i=>n-i.toNat
 |_=>0
def aaJ(b:Gc O n cp v i y):NL n y w=n-i:=by obtain⟨u,rfl⟩:=b;show n-(i:Int).toNat=_;simp
def aoT{l:List (Int×Bool)}(m:n=l.length)(o:n<=1000)(p:zV l)(r:lP u)(g:nL O (uR l) u)(a:é)(w:É)(s:TU O n cp u l a w): Î À NK (Exit.then (λb d=>TU O n cp u l b d/\NL n b d<NL n a w)<|QQ<|TV O n cp u l) a w:=by
 let⟨j,v,h,G,c⟩:=s;rw[aaJ h];obtain⟨b,rfl⟩:=h;by_cases t:j=n
 .subst t;refine aoR b _ U λa q=>⟨v,q,?_⟩;rwa[m,List.take_length]at c
 .obtain⟨x,e⟩:∃x,l[j]?=Ã x:=⟨_,Ô Z⟩;obtain⟨g0,y⟩:=TS _ _ l j x e;let⟨z,B,i,C⟩:=g (j*2) _ g0;let⟨H,I,k,D⟩:=g (j*2+1) _ y;rw[i]at k;cases k;have f:=p x<|ġ e;refine aoS b c j Z o (by simp;omega) x.1.toNat x.2 (by have:=f.1;have:=f.2;omega) (r.r c.r) z B i (by rw[Ĕ f.1];exact c.r.r C id) (c.r.r D id) λa d E q F=>⟨⟨j+1,E,q,Z,?_⟩,by rw[aaJ q];omega⟩;rwa[Α,e,Υ]
def aoU{l:List (Int×Bool)}(b:n=l.length)(g:n<=1000)(c:zV l)(d:lP w)(f:nL O (uR l) w): Ò À 125 #[Ê O n cp] w λe a=>∃v,e=È v/\ik w v (l.map F9) a:=by
 have L:∀a,Gc O n cp (Ê Ä 0 0) (0:Nat) a->Î À (à NK) (QQ<|TV O n cp w l) a w:=λa h=>
  ĉ (TU O n cp w l) (NL n) ⟨0,_,h,â _,ik.M w<|e8.fW _ _⟩<|aoT b g c d f
 have H:=fc L;clear L c d f b;go_enter Tryz.func125,Tryz.ntmps125;go_wp2_with fail;refine Ý (Q:=QQ<|TV O n cp w l) ?_ (H.out _ (gk _));rintro(_|(_|_)|_|_|_|_) a v hq;all_goals first|exact absurd hq id|skip
 let⟨v,i,e⟩:=hq;obtain⟨u,rfl⟩:=i;unfold Gb;have j:=fc e;clear e;go_wp2_with fail;go_ret;exact⟨_,U,j.out⟩
end
def Dy(j:Nat):ByteArray:=ø ⟨#[48,49,50,51,52,53,54,55,56,57,97,98,99,100,101,102]⟩ j<|j+1
def Dz(s t:St)(i j:Nat):List ByteArray:=if(s i).C j=(t i).C j then[]else[iH i++Dy j]
def qI(s t:St)(i j:Nat):List ByteArray:=(ċ j).flatMap<|Dz s t i
def vY(b a:Int)(p c:ByteArray)(i:Nat):List ByteArray:=(if b=a then[]else[iH i++⟨#[36]⟩])++(if p.toList=c.toList then[]else[iH i++⟨#[123]⟩])
def ye(s t:St)(i:Nat):List ByteArray:=vY (s i).fu (t i).fu (s i).r (t i).r i++qI s t i 16
def pP(s t:St)(n:Nat):List ByteArray:=(ċ n).flatMap<|ye s t
def aoV(s t:St)(i j:Nat):(Dz s t i j).length<=1:=by unfold Dz;split<;>simp
def TW(s t:St)(i j:Nat):qI s t i (j+1)=qI s t i j++Dz s t i j:=by unfold qI;rw[Ŏ,Ţ];simp
def NM(s t:St)(i:Nat):∀j,(qI s t i j).length<=j
 |0=>by simp[qI]
 |j+1=>by rw[TW,Ó];have:=NM s t i j;have:=aoV s t i j;omega
def aaK(b a:Int)(p c:ByteArray)(i:Nat):(vY b a p c i).length<=2:=by unfold vY;rw[Ó];split<;>split<;>simp
def aaL(s t:St)(n:Nat):pP s t (n+1)=pP s t n++ye s t n:=by unfold pP;rw[Ŏ,Ţ];simp
def TX(s t:St):∀n,(pP s t n).length<=18*n
 |0=>by simp[pP]
 |n+1=>by rw[aaL,Ó];have:=TX s t n;unfold ye;rw[Ó];have:=NM s t n 16;have:=aaK (s n).fu (t n).fu (s n).r (t n).r n;omega
def yf(i:Nat):(iH i).size<=1:=by unfold iH;rw[ŋ];omega
def aaM(i:Nat):(Dy i).size<=1:=by unfold Dy;rw[ŋ];omega
def mA.gV{s:St}(c:mA n s h W)(a:i<8):W.cell? ⟨n,i*18,Ä⟩=Ã (Â Æ (s i).fu)/\W.cell? ⟨n,i*18+1,Ä⟩=Ã (Í (s i).r)/\∀j,j<16->W.cell? ⟨n,i*18+2+j,Ä⟩=Ã (Â Æ<|(s i).C j):=by
 have g:∀j,j<144->W.cell? ⟨n,j,Ä⟩=Ã (qB s j):=λj b=>by have:=c.C j _<|TG s b;simpa using this
 refine⟨?_,?_,λj b=> ?_⟩
 .rw[g _ Z,<-rz s (Ê Ä 0 0) Z,Jh _ _ a];rfl
 .rw[g _ Z,<-rz s (Ê Ä 0 0) Z,M3 _ _ a]
 .rw[g _ Z,<-rz s (Ê Ä 0 0) Z,M4 _ _ a b];rfl
noncomputable def z8:ŏ:=(Tryz.f126.body.bind ku).getD Ķ
noncomputable def yg:ŏ:=(ku z8).getD Ķ
def uU(a b i:Nat)(c:Ç)(j:Int)(u:Nat->Ç):é:=⟨#[Å<|Ã ⟨a,0,Ä⟩,Å<|Ã ⟨b,0,Ä⟩,u 2,u 3,u 4,c,Â Ë i,Í<|iH i,Å<|Ã ⟨a,i*18,Ä⟩,Å<|Ã ⟨b,i*18,Ä⟩,u 10,Â Ë i,u 12,u 13,u 14,u 15,u 16,u 17,u 18,u 19,u 20,u 21,u 22,u 23,u 24,u 25,u 26,u 27,u 28,u 29,u 30,u 31,u 32,u 33,u 34,u 35,u 36,u 37,u 38,u 39,u 40,u 41,u 42,u 43,u 44,u 45,u 46,u 47,u 48,u 49,u 50,u 51,u 52,u 53,Â Ë j,u 55,u 56,u 57,u 58,u 59,u 60,u 61,u 62,u 63,u 64,u 65,u 66,u 67,u 68,u 69,u 70,u 71,u 72,u 73,u 74,u 75,u 76,u 77,u 78,u 79,u 80,u 81],[]⟩
def uV(b c i:Nat)(d:Ç)(j:Int)(a:é):Prop:=∃u,a=uU b c i d j u
def tK(a b:Nat)(c:Ç)(i:Int)(u:Nat->Ç):é:=⟨#[Å<|Ã ⟨a,0,Ä⟩,Å<|Ã ⟨b,0,Ä⟩,u 2,u 3,u 4,c,u 6,u 7,u 8,u 9,u 10,Â Ë i,u 12,u 13,u 14,u 15,u 16,u 17,u 18,u 19,u 20,u 21,u 22,u 23,u 24,u 25,u 26,u 27,u 28,u 29,u 30,u 31,u 32,u 33,u 34,u 35,u 36,u 37,u 38,u 39,u 40,u 41,u 42,u 43,u 44,u 45,u 46,u 47,u 48,u 49,u 50,u 51,u 52,u 53,u 54,u 55,u 56,u 57,u 58,u 59,u 60,u 61,u 62,u 63,u 64,u 65,u 66,u 67,u 68,u 69,u 70,u 71,u 72,u 73,u 74,u 75,u 76,u 77,u 78,u 79,u 80,u 81],[]⟩
def vZ(b c:Nat)(d:Ç)(i:Int)(a:é):Prop:=∃u,a=tK b c d i u
section
variable{X:é->É->Prop}{w0:É}{xs:List ByteArray}{s t:St}
def aoW(u:Nat->Ç)(b:∀a,uV n j i v (16:Nat) a->X a w): Î À yg (Exit.then K<|Q2 X) (uU n j i v (16:Nat) u) w:=by
 unfold uU;conv=>arg 2;whnf
 go_wp2_with fail
 exact b _ (gk _)
def aoX(u:Nat->Ç)(b:Nat)(d:i<8)(e:b<16)(p:Int)(f:w.cell? ⟨n,i*18+2+b,Ä⟩=Ã (Â Æ p))(g:w.cell? ⟨j,i*18+2+b,Ä⟩=Ã (Â Æ p)) (c:∀a,uV n j i v ((b+1:Nat):Int) a->K a w.drew): Î À yg (Exit.then K<|Q2 X) (uU n j i v b u) w:=by
 unfold uU;conv=>arg 2;whnf
 have h:(0:Int)<=(b:Int):=Z
 have k:(b:Int)<16:=Z
 have H:=fc c;clear c;go_wp2_with fail;go_region;go_wp2_with fail;exact H.out _ (gk _)
def aoY(u:Nat->Ç)(d:ik w0 v xs w)(t:xs.length<=1000)(b:Nat)(x:i<8)(y:b<16)(p q:Int)(z:(p==q)=Ï)(B:w.cell? ⟨n,i*18+2+b,Ä⟩=Ã (Â Æ p))(C:w.cell? ⟨j,i*18+2+b,Ä⟩=Ã (Â Æ q)) (f:∀a g h,uV n j i g ((b+1:Nat):Int) a->ik w0 g (xs++[iH i++Dy b]) h->K a h): Î À yg (Exit.then K<|Q2 X) (uU n j i v b u) w:=by
 unfold uU;conv=>arg 2;whnf
 have D:(0:Int)<=(b:Int):=Z
 have E:(b:Int)<16:=Z
 have F:Ë.wrap ((b:Int)+1)=(b:Int)+1:=by rw[ó];omega
 have G:(0:Int)<=(b:Int)+1:=Z
 have I:(b:Int)+1<=16:=Z
 have J:(b:Int)<=(b:Int)+1:=Z
 have L:((b:Int)+1).toNat=b+1:=Z
 have M:¬9223372036854775807<(iH i).size+(Dy b).size:=by have:=yf i;have:=aaM b;omega
 have N:ø ⟨#[48,49,50,51,52,53,54,55,56,57,97,98,99,100,101,102]⟩ b (b+1)=Dy b:=U;obtain⟨O,P,rfl⟩:=jl d.fj;let⟨Q,k,l,o,r⟩:=í zZ;have c:=fc<|Á k<|Á l<|Á o r;have H:=fc<|Á d f;clear d f k l o r;go_wp2_with fail;go_region;go_wp2_with (at_builtin;refine Dg (base:=w0.heap.size) (n:=xs.length) (xs:=ju xs) (m:=1) U _ _ 25 U ù c.out.1 c.out.2.1 c.out.2.2.1 c.out.2.2.2 U U ((H.out.1).fK kp).fj ⟨_,0,Ä⟩ [Í<|iH i++Dy b] U Z U (ÿ _ _ _) (λu e=>by simp at e;subst e;rfl) (by unfold ą;omega) Z ((H.out.1).fK kp).r.M ?_;intro S T e;obtain⟨V,W,rfl⟩:=jl e.fj;have s:=fc<|((H.out.1).fK kp).C e;clear e);exact H.out.2 _ _ _ (gk _) s.out
def DJ(n j i:Nat)(w0:É)(xs:List ByteArray)(s t:St)(a:é)(w:É):Prop:=
 ∃(b:Nat) (v:Ç),uV n j i v b a/\b<=16/\ik w0 v (xs++qI s t i b) w
def we(n j i:Nat)(w0:É)(xs:List ByteArray)(s t:St)(a:é)(w:É):Prop:=
 ∃(v:Ç),uV n j i v (16:Nat) a/\ik w0 v (xs++qI s t i 16) w
def NN(a:é)(_:É):Nat:=match a.tmps.getD 54 Ă with
 |Â _ i=>16-i.toNat
 |_=>0
def TY(c:uV n j i v b y):NN y w=16-b:=by obtain⟨u,rfl⟩:=c;show 16-(b:Int).toNat=_;simp
def aoZ(o:mA n s h w0)(p:mA j t c w0)(e:i<8)(B:xs.length<=900)(a:é)(w:É)(r:DJ n j i w0 xs s t a w): Î À yg (Exit.then (λb g=>DJ n j i w0 xs s t b g/\NN b g<NN a w)<|Q2<|we n j i w0 xs s t) a w:=by
 let⟨b,v,l,C,d⟩:=r;rw[TY l];obtain⟨u,rfl⟩:=l;by_cases x:b=16
 .subst x;exact aoW u λa q=>⟨v,q,d⟩
 .have m:=d.r.r ((o.gV e).2.2 b Z) id;have k:=d.r.r ((p.gV e).2.2 b Z) id;by_cases q:(s i).C b=(t i).C b
  .rw[<-q]at k;refine aoX u b e Z _ m k λa f=>⟨⟨b+1,v,f,Z,?_⟩,by rw[TY f];omega⟩;rw[TW,Dz,if_pos q,ò];exact d.fK<|e8.fU _ _
  .refine aoY u d (by rw[Ó];have:=NM s t i b;omega) b e Z _ _ (by simpa using q) m k λa y g f z=>⟨⟨b+1,y,f,Z,?_⟩,by rw[TY f];omega⟩;rwa[TW,Dz,if_neg q,<-Ċ]
def ao0(u:Nat->Ç)(b:∀a,vZ n j v (8:Nat) a->X a w): Î À z8 (Exit.then K<|QQ X) (tK n j v (8:Nat) u) w:=by
 unfold tK;conv=>arg 2;whnf
 go_wp2_with fail
 exact b _ (gk _)
def ao1(u:Nat->Ç)(d:ik w0 v xs w)(E:xs.length<=800)(F:i<8)(b h:Int)(p k:ByteArray)(G:(b==h)=Ú)(I:(p.toList==k.toList)=Ú)(l:w0.cell? ⟨n,i*18,Ä⟩=Ã (Â Æ b))(m:w0.cell? ⟨j,i*18,Ä⟩=Ã (Â Æ h))(f:w0.cell? ⟨n,i*18+1,Ä⟩=Ã (Í p))(g:w0.cell? ⟨j,i*18+1,Ä⟩=Ã (Í k)) (L:∀a e W,uV n j i e (0:Nat) a->ik w0 e xs W->Î À (à yg) (Q2<|we n j i w0 xs s t) a W) (o:∀a e q,vZ n j e ((i+1:Nat):Int) a->ik w0 e (xs++qI s t i 16) q->K a q): Î À z8 (Exit.then K<|QQ X) (tK n j v i u) w:=by
 unfold tK;conv=>arg 2;whnf
 have J:=d.r.r l id;have M:=d.r.r m id;have N:=d.r.r f id;have O:=d.r.r g id;have P:(0:Int)<=(i:Int):=Z
 have S:(i:Int)<8:=Z
 have T:Ë.wrap ((i:Int)+1)=(i:Int)+1:=by rw[ó];omega
 have V:(0:Int)<=(i:Int)+1:=Z
 have Y:(i:Int)+1<=8:=Z
 have rn:(i:Int)<=(i:Int)+1:=Z
 have uH:((i:Int)+1).toNat=i+1:=Z
 have xU:¬9223372036854775807<(iH i).size+1:=by have:=yf i;omega
 have T0:ø ⟨#[97,98,99,100,101,102,103,104]⟩ i (i+1)=iH i:=U;obtain⟨ta,tc,rfl⟩:=jl d.fj;let⟨i0,r,x,y,z⟩:=í zZ;have HI:=fc<|Á r<|Á x<|Á y z;have H:=fc<|Á d<|Á f<|Á g<|Á L o;clear d r x y z L o l m f g;go_wp2_with fail;go_region;go_wp2_with fail;go_region;go_wp2_with fail;go_region;go_wp2_with fail;refine Ý (Q:=Q2<|we n j i w0 xs s t) ?_ (H.out.2.2.2.1 _ _ _ (gk _)<|(H.out.1).fK kp);rintro(_|(_|_|_|_)|_|_|_|_) a c hq;all_goals first|exact absurd hq id|skip
 let⟨T1,C,B⟩:=hq;obtain⟨c,rfl⟩:=C;unfold uU;have D:=fc B;clear B;go_wp2_with fail;exact H.out.2.2.2.2 _ _ _ (gk _) D.out
def ao2(u:Nat->Ç)(d:ik w0 v xs w)(G:xs.length<=800)(I:i<8)(b l:Int)(p o:ByteArray)(J:(b==l)=Ú)(M:(p.toList==o.toList)=Ï)(q:w0.cell? ⟨n,i*18,Ä⟩=Ã (Â Æ b))(r:w0.cell? ⟨j,i*18,Ä⟩=Ã (Â Æ l))(h:w0.cell? ⟨n,i*18+1,Ä⟩=Ã (Í p))(k:w0.cell? ⟨j,i*18+1,Ä⟩=Ã (Í o)) (L:∀a e W,uV n j i e (0:Nat) a->ik w0 e (xs++[iH i++⟨#[123]⟩]) W->Î À (à yg) (Q2<|we n j i w0 (xs++[iH i++⟨#[123]⟩]) s t) a W) (x:∀a e y,vZ n j e ((i+1:Nat):Int) a->ik w0 e ((xs++[iH i++⟨#[123]⟩])++qI s t i 16) y->K a y): Î À z8 (Exit.then K<|QQ X) (tK n j v i u) w:=by
 unfold tK;conv=>arg 2;whnf
 have N:=d.r.r q id;have O:=d.r.r r id;have P:=d.r.r h id;have S:=d.r.r k id;have T:(0:Int)<=(i:Int):=Z
 have V:(i:Int)<8:=Z
 have Y:Ë.wrap ((i:Int)+1)=(i:Int)+1:=by rw[ó];omega
 have Ft:(0:Int)<=(i:Int)+1:=Z
 have zh:(i:Int)+1<=8:=Z
 have rn:(i:Int)<=(i:Int)+1:=Z
 have uH:((i:Int)+1).toNat=i+1:=Z
 have xU:¬9223372036854775807<(iH i).size+1:=by have:=yf i;omega
 have T0:ø ⟨#[97,98,99,100,101,102,103,104]⟩ i (i+1)=iH i:=U;obtain⟨ta,tc,rfl⟩:=jl d.fj;let⟨i0,z,B,C,D⟩:=í zZ;have f:=fc<|Á z<|Á B<|Á C D;have H:=fc<|Á d<|Á h<|Á k<|Á L x;clear d z B C D L x q r h k;go_wp2_with fail;go_region;go_wp2_with fail;go_region;go_wp2_with fail;go_region;go_wp2_with (at_builtin;refine Dg (base:=w0.heap.size) (n:=xs.length) (xs:=ju xs) (m:=1) U _ _ 25 U ù f.out.1 f.out.2.1 f.out.2.2.1 f.out.2.2.2 U U ((H.out.1).fK kp).fj ⟨_,0,Ä⟩ [Í<|iH i++⟨#[123]⟩] U Z U (λc u g=>e8.r (X:=λ_=>False) kp (ÿ w (Í<|iH i++⟨#[123]⟩) 9 c u g) id) (λu g=>by simp at g;subst g;rfl) (by unfold ą;omega) Z ((H.out.1).fK kp).r.M ?_;intro E F c;obtain⟨ta2,tc2,rfl⟩:=jl c.fj;have g:=fc<|((H.out.1).fK kp).C c;clear c);refine Ý (Q:=Q2<|we n j i w0 (xs++[iH i++⟨#[123]⟩]) s t) ?_ (H.out.2.2.2.1 _ _ _ (gk _)<|(g.out).fK kp);rintro(_|(_|_|_|_)|_|_|_|_) a c hq;all_goals first|exact absurd hq id|skip
 let⟨T1,E,g⟩:=hq;obtain⟨c,rfl⟩:=E;unfold uU;have F:=fc g;clear g;go_wp2_with fail;exact H.out.2.2.2.2 _ _ _ (gk _) F.out
def ao3(u:Nat->Ç)(d:ik w0 v xs w)(I:xs.length<=800)(J:i<8)(b l:Int)(p o:ByteArray)(M:(b==l)=Ï)(N:(p.toList==o.toList)=Ú)(q:w0.cell? ⟨n,i*18,Ä⟩=Ã (Â Æ b))(r:w0.cell? ⟨j,i*18,Ä⟩=Ã (Â Æ l))(h:w0.cell? ⟨n,i*18+1,Ä⟩=Ã (Í p))(k:w0.cell? ⟨j,i*18+1,Ä⟩=Ã (Í o)) (L:∀a e W,uV n j i e (0:Nat) a->ik w0 e (xs++[iH i++⟨#[36]⟩]) W->Î À (à yg) (Q2<|we n j i w0 (xs++[iH i++⟨#[36]⟩]) s t) a W) (x:∀a e y,vZ n j e ((i+1:Nat):Int) a->ik w0 e ((xs++[iH i++⟨#[36]⟩])++qI s t i 16) y->K a y): Î À z8 (Exit.then K<|QQ X) (tK n j v i u) w:=by
 unfold tK;conv=>arg 2;whnf
 have O:=d.r.r q id;have P:=d.r.r r id;have S:=d.r.r h id;have T:=d.r.r k id;have V:(0:Int)<=(i:Int):=Z
 have Y:(i:Int)<8:=Z
 have oT:Ë.wrap ((i:Int)+1)=(i:Int)+1:=by rw[ó];omega
 have Ft:(0:Int)<=(i:Int)+1:=Z
 have zh:(i:Int)+1<=8:=Z
 have rn:(i:Int)<=(i:Int)+1:=Z
 have uH:((i:Int)+1).toNat=i+1:=Z
 have xU:¬9223372036854775807<(iH i).size+1:=by have:=yf i;omega
 have T0:ø ⟨#[97,98,99,100,101,102,103,104]⟩ i (i+1)=iH i:=U;have FQ:(xs++[iH i++⟨#[36]⟩]).length=xs.length+1:=fi
 obtain⟨ta,tc,rfl⟩:=jl d.fj;let⟨i0,z,B,C,D⟩:=í zZ;have f:=fc<|Á z<|Á B<|Á C D;have H:=fc<|Á d<|Á h<|Á k<|Á L x;clear d z B C D L x q r h k;go_wp2_with fail;go_region;go_wp2_with fail;go_region;go_wp2_with (at_builtin;refine Dg (base:=w0.heap.size) (n:=xs.length) (xs:=ju xs) (m:=1) U _ _ 25 U ù f.out.1 f.out.2.1 f.out.2.2.1 f.out.2.2.2 U U ((H.out.1).fK kp).fj ⟨_,0,Ä⟩ [Í<|iH i++⟨#[36]⟩] U Z U (λc u g=>e8.r (X:=λ_=>False) kp (ÿ w (Í<|iH i++⟨#[36]⟩) 9 c u g) id) (λu g=>by simp at g;subst g;rfl) (by unfold ą;omega) Z ((H.out.1).fK kp).r.M ?_;intro E F c;obtain⟨G,tc1,rfl⟩:=jl c.fj;have g:=fc<|((H.out.1).fK kp).C c;clear c);have d3:=g.out.r.r H.out.2.1 id;have d4:=g.out.r.r H.out.2.2.1 id;go_region;go_wp2_with fail;refine Ý (Q:=Q2<|we n j i w0 (xs++[iH i++⟨#[36]⟩]) s t) ?_ (H.out.2.2.2.1 _ _ _ (gk _)<|(g.out).fK kp);rintro(_|(_|_|_|_)|_|_|_|_) a c hq;all_goals first|exact absurd hq id|skip
 let⟨T1,F,E⟩:=hq;obtain⟨c,rfl⟩:=F;unfold uU;have G:=fc E;clear E;go_wp2_with fail;exact H.out.2.2.2.2 _ _ _ (gk _) G.out
def ao4(u:Nat->Ç)(f:ik w0 v xs w)(N:xs.length<=800)(O:i<8)(b q:Int)(p r:ByteArray)(P:(b==q)=Ï)(S:(p.toList==r.toList)=Ï)(x:w0.cell? ⟨n,i*18,Ä⟩=Ã (Â Æ b))(y:w0.cell? ⟨j,i*18,Ä⟩=Ã (Â Æ q))(k:w0.cell? ⟨n,i*18+1,Ä⟩=Ã (Í p))(l:w0.cell? ⟨j,i*18+1,Ä⟩=Ã (Í r)) (L:∀a g W,uV n j i g (0:Nat) a->ik w0 g ((xs++[iH i++⟨#[36]⟩])++[iH i++⟨#[123]⟩]) W->Î À (à yg) (Q2<|we n j i w0 ((xs++[iH i++⟨#[36]⟩])++[iH i++⟨#[123]⟩]) s t) a W) (z:∀a g B,vZ n j g ((i+1:Nat):Int) a->ik w0 g (((xs++[iH i++⟨#[36]⟩])++[iH i++⟨#[123]⟩])++qI s t i 16) B->K a B): Î À z8 (Exit.then K<|QQ X) (tK n j v i u) w:=by
 unfold tK;conv=>arg 2;whnf
 have T:=f.r.r x id;have V:=f.r.r y id;have Y:=f.r.r k id;have c4:=f.r.r l id;have e0:(0:Int)<=(i:Int):=Z
 have e1:(i:Int)<8:=Z
 have oT:Ë.wrap ((i:Int)+1)=(i:Int)+1:=by rw[ó];omega
 have Ft:(0:Int)<=(i:Int)+1:=Z
 have zh:(i:Int)+1<=8:=Z
 have rn:(i:Int)<=(i:Int)+1:=Z
 have uH:((i:Int)+1).toNat=i+1:=Z
 have xU:¬9223372036854775807<(iH i).size+1:=by have:=yf i;omega
 have T0:ø ⟨#[97,98,99,100,101,102,103,104]⟩ i (i+1)=iH i:=U;have G:(xs++[iH i++⟨#[36]⟩]).length=xs.length+1:=fi
 obtain⟨ta,tc,rfl⟩:=jl f.fj;let⟨i0,C,D,E,F⟩:=í zZ;have e:=fc<|Á C<|Á D<|Á E F;have H:=fc<|Á f<|Á k<|Á l<|Á L z;clear f C D E F L z x y k l;go_wp2_with fail;go_region;go_wp2_with fail;go_region;go_wp2_with (at_builtin;refine Dg (base:=w0.heap.size) (n:=xs.length) (xs:=ju xs) (m:=1) U _ _ 25 U ù e.out.1 e.out.2.1 e.out.2.2.1 e.out.2.2.2 U U ((H.out.1).fK kp).fj ⟨_,0,Ä⟩ [Í<|iH i++⟨#[36]⟩] U Z U (λc u d=>e8.r (X:=λ_=>False) kp (ÿ w (Í<|iH i++⟨#[36]⟩) 9 c u d) id) (λu d=>by simp at d;subst d;rfl) (by unfold ą;omega) Z ((H.out.1).fK kp).r.M ?_;intro J I o;obtain⟨M,tc1,rfl⟩:=jl o.fj;have h:=fc<|((H.out.1).fK kp).C o;clear o);have d3:=h.out.r.r H.out.2.1 id;have d4:=h.out.r.r H.out.2.2.1 id;go_region;go_wp2_with (at_builtin;refine Dg (base:=w0.heap.size) (n:=(xs++[iH i++⟨#[36]⟩]).length) (xs:=ju<|xs++[iH i++⟨#[36]⟩]) (m:=1) U _ _ 25 U ù e.out.1 e.out.2.1 e.out.2.2.1 e.out.2.2.2 U U ((h.out).fK kp).fj ⟨_,0,Ä⟩ [Í<|iH i++⟨#[123]⟩] U Z U (λc u d=>e8.r (X:=λ_=>False) kp (ÿ I (Í<|iH i++⟨#[123]⟩) 9 c u d) id) (λu d=>by simp at d;subst d;rfl) (by unfold ą;omega) Z ((h.out).fK kp).r.M ?_;intro d o c;obtain⟨J,M,rfl⟩:=jl c.fj;have I:=fc<|((h.out).fK kp).C c;clear c);have d:=I.out;rw[G]at d;refine Ý (Q:=Q2<|we n j i w0 ((xs++[iH i++⟨#[36]⟩])++[iH i++⟨#[123]⟩]) s t) ?_ (H.out.2.2.2.1 _ _ _ (gk _)<|(d).fK kp);rintro(_|(_|_|_|_)|_|_|_|_) a c hq;all_goals first|exact absurd hq id|skip
 let⟨T1,J,o⟩:=hq;obtain⟨c,rfl⟩:=J;unfold uU;have M:=fc o;clear o;go_wp2_with fail;exact H.out.2.2.2.2 _ _ _ (gk _) M.out
def DO(n j:Nat)(w0:É)(s t:St)(a:é)(w:É):Prop:=
 ∃(i:Nat) (v:Ç),vZ n j v i a/\i<=8/\ik w0 v (pP s t i) w
def T3(n j:Nat)(w0:É)(s t:St)(a:é)(w:É):Prop:=
 ∃(v:Ç),vZ n j v (8:Nat) a/\ik w0 v (pP s t 8) w
def JP(a:é)(_:É):Nat:=match a.tmps.getD 11 Ă with
 |Â _ i=>8-i.toNat
 |_=>0
def aaN(b:vZ n j v i y):JP y w=8-i:=by obtain⟨u,rfl⟩:=b;show 8-(i:Int).toNat=_;simp
def ao5(B:mA n s h w0)(C:mA j t c w0)(a:é)(w:É)(E:DO n j w0 s t a w): Î À z8 (Exit.then (λq g=>DO n j w0 s t q g/\JP q g<JP a w)<|QQ<|T3 n j w0 s t) a w:=by
 let⟨i,v,D,H,l⟩:=E;rw[aaN D];obtain⟨u,rfl⟩:=D;by_cases F:i=8
 .subst F;exact ao0 u λa q=>⟨v,q,l⟩
 have k:i<8:=Z
 have I:=TX s t i;let⟨m,o,_⟩:=B.gV k;let⟨p,r,_⟩:=C.gV k;have L:∀q:List ByteArray,q.length<=900->∀a b W,uV n j i b (0:Nat) a->ik w0 b q W->Î À (à yg) (Q2<|we n j i w0 q s t) a W:=λq y a b W G z=>
  ĉ (DJ n j i w0 q s t) NN ⟨0,b,G,Z,by show ik w0 b (q++[]) W;rwa[ò]⟩<|aoZ B C k y
 have x:∀q:List ByteArray,pP s t i++vY (s i).fu (t i).fu (s i).r (t i).r i=q->∀a b g,vZ n j b ((i+1:Nat):Int) a->ik w0 b (q++qI s t i 16) g->DO n j w0 s t a g/\JP a g<8-i:=λq y a b g f z=>⟨⟨i+1,b,f,Z,by rwa[aaL,ye,<-Ċ,y]⟩,by rw[aaN f];omega⟩;by_cases d:(s i).fu=(t i).fu<;>by_cases e:(s i).r.toList=(t i).r.toList
 .exact ao1 u l Z k _ _ _ _ (by simpa using d) (by simpa using e) m p o r (L _ Z)<|x _<|by unfold vY;rw[if_pos d,if_pos e,ò,ò]
 .exact ao2 u l Z k _ _ _ _ (by simpa using d) (by simpa using e) m p o r (L _<|by rw[Ó];simp;omega)<|x _<|by unfold vY;rw[if_pos d,if_neg e,Ξ]
 .exact ao3 u l Z k _ _ _ _ (by simpa using d) (by simpa using e) m p o r (L _<|by rw[Ó];simp;omega)<|x _<|by unfold vY;rw[if_neg d,if_pos e,ò]
 .exact ao4 u l Z k _ _ _ _ (by simpa using d) (by simpa using e) m p o r (L _<|by rw[Ó,Ó];simp;omega)<|x _<|by unfold vY;rw[if_neg d,if_neg e,Ċ]
def ao6(b:mA n s h w)(d:mA j t c w): Ò À 126 #[Å<|Ã ⟨n,0,Ä⟩,Å<|Ã ⟨j,0,Ä⟩] w λe a=>∃v,e=È v/\ik w v (pP s t 8) a:=by
 have L:∀a,vZ n j (Ê Ä 0 0) (0:Nat) a->Î À (à z8) (QQ<|T3 n j w s t) a w:=λa f=>
  ĉ (DO n j w s t) JP ⟨0,_,f,â _,ik.M w<|e8.fW _ _⟩<|ao5 b d
 have H:=fc L;clear L b d;go_enter Tryz.func126,Tryz.ntmps126;go_wp2_with fail;refine Ý (Q:=QQ<|T3 n j w s t) ?_ (H.out _ (gk _));rintro(_|(_|_)|_|_|_|_) a v hq;all_goals first|exact absurd hq id|skip
 let⟨k,g,e⟩:=hq;obtain⟨u,rfl⟩:=g;unfold tK;have i:=fc e;clear e;go_wp2_with fail;go_ret;exact⟨_,U,i.out⟩
end
def ao7:(À.info? 5).map (λi=>(i.zero,i.size,i.bytes))=Ã (Ã<|Â aW 0,1,1):=fp
theorem e8.G(f:X p.block)(n:Nat):e8 X w (w.freeze p n):=by
 by_cases b:n=0
 .rw[Đ,if_pos b];exact e8.fW _ _
 rw[Đ,if_neg b];refine⟨fi,λk _ g=> ?_,λa i o h=> ?_,λ_ a=>by have:=U' a p n;rwa[Đ,if_neg b]at this⟩
 .grind
 .simp only[Û]at h;split at h
  .cases d:w.heap[i]? with
   |none=>rw[d]at h;cases h
   |some e=>
    have:=a _ _ d;rw[d]at h;cases e with
    |cells c t z=>simp only[ñ,è]at h;subst h;exact λx=>x
    |_=>exact absurd trivial this
  .exact a i o h
def aaO:(À.info? 109).map (·.size)=Ã 2:=fp
def ao8:liesAt À À.depth 109 (2/À.cellsOf 109) 0 109 1=Ú:=fp
def ao9(b:Nat)(w:É)(d:w.cell? ⟨b,0,Ä⟩=Ã (Å<|Ã ⟨b,0,Ä⟩)):Ò À 78 #[Å<|Ã ⟨b,0,Ä⟩] w λe a=>e=È (æ #[])/\a=w:=by let⟨j,c,_⟩:=Ì.1 aaO;go_enter aL,aF;go_wp2;rw[Lib.run_neq_ptr_same w _ ĳ c];go_wp2;go_end0;exact⟨U,U⟩
def apa(b:Nat)(w:É)(g:w.cell? ⟨b,0,Ä⟩=Ã (Å Ä))(a:w.shape? b=Ã (109,2))(h:w.frozen? ⟨b,0,Ä⟩=Ï):Ò À 78 #[Å<|Ã ⟨b,0,Ä⟩] w λe d=>e=È (æ #[])/\d=w.setCell ⟨b,0,Ä⟩ (Å<|Ã ⟨b,0,Ä⟩):=by let⟨j,c,f⟩:=Ì.1 aaO;go_enter aL,aF;go_wp2;rw[Lib.run_to_unsafe w ⟨b,0,Ä⟩ ĳ ŭ c (by rw[f];decide) a<|Nat.zero_lt_succ 1];simp only[į];rw[Ħ];go_wp2;rw[ţ Tryz.func129 fp fp fp fp];rw[Lib.run_noEscape];simp only[į];rw[Ħ];go_wp2;rw[Lib.run_from_unsafe w ⟨b,0,Ä⟩ ŭ ĳ c a ao8];simp only[į];rw[Ħ];go_wp2;go_end0;exact⟨U,U⟩
theorem aaP{base:Nat}{u h:ô}(j:P.underlying t=Ã (bq e))(k:P.underlying u=Ã .string)(p:P.info? e=Ã zJ)(G:zJ.zero=Ã (Â aW 0)) (D:zJ.size=1) (H:zJ.bytes=1) (E:w.ownsRow base e 1 v n l) (s:ByteArray) (J:n+s.size<=ą) (Q:n+s.size<=140737488355328) (r:(Ō #[t,u] h #[v,Í s]).run P w=χ z W) (I:ml e=Ï):(kq w->kq W)/\(∀m,sk m w->sk m W):=by
 have S:n+s.size<=9223372036854775807:=by simp only[ą]at J;omega
 have K:l.length=n:=by simpa using E.1
 rcases E.2 with⟨rfl,rfl⟩|⟨g,y,B,rfl,V,F,X,Y,L,htake⟩
 .by_cases C:s.size=0
  .have a:=Lib.run_firstCells_string (P:=P) w 1 s;rw[C]at a;simp[Ō,ř j,ř k,sizeOf,typeInfo,p,D,bz,C,a]at r;grind
  .have b:=run_append_nil_string w t u h e zJ (Â aW 0) j k p G s Z Z (by rw[H];omega);rw[r]at b;cases b;exact⟨λa=>Jb a _ _ _,λ_ a=>Jc a _ _ _<|Ø I⟩
 .by_cases M:n+s.size<=y
  .have avg:B.size=y:=by simpa using L
   have b:=Lib.run_append_room_string w t u h e zJ j k p D g n y B F s M Z;rw[r]at b;cases b;refine⟨λa q o d=> ?_,λm a q c T N C d O=> ?_⟩
   .by_cases f:q=g
    .subst f;rw[Ğ w q B _ e _ F]at d;cases d;exact λx=>x
    .rw[Ę w g q _ f]at d;exact a q o d
   .by_cases f:q=g
    .subst f;rw[Ğ w q B _ e _ F]at d;grind
    .rw[Ę w g q _ f]at d;exact a q c T N C d O
  .have c:=E.cells U;have b:=Lib.run_append_grow_string w t u h e zJ (Â aW 0) j k p G ⟨g,0,Ä⟩ n y l (by rw[D];simpa using K) c s Z Z (by rw[H];exact ŕ Z Z);rw[r]at b;cases b;exact⟨λa=>Jb a _ _ _,λ_ a=>Jc a _ _ _<|Ø I⟩
def apb{P:Program}{ops:Array Oper}{rest:List Oper}{o:Oper}{a:Act}{Q:Exit->Act->World->Prop}{w:World}(SR:o.guard=none)(sl x:Operand)(t u:TypeId) (ho:o.op=.call {callee:=.builtin .append,args:=#[sl,x],argTypes:=#[t,u]}) {base:Nat} {e:TypeId} {i:TypeInfo} (ht:P.underlying t=some (.slice e)) (hu:P.underlying u=some .string) (hi:P.info? e=some i) (hz:i.zero=some (.int .u8 0)) (xL:i.size=1) (xM:i.bytes=1) {v:Value} {n:Nat} {xs:List Value} (hs:a.eval sl=v) (lL:w.ownsRow base e 1 v n xs) (s:ByteArray) (hx:a.eval x=.string s) (Dh:n+s.size<=maxLen) (Di:n+s.size<=140737488355328) (Df:base<=w.heap.size) (h:∀v' w',w'.ownsRow base e 1 v' (n+s.size) (xs++Lib.strCells s)->e8 (λk=>v.ownBlock=some k) w w'->wpList P ops Q rest (a.put o.dst v') w') (hT:ml e=false:=by decide):wpList P ops Q (o::rest) a w:=by refine ű SR λK hK=> ?_;let⟨v',w',hr,h2,h3,_⟩:=Lib.run_append_own_string w base t u o.type e i ht hu hi hz xL xM v n xs lL s Dh Di Df;have kp:e8 (λk=>v.ownBlock=Ã k) w w':=⟨h3.size,λk hk q=>h3.block k hk λe=>q e.symm,(aaP ht hu hi hz xL xM lL s Dh Di hr hT).1,(aaP ht hu hi hz xL xM lL s Dh Di hr hT).2⟩;unfold Ń ĥ;simp only[ho,ag,aR,ah,Ų,ų,Ĵ,ļ,Ť,Ŵ,hs,hx,hr];exact hK _ _<|h v' w' h2 kp
structure o6(w0:É)(b:Nat)(bs:List Ç)(w:É):Prop where
 I:w0.heap.size<=b
 r:e8 (λ_=>False) w0 w
 C:∃v,ff b [Å<|Ã ⟨b,0,Ä⟩,v] 109 w/\w.ownsRow w0.heap.size 5 1 v bs.length bs
def o6.fK(h:o6 u b l w)(k:e8 (λ_=>False) w W):o6 u b l W:=by let⟨v,a,c⟩:=h.C;exact⟨h.I,h.r.fe k,v,a.I k id,ij c k λ_ _=>id⟩
theorem T4(h:o6 u b l w)(s:ByteArray)(m:l.length+s.size<=140737488355328): Ò À 55 #[Å<|Ã ⟨b,0,Ä⟩,Í s] w λe i=>e=È (æ #[Â Ë s.size,.nilIface])/\o6 u b (l++Lib.strCells s) i:=by
 let⟨B,c,n,o,p⟩:=í ao7;let⟨v,a,d⟩:=h.C;obtain⟨C,D,rfl⟩:=jl d;have t:=a.r 0 _ U;have E:=a.r 1 _ U;have x:=h.r.M;have y:=jF d a A;have H:=fc<|Á h<|Á c<|Á n<|Á o<|Á p<|Á a d;go_enter Tryz.func55,Tryz.ntmps55;go_wp2_with (first
  |(go_at_call 78;refine(ao9 b _ t).mono ?_;rintro e i ⟨rfl,j⟩;subst i)
  |(at_builtin;refine apb U _ _ 107 9 U ý đ H.out.2.1 H.out.2.2.1 H.out.2.2.2.1 H.out.2.2.2.2.1 U H.out.2.2.2.2.2.2 s U (by unfold ą;omega) m x ?_;intro g f j k;obtain⟨q,r,rfl⟩:=jl j;have i:=H.out.2.2.2.2.2.1.I k y;have z:=i.r 0 _ U;have F:=i.r 1 _ U;have G:=i.C 1;have e:=fc (Á k (Á i j));clear k i j))
 go_ret2;have z:=e.out.2.1.fQ 1<|Ê q (l.length+s.size) r;have g:e8 (λk=>k=b) f (f.setCell ⟨b,1,Ä⟩<|Ê q (l.length+s.size) r):=e8.I (X:=λk=>k=b) U _<|Ù e.out.2.1.G;refine⟨U,H.out.1.I,(H.out.1.r.C e.out.1 λi c q=> ?_).C g λi c q=> ?_,_,z,?_⟩
 .have:=(H.out.2.2.2.2.2.2.lt i q).1;omega
 .have:=H.out.1.I;omega
 .have:=ij e.out.2.2 g λj q r=>jF e.out.2.2 e.out.2.1 A (by rw[q,r]);grind [Ó,Lib.strCells_length]
def apc:(À.info? 5).map (·.size)=Ã 1:=fp
def apd:À.cellsOf 5=1:=fp
structure JQ(w0:É)(b:Nat)(p:Ç)(w:É):Prop where
 C:w0.heap.size<=b
 I:e8 (λ_=>False) w0 w
 r:ff b [p,Ê Ä 0 0] 109 w
section
variable{w0:É}{p:Ç}
def JQ.ES(h:JQ w0 b (Å<|Ã ⟨b,0,Ä⟩) w)(f:d.size<=ą):o6 w0 b [] ((w.alloc<|Ð d 5).setCell ⟨b,1,Ä⟩<|Ê (Ã ⟨w.heap.size,0,Ä⟩) 0 d.size).drew.drew.drew:=by have a:=e8.gG (λ_=>False) w d 5;have c:e8 (λk=>k=b) (w.alloc<|Ð d 5) ((w.alloc<|Ð d 5).setCell ⟨b,1,Ä⟩<|Ê (Ã ⟨w.heap.size,0,Ä⟩) 0 d.size):=e8.I (X:=λk=>k=b) U _<|Ù (h.r.I a id).G;have k:=(h.r.I a id).fQ 1<|Ê (Ã ⟨w.heap.size,0,Ä⟩) 0 d.size;have m:=h.r.M;have g:(w.alloc<|Ð d 5).ownsRow w0.heap.size 5 1 (Ê (Ã ⟨w.heap.size,0,Ä⟩) 0 d.size) 0 []:= ⟨U,Ù ⟨w.heap.size,d.size,d,U,h.I.M,ì w _,â _,f,fi,fi⟩⟩;have l:o6 w0 b [] ((w.alloc<|Ð d 5).setCell ⟨b,1,Ä⟩<|Ê (Ã ⟨w.heap.size,0,Ä⟩) 0 d.size):= ⟨h.C,(h.I.fe a).C c λi n q=>by have:=h.C;omega,_,k,ij g c λj q r=>by cases q;have e:w.heap.size=b:=r;omega⟩;exact((l.fK<|e8.fU _ _).fK<|e8.fU _ _).fK<|e8.fU _ _
theorem ape(h:JQ w0 b (Å<|Ã ⟨b,0,Ä⟩) w)(n:Nat)(j:n<=281474976710656): Ò À 79 #[Å<|Ã ⟨b,0,Ä⟩,Â Ë n] w λe c=>e=È (æ #[])/\o6 w0 b [] c:=by
 let⟨a,g,o,k⟩:=Lib.run_makeNoZero w.drew #[3] 107 5 ý n j;have i:Ë.wrap (Ë.wrap 0+(n:Int))=n:=by grind [ó]
 have p:(callFunc 130 #[Â Ë<|Ë.wrap<|Ë.wrap 0+(n:Int)]).run À w.drew=χ (.value<|Ê (Ã ⟨w.drew.heap.size,0,Ä⟩) n a.size) (w.drew.drew.drew.alloc<|Ð a 5):=by rw[i,ţ Tryz.func130 fp fp fp fp,g];rfl
 have e:=fc (Á (show w.drew.cell? ⟨b,1,Ä⟩=Ã (Ê Ä 0 0)from h.r.r 1 _ rfl) trivial);have d:=h.r.I (e8.gG (λ_=>False) w a 5) id;have l:=d.r 1 _ U;have f:=l;have q:=d.C 1;have r:∀W:É,(ξ #[107,107] 3 #[Ê (Ã ⟨w.heap.size,0,Ä⟩) 0 a.size,Ê Ä 0 0]).run À W=χ (goInt 0) W:= λW=>run_copy_none W 107 107 3 5 _ _ 0 a.size 0 0 ý apc U;have m:=fc (h.ES<|k<|by unfold ą;omega);clear i h d g;go_enter Tryz.func79,Tryz.ntmps79;go_wp2;refine mr (λc=>c.cell? ⟨b,1,Ä⟩=Ã (Ê Ä 0 0)/\True) [] fp ?_;refine tk 0 e.out ?_;refine tk 1 e.out ?_;refine tk 2 e.out ?_;refine tk 3 e.out ?_;refine tk 4 e.out ?_;refine tk 5 e.out ?_;refine tk 6 e.out ?_;refine tk 7 e.out ?_;refine tk 9 e.out ?_;refine tk 10 e.out ?_;refine tk 11 e.out ?_;refine tk 12 e.out ?_;refine tk 13 e.out ?_;refine gC 8 ?_;intro K c;go_simp;refine c.out _ _ (λ_=>⟨f,trivial⟩) ?_;refine gC 14 ?_;intro K c;go_simp;refine c.out _ _ (λ_=>⟨f,trivial⟩) ?_;refine gC 15 ?_;intro K c;go_simp;refine c.out _ _ (λ_=>⟨f,trivial⟩) ?_;refine lZ fp ?_ _;go_wp2;go_end0;exact⟨U,m.out⟩
def apf(h:JQ w0 b (Å Ä) w)(n:Nat)(l:0<n)(d:n<=281474976710656): Ò À 54 #[Å<|Ã ⟨b,0,Ä⟩,Â Ë n] w λe a=>e=È (æ #[])/\o6 w0 b [] a:=by
 have f:w.shape? b=Ã (109,2):=by have i:w.heap[b]?=_:=h.r;simp[Ÿ,i]
 have c:=fc (show JQ w0 b (Å<|Ã ⟨b,0,Ä⟩) (w.setCell ⟨b,0,Ä⟩<|Å<|Ã ⟨b,0,Ä⟩).drew from⟨h.C,(h.I.C (e8.I (X:=λk=>k=b) U _<|Ù h.r.G) λi k q=>by have:=h.C;omega).fe<|e8.fU _ _,(h.r.fQ 0 _).I (e8.fU (λ_=>False) _) id⟩);have i:=fc<|Á (c.out.r.r 1 _ rfl) trivial;have q:=h.r.r 0 _ U;have g:=h.r.C 0;have m:¬((n:Int)<0):=Z
 have o:(0:Int)<(n:Int):=Z
 have p:Ë.wrap 0<(n:Int):=by rw[ó];omega
 go_enter Tryz.func54,Tryz.ntmps54;go_wp2_with (go_at_call 78;refine(apa b w q f g).mono ?_;rintro e a ⟨rfl,k⟩;subst a);refine mr (λa=>a.cell? ⟨b,1,Ä⟩=Ã (Ê Ä 0 0)/\True) [] fp ?_;apply tk 0 i.out;apply tk 1 i.out;apply tk 2 i.out;apply tk 3 i.out;apply tk 4 i.out;apply tk 5 i.out;apply tk 6 i.out;apply tk 7 i.out;apply tk 8 i.out;apply tk 9 i.out;apply tk 10 i.out;apply tk 11 i.out;apply tk 12 i.out;refine lZ fp ?_ _;go_wp2_with (go_at_call 79;refine(ape c.out n d).mono ?_;rintro e a ⟨rfl,k⟩;have j:=fc k;clear k);go_end0;exact⟨U,j.out⟩
def apg{l:List UInt8}(h:o6 w0 b (õ l) w)(f:l≠[]): Ò À 56 #[Å<|Ã ⟨b,0,Ä⟩] w λe K=>e=È (Í ⟨l.toArray⟩)/\e8 (λ_=>False) w0 K:=by
 let⟨v,m,d⟩:=h.C;have n:l.length≠0:=by simpa using f
 rw[Ř]at d;obtain⟨g,a,c,rfl,t,o,u,s,y,z⟩:∃g a c,v=Ê (Ã ⟨g,0,Ä⟩) l.length a/\w0.heap.size<=g/\w.heap[g]?=Ã (Ð c 5 (0,0))/\l.length<=a/\a<=ą/\c.size=a*1/\c.toList.take (l.length*1)=õ l:=by
  rcases d.2 with⟨_,e⟩|⟨g,a,c,i,r⟩
  .exact absurd e n
  .exact⟨g,a,c,i,r⟩
 have e:=fc (Á (show w.drew.cell? ⟨b,1,Ä⟩=Ã (Ê (Ã ⟨g,0,Ä⟩) l.length a)from m.r 1 _ rfl) trivial);have B:∀W:É,(φ #[107] 177 #[Ê (Ã ⟨g,0,Ä⟩) l.length a]).run À W=χ (Å<|Ã ⟨g,0,Ä⟩) W:=λW=>
  Lib.run_unsafeSliceData_row _ _ _ _ _ _ Z
 have C:(Ő #[177,3] 9 #[Å<|Ã ⟨g,0,Ä⟩,Â Ë l.length]).run À w.drew=χ (Í ⟨l.toArray⟩) (w.drew.freeze ⟨g,0,Ä⟩ l.length):=by refine Ĺ w.drew 177 3 9 5 Ū apd g c.size (by have i:w.drew.heap[g]?=Ã (Ð c 5 (0,0)):=o;simp[Ÿ,i]) l f Z (by unfold ą at s;omega) ?_;intro j x i;have:=d.cells U j (Â aW x.toNat) (by simp[õ,i]);exact this
 have x:=fc ((h.r.fe<|e8.fU _ _).C (e8.G (X:=λk=>k=g) (p:=⟨g,0,Ä⟩) U l.length) λi j q=>by omega);have j:=fc (Á ((e8.G (X:=λk=>k=g) (p:=⟨g,0,Ä⟩) rfl l.length).r e.out.1 λq=>jF d m A<|by show Ã g=Ã b;rw[show g=b from(show b=g from q).symm]) trivial);go_enter Tryz.func56,Tryz.ntmps56;go_wp2;refine mr (λK=>K.cell? ⟨b,1,Ä⟩=Ã (Ê (Ã ⟨g,0,Ä⟩) l.length a)/\True) [] fp ?_;apply tk 0 e.out;apply tk 1 e.out;apply tk 2 e.out;apply tk 3 e.out;apply tk 4 e.out;apply tk 5 e.out;apply tk 6 e.out;apply tk 7 e.out;apply tk 8 e.out;apply tk 9 e.out;apply gC 10;intro K i;go_simp;apply i.out _ _ λ_=>j.out;apply gC 11;intro K i;go_simp;apply i.out _ _ λ_=>j.out;refine lZ fp ?_ _;go_wp2;go_ret;exact⟨U,x.out⟩
end
end Go.Proofs.Y.gA
