import Derived.Test.YtgpphkdoanciiaaGreatDoorWAC
import Derived.Test.YtgpphkdoanciiaaGreatDoorChecked
import Derived.WalkKit
import Derived.WalkSpells
import Derived.WalkLawsBesides
import Derived.Deep.Light
import Derived.Maps.AppendAt
import Derived.RegionTactic
import Derived.Deep.RegionWith
import Derived.Deep.QuietTactic
import Derived.BigQuiet
import Derived.Deep.RegionHeld3
import Derived.WalkMore
import Derived.Deep.MidRow
import Derived.Great.Walk
import Derived.Lib.UnsafeStr
import Derived.Lib.BufferWrite
import Derived.Laws.Tables
import Derived.Laws.Bits64
import Derived.Shelf.Strconv.Itoa0
import Derived.Shelf.Strconv.Itoa1
import Derived.Shelf.LaysM
import Derived.Shelf.Strconv.Itoa2
import Derived.Shelf.Strconv.Itoa3
import Derived.Shelf.Strings.Repeat
import Derived.Shelf.Strings.OnBuilder
import Derived.Shelf.Strconv.Clone
import Derived.Shelf.Strings.Prefix
import Derived.Shelf.Bits.Mul64
import Derived.Test.YtgpphkdoanciiaaGreatDoorProg
import Derived.Lib.ItoaLen
set_option linter.all false
set_option maxRecDepth 1000000
set_option maxHeartbeats 8000000
open Go.Proofs.Tryz renaming prog->À,ntmps205->è,func205->í,underlying25->Ā,underlying107->Ă,underlying9->Ė,underlying3->ĥ,underlying4->Ħ,zeroValue3->ı,zeroValue4->Ĳ,zeroValue9->ĳ,underlying106->ŀ,underlying36->Ņ,ntmps170->Ň,zeroValue36->Ō,func170->ő,ntmps66->Œ,sizeOf3->œ,sizeOf4->Ŕ,sizeOf9->ŕ,func66->Ū,isAgg3->ū,isAgg4->Ŭ,isAgg9->ŭ,ntmps154->ű,ntmps113->Ų,sizeOf36->ų,underlying177->ŵ,underlying168->ŷ,underlying170->Ÿ,func154->Γ,func187->Δ,func113->Ε,zeroValue168->Η,isAgg36->Θ,underlying95->Ι,underlying0->Ρ,underlying5->Τ,zeroValue95->Υ,zeroValue0->ο,zeroValue5->π,sizeOf168->ψ,ntmps209->ae,ntmps210->af,ntmps173->ah,ntmps168->ai,ntmps196->ak,ntmps169->ar,ntmps187->au,isAgg168->av,sizeOf95->ax,ntmps172->ay,func209->aG,func210->aI,func173->aK,func168->aL,func196->aN,func169->aO,sizeOf0->aQ,sizeOf5->aR,isAgg95->aT,func172->aU,ntmps78->aV,isAgg0->aZ,isAgg5->bb,func78->bg,f161->bD
open And renaming intro->Á
open Go.Value renaming int->Â,pointer->Å,slice->Ê,string->Í,bool->Ò,tuple->é,agg->ė,cells->ī,ownBlock->ļ
open Option renaming some->Ã,none->Ä,map_eq_some_iff->Ì,map_some->ì,isSome_none->Ļ,map->Ŷ
open Go.IntKind renaming u64->Æ,i64->Ë,wrap_i64->î,wrap_u64->Ο,u8->bx
open Go renaming Value->Ç,World->É,Calls->Ô,Act->ë,heap_alloc_new->ð,info_parts->ò,bodyPost_ret->õ,TypeId->ú,cell_one_new->ą,undef->ĉ,Addr->Č,maxLen->č,wp_loop->Đ,wpList_load_mid->Ĝ,setRow_other->Ġ,setRow_heap->Ĩ,execOp->į,all_oneCell_toArray->Ķ,wpList_store_mid->Ŋ,Code->Ş,grownCap->š,growslice_fits->Ť,run_underlying->Ũ,Oper->Ů,run_callFunc_extern->Ű,Operand->Ź,wpList_plain->Ż,cell_two_new->ž,grownCap_ge->ε,run_append_grow->ι,run_loadVar_mid->ν,ready_mono->χ,wpOp_step->aB,resolve->aE,builtin->aF,yielded->aH,results->aJ,Ending->aP,Program->aX,invoke->bm,wpList->bq,Exit->bu
open Go.Ending renaming returned->È
open Go.Code renaming wp->Î,wp_mono->à,loop->ã,skip->Ń
open Bool renaming false->Ï,true->Ý,false_eq_true->Ğ
open Go.Obj renaming cells->Ð
open List renaming getElem?_eq_getElem->Ñ,length_append->Ó,setIfInBounds_toArray->Õ,getElem?_eq_none->Ö,getElem?_eq_some_iff->Ù,getElem?_append_right->Þ,eq_nil_of_length_eq_zero->á,getElem?_append_left->â,set_cons_zero->æ,set_cons_succ->ç,getD_eq_getElem?_getD->ö,getElem?_range->ø,append_nil->ù,mem_of_getElem?->ü,append_assoc->þ,mem_append->ā,size_toArray->ă,ext_getElem?->Ą,range->Ĉ,map_toArray->Ċ,drop_eq_getElem_cons->Ę,map_cons->Ě,length_set->ě,map_nil->ġ,getElem?_map->Ģ,drop_eq_nil_of_le->ģ,set_append_left->ĩ,mem_map->ķ,getElem?_set->ń,length_cons->ŉ,getElem?_set_self->ŏ,nil_append->Ř,range_succ->Ś,map_append->ś,getElem?_toArray->Ŝ,mem_append_right->ŝ,mem_append_left->Ţ,getElem?_set_ne->ť,mem_cons_of_mem->ũ,flatMap_append->ů,take_add_one->Κ,length_take->Λ,length_drop->Μ,mem_flatMap->Ν,take_length->Χ,length_nil->κ,length_map->ξ,take_left->υ,take_take->φ,drop->bC
open Int renaming le_refl->Ø,toNat_of_nonneg->ę,toNat_natCast->ſ,le_trans->Α
open Array renaming getElem?_modify->Ú,getElem?_eq_none->ñ,size_replicate->ē,toList_append->Ĵ,length_toList->ĵ,getD_eq_getD_getElem?->Ĺ,replicate->ř,mem_toList_iff->Ŧ,size_append->ź
open Or renaming inl->Û,inr->Ü
open Nat renaming le_refl->ß,zero_le->å,le_trans->ï,lt_or_ge->ğ,mul_one->Ī,zero_add->ĸ,le_add_right->ŋ,add_mul->Š,mul_le_mul_right->ţ,lt_of_lt_of_le->Ŵ,min_eq_left->θ,mod_lt->bl
open Go.World renaming block_lt_of_cell?->ä,ownsRow_nil->ć,alloc->ċ,setCell->Ď,drew->đ,freeze->ĕ,shape?->Β,cell?->Ω
open Option.some renaming injEq->ê
open Go.Operand renaming tmp->ó,func->bG
open Go.Ground renaming data->ô
open Go.Lib renaming byteCells->û,nDigits->Ē,zeros24->Ĭ,decDigits_length->ĭ,run_unsafeString_row->ņ,decDigits->ň,byteCells_length->ŧ,TabIs->aD,pow10Tab->aS
open Go.Builtin renaming zeroCells->ý,append_->ŗ,unsafeString_->ş,copy_->aj,unsafeSliceData_->az,min->bL,lenOf->bO
open ByteArray renaming extract->ÿ,size_extract->Ŗ,ext->bM
open Go.Region renaming ready->Ć,wanted->ħ,binds->Ő,Mode->ζ
open Go.Great renaming wpList_runTo->ď
open Go.RowKit.Below renaming heap_alloc->Ĕ,heap_setCell->ĝ
open False renaming elim->Ĥ
open Go.Obj.cells renaming injEq->Į
open Go.Oper renaming upon_value->İ,wp->Ŏ
open Go.Shelf renaming Ren->ĺ
open Go.Result renaming andThen->Ľ,andThen_ok->Ł,ok->aA
open Go.TypeDesc renaming isRow->ľ,slice->bK
open Go.Instr renaming fill->Ŀ,index->η
open Go.Act renaming put->ł
open Go.Sort renaming mapBlock->ō,putRow->ω
open Go.Sem renaming run_bind->ż,run_pure->Ž
open Go.Op renaming build->ς,call->aW,alloc->bH
open Go.Proofs.Lays renaming n283->bh,n285->bj,n212->bk,n99->br
variable{i n j b k m J j9 j7 j6:Nat}{w u W jX:É}{v x z jQ:Ç}{a p:Č}{h c:Int}{e t T:ú}{d q:Array Ç}{P:aX}{y:ë}{B:ByteArray}{X:Nat->Prop}{O:Option Č}{l:List Ç}{yQ:Bool}{K H:ë->É->Prop}{o:Ů}{D:Nat->Nat}{jJ:List Nat}{qQ:Ź}{zQ:List Int}{zJ:Go.TypeInfo}{xX:Ź->Ç}{xJ:Nat×Nat}{vX:List ByteArray}{vJ:bu->ë->É->Prop}{s:Go.Func}
namespace Go.Proofs.Y.iE
open Go Go.Proofs Go.RowKit Go.Proofs.Y.Lift
def fi{p:Prop}(h:p):Hid p:=h
def Z5{b:Bool}(h:yQ=b):È (Ò yQ)=È (Ò b):=by rw[h]
def Ft{k:IntKind}{b:Int}(h:c=b):È (Â k c)=È (Â k b):=by rw[h]
def Z6{b:ByteArray}(h:B=b):È (Í B)=È (Í b):=by rw[h]
def km:Ç->Bool
 |Â bx _=>Ï
 |Â _ _=>Ý
 |Ò _=>Ý
 |_=>Ï
def me(T:ú):Bool:=T==257||T==246
def sj(m:Nat)(w:É):Prop:=∀(b:Nat) (c:Array Ç) (T:ú) (v:Nat×Nat),m<=b->w.heap[b]?=Ã (Ð c T v)->me T=Ý->0<c.size/\∀v∈c.toList,km v=Ý
def NF(b:Nat)(w:É):Prop:=∀(c:Array Ç) (T:ú) (a:Nat×Nat),w.heap[b]?=Ã (Ð c T a)->me T=Ï
structure fg(X:Nat->Prop)(w w':É):Prop where
 M:w.heap.size<=w'.heap.size
 N:∀k,k<w.heap.size->¬X k->w'.heap[k]?=w.heap[k]?
 gX:kl w->kl w'
 Y:∀m,sj m w->sj m w'
section
variable{Y:Nat->Prop}{w' d:É}
def fg.fW(X:Nat->Prop)(w:É):fg X w w:=⟨ß _,λ_ _ _=>rfl,id,λ_=>id⟩
def fg.fj(h:fg X W jX)(k:fg X jX d):fg X W d:= ⟨ï h.M k.M,λi b c=>(k.N i (Ŵ b h.M) c).trans<|h.N i b c,λa=>k.gX<|h.gX a,λm a=>k.Y m<|h.Y m a⟩
def fg.S(h:fg X w w')(b:∀k,k<w.heap.size->X k->Y k):fg Y w w':= ⟨h.M,λk a c=>h.N k a λx=>c<|b k a x,h.gX,h.Y⟩
def fg.C(h:fg X W jX)(k:fg Y jX d)(e:∀i,i<W.heap.size->Y i->X i):fg X W d:= ⟨ï h.M k.M,λi b c=>(k.N i (Ŵ b h.M) λy=>c<|e i b y).trans<|h.N i b c,λa=>k.gX<|h.gX a,λm a=>k.Y m<|h.Y m a⟩
def akE(a:kl w)(p:Č)(v:Ç):kl (w.setCell p v):=by
 intro i o h;by_cases e:i=p.block
 .subst e;unfold Ď at h;simp only[Ú,if_true]at h;cases b:w.heap[p.block]? with
  |none=>rw[b]at h;cases h
  |some d=>
   have:=a _ _ b;rw[b]at h;cases d with
   |cells c t z=>simp only[ì,ê]at h;subst h;exact λx=>x
   |_=>exact absurd trivial this
 .rw[ĝ _ _ _ _ (by simpa using e)]at h;exact a i o h
def IP(a:kl w)(b:Array Ç)(t:ú)(z:Nat×Nat):kl (w.alloc<|Ð b t z):=by
 intro i o h;by_cases e:i<w.heap.size
 .rw[Ĕ _ _ _ e]at h;exact a i o h
 .by_cases c:i=w.heap.size
  .subst c;rw[ð]at h;cases h;exact λx=>x
  .have:(w.alloc<|Ð b t z).heap.size<=i:=by simp;omega
   rw[ñ this]at h;cases h
def akF(a:sj m w)(p:Č)(v:Ç)(f:km v=Ý\/NF p.block w):sj m (w.setCell p v):=by
 intro i c T k g h b;by_cases e:i=p.block
 .subst e;unfold Ď at h;simp only[Ú,if_true]at h;cases d:w.heap[p.block]? with
  |none=>rw[d]at h;cases h
  |some l=>
   rw[d]at h;cases l with
   |cells o t z=>
    simp only[ì,ê,Į]at h;obtain⟨n,rfl,rfl⟩:=h;rcases f with f|f
    .subst n;split
     .exact a _ _ _ _ g d b
     .refine⟨by rw[Array.size_setIfInBounds];exact(a _ _ _ _ g d b).1,λu j=> ?_⟩;rw[Array.toList_setIfInBounds]at j;rcases List.mem_or_eq_of_mem_set j with q|q
      .exact(a _ _ _ _ g d b).2 u q
      .rwa[q]
    .rw[f _ _ _ d]at b;cases b
   |_=>cases h
 .rw[ĝ _ _ _ _ (by simpa using e)]at h;exact a i c T k g h b
def IQ(a:sj m w)(d:Array Ç)(t:ú)(z:Nat×Nat)(b:me t=Ï\/0<d.size/\∀v∈d.toList,km v=Ý):sj m (w.alloc<|Ð d t z):=by
 intro i c T g j h f;by_cases e:i<w.heap.size
 .rw[Ĕ _ _ _ e]at h;exact a i c T g j h f
 .by_cases k:i=w.heap.size
  .subst k;rw[ð]at h;cases h;rcases b with b|b
   .rw[b]at f;cases f
   .exact b
  .have:(w.alloc<|Ð d t z).heap.size<=i:=by simp;omega
   rw[ñ this]at h;cases h
def fg.I{p:Addr}(hx:X p.block)(v:Value)(hv:km v=true\/NF p.block w:=by first|exact Or.inl (by rfl)|exact Or.inr<|by assumption):fg X w (w.setCell p v):= ⟨ft,λk _ hk=>ĝ _ _ _ _ (by intro e;subst e;exact hk hx),λa=>akE a p v,λ_ a=>akF a p v hv⟩
def fg.gI(X:Nat->Prop)(w:World)(cs:Array Value)(t:TypeId)(hf:me t=false\/0<cs.size/\∀v∈cs.toList,km v=true:=by first|exact Or.inl (by decide)|exact Or.inr ⟨by simp,by simp[km]⟩):fg X w (w.alloc<|.cells cs t):= ⟨ft,λk hk _=>Ĕ _ _ _ hk,λa=>IP a cs t (0,0),λ_ a=>IQ a cs t (0,0) hf⟩
def fg.iQ(X:Nat->Prop)(w:É)(n:Nat):fg X w (w.drewN n):=⟨ß _,λ_ _ _=>rfl,id,λ_=>id⟩
def fg.fU(X:Nat->Prop)(w:É):fg X w w.drew:=⟨ß _,λ_ _ _=>rfl,id,λ_=>id⟩
def kp{X:Nat->Prop}{w w':World}(h:fg X w w':=by repeat' (first|(with_reducible exact fg.fW _ _)|(with_reducible refine fg.fj ?_<|fg.iQ _ _ _)|(with_reducible refine fg.fj ?_<|fg.fU _ _)|(with_reducible refine fg.fj ?_<|fg.gI _ _ _ _))):fg X w w':=h
def fg.r(h:fg X w w')(b:w.cell? a=Ã v)(c:¬X a.block):w'.cell? a=Ã v:=by rwa[World.cell?_of_block<|h.N _ (ä w a b) c]
end
def IT{u:Ç}(h:j≠b):(w.setCell ⟨j,i,Ä⟩ u).cell? ⟨b,n,Ä⟩=w.cell? ⟨b,n,Ä⟩:= World.cell?_setCell_other _ _ _ _<|by intro e;injection e with e1 e2;exact h e1
def fl(j:Nat)(vs:List Ç)(T:ú)(w:É):Prop:=w.heap[j]?=Ã (Ð vs.toArray T (0,0))
section
variable{vs:List Ç}{w':É}
def fl.N(w:É)(vs:List Ç)(T:ú):fl w.heap.size vs T (w.alloc<|Ð vs.toArray T):=ð w _
def fl.M(h:fl j vs T w):j<w.heap.size:=by
 rcases ğ j w.heap.size with a|a
 .exact a
 .unfold fl at h;rw[ñ a]at h;cases h
def fl.r(h:fl j vs T w)(i:Nat)(v:Ç)(a:vs[i]?=Ã v):w.cell? ⟨j,i,Ä⟩=Ã v:=by unfold fl at h;simp only[Ω,h,Ļ,Ğ,if_false,Ŝ];exact a
def fl.C(h:fl j vs T w)(i:Nat):w.frozen? ⟨j,i,Ä⟩=Ï:=by unfold fl at h;simp[World.frozen?,h]
def fl.Ao(h:fl j vs T w)(e:w'.heap[j]?=w.heap[j]?):fl j vs T w':=by unfold fl;rwa[e]
def fl.I(h:fl j vs T w)(k:fg X w w')(a:¬X j):fl j vs T w':=h.Ao<|k.N j h.M a
def fl.gh(h:fl j vs T w)(i:Nat)(u:Ç):fl j (vs.set i u) T (w.setCell ⟨j,i,Ä⟩ u):=by unfold fl at h|-;unfold Ď;simp only[Ú,if_true,h,ì,Õ,Ļ,Ğ,if_false]
def fl.G(h:fl j vs T w)(hT:me T=false:=by decide):NF j w:=λc T' fr q=>by unfold fl at h;rw[h]at q;cases q;exact hT
def fl.S(h:fl j vs T w)(k:fl i l e w)(a:T≠e):j≠i:=by rintro rfl;unfold fl at h k;rw[h]at k;cases k;exact a U
end
section
variable{w':É}{base:Nat}{size:Nat}{xs:List Ç}
def akG(h:w.ownsRow base e size v n xs)(k:∀j,v.ownBlock=Ã j->w'.heap[j]?=w.heap[j]?):w'.ownsRow base e size v n xs:=by
 let⟨c,a⟩:=h;refine⟨c,?_⟩;rcases a with a|⟨g,d,f,b,i,l,r⟩
 .exact Û a
 .refine Ü ⟨g,d,f,b,i,?_,r⟩;rw[k g (by rw[b];rfl)];exact l
def ik(h:w.ownsRow base e size v n xs)(k:fg X w w')(b:∀j,v.ownBlock=Ã j->¬X j):w'.ownsRow base e size v n xs:= akG h λj a=>k.N j (h.lt j a).2<|b j a
def jl(h:w.ownsRow base e size v n xs):∃a c,v=Ê a n c:=by
 rcases h.2 with⟨b,d⟩|⟨g,f,i,b,_⟩
 .exact⟨_,_,by rw[b,d]⟩
 .exact⟨_,_,b⟩
def lG(h:w.ownsRow base e size v n xs)(a:v.ownBlock=Ã j):∃b,w.heap[j]?=Ã (Ð b e (0,0)):=by
 rcases h.2 with⟨c,_⟩|⟨g,f,b,c,_,d,_⟩
 .rw[c]at a;cases a
 .rw[c]at a;cases a;exact⟨b,d⟩
def jE(h:w.ownsRow base e size v n xs)(k:fl j l T w)(a:e≠T):v.ownBlock≠Ã j:=by intro q;let⟨c,b⟩:=lG h q;unfold fl at k;rw[b]at k;cases k;exact a U
def akH(h:w.ownsRow base e size v n xs)(k:w.ownsRow i t b x m l)(c:e≠t)(d:v.ownBlock=Ã j):x.ownBlock≠Ã j:=by intro q;let⟨g,f⟩:=lG h d;let⟨o,a⟩:=lG k q;rw[f]at a;cases a;exact c U
def Sw{n:Nat}(h:v∈(ý d n).toList):v∈d.toList:=by
 unfold ý at h;rw[Array.toList_map,ķ]at h;obtain⟨i,a,rfl⟩:=h;have b:i<n*d.size:=by simpa using a
 have c:0<d.size:=by
  rcases Nat.eq_zero_or_pos d.size with q|q
  .rw[q,Nat.mul_zero]at b;omega
  .exact q
 have q:i%d.size<d.size:=bl _ c;rw[getElem!_pos d _ q];simp
structure qC(w:É)(base:Nat)(e:ú)(size:Nat)(v:Ç)(n:Nat)(xs:List Ç)(m:Nat)(news:List Ç)(v':Ç)(w':É):Prop where
 fu:w'.ownsRow base e size v' (n+m) (xs++news)
 r:fg (λk=>v.ownBlock=Ã k) w w'
 C:v'.ownBlock=v.ownBlock\/v'.ownBlock=Ã w.heap.size
 I:∀v0 n0 xy,w.ownsRow base e size v0 n0 xy->(v0.ownBlock=v.ownBlock->n0<=n)->w'.ownsRow base e size v0 n0 xy
def qC.akI(c:w.ownsRow base e size v n xs)(f:l.length=m*size)(g:base<=w.heap.size)(j:n+m<=i)(o:i<=č)(p:d.size=i*size)(q:d.toList.take ((n+m)*size)=xs++l)(r:me e=Ï\/0<d.size/\∀v∈d.toList,km v=Ý): qC w base e size v n xs m l (Ê (Ã ⟨w.heap.size,0,Ä⟩) (n+m) i) (w.drew.alloc<|Ð d e):=by have b:∀X,fg X w (w.drew.alloc<|Ð d e):=λX=>⟨ft,λk s _=>Ĕ _ _ _ s,λa=>IP a d e (0,0),λ_ a=>IQ a d e (0,0) r⟩;refine⟨⟨by rw[Ó,c.1,f,Š],Ü ⟨w.heap.size,i,d,U,g,ð w.drew _,j,o,p,q⟩⟩,b _,Ü U,λt u x h _=>ik h (b λ_=>False) λ_ _=>id⟩
def Sx{ty:ú}{bytes:Nat}(H:P.underlying t=Ã (bK e))(I:P.info? e=Ã zJ)(X:zJ.zero=Ã z) (xA:zJ.size=size) (xB:zJ.bytes=bytes) (se:z.cells.size=size) (l:w.ownsRow base e size v n xs) (a:Č) (c:Nat) (b:List Ç) (hm:0<m) (s:b.length=m*size) (J:∀j u,b[j]?=Ã u->w.cell? (a.add j)=Ã u) (h1:∀u∈b,u.oneCell'=Ý) (Y:n+m<=č) (vU:(n+m)*bytes<=140737488355328) (xC:base<=w.heap.size) (hfl:me e=Ï\/(0<b.length/\(∀u∈xs++b,km u=Ý)/\∀u∈z.cells.toList,km u=Ý)): ∃x w',(ŗ #[t,t] ty #[v,Ê (Ã a) m c]).run P w=aA x w'/\qC w base e size v n xs m b x w':=by
 subst xA;subst xB;have akJ:n+m<=9223372036854775807:=by simp only[č]at Y;omega
 have K:(xs++b).length=(n+m)*zJ.size:=by rw[Ó,l.1,s,Š]
 have atw:=l;have tk:∀d,((xs.toArray++b.toArray++ý z.cells (š w (n+m) d e-(n+m))).toList.take ((n+m)*zJ.size)=xs++b):=λd=>by simp only[Ĵ];rw[<-K];exact υ
 have sz:∀d,(xs.toArray++b.toArray++ý z.cells (š w (n+m) d e-(n+m))).size=š w (n+m) d e*zJ.size:=λd=>by have x:=ε w (n+m) d e;simp only[ź,ă,size_zeroCells,se,l.1,s,<-Š];congr 1;omega
 have akK:∀d,me e=Ï\/0<(xs.toArray++b.toArray++ý z.cells (š w (n+m) d e-(n+m))).size/\∀v∈(xs.toArray++b.toArray++ý z.cells (š w (n+m) d e-(n+m))).toList,km v=Ý:=λd=>by
  cases p:me e with
  |false=>exact Û U
  |true=>
   rcases hfl with q|⟨x,y,L⟩
   .rw[q]at p;cases p
   .refine Ü ⟨by simp only[ź,ă];omega,λv h=> ?_⟩;simp only[Ĵ,ā]at h;rcases h with(h|h)|h
    .exact y v<|Ţ _ h
    .exact y v<|ŝ _ h
    .exact L v<|Sw h
 have gr:=λd=>qC.akI l s xC (ε w (n+m) d e) (grownCap_le_maxLen w (n+m) d e Y) (sz d) (tk d)<|akK d;rcases l.2 with⟨rfl,rfl⟩|⟨g,B,f,rfl,hbg,C,hnc,hcm,yK,M⟩
 .have N:=á (by simpa using l.1);subst N;have D:=run_append_nil w t ty e zJ z H I X a m c b s J hm Z (by have x:=vU;simp only[ĸ]at x;omega);have x:=gr 0;simp only[ĸ,Ř,Array.empty_append,List.toArray]at x D|-;exact⟨_,_,D,by simpa using x⟩
 .by_cases O:n+m<=B
  .have Sy:n*zJ.size+b.length<=f.size:=by rw[s,yK,<-Š];exact ţ _ O
   have D:=run_append_room w t ty e zJ H I g n B f C a m c b s J h1 O Sy;have F:=Ĩ w g f (f.toList.take (n*zJ.size)++b++f.toList.drop (n*zJ.size+b.length)).toArray e _ C;have Q:=λk (V:k≠g)=>Ġ w g k (f.toList.take (n*zJ.size)++b++f.toList.drop (n*zJ.size+b.length)).toArray V;have W:(f.toList.take (n*zJ.size)++b++f.toList.drop (n*zJ.size+b.length)).toArray.size=f.size:=by simp only[ă,Ó,Λ,Μ,ĵ];omega
   have kp:fg (λk=>ļ (Ê (Ã ⟨g,0,Ä⟩) n B)=Ã k) w (w.setRow g (f.toList.take (n*zJ.size)++b++f.toList.drop (n*zJ.size+b.length)).toArray):=by
    refine⟨ft,λk _ V=>Q k λe=>V (by simp[ļ,e]),λal q o r=> ?_,λm' hF q c T fr G r p=> ?_⟩;rotate_left
    .by_cases E:q=g
     .subst E;rw[F]at r;cases r;rcases hfl with qq|⟨_,y,_⟩
      .rw[qq]at p;cases p
      .refine⟨by rw[W];exact(hF _ _ _ _ G C p).1,λu x=> ?_⟩;simp only[ā]at x;rcases x with(x|x)|x
       .exact(hF _ _ _ _ G C p).2 u<|List.mem_of_mem_take x
       .exact y u<|ŝ _ x
       .exact(hF _ _ _ _ G C p).2 u<|List.mem_of_mem_drop x
     .rw[Q q E]at r;exact hF q c T fr G r p
    by_cases E:q=g
    .subst E;rw[F]at r;cases r;exact λx=>x
    .rw[Q q E]at r;exact al q o r
   refine⟨_,_,D,⟨K,Ü ⟨g,B,_,U,hbg,F,O,hcm,by rw[W,yK],?_⟩⟩,kp,Û U,λq r xy x E=> ?_⟩
   .rw[M,<-K];exact υ
   .by_cases h:q.ownBlock=Ã g
    .have G:=E h;let⟨y,L⟩:=x;refine⟨y,?_⟩;rcases L with⟨rfl,_⟩|⟨g0,T,atx,rfl,b1,o,b3,b4,b5,b6⟩
     .cases h
     .have:g0=g:=by simpa[ļ]using h
      subst this;rw[C]at o;cases o;refine Ü ⟨g0,T,_,U,b1,F,b3,b4,by rw[W,b5],?_⟩;rw[M];have p:r*zJ.size<=n*zJ.size:=ţ _ G;rw[show(xs++b++bC (n*zJ.size+b.length) f.toList).toArray.toList=xs++(b++bC (n*zJ.size+b.length) f.toList)from by simp,List.take_append_of_le_length (by rwa[l.1]),<-M,φ,θ p,b6]
    .exact ik x kp λj o N=>h<|by rw[o];simpa[ļ]using N.symm
  .have D:=ι w t ty e zJ z H I X ⟨g,0,Ä⟩ n B xs l.1 (l.cells U) a m c b s J Z Z<|Ť Z vU;exact⟨_,_,D,gr B⟩
def C7{P:Program}{ops:Array Oper}{rest:List Oper}{o:Oper}{a:Act}{Q:Exit->Act->World->Prop}(Sz:o.guard=none)(s x:Operand)(t:TypeId) (ho:o.op=.call {callee:=.builtin .append,args:=#[s,x],argTypes:=#[t,t]}) {i:TypeInfo} {z:Value} {bytes:Nat} (ht:P.underlying t=some (.slice e)) (hi:P.info? e=some i) (hz:i.zero=some z) (xA:i.size=size) (xB:i.bytes=bytes) (se:z.cells.size=size) (hs:a.eval s=v) (lE:w.ownsRow base e size v n xs) (ad:Addr) {m c:Nat} (news:List Value) (hx:a.eval x=.slice (some ad) m c) (hm:0<m) (hl:news.length=m*size) (SA:∀j u,news[j]?=some u->w.cell? (ad.add j)=some u) (h1:∀u∈news,u.oneCell'=true) (C8:n+m<=maxLen) (vU:(n+m)*bytes<=140737488355328) (xC:base<=w.heap.size) (h:∀v' w',qC w base e size v n xs m news v' w'->wpList P ops Q rest (a.put o.dst v') w') (hfl:me e=false\/(0<news.length/\(∀u∈xs++news,km u=true)/\∀u∈z.cells.toList,km u=true):=by first|exact Or.inl (by decide)|exact Or.inr ⟨by simp,by simp[km],by simp[km,Value.cells]⟩): wpList P ops Q (o::rest) a w:=by refine Ż Sz λK hK=> ?_;let⟨v',w',hr,h2⟩:=Sx (ty:=o.type) ht hi hz xA xB se lE ad c news hm hl SA h1 C8 vU xC hfl;unfold Ŏ į;simp only[ho,aE,bm,aF,ż,Ž,Ł,Ċ,Ě,ġ,hs,hx,hr];exact hK _ _<|h v' w' h2
end
structure IU where
 fy:Int
 r:ByteArray
 C:Nat->Int
abbrev St:=Nat->IU
def St.gh(s:St)(i:Nat)(a:IU):St:=λj=>if j=i then a else s j
def St.fy(s:St)(i:Nat)(b:Int):St:=s.gh i {s i with fy:=b}
def St.C(s:St)(i:Nat)(p:ByteArray):St:=s.gh i {s i with r:=p}
def St.r(s:St)(i j:Nat)(v:Int):St:=s.gh i {s i with C:=λk=>if k=j then v else(s i).C k}
def qD(n:Int):Ç:=Â Æ n
def SB(n:Int):Ç:=Â Ë n
def pM(s:St)(i:Nat):Ç:=if i%18=0 then qD (s<|i/18).fy else if i%18=1 then Í (s<|i/18).r else qD ((s<|i/18).C<|i%18-2)
def rp(s:St)(a:Ç)(i:Nat):Ç:=if 144<=i then a else pM s i
def qE(s:St)(a:Ç)(h:i<144):rp s a i=pM s i:=by unfold rp;rw[if_neg Z]
def je(s:St)(lv:Ç):List Ç:=(Ĉ 145).map<|rp s lv
def mK(s:St)(lv:Ç):(je s lv).length=145:=by simp[je]
def IV(s:St)(a:Ç)(h:i<145):(je s a)[i]?=Ã (rp s a i):=by unfold je;rw[Ģ,ø h];rfl
def Z7{s:St}(h:l.length=145)(b:∀i,i<145->l[i]?=Ã (rp s v i)):l=je s v:=by
 apply Ą;intro i;by_cases a:i<145
 .rw[b i a,IV _ _ a]
 .rw[Ö Z,Ö (by rw[mK];omega)]
section
variable(s:St)(lv:Ç)
def IW(h:i<8):rp s lv (i*18)=qD (s i).fy:=by rw[qE _ _ Z,pM,if_pos Z,show i*18/18=i from by omega]
def ME(h:i<8):rp s lv (i*18+1)=Í (s i).r:=by rw[qE _ _ Z,pM,if_neg Z,if_pos Z,show(i*18+1)/18=i from by omega]
def MG(h:i<8)(a:j<16):rp s lv (i*18+2+j)=qD ((s i).C j):=by rw[qE _ _ Z,pM,if_neg Z,if_neg Z,show(i*18+2+j)/18=i from by omega,show(i*18+2+j)%18-2=j from by omega]
def IX:rp s lv 144=lv:=by unfold rp;rw[if_pos Z]
def akL(v:Ç):(je s lv).set 144 v=je s v:=by
 refine Z7 (by rw[ě,mK]) λi a=> ?_;by_cases e:i=144
 .subst e;rw[ŏ (by rw[mK];omega),IX]
 .rw[ť<|Ne.symm e,IV _ _ a,qE _ _ Z,qE _ _ Z]
def SC(j:i<144){c:St}(f:rp c lv i=v)(g:∀b,b<144->b≠i->pM c b=pM s b):(je s lv).set i v=je c lv:=by
 refine Z7 (by rw[ě,mK]) λb h=> ?_;by_cases e:b=i
 .subst e;rw[ŏ (by rw[mK];omega),f]
 .rw[ť<|Ne.symm e,IV _ _ h];by_cases d:b<144
  .rw[qE _ _ d,qE _ _ d,g b d e]
  .have:b=144:=Z
   subst this;rw[IX,IX]
def Z8(h:i<8)(b:Int):(je s lv).set (i*18) (qD b)=je (s.fy i b) lv:=by
 refine SC s lv Z ?_ λk a c=> ?_
 .rw[IW _ _ h];simp[St.fy,St.gh]
 .unfold pM;by_cases e:k/18=i
  .have:k%18≠0:=Z
   simp[St.fy,St.gh,e,this]
  .simp[St.fy,St.gh,e]
def akM(h:i<8)(p:ByteArray):(je s lv).set (i*18+1) (Í p)=je (s.C i p) lv:=by
 refine SC s lv Z ?_ λk a b=> ?_
 .rw[ME _ _ h];simp[St.C,St.gh]
 .unfold pM;by_cases e:k/18=i
  .have:k%18≠1:=Z
   simp[St.C,St.gh,e,this]
  .simp[St.C,St.gh,e]
def akN(h:i<8)(c:j<16)(v:Int):(je s lv).set (i*18+2+j) (qD v)=je (s.r i j v) lv:=by
 refine SC s lv Z ?_ λk d f=> ?_
 .rw[MG _ _ h c];simp[St.r,St.gh]
 .unfold pM;by_cases e:k/18=i
  .by_cases a:k%18=0
   .simp[St.r,St.gh,e,a]
   .by_cases b:k%18=1
    .simp[St.r,St.gh,e,b]
    .have:k%18-2≠j:=Z
     simp[St.r,St.gh,e,a,b,this]
  .simp[St.r,St.gh,e]
end
def iD(b:Nat)(T:ú)(tl:List Ç)(s:St)(lv:Ç)(w:É):Prop:=fl b (je s lv++tl) T w
section
variable{tl:List Ç}{s:St}{lv:Ç}
def iD.IY(h:iD b T tl s lv w)(a:i<145):w.cell? ⟨b,i,Ä⟩=Ã (rp s lv i):= fl.r h i _<|by rw[â (by rwa[mK]),IV _ _ a]
def iD.vC(h:iD b T tl s lv w)(c:i<145){a:St}(e:(je s lv).set i v=je a x):iD b T tl a x (w.setCell ⟨b,i,Ä⟩ v):=by have:=fl.gh h i v;rw[ĩ _ _ (show i<(je s lv).length by rwa[mK]),e]at this;exact this
def iD.fy(h:iD b T tl s lv w)(a:i<8):w.cell? ⟨b,i*18,Ä⟩=Ã (Â Æ (s i).fy):=by rw[h.IY Z,IW _ _ a];rfl
def iD.MH(h:iD b T tl s lv w)(a:i<8):w.cell? ⟨b,i*18+1,Ä⟩=Ã (Í (s i).r):=by rw[h.IY Z,ME _ _ a]
def iD.Z9(h:iD b T tl s lv w)(a:i<8)(c:j<16):w.cell? ⟨b,i*18+2+j,Ä⟩=Ã (Â Æ<|(s i).C j):=by rw[h.IY Z,MG _ _ a c];rfl
def iD.C9(h:iD b T tl s lv w):w.cell? ⟨b,144,Ä⟩=Ã lv:=by rw[h.IY Z,IX]
def iD.zr(h:iD b T tl s lv w)(a:i<8)(x:Int):iD b T tl (s.fy i x) lv (w.setCell ⟨b,i*18,Ä⟩<|Â Æ x):=h.vC Z<|Z8 s lv a x
def iD.akO(h:iD b T tl s lv w)(a:i<8)(x:ByteArray):iD b T tl (s.C i x) lv (w.setCell ⟨b,i*18+1,Ä⟩<|Í x):=h.vC Z<|akM s lv a x
def iD.SF(h:iD b T tl s lv w)(a:i<8)(c:j<16)(x:Int):iD b T tl (s.r i j x) lv (w.setCell ⟨b,i*18+2+j,Ä⟩<|Â Æ x):=h.vC Z<|akN s lv a c x
def iD.akP(h:iD b T tl s lv w)(v:Ç):iD b T tl s v (w.setCell ⟨b,144,Ä⟩ v):=h.vC Z<|akL s lv v
end
def xD(b:Bool):Int:=if b then 1 else 0
def IZ(b:Bool)(w:É):Ô À 159 #[Ò b] w λe a=>e=È (Â Æ<|xD b)/\a=w:=by
 go_enter Tryz.func159,Tryz.ntmps159;go_wp2;all_goals go_ret
 all_goals refine⟨Ft ?_,U⟩
 all_goals simp[xD, *]
def a_(b o:Nat)(s:Int)(c:0<=s)(d:s<18446744073709551616)(w:É):Ô À 208 #[Å<|Ã ⟨b,o,Ä⟩,Â Æ s] w λe a=>e=È (Å<|Ã ⟨b,o+2+(s%16).toNat,Ä⟩)/\a=w:=by
 go_enter Tryz.func208,Tryz.ntmps208;go_wp2;all_goals go_ret
 exact⟨U,U⟩
def wu(n:Int):Int:=Æ.wrap n
def akQ(a:0<=h)(b:h<18446744073709551616):wu h=h:=by show h%18446744073709551616=h;omega
def b_(n:Int):wu n=n%18446744073709551616:=rfl
def akR(n:Int):0<=wu n:=by rw[b_];omega
def akS(n:Int):wu n<18446744073709551616:=by rw[b_];omega
def xE(k p q:Int):Int:=
 if k=2 then wu (p+q)else if k=3 then wu (p-q)else if k=4 then wu (p*q)
 else if k=5 then(if q=0 then 0 else p/q)else if k=6 then xD (decide<|p<q)else xD (decide<|p=q)
def akT(k p q:Int)(b:0<=p)(c:p<18446744073709551616)(d:0<=q)(f:q<18446744073709551616)(w:É):Ô À 211 #[Â Ë k,Â Æ p,Â Æ q] w λe a=>e=È (Â Æ<|xE k p q)/\a=w:=by
 go_enter Tryz.func211,Tryz.ntmps211;go_wp2_with (go_at_call 159;refine(IZ _ _).mono ?_;rintro e a ⟨rfl,rfl⟩);all_goals simp only[beq_iff_eq,beq_eq_false_iff_ne,ne_eq]at*
 all_goals first
  |(exfalso;simp_all;done)
  |(go_ret;refine⟨Ft ?_,U⟩;unfold xE;simp[wu, *];done)
  |(go_ret;refine⟨Ft ?_,U⟩;unfold xE;simp[wu, *];rfl)
structure RC where
 x:Nat
 y:Nat
 k:Int
 d:Int
 g:Int
def mL(a:Nat)(c:RC)(b:Ç):List Ç:=[Å<|Ã ⟨a,0,Ä⟩,Â Ë c.x,Â Ë c.y,Â Æ c.k,Â Ë c.d,Â Æ c.g,b]
def pN(l:List Int):List Ç:=l.map qD
def akU{base:Nat}(h:w.ownsRow base e 1 (Ê O (n+1) i) (n+1) (l++[x])):w.ownsRow base e 1 (Ê O n i) n l:=by
 let⟨d,b⟩:=h;simp only[Ó,ŉ,κ,Ī]at d;refine⟨Z,?_⟩;rcases b with⟨b,_⟩|⟨g,q,f,b,j,k,r,m,o,p⟩
 .cases b
 .cases b;refine Ü ⟨g,i,f,U,j,k,Z,m,o,?_⟩;have:=congrArg (List.take n) p;rw[φ,Ī,θ Z,List.take_left' Z]at this;rw[Ī];exact this
def MI{base:Nat}(h:w.ownsRow base e 1 (Ê O (n+1) i) (n+1) (l++[x])):∃g,O=Ã ⟨g,0,Ä⟩/\w.cell? ⟨g,n,Ä⟩=Ã x/\n+1<=i:=by
 let⟨f,d⟩:=h;simp only[Ó,ŉ,κ,Ī]at f;rcases d with⟨d,_⟩|⟨g,o,p,d,q,j,k,r,s,m⟩
 .cases d
 .cases d;refine⟨g,U,?_,k⟩;have:=congrArg (λb=>b[n]?) m;simp only[Ī]at this;rw[List.getElem?_take_of_lt Z,Þ Z,show n-l.length=0 by omega]at this;simp only[Ω,j];simpa using this
def MJ(j d:Nat)(c:RC)(f:Ç)(base:Nat)(b:List Int)(p:Int)(w:É)(i:fl d (mL j c f) 282 w)(h:w.ownsRow base 36 1 f (b.length+1) (pN b++[qD p]))(k:b.length<=1000): Ô À 204 #[Å<|Ã ⟨d,0,Ä⟩] w λe g=>e=È (Â Æ p)/\∃a,g=w.setCell ⟨d,6,Ä⟩ a/\w.ownsRow base 36 1 a b.length (pN b)/\a.ownBlock=f.ownBlock:=by obtain⟨a,l,rfl⟩:=jl h;obtain⟨g,rfl,m,o⟩:=MI h;have e:=akU h;have q:=i.r 6 _ U;have r:=i.C 6;have H:=fi e;generalize b.length=n at*;go_enter Tryz.func204,Tryz.ntmps204;go_wp2;go_ret;refine⟨U,_,U,?_,U⟩;simpa using H.out
def akV:(À.info? 36).map (λi=>(i.zero,i.size,i.bytes))=Ã (Ã<|Â Æ 0,1,8):=fw
def c_(p b:Nat)(c:RC)(d:Ç)(base:Nat)(k:List Ç)(n:Nat)(f m:Nat)(q:Nat)(a:List Ç)(w:É)(g:fl b (mL p c d) 282 w)(l:w.ownsRow base 36 1 d n k)(E:n+m<=1000) (r:0<m) (s:a.length=m) (t:∀j u,a[j]?=Ã u->w.cell? ((⟨f,0,Ä⟩:Č).add j)=Ã u) (v:∀u∈a,u.oneCell'=Ý) (x:base<=w.heap.size): Ô À 203 #[Å<|Ã ⟨b,0,Ä⟩,Ê (Ã ⟨f,0,Ä⟩) m q] w λe o=>e=È (é #[])/\∃h i,qC w base 36 1 d n k m a h i/\o=i.setCell ⟨b,6,Ä⟩ h:=by let⟨F,y,z,B,C⟩:=ò akV;have D:=g.r 6 _ U;have o:=jE l g A;have H:=fi g;go_enter Tryz.func203,Tryz.ntmps203;go_wp2_with (at_builtin;refine C7 U _ _ 231 U Tryz.underlying231 y z B C U U l ⟨f,0,Ä⟩ a U r (by rw[s,Ī]) t v (by unfold č;omega) Z x ?_;intro h i e;obtain⟨G,I,rfl⟩:=jl e.fu;have J:=e.r.r D o;have K:=(H.out.I e.r o).C 6);go_end0;exact⟨U,_,_,e,U⟩
def kn(l:List (Nat×Int)):List Ç:=l.flatMap λp=>[SB p.1,qD p.2]
structure iW where
 r:Nat
 T:ú
 C:List Ç
structure iW.Ok(E:iW):Prop where
 M:E.T≠36
 r:E.T≠257
 I:E.T≠282
 N:E.T≠300
 akW:E.T≠252
 akX:E.T≠246
def iW.Ok.C{E:iW}(h:E.Ok):me E.T=Ï:=by unfold me;rw[beq_eq_false_iff_ne.2 h.r,beq_eq_false_iff_ne.2 h.akX];rfl
structure R(E:iW)(rb:Nat)(c:RC)(sv lv:Ç)(ss:List Int)(s:St)(ls:List (Nat×Int))(w:É):Prop where
 r:fl rb (mL E.r c sv) 282 w
 I:w.ownsRow 0 36 1 sv ss.length (pN ss)
 C:iD E.r E.T E.C s lv w
 M:w.ownsRow 0 257 2 lv ls.length (kn ls)
structure Tr(E:iW)(rb:Nat)(sv lv:Ç)(n:Nat)(w:É)(j4 jD:Ç)(n':Nat)(w':É):Prop where
 r:fg (λk=>k=E.r\/k=rb\/sv.ownBlock=Ã k\/lv.ownBlock=Ã k) w w'
 s:∀j,j4.ownBlock=Ã j->sv.ownBlock=Ã j\/w.heap.size<=j
 l:∀j,jD.ownBlock=Ã j->lv.ownBlock=Ã j\/w.heap.size<=j
 C:∀v0 n0 xy,w.ownsRow 0 257 2 v0 n0 xy->(v0.ownBlock=lv.ownBlock->n0<=n)->w'.ownsRow 0 257 2 v0 n0 xy/\(v0.ownBlock=jD.ownBlock->n0<=n')
section
variable{E:iW}{rb:Nat}{c:RC}{sv lv f o:Ç}{ss:List Int}{s:St}{ls:List (Nat×Int)}
def Tr.fW(E:iW)(rb:Nat)(sv lv:Ç)(n:Nat)(w:É):Tr E rb sv lv n w sv lv n w:= ⟨fg.fW _ _,λ_ h=>Û h,λ_ h=>Û h,λ_ _ _ h k=>⟨h,k⟩⟩
def Tr.fj(h:Tr E rb sv lv n w f z b u)(k:Tr E rb f z b u o jQ m W):Tr E rb sv lv n w o jQ m W:=by
 refine⟨h.r.C k.r ?_,λj a=> ?_,λj a=> ?_,λc d g p q=> ?_⟩
 .rintro i r (e|e|e|e)
  .exact Û e
  .exact Ü<|Û e
  .exact Ü<|Ü<|Û<|(h.s i e).resolve_right Z
  .exact Ü<|Ü<|Ü<|(h.l i e).resolve_right Z
 .rcases k.s j a with e|e
  .exact h.s j e
  .exact Ü<|ï h.r.M e
 .rcases k.l j a with e|e
  .exact h.l j e
  .exact Ü<|ï h.r.M e
 .let⟨e,i⟩:=h.C c d g p q;exact k.C c d g e i
def Tr.I(k:fg X w u)(c:∀i,i<w.heap.size->X i->i=E.r\/i=rb\/sv.ownBlock=Ã i)(d:∀j,f.ownBlock=Ã j->sv.ownBlock=Ã j\/w.heap.size<=j)(g:∀i a,X i->w.heap[i]?≠Ã (Ð a 257 (0,0))):Tr E rb sv lv n w f lv n u:= ⟨k.S λi h q=>(c i h q).elim Û λe=>Ü (e.elim Û λe=>Ü<|Û e),d,λj q=>Û q,λp r s b l=>⟨ik b k λj m q=>by let⟨a,o⟩:=lG b m;exact g j a q o,l⟩⟩
def Tr.akY{Y:Nat->Prop}(t:Tr E rb sv lv n w f z b u)(k:fg Y u W)(m:∀i,Y i->w.heap.size<=i)(o:∀i a,Y i->u.heap[i]?≠Ã (Ð a 257 (0,0))):Tr E rb sv lv n w f z b W:= ⟨t.r.C k λi v q=>absurd (m i q) Z,t.s,t.l,λc d e g h=>⟨ik (t.C c d e g h).1 k λj p q=>by let⟨a,r⟩:=lG (t.C c d e g h).1 p;exact o j a q r,(t.C c d e g h).2⟩⟩
def R.akZ(ok:E.Ok)(h:R E rb c sv lv ss s ls w)(a:fl j l 252 w)(k:fg (λi=>i=j) w u):R E rb c sv lv ss s ls u:= ⟨h.r.I k<|fl.S h.r a A,ik h.I k λi q r=>jE h.I a A (by rw[q,r]),h.C.I k<|fl.S h.C a ok.akW,ik h.M k λi q r=>jE h.M a A<|by rw[q,r]⟩
def R.N(ok:E.Ok)(h:R E rb c sv lv ss s ls w)(i:Nat){c':RC}{j4:Ç}{ss':List Int}(e:(mL E.r c sv).set i v=mL E.r c' j4)(b:w.ownsRow 0 36 1 j4 ss'.length (pN ss'))(f:∀j,j4.ownBlock=Ã j->sv.ownBlock=Ã j): R E rb c' j4 lv ss' s ls (w.setCell ⟨rb,i,Ä⟩ v)/\Tr E rb sv lv ls.length w j4 lv ls.length (w.setCell ⟨rb,i,Ä⟩ v):=by have a:=fg.I (X:=λk=>k=rb) (p:=⟨rb,i,Ä⟩) U v<|Ü h.r.G;refine⟨⟨by have:=h.r.gh i v;rwa[e]at this,ik b a λj q r=>jE b h.r A (by rw[q,r]),h.C.I a<|fl.S h.C h.r ok.I,ik h.M a λj q r=>jE h.M h.r A<|by rw[q,r]⟩,Tr.I a (λi _ q=>Ü<|Û q) (λj q=>Û<|f j q) λi g q k=> ?_⟩;have d:=h.r;unfold fl at d;rw[q,d]at k;cases k
def R.S(ok:E.Ok)(h:R E rb c sv lv ss s ls w)(i:Nat){d:St}(k:iD E.r E.T E.C d lv (w.setCell ⟨E.r,i,Ä⟩ v)): R E rb c sv lv ss d ls (w.setCell ⟨E.r,i,Ä⟩ v)/\Tr E rb sv lv ls.length w sv lv ls.length (w.setCell ⟨E.r,i,Ä⟩ v):=by have b:=fg.I (X:=λk=>k=E.r) (p:=⟨E.r,i,Ä⟩) U v<|Ü<|fl.G h.C ok.C;refine⟨⟨h.r.I b (fl.S h.C h.r ok.I).symm,ik h.I b λj q r=>jE h.I h.C ok.M.symm (by rw[q,r]),k,ik h.M b λj q r=>jE h.M h.C ok.r.symm<|by rw[q,r]⟩,Tr.I b (λi _ q=>Û q) (λj q=>Û q) λi f q a=> ?_⟩;have e:w.heap[E.r]?=_:=h.C;rw[q,e]at a;injection a with a;injection a with _ a;exact ok.r a
def R.Y(ok:E.Ok)(h:R E rb c sv lv ss s ls w){ns:List Int}{u:É}(n:ns.length=m)(a:qC w 0 36 1 sv ss.length (pN ss) m (pN ns) v u): R E rb c v lv (ss++ns) s ls (u.setCell ⟨rb,6,Ä⟩ v)/\Tr E rb sv lv ls.length w v lv ls.length (u.setCell ⟨rb,6,Ä⟩ v):=by
 subst n;have f:∀{i:Nat} {g:Array Ç} {T:ú},sv.ownBlock=Ã i->w.heap[i]?=Ã (Ð g T (0,0))->T=36:=λ{i g T} q d=>by let⟨k,e⟩:=lG h.I q;rw[d]at e;cases e;rfl
 have b:R E rb c sv lv ss s ls u:=⟨h.r.I a.r λq=>absurd (f q h.r) A,a.I _ _ _ h.I λ_=>ß _,h.C.I a.r λq=>ok.M<|f q h.C,ik h.M a.r λj q r=>by let⟨k,e⟩:=lG h.M q;exact absurd (f r e) A⟩;have o:Tr E rb sv lv ls.length w v lv ls.length u:=Tr.I a.r (λi _ q=>Ü<|Ü q) (λj q=>a.C.elim (λe=>Û<|by rwa[<-e]) λe=>Ü<|by rw[e]at q;cases q;exact ß _) λi g q d=>absurd (f q d) A;have l:u.ownsRow 0 36 1 v (ss++ns).length (pN<|ss++ns):=by have:=a.fu;rwa[show pN ss++pN ns=pN (ss++ns) by simp[pN],show ss.length+ns.length=(ss++ns).length by simp]at this
 have e:=fg.I (X:=λk=>k=rb) (p:=⟨rb,6,Ä⟩) U v<|Ü b.r.G;have t:fl rb (mL E.r c v) 282 (u.setCell ⟨rb,6,Ä⟩ v):=b.r.gh 6 v;refine⟨⟨t,ik l e λj q r=>jE l b.r A (by rw[q,r]),b.C.I e<|fl.S b.C b.r ok.I,ik b.M e λj q r=>jE b.M b.r A<|by rw[q,r]⟩,o.fj<|Tr.I e (λi _ q=>Ü<|Û q) (λj q=>Û q) λi g q d=> ?_⟩;have k:=b.r;unfold fl at k;rw[q,k]at d;cases d
end
section
variable{E:iW}{rb:Nat}{c:RC}{sv lv:Ç}{s:St}{ls:List (Nat×Int)}
def R.fN(h:R E rb c sv lv zQ s ls w)(k:fg (λ_=>False) w W):R E rb c sv lv zQ s ls W:= ⟨h.r.I k id,ik h.I k λ_ _=>id,h.C.I k id,ik h.M k λ_ _=>id⟩
def Tr.fN(k:fg (λ_=>False) w W):Tr E rb sv lv n w sv lv n W:=Tr.I k (λ_ _=>Ĥ) (λ_ q=>Û q) λ_ _=>Ĥ
end
def iR:List (Int×Int×Int):=[(0,0,0),(1,0,1),(1,2,1),(1,2,1),(2,2,1),(2,2,1),(1,2,1),(1,2,1),(1,1,2),(1,2,2),(1,1,0),(1,0,1),(1,0,1),(1,0,1),(1,0,1),(3,1,1),(6,2,0),(2,2,0),(8,2,1),(4,1,0),(8,3,2),(1,1,0),(1,0,0)]
structure iN(w:É):Prop where
 M:∃cs fz,w.heap[2]?=Ã (Ð cs 300 fz)
 I:∀(k:Nat) (r:Int×Int×Int),iR[k]?=Ã r->w.cell? ⟨2,k*3,Ä⟩=Ã (Â Æ r.1)/\w.cell? ⟨2,k*3+1,Ä⟩=Ã (Â Ë r.2.1)/\w.cell? ⟨2,k*3+2,Ä⟩=Ã (Â Ë r.2.2)
def iN.r(h:iN w)(k:fg X w u)(a:¬X 2):iN u:=by
 let⟨c,d,b⟩:=h.M;have e:2<w.heap.size:=by
  rcases ğ 2 w.heap.size with q|q
  .exact q
  .rw[ñ q]at b;cases b
 refine⟨⟨c,d,by rwa[k.N 2 e a]⟩,λi r q=> ?_⟩;let⟨f,g,j⟩:=h.I i r q;exact⟨k.r f a,k.r g a,k.r j a⟩
def iN.C(h:iN w)(b:w.heap[j]?=Ã (Ð d T xJ))(c:T≠300):j≠2:=by rintro rfl;let⟨e,f,a⟩:=h.M;rw[b]at a;cases a;exact c U
def iN.N{E:iW}(ok:E.Ok){rb:Nat}{c:RC}{sv lv:Ç}{s:St}{a:List (Nat×Int)}(h:iN w)(r:R E rb c sv lv zQ s a w)(t:Tr E rb sv lv n w v x i u):iN u:=by
 refine h.r t.r ?_;rintro(e|e|e|e)
 .exact h.C r.C ok.N e.symm
 .exact h.C r.r A e.symm
 .let⟨b,q⟩:=lG r.I e;exact h.C q A U
 .let⟨b,q⟩:=lG r.M e;exact h.C q A U
def I0:∀(k:Nat) (r:Int×Int×Int),iR[k]?=Ã r->0<=r.1/\r.1<=8/\0<=r.2.1/\r.2.1<=3/\0<=r.2.2/\r.2.2<=2:=by
 have h:∀r∈iR,0<=r.1/\r.1<=8/\0<=r.2.1/\r.2.1<=3/\0<=r.2.2/\r.2.2<=2:=A
 exact λk r a=>h r<|ü a
def lA(g:Int)(n:Nat)(b a c:Int):Bool:= !(decide (g<b)||(decide ((n:Int)-a<0)||decide (32<(n:Int)-a+c)))
def SG(E:iW)(f:Nat)(c:RC)(a d:Ç)(i:List Int)(s:St)(e:List (Nat×Int))(w:É)(j:Int)(b:Bool)(h:É):Prop:=
 R E f (if b then{c with g:=c.g-j}else c) a d i s e h/\Tr E f a d e.length w a d e.length h
section
variable{E:iW}{rb:Nat}{c:RC}{sv lv:Ç}{s:St}{ls:List (Nat×Int)}
def SH(a:R E rb c sv lv zQ s ls w)(k:fg (λ_=>False) w u):SG E rb c sv lv zQ s ls w h Ï u:=⟨a.fN k,Tr.fN k⟩
def ak0(ok:E.Ok)(a:R E rb c sv lv zQ s ls w){g:Int}(d:c.g=g)(e:u=W.setCell ⟨rb,5,Ä⟩ (Â Æ<|g-h))(k:fg (λ_=>False) w W):SG E rb c sv lv zQ s ls w h Ý u:=by subst d e;have b:=a.fN k;let⟨f,i⟩:=b.N ok 5 (c':={c with g:=c.g-h}) U b.I λ_ q=>q;exact⟨f,(Tr.fN k).fj i⟩
end
def Da(E:iW)(ok:E.Ok)(m:Nat)(c:RC)(q r:Ç)(d:List Int)(s:St)(t:List (Nat×Int))(w:É)(h:R E m c q r d s t w)(u:iN w)(k:Nat)(f b i:Int)(o:iR[k]?=Ã (f,b,i))(y:d.length<=1000)(P:0<=c.g)(Q:c.g<18446744073709551616): Ô À 202 #[Å<|Ã ⟨m,0,Ä⟩,Â Ë k] w λe a=>e=È (Ò<|lA c.g d.length f b i)/\SG E m c q r d s t w f (lA c.g d.length f b i) a:=by
 let⟨z,B,C⟩:=u.I k _ o;obtain⟨a,T,rfl⟩:=jl h.I;have D:=h.r.r 6 _ U;have V:=h.r.r 5 _ U;have W:=h.r.C 5;have X:=h.r.M;have Y:k<23:=(Ù.1 o).1;let⟨F,G,I,J,K,L⟩:=I0 k _ o;simp only at F G I J K L z B C;obtain⟨n,j⟩:∃n,d.length=n:=⟨_,U⟩;rw[j]at D y;have e:lA c.g d.length f b i= !(decide (c.g<f)||(decide ((n:Int)-b<0)||decide (32<(n:Int)-b+i))):=by rw[j];rfl
 have H:=fi<|Á h<|Á j e;clear u h j e;generalize M:c.g=g at*;go_enter Tryz.func202,Tryz.ntmps202;go_wp2;go_quiet (fail);go_wp2;by_cases v:g<f
 .go_quiet (fail)
  go_wp2;let⟨h,j,e⟩:=H.out;have l:lA g d.length f b i=Ï:=by rw[e];simp[v]
  go_ret;rw[l];refine⟨U,SH h ?_⟩;exact kp
 .have N:=decide_eq_false v;by_cases x:(n:Int)-b<0
  .go_quiet (fail)
   go_wp2;let⟨h,j,e⟩:=H.out;have l:lA g d.length f b i=Ï:=by rw[e];simp[x]
   go_ret;rw[l];refine⟨U,SH h ?_⟩;exact kp
  .have O:=decide_eq_false x;go_quiet (fail);go_wp2
   .have p:32<(n:Int)-b+i:=by assumption
    let⟨h,j,e⟩:=H.out;have l:lA g d.length f b i=Ï:=by rw[e];simp[p]
    go_ret;rw[l];refine⟨U,SH h ?_⟩;exact kp
   .go_region
    go_wp2;have p:(n:Int)-b+i<=32:=by assumption
    let⟨h,j,e⟩:=H.out;have l:lA g d.length f b i=Ý:=by rw[e];simp[N,O,p]
    go_ret;rw[l];refine⟨U,ak0 ok h M U ?_⟩;exact kp
def sk(s:St)(y:Nat)(q p:Int):Int×St:=
 if(s y).fy<p then(0,s)else(1,(s.fy y<|(s y).fy-p).fy (q%8).toNat<|wu<|(s.fy y ((s y).fy-p) (q%8).toNat).fy+p)
def zt(E:iW)(e:Nat)(c:RC)(a b:Ç)(g:List Int)(s:St)(d:List (Nat×Int))(w:É)(h:St)(f:É):Prop:=
 R E e c a b g h d f/\Tr E e a b d.length w a b d.length f
section
variable{E:iW}{rb:Nat}{c:RC}{sv lv:Ç}{s d f:St}{a:List (Nat×Int)}
def zt.fN(h:R E rb c sv lv zQ s a w)(k:fg (λ_=>False) w u):zt E rb c sv lv zQ s a w s u:=⟨h.fN k,Tr.fN k⟩
def zt.fy(ok:E.Ok)(h:zt E rb c sv lv zQ s a w d W)(e:i<8)(x:Int):zt E rb c sv lv zQ s a w (d.fy i x) (W.setCell ⟨E.r,i*18,Ä⟩<|Â Æ x):=by let⟨b,f⟩:=h;let⟨g,j⟩:=b.S ok (i*18)<|b.C.zr e x;exact⟨g,f.fj j⟩
end
def ak1(E:iW)(ok:E.Ok)(d:Nat)(c:RC)(f g:Ç)(i:List Int)(s:St)(j:List (Nat×Int))(w:É)(h:R E d c f g i s j w)(q p:Int)(n:0<=q)(o:q<18446744073709551616)(r:0<=p)(t:p<18446744073709551616)(a:c.y<8)(u:0<=(s c.y).fy)(v:(s c.y).fy<18446744073709551616): Ô À 209 #[Å<|Ã ⟨d,0,Ä⟩,Â Æ q,Â Æ p] w λe k=>e=È (Â Æ (sk s c.y q p).1)/\zt E d c f g i s j w (sk s c.y q p).2 k:=by
 have x:=h.r.r 0 _ U;have z:=h.r.r 2 _ U;have B:=h.r.M;have C:=fl.M h.C;have D:=h.C.fy a;have F:=fl.C h.C<|c.y*18;have k:(q%8).toNat<8:=Z
 have H:=fi h;by_cases l:(s c.y).fy<p
 .have e:sk s c.y q p=(0,s):=by unfold sk;rw[if_pos l]
  rw[e];generalize(s c.y).fy=b at*;generalize c.y=y at*;go_enter aG,ae;go_wp2;go_quiet (fail);go_wp2;go_ret;refine⟨U,zt.fN H.out ?_⟩;exact kp
 .have e:sk s c.y q p=(1,(s.fy c.y<|(s c.y).fy-p).fy (q%8).toNat<|wu<|(s.fy c.y ((s c.y).fy-p) (q%8).toNat).fy+p):=by unfold sk;rw[if_neg l]
  rw[e];have G:=λm=>((h.fN<|fg.iQ _ w m).C.zr a<|(s c.y).fy-p).fy k;have I:∀m,((w.drewN m).setCell ⟨E.r,c.y*18,Ä⟩<|Â Æ<|(s c.y).fy-p).frozen? ⟨E.r,(q%8).toNat*18,Ä⟩=Ï:=λm=>fl.C ((h.fN<|fg.iQ _ w m).C.zr a<|(s c.y).fy-p) _;generalize(s.fy c.y ((s c.y).fy-p) (q%8).toNat).fy=b2 at*;generalize(s c.y).fy=b at*;go_enter aG,ae;go_wp2;go_quiet (fail);go_wp2;go_ret;refine⟨U,((zt.fN H.out ?_).fy ok a _).fy ok k _⟩;exact kp
def kO(E:iW)(rb:Nat)(sv lv:Ç)(n:Nat)(w:É)(c:RC)(f:List Int)(s:St)(a:List (Nat×Int))(b:É):Prop:=
 ∃d e,R E rb c d e f s a b/\Tr E rb sv lv n w d e a.length b
section
variable{E:iW}{rb:Nat}{c a:RC}{sv lv:Ç}{w':É}{b:List Int}{s d:St}{ls f:List (Nat×Int)}{p:Int}
def R.jV(h:R E rb c sv lv zQ s ls w):kO E rb sv lv ls.length w c zQ s ls w:=⟨sv,lv,h,Tr.fW _ _ _ _ _ _⟩
def nH(ok:E.Ok)(h:R E rb c sv lv (zQ++[p]) s ls w)(g:zQ.length<=900):Ô À 204 #[Å<|Ã ⟨rb,0,Ä⟩] w λe w'=>e=È (Â Æ p)/\ ∃a,R E rb c a lv zQ s ls w'/\Tr E rb sv lv ls.length w a lv ls.length w':=by have b:=h.I;rw[show pN (zQ++[p])=pN zQ++[qD p] by simp[pN],show(zQ++[p]).length=zQ.length+1 by simp]at b;refine(MJ E.r rb c sv 0 zQ p w h.r b Z).mono ?_;rintro e w' ⟨rfl,a,rfl,d,f⟩;exact⟨U,a,h.N ok 6 U d λj q=>by rwa[<-f]⟩
def zu(ok:E.Ok)(h:R E rb c sv lv zQ s ls w)(i:zQ.length<=900)(x:Int):Ô À 203 #[Å<|Ã ⟨rb,0,Ä⟩,Ê (Ã ⟨w.heap.size,0,Ä⟩) 1 1] (w.alloc<|Ð #[Â Æ x] 36) λe w'=>e=È (é #[])/\ ∃b,R E rb c b lv (zQ++[x]) s ls w'/\Tr E rb sv lv ls.length w b lv ls.length w':=by have k:=fg.gI (λ_=>False) w #[Â Æ x] 36;have d:=h.fN k;refine(c_ E.r rb c sv 0 (pN zQ) zQ.length w.heap.size 1 1 [Â Æ x] _ d.r d.I Z Z U (ą _ _ _) (λa f=>by simp at f;subst f;rfl)<|å _).mono ?_;rintro e w' ⟨rfl,b,u,a,rfl⟩;let⟨f,g⟩:=d.Y ok (ns:=[x]) U a;exact⟨U,b,f,(Tr.fN k).fj g⟩
def SJ(ok:E.Ok)(h:R E rb c sv lv zQ s ls w)(i:zQ.length<=900)(x y:Int):Ô À 203 #[Å<|Ã ⟨rb,0,Ä⟩,Ê (Ã ⟨w.heap.size,0,Ä⟩) 2 2] (w.alloc<|Ð #[Â Æ x,Â Æ y] 36) λe w'=>e=È (é #[])/\ ∃b,R E rb c b lv (zQ++[x,y]) s ls w'/\Tr E rb sv lv ls.length w b lv ls.length w':=by have k:=fg.gI (λ_=>False) w #[Â Æ x,Â Æ y] 36;have d:=h.fN k;refine(c_ E.r rb c sv 0 (pN zQ) zQ.length w.heap.size 2 2 [Â Æ x,Â Æ y] _ d.r d.I Z Z U (ž _ _ _ _) (λa f=>by simp at f;rcases f with rfl|rfl<;>rfl)<|å _).mono ?_;rintro e w' ⟨rfl,b,u,a,rfl⟩;let⟨f,g⟩:=d.Y ok (ns:=[x,y]) U a;exact⟨U,b,f,(Tr.fN k).fj g⟩
end
structure iy(E:iW)(lv:Ç)(n:Nat)(w:É)(s:St)(ls:List (Nat×Int))(w':É)(jD:Ç):Prop where
 r:iD E.r E.T E.C s jD w'
 I:w'.ownsRow 0 257 2 jD ls.length (kn ls)
 C:fg (λk=>k=E.r\/lv.ownBlock=Ã k) w w'
 l:∀j,jD.ownBlock=Ã j->lv.ownBlock=Ã j\/w.heap.size<=j
 M:∀v0 n0 xy,w.ownsRow 0 257 2 v0 n0 xy->(v0.ownBlock=lv.ownBlock->n0<=n)->w'.ownsRow 0 257 2 v0 n0 xy/\(v0.ownBlock=jD.ownBlock->n0<=ls.length)
structure Db where
 r:Int
 C:Bool
 I:Int
 s:St
 M:List (Nat×Int)
abbrev mf:=St->List (Nat×Int)->Nat->Nat->Int->Int->Db
def gf(n:Int):Prop:=0<=n/\n<18446744073709551616
def lH(c:Int):Nat:=
 if 48<=c/\c<=57 then 1 else if c=43 then 2 else if c=45 then 3 else if c=42 then 4 else if c=47 then 5 else if c=60 then 6 else if c=61 then 7
 else if c=100 then 8 else if c=120 then 9 else if c=112 then 10 else if c=107 then 11 else if c=99 then 12 else if c=121 then 13 else if c=98 then 14
 else if c=108 then 15 else if c=116 then 16 else if c=106 then 17 else if c=118 then 18 else if c=101 then 19 else if c=111 then 20 else if c=114 then 21 else if c=102 then 22 else 0
def xF(c:UInt8):Bool:=decide<|lH (c.toNat:Int)≠0
structure gL(s:St):Prop where
 fy:∀i,gf (s i).fy
 C:∀i j,gf<|(s i).C j
 I:∀i,(s i).r.size<=40/\∀c∈(s i).r.data.toList,xF c=Ý
def gk(l:List Int):Int:=l.getLastD 0
def d_(l:List Int)(h:0<l.length):l=l.dropLast++[gk l]:=by
 have a:l≠[]:=by intro e;subst e;simp at h
 unfold gk;rw[List.getLastD_eq_getLast?,List.getLast?_eq_some_getLast a,Option.getD_some];exact(List.dropLast_concat_getLast a).symm
section
variable{E:iW}{c:RC}{s:St}{a:List (Nat×Int)}{q r:Int}
def ak2(ok:E.Ok)(b:R E i c x v (zQ++[h]) s a w)(k:zQ.length<=800)(l:c.y<8): Ô À 205 #[Å<|Ã ⟨i,0,Ä⟩,Â Ë 8] w λe H=>e=È (é #[])/\kO E i x v a.length w c (zQ++[h,h]) s a H:=by have m:=b.r.r 0 _ U;have n:=b.r.r 2 _ U;have o:=b.r.M;have p:=fl.M b.C;have H:=fi b;go_enter í,è;go_wp2_with fail;go_quiet (fail);go_wp2_with fail;go_at_call 204;refine(nH ok (H.out.fN<|fg.iQ _ _ _) (by first|omega|(simp;omega))).mono ?_;rintro e q ⟨rfl,r,d,f⟩;go_wp2_with fail;go_at_call 203;refine(SJ ok d (by first|omega|(simp;omega)) _ _).mono ?_;rintro e t ⟨rfl,u,g,j⟩;go_wp2_with fail;go_end0;exact⟨U,_,_,g,(((Tr.fN<|fg.iQ _ _ _).fj f).fj j)⟩
def ak3(ok:E.Ok)(b:R E i c x v ((zQ++[h])++[q]) s a w)(m:zQ.length<=800)(n:c.y<8): Ô À 205 #[Å<|Ã ⟨i,0,Ä⟩,Â Ë 9] w λe H=>e=È (é #[])/\kO E i x v a.length w c (zQ++[q,h]) s a H:=by have o:=b.r.r 0 _ U;have p:=b.r.r 2 _ U;have r:=b.r.M;have t:=fl.M b.C;have H:=fi b;go_enter í,è;go_wp2_with fail;go_quiet (fail);go_wp2_with fail;go_at_call 204;refine(nH ok (H.out.fN<|fg.iQ _ _ _) (by first|omega|(simp;omega))).mono ?_;rintro e u ⟨rfl,z,d,f⟩;go_wp2_with fail;go_at_call 204;refine(nH ok d (by first|omega|(simp;omega))).mono ?_;rintro e B ⟨rfl,C,g,j⟩;go_wp2_with fail;go_at_call 203;refine(SJ ok g (by first|omega|(simp;omega)) _ _).mono ?_;rintro e D ⟨rfl,F,k,l⟩;go_wp2_with fail;go_end0;exact⟨U,_,_,k,((((Tr.fN<|fg.iQ _ _ _).fj f).fj j).fj l)⟩
def ak4(ok:E.Ok)(b:R E i c x v (zQ++[h]) s a w)(g:zQ.length<=800)(j:c.y<8): Ô À 205 #[Å<|Ã ⟨i,0,Ä⟩,Â Ë 10] w λe H=>e=È (é #[])/\kO E i x v a.length w c zQ s a H:=by have k:=b.r.r 0 _ U;have l:=b.r.r 2 _ U;have m:=b.r.M;have n:=fl.M b.C;have H:=fi b;go_enter í,è;go_wp2_with fail;go_quiet (fail);go_wp2_with fail;go_at_call 204;refine(nH ok (H.out.fN<|fg.iQ _ _ _) (by first|omega|(simp;omega))).mono ?_;rintro e o ⟨rfl,p,d,f⟩;go_wp2_with fail;go_end0;exact⟨U,_,_,d,((Tr.fN<|fg.iQ _ _ _).fj f)⟩
def ak5(ok:E.Ok)(h:R E i c x v zQ s a w)(f:zQ.length<=800)(g:c.y<8): Ô À 205 #[Å<|Ã ⟨i,0,Ä⟩,Â Ë 11] w λe H=>e=È (é #[])/\kO E i x v a.length w c (zQ++[c.k]) s a H:=by have j:=h.r.r 0 _ U;have l:=h.r.r 2 _ U;have m:=h.r.M;have n:=fl.M h.C;have o:=h.r.r 3 _ U;have H:=fi h;go_enter í,è;go_wp2_with fail;go_quiet (fail);go_wp2_with fail;go_at_call 203;refine(zu ok (H.out.fN<|fg.iQ _ _ _) (by first|omega|(simp;omega)) _).mono ?_;rintro e p ⟨rfl,q,b,d⟩;go_wp2_with fail;go_end0;exact⟨U,_,_,b,((Tr.fN<|fg.iQ _ _ _).fj d)⟩
def ak6(ok:E.Ok)(h:R E i c x v zQ s a w)(f:zQ.length<=800)(g:c.y<8)(j:c.x<8): Ô À 205 #[Å<|Ã ⟨i,0,Ä⟩,Â Ë 12] w λe H=>e=È (é #[])/\kO E i x v a.length w c (zQ++[(c.x:Int)]) s a H:=by have k:=h.r.r 0 _ U;have l:=h.r.r 2 _ U;have m:=h.r.M;have n:=fl.M h.C;have o:=h.r.r 1 _ U;have H:=fi h;go_enter í,è;go_wp2_with fail;go_quiet (fail);go_wp2_with fail;go_at_call 203;refine(zu ok (H.out.fN<|fg.iQ _ _ _) (by first|omega|(simp;omega)) _).mono ?_;rintro e p ⟨rfl,q,b,d⟩;go_wp2_with fail;go_end0;exact⟨U,_,_,b,((Tr.fN<|fg.iQ _ _ _).fj d)⟩
def ak7(ok:E.Ok)(h:R E i c x v zQ s a w)(f:zQ.length<=800)(g:c.y<8): Ô À 205 #[Å<|Ã ⟨i,0,Ä⟩,Â Ë 13] w λe H=>e=È (é #[])/\kO E i x v a.length w c (zQ++[(c.y:Int)]) s a H:=by have j:=h.r.r 0 _ U;have k:=h.r.r 2 _ U;have l:=h.r.M;have m:=fl.M h.C;have H:=fi h;go_enter í,è;go_wp2_with fail;go_quiet (fail);go_wp2_with fail;go_at_call 203;refine(zu ok (H.out.fN<|fg.iQ _ _ _) (by first|omega|(simp;omega)) _).mono ?_;rintro e n ⟨rfl,o,b,d⟩;go_wp2_with fail;go_end0;exact⟨U,_,_,b,((Tr.fN<|fg.iQ _ _ _).fj d)⟩
def ak8(ok:E.Ok)(h:R E i c x v zQ s a w)(g:zQ.length<=800)(b:c.y<8): Ô À 205 #[Å<|Ã ⟨i,0,Ä⟩,Â Ë 14] w λe H=>e=È (é #[])/\kO E i x v a.length w c (zQ++[(s c.y).fy]) s a H:=by have j:=h.r.r 0 _ U;have k:=h.r.r 2 _ U;have l:=h.r.M;have m:=fl.M h.C;have n:=h.C.fy b;have H:=fi h;go_enter í,è;go_wp2_with fail;go_quiet (fail);go_wp2_with fail;go_at_call 203;refine(zu ok (H.out.fN<|fg.iQ _ _ _) (by first|omega|(simp;omega)) _).mono ?_;rintro e o ⟨rfl,p,d,f⟩;go_wp2_with fail;go_end0;exact⟨U,_,_,d,((Tr.fN<|fg.iQ _ _ _).fj f)⟩
def ak9(ok:E.Ok)(b:R E i c x v (zQ++[h]) s a w)(o:zQ.length<=800)(g:c.y<8)(d:gf h): Ô À 205 #[Å<|Ã ⟨i,0,Ä⟩,Â Ë 15] w λe f=>e=È (é #[])/\kO E i x v a.length w c (zQ++[(s c.y).C (h%16).toNat]) s a f:=by have p:=b.r.r 0 _ U;have q:=b.r.r 2 _ U;have r:=b.r.M;have t:=fl.M b.C;have H:=fi b;go_enter í,è;go_wp2_with fail;go_quiet (fail);go_wp2_with fail;go_at_call 204;refine(nH ok (H.out.fN<|fg.iQ _ _ _) (by first|omega|(simp;omega))).mono ?_;rintro e u ⟨rfl,z,f,k⟩;have B:=f.C.Z9 g (j:=(h%16).toNat) Z;have C:=d.1;have D:=d.2;go_wp2_with fail;go_at_call 208;refine(a_ E.r (c.y*18) h d.1 d.2 _).mono ?_;rintro e l ⟨rfl,F⟩;subst l;go_wp2_with fail;go_at_call 203;refine(zu ok f (by first|omega|(simp;omega)) _).mono ?_;rintro e G ⟨rfl,I,m,n⟩;go_wp2_with fail;go_end0;exact⟨U,_,_,m,(((Tr.fN<|fg.iQ _ _ _).fj k).fj n)⟩
def ala(ok:E.Ok)(b:R E i c x v ((zQ++[h])++[q]) s a w)(r:zQ.length<=800)(g:c.y<8)(d:gf q): Ô À 205 #[Å<|Ã ⟨i,0,Ä⟩,Â Ë 16] w λe f=>e=È (é #[])/\kO E i x v a.length w c zQ (s.r c.y (q%16).toNat h) a f:=by have t:=b.r.r 0 _ U;have u:=b.r.r 2 _ U;have z:=b.r.M;have B:=fl.M b.C;have H:=fi b;go_enter í,è;go_wp2_with fail;go_quiet (fail);go_wp2_with fail;go_at_call 204;refine(nH ok (H.out.fN<|fg.iQ _ _ _) (by first|omega|(simp;omega))).mono ?_;rintro e C ⟨rfl,D,k,l⟩;go_wp2_with fail;go_at_call 204;refine(nH ok k (by first|omega|(simp;omega))).mono ?_;rintro e F ⟨rfl,G,f,m⟩;have I:=f.C.Z9 g (j:=(q%16).toNat) (by have:=d.1;omega);have J:=fl.C f.C<|c.y*18+2+(q%16).toNat;go_wp2_with fail;go_at_call 208;refine(a_ E.r (c.y*18) q d.1 d.2 _).mono ?_;rintro e n ⟨rfl,K⟩;subst n;go_wp2_with fail;go_end0;let⟨o,p⟩:=f.S ok (c.y*18+2+(q%16).toNat) (f.C.SF g (by have:=d.1;omega) h);exact⟨U,_,_,o,(((Tr.fN<|fg.iQ _ _ _).fj l).fj m).fj p⟩
def alb(ok:E.Ok)(b:R E i c x v ((zQ++[h])++[q]) s a w)(u:zQ.length<=800)(j:c.y<8)(d:gf h)(f:gf q)(g:gL s): Ô À 205 #[Å<|Ã ⟨i,0,Ä⟩,Â Ë 18] w λe H=>e=È (é #[])/\kO E i x v a.length w c (zQ++[(sk s c.y q h).1]) (sk s c.y q h).2 a H:=by have z:=b.r.r 0 _ U;have B:=b.r.r 2 _ U;have C:=b.r.M;have D:=fl.M b.C;have H:=fi b;go_enter í,è;go_wp2_with fail;go_quiet (fail);go_wp2_with fail;go_at_call 204;refine(nH ok (H.out.fN<|fg.iQ _ _ _) (by first|omega|(simp;omega))).mono ?_;rintro e F ⟨rfl,G,k,l⟩;go_wp2_with fail;go_at_call 204;refine(nH ok k (by first|omega|(simp;omega))).mono ?_;rintro e I ⟨rfl,J,m,n⟩;go_wp2_with fail;go_at_call 209;refine(ak1 E ok i c _ v _ s a _ m q h f.1 f.2 d.1 d.2 j (g.fy _).1 (g.fy _).2).mono ?_;rintro e K ⟨rfl,o,p⟩;go_wp2_with fail;go_at_call 203;refine(zu ok o (by first|omega|(simp;omega)) _).mono ?_;rintro e L ⟨rfl,M,r,t⟩;go_wp2_with fail;go_end0;exact⟨U,_,_,r,(((((Tr.fN<|fg.iQ _ _ _).fj l).fj n).fj p).fj t)⟩
def alc{k:Int}(ok:E.Ok)(b:R E i c x v ((zQ++[h])++[q]) s a w)(r:zQ.length<=800)(t:c.y<8)(d:gf h)(f:gf q)(u:2<=k)(z:k<=7): Ô À 205 #[Å<|Ã ⟨i,0,Ä⟩,Â Ë k] w λe H=>e=È (é #[])/\kO E i x v a.length w c (zQ++[xE k h q]) s a H:=by
 have B:=b.r.r 0 _ U;have C:=b.r.r 2 _ U;have D:=b.r.M;have F:=fl.M b.C;have G:(k==8)=Ï:=by rw[beq_eq_false_iff_ne];omega
 have I:(k==9)=Ï:=by rw[beq_eq_false_iff_ne];omega
 have J:(k==10)=Ï:=by rw[beq_eq_false_iff_ne];omega
 have K:(k==11)=Ï:=by rw[beq_eq_false_iff_ne];omega
 have L:(k==12)=Ï:=by rw[beq_eq_false_iff_ne];omega
 have M:(k==13)=Ï:=by rw[beq_eq_false_iff_ne];omega
 have N:(k==14)=Ï:=by rw[beq_eq_false_iff_ne];omega
 have O:(k==15)=Ï:=by rw[beq_eq_false_iff_ne];omega
 have P:(k==16)=Ï:=by rw[beq_eq_false_iff_ne];omega
 have Q:(k==18)=Ï:=by rw[beq_eq_false_iff_ne];omega
 have T:(k==19)=Ï:=by rw[beq_eq_false_iff_ne];omega
 have V:(k==20)=Ï:=by rw[beq_eq_false_iff_ne];omega
 have H:=fi b;go_enter í,è;go_wp2_with fail;go_quiet (fail);go_wp2_with fail;go_at_call 204;refine(nH ok (H.out.fN<|fg.iQ _ _ _) (by first|omega|(simp;omega))).mono ?_;rintro e W ⟨rfl,X,g,j⟩;go_wp2_with fail;go_at_call 204;refine(nH ok g (by first|omega|(simp;omega))).mono ?_;rintro e Y ⟨rfl,Fu,l,m⟩;go_wp2_with fail;go_at_call 211;refine(akT k h q d.1 d.2 f.1 f.2 _).mono ?_;rintro e n ⟨rfl,uG⟩;subst n;go_wp2_with fail;go_at_call 203;refine(zu ok l (by first|omega|(simp;omega)) _).mono ?_;rintro e w4 ⟨rfl,sv4,o,p⟩;go_wp2_with fail;go_end0;exact⟨U,_,_,o,((((Tr.fN<|fg.iQ _ _ _).fj j).fj m).fj p)⟩
end
def MK{P:Program}{ops:Array Oper}{o:Oper}{a:Act}{w:World}{K:Act->World->Prop}{Q:Exit->Act->World->Prop}{E:Prop}{base:Nat}{e:TypeId}{size n:Nat}{v:Value}{xs:List Value} (hg:o.guard=none) (s x:Operand) (t:TypeId) (GZ:o.op=Op.call {callee:=Callee.builtin Builtin.append,args:=#[s,x],argTypes:=#[t,t]}) {i:TypeInfo} {z:Value} {bytes:Nat} (ht:P.underlying t=some (.slice e)) (hi:P.info? e=some i) (hz:i.zero=some z) (xA:i.size=size) (xB:i.bytes=bytes) (se:z.cells.size=size) (hs:a.eval s=v) (lE:w.ownsRow base e size v n xs) (ad:Addr) {m c:Nat} (news:List Value) (hx:a.eval x=.slice (some ad) m c) (hm:0<m) (hl:news.length=m*size) (SA:∀j u,news[j]?=some u->w.cell? (ad.add j)=some u) (h1:∀u∈news,u.oneCell'=true) (C8:n+m<=maxLen) (vU:(n+m)*bytes<=140737488355328) (xC:base<=w.heap.size) (h:∀v' w',qC w base e size v n xs m news v' w'->K (a.put o.dst v') w') (hfl:me e=false\/(0<news.length/\(∀u∈xs++news,km u=true)/\∀u∈z.cells.toList,km u=true):=by first|exact Or.inl (by decide)|exact Or.inr ⟨by simp,by simp[km],by simp[km,Value.cells]⟩): if Region.wanted o (yielded ops a.tmps)=true then Oper.wp P o a w K Q else E:=by
 have hw:ħ o (aH ops a.tmps)=Ý:=by simp[ħ,hg]
 rw[if_pos hw];let⟨v',w',hr,h2⟩:=Sx (ty:=o.type) ht hi hz xA xB se lE ad c news hm hl SA h1 C8 vU xC hfl;unfold Ŏ;simp[į,GZ,aE,bm,aF,hs,hx,hr,Ľ];exact h v' w' h2
def ald:(À.info? 257).map (λi=>(i.zero,i.size,i.bytes))=Ã (Ã<|ė #[Â Ë 0,Â Æ 0],2,16):=fw
def f_(b:List (Nat×Int)):∀u∈kn b,km u=Ý:=λu a=>by unfold kn at a;let⟨e,_,h⟩:=Ν.1 a;simp[SB,qD]at h;rcases h with rfl|rfl<;>rfl
section
variable{E:iW}{c:RC}{g d:Ç}{s:St}{ls:List (Nat×Int)}{p:Int}
def R.ale(ok:E.Ok)(h:R E k c g jQ zQ s ls w)(a:qC w 0 257 2 jQ ls.length (kn ls) 1 [Â Ë b,Â Æ p] d W): (R E k c g jQ zQ s ls W/\W.ownsRow 0 257 2 d (ls++[(b,p)]).length (kn<|ls++[(b,p)]))/\ R E k c g d zQ s (ls++[(b,p)]) (W.setCell ⟨E.r,144,Ä⟩ d)/\Tr E k g jQ ls.length w g d (ls++[(b,p)]).length (W.setCell ⟨E.r,144,Ä⟩ d):=by
 have m:∀{i:Nat} {o:Array Ç} {T:ú},jQ.ownBlock=Ã i->w.heap[i]?=Ã (Ð o T (0,0))->T=257:=λ{i o T} q hc=>by let⟨l,e⟩:=lG h.M q;rw[hc]at e;cases e;rfl
 have f:R E k c g jQ zQ s ls W:=⟨h.r.I a.r λq=>absurd (m q h.r) A,ik h.I a.r (λj q r=>by let⟨l,e⟩:=lG h.I q;exact absurd (m r e) A),h.C.I a.r λq=>ok.r<|m q h.C,a.I _ _ _ h.M λ_=>ß _⟩;have n:W.ownsRow 0 257 2 d (ls++[(b,p)]).length (kn<|ls++[(b,p)]):=by have:=a.fu;rwa[show kn ls++[Â Ë b,Â Æ p]=kn (ls++[(b,p)]) by simp[kn,SB,qD],show ls.length+1=(ls++[(b,p)]).length by simp]at this
 have l:=fg.I (X:=λe=>e=E.r) (p:=⟨E.r,144,Ä⟩) U d<|Ü<|fl.G f.C ok.C;have B:W.heap[E.r]?=_:=f.C;refine⟨⟨f,n⟩,⟨f.r.I l (fl.S f.C f.r ok.I).symm,ik f.I l λj q r=>jE f.I f.C ok.M.symm (by rw[q,r]),f.C.akP d,ik n l λj q r=>jE n f.C ok.r.symm<|by rw[q,r]⟩,?_,λj q=>Û q,λj q=> ?_,λx y z t u=> ?_⟩
 .refine(a.r.S λe _ q=>Ü<|Ü<|Ü q).C l λi _ q=>Û q
 .rcases a.C with e|e
  .exact Û<|by rwa[<-e]
  .rw[e]at q;cases q;exact Ü<|ß _
 .have v:=a.I x y z t u;refine⟨ik v l λj q r=>jE v f.C ok.r.symm (by rw[q,r]),λq=> ?_⟩;rcases a.C with e|e
  .have:=u (by rw[q,e]);simp;omega
  .rw[e]at q;have:=(t.lt _ q).2;omega
end
def gA{f:(Nat->Value)->Act}(a:Act)(h:a=f (λn=>a.tmps.getD n undef):=by rfl):∃u,a=f u:=⟨_,h⟩
section
variable{md:ζ}{ops:Array Ů}{Q:bu->ë->É->Prop}{S:É->Prop}{X:List Nat}
def o6(P:aX)(md:ζ)(ops:Array Ů)(Q:bu->ë->É->Prop)(S:É->Prop)(X:List Nat):Nat->Array Bool->ë->É->Prop
 |0,listed,a,w=>Ć md ops listed=[]/\Q .normal a w
 |fuel+1,listed,a,w=>(Ć md ops listed=[]->Q .normal a w)/\
  ∀i∈Ć md ops listed,wpOp P ops Q i (λc b=>(i∉X->S b)/\o6 P md ops Q S X fuel (listed.setIfInBounds i Ý) c b) a w
def g_:∀(b:Nat) (listed:Array Bool) (a:ë) (w:É),o6 P md ops Q S X b listed a w->wpAny P md ops Q b listed a w
 |0,_,_,_,h=>h
 |b+1,_,_,_,h=>⟨h.1,λi c=>wpOp_mono (λd e q=>g_ b _ d e q.2)<|h.2 i c⟩
def rL(md:ζ)(ops:Array Ů)(X:List Nat)(i:Nat):Bool:=X.all λx=>match ops[x]? with
 |some o=>o.after.toList.any λe=>Ő md e&&e.on==i
 |none=>Ý
def alf{listed:Array Bool}(d:rL md ops X i=Ý)(f:ops[j]?=Ã o)(g:listed.getD i Ï=Ï)(h:∀e∈o.after,Ő md e=Ý->listed.getD e.on Ï=Ý):j∉X:=by intro k;have b:=List.all_eq_true.1 d j k;simp only[f]at b;let⟨e,l,a⟩:=List.any_eq_true.1 b;simp only[Bool.and_eq_true,beq_iff_eq]at a;have c:=h e (Ŧ.1 l) a.1;rw[a.2,g]at c;cases c
def alg{m:Ů}(x:ops[i]?=Ã m)(y:∀(j:Nat) (o:Ů) n b,ops[j]?=Ã o->o.op≠.select n b)(G:rL md ops X i=Ý) (I:∀c a w,Q (.panic c) (a.put m.dst v) w->Q (.panic c) a w): ∀(p:Nat) (d:Array Bool) (a:ë) (w:É),(∀j l,ops[j]?=Ã l->j≠i->d.getD j Ý=Ï->(∀e∈l.after,Ő md e=Ý->e.on≠i)->m.apart ops l=Ý)-> i∈Ć md ops d->YieldsIf P ops S m v a->S w->o6 P md ops Q S X p (d.setIfInBounds i Ý) (a.put m.dst v) w->o6 P md ops Q S X (p+1) d a w:=by
 have z:∀{d:Array Bool},i∈Ć md ops d->d.getD i Ï=Ï:=λ{d} f=>by
  have h:=(mem_ready.1 f).1;rcases ğ i d.size with g|g
  .simp[g]at h|-;exact h
  .simp[ñ g]
 intro p
 induction p with
 |zero=>
  intro d a w _ f s r H;refine⟨λh=>absurd (h▸f) ft,λj t=> ?_⟩;by_cases g:j=i
  .subst g;exact s.wpOp x r ⟨λ_=>r,H⟩
  .exact absurd (H.1▸χ t g) ft
 |succ p J=>
  intro d a w B f s r H;refine⟨λh=>absurd (h▸f) ft,λj t=> ?_⟩;by_cases g:j=i
  .subst g;exact s.wpOp x r ⟨λ_=>r,H⟩
  .let⟨C,l,u,D⟩:=mem_ready.1 t;have K:=alf G u (z f) D;have L:∀e∈l.after,Ő md e=Ý->e.on≠i:=λe M N O=>by
    have:=D e M N;rw[O,z f]at this;cases this
   have T:=wpOp_putIf u (B j l u g C L) (λn b=>y i m n b x) (λn b=>y j l n b u) I s<|H.2 j<|χ t g;refine wpOp_mono (λF V q=>⟨q.2.1,J (d.setIfInBounds j Ý) F V (λk W Y hki E Aw=>B k W Y hki ?_ Aw) (χ f<|Ne.symm g) q.1 (q.2.1 K) ?_⟩) T
   .by_cases F:j=k
    .subst F;exact C
    .rwa[getD_set_ne Ý F]at E
   .rw[Array.setIfInBounds_comm _ _ g];exact q.2.2
def I1{oi:Ů}{listed:Array Bool}(b:ops[i]?=Ã oi) (d:Region.noSelect ops=Ý) (e:Region.free md ops listed i=Ý) (f:(Ć md ops listed).contains i=Ý) (g:rL md ops X i=Ý) (j:∀c y w,Q (.panic c) (y.put oi.dst v) w->Q (.panic c) y w) (k:S w) (l:YieldsIf P ops S oi v y) (h:o6 P md ops Q S X n (listed.setIfInBounds i Ý) (y.put oi.dst v) w):o6 P md ops Q S X (n+1) listed y w:= alg b (Region.noSelect_spec d) g j n listed y w (Region.free_spec b e) (by simpa using f) l k h
def alh{listed:Array Bool}(c:Ć md ops listed=[i])(e:ops[i]?=Ã o) (h:∀b:ë->É->Prop,Shut (∀y w,(i∉X->S w)->o6 P md ops Q S X n (listed.setIfInBounds i Ý) y w->b y w)->if ħ o (aH ops y.tmps)=Ý then Ŏ P o y w b Q else b (y.put o.dst ĉ) w):o6 P md ops Q S X (n+1) listed y w:=by
 refine⟨λq=>absurd (c▸q) ft,λj d=> ?_⟩;rw[c]at d;have:j=i:=by simpa using d
 subst this;exact aB e λb f=>h b λy w g k=>f y w ⟨g,k⟩
def ix:List Ů->Nat->Option Ů
 |[],_=>Ä
 |o::_,0=>Ã o
 |_::l,n+1=>ix l n
def h_:∀{l:List Ů} {i:Nat} {o:Ů},ix l i=Ã o->l.toArray[i]?=Ã o
 |[],_,_,h=>by cases h
 |o::l,0,_,h=>by simpa[ix]using h
 |o::l,n+1,_,h=>by simpa using h_ (l:=l) h
def i_(h:ix ops.toList i=Ã o):ops[i]?=Ã o:=by simpa using h_ h
def tk(i:Nat){oi:Oper}{v:Value}{fuel:Nat}{listed:Array Bool}{a0 a a':Act}{w:World}(hS:S w)(h:o6 P md ops Q S X fuel (listed.setIfInBounds i true) a' w) (h0:a0=a:=by(try simp only[Act.put,List.setIfInBounds_toArray,List.set_cons_zero,List.set_cons_succ]);rfl) (hi:ix ops.toList i=some oi:=by rfl) (hs:Region.noSelect ops=true:=by kernel_rfl) (hf:Region.free md ops listed i=true:=by kernel_rfl) (hr:(Region.ready md ops listed).contains i=true:=by kernel_rfl) (hw:rL md ops X i=true:=by kernel_rfl) (hQ:∀v c a w,Q (.panic c) (a.put oi.dst v) w->Q (.panic c) a w:=by exact λ_ _ _ _ h=>h) (hn:Region.wanted oi (yielded ops a.tmps)=true:=by rfl) (hy:∀w,S w->(execOp a.eval oi).run P w=.ok (.value v) w:=by intro w h;revert h;simp only[and_imp];intros;go_simp;try(with_reducible rfl)) (ha:a.put oi.dst v=a':=by(try simp only[Act.put,List.setIfInBounds_toArray,List.set_cons_zero,List.set_cons_succ]);rfl):o6 P md ops Q S X (fuel+1) listed a0 w:= h0▸I1 (i_ hi) hs hf hr hw (hQ v) hS (Û ⟨hn,hy⟩) (ha▸h)
def gF(i:Nat){o:Oper}{fuel:Nat}{listed:Array Bool}{a0 a:Act}{w:World} (h:∀K':Act->World->Prop,Shut (∀a w,(i∉X->S w)->o6 P md ops Q S X fuel (listed.setIfInBounds i true) a w->K' a w)->if Region.wanted o (yielded ops a.tmps)=true then Oper.wp P o a w K' Q else K' (a.put o.dst undef) w) (h0:a0=a:=by(try simp only[Act.put,List.setIfInBounds_toArray,List.set_cons_zero,List.set_cons_succ]);rfl) (hr:Region.ready md ops listed=[i]:=by kernel_rfl) (ho:ix ops.toList i=some o:=by rfl):o6 P md ops Q S X (fuel+1) listed a0 w:=h0▸alh hr (i_ ho) h
def ali{oi oj:Ů}{listed:Array Bool}(g:Ć md ops listed=[i,j])(h:ops[i]?=Ã oi)(l:ops[j]?=Ã oj) (m:∀b:ë->É->Prop,Shut (∀y w,(i∉X->S w)->o6 P md ops Q S X n (listed.setIfInBounds i Ý) y w->b y w)->if ħ oi (aH ops y.tmps)=Ý then Ŏ P oi y w b Q else b (y.put oi.dst ĉ) w) (o:∀b:ë->É->Prop,Shut (∀y w,(j∉X->S w)->o6 P md ops Q S X n (listed.setIfInBounds j Ý) y w->b y w)->if ħ oj (aH ops y.tmps)=Ý then Ŏ P oj y w b Q else b (y.put oj.dst ĉ) w):o6 P md ops Q S X (n+1) listed y w:=by
 refine⟨λq=>absurd (g▸q) ft,λk c=> ?_⟩;rw[g]at c;rcases List.mem_cons.1 c with rfl|c
 .exact aB h λb d=>m b λy w e f=>d y w ⟨e,f⟩
 .have:k=j:=by simpa using c
  subst this;exact aB l λb d=>o b λy w e f=>d y w ⟨e,f⟩
def lU{listed:Array Bool}(b:Ć md ops listed=[])(h:Q .normal y w):∀c,o6 P md ops Q S X c listed y w
 |0=>⟨b,h⟩
 |_+1=>⟨λ_=>h,by rw[b];simp⟩
def mg{id:Nat}(S:É->Prop)(X:List Nat)(b:P.follows .mixedOrders=Ý) (h:o6 P .any ops Q S X ops.size (ř ops.size Ï) y w.drew):(Code.region id ops Ý).wp P Q y w:= wp_region_any b<|g_ _ _ _ _ h
end
section
variable{E:iW}{c:RC}{s:St}{a:List (Nat×Int)}
def alj(ok:E.Ok)(b:R E i c x v (zQ++[h]) s a w)(G:zQ.length<=800)(I:c.y<8)(J:a.length<=1000000): Ô À 205 #[Å<|Ã ⟨i,0,Ä⟩,Â Ë 19] w λe u=>e=È (é #[])/\kO E i x v a.length w c zQ s (a++[(c.y,h)]) u:=by
 have L:w.cell? ⟨i,0,Ä⟩=Ã (Å<|Ã ⟨E.r,0,Ä⟩):=b.r.r 0 _ U;have M:w.cell? ⟨i,2,Ä⟩=Ã (Â Ë c.y):=b.r.r 2 _ U;have N:=b.r.M;have O:=fl.M b.C;let⟨P,o,p,r,t⟩:=ò ald;have k:=fi<|Á o<|Á p<|Á r t;have H:=fi b;clear b o p r t;go_enter í,è;go_wp2_with fail;go_quiet (fail);go_wp2_with fail;have f:=fi<|Á ((H.out.fN<|(fg.iQ _ _ nq).fj<|fg.fU _ _).r.r 0 _ rfl)<|Á ((H.out.fN<|(fg.iQ _ _ nq).fj<|fg.fU _ _).r.r 2 _ rfl) (H.out.fN<|(fg.iQ _ _ nq).fj<|fg.fU _ _).C.C9;refine mg (λu=>u.cell? ⟨i,0,Ä⟩=Ã (Å<|Ã ⟨E.r,0,Ä⟩)/\u.cell? ⟨i,2,Ä⟩=Ã (Â Ë c.y)/\u.cell? ⟨E.r,144,Ä⟩=Ã v) [22] fw ?_;refine tk 0 f.out ?_;refine tk 1 f.out ?_;refine tk 2 f.out ?_;refine tk 3 f.out ?_;refine tk 4 f.out ?_;refine tk 5 f.out ?_;refine tk 6 f.out ?_;refine tk 7 f.out ?_;refine tk 8 f.out ?_;refine tk 9 f.out ?_;refine tk 10 f.out ?_;refine tk 11 f.out ?_;refine tk 12 f.out ?_;refine tk 13 f.out ?_;refine tk 14 f.out ?_;refine tk 15 f.out ?_;refine gF 16 ?_;intro K d;go_simp;go_at_call 204;refine(nH ok (H.out.fN<|fg.iQ _ _ _) Z).mono ?_;rintro e z ⟨rfl,Q,g,C⟩;dsimp only;refine d.out _ _ (λ_=>⟨g.r.r 0 _ U,g.r.r 2 _ U,g.C.C9⟩) ?_;clear d K;refine gF 17 ?_;intro K d;go_simp;refine d.out _ _ (λ_=>⟨g.r.r 0 _ U,g.r.r 2 _ U,g.C.C9⟩) ?_;clear d K;have j:=g.fN (fg.gI (λ_=>False) z #[Â Ë c.y,Â Æ h] 257);refine gF 18 ?_;intro K d;go_simp;refine d.out _ _ (λ_=>⟨j.r.r 0 _ U,j.r.r 2 _ U,j.C.C9⟩) ?_;clear d K;refine gF 19 ?_;intro K d;refine MK (hfl:=Ü ⟨ft,λu l=>(ā.1 l).elim (f_ a u) (λq=>by simp at q;rcases q with rfl|rfl<;>rfl),by simp[km,ī]⟩) (base:=0) (n:=a.length) (xs:=kn a) (m:=1) fR _ _ 142 fR Tryz.underlying142 k.out.1 k.out.2.1 k.out.2.2.1 k.out.2.2.2 U fR j.M ⟨z.heap.size,0,Ä⟩ [Â Ë c.y,Â Æ h] fR Z U (ž _ _ _ _) (λu l=>by simp at l;rcases l with rfl|rfl<;>rfl) (by unfold č;omega) Z (å _) ?_;intro T V l;obtain⟨W,X,rfl⟩:=jl l.fu;let⟨⟨u,_⟩,D,F⟩:=j.ale ok l;refine d.out _ _ (λ_=>⟨u.r.r 0 _ U,u.r.r 2 _ U,u.C.C9⟩) ?_;clear d K;have B:=u.C.C9;have Y:=fl.C u.C 144;refine gF 20 ?_;intro K d;go_simp;refine d.out _ _ (λ_=>⟨u.r.r 0 _ U,u.r.r 2 _ U,B⟩) ?_;clear d K;refine gF 21 ?_;intro K d;go_simp;refine d.out _ _ (λ_=>⟨u.r.r 0 _ U,u.r.r 2 _ U,B⟩) ?_;clear d K;refine gF 22 ?_;intro K d;go_simp;refine d.out _ _ (λq=>absurd ft q) ?_;clear d K;try simp only[ł,Õ,æ,ç]
 refine lU fw ?_ _;go_wp2_with fail;go_end0;exact⟨U,_,_,D,(((Tr.fN<|(fg.iQ _ _ _).fj<|fg.fU _ _).fj C).fj<|Tr.fN<|fg.gI _ _ _ _).fj F⟩
end
structure RT where
 r:List Int
 s:St
 C:List (Nat×Int)
 g:Int
def jb(F:mf)(c:RC)(t:RT)(q p k:Int):Int×Int×RT:=
 if c.d=4 then(0,0,t)else
  ((F t.s t.C c.y (q%8).toNat (min p t.g) k).I,xD (F t.s t.C c.y (q%8).toNat (min p t.g) k).C,
    {t with s:=(F t.s t.C c.y (q%8).toNat (min p t.g) k).s,C:=(F t.s t.C c.y (q%8).toNat (min p t.g) k).M,g:=t.g-(F t.s t.C c.y (q%8).toNat (min p t.g) k).r})
def fY(l:List Int):List Int:=l.dropLast
def ru(F:mf)(c:RC)(a:Nat)(t:RT):RT:=
 if a=8 then{t with r:=fY t.r++[gk t.r,gk t.r]}
 else if a=9 then{t with r:=fY (fY t.r)++[gk t.r,gk<|fY t.r]}
 else if a=10 then{t with r:=fY t.r}
 else if a=11 then{t with r:=t.r++[c.k]}
 else if a=12 then{t with r:=t.r++[(c.x:Int)]}
 else if a=13 then{t with r:=t.r++[(c.y:Int)]}
 else if a=14 then{t with r:=t.r++[(t.s c.y).fy]}
 else if a=15 then{t with r:=fY t.r++[(t.s c.y).C (gk t.r%16).toNat]}
 else if a=16 then{t with r:=fY<|fY t.r,s:=t.s.r c.y (gk t.r%16).toNat (gk<|fY t.r)}
 else if a=18 then{t with r:=fY (fY t.r)++[(sk t.s c.y (gk t.r)<|gk<|fY t.r).1],s:=(sk t.s c.y (gk t.r)<|gk<|fY t.r).2}
 else if a=19 then{t with r:=fY t.r,C:=t.C++[(c.y,gk t.r)]}
 else if a=20 then
  {(jb F c t (gk t.r) (gk<|fY t.r)<|gk<|fY<|fY t.r).2.2 with r:=fY (fY<|fY t.r)++[(jb F c t (gk t.r) (gk<|fY t.r)<|gk<|fY<|fY t.r).1,(jb F c t (gk t.r) (gk<|fY t.r)<|gk<|fY<|fY t.r).2.1]}
 else{t with r:=fY (fY t.r)++[xE a (gk<|fY t.r)<|gk t.r]}
structure j_(ls:List (Nat×Int))(g:Int)(e:Db):Prop where
 r:0<=e.r
 C:e.r<=g
 N:gL e.s
 M:gf e.I
 I:(e.M.length:Int)<=ls.length+e.r
def o7(F:mf):Prop:=∀s a x y g k,gL s->x<8->y<8->gf k->0<=g->g<=100000->(a.length:Int)+g<=1000000->j_ a g (F s a x y g k)
def tC(F:mf)(d:Int):Prop:=∀(E:iW),E.Ok->∀(s:St) (b:Ç) (a:List (Nat×Int)) (x y:Nat) (g k:Int) (w:É),iD E.r E.T E.C s b w->w.ownsRow 0 257 2 b a.length (kn a)->iN w->gL s->x<8->y<8->0<=g->g<=100000->gf k->(a.length:Int)+g<=1000000->
 Ô À 173 #[Å<|Ã ⟨E.r,0,Ä⟩,Â Ë x,Â Ë y,Â Æ g,Â Æ k,Â Ë d] w λe c=>
  e=È (ė #[Â Æ (F s a x y g k).r,Ò (F s a x y g k).C,Â Æ (F s a x y g k).I])/\∃f,iy E b a.length w (F s a x y g k).s (F s a x y g k).M c f
section
variable{E:iW}{rb:Nat}{c:RC}{sv lv:Ç}{s b:St}{ls a:List (Nat×Int)}{q p:Int}
def R.xG(ok:E.Ok)(d:R E rb c sv lv zQ s ls w)(r:iy E lv ls.length w b a u v):R E rb c sv v zQ b a u/\Tr E rb sv lv ls.length w sv v a.length u:=by
 have i:∀{j:Nat} {k:Array Ç} {T:ú},w.heap[j]?=Ã (Ð k T (0,0))->T≠E.T->T≠257->¬(j=E.r\/lv.ownBlock=Ã j):=λ{j k T} f h1 h2=>by
  rintro(e|e)
  .have g:=d.C;rw[e,g]at f;cases f;exact h1 U
  .let⟨m,g⟩:=lG d.M e;rw[f]at g;cases g;exact h2 U
 refine⟨⟨d.r.I r.C<|i d.r ok.I.symm A,ik d.I r.C λj f=> ?_,r.r,r.I⟩,r.C.S λh _ q=>q.elim Û λq=>Ü<|Ü<|Ü q,λj q=>Û q,r.l,r.M⟩;let⟨m,g⟩:=lG d.I f;exact i g ok.M.symm A
def alk(ok:E.Ok)(a:R E rb c sv lv zQ s ls w)(b:c.d=4): Ô À 210 #[Å<|Ã ⟨rb,0,Ä⟩,Â Æ q,Â Æ p,Â Æ h] w λe u=>e=È (é #[Â Æ 0,Â Æ 0])/\u=w:=by
 have e:w.cell? ⟨rb,4,Ä⟩=Ã (Â Ë 4):=by have:=a.r.r 4 (Â Ë c.d) U;rwa[b]at this
 go_enter aI,af;go_wp2_with fail;go_ret2;exact⟨U,U⟩
end
section
variable{E:iW}{c:RC}{w':É}{s f:St}{a l:List (Nat×Int)}{q p:Int}{F:mf}
def alm(E:iW)(n:Nat)(c:RC)(jQ x:Ç)(zQ:List Int)(a:List (Nat×Int))(w W:É)(r:Db)(w':É):Prop:=
 ∃z,iy E x a.length W r.s r.M w' z/\R E n c jQ z zQ r.s r.M w'/\Tr E n jQ x a.length w jQ z r.M.length w'
def aln(p g:Int):(if g<p then g else p)=min p g:=by rw[Int.min_def];split<;>split<;>omega
def I2(a:0<=h)(b:h<9223372036854775808):Ë.wrap h=h:=by show(if(Ë.signed&&decide (h%(2^64:Int)≥(2^63:Int)))=Ý then h%(2^64:Int)-2^64 else h%(2^64:Int))=h;rw[(Int.emod_eq_of_lt a Z),if_neg];simp;omega
def alo{q:Int}(h:gf q):Ë.wrap (q.tmod 8)=((q%8).toNat:Int):=by
 rw[Int.tmod_eq_emod_of_nonneg h.1];have:Ë.wrap (q%8)=q%8:=by exact I2 Z Z
 rw[this];omega
def alp(a:0<=h)(b:h<4):Ë.wrap (h+1)=h+1:=by exact I2 Z Z
def vE(ok:E.Ok)(b:R E n c jQ x zQ s a w)(j:0<=c.d)(k:c.d<4)(hF:tC F (c.d+1))(l:iN w)(m:gL s)(o:c.y<8)(i:gf q)(t:gf p)(u:gf h)(C:0<=c.g)(D:c.g<=100000)(G:(a.length:Int)+c.g<=1000000)(W:É)(kW:fg (λ_=>False) w W): Ô À 173 #[Å<|Ã ⟨E.r,0,Ä⟩,Â Ë c.y,Â Ë<|Ë.wrap<|q.tmod 8,Â Æ<|min p c.g,Â Æ h,Â Ë<|Ë.wrap<|c.d+1] W λe w'=>
  e=È (ė #[Â Æ (F s a c.y (q%8).toNat (min p c.g) h).r,Ò (F s a c.y (q%8).toNat (min p c.g) h).C,Â Æ (F s a c.y (q%8).toNat (min p c.g) h).I])/\alm E n c jQ x zQ a w W (F s a c.y (q%8).toNat (min p c.g) h) w':=by
 have f:=b.fN kW;rw[alo i,alp j k];have H:=t.1;have I:=i.1;refine(hF E ok s x a c.y (q%8).toNat (min p c.g) h W f.C f.M (l.r kW id) m o Z Z Z u Z).mono ?_;rintro e w' ⟨rfl,z,r⟩;let⟨v,B⟩:=f.xG ok r;exact⟨U,z,r,v,(Tr.fN kW).fj B⟩
def alq{b:List Ç}(h:R E n c jQ x zQ s a w)(r:iy E x i (đ<|ċ w<|Ð b.toArray T) f l u z):fl w.heap.size b T u:=by
 refine fl.I (w:=đ<|ċ w<|Ð b.toArray T) (fl.N w b T) r.C ?_;rintro(e|e)
 .have:=fl.M h.C;omega
 .have:=(h.M.lt _ e).2;omega
def SK{f:List Ç}{j4:Ç}(ok:E.Ok)(d:R E n c jQ x zQ s a u)(t:Tr E n j4 z b w jQ x k u)(m:w.heap.size<=j)(e:fl j f 252 u)(i:Nat)(v:Ç): R E n c jQ x zQ s a (u.setCell ⟨j,i,Ä⟩ v)/\Tr E n j4 z b w jQ x k (u.setCell ⟨j,i,Ä⟩ v)/\fl j (f.set i v) 252 (u.setCell ⟨j,i,Ä⟩ v):=by have g:fg (λh=>h=j) u (u.setCell ⟨j,i,Ä⟩ v):=fg.I (X:=λh=>h=j) (p:=⟨j,i,Ä⟩) U v<|Ü e.G;refine⟨d.akZ ok e g,t.akY g (λi q=>by omega) λi o q l=> ?_,e.gh i v⟩;unfold fl at e;rw[q,e]at l;cases l
def alr(ok:E.Ok)(f:R E n c jQ x zQ s a w)(n5:0<=c.d)(hd:c.d<4)(hF:tC F (c.d+1))(hI:o7 F)(hr:iN w)(P:gL s)(hx:c.x<8)(hy:c.y<8)(Q:gf q)(T:gf p)(hk:gf h)(rR:0<=c.g)(sr:c.g<=100000)(hlen:(a.length:Int)+c.g<=1000000): Ô À 210 #[Å<|Ã ⟨n,0,Ä⟩,Â Æ q,Â Æ p,Â Æ h] w λe w'=>e=È (é #[Â Æ (F s a c.y (q%8).toNat (min p c.g) h).I,Â Æ<|xD (F s a c.y (q%8).toNat (min p c.g) h).C])/\kO E n jQ x a.length w {c with g:=c.g-(F s a c.y (q%8).toNat (min p c.g) h).r} zQ (F s a c.y (q%8).toNat (min p c.g) h).s (F s a c.y (q%8).toNat (min p c.g) h).M w':=by
 have c0:w.cell? ⟨n,0,Ä⟩=Ã (Å<|Ã ⟨E.r,0,Ä⟩):=f.r.r 0 _ U;have c2:w.cell? ⟨n,2,Ä⟩=Ã (Â Ë c.y):=f.r.r 2 _ U;have c4:w.cell? ⟨n,4,Ä⟩=Ã (Â Ë c.d):=f.r.r 4 _ U;have c5:w.cell? ⟨n,5,Ä⟩=Ã (Â Æ c.g):=f.r.r 5 _ U;have gH:=f.r.M;have L3:=fl.M f.C;have hq0:=Q.1;have tq:=Q.2;have SL:=T.1;have hp1:=T.2;have call:=vE ok f n5 hd hF hr P hy Q T hk rR sr hlen;have V:=hI s a c.y (q%8).toNat (min p c.g) h P hy Z hk Z Z Z;have M:=V.r;have N:=V.C;clear V;generalize F s a c.y (q%8).toNat (min p c.g) h=r at*;have H:=fi<|Á f<|Á call<|Á M N;have SN:(c.d==4)=Ï:=by rw[beq_eq_false_iff_ne];omega
 clear f hr P hlen call M N;go_enter aI,af;go_wp2_with fail;have k:=fi<|Á ((H.out.1.fN<|fg.fU _ _).r.r 0 _ rfl)<|Á ((H.out.1.fN<|fg.fU _ _).r.r 2 _ rfl)<|Á ((H.out.1.fN<|fg.fU _ _).r.r 4 _ rfl)<|(H.out.1.fN<|fg.fU _ _).r.r 5 _ rfl;refine mg (λw'=>w'.cell? ⟨n,0,Ä⟩=Ã (Å<|Ã ⟨E.r,0,Ä⟩)/\w'.cell? ⟨n,2,Ä⟩=Ã (Â Ë c.y)/\w'.cell? ⟨n,4,Ä⟩=Ã (Â Ë c.d)/\w'.cell? ⟨n,5,Ä⟩=Ã (Â Æ c.g)) [25] fw ?_;refine tk 0 k.out ?_;refine tk 1 k.out ?_;refine tk 2 k.out ?_;refine tk 3 k.out ?_;refine tk 4 k.out ?_;refine tk 5 k.out ?_;refine tk 6 k.out ?_;refine tk 7 k.out ?_;refine tk 8 k.out ?_;refine tk 9 k.out ?_;refine tk 10 k.out ?_;refine tk 11 k.out ?_;refine tk 12 k.out ?_;refine tk 13 k.out ?_;refine tk 14 k.out ?_;refine tk 15 k.out ?_;refine I1 (i:=16) (oi:={dst:=Ã 32,op:=aW {callee:=Go.Callee.builtin bL,args:=#[ó 27,ó 31],argTypes:=#[36,36]},type:=36,pos:= "run.go:186",after:=#[{on:=11,ground:=ô},{on:=15,ground:=ô}],guard:=Ä}) (v:=Â Æ<|min p c.g) U fw fw fw fw (λ_ _ _ f=>f) k.out (Û ⟨fR,?als⟩) ?aty
 case als=>(intro w hSw;let⟨q0,q2,q4,q5⟩:=hSw;go_simp<;>rw[aln])
 refine tk 17 k.out ?_;refine tk 18 k.out ?_;refine tk 19 k.out ?_;refine tk 20 k.out ?_;refine tk 21 k.out ?_;refine tk 22 k.out ?_;refine ali (i:=23) (j:=24) (oi:={dst:=Ã 39,op:=aW {callee:=Go.Callee.value<|bG 173,args:=#[ó 19,ó 23,ó 26,ó 32,ó 33,ó 38],argTypes:=#[267,3,3,36,36,3]},type:=252,pos:= "run.go:186",after:=#[{on:=3,ground:=ô},{on:=7,ground:=ô},{on:=10,ground:=ô},{on:=16,ground:=ô},{on:=17,ground:=ô},{on:=22,ground:=ô}],guard:=Ä}) (oj:={dst:=Ã 10,op:=bH 252,type:=0,pos:= "run.go:186",after:=#[],guard:=Ä}) fw U U ?_ ?_
 .intro K l;go_simp;go_at_call 173;refine(H.out.2.1 _ kp).mono ?_;rintro e z ⟨rfl,zk,O,o,D⟩;dsimp only;refine l.out _ _ (λ_=>⟨o.r.r 0 _ U,o.r.r 2 _ U,o.r.r 4 _ U,o.r.r 5 _ U⟩) ?_;clear l K;have G:=o.fN (fg.gI (λ_=>False) z #[Â Æ 0,Ò Ï,Â Æ 0] 252);refine gF 24 ?_;intro K l;go_simp;refine l.out _ _ (λ_=>⟨G.r.r 0 _ U,G.r.r 2 _ U,G.r.r 4 _ U,G.r.r 5 _ U⟩) ?_;clear l K;refine gF 25 ?_;intro K l;go_simp;refine l.out _ _ (λq=>absurd ft q) ?_;clear l K;try simp only[ł,Õ,æ,ç]
  refine lU fw ?_ _;have X:=fg.gI (λ_=>False) z #[Â Æ r.r,Ò r.C,Â Æ r.I] 252;have t:=o.fN X;have I:=D.fj<|Tr.fN X;have m:fl z.heap.size [Â Æ r.r,Ò r.C,Â Æ r.I] 252 _:=fl.N z _ 252;generalize ċ z (Ð #[Â Æ r.r,Ò r.C,Â Æ r.I] 252)=W at*;generalize z.heap.size=b at*;clear G X o D O;have v0:=m.r 0 _ U;have Y:=m.r 1 _ U;have v2:=m.r 2 _ U;have z5:W.cell? ⟨n,5,Ä⟩=Ã (Â Æ c.g):=t.r.r 5 _ U;have y5:=t.r.C 5;have zl:=t.r.M;have zb:=m.M;have M:=H.out.2.2.1;have N:=H.out.2.2.2;have J:=fl.S t.r m A;have y1:=(IT (w:=W) (i:=5) (u:=Â Æ<|c.g-r.r) J).trans Y;have y2:=(IT (w:=W) (i:=5) (u:=Â Æ<|c.g-r.r) J).trans v2;have C:=fi<|Á t I;clear t I m k;go_wp2_with fail;go_region;go_wp2_with fail;have k:=fi<|Á y1 y2;refine mg (λw'=>w'.cell? ⟨b,1,Ä⟩=Ã (Ò r.C)/\w'.cell? ⟨b,2,Ä⟩=Ã (Â Æ r.I)) [] fw ?_;refine tk 0 k.out ?_;refine tk 1 k.out ?_;refine tk 2 k.out ?_;refine tk 3 k.out ?_;refine tk 4 k.out ?_;refine gF 5 ?_;intro K l;go_simp;go_at_call 159;refine(IZ _ _).mono ?_;rintro e w2 ⟨rfl,rf⟩;subst w2;dsimp only;refine l.out _ _ (λ_=>k.out) ?_;clear l K;refine gF 6 ?_;intro K l;go_simp;refine l.out _ _ (λ_=>k.out) ?_;clear l K;refine gF 7 ?_;intro K l;go_simp;refine l.out _ _ (λ_=>k.out) ?_;clear l K;try simp only[ł,Õ,æ,ç]
  refine lU fw ?_ _;go_wp2_with fail;go_ret2;let⟨n1,n2⟩:=C.out.1.N ok 5 (v:=Â Æ<|c.g-r.r) (c':={c with g:=c.g-r.r}) (j4:=jQ) (ss':=zQ) U C.out.1.I λ_ q=>q;have L:=(fg.fU (λ_=>False)<|W.setCell ⟨n,5,Ä⟩<|Â Æ<|c.g-r.r).fj (fg.fU (λ_=>False) _);exact⟨U,_,_,n1.fN L,(C.out.2.fj n2).fj<|Tr.fN L⟩
 .intro K l;go_simp;refine l.out _ _ (λ_=>⟨(H.out.1.fN<|((fg.fU _ _).fj<|fg.gI _ _ _ _)).r.r 0 _ U,(H.out.1.fN<|((fg.fU _ _).fj<|fg.gI _ _ _ _)).r.r 2 _ U,(H.out.1.fN<|((fg.fU _ _).fj<|fg.gI _ _ _ _)).r.r 4 _ U,(H.out.1.fN<|((fg.fU _ _).fj<|fg.gI _ _ _ _)).r.r 5 _ U⟩) ?_;clear l K;refine gF 23 ?_;intro K l;go_simp;go_at_call 173;refine(H.out.2.1 (đ<|ċ w<|Ð #[Â Æ 0,Ò Ï,Â Æ 0] 252) kp).mono ?_;rintro e z ⟨rfl,zk,O,o,D⟩;dsimp only;refine l.out _ _ (λ_=>⟨o.r.r 0 _ U,o.r.r 2 _ U,o.r.r 4 _ U,o.r.r 5 _ U⟩) ?_;clear l K;have B:=alq H.out.1 O;have k0:=B.r 0 _ U;have k1:=B.r 1 _ U;have k2:=B.r 2 _ U;have f0:=B.C 0;have f1:=B.C 1;have f2:=B.C 2;refine gF 25 ?_;intro K l;go_simp;refine l.out _ _ (λq=>absurd ft q) ?_;clear l K;try simp only[ł,Õ,æ,ç]
  refine lU fw ?_ _;let⟨a1,a2,a3⟩:=SK ok o D (ß _) B 0<|Â Æ r.r;let⟨b1,b2,b3⟩:=SK ok a1 a2 (ß _) a3 1<|Ò r.C;let⟨t,I,m⟩:=SK ok b1 b2 (ß _) b3 2<|Â Æ r.I;generalize Ď (Ď (Ď z ⟨w.heap.size,0,Ä⟩<|Â Æ r.r) ⟨w.heap.size,1,Ä⟩<|Ò r.C) ⟨w.heap.size,2,Ä⟩ (Â Æ r.I)=W at*;replace m:fl w.heap.size [Â Æ r.r,Ò r.C,Â Æ r.I] 252 W:=m;clear a1 a2 a3 b1 b2 b3 B k0 k1 k2 f0 f1 f2 o D O;have v0:=m.r 0 _ U;have Y:=m.r 1 _ U;have v2:=m.r 2 _ U;have z5:W.cell? ⟨n,5,Ä⟩=Ã (Â Æ c.g):=t.r.r 5 _ U;have y5:=t.r.C 5;have zl:=t.r.M;have zb:=m.M;have M:=H.out.2.2.1;have N:=H.out.2.2.2;have J:=fl.S t.r m A;have y1:=(IT (w:=W) (i:=5) (u:=Â Æ<|c.g-r.r) J).trans Y;have y2:=(IT (w:=W) (i:=5) (u:=Â Æ<|c.g-r.r) J).trans v2;have C:=fi<|Á t I;clear t I m k;go_wp2_with fail;go_region;go_wp2_with fail;have k:=fi<|Á y1 y2;refine mg (λw'=>w'.cell? ⟨w.heap.size,1,Ä⟩=Ã (Ò r.C)/\w'.cell? ⟨w.heap.size,2,Ä⟩=Ã (Â Æ r.I)) [] fw ?_;refine tk 0 k.out ?_;refine tk 1 k.out ?_;refine tk 2 k.out ?_;refine tk 3 k.out ?_;refine tk 4 k.out ?_;refine gF 5 ?_;intro K l;go_simp;go_at_call 159;refine(IZ _ _).mono ?_;rintro e w2 ⟨rfl,rf⟩;subst w2;dsimp only;refine l.out _ _ (λ_=>k.out) ?_;clear l K;refine gF 6 ?_;intro K l;go_simp;refine l.out _ _ (λ_=>k.out) ?_;clear l K;refine gF 7 ?_;intro K l;go_simp;refine l.out _ _ (λ_=>k.out) ?_;clear l K;try simp only[ł,Õ,æ,ç]
  refine lU fw ?_ _;go_wp2_with fail;go_ret2;let⟨n1,n2⟩:=C.out.1.N ok 5 (v:=Â Æ<|c.g-r.r) (c':={c with g:=c.g-r.r}) (j4:=jQ) (ss':=zQ) U C.out.1.I λ_ q=>q;have L:=(fg.fU (λ_=>False)<|W.setCell ⟨n,5,Ä⟩<|Â Æ<|c.g-r.r).fj (fg.fU (λ_=>False) _);exact⟨U,_,_,n1.fN L,(C.out.2.fj n2).fj<|Tr.fN L⟩
end
section
variable{E:iW}{rb:Nat}{c:RC}{sv lv:Ç}{s i:St}{f j:List (Nat×Int)}{q p:Int}{F:mf}
def pb(c:RC)(g:Int):RC:={c with g:=g}
def alu(ok:E.Ok)(a:R E rb c sv lv zQ s f w)(i:0<=c.d)(G:c.d<=4)(hF:c.d<4->tC F (c.d+1))(j:o7 F)(k:iN w)(l:gL s)(m:c.x<8)(n:c.y<8)(o:gf q)(r:gf p)(v:gf h)(z:0<=c.g)(B:c.g<=100000)(C:(f.length:Int)+c.g<=1000000)(t:RT)(D:t=(jb F c ⟨zQ,s,f,c.g⟩ q p h).2.2): Ô À 210 #[Å<|Ã ⟨rb,0,Ä⟩,Â Æ q,Â Æ p,Â Æ h] w λe u=>e=È (é #[Â Æ (jb F c ⟨zQ,s,f,c.g⟩ q p h).1,Â Æ (jb F c ⟨zQ,s,f,c.g⟩ q p h).2.1])/\kO E rb sv lv f.length w (pb c t.g) zQ t.s t.C u:=by
 subst D;by_cases b:c.d=4
 .have e:jb F c ⟨zQ,s,f,c.g⟩ q p h=(0,0,⟨zQ,s,f,c.g⟩):=by unfold jb;rw[if_pos b]
  rw[e];refine(alk ok a b).mono ?_;rintro e u ⟨rfl,rfl⟩;exact⟨U,a.jV⟩
 .have e:jb F c ⟨zQ,s,f,c.g⟩ q p h=((F s f c.y (q%8).toNat (min p c.g) h).I,xD (F s f c.y (q%8).toNat (min p c.g) h).C,⟨zQ,(F s f c.y (q%8).toNat (min p c.g) h).s,(F s f c.y (q%8).toNat (min p c.g) h).M,c.g-(F s f c.y (q%8).toNat (min p c.g) h).r⟩):=by unfold jb;rw[if_neg b]
  rw[e];exact alr ok a i Z (hF Z) j k l m n o r v z B C
def alv(ok:E.Ok)(i:R E rb c sv lv (((zQ++[h])++[p])++[q]) s f w)(hn:zQ.length<=800)(o:0<=c.d)(r:c.d<=4)(hF:c.d<4->tC F (c.d+1))(v:o7 F)(z:iN w)(B:gL s)(C:c.x<8)(D:c.y<8)(G:gf q)(I:gf p)(J:gf h)(K:0<=c.g)(L:c.g<=100000)(M:(f.length:Int)+c.g<=1000000)(t:RT)(N:t=(jb F c ⟨zQ,s,f,c.g⟩ q p h).2.2)(a b:Int)(j:a=(jb F c ⟨zQ,s,f,c.g⟩ q p h).1)(k:b=(jb F c ⟨zQ,s,f,c.g⟩ q p h).2.1): Ô À 205 #[Å<|Ã ⟨rb,0,Ä⟩,Â Ë 20] w λe u=>e=È (é #[])/\kO E rb sv lv f.length w (pb c t.g) (zQ++[a,b]) t.s t.C u:=by have c0:=i.r.r 0 _ U;have c2:=i.r.r 2 _ U;have gH:=i.r.M;have L3:=fl.M i.C;have H:=fi<|Á i<|Á z<|Á hF v;go_enter í,è;go_wp2_with fail;go_quiet (fail);go_wp2_with fail;have O:=Tr.fN (E:=E) (rb:=rb) (sv:=sv) (lv:=lv) (n:=f.length) (fg.iQ (λ_=>False) w nq);have P:=H.out.1.fN (fg.iQ (λ_=>False) w nq);go_at_call 204;refine(nH ok P (by first|omega|(simp;omega))).mono ?_;rintro e w1 ⟨rfl,sv1,Q,T⟩;go_wp2_with fail;go_at_call 204;refine(nH ok Q (by first|omega|(simp;omega))).mono ?_;rintro e w2 ⟨rfl,Fu,V,W⟩;go_wp2_with fail;go_at_call 204;refine(nH ok V (by first|omega|(simp;omega))).mono ?_;rintro e w3 ⟨rfl,ML,X,Y⟩;have l:=((O.fj T).fj W).fj Y;go_wp2_with fail;go_at_call 210;refine(alu ok X o r H.out.2.2.1 H.out.2.2.2 (H.out.2.1.N ok H.out.1 l) B C D G I J K L M t N).mono ?_;rintro e w4 ⟨rfl,sv4,lv4,h4,t4⟩;rw[<-j,<-k];go_wp2_with fail;go_at_call 203;refine(SJ ok h4 (by first|omega|(simp;omega)) _ _).mono ?_;rintro e w5 ⟨rfl,sv5,m,t5⟩;go_wp2_with fail;go_end0;rw[<-j,<-k]at m;exact⟨U,_,_,m,(l.fj t4).fj t5⟩
end
def rv(h:∀p∈zQ,gf p):gf (gk zQ):=by
 by_cases a:0<zQ.length
 .apply h _;rw[d_ zQ a];simp[gk]
 .have:zQ=[]:=á Z;subst this;exact⟨A,A⟩
def oF(h:∀p∈zQ,gf p):∀p∈fY zQ,gf p:=λp a=>h p<|List.dropLast_subset zQ a
def pd(l:List Int):(fY l).length=l.length-1:=by simp[fY]
def xH(h:0<zQ.length):fY zQ++[gk zQ]=zQ:=(d_ zQ h).symm
def alx(F:mf)(c:RC)(l b:List Int)(s:St)(a:List (Nat×Int))(g q p k:Int): (jb F c ⟨l,s,a,g⟩ q p k).1=(jb F c ⟨b,s,a,g⟩ q p k).1/\(jb F c ⟨l,s,a,g⟩ q p k).2.1=(jb F c ⟨b,s,a,g⟩ q p k).2.1/\(jb F c ⟨l,s,a,g⟩ q p k).2.2.s=(jb F c ⟨b,s,a,g⟩ q p k).2.2.s/\ (jb F c ⟨l,s,a,g⟩ q p k).2.2.C=(jb F c ⟨b,s,a,g⟩ q p k).2.2.C/\(jb F c ⟨l,s,a,g⟩ q p k).2.2.g=(jb F c ⟨b,s,a,g⟩ q p k).2.2.g:=by unfold jb;split<;>exact⟨U,U,U,U,U⟩
section
variable{E:iW}{rb:Nat}{c:RC}{sv lv:Ç}{s:St}{f:List (Nat×Int)}{F:mf}
def aly(ok:E.Ok)(h:R E rb c sv lv zQ s f w)(hn:zQ.length<=700)(C:0<=c.d)(D:c.d<=4)(hF:c.d<4->tC F (c.d+1))(G:o7 F)(H:iN w)(v:gL s)(z:c.x<8)(a:c.y<8)(r:∀p∈zQ,gf p)(I:0<=c.g)(J:c.g<=100000)(K:(f.length:Int)+c.g<=1000000) (k:Nat) (rP:2<=k) (rN:k<=20) (k_:k≠17) (L B M:Int) (b:iR[k]?=Ã (L,B,M)) (Dc:B<=zQ.length) (t:RT) (N:t=ru F c k ⟨zQ,s,f,c.g⟩): Ô À 205 #[Å<|Ã ⟨rb,0,Ä⟩,Â Ë k] w λe i=>e=È (é #[])/\kO E rb sv lv f.length w (pb c t.g) t.r t.s t.C i:=by
 subst N;have i:=rv r;have u:=rv<|oF r;have O:=rv<|oF<|oF r;have j:1<=zQ.length->R E rb c sv lv (fY zQ++[gk zQ]) s f w:=λq=>by rwa[xH Z]
 have l:2<=zQ.length->R E rb c sv lv ((fY (fY zQ)++[gk<|fY zQ])++[gk zQ]) s f w:=λq=>by rw[xH (by rw[pd];omega),xH Z];exact h
 have P:3<=zQ.length->R E rb c sv lv (((fY (fY<|fY zQ)++[gk<|fY<|fY zQ])++[gk<|fY zQ])++[gk zQ]) s f w:=λq=>by rw[xH (by rw[pd,pd];omega),xH (by rw[pd];omega),xH Z];exact h
 have m:zQ.length<=800:=Z
 have n:(fY zQ).length<=800:=by rw[pd];omega
 have o:(fY<|fY zQ).length<=800:=by rw[pd];omega
 have Q:(fY<|fY<|fY zQ).length<=800:=by rw[pd];omega
 have cases:(k=2\/k=3\/k=4\/k=5\/k=6\/k=7)\/k=8\/k=9\/k=10\/k=11\/k=12\/k=13\/k=14\/k=15\/k=16\/k=18\/k=19\/k=20:=Z
 rcases cases with hq|rfl|rfl|rfl|rfl|rfl|rfl|rfl|rfl|rfl|rfl|rfl|rfl
 .have T:2<=zQ.length:=by
   rcases hq with rfl|rfl|rfl|rfl|rfl|rfl<;>(simp[iR]at b;omega)
  have e:ru F c k ⟨zQ,s,f,c.g⟩=⟨fY (fY zQ)++[xE k (gk<|fY zQ)<|gk zQ],s,f,c.g⟩:=by rcases hq with rfl|rfl|rfl|rfl|rfl|rfl<;>rfl
  rw[e];exact alc ok (l T) o a u i Z Z
 .exact ak2 ok (j<|by simp[iR]at b;omega) n a
 .exact ak3 ok (l<|by simp[iR]at b;omega) o a
 .exact ak4 ok (j<|by simp[iR]at b;omega) n a
 .exact ak5 ok h m a
 .exact ak6 ok h m a z
 .exact ak7 ok h m a
 .exact ak8 ok h m a
 .exact ak9 ok (j<|by simp[iR]at b;omega) n a i
 .exact ala ok (l<|by simp[iR]at b;omega) o a i
 .exact alb ok (l<|by simp[iR]at b;omega) o a u i v
 .exact alj ok (j<|by simp[iR]at b;omega) n a Z
 .let⟨T,V,W,X,Y⟩:=alx F c zQ (fY<|fY<|fY zQ) s f c.g (gk zQ) (gk<|fY zQ)<|gk<|fY<|fY zQ;have e:ru F c 20 ⟨zQ,s,f,c.g⟩=⟨fY (fY<|fY zQ)++[(jb F c ⟨zQ,s,f,c.g⟩ (gk zQ) (gk<|fY zQ)<|gk<|fY<|fY zQ).1,(jb F c ⟨zQ,s,f,c.g⟩ (gk zQ) (gk<|fY zQ)<|gk<|fY<|fY zQ).2.1],(jb F c ⟨zQ,s,f,c.g⟩ (gk zQ) (gk<|fY zQ)<|gk<|fY<|fY zQ).2.2.s,(jb F c ⟨zQ,s,f,c.g⟩ (gk zQ) (gk<|fY zQ)<|gk<|fY<|fY zQ).2.2.C,(jb F c ⟨zQ,s,f,c.g⟩ (gk zQ) (gk<|fY zQ)<|gk<|fY<|fY zQ).2.2.g⟩:=U;rw[e,T,V,W,X,Y];exact alv ok (P<|by simp[iR]at b;omega) Q C D hF G H v z a i u O I J K _ U _ _ U U
end
def qF(c:Int)(w:É):Ô À 103 #[Â bx c] w λe a=>e=È (Â Ë<|lH c)/\a=w:=by
 go_enter Tryz.func103,Tryz.ntmps103;go_wp2;all_goals go_ret
 all_goals refine⟨Ft ?_,U⟩
 all_goals simp only[beq_iff_eq,beq_eq_false_iff_ne,ne_eq]at*
 all_goals(try subst c)
 all_goals first|rfl|(unfold lH;simp[*];done)|(unfold lH;rw[if_neg Z];simp[*])
def kF:Ş->Option Ş
 |ã c=>Ã c
 |.seq a b=>match kF a with
  |some c=>Ã c
  |none=>kF b
 |.block _ c=>kF c
 |.scope c=>kF c
 |.cond _ a b=>match kF a with
  |some c=>Ã c
  |none=>kF b
 |_=>Ä
noncomputable def uO:Ş:=(Tryz.f191.body.bind kF).getD Ń
def ov(a:Nat)(P:ByteArray)(b:Int)(u:Nat->Ç):ë:=⟨#[Å<|Ã ⟨a,0,Ä⟩,ĉ,Â Æ 0,Ò Ï,Í P,Â Æ P.size,Â Æ b,u 7,u 8,u 9,u 10,u 11,u 12,u 13,u 14,u 15,u 16,u 17,u 18,u 19,u 20,u 21,u 22,u 23,u 24,u 25,u 26,u 27,u 28,u 29,u 30,u 31,u 32,u 33,u 34,u 35,u 36,u 37,u 38,u 39,u 40,u 41,u 42,u 43,u 44,u 45,u 46,u 47,u 48,u 49,u 50,u 51,u 52,u 53,u 54,u 55,u 56,u 57,u 58,u 59,u 60,u 61,u 62,u 63,u 64,u 65,u 66,u 67,u 68,u 69,u 70,u 71,u 72,u 73,u 74,u 75,u 76,u 77,u 78,u 79,u 80],[]⟩
def Dd(b:Nat)(P:ByteArray)(c:Int)(a:ë):Prop:=∃u,a=ov b P c u
def m_(a:Nat)(P:ByteArray)(v:Int)(b:Bool)(u:Nat->Ç):ë:=⟨#[Å<|Ã ⟨a,0,Ä⟩,ĉ,Â Æ v,Ò b,Í P,Â Æ P.size,u 6,u 7,u 8,u 9,u 10,u 11,u 12,u 13,u 14,u 15,u 16,u 17,u 18,u 19,u 20,u 21,u 22,u 23,u 24,u 25,u 26,u 27,u 28,u 29,u 30,u 31,u 32,u 33,u 34,u 35,u 36,u 37,u 38,u 39,u 40,u 41,u 42,u 43,u 44,u 45,u 46,u 47,u 48,u 49,u 50,u 51,u 52,u 53,u 54,u 55,u 56,u 57,u 58,u 59,u 60,u 61,u 62,u 63,u 64,u 65,u 66,u 67,u 68,u 69,u 70,u 71,u 72,u 73,u 74,u 75,u 76,u 77,u 78,u 79,u 80],[]⟩
def Fv(c:Nat)(P:ByteArray)(v:Int)(b:Bool)(a:ë):Prop:=∃u,a=m_ c P v b u
def QQ(X:ë->É->Prop):bu->ë->É->Prop
 |.exit 0,a,w=>X a w
 |_,_,_=>False
section
variable{X:ë->É->Prop}{E:iW}{c:RC}{s:St}{f:List (Nat×Int)}{F:mf}
def alz(ok:E.Ok)(u:Nat->Ç)(b:R E i c z x zQ s f w)(j:B.size<=40)(e:h=B.size) (g:∀a d,Fv i B 0 Ý a->kO E i z x f.length w c zQ s f d->X a d): Î À uO (Exit.then K<|QQ X) (ov i B h u) w:=by
 unfold ov;conv=>arg 2;whnf
 subst e;go_wp2_with fail;exact g _ _ (gA _) b.jV
def alA(ok:E.Ok)(u:Nat->Ç)(b:R E i c z x zQ s f w)(l:B.size<=40)(m:(B.size:Int)<h) (e:∀a d,Fv i B 0 Ï a->kO E i z x f.length w (pb c 0) zQ s f d->X a d): Î À uO (Exit.then K<|QQ X) (ov i B h u) w:=by
 unfold ov;conv=>arg 2;whnf
 have n:w.cell? ⟨i,5,Ä⟩=Ã (Â Æ c.g):=b.r.r 5 _ U;have o:=b.r.C 5;have p:(h==(B.size:Int))=Ï:=by rw[beq_eq_false_iff_ne];omega
 have H:=fi b;clear b;go_wp2_with fail;let⟨j,k⟩:=H.out.N ok 5 (v:=Â Æ 0) (c':=pb c 0) (j4:=z) (ss':=zQ) U H.out.I λ_ q=>q;exact e _ _ (gA _) ⟨_,_,j,k⟩
def alB(ok:E.Ok)(u:Nat->Ç)(b:R E i c z x zQ s f w)(P:B.size<=40)(n:Nat)(G:h=n)(I:n<B.size)(y:iN w)(m o p:Int)(Q:zQ.length<=700)(J:0<=c.g)(T:c.g<=100000)(k:Nat)(C:lH ((B[n]'I).toNat:Int)=k)(r:iR[k]?=Ã (m,o,p))(D:lA c.g zQ.length m o p=Ï) (L:∀a j,Fv i B 0 Ï a->kO E i z x f.length w (pb c 0) zQ s f j->X a j): Î À uO (Exit.then K<|QQ X) (ov i B h u) w:=by
 unfold ov;conv=>arg 2;whnf
 subst G;have V:((n:Int)==(B.size:Int))=Ï:=by rw[beq_eq_false_iff_ne];omega
 have W:decide ((B.size:Int)<(n:Int))=Ï:=decide_eq_false Z;have Y:(0:Int)<=(n:Int):=Z
 have uL:(n:Int)<(B.size:Int):=Z
 have d:=Da E ok i c z x zQ s f w b y k m o p r Z J Z;rw[D]at d;have H:=fi<|Á b<|Á d<|Á r C;clear b d y r D C;go_wp2_with (go_at_call 103;refine(qF _ _).mono ?_;rintro e j ⟨rfl,l⟩;subst j;rw[H.out.2.2.2]);go_at_call 202;apply H.out.2.1.mono;rintro e M ⟨rfl,l,F⟩;have k5:M.cell? ⟨i,5,Ä⟩=Ã (Â Æ c.g):=l.r.r 5 _ U;have g5:=l.r.C 5;have t:=fi<|Á l F;clear l F;go_wp2_with fail;let⟨N,O⟩:=R.N ok t.out.1 5 (v:=Â Æ 0) (c':=pb c 0) (j4:=z) (ss':=zQ) U t.out.1.I λ_ q=>q;exact L _ _ (gA _) ⟨_,_,N,t.out.2.fj O⟩
def alC(ok:E.Ok)(u:Nat->Ç)(b:R E i c z x zQ s f w)(J:B.size<=40)(n:Nat)(C:h=n)(D:n<B.size)(q:iN w)(k l m:Int)(L:zQ.length<=700)(F:0<=c.g)(M:c.g<=100000)(r:lH ((B[n]'D).toNat:Int)=22)(o:iR[(22:Nat)]?=Ã (k,l,m))(t:lA c.g zQ.length k l m=Ý) (G:∀a j,Fv i B 0 Ï a->kO E i z x f.length w (pb c<|c.g-k) zQ s f j->X a j): Î À uO (Exit.then K<|QQ X) (ov i B h u) w:=by
 unfold ov;conv=>arg 2;whnf
 subst C;have N:((n:Int)==(B.size:Int))=Ï:=by rw[beq_eq_false_iff_ne];omega
 have O:decide ((B.size:Int)<(n:Int))=Ï:=decide_eq_false Z;have P:(0:Int)<=(n:Int):=Z
 have Q:(n:Int)<(B.size:Int):=Z
 have d:=Da E ok i c z x zQ s f w b q 22 k l m o Z F Z;rw[t]at d;have H:=fi<|Á b<|Á d<|Á o r;clear b d q o t r;go_wp2_with (go_at_call 103;refine(qF _ _).mono ?_;rintro e j ⟨rfl,I⟩;subst j;rw[H.out.2.2.2]);go_at_call 202;apply H.out.2.1.mono;rintro e T ⟨rfl,p,v⟩;rw[if_pos U]at p;have y:=fi<|Á p v;clear p v;go_wp2_with (go_at_call 103;refine(qF _ _).mono ?_;rintro e j ⟨rfl,I⟩;subst j;rw[H.out.2.2.2]);exact G _ _ (gA _) ⟨_,_,y.out.1,y.out.2⟩
def alD(ok:E.Ok)(u:Nat->Ç)(b:R E i c z x zQ s f w)(P:B.size<=40)(n:Nat)(F:h=n)(G:n<B.size)(r:iN w)(k l m:Int)(I:zQ.length<=700)(J:0<=c.g)(Q:c.g<=100000)(p:Int)(t:List Int)(L:zQ=t++[p])(v:lH ((B[n]'G).toNat:Int)=21)(o:iR[(21:Nat)]?=Ã (k,l,m))(y:lA c.g zQ.length k l m=Ý) (M:∀a j,Fv i B p Ý a->kO E i z x f.length w (pb c<|c.g-k) t s f j->X a j): Î À uO (Exit.then K<|QQ X) (ov i B h u) w:=by
 unfold ov;conv=>arg 2;whnf
 subst F;have T:((n:Int)==(B.size:Int))=Ï:=by rw[beq_eq_false_iff_ne];omega
 have V:decide ((B.size:Int)<(n:Int))=Ï:=decide_eq_false Z;have W:(0:Int)<=(n:Int):=Z
 have Y:(n:Int)<(B.size:Int):=Z
 have d:=Da E ok i c z x zQ s f w b r 21 k l m o Z J Z;rw[y]at d;have H:=fi<|Á b<|Á d<|Á o v;clear b d r o y v;go_wp2_with (go_at_call 103;refine(qF _ _).mono ?_;rintro e j ⟨rfl,N⟩;subst j;rw[H.out.2.2.2]);go_at_call 202;apply H.out.2.1.mono;rintro e w1 ⟨rfl,q,C⟩;rw[if_pos U]at q;have D:=fi<|Á q C;clear q C;subst L;go_wp2_with (go_at_call 103;refine(qF _ _).mono ?_;rintro e j ⟨rfl,N⟩;subst j;rw[H.out.2.2.2]);go_at_call 204;refine(nH ok D.out.1<|by simp at I;omega).mono ?_;rintro e w2 ⟨rfl,Fu,N,O⟩;go_wp2_with fail;exact M _ _ (gA _) ⟨_,_,N,D.out.2.fj O⟩
def alE(ok:E.Ok)(u:Nat->Ç)(b:R E i c z x zQ s f w)(L:B.size<=40)(n:Nat)(D:h=n)(k:n<B.size)(r:iN w)(l m o:Int)(M:zQ.length<=700)(F:0<=c.g)(N:c.g<=100000)(O:(48:Int)<=((B[n]'k).toNat:Int))(P:((B[n]'k).toNat:Int)<=57)(t:lH ((B[n]'k).toNat:Int)=1)(p:iR[(1:Nat)]?=Ã (l,m,o))(v:lA c.g zQ.length l m o=Ý) (G:∀a j,Dd i B ((n:Int)+1) a->kO E i z x f.length w (pb c<|c.g-l) (zQ++[((B[n]'k).toNat:Int)-48]) s f j->K a j): Î À uO (Exit.then K<|QQ X) (ov i B h u) w:=by
 unfold ov;conv=>arg 2;whnf
 subst D;have Q:((n:Int)==(B.size:Int))=Ï:=by rw[beq_eq_false_iff_ne];omega
 have T:decide ((B.size:Int)<(n:Int))=Ï:=decide_eq_false Z;have V:(0:Int)<=(n:Int):=Z
 have W:(n:Int)<(B.size:Int):=Z
 have d:=Da E ok i c z x zQ s f w b r 1 l m o p Z F Z;rw[v]at d;have H:=fi<|Á b<|Á d<|Á p t;clear b d r p v t;go_wp2_with (go_at_call 103;refine(qF _ _).mono ?_;rintro e j ⟨rfl,I⟩;subst j;rw[H.out.2.2.2]);go_at_call 202;apply H.out.2.1.mono;rintro e Y ⟨rfl,q,y⟩;rw[if_pos U]at q;have C:=fi<|Á q y;clear q y;go_wp2_with (go_at_call 103;refine(qF _ _).mono ?_;rintro e j ⟨rfl,I⟩;subst j;rw[H.out.2.2.2]);go_at_call 203;refine(zu ok C.out.1 Z _).mono ?_;rintro e w2 ⟨rfl,Fu,I,J⟩;go_wp2_with fail;exact G _ _ (gA _) ⟨_,_,I,C.out.2.fj J⟩
def alF(ok:E.Ok)(u:Nat->Ç)(b:R E i c z x zQ s f w)(Y:B.size<=40)(n:Nat)(M:h=n)(N:n<B.size)(t:iN w)(k l m:Int)(v:zQ.length<=700)(O:0<=c.g)(sr:c.g<=100000)(p q:Int)(y:List Int)(P:zQ=(y++[p])++[q])(Q:¬p=0)(C:lH ((B[n]'N).toNat:Int)=17)(o:iR[(17:Nat)]?=Ã (k,l,m))(D:lA c.g zQ.length k l m=Ý) (V:∀a j,Dd i B q a->kO E i z x f.length w (pb c<|c.g-k) y s f j->K a j): Î À uO (Exit.then K<|QQ X) (ov i B h u) w:=by
 unfold ov;conv=>arg 2;whnf
 subst M;have e1:((n:Int)==(B.size:Int))=Ï:=by rw[beq_eq_false_iff_ne];omega
 have e2:decide ((B.size:Int)<(n:Int))=Ï:=decide_eq_false Z;have IA:(0:Int)<=(n:Int):=Z
 have uL:(n:Int)<(B.size:Int):=Z
 have d:=Da E ok i c z x zQ s f w b t 17 k l m o Z O Z;rw[D]at d;have H:=fi<|Á b<|Á d<|Á o C;clear b d t o D C;go_wp2_with (go_at_call 103;refine(qF _ _).mono ?_;rintro e j ⟨rfl,I⟩;subst j;rw[H.out.2.2.2]);go_at_call 202;apply H.out.2.1.mono;rintro e w1 ⟨rfl,r,F⟩;rw[if_pos U]at r;have G:=fi<|Á r F;clear r F;subst P;have e3:(p !=0)=Ý:=by rwa[bne_iff_ne]
 go_wp2_with (go_at_call 103;refine(qF _ _).mono ?_;rintro e j ⟨rfl,I⟩;subst j;rw[H.out.2.2.2])
 go_at_call 204;refine(nH ok G.out.1<|by simp at v|-;omega).mono ?_;rintro e w2 ⟨rfl,Fu,I,J⟩;go_wp2_with fail;go_at_call 204;refine(nH ok I<|by simp at v;omega).mono ?_;rintro e w3 ⟨rfl,ML,W,L⟩;have T:=(G.out.2.fj J).fj L;clear I J L;go_wp2_with fail;exact V _ _ (gA _) ⟨_,_,W,T⟩
def alG(ok:E.Ok)(u:Nat->Ç)(b:R E i c z x zQ s f w)(Y:B.size<=40)(n:Nat)(M:h=n)(N:n<B.size)(t:iN w)(k l m:Int)(v:zQ.length<=700)(O:0<=c.g)(sr:c.g<=100000)(p q:Int)(y:List Int)(P:zQ=(y++[p])++[q])(Q:p=0)(C:lH ((B[n]'N).toNat:Int)=17)(o:iR[(17:Nat)]?=Ã (k,l,m))(D:lA c.g zQ.length k l m=Ý) (V:∀a j,Dd i B ((n:Int)+1) a->kO E i z x f.length w (pb c<|c.g-k) y s f j->K a j): Î À uO (Exit.then K<|QQ X) (ov i B h u) w:=by
 unfold ov;conv=>arg 2;whnf
 subst M;have e1:((n:Int)==(B.size:Int))=Ï:=by rw[beq_eq_false_iff_ne];omega
 have e2:decide ((B.size:Int)<(n:Int))=Ï:=decide_eq_false Z;have IA:(0:Int)<=(n:Int):=Z
 have uL:(n:Int)<(B.size:Int):=Z
 have d:=Da E ok i c z x zQ s f w b t 17 k l m o Z O Z;rw[D]at d;have H:=fi<|Á b<|Á d<|Á o C;clear b d t o D C;go_wp2_with (go_at_call 103;refine(qF _ _).mono ?_;rintro e j ⟨rfl,I⟩;subst j;rw[H.out.2.2.2]);go_at_call 202;apply H.out.2.1.mono;rintro e w1 ⟨rfl,r,F⟩;rw[if_pos U]at r;have G:=fi<|Á r F;clear r F;subst P;subst Q;go_wp2_with (go_at_call 103;refine(qF _ _).mono ?_;rintro e j ⟨rfl,I⟩;subst j;rw[H.out.2.2.2]);go_at_call 204;refine(nH ok G.out.1<|by simp at v|-;omega).mono ?_;rintro e w2 ⟨rfl,Fu,I,J⟩;go_wp2_with fail;go_at_call 204;refine(nH ok I<|by simp at v;omega).mono ?_;rintro e w3 ⟨rfl,ML,W,L⟩;have T:=(G.out.2.fj J).fj L;clear I J L;go_wp2_with fail;exact V _ _ (gA _) ⟨_,_,W,T⟩
def alH(ok:E.Ok)(u:Nat->Ç)(b:R E i c z x zQ s f w)(hP:B.size<=40)(n:Nat)(Q:h=n)(T:n<B.size)(r:iN w)(l o q:Int)(V:zQ.length<=700)(W:0<=c.g)(sr:c.g<=100000)(k:Nat)(Y:2<=k)(Ze:k<=20)(k_:k≠17)(Dc:o<=zQ.length)(n5:0<=c.d)(hd:c.d<=4)(hF:c.d<4->tC F (c.d+1))(I:o7 F)(J:gL s)(hx:c.x<8)(hy:c.y<8)(L:∀p∈zQ,gf p)(hlen:(f.length:Int)+c.g<=1000000)(t:RT)(M:t=ru F c k ⟨zQ,s,f,c.g-l⟩)(n_:0<=l)(MN:l<=c.g)(N:lH ((B[n]'T).toNat:Int)=k)(v:iR[(k:Nat)]?=Ã (l,o,q))(O:lA c.g zQ.length l o q=Ý) (hK:∀a m,Dd i B ((n:Int)+1) a->kO E i z x f.length w (pb c t.g) t.r t.s t.C m->K a m): Î À uO (Exit.then K<|QQ X) (ov i B h u) w:=by
 unfold ov;conv=>arg 2;whnf
 subst Q;have e1:((n:Int)==(B.size:Int))=Ï:=by rw[beq_eq_false_iff_ne];omega
 have e2:decide ((B.size:Int)<(n:Int))=Ï:=decide_eq_false Z;have IA:(0:Int)<=(n:Int):=Z
 have uL:(n:Int)<(B.size:Int):=Z
 have j:=Da E ok i c z x zQ s f w b r k l o q v Z W Z;rw[O]at j;have H:=fi<|Á b<|Á j<|Á r<|Á v N;clear b j r v O N;go_wp2_with (go_at_call 103;refine(qF _ _).mono ?_;rintro e m ⟨rfl,hw⟩;subst m;rw[H.out.2.2.2.2]);go_at_call 202;apply H.out.2.1.mono;rintro e w1 ⟨rfl,C,P⟩;rw[if_pos U]at C;have G:=fi<|Á C P;clear C P;have o_:((k:Int)==1)=Ï:=by rw[beq_eq_false_iff_ne];omega
 have e27:((k:Int)==17)=Ï:=by rw[beq_eq_false_iff_ne];omega
 have e31:((k:Int)==21)=Ï:=by rw[beq_eq_false_iff_ne];omega
 have e32:((k:Int)==22)=Ï:=by rw[beq_eq_false_iff_ne];omega
 have D:=aly (t:=t) ok G.out.1 V n5 hd hF I (H.out.2.2.1.N ok H.out.1 G.out.2) J hx hy L (by show 0<=c.g-l;omega) (by show c.g-l<=100000;omega) (by show(f.length:Int)+(c.g-l)<=1000000;omega) k Y Ze k_ l o q H.out.2.2.2.1 Dc M;have HD:=fi D;clear D hF I J L hlen M;go_wp2_with (go_at_call 103;refine(qF _ _).mono ?_;rintro e m ⟨rfl,hw⟩;subst m;rw[H.out.2.2.2.2]);go_at_call 205;apply HD.out.mono;rintro e w2 ⟨rfl,Fu,Mr,h2,t2⟩;go_wp2_with fail;exact hK _ _ (gA _) ⟨_,_,h2,G.out.2.fj t2⟩
end
def pO(k:Nat):Int×Int×Int:=(iR[k]?).getD (0,0,0)
def zv(P:ByteArray)(a:Int):Int:=((P.data.getD a.toNat 0).toNat:Int)
def kP(P:ByteArray)(a:Int):Nat:=lH<|zv P a
def tD(F:mf)(c:RC)(P:ByteArray):Nat->Int->RT->Int×Bool×RT
 |0,_,t=>(0,Ï,t)
 |f+1,pl,t=>
  if pl=P.size then(0,Ý,t)
  else if(P.size:Int)<pl then(0,Ï,{t with g:=0})
  else if lA t.g t.r.length (pO<|kP P pl).1 (pO<|kP P pl).2.1 (pO<|kP P pl).2.2=Ï then(0,Ï,{t with g:=0})
  else if kP P pl=1 then tD F c P f (pl+1) {t with r:=t.r++[zv P pl-48],g:=t.g-(pO<|kP P pl).1}
  else if kP P pl=17 then
   if gk (fY t.r)=0 then tD F c P f (pl+1) {t with r:=fY<|fY t.r,g:=t.g-(pO<|kP P pl).1}else tD F c P f (gk t.r) {t with r:=fY<|fY t.r,g:=t.g-(pO<|kP P pl).1}
  else if kP P pl=21 then(gk t.r,Ý,{t with r:=fY t.r,g:=t.g-(pO<|kP P pl).1})
  else if kP P pl=22 then(0,Ï,{t with g:=t.g-(pO<|kP P pl).1})
  else tD F c P f (pl+1) (ru F c (kP P pl) {t with g:=t.g-(pO<|kP P pl).1})
structure nI(t:RT):Prop where
 r:∀p∈t.r,gf p
 I:t.r.length<=32
 s:gL t.s
 g0:0<=t.g
 C:t.g<=100000
 M:(t.C.length:Int)+t.g<=1000000
def alI{p:Prop}[Decidable p](c:i<=m)(d:b<=m):(if p then i else b)<=m:=by split;exact c;exact d
def SO(c:Int):lH c<=22:=by unfold lH;repeat' (first|refine alI A ?_|decide)
def uP:gf 0:=⟨A,A⟩
def alJ:gf 1:=⟨A,A⟩
def SQ(h:k<=22):iR[k]?=Ã (pO k):=by
 unfold pO;have:k<iR.length:=by show k<23;omega
 rw[Ñ this];rfl
def zw(n:Int):gf (wu n):=⟨akR n,akS n⟩
def p_(b:Bool):gf (xD b):=by cases b<;>exact⟨A,A⟩
def alK{q:Int}(a:gf c)(d:gf q):gf (xE h c q):=by
 unfold xE;repeat' split
 all_goals first|exact zw _|exact p_ _|exact⟨A,A⟩|skip
 rename_i g;have b:=a.1;have e:=a.2;have f:=d.1;exact⟨Int.ediv_nonneg b f,Int.lt_of_le_of_lt (Int.ediv_le_self _ b) e⟩
def gL.gh{s:St}(h:gL s){a:IU}(b:gf a.fy)(d:∀j,gf<|a.C j)(e:a.r.size<=40/\∀c∈a.r.data.toList,xF c=Ý):gL (s.gh i a):=by
 refine⟨λj=> ?_,λj k=> ?_,λj=> ?_⟩<;>unfold St.gh<;>split
 .exact b
 .exact h.fy j
 .exact d k
 .exact h.C j k
 .exact e
 .exact h.I j
def gL.r{s:St}(h:gL s)(i:Nat){b:Int}(a:gf b):gL (s.fy i b):=h.gh a (h.C i)<|h.I i
def gL.SF{s:St}(h:gL s)(i j:Nat)(a:gf c):gL (s.r i j c):=by
 refine h.gh (h.fy i) (λk=> ?_)<|h.I i;show gf (if k=j then c else(s i).C k);split
 .exact a
 .exact h.C i k
def alL{s:St}(h:gL s)(y:Nat){p:Int}(a:gf p):gf (sk s y c p).1/\gL (sk s y c p).2:=by
 unfold sk;split
 .exact⟨uP,h⟩
 .rename_i d;have b:=h.fy y;have e:=a.1;refine⟨alJ,gL.r (gL.r h y ⟨Z,by have:=b.2;omega⟩) _<|zw _⟩
def q_(h:n<8):gf (n:Int):=⟨Z,Z⟩
section
variable{F:mf}{c:RC}{t:RT}
def su{m:List Int}(h:∀p∈zQ,gf p)(k:∀p∈m,gf p):∀p∈zQ++m,gf p:=λp a=>(ā.1 a).elim (h p)<|k p
def vV{a:Int}(h:gf a):∀p∈[a],gf p:=λp b=>by simp at b;subst b;exact h
def SR{a b:Int}(h:gf a)(k:gf b):∀p∈[a,b],gf p:=λp c=>by simp at c;rcases c with rfl|rfl;exact h;exact k
def alM(b:o7 F)(a:nI t)(d:c.y<8){p k:Int}(f:gf h)(i:gf p)(j:gf k): gf (jb F c t h p k).1/\gf (jb F c t h p k).2.1/\gL (jb F c t h p k).2.2.s/\0<=(jb F c t h p k).2.2.g/\(jb F c t h p k).2.2.g<=t.g/\((jb F c t h p k).2.2.C.length:Int)+(jb F c t h p k).2.2.g<=(t.C.length:Int)+t.g:=by
 unfold jb;split
 .exact⟨uP,uP,a.s,a.g0,Ø _,Ø _⟩
 .have l:0<=min p t.g:=by have:=i.1;have:=a.g0;omega
  have m:=a.g0;have n:=a.C;have o:=a.M;have r:=f.1;have e:=b t.s t.C c.y (h%8).toNat (min p t.g) k a.s d Z j l Z Z;have u:=e.r;have v:=e.C;have w:=e.I;refine⟨e.M,p_ _,e.N,?_,?_,?_⟩;all_goals simp only
  all_goals have:=a.g0
  all_goals omega
def SS(v:o7 F)(w:c.x<8)(r:c.y<8)(z:gf c.k)(Q:2<=k)(T:k<=20)(V:k≠17){q u:Int}(d:iR[k]?=Ã (h,q,u)){g:Int}(W:t.g=g-h)(a:nI t)(X:(t.C.length:Int)+g<=1000000)(Y:q<=t.r.length)(Fw:(t.r.length:Int)-q+u<=32): nI (ru F c k t)/\(ru F c k t).g<=t.g/\((ru F c k t).C.length:Int)+(ru F c k t).g<=t.C.length+g:=by
 have i:=rv a.r;have j:=rv<|oF a.r;have B:=rv<|oF<|oF a.r;have m:=oF a.r;have n:=oF m;have C:=oF n;have f:=pd t.r;have o:=pd<|fY t.r;have D:=pd<|fY<|fY t.r;have g0:=a.g0;have g1:=a.C;obtain⟨E,G,H,I,J,K⟩:=I0 k _ d;simp only at E G H I J K;have len:=a.I;have b:∀{l:List Int},(∀p∈l,gf p)->l.length<=32->nI {t with r:=l}:=λp L=>⟨p,L,a.s,a.g0,a.C,a.M⟩;have cases:(k=2\/k=3\/k=4\/k=5\/k=6\/k=7)\/k=8\/k=9\/k=10\/k=11\/k=12\/k=13\/k=14\/k=15\/k=16\/k=18\/k=19\/k=20:=Z
 rcases cases with hq|rfl|rfl|rfl|rfl|rfl|rfl|rfl|rfl|rfl|rfl|rfl|rfl
 .have e:ru F c k t={t with r:=fY (fY t.r)++[xE k (gk<|fY t.r)<|gk t.r]}:=by
   rcases hq with rfl|rfl|rfl|rfl|rfl|rfl<;>rfl
  rw[e];exact⟨b (su n<|vV<|alK j i) (by simp[f,o];omega),Ø _,by simp only;omega⟩
 .exact⟨b (su m<|SR i i) (by simp[f];simp[iR]at d;omega),Ø _,by show(t.C.length:Int)+t.g<=_;omega⟩
 .exact⟨b (su n<|SR i j) (by simp[f,o];omega),Ø _,by show(t.C.length:Int)+t.g<=_;omega⟩
 .exact⟨b m (by rw[f];omega),Ø _,by show(t.C.length:Int)+t.g<=_;omega⟩
 .exact⟨b (su a.r<|vV z) (by simp;simp[iR]at d;omega),Ø _,by show(t.C.length:Int)+t.g<=_;omega⟩
 .exact⟨b (su a.r<|vV<|q_ w) (by simp;simp[iR]at d;omega),Ø _,by show(t.C.length:Int)+t.g<=_;omega⟩
 .exact⟨b (su a.r<|vV<|q_ r) (by simp;simp[iR]at d;omega),Ø _,by show(t.C.length:Int)+t.g<=_;omega⟩
 .exact⟨b (su a.r<|vV<|a.s.fy _) (by simp;simp[iR]at d;omega),Ø _,by show(t.C.length:Int)+t.g<=_;omega⟩
 .exact⟨b (su m<|vV<|a.s.C _ _) (by simp[f];omega),Ø _,by show(t.C.length:Int)+t.g<=_;omega⟩
 .exact⟨⟨n,by show(fY<|fY t.r).length<=32;omega,a.s.SF _ _ j,a.g0,a.C,a.M⟩,Ø _,by show(t.C.length:Int)+t.g<=_;omega⟩
 .obtain⟨e,M⟩:=alL a.s c.y j;exact⟨⟨su n<|vV e,by show(fY (fY t.r)++[_]).length<=32;simp[f,o];omega,M,a.g0,a.C,a.M⟩,Ø _,by show(t.C.length:Int)+t.g<=_;omega⟩
 .have e:h=4:=by simp[iR]at d;omega
  refine⟨⟨m,by show(fY t.r).length<=32;omega,a.s,a.g0,a.C,?_⟩,Ø _,?_⟩
  .show((t.C++[_]).length:Int)+t.g<=_;simp;omega
  .show((t.C++[_]).length:Int)+t.g<=_;simp;omega
 .obtain⟨e,M,N,O,P,w6⟩:=alM v a r i j B;refine⟨⟨su C<|SR e M,?_,N,O,?_,?_⟩,P,?_⟩
  .show(fY (fY<|fY t.r)++[_,_]).length<=32;simp[f,o,D];simp[iR]at d;omega
  .show(jb F c t _ _ _).2.2.g<=_;omega
  .show((jb F c t _ _ _).2.2.C.length:Int)+(jb F c t _ _ _).2.2.g<=_;omega
  .show((jb F c t _ _ _).2.2.C.length:Int)+(jb F c t _ _ _).2.2.g<=_;omega
end
def De(a:Nat)(w:É):Nat:=match w.cell? ⟨a,5,Ä⟩with
 |some (Â _ n)=>n.toNat
 |_=>0
def R.G{E:iW}{c:RC}{s:St}{a:List (Nat×Int)}(h:R E i c v x zQ s a w):De i w=c.g.toNat:=by unfold De;rw[h.r.r 5 _ U]
def SI(E:iW)(d:Nat)(c:RC)(P:ByteArray)(F:mf)(f h:Ç)(i:Nat)(j:É)(k:Int×Bool×RT)(a:ë)(w:É):Prop:=
 ∃(b:Int) (t:RT) (e:Nat),Dd d P b a/\gf b/\kO E d f h i j (pb c t.g) t.r t.s t.C w/\nI t/\iN w/\t.g.toNat<e/\tD F c P e b t=k
def SX(E:iW)(d:Nat)(c:RC)(P:ByteArray)(e f:Ç)(h:Nat)(i:É)(b:Int×Bool×RT)(a:ë)(w:É):Prop:=
 Fv d P b.1 b.2.1 a/\kO E d e f h i (pb c b.2.2.g) b.2.2.r b.2.2.s b.2.2.C w
def SU(a:n<B.size):zv B (n:Int)=((B[n]'a).toNat:Int):=by unfold zv;rw[ſ];have b:n<B.data.size:=a;simp only[Array.getD,b,dif_pos];rfl
def SV{s:St}(b:gL s)(y:Nat)(a:n<(s y).r.size):1<=kP (s y).r (n:Int):=by
 unfold kP;rw[SU a];have c:((s y).r[n]'a)∈(s y).r.data.toList:=by have:(s y).r[n]'a=(s y).r.data[n]'a:=U;rw[this];exact Ŧ.2<|Array.getElem_mem _
 have:=(b.I y).2 _ c;unfold xF at this;have:=of_decide_eq_true this;omega
def SY{b a d:Int}(h:lA c n b a d=Ý):b<=c/\a<=n/\(n:Int)-a+d<=32:=by unfold lA at h;simp at h;omega
def alN{p:Prop}[Decidable p](c:i≠m)(d:b≠m):(if p then i else b)≠m:=by split;exact c;exact d
def SZ(h:lH c=1):48<=c/\c<=57:=by
 by_cases a:48<=c/\c<=57
 .exact a
 .exfalso;revert h;unfold lH;rw[if_neg a];repeat' (first|refine alN A ?_|decide)
def alO(a:1<=k)(b:k<=22):1<=(pO k).1:=by
 have h:∀k:Fin 23,1<=k.val->1<=(pO k.val).1:=A
 exact h ⟨k,Z⟩ a
section
variable{E:iW}{c:RC}{F:mf}{l:Int×Bool×RT}
def alP(ok:E.Ok)(hP:B.size<=40)(alQ:∀n,n<B.size->1<=kP B (n:Int))(n5:0<=c.d)(hd:c.d<=4)(hF:c.d<4->tC F (c.d+1))(hI:o7 F)(hx:c.x<8)(hy:c.y<8)(I3:gf c.k)(a:ë)(w:É)(h:SI E j c B F z v i W l a w): Î À uO (Exit.then (λa' w'=>SI E j c B F z v i W l a' w'/\De j w'<De j w)<|QQ<|SX E j c B z v i W l) a w:=by
 let⟨pl,t,fuel,hfr,qc,⟨sv,lv,hR,hT⟩,ht,hr,hfu,j5⟩:=h;have g0:=ht.g0;have g1:=ht.C;have hl:=ht.I;have alR:=hR.G;obtain⟨f,rfl⟩:∃f,fuel=f+1:=⟨fuel-1,Z⟩;unfold tD at j5;obtain⟨u,rfl⟩:=hfr;by_cases h1:pl=B.size
 .rw[if_pos h1]at j5;subst j5;apply alz ok u hR hP h1;rintro a' w' q1 ⟨j4,jD,r1,r2⟩;exact⟨q1,j4,jD,r1,hT.fj r2⟩
 rw[if_neg h1]at j5;by_cases h2:(B.size:Int)<pl
 .rw[if_pos h2]at j5;subst j5;apply alA ok u hR hP h2;rintro a' w' q1 ⟨j4,jD,r1,r2⟩;exact⟨q1,j4,jD,r1,hT.fj r2⟩
 rw[if_neg h2]at j5;have SL:=qc.1;obtain⟨n,rfl⟩:∃n:Nat,pl=n:=⟨pl.toNat,Z⟩;have hn:n<B.size:=Z
 have k1:=alQ n hn;have rP:lH ((B[n]'hn).toNat:Int)=kP B (n:Int):=by unfold kP;rw[SU hn]
 have k2:kP B (n:Int)<=22:=SO _;have hk:=SQ k2;have n_:=alO k1 k2;let⟨b1,b2,b3,b4,b5,b6⟩:=I0 _ _ hk;have alS:=SU hn;generalize kP B (n:Int)=k at*;generalize q':pO k=ro at*;let⟨co,ta,pu⟩:=ro;simp only at j5 hk n_ b1 b2 b3 b4 b5 b6;by_cases h3:lA t.g t.r.length co ta pu=Ï
 .rw[if_pos h3]at j5;subst j5;apply alB ok u hR hP n U hn hr co ta pu Z g0 g1 k rP hk h3;rintro a' w' q1 ⟨j4,jD,r1,r2⟩;exact⟨q1,j4,jD,r1,hT.fj r2⟩
 rw[if_neg h3]at j5;have oX:lA t.g t.r.length co ta pu=Ý:=by cases e:lA t.g t.r.length co ta pu with
  |true=>rfl
  |false=>exact absurd e h3
 let⟨MN,Dc,Fw⟩:=SY oX;have I4:=ht.M;have uL:gf ((n:Int)+1):=⟨Z,Z⟩;have MO:∀{a':ë} {w':É} {I5:Int} {t':RT} {j4 jD:Ç},Dd j B I5 a'->gf I5->R E j (pb c t'.g) j4 jD t'.r t'.s t'.C w'->Tr E j sv lv t.C.length w j4 jD t'.C.length w'->nI t'->t'.g<=t.g-co->tD F c B f I5 t'=l->SI E j c B F z v i W l a' w'/\De j w'<De j w:=by intro a' w' I5 t' j4 jD q1 q2 q3 q4 q5 q6 q7;have e5:=q5.g0;refine⟨⟨I5,t',f,q1,q2,⟨j4,jD,q3,hT.fj q4⟩,q5,hr.N ok hR q4,Z,q7⟩,?_⟩;rw[q3.G,alR];show t'.g.toNat<t.g.toNat;omega
 by_cases h4:k=1
 .rw[if_pos h4]at j5;subst h4;have r_:=SZ rP;apply alE ok u hR hP n U hn hr co ta pu Z g0 g1 r_.1 r_.2 rP hk oX;rintro a' w' q1 ⟨j4,jD,r1,r2⟩;rw[alS]at j5;refine MO (t':={t with r:=t.r++[((B[n]'hn).toNat:Int)-48],g:=t.g-co}) q1 uL r1 r2 ⟨su ht.r<|vV ⟨Z,Z⟩,?_,ht.s,by show 0<=t.g-co;omega,by show t.g-co<=100000;omega,by show(t.C.length:Int)+(t.g-co)<=1000000;omega⟩ (Ø _) j5;simp[iR]at hk;simp;omega
 rw[if_neg h4]at j5;by_cases h5:k=17
 .rw[if_pos h5]at j5;subst h5;have alT:ta=2:=by simp[iR]at hk;omega
  have e2:t.r=(fY (fY t.r)++[gk<|fY t.r])++[gk t.r]:=by rw[xH (by rw[pd];omega),xH Z]
  have tok:nI {t with r:=fY<|fY t.r,g:=t.g-co}:=⟨oF<|oF ht.r,by show(fY<|fY t.r).length<=32;rw[pd,pd];omega,ht.s,by show 0<=t.g-co;omega,by show t.g-co<=100000;omega,by show(t.C.length:Int)+(t.g-co)<=1000000;omega⟩;by_cases h6:gk (fY t.r)=0
  .rw[if_pos h6]at j5;apply alG ok u hR hP n U hn hr co ta pu Z g0 g1 _ _ _ e2 h6 rP hk oX;rintro a' w' q1 ⟨j4,jD,r1,r2⟩;exact MO (t':={t with r:=fY<|fY t.r,g:=t.g-co}) q1 uL r1 r2 tok (Ø _) j5
  .rw[if_neg h6]at j5;apply alF ok u hR hP n U hn hr co ta pu Z g0 g1 _ _ _ e2 h6 rP hk oX;rintro a' w' q1 ⟨j4,jD,r1,r2⟩;exact MO (t':={t with r:=fY<|fY t.r,g:=t.g-co}) q1 (rv ht.r) r1 r2 tok (Ø _) j5
 rw[if_neg h5]at j5;by_cases h6:k=21
 .rw[if_pos h6]at j5;subst h6 j5;have alT:ta=1:=by simp[iR]at hk;omega
  apply alD ok u hR hP n U hn hr co ta pu Z g0 g1 _ _ (xH Z).symm rP hk oX;rintro a' w' q1 ⟨j4,jD,r1,r2⟩;exact⟨q1,j4,jD,r1,hT.fj r2⟩
 rw[if_neg h6]at j5;by_cases h7:k=22
 .rw[if_pos h7]at j5;subst h7 j5;apply alC ok u hR hP n U hn hr co ta pu Z g0 g1 rP hk oX;rintro a' w' q1 ⟨j4,jD,r1,r2⟩;exact⟨q1,j4,jD,r1,hT.fj r2⟩
 rw[if_neg h7]at j5;let⟨d1,d2,d3⟩:=SS (t:={t with g:=t.g-co}) hI hx hy I3 Z Z h5 hk U ⟨ht.r,ht.I,ht.s,by show 0<=t.g-co;omega,by show t.g-co<=100000;omega,by show(t.C.length:Int)+(t.g-co)<=1000000;omega⟩ I4 Dc Fw;apply alH ok u hR hP n U hn hr co ta pu Z g0 g1 k Z Z h5 Dc n5 hd hF hI ht.s hx hy ht.r I4 (ru F c k {t with g:=t.g-co}) U b1 MN rP hk oX;rintro a' w' q1 ⟨j4,jD,r1,r2⟩;exact MO q1 uL r1 r2 d1 d2 j5
end
section
variable{E:iW}{c:RC}{F:mf}{lv:Ç}{s:St}{b:List (Nat×Int)}
def oG(F:mf)(c:RC)(s:St)(b:List (Nat×Int)):Int×Bool×RT:=tD F c (s c.y).r (c.g.toNat+1) 0 ⟨[],s,b,c.g⟩
def t_(ok:E.Ok)(h:R E i c v lv [] s b w)(l:0<=c.d)(o:c.d<=4)(hF:c.d<4->tC F (c.d+1))(p:o7 F)(q:iN w)(f:gL s)(r:c.x<8)(j:c.y<8)(t:gf c.k)(z:0<=c.g)(B:c.g<=100000)(C:(b.length:Int)+c.g<=1000000): Ô À 191 #[Å<|Ã ⟨i,0,Ä⟩] w λe a=>e=È (é #[Â Æ (oG F c s b).1,Ò (oG F c s b).2.1])/\kO E i v lv b.length w (pb c (oG F c s b).2.2.g) (oG F c s b).2.2.r (oG F c s b).2.2.s (oG F c s b).2.2.C a:=by
 have J:=h.r.r 0 _ U;have K:=h.r.r 2 _ U;have M:=h.C.MH j;have N:=h.r.M;have O:=fl.M h.C;have e:=(f.I c.y).1;have L:∀m,∀a,Dd i (s c.y).r 0 a->Î À (ã uO) (QQ<|SX E i c (s c.y).r v lv b.length w<|oG F c s b) a (w.drewN m):=λm a D=>by refine Đ (SI E i c (s c.y).r F v lv b.length w<|oG F c s b) (λ_ w=>De i w) ?_ (alP ok e (λn u=>SV f c.y u) l o hF p r j t);have k:=fg.iQ (λ_=>False) w m;exact⟨0,⟨[],s,b,c.g⟩,c.g.toNat+1,D,uP,⟨v,lv,h.fN k,Tr.fN k⟩,⟨ft,ft,f,z,B,C⟩,q.r k id,ft,U⟩
 have H:=fi L;generalize oG F c s b=res at*;generalize Q:(s c.y).r=P at*;go_enter Tryz.func191,Tryz.ntmps191;go_wp2_with fail;go_step3;go_wp2_with fail;go_quiet (fail);go_wp2_with fail;go_step3;go_wp2_with fail;refine à ?_ (H.out _ _ (gA _));rintro(_|(_|_)|_|_|_|_) a v hq;all_goals first|exact absurd hq id|skip
 let⟨n,G⟩:=hq;obtain⟨u,rfl⟩:=n;unfold m_;have I:=fi G;go_wp2_with fail;(try rw[Exit.noGoto_ret]);go_ret2;exact⟨U,I.out⟩
end
def S0(a:o.op=bH T)(b:P.info? T=Ã zJ)(c:zJ.zero=Ã z): (į xX o).run P w=aA (.value<|Å<|Ã ⟨w.heap.size,0,Ä⟩) (w.alloc<|Ð z.cells T):=by unfold į;simp[a,Instr.alloc,zeroValue,typeInfo,b,c,newVar,newRow]
def MP:∀(e a d:List Ç) (w:É) (c:List Ç),c.length=e.length->fl b (a++c++d) T w->fl b (a++e++d) T (w.setCells b a.length e)
 |[],a,d,w,c,hl,h=>by have:c=[]:=á (by simpa using hl);subst this;exact h
 |v::r,a,d,w,c,hl,h=>by
  match c,hl,h with
  |x::c,hl,h=>
   have f:=h.gh a.length v;rw[show(a++x::c++d).set a.length v=(a++[v])++c++d by simp]at f;have:=MP r (a++[v]) d _ c (by simpa using hl) f;rw[show(a++[v]).length=a.length+1 by simp]at this;rw[show a++v::r++d=a++[v]++r++d by simp];exact this
def NF.vC(h:NF b w)(p:Č)(v:Ç):NF b (w.setCell p v):=λc T d q=>by
 by_cases e:b=p.block
 .subst e;unfold Ď at q;simp only[Ú,if_true]at q;cases a:w.heap[p.block]? with
  |none=>rw[a]at q;cases q
  |some f=>
   rw[a]at q;cases f with
   |cells g t z=>
    simp only[ì,ê,Į]at q;rw[<-q.2.1];exact h _ _ _ a
   |_=>cases q
 .rw[ĝ _ _ _ _ (by simpa using e)]at q;exact h c T d q
def I6:∀(vs:List Ç) (o:Nat) (w:É),NF b w->fg (λk=>k=b) w (w.setCells b o vs)
 |[],_,w,_=>fg.fW _ w
 |v::r,o,w,h=>(fg.I (X:=λk=>k=b) (p:=⟨b,o,Ä⟩) U v<|Ü h).fj<|I6 r (o+1) _<|h.vC _ _
def fl.S2{vs:List Ç}(h:fl j vs T w)(a:n<=vs.length):w.there j 0 n:=λi b=>by refine⟨?_,h.C _⟩;rw[h.r (0+i) (vs[0+i]'Z)<|Ñ Z];rfl
def fl.Y{vs tl:List Ç}(h:fl j (vs++tl) T w):w.rangeAt j 0 vs:=λi v a=>by apply h.r (0+i) v;rwa[ĸ,â (Ù.1 a).1]
def S3{P:Program}{ops:Array Oper}{rest:List Oper}{o1 o2:Oper}{a:Act}{w:World}{Q:Exit->Act->World->Prop}(g1:o1.guard=none)(g2:o2.guard=none)(T:TypeId)(h1:o1.op=.alloc T)(d:Tmp)(hd:o1.dst=some d)(x y:Operand)(h2:o2.op=.store T x y)(na:o2.dst=none) {i:TypeInfo} {z:Value} (hi:P.info? T=some i) (hz:i.zero=some z) (cs:List Value) (jx:i.size=cs.length) (se:z.cells.size=cs.length) (hx:(a.put (some d)<|.pointer<|some ⟨w.heap.size,0,none⟩).eval x=.pointer (some ⟨w.heap.size,0,none⟩)) (hy:(a.put (some d)<|.pointer<|some ⟨w.heap.size,0,none⟩).eval y=.agg cs.toArray) (MQ:∀v∈cs,v.oneCell'=true) (h:∀w',fl w.heap.size cs T w'->fg (λ_=>False) w w'->w'.heap.size=w.heap.size+1->wpList P ops Q rest (a.put (some d)<|.pointer<|some ⟨w.heap.size,0,none⟩) w') (hT:me T=false:=by decide):wpList P ops Q (o1::o2::rest) a w:=by
 apply ď g1 (Ã d) hd _ _ (S0 h1 hi hz);have hB:fl w.heap.size z.cells.toList T (w.alloc<|Ð z.cells T):=by have:=fl.N w z.cells.toList T;simpa using this
 refine Ŋ g2 T x y h2 w.heap.size 0 cs.toArray hx hy (hB.S2<|by simp[se]) (by rw[hi];simp[jx]) (Ķ MQ) ?_;rw[na];have hB2:=MP cs [] [] (w.alloc<|Ð z.cells T) z.cells.toList (by simpa using se) (by simpa using hB);refine h _ (by simpa using hB2) ?_ ?_
 .refine(fg.gI (λ_=>False) w _ _<|Û hT).C (I6 _ _ _<|hB.G hT) λk hk e=> ?_;omega
 .have:∀(vs:List Ç) (o:Nat) (w:É) (b:Nat),(w.setCells b o vs).heap.size=w.heap.size:=by
   intro vs
   induction vs with
   |nil=>intro o w b;rfl
   |cons v r ih=>intro o w b;rw[World.setCells,ih];simp
  simp[this]
section
variable{c:RC}{F:mf}
structure zx(t:RT)(r:Int×Bool×RT):Prop where
 M:gf r.1
 s:gL r.2.2.s
 g0:0<=r.2.2.g
 C:r.2.2.g<=t.g
 I:(r.2.2.C.length:Int)+r.2.2.g<=t.C.length+t.g
def zx.r{t a:RT}{r:Int×Bool×RT}(h:zx a r)(b:a.g<=t.g)(c:(a.C.length:Int)+a.g<=t.C.length+t.g):zx t r:= ⟨h.M,h.s,h.g0,Α h.C b,Α h.I c⟩
def I7(o:B.size<=40)(d:∀n,n<B.size->1<=kP B (n:Int))(h:o7 F)(i:c.x<8)(j:c.y<8)(m:gf c.k):∀(p:Nat) (b:Int) (t:RT),gf b->nI t->zx t (tD F c B p b t)
 |0,_,t,_,ht=>⟨uP,ht.s,ht.g0,Ø _,Ø _⟩
 |f+1,b,t,qc,ht=>by
  have M:=ht.g0;have g1:=ht.C;have hl:=ht.I;have N:=ht.M;have G:zx t (0,Ï,{t with g:=0}):=⟨uP,ht.s,Ø _,M,by show(t.C.length:Int)+0<=_;omega⟩;unfold tD;by_cases H:b=B.size
  .rw[if_pos H];exact⟨uP,ht.s,ht.g0,Ø _,Ø _⟩
  rw[if_neg H];by_cases I:(B.size:Int)<b
  .rwa[if_pos I]
  rw[if_neg I];have SL:=qc.1;obtain⟨n,rfl⟩:∃n:Nat,b=n:=⟨b.toNat,Z⟩;have O:n<B.size:=Z
  have k1:=d n O;have P:kP B (n:Int)<=22:=SO _;have u:=SQ P;let⟨Q,T,V,W,X,Y⟩:=I0 _ _ u;have alU:kP B (n:Int)=1->48<=zv B (n:Int)/\zv B (n:Int)<=57:=SZ;generalize kP B (n:Int)=k at*;generalize q':pO k=ro at*;let⟨a,v,w⟩:=ro;simp only at u Q T V W X Y|-;by_cases z:lA t.g t.r.length a v w=Ï
  .rwa[if_pos z]
  rw[if_neg z];have oX:lA t.g t.r.length a v w=Ý:=by cases e:lA t.g t.r.length a v w with
   |true=>rfl
   |false=>exact absurd e z
  let⟨MN,Dc,Fw⟩:=SY oX;have C:gf ((n:Int)+1):=⟨Z,Z⟩;have J:∀{l:List Int},(∀p∈l,gf p)->l.length<=32->nI {t with r:=l,g:=t.g-a}:=λq1 q2=>⟨q1,q2,ht.s,by show 0<=t.g-a;omega,by show t.g-a<=100000;omega,by show(t.C.length:Int)+(t.g-a)<=1000000;omega⟩;have D:∀{l:List Int} {r:Int×Bool×RT},zx {t with r:=l,g:=t.g-a} r->zx t r:=λq=>q.r (by show t.g-a<=t.g;omega) (by show(t.C.length:Int)+(t.g-a)<=_;omega);by_cases p:k=1
  .rw[if_pos p];have:=alU p;subst p;refine D<|I7 o d h i j m f _ _ C<|J (su ht.r<|vV ⟨Z,Z⟩) ?_;simp[iR]at u;simp;omega
  rw[if_neg p];by_cases E:k=17
  .rw[if_pos E];have K:=J (oF<|oF ht.r) (by rw[pd,pd];omega);split
   .exact D<|I7 o d h i j m f _ _ C K
   .exact D<|I7 o d h i j m f _ _ (rv ht.r) K
  rw[if_neg E];by_cases K:k=21
  .rw[if_pos K];exact⟨rv ht.r,ht.s,by show 0<=t.g-a;omega,by show t.g-a<=t.g;omega,by show(t.C.length:Int)+(t.g-a)<=_;omega⟩
  rw[if_neg K];by_cases L:k=22
  .rw[if_pos L];exact⟨uP,ht.s,by show 0<=t.g-a;omega,by show t.g-a<=t.g;omega,by show(t.C.length:Int)+(t.g-a)<=_;omega⟩
  rw[if_neg L];let⟨d1,d2,d3⟩:=SS (t:={t with g:=t.g-a}) h i j m Z Z E u U ⟨ht.r,ht.I,ht.s,by show 0<=t.g-a;omega,by show t.g-a<=100000;omega,by show(t.C.length:Int)+(t.g-a)<=1000000;omega⟩ N Dc Fw;exact(I7 o d h i j m f _ _ C d1).r (Α d2<|by show t.g-a<=t.g;omega) d3
def u_{s:St}{a:List (Nat×Int)}(d:o7 F)(b:gL s)(e:c.x<8)(f:c.y<8)(h:gf c.k)(i:0<=c.g)(j:c.g<=100000)(l:(a.length:Int)+c.g<=1000000):zx ⟨[],s,a,c.g⟩ (oG F c s a):= I7 (b.I c.y).1 (λn m=>SV b c.y m) d e f h _ _ _ uP ⟨ft,ft,b,i,j,l⟩
end
def alV:(À.underlying 144).map ľ=Ã Ý:=fw
def w_:(À.info? 144).map (λi=>(i.size,i.zero.map (·.cells.size)))=Ã (145,Ã 145):=fw
def y_(h:(P.info? e).map (λi=>(i.size,i.zero.map (·.cells.size)))=Ã (n,Ã m)):∃i z,P.info? e=Ã i/\i.size=n/\i.zero=Ã z/\z.cells.size=m:=by let⟨i,a,h⟩:=Ì.1 h;simp only[Prod.mk.injEq,Ì]at h;let⟨b,z,c,d⟩:=h;exact⟨i,z,a,b,c,d⟩
def S4(s:St){lv:Ç}(b:lv.oneCell'=Ý):∀v∈je s lv,v.oneCell'=Ý:=λv c=>by
 obtain⟨i,a,rfl⟩:=List.getElem_of_mem c;rw[mK]at a;have:=IV s lv a;rw[Ñ (by rwa[mK])]at this;injection this with this;rw[this];unfold rp pM;repeat' split
 all_goals first|exact b|rfl
def S5{t:Tmp}{d:TypeDesc}(h:s.results=#[.cell t T])(a:q.getD t ĉ=Å (Ã ⟨b,0,Ä⟩))(c:w.rangeAt b 0 l)(e:P.underlying T=Ã d)(f:d.isRow=Ý)(g:(P.info? T).map (·.size)=Ã l.length): (aJ s q).run P w=aA (ė l.toArray) w:=by rw[Ĺ]at a;simp only[aJ,h];simp[a,asAddr,ν w b 0 T l d c e f g]
def S6:(À.underlying 252).map ľ=Ã Ý:=fw
def S7:(À.info? 252).map (·.size)=Ã 3:=fw
def alW{e:Array Ů}{f:List Ů}{a:ë}(i:o.guard=Ä)(d:ú)(x y:Ź)(j:o.op=.store d x y) (b:Nat) (c:List Ç) (k:a.eval x=Å (Ã ⟨b,0,Ä⟩)) (l:a.eval y=ė c.toArray) (m:w.there b 0 c.toArray.size) (n:(P.info? d).map (·.size)=Ã c.toArray.size) (p:c.toArray.all (·.oneCell')=Ý) (h:∀g,g=w.setCells b 0 c->bq P e vJ f (a.put o.dst ĉ) g):bq P e vJ (o::f) a w:= Ŋ i d x y j b 0 c.toArray k l m n p<|h _ U
def tE(F:mf)(c:RC)(s:St)(a:List (Nat×Int)):Db:=
 ⟨c.g-(oG F c s a).2.2.g,(oG F c s a).2.1,(oG F c s a).1,if(oG F c s a).2.1 then(oG F c s a).2.2.s else s,if(oG F c s a).2.1 then(oG F c s a).2.2.C else a⟩
section
variable{E:iW}{c:RC}{lv:Ç}{s:St}{f:List (Nat×Int)}{F:mf}
def z_(k:fg (λ_=>False) w u)(t:Tr E i (Ê Ä 0 0) lv n u x v f.length W)(o:w.heap.size<=i)(r:R E i c x v zQ s f W):iy E lv n w s f W v:=by
 refine⟨r.C,r.M,?_,λj q=>(t.l j q).imp id λe=>ï k.M e,λb d g h m=>t.C b d g (ik h k λ_ _=>id) m⟩;refine(k.S λ_ _=>Ĥ).C t.r ?_;rintro a p (e|e|e|e)
 .exact Û e
 .omega
 .cases e
 .exact Ü e
def iy.N{Y:Nat->Prop}(r:iy E lv n w s f W v)(k:fg Y W jX)(m:∀i,Y i->w.heap.size<=i)(o:∀i d,Y i->W.heap[i]?≠Ã (Ð d 257 (0,0)))(p:¬Y E.r):iy E lv n w s f jX v:=by
 have e:∀{a b c},W.ownsRow 0 257 2 a b c->jX.ownsRow 0 257 2 a b c:=λ{a b c} q=>ik q k λj t y=>by let⟨d,u⟩:=lG q t;exact o j d y u
 exact⟨r.r.I k p,e r.I,r.C.C k λi x y=>absurd (m i y) Z,r.l,λa b c g h=>⟨e (r.M a b c g h).1,(r.M a b c g h).2⟩⟩
def iy.pI{a:St}{c:List (Nat×Int)}(ok:E.Ok)(m:w.ownsRow 0 257 2 lv c.length (kn c))(r:iy E lv c.length w s f W v):iy E lv c.length w a c (W.setCells E.r 0<|je a lv) lv:=by have k:=I6 (b:=E.r) (je a lv) 0 W<|fl.G r.r ok.C;have l:∀{d e g},W.ownsRow 0 257 2 d e g->(W.setCells E.r 0<|je a lv).ownsRow 0 257 2 d e g:=λ{d e g} q=>ik q k λj n y=>jE q r.r ok.r.symm (by rw[n,y]);have o:=MP (T:=E.T) (b:=E.r) (je a lv) [] E.C W (je s v) (by rw[mK,mK]) (by have h:=r.r;unfold iD at h;simpa using h);refine⟨by unfold iD;simpa using o,l (r.M _ _ _ m λ_=>ß _).1,r.C.C k λi _ q=>Û q,λj q=>Û q,λd e g p h=>⟨l (r.M d e g p h).1,h⟩⟩
def A_(ok:E.Ok)(n5:0<=c.d)(hd:c.d<=4)(hF:c.d<4->tC F (c.d+1))(hI:o7 F)(V:iD E.r E.T E.C s lv w)(S8:w.ownsRow 0 257 2 lv f.length (kn f))(hr:iN w)(hs:gL s)(hx:c.x<8)(hy:c.y<8)(I3:gf c.k)(rR:0<=c.g)(sr:c.g<=100000)(hlen:(f.length:Int)+c.g<=1000000): Ô À 173 #[Å<|Ã ⟨E.r,0,Ä⟩,Â Ë c.x,Â Ë c.y,Â Æ c.g,Â Æ c.k,Â Ë c.d] w λe a=>
  e=È (ė #[Â Æ (tE F c s f).r,Ò (tE F c s f).C,Â Æ (tE F c s f).I])/\∃v,iy E lv f.length w (tE F c s f).s (tE F c s f).M a v:=by
 let⟨dd,A',B_⟩:=Ì.1 alV;let⟨i0,z0,I8,jx,I9,se⟩:=y_ w_;have MQ:=S4 s (lv:=lv) (by obtain⟨a,u,rfl⟩:=jl S8;rfl);have gH:=fl.M V;have B':(À.info? 144).map (·.size)=Ã (je s lv).length:=by rw[I8,mK];simp[jx]
 have k0:=fg.gI (λ_=>False) w #[Â Æ 0,Ò Ï,Â Æ 0] 252;have QJ:(w.alloc<|Ð #[Â Æ 0,Ò Ï,Â Æ 0] 252).rangeAt E.r 0 (je s lv):=fl.Y<|V.I k0 id;have h:=fi<|Á A'<|Á B_<|Á B'<|Á QJ<|Á I8<|Á I9<|Á (jx.trans (mK s lv).symm)<|Á (se.trans (mK s lv).symm) MQ;have H:=fi<|Á V<|Á S8<|Á hr<|Á hF<|Á hI hs;clear A' B_ I8 jx I9 se MQ B' QJ V S8 hr hF hI hs k0;obtain⟨a,b,t,j5⟩:∃a b t,oG F c s f=(a,b,t):=⟨_,_,_,U⟩;have jd:tE F c s f=⟨c.g-t.g,b,a,if b then t.s else s,if b then t.C else f⟩:=by unfold tE;rw[j5]
 rw[jd];have MR:=u_ H.out.2.2.2.2.1 H.out.2.2.2.2.2 hx hy I3 rR sr hlen;rw[j5]at MR;have tg0:0<=t.g:=MR.g0;have tg1:t.g<=c.g:=MR.C;clear MR;cases b with
 |true=>
  go_enter aK,ah;go_wp2_with (first
   |(with_reducible refine Ĝ U 144 _ U E.r 0 U (je s lv) dd h.out.2.2.2.1 h.out.1 h.out.2.1 h.out.2.2.1 ?_)
   |(with_reducible refine S3 U U 144 U 13 U _ _ U U h.out.2.2.2.2.1 h.out.2.2.2.2.2.1 (je s lv) h.out.2.2.2.2.2.2.1 h.out.2.2.2.2.2.2.2.1 U U h.out.2.2.2.2.2.2.2.2 ?_;intro l G z I))
  have J:l.heap.size=w.heap.size+1+1:=by simpa using I
  have K:fl (w.heap.size+1) (je s lv) 144 l:=by simpa using G
  have n:fg (λ_=>False) w (l.alloc<|Ð #[Å<|Ã ⟨E.r,0,Ä⟩,Â Ë c.x,Â Ë c.y,Â Æ c.k,Â Ë c.d,Â Æ c.g,Ê Ä 0 0] 282):=((fg.gI _ _ _ _).fj z).fj<|fg.gI _ _ _ _;have L:=fg.gI (λ_=>False) l #[Å<|Ã ⟨E.r,0,Ä⟩,Â Ë c.x,Â Ë c.y,Â Æ c.k,Â Ë c.d,Â Æ c.g,Ê Ä 0 0] 282;have M:R E (w.heap.size+1+1) c (Ê Ä 0 0) lv [] s f (l.alloc<|Ð #[Å<|Ã ⟨E.r,0,Ä⟩,Â Ë c.x,Â Ë c.y,Â Æ c.k,Â Ë c.d,Â Æ c.g,Ê Ä 0 0] 282):= ⟨by rw[<-J];exact fl.N l (mL E.r c<|Ê Ä 0 0) 282,ć _ _ _ _,H.out.1.I n id,ik H.out.2.1 n λ_ _=>id⟩;have N:fl w.heap.size [Â Æ 0,Ò Ï,Â Æ 0] 252 l:=(fl.N w [Â Æ 0,Ò Ï,Â Æ 0] 252).I z id;have S:=t_ (F:=F) ok M n5 hd H.out.2.2.2.1 H.out.2.2.2.2.1 (H.out.2.2.1.r n id) H.out.2.2.2.2.2 hx hy I3 rR sr hlen;rw[j5]at S;go_at_call 191;apply S.mono;clear S;rintro e W ⟨rfl,ML,MS,o,B⟩;have O:=z_ n B Z o;have C:∀{j:Nat} {D:List Ç} {T:ú},fl j D T l->w.heap.size<=j->fl j D T W:=λ{j D T} hB hj=>by
   refine(hB.I L id).I B.r ?_;have:=hB.M;rintro(q|q|q|q)
   .omega
   .omega
   .cases q
   .have:=(H.out.2.1.lt j q).2;omega
  have m:=C N<|ß _;have P:=C K Z;have e0:=m.r 0 _ U;have e1:=m.r 1 _ U;have e2:=m.r 2 _ U;have f0:=m.C 0;have f1:=m.C 1;have f2:=m.C 2;have g5:W.cell? ⟨w.heap.size+1+1,5,Ä⟩=Ã (Â Æ t.g):=o.r.r 5 _ U;have Zf:=o.r.M;have r:=fi<|Á O<|Á o<|Á m P;clear O o B m P C M N K n L G z I J;go_wp2_with fail;let⟨d2,na,sd⟩:=Ì.1 S6;have u:=((r.out.2.2.1.gh 0<|Â Æ<|c.g-t.g).gh 1<|Ò Ý).gh 2<|Â Æ a;apply õ (S5 U U (fl.Y (tl:=[]) (vs:=[Â Æ<|c.g-t.g,Ò Ý,Â Æ a]) u) na sd S7) U;refine⟨U,MS,r.out.1.N (Y:=λk=>k=w.heap.size) (((fg.I (X:=λk=>k=w.heap.size) (p:=⟨w.heap.size,0,Ä⟩) U _).fj<|fg.I (X:=λk=>k=w.heap.size) (p:=⟨w.heap.size,1,Ä⟩) U _).fj<|fg.I (X:=λk=>k=w.heap.size) (p:=⟨w.heap.size,2,Ä⟩) U _) (λi q=>by omega) (λi cur q Q=> ?_) Z⟩;have h0:W.heap[w.heap.size]?=_:=r.out.2.2.1;rw[q,h0]at Q;cases Q
 |false=>
  go_enter aK,ah;go_wp2_with (first
   |(with_reducible refine Ĝ U 144 _ U E.r 0 U (je s lv) dd h.out.2.2.2.1 h.out.1 h.out.2.1 h.out.2.2.1 ?_)
   |(with_reducible refine S3 U U 144 U 13 U _ _ U U h.out.2.2.2.2.1 h.out.2.2.2.2.2.1 (je s lv) h.out.2.2.2.2.2.2.1 h.out.2.2.2.2.2.2.2.1 U U h.out.2.2.2.2.2.2.2.2 ?_;intro l G z I))
  have J:l.heap.size=w.heap.size+1+1:=by simpa using I
  have K:fl (w.heap.size+1) (je s lv) 144 l:=by simpa using G
  have n:fg (λ_=>False) w (l.alloc<|Ð #[Å<|Ã ⟨E.r,0,Ä⟩,Â Ë c.x,Â Ë c.y,Â Æ c.k,Â Ë c.d,Â Æ c.g,Ê Ä 0 0] 282):=((fg.gI _ _ _ _).fj z).fj<|fg.gI _ _ _ _;have L:=fg.gI (λ_=>False) l #[Å<|Ã ⟨E.r,0,Ä⟩,Â Ë c.x,Â Ë c.y,Â Æ c.k,Â Ë c.d,Â Æ c.g,Ê Ä 0 0] 282;have M:R E (w.heap.size+1+1) c (Ê Ä 0 0) lv [] s f (l.alloc<|Ð #[Å<|Ã ⟨E.r,0,Ä⟩,Â Ë c.x,Â Ë c.y,Â Æ c.k,Â Ë c.d,Â Æ c.g,Ê Ä 0 0] 282):= ⟨by rw[<-J];exact fl.N l (mL E.r c<|Ê Ä 0 0) 282,ć _ _ _ _,H.out.1.I n id,ik H.out.2.1 n λ_ _=>id⟩;have N:fl w.heap.size [Â Æ 0,Ò Ï,Â Æ 0] 252 l:=(fl.N w [Â Æ 0,Ò Ï,Â Æ 0] 252).I z id;have S:=t_ (F:=F) ok M n5 hd H.out.2.2.2.1 H.out.2.2.2.2.1 (H.out.2.2.1.r n id) H.out.2.2.2.2.2 hx hy I3 rR sr hlen;rw[j5]at S;go_at_call 191;apply S.mono;clear S;rintro e W ⟨rfl,ML,MS,o,B⟩;have O:=z_ n B Z o;have C:∀{j:Nat} {D:List Ç} {T:ú},fl j D T l->w.heap.size<=j->fl j D T W:=λ{j D T} hB hj=>by
   refine(hB.I L id).I B.r ?_;have:=hB.M;rintro(q|q|q|q)
   .omega
   .omega
   .cases q
   .have:=(H.out.2.1.lt j q).2;omega
  have m:=C N<|ß _;have P:=C K Z;have e0:=m.r 0 _ U;have e1:=m.r 1 _ U;have e2:=m.r 2 _ U;have f0:=m.C 0;have f1:=m.C 1;have f2:=m.C 2;have g5:W.cell? ⟨w.heap.size+1+1,5,Ä⟩=Ã (Â Æ t.g):=o.r.r 5 _ U;have Zf:=o.r.M;have r:=fi<|Á O<|Á o<|Á m P;clear O o B m P C M N K n L G z I J;have rg:W.rangeAt (w.heap.size+1) 0 (je s lv):=fl.Y (tl:=[]) (by simpa using r.out.2.2.2);have th:W.there E.r 0 (je s lv).toArray.size:=by have:=r.out.1.r;unfold iD at this;exact this.S2<|by simp only[ă,Ó,mK];omega
  have C_:(À.info? 144).map (·.size)=Ã (je s lv).toArray.size:=by rw[h.out.2.2.1];simp
  have qZ:=Ķ h.out.2.2.2.2.2.2.2.2;have HNF:=fi<|fl.G r.out.2.1.C ok.C;have HG:=fi<|Á rg<|Á th<|Á C_ qZ;clear rg th C_ qZ;go_wp2_with (first
   |(with_reducible refine Ĝ U 144 _ U (w.heap.size+1) 0 U (je s lv) dd HG.out.1 h.out.1 h.out.2.1 h.out.2.2.1 ?_)
   |(with_reducible refine alW U 144 _ _ U E.r (je s lv) U U HG.out.2.1 HG.out.2.2.1 HG.out.2.2.2 ?_;intro jX xI;have kb:fg (λk=>k=E.r) W jX:=(by rw[xI];exact I6 _ _ _ HNF.out);have u:=r.out.2.2.1.I kb Z;have p0:=u.r 0 _ U;have p1:=u.r 1 _ U;have p2:=u.r 2 _ U;have y0:=u.C 0;have y1:=u.C 1;have y2:=u.C 2;have S9:=r.out.2.1.r.I kb Z;have p5:jX.cell? ⟨w.heap.size+1+1,5,Ä⟩=Ã (Â Æ t.g):=S9.r 5 _ U;have hl4:=S9.M;have C':=fi u;clear kb u S9;have HW:=fi xI;clear xI))
  let⟨d2,na,sd⟩:=Ì.1 S6;apply õ (S5 U U (fl.Y (tl:=[]) (vs:=[Â Æ<|c.g-t.g,Ò Ï,Â Æ a])<|((C'.out.gh 0<|Â Æ<|c.g-t.g).gh 1<|Ò Ï).gh 2<|Â Æ a) na sd S7) U;have u:iy E lv f.length w s f jX lv:=by rw[HW.out];exact r.out.1.pI ok H.out.2.1
  refine⟨U,lv,u.N (Y:=λk=>k=w.heap.size) (((fg.I (X:=λk=>k=w.heap.size) (p:=⟨w.heap.size,0,Ä⟩) U _).fj<|fg.I (X:=λk=>k=w.heap.size) (p:=⟨w.heap.size,1,Ä⟩) U _).fj<|fg.I (X:=λk=>k=w.heap.size) (p:=⟨w.heap.size,2,Ä⟩) U _) (λi q=>by omega) (λi cur q Q=> ?_) Z⟩;rw[q,C'.out]at Q;cases Q
end
def Fy:Nat->mf
 |0=>λs a _ _ _ _=>⟨0,Ï,0,s,a⟩
 |n+1=>λs a x y g k=>tE (Fy n) ⟨x,y,k,4-(n:Int),g⟩ s a
def alX{F:mf}(d:o7 F){c:RC}{s:St}{a:List (Nat×Int)}(b:gL s)(e:c.x<8)(f:c.y<8)(i:gf c.k)(j:0<=c.g)(l:c.g<=100000)(m:(a.length:Int)+c.g<=1000000):j_ a c.g (tE F c s a):=by
 have h:=u_ d b e f i j l m;have p:=h.g0;have n:=h.C;have o:=h.I;simp only at n o;unfold tE;refine⟨by simp only;omega,by simp only;omega,?_,h.M,?_⟩
 .simp only;split
  .exact h.s
  .exact b
 .simp only;split<;>omega
def Ja:∀n,o7<|Fy n
 |0=>λs a x y g k b _ _ _ d _ _=>⟨Ø _,d,b,uP,by show(a.length:Int)<=a.length+0;omega⟩
 |n+1=>λs a x y g k b d e f h i j=>alX (c:=⟨x,y,k,4-(n:Int),g⟩) (Ja n) b d e f h i j
def D_:∀n,n<=3->tC (Fy<|n+1) (4-(n:Int))
 |0,_=>λE a s t u x y g k w b d f i j l m o p r=>A_ (c:=⟨x,y,k,4-((0:Nat):Int),g⟩) (F:=Fy 0) a (show(0:Int)<=4-((0:Nat):Int) by decide) (show(4:Int)-((0:Nat):Int)<=4 by decide) (λq=>absurd q<|show¬(4:Int)-((0:Nat):Int)<4 by decide) (Ja 0) b d f i j l p m o r
 |n+1,h=>λE a s t u x y g k w b d f i j l m o p r=>by
  have q:=D_ n Z;have e:(4:Int)-((n+1:Nat):Int)+1=4-(n:Int):=Z
  exact A_ a (by show 0<=4-((n+1:Nat):Int);omega) (by show 4-((n+1:Nat):Int)<=4;omega) (λ_=>by show tC _ (4-((n+1:Nat):Int)+1);rwa[e]) (Ja<|n+1) b d f i j l p m o r
def gp:mf:=Fy 4
def MU:o7 gp:=Ja 4
def D':tC gp 1:=D_ 3 A
def iD.nZ{tl:List Ç}{s:St}(h:iD b T tl s v w)(k:fg X w u)(a:¬X b):iD b T tl s v u:=fl.I h k a
section
variable{E:iW}{lv:Ç}{w1:É}{s B d:St}{ls f r:List (Nat×Int)}
def iy.fW(a:iD E.r E.T E.C s lv w)(b:w.ownsRow 0 257 2 lv ls.length (kn ls)):iy E lv ls.length w s ls w lv:= ⟨a,b,fg.fW _ _,λ_ q=>Û q,λ_ _ _ c d=>⟨c,d⟩⟩
def iy.fj(h:iy E lv n w B f w1 v)(k:iy E v f.length w1 d r u jQ):iy E lv n w d r u jQ:=by
 refine⟨k.r,k.I,h.C.C k.C ?_,λj q=> ?_,λa b c g m=> ?_⟩
 .rintro i o (e|e)
  .exact Û e
  .exact Ü<|(h.l i e).resolve_right Z
 .rcases k.l j q with e|e
  .exact h.l j e
  .exact Ü<|ï h.C.M e
 .let⟨e,i⟩:=h.M a b c g m;exact k.M a b c e i
def iy.fN(h:iy E lv n w s ls w1 v)(k:fg (λ_=>False) w1 u):iy E lv n w s ls u v:= h.N k (λ_=>Ĥ) (λ_ _=>Ĥ) id
def iy.Y(ok:E.Ok)(h:iy E lv n w s ls w1 v)(i:Nat)(k:iD E.r E.T E.C d v (w1.setCell ⟨E.r,i,Ä⟩ x)):iy E lv n w d ls (w1.setCell ⟨E.r,i,Ä⟩ x) v:=by have e:=fg.I (X:=λk=>k=E.r) (p:=⟨E.r,i,Ä⟩) U x<|Ü<|fl.G h.r ok.C;have f:∀{a b c},w1.ownsRow 0 257 2 a b c->(w1.setCell ⟨E.r,i,Ä⟩ x).ownsRow 0 257 2 a b c:=λ{a b c} q=>ik q e λj o y=>jE q h.r ok.r.symm (by rw[o,y]);exact⟨k,f h.I,h.C.C e λi _ q=>Û q,h.l,λa b c g m=>⟨f (h.M a b c g m).1,(h.M a b c g m).2⟩⟩
def iy.fy(ok:E.Ok)(h:iy E lv n w s ls w1 v)(a:i<8)(x:Int):iy E lv n w (s.fy i x) ls (w1.setCell ⟨E.r,i*18,Ä⟩<|Â Æ x) v:=h.Y ok _<|h.r.zr a x
def iy.MH(ok:E.Ok)(h:iy E lv n w s ls w1 v)(a:i<8)(x:ByteArray):iy E lv n w (s.C i x) ls (w1.setCell ⟨E.r,i*18+1,Ä⟩<|Í x) v:=h.Y ok _<|h.r.akO a x
end
def xK(s:St)(x y:Nat)(n:Int):Bool×St:=
 if(s x).fy<n+10 then(Ï,s)else(Ý,(s.fy x<|(s x).fy-(n+10)).fy y<|wu<|(s.fy x ((s x).fy-(n+10)) y).fy+n)
section
variable{E:iW}{lv:Ç}{s:St}{ls:List (Nat×Int)}
def alY(ok:E.Ok)(c:iD E.r E.T E.C s lv w)(g:w.ownsRow 0 257 2 lv ls.length (kn ls))(f:gL s)(x y:Nat)(n:Int)(a:x<8)(d:y<8)(h:0<=n)(i:n<=1000000): Ô À 168 #[Å<|Ã ⟨E.r,0,Ä⟩,Â Ë x,Â Ë y,Â Æ n] w λe m=>e=È (Ò (xK s x y n).1)/\iy E lv ls.length w (xK s x y n).2 ls m lv:=by
 have j:=fl.M c;have k:=c.fy a;have l:=fl.C c<|x*18;have o:=(f.fy x).1;have p:=(f.fy x).2;have q:∀m,((w.drewN m).setCell ⟨E.r,x*18,Ä⟩<|Â Æ<|(s x).fy-(n+10)).cell? ⟨E.r,y*18,Ä⟩=Ã (Â Æ (s.fy x ((s x).fy-(n+10)) y).fy):=λm=>((c.nZ (fg.iQ (λ_=>False) w m) id).zr a _).fy d;have r:∀m,((w.drewN m).setCell ⟨E.r,x*18,Ä⟩<|Â Æ<|(s x).fy-(n+10)).frozen? ⟨E.r,y*18,Ä⟩=Ï:=λm=>fl.C ((c.nZ (fg.iQ (λ_=>False) w m) id).zr a _) _;have t:=(c.zr a<|(s x).fy-(n+10)).fy d;have u:=fl.C (c.zr a<|(s x).fy-(n+10))<|y*18;have H:=fi<|iy.fW c g;unfold xK;by_cases e:(s x).fy<n+10
 .rw[if_pos e];generalize(s x).fy=b at*;go_enter aL,ai;go_wp2_with fail;go_ret;exact⟨U,H.out⟩
 .rw[if_neg e];generalize(s.fy x ((s x).fy-(n+10)) y).fy=b2 at*;generalize(s x).fy=b at*;go_enter aL,ai;go_wp2_with fail;go_region;go_wp2_with fail;go_region;go_wp2_with fail;go_ret;refine⟨U,?_⟩;first
   |exact((H.out.fy ok a _).fy ok d _).fN<|fg.iQ _ _ _
   |exact(((H.out.fN<|fg.iQ _ _ _).fy ok a _).fy ok d _)
   |exact(((H.out.fN<|fg.fU _ _).fy ok a _).fN<|fg.fU _ _).fy ok d _
   |exact((H.out.fy ok a _).fy ok d _).still<|(Keep.drew _ _).trans<|Keep.drew _ _
end
def alZ(a:kl w)(p:Č)(n:Nat):kl (w.freeze p n):=by
 unfold ĕ;split
 .exact a
 .intro i o h;simp only[Ú]at h;split at h
  .cases b:w.heap[i]? with
   |none=>rw[b]at h;cases h
   |some d=>
    have:=a _ _ b;rw[b]at h;cases d with
    |cells c t z=>simp only[ì,ê]at h;subst h;exact λx=>x
    |_=>exact absurd trivial this
  .exact a i o h
def E_(a:sj m w)(p:Č)(n:Nat):sj m (w.freeze p n):=by
 unfold ĕ;split
 .exact a
 .intro i c T f e h b;simp only[Ú]at h;split at h
  .cases d:w.heap[i]? with
   |none=>rw[d]at h;cases h
   |some g=>
    rw[d]at h;cases g with
    |cells j t z=>
     simp only[ì,ê,Į]at h;rw[<-h.1];rw[<-h.2.1]at b;exact a _ _ _ _ e d b
    |_=>cases h
  .exact a i c T f e h b
def al0{w w1:World}{g:Nat}{cur Y:Array Value}{e:TypeId}{z:Nat×Nat}(hw:fg (λ_=>False) w w1)(hg:w1.heap[g]?=some (.cells cur e z))(atz:w.heap.size<=g)(he:me e=false:=by decide):fg (λ_=>False) w (w1.setRow g Y):=by
 refine⟨by simpa using hw.M,λk hk _=>(Ġ w1 g k Y Z).trans<|hw.N k hk id,λal i o ho=> ?_,λm a i c T fr hm h hT=> ?_⟩;rotate_left
 .by_cases hi:i=g
  .subst hi;rw[Ĩ w1 i cur Y e z hg]at h;cases h;rw[he]at hT;cases hT
  .rw[Ġ w1 g i Y hi]at h;exact hw.Y m a i c T fr hm h hT
 by_cases hi:i=g
 .subst hi;rw[Ĩ w1 i cur Y e z hg]at ho;cases ho;exact λx=>x
 .rw[Ġ w1 g i Y hi]at ho;exact hw.gX al i o ho
def al1(b:fg (λ_=>False) w u)(e:w.heap.size<=p.block):fg (λ_=>False) w (u.freeze p n):=by
 refine⟨?_,λk c _=> ?_,λd=>alZ (b.gX d) p n,λm a=>E_ (b.Y m a) p n⟩
 .unfold ĕ;split
  .exact b.M
  .simpa using b.M
 .unfold ĕ;split
  .exact b.N k c id
  .simp only[Ú];rw[if_neg Z];exact b.N k c id
def Ta:(À.info? 5).map (λi=>(i.zero,i.size,i.bytes))=Ã (Ã<|Â bx 0,1,1):=fw
def al2(n:Nat)(e:n<=1000000):∃M:Array Ç,M.size=n/\∀W:É,(Instr.makeSlice 107 (Â Ë (n:Int))<|Â Ë (n:Int)).run À W=aA (Ê (Ã ⟨W.heap.size,0,Ä⟩) n n) (W.alloc<|Ð M 5):=by let⟨i,a,b,c,d⟩:=ò Ta;refine⟨madeCells (Â bx 0).cells<|(n:Int).toNat*i.size,by rw[size_madeCells,c];simp,λW=> ?_⟩;simpa using run_make W 107 5 i (Â bx 0) Ă a b Ë Ë n n Z Z (by rw[d];omega) Z
def al3{M:Array Ç}(b:M.size=B.size)(c:W.heap[i]?=Ã (Ð M 5 (0,0))): (aj #[107,9] 3 #[Ê (Ã ⟨i,0,Ä⟩) B.size B.size,Í B]).run À W=aA (goInt B.size) (W.setRow i (û B.data.toList).toArray):=by let⟨a,d,_,e,_⟩:=ò Ta;have h:=Lib.run_copy_row_string W 107 9 3 5 i 0 B.size B.size B M 5 Ă (by rw[d];simp[e]) c (ß _) Z;simpa[List.drop_of_length_le,b]using h
def al4(d:B.size≠0)(m:B.size<=1000000)(c:W.heap[i]?=Ã (Ð (û B.data.toList).toArray 5 (0,0))): (ş #[177,3] 9 #[Å<|Ã ⟨i,0,Ä⟩,Â Ë (B.size:Int)]).run À W=aA (Í B) (W.freeze ⟨i,0,Ä⟩ B.size):=by
 let⟨a,f,_,k,_⟩:=ò Ta;have b:=Lib.size_eq B;have l:(û B.data.toList).toArray.size=B.size:=by rw[ă,ŧ,<-b]
 have h:=ņ W 177 3 9 5 ŵ (by simp[Program.cellsOf,f,k]) i B.size (by unfold Β;rw[c];simp only[l]) B.data.toList (by intro e;rw[e]at b;exact d b) Z Z (λj x e=>Lib.cells_of_row c _ j _<|by rw[List.take_of_length_le<|ß _];simp[û,e]);rwa[<-b]at h
def al5(s:ByteArray)(a:s.size<=1000000)(w:É):Ô À 196 #[Í s] w λe c=>e=È (Í s)/\fg (λ_=>False) w c:=by
 by_cases b:s.size=0
 .have d:=bM<|Array.eq_empty_of_size_eq_zero b;subst d;go_enter aN,ak;go_wp2;go_ret;exact⟨U,fg.fW _ _⟩
 .let⟨M,d,mk⟩:=al2 s.size a;have g:=al3 d<|ð w<|Ð M 5;have h:=al4 b a<|Ĩ (w.alloc<|Ð M 5) w.heap.size M (û s.data.toList).toArray 5 (0,0)<|ð w _;have f:=fi (al1 (p:=⟨w.heap.size,0,Ä⟩) (n:=s.size) (al0 (Y:=(û s.data.toList).toArray) (fg.gI (λ_=>False) w M 5) (ð w _)<|ß _)<|ß _);generalize(û s.data.toList).toArray=Y at*;go_enter aN,ak;go_wp2;go_ret;exact⟨U,f.out⟩
def al6(s:ByteArray)(a:s.size<=1000000)(w:É):Ô À 186 #[Í s] w λe b=>e=È (Í s)/\fg (λ_=>False) w b:=by go_enter Tryz.func186,Tryz.ntmps186;go_wp2_with (go_at_call 196;refine(al5 s a _).mono ?_;rintro e d ⟨rfl,c⟩);go_ret;exact⟨U,c⟩
def xL(s:St)(x:Nat)(p:ByteArray):Bool×St:=
 if(s x).fy<20 then(Ï,s)else(Ý,(s.fy x<|(s x).fy-20).C x p)
def zy{t u:Tmp}{cs:List Ç}{d:TypeDesc}(h:s.results=#[.cell t T,.tmp u])(a:q.getD t ĉ=Å (Ã ⟨b,0,Ä⟩))(c:w.rangeAt b 0 cs)(e:P.underlying T=Ã d)(f:d.isRow=Ý)(g:(P.info? T).map (·.size)=Ã cs.length): (aJ s q).run P w=aA (é #[ė cs.toArray,q.getD u ĉ]) w:=by have i:=ν w b 0 T cs d c e f g;rw[Ĺ]at a;simp only[aJ,h];simp[a,asAddr,i]
def Jb:(À.underlying 246).map ľ=Ã Ý:=fw
def Df:(À.info? 246).map (·.size)=Ã 2:=fw
section
variable{E:iW}{lv:Ç}{s:St}{ls:List (Nat×Int)}
def al7(ok:E.Ok)(a:iD E.r E.T E.C s lv w)(h:w.ownsRow 0 257 2 lv ls.length (kn ls))(f:gL s)(x:Nat)(p:ByteArray)(c:x<8)(i:p.size<=1000000): Ô À 169 #[Å<|Ã ⟨E.r,0,Ä⟩,Â Ë x,Í p] w λe d=>e=È (Ò (xL s x p).1)/\iy E lv ls.length w (xL s x p).2 ls d lv:=by
 have k:=fl.M a;have l:=a.fy c;have m:=fl.C a<|x*18;have n:=(f.fy x).1;have o:=(f.fy x).2;have q:(0:Int)<=(x:Int):=Z
 have r:(x:Int)<8:=Z
 have H:=fi<|iy.fW a h;unfold xL;by_cases g:(s x).fy<20
 .rw[if_pos g];generalize(s x).fy=b at*;go_enter aO,ar;go_wp2_with fail;go_ret;exact⟨U,H.out⟩
 .rw[if_neg g];generalize(s x).fy=b at*;go_enter aO,ar;go_wp2_with fail;go_region;go_wp2_with fail;go_region_held3 (λ_=>True) (trivial) (first
    |(go_at_call 186;refine(al6 p i _).mono ?_;rintro e t ⟨rfl,j⟩;dsimp only;have d:=((H.out.fy ok c (b-20)).fN (fg.iQ (λ_=>False) _ 2)).fN j;have u:=d.r.MH c;have v:=fl.C d.r (x*18+1)))
  go_wp2_with fail
  go_ret;exact⟨U,d.MH ok c p⟩
def zz(s:St)(ls:List (Nat×Int))(x y:Nat)(n k:Int):(Int×Bool)×Bool×St×List (Nat×Int):=
 if n<10\/400<n\/(s x).fy<n then((0,Ï),Ï,s,ls)
 else(((gp (s.fy x<|(s x).fy-n) ls x y (n-10) k).r+10,(gp (s.fy x<|(s x).fy-n) ls x y (n-10) k).C),Ý,
  (gp (s.fy x ((s x).fy-n)) ls x y (n-10) k).s.fy x (wu (((gp (s.fy x ((s x).fy-n)) ls x y (n-10) k).s x).fy+(n-((gp (s.fy x ((s x).fy-n)) ls x y (n-10) k).r+10)))),(gp (s.fy x ((s x).fy-n)) ls x y (n-10) k).M)
def al8(a:iD E.r E.T E.C s lv w)(c:w.ownsRow 0 257 2 lv ls.length (kn ls))(x y:Nat)(n k:Int)(d:x<8)(j:0<=n)(l:n<10\/400<n\/(s x).fy<n): Ô À 170 #[Å<|Ã ⟨E.r,0,Ä⟩,Â Ë x,Â Ë y,Â Æ n,Â Æ k] w λe H=>e=È (é #[ė #[Â Æ 0,Ò Ï],Ò Ï])/\iy E lv ls.length w s ls H lv:=by
 have m:=fl.M a;have o:=a.fy d;have p:(0:Int)<=(x:Int):=Z
 have q:(x:Int)<8:=Z
 let⟨r,f,g⟩:=Ì.1 Jb;have H:=fi<|Á (iy.fW a c)<|Á f g;generalize(s x).fy=b at*;by_cases h:n<10
 .go_enter ő,Ň;go_wp2_with fail;have e:=fg.gI (λ_=>False) w #[Â Æ 0,Ò Ï] 246;apply õ (zy U U (fl.Y (vs:=[Â Æ 0,Ò Ï])<|fl.N w [Â Æ 0,Ò Ï] 246) H.out.2.1 H.out.2.2 Df) U;exact⟨U,H.out.1.fN e⟩
 .have t:=decide_eq_false h;by_cases i:400<n
  .go_enter ő,Ň;go_wp2_with fail;have e:=fg.gI (λ_=>False) w #[Â Æ 0,Ò Ï] 246;apply õ (zy U U (fl.Y (vs:=[Â Æ 0,Ò Ï])<|fl.N w [Â Æ 0,Ò Ï] 246) H.out.2.1 H.out.2.2 Df) U;exact⟨U,H.out.1.fN e⟩
  .have u:=decide_eq_false i;have v:b<n:=Z
   go_enter ő,Ň;go_wp2_with fail;have e:=fg.gI (λ_=>False) w #[Â Æ 0,Ò Ï] 246;apply õ (zy U U (fl.Y (vs:=[Â Æ 0,Ò Ï])<|fl.N w [Â Æ 0,Ò Ï] 246) H.out.2.1 H.out.2.2 Df) U;exact⟨U,H.out.1.fN e⟩
def al9(ok:E.Ok)(a:iD E.r E.T E.C s lv w)(l:w.ownsRow 0 257 2 lv ls.length (kn ls))(m:iN w)(g:gL s)(x y:Nat)(n k:Int)(c:x<8)(B:y<8)(D:gf k)(IA:10<=n)(uL:n<=400)(atA:n<=(s x).fy)(hlen:(ls.length:Int)+n<=1000000)(r:Db)(o:r=gp (s.fy x<|(s x).fy-n) ls x y (n-10) k): Ô À 170 #[Å<|Ã ⟨E.r,0,Ä⟩,Â Ë x,Â Ë y,Â Æ n,Â Æ k] w λe t=>e=È (é #[ė #[Â Æ<|r.r+10,Ò r.C],Ò Ý])/\∃u,iy E lv ls.length w (r.s.fy x<|wu<|(r.s x).fy+(n-(r.r+10))) r.M t u:=by
 have gH:=fl.M a;have d1:=a.fy c;have f1:=fl.C a<|x*18;have hx0:(0:Int)<=(x:Int):=Z
 have AO:(x:Int)<8:=Z
 have b0:=(g.fy x).1;have b1:=(g.fy x).2;have v:gL (s.fy x<|(s x).fy-n):=g.r x ⟨Z,Z⟩;have h:=MU _ ls x y (n-10) k v c B D Z Z Z;have F:=iy.fW a l;have C:∀W j,iy E lv ls.length w (s.fy x<|(s x).fy-n) ls W j->iN W->Ô À 173 #[Å<|Ã ⟨E.r,0,Ä⟩,Â Ë x,Â Ë y,Â Æ<|n-10,Â Æ k,Â Ë 1] W λe t=>e=È (ė #[Â Æ r.r,Ò r.C,Â Æ r.I])/\∃u,iy E j ls.length W r.s r.M t u:=λW j G P=>by rw[o];exact D' E ok _ j ls x y (n-10) k W G.r G.I P v c B Z Z D Z
 rw[<-o]at h;have u0:=h.r;have u1:=h.C;let⟨d2,I,J⟩:=Ì.1 Jb;have K:∀i,iN (w.setCell ⟨E.r,i,Ä⟩<|Â Æ<|(s x).fy-n):=λi=>m.r (fg.I (X:=λk=>k=E.r) U _) λq=>m.C a ok.N q.symm;have H:=fi<|Á F<|Á C<|Á K<|Á I<|Á J l;clear a l m g v h F C K I J o;generalize(s x).fy=b at*;have e1:decide (n<10)=Ï:=decide_eq_false Z;have e2:decide (400<n)=Ï:=decide_eq_false Z;have e3:decide (b<n)=Ï:=decide_eq_false Z;generalize Q:(r.s x).fy=b2;go_enter ő,Ň;go_wp2_with fail;have L:=(H.out.1.fy ok c<|b-n).fN (fg.gI (λ_=>False) _ #[Â Æ 0,Ò Ï] 246);go_at_call 173;refine(H.out.2.1 _ _ L<|(H.out.2.2.1 _).r (fg.gI (λ_=>False) _ _ _) id).mono ?_;rintro e V ⟨rfl,Y,f⟩;have d:fl w.heap.size [Â Æ 0,Ò Ï] 246 V:=by
  have z:fl w.heap.size [Â Æ 0,Ò Ï] 246 ((w.setCell ⟨E.r,x*18,Ä⟩<|Â Æ<|b-n).alloc<|Ð #[Â Æ 0,Ò Ï] 246):=by have:=fl.N (w.setCell ⟨E.r,x*18,Ä⟩<|Â Æ<|b-n) [Â Æ 0,Ò Ï] 246;simpa using this
  refine z.I f.C ?_;rintro(q|q)
  .omega
  .have:=(H.out.2.2.2.2.2.lt _ q).2;omega
 have m1:=f.r.fy c;have z1:=fl.C f.r<|x*18;have CC:=fl.M f.r;have hl2:=d.M;have c0:=d.r 0 _ U;have c1:=d.r 1 _ U;have y0:=d.C 0;have y1:=d.C 1;have M:=fi<|Á (L.fj f) d;rw[Q]at m1;go_wp2_with fail;go_region;go_wp2_with fail;have q1:=M.out.1.fy ok c<|wu<|b2+(n-(r.r+10));have N:=M.out.2.I (fg.I (X:=λk=>k=E.r) (p:=⟨E.r,x*18,Ä⟩) U<|Â Æ<|wu<|b2+(n-(r.r+10))) Z;have q2:=q1.N ((fg.I (X:=λk=>k=w.heap.size) (p:=⟨w.heap.size,0,Ä⟩) U<|Â Æ<|r.r+10).fj<|fg.I (X:=λk=>k=w.heap.size) (p:=⟨w.heap.size,1,Ä⟩) U<|Ò r.C) (λi q=>by omega) (λi cur q O=>by have z:=N;rw[q,z]at O;cases O) Z;have z:∀W:É,∀O,fg (λ_=>False) W ((W.alloc<|Ð O 252).drew):=λW O=>(fg.gI _ _ _ _).fj<|fg.fU _ _;have hb:=(((N.gh 0<|Â Æ<|r.r+10).gh 1<|Ò r.C)).I (z _ #[Â Æ<|r.r+10,Ò r.C,Â Æ r.I]) id;apply õ (zy U U (fl.Y (vs:=[Â Æ<|r.r+10,Ò r.C]) hb) H.out.2.2.2.1 H.out.2.2.2.2.1 Df) U;exact⟨U,Y,q2.fN<|z _ _⟩
end
structure Tx where
 x:Nat
 y:Nat
 n:Int
 k:Int
 r:Int
 C:ByteArray
structure lV(a:Nat)(t:Tx)(w:É):Prop where
 b:∃cs fz,w.heap[a]?=Ã (Ð cs 200 fz)
 r:w.cell? ⟨a,0,Ä⟩=Ã (Â Ë t.x)
 C:w.cell? ⟨a,1,Ä⟩=Ã (Â Ë t.y)
 I:w.cell? ⟨a,2,Ä⟩=Ã (Â Ë t.n)
 M:w.cell? ⟨a,3,Ä⟩=Ã (Â Ë t.k)
 Y:w.cell? ⟨a,4,Ä⟩=Ã (Â Ë t.r)
 N:w.cell? ⟨a,5,Ä⟩=Ã (Í t.C)
structure Tx.Ok(t:Tx):Prop where
 x:t.x<8
 y:t.y<8
 I:0<=t.n
 M:t.n<1000000
 r:0<=t.k
 C:t.k<1000000
 N:t.C.size<=40/\∀c∈t.C.data.toList,xF c=Ý
def lV.G{t:Tx}(h:lV i t w):i<w.heap.size:=ä w _ h.r
def lV.S{t:Tx}(h:lV i t w)(k:fg X w u)(b:¬X i):lV i t u:=by let⟨c,d,e⟩:=h.b;exact⟨⟨c,d,by rwa[k.N i h.G b]⟩,k.r h.r b,k.r h.C b,k.r h.I b,k.r h.M b,k.r h.Y b,k.r h.N b⟩
def lV.iU{t:Tx}(h:lV i t w)(c:w.heap[j]?=Ã (Ð d T xJ))(e:T≠200):i≠j:=by rintro rfl;let⟨f,g,b⟩:=h.b;rw[c]at b;cases b;exact e U
def lV.xG{E:iW}{t:Tx}{s c:St}{ls b:List (Nat×Int)}(d:E.T≠200)(h:lV i t w)(e:iD E.r E.T E.C c v w)(f:w.ownsRow 0 257 2 v b.length (kn b))(r:iy E v n w s ls u x):lV i t u:=by
 refine h.S r.C ?_;rintro(q|q)
 .exact h.iU e d q
 .let⟨j,g⟩:=lG f q;exact h.iU g A U
def mh(s:St)(ls:List (Nat×Int))(t:Tx):(Int×Bool)×Bool×St×List (Nat×Int):=
 if t.r=1 then((10,Ý),(xK s t.x t.y t.n).1,(xK s t.x t.y t.n).2,ls)
 else if t.r=2 then((20,Ý),(xL s t.x t.C).1,(xL s t.x t.C).2,ls)
 else zz s ls t.x t.y t.n t.k
def Fz(a:0<=h)(b:h<1000000):Æ.wrap h=h:=by show wu h=h;exact akQ a Z
def Jc(E:iW)(a:Ç)(n:Nat)(w:É)(o:(Int×Bool)×Bool×St×List (Nat×Int))(e:aP)(b:É):Prop:=
 e=È (é #[ė #[Â Æ o.1.1,Ò o.1.2],Ò o.2.1])/\∃c,iy E a n w o.2.2.1 o.2.2.2 b c
def ama{E:iW}{s:St}{ls:List (Nat×Int)}(ok:E.Ok)(b:iD E.r E.T E.C s v w)(c:w.ownsRow 0 257 2 v ls.length (kn ls))(f:iN w)(g:gL s)(x y:Nat)(n k:Int)(d:x<8)(i:y<8)(j:gf k)(l:0<=n)(m:(ls.length:Int)+400<=1000000): Ô À 170 #[Å<|Ã ⟨E.r,0,Ä⟩,Â Ë x,Â Ë y,Â Æ n,Â Æ k] w (Jc E v ls.length w<|zz s ls x y n k):=by
 unfold zz;by_cases a:n<10\/400<n\/(s x).fy<n
 .rw[if_pos a];exact(al8 b c x y n k d l a).mono λe o h=>⟨h.1,v,h.2⟩
 .rw[if_neg a];exact al9 ok b c f g x y n k d i j Z Z Z Z _ U
def iy.S{E:iW}{s:St}{ls:List (Nat×Int)}(k:fg (λ_=>False) w W)(r:iy E v n W s ls u x):iy E v n w s ls u x:= ⟨r.r,r.I,(k.S λ_ _=>Ĥ).C r.C λ_ _ q=>q,λj q=>(r.l j q).imp id λe=>ï k.M e,λa b c d f=>r.M a b c (ik d k λ_ _=>id) f⟩
section
variable{E:iW}{lv:Ç}{s:St}{ls:List (Nat×Int)}{a:Nat}{t:Tx}
def Tb{zk:Value}{w1:World}{n:Nat}{s1:St}{F_:List (Nat×Int)}(r:iy E lv n w s1 F_ w1 zk)(hB:fl w.heap.size [.int .u64 0,.bool false] 246 w1)(hlb:E.r<w.heap.size)(v0 v1:Value)(hf0:km v0=true:=by rfl)(hf1:km v1=true:=by rfl): iy E lv n w s1 F_ ((w1.setCell ⟨w.heap.size,0,none⟩ v0).setCell ⟨w.heap.size,1,none⟩ v1) zk/\fl w.heap.size [v0,v1] 246 ((w1.setCell ⟨w.heap.size,0,none⟩ v0).setCell ⟨w.heap.size,1,none⟩ v1):=by refine⟨r.N (Y:=λk=>k=w.heap.size) ((fg.I (X:=λk=>k=w.heap.size) (p:=⟨w.heap.size,0,Ä⟩) U v0<|Û hf0).fj<|fg.I (X:=λk=>k=w.heap.size) (p:=⟨w.heap.size,1,Ä⟩) U v1<|Û hf1) (λi q=>by omega) (λi cur q hc=> ?_) Z,(hB.gh 0 v0).gh 1 v1⟩;rw[q,hB]at hc;cases hc
def Td{W:É}{a:St}{b:List (Nat×Int)}{cs:List Ç}(c:jX=(w.alloc<|Ð cs.toArray T).drewN 1\/jX=w.alloc (Ð cs.toArray T))(d:w.ownsRow 0 257 2 lv ls.length (kn ls))(f:E.r<w.heap.size)(r:iy E lv n jX a b u v):fl w.heap.size cs T u:=by
 have e:fl w.heap.size cs T jX:=by
  rcases c with rfl|rfl
  .exact fl.N w cs T
  .exact fl.N w cs T
 refine e.I r.C ?_;rintro(q|q)
 .omega
 .have:=(d.lt _ q).2;omega
def amb(ok:E.Ok)(V:E.T≠200)(m:iD E.r E.T E.C s lv w)(o:w.ownsRow 0 257 2 lv ls.length (kn ls))(B:iN w)(D:gL s)(d:lV a t w)(f:t.Ok)(hlen:(ls.length:Int)+400<=1000000)(F:t.r=1): Ô À 154 #[Å<|Ã ⟨E.r,0,Ä⟩,Å<|Ã ⟨a,0,Ä⟩] w (Jc E lv ls.length w<|mh s ls t):=by
 have G:=fl.M m;have F':=d.G;have Y:=d.r;have c1:=d.C;have c2:=d.I;have c3:=d.M;have c4:=d.Y;have c5:=d.N;have hn:=Fz f.I f.M;have hk:=Fz f.r f.C;let⟨d2,I,J⟩:=Ì.1 Jb;have L:=fi<|Á I J;clear I J;have h:=(fg.gI (λ_=>False) w #[Â Æ 0,Ò Ï] 246).fj<|fg.fU _ _;have u:=m.nZ h id;have v:=ik o h λ_ _=>id;have c:=d.S h id;have RA:=B.r h id;rw[F]at c4;have M:mh s ls t=((10,Ý),(xK s t.x t.y t.n).1,(xK s t.x t.y t.n).2,ls):=by unfold mh;rw[if_pos F]
 rw[M];have C:=alY (ls:=ls) ok u v D t.x t.y t.n f.x f.y f.I (by have:=f.M;omega);have N:∀(l:É) (O:St) (P:List (Nat×Int)) (Q:Ç),iy E lv ls.length _ O P l Q->lV a t l:=λl O P Q r=>lV.xG V c u v r;have H:=fi<|Á C<|Á o N;clear C N m o B D d f u v RA M;go_enter Γ,ű;go_wp2_with fail;have b:=fi<|Á c.r<|Á c.C<|Á c.I<|Á c.M c.N;clear Y c1 c2 c3 c5 c;refine mg (λe=>e.cell? ⟨a,0,Ä⟩=Ã (Â Ë t.x)/\e.cell? ⟨a,1,Ä⟩=Ã (Â Ë t.y)/\e.cell? ⟨a,2,Ä⟩=Ã (Â Ë t.n)/\e.cell? ⟨a,3,Ä⟩=Ã (Â Ë t.k)/\e.cell? ⟨a,5,Ä⟩=Ã (Í t.C)) [22] fw ?_;apply tk 0 b.out;apply tk 1 b.out;apply tk 2 b.out;apply tk 3 b.out;apply tk 4 b.out;apply tk 5 b.out;apply tk 6 b.out;apply tk 7 b.out;apply tk 8 b.out;apply tk 9 b.out;apply tk 10 b.out;apply tk 11 b.out;apply tk 12 b.out;apply tk 13 b.out;apply tk 14 b.out;apply tk 15 b.out;apply tk 16 b.out;apply tk 17 b.out;apply tk 18 b.out;apply tk 19 b.out;apply gF 20;intro K g;go_simp;go_at_call 168;apply H.out.1.mono;rintro e l ⟨rfl,z⟩;dsimp only;have c:=H.out.2.2 _ _ _ _ z;apply g.out _ _ λ_=>⟨c.r,c.C,c.I,c.M,c.N⟩;clear g K;have i:=Td (W:=w) (cs:=[Â Æ 0,Ò Ï]) (Û U) H.out.2.1 G z;have e0:=i.r 0 _ U;have e1:=i.r 1 _ U;have y0:=i.C 0;have y1:=i.C 1;have j:=c.S ((fg.I (X:=λk=>k=w.heap.size) (p:=⟨w.heap.size,0,Ä⟩) U<|Â Æ 10).fj<|fg.I (X:=λk=>k=w.heap.size) (p:=⟨w.heap.size,1,Ä⟩) U<|Ò Ý) Z;apply gF 21;intro K g;go_simp;apply g.out _ _ λ_=>⟨j.r,j.C,j.I,j.M,j.N⟩;clear g K;apply gF 22;intro K g;go_simp;apply g.out _ _ λq=>absurd ft q;clear g K;try simp only[ł,Õ,æ,ç]
 refine lU fw ?_ _;go_wp2_with fail;let⟨q,q2⟩:=Tb (iy.S h z) i G (Â Æ 10)<|Ò Ý;apply õ (zy U U (fl.Y (tl:=[]) (vs:=[Â Æ 10,Ò Ý]) q2) L.out.1 L.out.2 Df) U;exact⟨U,lv,q⟩
def amc(ok:E.Ok)(V:E.T≠200)(m:iD E.r E.T E.C s lv w)(o:w.ownsRow 0 257 2 lv ls.length (kn ls))(B:iN w)(D:gL s)(d:lV a t w)(g:t.Ok)(hlen:(ls.length:Int)+400<=1000000)(F:t.r=2): Ô À 154 #[Å<|Ã ⟨E.r,0,Ä⟩,Å<|Ã ⟨a,0,Ä⟩] w (Jc E lv ls.length w<|mh s ls t):=by
 have G:=fl.M m;have F':=d.G;have Y:=d.r;have c1:=d.C;have c2:=d.I;have c3:=d.M;have c4:=d.Y;have c5:=d.N;have hn:=Fz g.I g.M;have hk:=Fz g.r g.C;let⟨d2,I,J⟩:=Ì.1 Jb;have L:=fi<|Á I J;clear I J;have h:=(fg.gI (λ_=>False) w #[Â Æ 0,Ò Ï] 246).fj<|fg.fU _ _;have u:=m.nZ h id;have v:=ik o h λ_ _=>id;have b:=d.S h id;have RA:=B.r h id;rw[F]at c4;have M:mh s ls t=((20,Ý),(xL s t.x t.C).1,(xL s t.x t.C).2,ls):=by unfold mh;rw[if_neg Z,if_pos F]
 rw[M];have C:=al7 (ls:=ls) ok u v D t.x t.C g.x (by have:=g.N.1;omega);have N:∀(l:É) (O:St) (P:List (Nat×Int)) (Q:Ç),iy E lv ls.length _ O P l Q->lV a t l:=λl O P Q r=>lV.xG V b u v r;have H:=fi<|Á C<|Á o N;clear C N m o B D d g u v RA M;go_enter Γ,ű;go_wp2_with fail;have c:=fi<|Á b.r<|Á b.C<|Á b.I<|Á b.M b.N;clear Y c1 c2 c3 c5 b;refine mg (λe=>e.cell? ⟨a,0,Ä⟩=Ã (Â Ë t.x)/\e.cell? ⟨a,1,Ä⟩=Ã (Â Ë t.y)/\e.cell? ⟨a,2,Ä⟩=Ã (Â Ë t.n)/\e.cell? ⟨a,3,Ä⟩=Ã (Â Ë t.k)/\e.cell? ⟨a,5,Ä⟩=Ã (Í t.C)) [15] fw ?_;apply tk 0 c.out;apply tk 1 c.out;apply tk 2 c.out;apply tk 3 c.out;apply tk 4 c.out;apply tk 5 c.out;apply tk 6 c.out;apply tk 7 c.out;apply tk 8 c.out;apply tk 9 c.out;apply tk 10 c.out;apply tk 11 c.out;apply tk 12 c.out;apply gF 13;intro K f;go_simp;go_at_call 169;apply H.out.1.mono;rintro e l ⟨rfl,z⟩;dsimp only;have b:=H.out.2.2 _ _ _ _ z;apply f.out _ _ λ_=>⟨b.r,b.C,b.I,b.M,b.N⟩;clear f K;have i:=Td (W:=w) (cs:=[Â Æ 0,Ò Ï]) (Û U) H.out.2.1 G z;have e0:=i.r 0 _ U;have e1:=i.r 1 _ U;have y0:=i.C 0;have y1:=i.C 1;have j:=b.S ((fg.I (X:=λk=>k=w.heap.size) (p:=⟨w.heap.size,0,Ä⟩) U<|Â Æ 20).fj<|fg.I (X:=λk=>k=w.heap.size) (p:=⟨w.heap.size,1,Ä⟩) U<|Ò Ý) Z;apply gF 14;intro K f;go_simp;apply f.out _ _ λ_=>⟨j.r,j.C,j.I,j.M,j.N⟩;clear f K;apply gF 15;intro K f;go_simp;apply f.out _ _ λq=>absurd ft q;clear f K;try simp only[ł,Õ,æ,ç]
 refine lU fw ?_ _;go_wp2_with fail;let⟨q,q2⟩:=Tb (iy.S h z) i G (Â Æ 20)<|Ò Ý;apply õ (zy U U (fl.Y (tl:=[]) (vs:=[Â Æ 20,Ò Ý]) q2) L.out.1 L.out.2 Df) U;exact⟨U,lv,q⟩
def amd(ok:E.Ok)(Y:E.T≠200)(m:iD E.r E.T E.C s lv w)(p:w.ownsRow 0 257 2 lv ls.length (kn ls))(B:iN w)(D:gL s)(f:lV a t w)(d:t.Ok)(hlen:(ls.length:Int)+400<=1000000)(F:t.r≠1)(G:t.r≠2): Ô À 154 #[Å<|Ã ⟨E.r,0,Ä⟩,Å<|Ã ⟨a,0,Ä⟩] w (Jc E lv ls.length w<|mh s ls t):=by
 have I:=fl.M m;have F':=f.G;have c0:=f.r;have c1:=f.C;have c2:=f.I;have c3:=f.M;have c4:=f.Y;have c5:=f.N;have hn:=Fz d.I d.M;have hk:=Fz d.r d.C;let⟨d2,J,L⟩:=Ì.1 Jb;have M:=fi<|Á J L;clear J L;have h:=(fg.gI (λ_=>False) w #[Â Æ 0,Ò Ï] 246).fj<|fg.fU _ _;have u:=m.nZ h id;have v:=ik p h λ_ _=>id;have c:=f.S h id;have N:=B.r h id;have z1:(t.r==1)=Ï:=by rwa[beq_eq_false_iff_ne]
 have z2:(t.r==2)=Ï:=by rwa[beq_eq_false_iff_ne]
 have O:mh s ls t=zz s ls t.x t.y t.n t.k:=by unfold mh;rw[if_neg F,if_neg G]
 rw[O];have C:=ama (ls:=ls) ok u v N D t.x t.y t.n t.k d.x d.y ⟨d.r,by have:=d.C;omega⟩ d.I hlen;have P:∀(j:É) (Q:St) (V:List (Nat×Int)) (l:Ç),iy E lv ls.length _ Q V j l->lV a t j:=λj Q V l r=>lV.xG Y c u v r;have H:=fi<|Á C<|Á p P;clear C P m p B D f d u v N O;generalize zz s ls t.x t.y t.n t.k=o at*;go_enter Γ,ű;go_wp2_with fail;have b:=fi<|Á c.r<|Á c.C<|Á c.I<|Á c.M c.N;clear c0 c1 c2 c3 c5 c;refine mg (λe=>e.cell? ⟨a,0,Ä⟩=Ã (Â Ë t.x)/\e.cell? ⟨a,1,Ä⟩=Ã (Â Ë t.y)/\e.cell? ⟨a,2,Ä⟩=Ã (Â Ë t.n)/\e.cell? ⟨a,3,Ä⟩=Ã (Â Ë t.k)/\e.cell? ⟨a,5,Ä⟩=Ã (Í t.C)) [26,27] fw ?_;apply tk 0 b.out;apply tk 1 b.out;apply tk 2 b.out;apply tk 3 b.out;apply tk 4 b.out;apply tk 5 b.out;apply tk 6 b.out;apply tk 7 b.out;apply tk 8 b.out;apply tk 9 b.out;apply tk 10 b.out;apply tk 11 b.out;apply tk 12 b.out;apply tk 13 b.out;apply tk 14 b.out;apply tk 15 b.out;apply tk 16 b.out;apply tk 17 b.out;apply tk 18 b.out;apply tk 19 b.out;apply tk 20 b.out;apply tk 21 b.out;apply tk 22 b.out;apply gF 23;intro K g;go_simp;go_at_call 170;apply H.out.1.mono;rintro e j ⟨rfl,l,z⟩;dsimp only;have c:=H.out.2.2 _ _ _ _ z;apply g.out _ _ λ_=>⟨c.r,c.C,c.I,c.M,c.N⟩;clear g K;have i:=Td (W:=w) (cs:=[Â Æ 0,Ò Ï]) (Û U) H.out.2.1 I z;have e0:=i.r 0 _ U;have e1:=i.r 1 _ U;have y0:=i.C 0;have y1:=i.C 1;have X:=Á c.r<|Á c.C<|Á c.I<|Á c.M c.N;have b:=fi X;clear X c;apply tk 24 b.out;apply tk 25 b.out;apply gF 26;intro K g;go_simp;apply g.out _ _ λq=>absurd ft q;clear g K;apply gF 27;intro K g;go_simp;apply g.out _ _ λq=>absurd ft q;clear g K;try simp only[ł,Õ,æ,ç]
 refine lU fw ?_ _;go_wp2_with fail;let⟨q,q2⟩:=Tb (iy.S h z) i I (Â Æ o.1.1)<|Ò o.1.2;apply õ (zy U U (fl.Y (tl:=[]) (vs:=[Â Æ o.1.1,Ò o.1.2]) q2) M.out.1 M.out.2 Df) U;exact⟨U,l,q⟩
def G_(ok:E.Ok)(b:E.T≠200)(c:iD E.r E.T E.C s lv w)(d:w.ownsRow 0 257 2 lv ls.length (kn ls))(e:iN w)(f:gL s)(g:lV a t w)(h:t.Ok)(i:(ls.length:Int)+400<=1000000): Ô À 154 #[Å<|Ã ⟨E.r,0,Ä⟩,Å<|Ã ⟨a,0,Ä⟩] w (Jc E lv ls.length w<|mh s ls t):=by
 by_cases j:t.r=1
 .exact amb ok b c d e f g h i j
 .by_cases k:t.r=2
  .exact amc ok b c d e f g h i k
  .exact amd ok b c d e f g h i j k
end
def H_:∀(d a b c:List Ç) (k:Nat),b.length=d.length->(d.zipIdx k).foldl (λ(q:Array Ç) (p:Value×Nat)=>q.setIfInBounds (a.length-k+p.2) p.1) (a++b++c).toArray=(a++d++c).toArray\/a.length<k
 |[],a,b,c,k,h=>by have:b=[]:=á (by simpa using h);subst this;exact Û U
 |v::r,a,b,c,k,h=>by
  rcases ğ a.length k with q|q
  .exact Ü q
  .match b,h with
   |x::b,h=>
    apply Û;have p:=(H_ r (a++[v]) b c (k+1)<|by simpa using h).resolve_right (by simp;omega);simp only[List.zipIdx_cons,List.foldl_cons];rw[show a.length-k+k=a.length by omega,Õ,show(a++x::b++c).set a.length v=a++[v]++b++c by simp];rw[show(a++[v]).length-(k+1)=a.length-k by simp]at p;rw[p];simp
def MV{place:Nat->Option (Nat×Nat)}{pre old suf:List Ç}{rest:List (Nat×Value)}(a:place i=Ã (pre.length,n))(b:v.cells.size=n)(c:old.length=n): Ŀ place (pre++old++suf).toArray ((i,v)::rest)=Ŀ place (pre++v.cells.toList++suf).toArray rest:=by rw[Instr.fill.eq_2];simp only[a];rw[if_neg (by simp only[ă,Ó,Bool.or_eq_true,decide_eq_true_eq,not_or];omega)];have:=(H_ v.cells.toList pre old suf 0<|by rw[c,ĵ,b]).resolve_right Z;simp only[Nat.sub_zero]at this;rw[<-this,<-Array.foldl_toList,Array.toList_zipIdx]
def ame:((À.info? 144).bind (·.zero)).map (λz=>z.cells.toList.drop 144)=Ã [Ê Ä 0 0]:=fw
def amf:((À.info? 144).bind (·.zero)).map (λz=>z.cells.size)=Ã 145:=fw
def I_:((À.info? 147).bind (·.zero)).map (λz=>z.cells.toList.drop 145)=Ã [Â Ë 0,Ê Ä 0 0]:=fw
def I':((À.info? 147).bind (·.zero)).map (λz=>z.cells.size)=Ã 147:=fw
def MW(P:aX)(t:ú):Option (List<|Nat×Nat):=match P.underlying t with
 |some (.struct fs)=>fs.toList.mapM λf=>(P.info? f.type).map λi=>(f.offset,i.size)
 |_=>Ä
def amg:MW À 144=Ã [(0,144),(144,1)]:=fw
def J_:MW À 147=Ã [(0,145),(145,1),(146,1)]:=fw
def Te{c:List (Nat×Nat)}(a:MW P t=Ã c)(b:(P.info? t).bind (·.zero)=Ã z)(e:List (Nat×Value)):P.built t e=Ŀ (c.toArray[·]?) z.cells e:=by
 unfold MW at a;unfold Program.built;cases f:P.info? t with
 |none=>rw[f]at b;cases b
 |some h=>
  rw[f]at b;have b:h.zero=Ã z:=b;cases g:P.underlying t with
  |none=>rw[g]at a;cases a
  |some d=>
   rw[g]at a;cases d<;>first|(cases a;done)|skip
   simp only at a;simp only[b,a]
def Tf{suf:List Ç}(h:((P.info? t).bind (·.zero)).map (λz=>z.cells.toList.drop n)=Ã suf)(a:((P.info? t).bind (·.zero)).map (λz=>z.cells.size)=Ã m)(d:n<=m):∃z old,(P.info? t).bind (·.zero)=Ã z/\old.length=n/\z.cells=(old++suf).toArray:=by
 let⟨z,b,c⟩:=Ì.1 h;rw[b]at a;have a:z.cells.size=m:=by injection a
 refine⟨z,z.cells.toList.take n,b,by rw[Λ,ĵ,a];omega,?_⟩;rw[<-c,List.take_append_drop]
def amh(h:l.length=144):À.built 144 [(0,ė l.toArray)]=Ã (l++[Ê Ä 0 0]).toArray:=by let⟨z,d,a,b,c⟩:=Tf ame amf A;rw[Te amg a,c];have:=MV (place:=λi=>[(0,144),(144,1)].toArray[i]?) (pre:=[]) (suf:=[Ê Ä 0 0]) (i:=0) (v:=ė l.toArray) (rest:=[]) U (by show l.toArray.size=144;simp[h]) b;simpa[Ŀ,ī]using this
def ami(h:l.length=145)(a:v.cells=#[v]):À.built 147 [(0,ė l.toArray),(1,v)]=Ã (l++[v,Ê Ä 0 0]).toArray:=by let⟨z,j,c,d,f⟩:=Tf I_ I' A;rw[Te J_ c,f];have b:=MV (place:=λi=>[(0,145),(145,1),(146,1)].toArray[i]?) (pre:=[]) (suf:=[Â Ë 0,Ê Ä 0 0]) (i:=0) (v:=ė l.toArray) (rest:=[(1,v)]) U (by show l.toArray.size=145;simp[h]) d;have g:=MV (place:=λi=>[(0,145),(145,1),(146,1)].toArray[i]?) (old:=[Â Ë 0]) (suf:=[Ê Ä 0 0]) (i:=1) (rest:=[]) (by show Ã (145,1)=Ã (l.length,1);rw[h]) (by rw[a];rfl) U;simp only[Ř]at b;rw[b];have e:(ė l.toArray).cells.toList=l:=rfl;rw[e];rw[show(l++[Â Ë 0,Ê Ä 0 0])=l++[Â Ë 0]++[Ê Ä 0 0] by simp,g];simp[Ŀ,a]
def iz(s:St):List Ç:=(Ĉ 144).map<|pM s
def sw(s:St):(iz s).length=144:=by simp[iz]
def zC(s:St)(lv:Ç):je s lv=iz s++[lv]:=by unfold je iz;rw[Ś,ś];have e:(Ĉ 144).map (rp s lv)=(Ĉ 144).map (pM s):=List.map_congr_left λi a=>qE s lv (by simpa using a);rw[e];simp[IX]
def J'(a:o.op=.box T qQ)(b:xX qQ=ė d):(į xX o).run P w=aA (.value<|Å<|Ã ⟨w.heap.size,0,Ä⟩) (w.alloc<|Ð d T):=by unfold į;simp[a,b,Instr.box,newVar,newRow,ī]
def Tg{a:Array (Nat×Operand)}(b:o.op=ς T a)(h:P.built T (a.map λ(i,x)=>(i,xX x)).toList=Ã d):(į xX o).run P w=aA (.value<|ė d) w:=by have:=run_build w T (a.map λ(i,x)=>(i,xX x)) d h;unfold į;simp only[b];simp[this]
def Ti(a:o.op=ς 144 #[(0,qQ)])(b:xX qQ=ė l.toArray)(c:l.length=144):(į xX o).run À w=aA (.value<|ė (l++[Ê Ä 0 0]).toArray) w:=by have d:=amh c;apply Tg a;simp only[Ċ,Ě,ġ,b];exact d
def amj{y:Ź}(a:o.op=ς 147 #[(0,qQ),(1,y)])(b:xX qQ=ė l.toArray)(c:xX y=v)(d:l.length=145)(e:v.cells=#[v]):(į xX o).run À w=aA (.value<|ė (l++[v,Ê Ä 0 0]).toArray) w:=by have f:=ami d e;apply Tg a;simp only[Ċ,Ě,ġ,b,c];exact f
def Tk:(À.underlying 140).map ľ=Ã Ý:=fw
def K_:(À.info? 140).map (·.size)=Ã 144:=fw
structure mj(vb:Nat)(s:St)(h:Int)(w:É):Prop where
 C:w.rangeAt vb 0 (iz s)
 h:w.cell? ⟨vb,145,Ä⟩=Ã (Â Ë h)
def mj.r{s:St}(a:mj i s h w)(k:fg X w u)(b:¬X i):mj i s h u:= ⟨λj v c=>k.r (a.C j v c) b,k.r a.h b⟩
def uQ(l:List (Int×Bool)):List Ç:=l.flatMap λp=>[Â Æ p.1,Ò p.2]
structure NX(B:Nat)(h:Int)(lv uv:Ç)(s:St)(ls:List (Nat×Int))(us:List (Int×Bool))(w0 w:É):Prop where
 r:iD B 147 [Â Ë h,uv] s lv w
 C:w.ownsRow 0 257 2 lv ls.length (kn ls)
 I:w.ownsRow 0 246 2 uv us.length (uQ us)
 M:fg (λ_=>False) w0 w
 N:w0.heap.size<=B
 S:∀j,lv.ownBlock=Ã j->w0.heap.size<=j
 Y:∀j,uv.ownBlock=Ã j->w0.heap.size<=j
def NX.iZ(w:É)(s:St)(h:Int):NX w.heap.size h (Ê Ä 0 0) (Ê Ä 0 0) s [] [] w ((ċ w<|Ð (iz s++[Ê Ä 0 0,Â Ë h,Ê Ä 0 0]).toArray 147).drew):=by refine⟨?_,ć _ _ _ _,ć _ _ _ _,(fg.gI _ _ _ _).fj<|fg.fU _ _,ß _,(λj q=>nomatch q),(λj q=>nomatch q)⟩;unfold iD;rw[zC,show iz s++[Ê Ä 0 0]++[Â Ë h,Ê Ä 0 0]=iz s++[Ê Ä 0 0,Â Ë h,Ê Ä 0 0] by simp];exact fl.N w _ 147
noncomputable def Je:Ş:=(Tryz.f115.body.bind kF).getD Ń
def zD(c m B:Nat)(a:Option Č)(n b:Nat)(i:Int)(u:Nat->Ç):ë:=⟨#[Å<|Ã ⟨c,0,Ä⟩,Â Ë m,Ê a n b,ĉ,ĉ,ĉ,Å Ä,Å<|Ã ⟨B,0,Ä⟩,u 8,u 9,u 10,u 11,u 12,u 13,u 14,u 15,u 16,u 17,u 18,u 19,u 20,u 21,u 22,u 23,u 24,Ê a n b,Â Ë n,Â Ë i,u 28,u 29,u 30,u 31,u 32,u 33,u 34,u 35,u 36,u 37,u 38,u 39,u 40,u 41,u 42,u 43,u 44,u 45,u 46,u 47,u 48,u 49,u 50,u 51,u 52,u 53,u 54,u 55,u 56,u 57,u 58,u 59,u 60,u 61,u 62,u 63,u 64,u 65,u 66,u 67,u 68,u 69,u 70,u 71,u 72,u 73,u 74,u 75,u 76,u 77,u 78,u 79,u 80,u 81,u 82],[]⟩
def Jf(b m B:Nat)(c:Option Č)(n d:Nat)(i:Int)(a:ë):Prop:=∃u,a=zD b m B c n d i u
def QN(X Y:ë->É->Prop):bu->ë->É->Prop
 |.exit 0,a,w=>X a w
 |.ret,a,w=>Y a w
 |_,_,_=>False
section
variable{lv:Ç}{s d:St}{ls f:List (Nat×Int)}{c:List (Int×Bool)}
def Tl(j:Nat)(h:Int)(x:Ç):iW:=⟨j,147,[Â Ë h,x]⟩
def Tm(j:Nat)(h:Int)(x:Ç):(Tl j h x).Ok:=⟨by show(147:Nat)≠36;decide,by show(147:Nat)≠257;decide,by show(147:Nat)≠282;decide,by show(147:Nat)≠300;decide,by show(147:Nat)≠252;decide,by show(147:Nat)≠246;decide⟩
def NX.fN(a:NX j h lv x s ls c u w)(k:fg (λ_=>False) w W):NX j h lv x s ls c u W:= ⟨a.r.nZ k id,ik a.C k λ_ _=>id,ik a.I k λ_ _=>id,a.M.fj k,a.N,a.S,a.Y⟩
def NX.xG(a:NX j h lv x s ls c u w)(r:iy (Tl j h x) lv ls.length w d f W v):NX j h v x d f c u W:=by
 have k:=a.r;refine⟨r.r,r.I,ik a.I r.C ?_,a.M.C r.C ?_,a.N,λb q=> ?_,a.Y⟩
 .rintro b i (q|q)
  .let⟨m,g⟩:=lG a.I i;have e:b=j:=q;rw[e,k]at g;cases g
  .exact akH a.I a.C A i q
 .rintro i g (q|q)
  .have:=a.N;have e:i=j:=q;omega
  .have:=a.S i q;omega
 .rcases r.l b q with e|e
  .exact a.S b e
  .exact ï a.M.M e
def NX.fy(a:NX j h lv x s ls c u w)(b:i<8)(v:Int):NX j h lv x (s.fy i v) ls c u (w.setCell ⟨j,i*18,Ä⟩<|Â Æ v):= a.xG<|(iy.fW (E:=Tl j h x) a.r a.C).fy (Tm _ _ _) b v
def L_(c:List (Int×Bool)):∀u∈uQ c,km u=Ý:=λu a=>by unfold uQ at a;let⟨e,_,h⟩:=Ν.1 a;simp at h;rcases h with rfl|rfl<;>rfl
def amk:(À.info? 246).map (λi=>(i.zero,i.size,i.bytes))=Ã (Ã<|ė #[Â Æ 0,Ò Ï],2,16):=fw
def NX.G(a:NX j h lv x s ls c u w):w.cell? ⟨j,146,Ä⟩=Ã x:= fl.r a.r 146 _<|by rw[Þ (by rw[mK];omega),mK];rfl
def NX.aml{g:Int}(b:NX j h lv x s ls c u w)(a:qC w 0 246 2 x c.length (uQ c) 1 [Â Æ g,Ò yQ] v W): NX j h lv x s ls c u W/\NX j h lv v s ls (c++[(g,yQ)]) u (W.setCell ⟨j,146,Ä⟩ v):=by
 have m:∀{i:Nat} {n:Array Ç} {T:ú},x.ownBlock=Ã i->w.heap[i]?=Ã (Ð n T (0,0))->T=246:=λ{i n T} q hc=>by let⟨k,e⟩:=lG b.I q;rw[hc]at e;cases e;rfl
 have o:=b.M.C a.r λi y q=>by have:=b.Y i q;omega
 have f:NX j h lv x s ls c u W:=⟨b.r.nZ a.r λq=>absurd (m q b.r) A,ik b.C a.r (λd q r=>by let⟨k,e⟩:=lG b.C q;exact absurd (m r e) A),a.I _ _ _ b.I λ_=>ß _,o,b.N,b.S,b.Y⟩;have t:W.ownsRow 0 246 2 v (c++[(g,yQ)]).length (uQ<|c++[(g,yQ)]):=by have:=a.fu;rwa[show uQ c++[Â Æ g,Ò yQ]=uQ (c++[(g,yQ)]) by simp[uQ],show c.length+1=(c++[(g,yQ)]).length by simp]at this
 have l:fg (λk=>k=j) W (W.setCell ⟨j,146,Ä⟩ v):=fg.I (X:=λk=>k=j) (p:=⟨j,146,Ä⟩) U v<|Ü<|fl.G f.r;have k:=fl.gh f.r 146 v;rw[List.set_append_right _ _ (by rw[mK];omega),mK]at k;refine⟨f,k,ik f.C l λd q r=>jE f.C f.r A (by rw[q,r]),ik t l λd q r=>jE t f.r A (by rw[q,r]),o.C l λi y q=>by have:=b.N;omega,b.N,b.S,λd q=> ?_⟩;rcases a.C with e|e
 .exact b.Y d<|by rwa[<-e]
 .rw[e]at q;cases q;exact b.M.M
end
section
variable{X:ë->É->Prop}{cp:Nat}{lv:Ç}{s:St}{ls:List (Nat×Int)}{c:List (Int×Bool)}
def amm(d:Nat->Ç)(e:NX j h lv x s ls c u w)(i:Int)(f:i=n) (g:∀a,Jf b m j O n cp i a->X a w): Î À Je (Exit.then K<|QN X H) (zD b m j O n cp i d) w:=by
 unfold zD;conv=>arg 2;whnf
 subst f;go_wp2_with fail;exact g _ (gA _)
def amn(d:Nat->Ç)(f:NX j h lv x s ls c u w)(i:Int)(k:Nat)(q:i=k)(P:k<n)(Q:n<=1000)(tb o a:Nat)(r:O=Ã ⟨tb,o,Ä⟩)(T:w.cell? ⟨tb,o+k,Ä⟩=Ã (Å<|Ã ⟨a,0,Ä⟩))(t:Tx)(v:lV a t w)(y:t.Ok)(z:iN w)(B:gL s)(D:(ls.length:Int)+400<=1000000)(g:Int)(E:Bool)(F:St)(G:List (Nat×Int))(I:mh s ls t=((g,E),Ï,F,G)) (J:∀a p,a.tmps.getD 6 ĉ=Å Ä->a.defers=[]->fg (λ_=>False) u p->H a p): Î À Je (Exit.then K<|QN X H) (zD b m j O n cp i d) w:=by
 unfold zD;conv=>arg 2;whnf
 subst q r;have C:=G_ (Tm _ _ _) (by show(147:Nat)≠200;decide) f.r f.C z B v y D;rw[I]at C;have V:(0:Int)<=(k:Int):=Z
 have W:(k:Int)<(n:Int):=Z
 have Y:=fl.M f.r;have l:=fi<|Á f C;go_wp2_with fail;go_at_call 154;apply l.out.2.mono;rintro e w1 ⟨rfl,zk,L⟩;have M:=l.out.1.xG L;have N:=fi M;go_wp2_with fail;exact J _ _ U U<|N.out.M.fj<|fg.gI _ _ _ _
def amo(d:Nat->Ç)(f:NX j h lv x s ls c u w)(i:Int)(k:Nat)(Y:i=k)(hj:k<n)(hn:n<=1000)(tb N a:Nat)(hbp:O=Ã ⟨tb,N,Ä⟩)(hc:w.cell? ⟨tb,N+k,Ä⟩=Ã (Å<|Ã ⟨a,0,Ä⟩))(t:Tx)(ht:lV a t w)(Mh:t.Ok)(hr:iN w)(hs:gL s)(hlen:(ls.length:Int)+400<=1000000)(g:Int)(o:Bool)(B:St)(P:List (Nat×Int))(ho:mh s ls t=((g,o),Ý,B,P))(Q:m<8)(F:gL B)(rR:0<=g)(sr:g<=1000)(LG:c.length<=1000) (p:∀a v jD Tn,Jf b m j O n cp (i+1) a->NX j h jD Tn (B.fy m<|wu<|(B m).fy+g) P (c++[(g,o)]) u v->K a v): Î À Je (Exit.then K<|QN X H) (zD b m j O n cp i d) w:=by
 unfold zD;conv=>arg 2;whnf
 subst Y hbp;have C:=G_ (Tm _ _ _) (by show(147:Nat)≠200;decide) f.r f.C hr hs ht Mh hlen;rw[ho]at C;have e1:(0:Int)<=(k:Int):=Z
 have e2:(k:Int)<(n:Int):=Z
 have atB:=fl.M f.r;have l:=fi<|Á f C;go_wp2_with fail;go_at_call 154;apply l.out.2.mono;rintro e r ⟨rfl,zk,r1⟩;have D:=l.out.1.xG r1;have m1:=D.r.fy Q;have z1:=fl.C D.r<|m*18;have CC:=fl.M D.r;have b0:=(F.fy m).1;have b1:=(F.fy m).2;have hub:x.ownBlock≠Ã r.heap.size:=λq=>by have:=(D.I.lt _ q).2;omega
 have HX:=fi<|Á D F;generalize hb:(B m).fy=b at*;have hm0:(0:Int)<=(m:Int):=Z
 have hm1:(m:Int)<8:=Z
 go_wp2_with fail
 go_region
 have hx8:=(HX.out.1.fy Q<|wu<|b+g).fN ((fg.gI (λ_=>False) _ #[Â Æ g,Ò o] 246).fj<|fg.fU _ _);have hU:fl r.heap.size [Â Æ g,Ò o] 246 (đ<|ċ (r.setCell ⟨j,m*18,Ä⟩<|Â Æ<|wu<|b+g)<|Ð #[Â Æ g,Ò o] 246):=by
  have:=fl.N (r.setCell ⟨j,m*18,Ä⟩<|Â Æ<|wu<|b+g) [Â Æ g,Ò o] 246;have z:fl r.heap.size [Â Æ g,Ò o] 246 (ċ (r.setCell ⟨j,m*18,Ä⟩<|Â Æ<|wu<|b+g)<|Ð #[Â Æ g,Ò o] 246):=by simpa using this
  exact z
 go_wp2_with fail
 change Î À _ _ _ (đ<|ċ (r.setCell ⟨j,m*18,Ä⟩<|Â Æ<|wu<|b+g)<|Ð #[Â Æ g,Ò o] 246);generalize đ (ċ (r.setCell ⟨j,m*18,Ä⟩<|Â Æ<|wu<|b+g)<|Ð #[Â Æ g,Ò o] 246)=w8 at*;generalize r.heap.size=ub at*;have T:=hx8.fN (fg.fU (λ_=>False) w8);have G:=hU.I (fg.fU (λ_=>False) w8) id;let⟨i0,I8,I9,amq,amr⟩:=ò amk;have E:=fi<|Á I8<|Á I9<|Á amq amr;have y:=fi<|Á T.G<|Á (G.r 0 _ rfl)<|G.r 1 _ rfl;have V:=fi<|Á T G;refine mg (λv=>v.cell? ⟨j,146,Ä⟩=Ã x/\v.cell? ⟨ub,0,Ä⟩=Ã (Â Æ g)/\v.cell? ⟨ub,1,Ä⟩=Ã (Ò o)) [10] fw ?_;refine tk 0 y.out ?_;refine tk 1 y.out ?_;refine tk 2 y.out ?_;refine tk 3 y.out ?_;refine tk 4 y.out ?_;refine tk 5 y.out ?_;have I:=V.out.1.fN (fg.gI (λ_=>False) _ #[Â Æ g,Ò o] 246);have J:=V.out.2.I (fg.gI (λ_=>False) _ #[Â Æ g,Ò o] 246) id;refine gF 6 ?_;intro K p;go_simp;refine p.out _ _ (λ_=>⟨I.G,J.r 0 _ U,J.r 1 _ U⟩) ?_;refine gF 7 ?_;intro K p;refine MK (hfl:=Ü ⟨ft,λd z=>(ā.1 z).elim (L_ c d) (λq=>by simp at q;rcases q with rfl|rfl<;>rfl),by simp[km,ī]⟩) fR _ _ 145 fR Tryz.underlying145 E.out.1 E.out.2.1 E.out.2.2.1 E.out.2.2.2 U fR I.I ⟨_,0,Ä⟩ [Â Æ g,Ò o] fR Z U (ž _ _ _ _) (λd z=>by simp at z;rcases z with rfl|rfl<;>rfl) (by unfold č;omega) Z (å _) ?_;intro uv1 w9 L;obtain⟨a2,M_,rfl⟩:=jl L.fu;let⟨M,n2⟩:=I.aml L;have z:=J.I L.r hub;refine p.out _ _ (λ_=>⟨M.G,z.r 0 _ U,z.r 1 _ U⟩) ?_;have W:=M.G;have fz:=fl.C M.r 146;refine gF 8 ?_;intro K p;go_simp;refine p.out _ _ (λ_=>⟨W,z.r 0 _ U,z.r 1 _ U⟩) ?_;refine gF 9 ?_;intro K p;go_simp;refine p.out _ _ (λ_=>⟨W,z.r 0 _ U,z.r 1 _ U⟩) ?_;refine gF 10 ?_;intro K p;go_simp;refine p.out _ _ (λq=>absurd ft q) ?_;refine lU fw ?_ _;go_wp2_with fail;subst hb;exact p _ _ _ _ (gA _) n2
end
def uR(m:Nat):St->List (Nat×Int)->List (Int×Bool)->List Tx->Option (St×List (Nat×Int)×List (Int×Bool))
 |s,ls,us,[]=>Ã (s,ls,us)
 |s,ls,us,t::r=>if(mh s ls t).2.1 then uR m ((mh s ls t).2.2.1.fy m<|wu<|((mh s ls t).2.2.1 m).fy+(mh s ls t).1.1) (mh s ls t).2.2.2 (us++[(mh s ls t).1]) r else Ä
def ams{s:St}(b:gL s)(x y:Nat)(c:0<=h):gL (xK s x y h).2:=by
 unfold xK;split
 .exact b
 .rename_i a;have:=(b.fy x).2;exact(b.r x ⟨Z,Z⟩).r y<|zw _
def amt{s:St}(a:gL s)(x:Nat)(e:B.size<=40/\∀c∈B.data.toList,xF c=Ý):gL (xL s x B).2:=by
 unfold xL;split
 .exact a
 .rename_i h;have:=(a.fy x).2;have d:=a.r x (b:=(s x).fy-20) ⟨Z,Z⟩;exact d.gh (d.fy x) (d.C x) e
structure M'(C:List (Nat×Int))(o:(Int×Bool)×Bool×St×List (Nat×Int)):Prop where
 g0:0<=o.1.1
 r:o.1.1<=400
 s:gL o.2.2.1
 C:o.2.2.2.length<=C.length+400
def amu{s:St}(f:gL s){d:List (Nat×Int)}(g:i<8)(l:j<8)(m:gf c)(p:(d.length:Int)+400<=1000000):M' d (zz s d i j h c):=by
 unfold zz;split
 .exact⟨Ø _,by show(0:Int)<=400;decide,f,ŋ _ _⟩
 .rename_i a;have q:=(f.fy i).2;have o:=f.r i (b:=(s i).fy-h) ⟨Z,Z⟩;have e:=MU _ d i j (h-10) c o g l m Z Z Z;have r:=e.r;have t:=e.C;have u:=e.I;exact⟨by show 0<=_+10;omega,by show _+10<=400;omega,e.N.r i<|zw _,by show(gp _ _ _ _ _ _).M.length<=_;omega⟩
def N_{s:St}(b:gL s){ls:List (Nat×Int)}{t:Tx}(a:t.Ok)(c:(ls.length:Int)+400<=1000000):M' ls (mh s ls t):=by
 unfold mh;split
 .exact⟨by show(0:Int)<=10;decide,by show(10:Int)<=400;decide,ams b _ _ a.I,ŋ _ _⟩
 .split
  .exact⟨by show(0:Int)<=20;decide,by show(20:Int)<=400;decide,amt b _ a.N,ŋ _ _⟩
  .exact amu b a.x a.y ⟨a.r,by have:=a.C;omega⟩ c
structure Dg(bp:Option Č)(n:Nat)(lW:List (Nat×Tx))(w:É):Prop where
 r:n=lW.length
 C:∀(j a:Nat) (t:Tx),lW[j]?=Ã (a,t)->∃tb te,bp=Ã ⟨tb,te,Ä⟩/\w.cell? ⟨tb,te+j,Ä⟩=Ã (Å<|Ã ⟨a,0,Ä⟩)/\lV a t w/\t.Ok
def Dg.I{b:List (Nat×Tx)}(h:Dg O n b w)(k:fg (λ_=>False) w u):Dg O n b u:= ⟨h.r,λj a t q=>by let⟨tb,c,d,e,f,g⟩:=h.C j a t q;exact⟨tb,c,d,k.r e id,f.S k id,g⟩⟩
def lI(a:List (Nat×Tx)):List Tx:=a.map (·.2)
section
variable{bp:Option Č}{cp:Nat}{lW:List (Nat×Tx)}{d:Option (St×List (Nat×Int)×List (Int×Bool))}
def To(n:Nat)(a:ë)(_:É):Nat:=match a.tmps.getD 27 ĉ with
 |Â _ i=>n-i.toNat
 |_=>0
def NI(b m i:Nat)(bp:Option Č)(n cp:Nat)(h:Int)(u:É)(lW:List (Nat×Tx))(d:Option (St×List (Nat×Int)×List (Int×Bool)))(a:ë)(w:É):Prop:=
 ∃(j:Nat) (s:St) (c:List (Nat×Int)) (e:List (Int×Bool)) (f g:Ç),Jf b m i bp n cp j a/\j<=n/\NX i h f g s c e u w/\gL s/\c.length<=400*j/\e.length=j/\uR m s c e ((lI lW).drop j)=d
def NE(b m i:Nat)(bp:Option Č)(n cp:Nat)(h:Int)(u:É)(d:Option (St×List (Nat×Int)×List (Int×Bool)))(a:ë)(w:É):Prop:=
 ∃(s:St) (c:List (Nat×Int)) (e:List (Int×Bool)) (f g:Ç),Jf b m i bp n cp n a/\NX i h f g s c e u w/\gL s/\d=Ã (s,c,e)
def NR(u:É)(d:Option (St×List (Nat×Int)×List (Int×Bool)))(a:ë)(w:É):Prop:=
 a.tmps.getD 6 ĉ=Å Ä/\a.defers=[]/\fg (λ_=>False) u w/\d=Ä
def amv(C:Dg bp n lW u)(L:iN u)(M:n<=1000)(X:m<8)(a:ë)(w:É)(Y:NI b m i bp n cp h u lW d a w): Î À Je (Exit.then (λo q=>NI b m i bp n cp h u lW d o q/\To n o q<To n a w)<|QN (NE b m i bp n cp h u d)<|NR u d) a w:=by
 let⟨j,s,r,N,lv,uv,hfr,hj,x,y,I4,LG,f⟩:=Y;obtain⟨c,rfl⟩:=hfr;by_cases D:j=n
 .have E:(lI lW).drop j=[]:=ģ (by unfold lI;rw[ξ,<-C.r];omega);rw[E]at f;refine amm c x j (by rw[D]) λa e=>⟨s,r,N,lv,uv,?_,x,y,f.symm⟩;rw[<-D];rw[D]at e|-;exact e
 .have F:j<n:=Z
  obtain⟨⟨a,t⟩,O⟩:∃p,lW[j]?=Ã p:=⟨_,Ñ<|by rwa[<-C.r]⟩;have E:(lI lW).drop j=t::(lI lW).drop (j+1):=by
   have g:(lI lW)[j]?=Ã t:=by unfold lI;rw[Ģ,O];rfl
   let⟨k,e⟩:=Ù.1 g;rw[Ę k,e]
  let⟨tb,P,Q,T,V,G⟩:=(C.I x.M).C j a t O;have H:(r.length:Int)+400<=1000000:=Z
  have k:=N_ y G H;rw[E]at f;unfold uR at f;obtain⟨g,l,I,z,e,J⟩:∃g l I z e,mh s r t=((g,l),I,z,e):=⟨_,_,_,_,_,U⟩;rw[J]at f k;have g0:=k.g0;have g1:g<=400:=k.r;have W:=k.s;have CC:e.length<=r.length+400:=k.C;cases I with
  |false=>
   simp only[Ğ,if_false]at f;exact amn c x j j U F M tb P a Q T t V G (L.r x.M id) y H g l z e J λo q B K v=>⟨B,K,v,f.symm⟩
  |true=>
   simp only[if_true]at f;refine amo c x j j U F M tb P a Q T t V G (L.r x.M id) y H g l z e J X W g0 Z Z λo q jD Tn B K=>⟨⟨j+1,_,e,N++[(g,l)],jD,Tn,by simpa using B,Z,K,W.r m<|zw _,Z,by simp[LG],f⟩,?_⟩;obtain⟨v,rfl⟩:=B;show n-((j:Int)+1).toNat<n-((j:Int)).toNat;omega
def xM(m:Nat)(s:St)(lW:List Tx):Option (St×List (Nat×Int)×List (Int×Bool)):=
 (uR m s [] [] lW).map λr=>(r.1.fy m<|wu<|(r.1 m).fy+50,r.2)
def FA(h:Int)(w:É)(r:Option (St×List (Nat×Int)×List (Int×Bool)))(e:aP)(a:É):Prop:=
 (r=Ä/\e=È (Å Ä)/\fg (λ_=>False) w a)\/
 ∃s b c i d f,r=Ã (s,b,c)/\e=È (Å<|Ã ⟨i,0,Ä⟩)/\NX i (h+1) d f s b c w a/\gL s
def amw{s:St}(e:mj b s h w)(hh0:0<=h)(hh1:h<=1000)(y:gL s)(z:Dg bp n lW w)(B:iN w)(J:n<=1000)(f:m<8): Ô À 115 #[Å<|Ã ⟨b,0,Ä⟩,Â Ë m,Ê bp n cp] w (FA h w<|xM m s<|lI lW):=by
 let⟨M,C,D⟩:=Ì.1 Tk;have E:(À.info? 140).map (·.size)=Ã (iz s).length:=by rw[sw];exact K_
 have k:=fi<|Á C<|Á D E;have F:=(e.r (fg.fU (λ_=>False) w) id).C;have G:=(e.r (fg.fU (λ_=>False) w) id).h;have mE:Ë.wrap (h+1)=h+1:=I2 Z Z;have c:=fi<|Á F G;have gH:=ä w _ e.h;have L:∀l a,NX w.heap.size (h+1) (Ê Ä 0 0) (Ê Ä 0 0) s [] [] w l->Jf b m w.heap.size bp n cp 0 a->Î À (ã Je) (QN (NE b m w.heap.size bp n cp (h+1) w<|uR m s [] []<|lI lW)<|NR w<|uR m s [] []<|lI lW) a l:=λl a x N=>
  Đ (NI b m w.heap.size bp n cp (h+1) w lW<|uR m s [] []<|lI lW) (To n) ⟨0,s,[],[],_,_,N,å _,x,y,ft,U,U⟩<|amv z B J f
 have H:=fi<|Á e L;have I:xM m s (lI lW)=(uR m s [] []<|lI lW).map λr=>(r.1.fy m<|wu<|(r.1 m).fy+50,r.2):=U;rw[I];clear C D F G e E L y z B I;generalize uR m s [] [] (lI lW)=d at*;go_enter Tryz.func115,Tryz.ntmps115;go_wp2_with fail;refine mg (λg=>g.rangeAt b 0 (iz s)/\g.cell? ⟨b,145,Ä⟩=Ã (Â Ë h)) [] fw ?_;refine tk 0 c.out ?_;refine tk 1 c.out ?_;refine tk 2 c.out ?_;refine tk 3 c.out ?_;refine I1 (i:=4) (oi:={dst:=Ã 16,op:=Go.Op.load 140<|ó 15,type:=140,pos:= "block.go:30",after:=#[{on:=3,ground:=ô}],guard:=Ä}) U fw fw fw fw (λ_ _ _ h=>h) c.out (yieldsIf_load_mid fR 140 _ U b 0 U (iz s) M (λw h=>h.1) k.out.1 k.out.2.1 k.out.2.2) ?_;refine I1 (i:=5) (oi:={dst:=Ã 17,op:=ς 144 #[(0,ó 16)],type:=144,pos:= "block.go:30",after:=#[{on:=4,ground:=ô}],guard:=Ä}) U fw fw fw fw (λ_ _ _ h=>h) c.out (Û ⟨fR,λ_ _=>Ti U U<|sw s⟩) ?_;refine tk 6 c.out ?_;refine tk 7 c.out ?_;refine tk 8 c.out ?_;refine tk 9 c.out ?_;refine tk 10 c.out ?_;refine I1 (i:=11) U fw fw fw fw (λ_ _ _ h=>h) c.out (Û ⟨fR,λ_ _=>amj U U U (by simp[sw]) U⟩) ?_;have g:=fi ((H.out.1.r (fg.fU (λ_=>False) w) id).r (fg.gI (λ_=>False) _ ((iz s++[Ê Ä 0 0])++[Â Ë<|h+1,Ê Ä 0 0]).toArray 147) id);refine gF 12 ?_;intro K o;rw[if_pos fR];unfold Ŏ;rw[J' U U,İ];refine o.out _ _ (λ_=>⟨g.out.C,g.out.h⟩) ?_;refine gF 13 ?_;intro K o;go_simp;refine o.out _ _ (λ_=>⟨g.out.C,g.out.h⟩) ?_;refine lU fw ?_ _;go_wp2_with fail;have O:=NX.iZ w s<|h+1;refine à ?_ (H.out.2 _ _ O (gA _));rintro(_|(_|_)|_|_|_|_) a v hq;all_goals first|exact absurd hq id|skip
 .let⟨p,P,Q,T,V,W,j,q,X⟩:=hq;subst X;have d1:=j.r.fy f;have f1:=fl.C j.r<|m*18;have CC:=fl.M j.r;have b0:=(q.fy m).1;have b1:=(q.fy m).2;have hm0:(0:Int)<=(m:Int):=Z
  have hm1:(m:Int)<8:=Z
  have t:=fi<|Á j q;generalize Y:(p m).fy=b at*;obtain⟨u,rfl⟩:=W;unfold zD;go_wp2_with fail;go_region;go_wp2_with fail;go_ret;refine Ü ⟨p.fy m<|wu<|(p m).fy+50,P,Q,w.heap.size,T,V,U,U,?_,t.out.2.r m<|zw _⟩;rw[Y];first
   |exact(t.out.1.fy f<|wu<|b+50).fN<|fg.fU _ _
   |exact(t.out.1.still<|Keep.drew _ _).fy f<|wu<|b+50
 .let⟨j,p,q,t⟩:=hq;simp only[Exit.inBlock,Exit.then];apply õ (results_tmp U _ _ _) p;exact Û ⟨by rw[t];rfl,by rw[j],q⟩
end
def qG(i:Nat):ByteArray:=if i<10 then⟨#[(48+i).toUInt8]⟩else⟨#[(48+i/10).toUInt8,(48+i%10).toUInt8]⟩
def amx:∀k:Fin 10,(⟨#[48,49,50,51,52,53,54,55,56,57,97,98,99,100,101,102,103,104,105,106,107,108,109,110,111,112,113,114,115,116,117,118,119,120,121,122]⟩:ByteArray).extract k.val (k.val+1)=qG k.val:=by decide+kernel
def amy:∀k:Fin 100,k.val<10\/(⟨#[48,48,48,49,48,50,48,51,48,52,48,53,48,54,48,55,48,56,48,57,49,48,49,49,49,50,49,51,49,52,49,53,49,54,49,55,49,56,49,57,50,48,50,49,50,50,50,51,50,52,50,53,50,54,50,55,50,56,50,57,51,48,51,49,51,50,51,51,51,52,51,53,51,54,51,55,51,56,51,57,52,48,52,49,52,50,52,51,52,52,52,53,52,54,52,55,52,56,52,57,53,48,53,49,53,50,53,51,53,52,53,53,53,54,53,55,53,56,53,57,54,48,54,49,54,50,54,51,54,52,54,53,54,54,54,55,54,56,54,57,55,48,55,49,55,50,55,51,55,52,55,53,55,54,55,55,55,56,55,57,56,48,56,49,56,50,56,51,56,52,56,53,56,54,56,55,56,56,56,57,57,48,57,49,57,50,57,51,57,52,57,53,57,54,57,55,57,56,57,57]⟩:ByteArray).extract (k.val*2) (k.val*2+2)=qG k.val:=by decide+kernel
def amz(i:Nat)(h:i<10)(w:É):Ô À 187 #[Â Ë i] w λe a=>e=È (Í<|qG i)/\a=w:=by
 have b:(0:Int)<=(i:Int):=Z
 have c:(i:Int)<10:=Z
 go_enter Δ,au;go_wp2;all_goals go_ret
 refine⟨Z6 ?_,U⟩;exact amx ⟨i,h⟩
def amA(i:Nat)(h:i<100)(b:10<=i)(w:É):Ô À 187 #[Â Ë i] w λe a=>e=È (Í<|qG i)/\a=w:=by
 have c:(0:Int)<=(i:Int):=Z
 have d:(i:Int)<100:=Z
 have f:¬(i:Int)<10:=Z
 go_enter Δ,au;go_wp2;all_goals go_ret
 refine⟨Z6 ?_,U⟩;exact(amy ⟨i,h⟩).resolve_left<|by show¬i<10;omega
def amB(i:Nat)(h:i<100)(w:É):Ô À 187 #[Â Ë i] w λe a=>e=È (Í<|qG i)/\a=w:=by
 by_cases b:i<10
 .exact amz i b w
 .exact amA i h Z w
def amC(i:Nat)(h:i<100)(w:É):Ô À 171 #[Â Ë i,Â Ë 10] w λe a=>e=È (Í<|qG i)/\a=w:=by
 have b:(0:Int)<=(i:Int):=Z
 have c:(i:Int)<100:=Z
 go_enter Tryz.func171,Tryz.ntmps171;go_wp2_with (go_at_call 187;refine(amB i h _).mono ?_;rintro e a ⟨rfl,rfl⟩);go_ret;exact⟨U,U⟩
def N'(i:Nat)(h:i<100)(w:É):Ô À 117 #[Â Ë i] w λe a=>e=È (Í<|qG i)/\a=w:=by
 go_enter Tryz.func117,Tryz.ntmps117;go_wp2_with (first
  |(go_at_call 171;refine(amC i h _).mono ?_;rintro e a ⟨rfl,rfl⟩)
  |go_in)
 go_ret;exact⟨U,U⟩
def pz(i:Nat):ByteArray:=⟨#[33]⟩++qG i
def FB(i:Nat)(h:i<10)(w:É):Ô À 114 #[Â Ë i] w λe a=>e=È (Í<|pz i)/\a=w:=by
 have b:(qG i).size=1:=by unfold qG;rw[if_pos h];rfl
 go_enter Tryz.func114,Tryz.ntmps114;go_wp2_with (go_at_call 117;refine(N' i Z _).mono ?_;rintro e a ⟨rfl,rfl⟩);go_ret;exact⟨U,U⟩
def tb(n c:Nat):Nat:=(n^^^c)*1099511628211%18446744073709551616
def MX(n c:Nat):tb n c<18446744073709551616:=bl _ Z
def O_(n c:Nat)(a:n<18446744073709551616)(f:c<256)(w:É):Ô À 178 #[Â Æ n,Â bx c] w λe b=>e=È (Â Æ<|tb n c)/\b=w:=by
 go_enter Tryz.func178,Tryz.ntmps178;go_wp2_with fail;go_ret;refine⟨?_,U⟩;have d:Æ.wrap (((n^^^c:Nat):Int)*1099511628211)=((tb n c:Nat):Int):=by rw[Ο];unfold tb;omega
 rw[bits_xor_u64_nat n c a Z,d];rfl
def tn(m:Nat):Nat->Nat->Nat
 |n,0=>n
 |n,j+1=>tn m (tb n<|m/2^(8*j)%256) j
def P_(m:Nat):∀(j n:Nat),n<18446744073709551616->tn m n j<18446744073709551616
 |0,_,h=>h
 |j+1,_,_=>P_ m j _<|MX _ _
noncomputable def MY:Ş:=(Tryz.f177.body.bind kF).getD Ń
def FC(m n:Nat)(i:Int)(u:Nat->Ç):ë:=⟨#[Â Æ n,Â Æ m,u 2,u 3,u 4,Â Ë i,u 6,u 7,u 8,u 9,u 10,u 11,u 12,u 13,u 14,u 15,u 16],[]⟩
def FD(m n:Nat)(i:Int)(a:ë):Prop:=∃u,a=FC m n i u
section
variable{X:ë->É->Prop}
def amD(m n j:Nat)(f:j<8)(d:n<18446744073709551616)(g:m<18446744073709551616)(u:Nat->Ç)(b:∀a,FD m (tb n<|m/2^(8*j)%256) (((8*j:Nat):Int)-8) a->K a w): Î À MY (Exit.then K<|QQ X) (FC m n (8*j:Nat) u) w:=by
 unfold FC;conv=>arg 2;whnf
 have h:(0:Int)<=((8*j:Nat):Int):=Z
 have i:((8*j:Nat):Int)<64:=Z
 have T:=O_ n (m/2^(8*j)%256) d Z w;generalize 8*j=j8 at*;have c:((m/2^j8%256:Nat):Int)=(m:Int)/2^j8%256:=ft
 rw[c]at T;have H:=fi<|Á T b;clear T b c;go_wp2_with (go_at_call 178;apply H.out.1.mono;rintro e k ⟨rfl,rfl⟩);exact H.out.2 _ (gA _)
def amE(m n:Nat)(u:Nat->Ç)(b:∀a,FD m n (-8) a->X a w): Î À MY (Exit.then K<|QQ X) (FC m n (-8) u) w:=by
 unfold FC;conv=>arg 2;whnf
 go_wp2_with fail
 exact b _ (gA _)
def TI(m:Nat)(b:É)(c:Nat)(a:ë)(w:É):Prop:=∃n j:Nat,FD m n (((8*j:Nat):Int)-8) a/\j<=8/\n<18446744073709551616/\w=b/\tn m n j=c
def TE(m:Nat)(b:É)(c:Nat)(a:ë)(w:É):Prop:=FD m c (-8) a/\w=b
def MZ(a:ë)(_:É):Nat:=match a.tmps.getD 5 ĉ with
 |Â _ i=>(i+8).toNat
 |_=>0
def P'(b:FD m n h y):MZ y w=(h+8).toNat:=by obtain⟨u,rfl⟩:=b;rfl
def amF(f:m<18446744073709551616)(a:ë)(w:É)(g:TI m u i a w): Î À MY (Exit.then (λb e=>TI m u i b e/\MZ b e<MZ a w)<|QQ<|TE m u i) a w:=by
 obtain⟨n,j,c,l,h,rfl,d⟩:=g;have k:=P' (w:=w) c;rw[k];obtain⟨b,rfl⟩:=c;cases j with
 |zero=>
  subst d;exact amE m n b λa q=>⟨q,U⟩
 |succ j=>
  have e:(((8*(j+1):Nat):Int)-8)=((8*j:Nat):Int):=Z
  rw[e];refine amD m n j Z h f b λa q=>⟨⟨_,j,q,Z,MX _ _,U,d⟩,?_⟩;rw[P' q];omega
end
def oH(n m:Nat):Nat:=tn m n 8
def FE(n m:Nat)(a:n<18446744073709551616):oH n m<18446744073709551616:=P_ m 8 n a
def Jg(n m:Nat)(b:n<18446744073709551616)(c:m<18446744073709551616)(w:É):Ô À 177 #[Â Æ n,Â Æ m] w λe d=>e=È (Â Æ<|oH n m)/\d=w:=by
 have L:∀a,FD m n 56 a->Î À (ã MY) (QQ<|TE m w<|oH n m) a w:=λa f=>
  Đ (TI m w<|oH n m) MZ ⟨n,8,f,ß _,b,U,U⟩<|amF c
 have H:=fi L;generalize oH n m=r at*;go_enter Tryz.func177,Tryz.ntmps177;go_wp2_with fail;refine à ?_ (H.out _ (gA _));rintro(_|(_|_)|_|_|_|_) a v hq;all_goals first|exact absurd hq id|skip
 obtain⟨g,rfl⟩:=hq;obtain⟨u,rfl⟩:=g;unfold FC;go_wp2_with fail;go_ret;exact⟨U,U⟩
def Jh(p q:Nat):Nat:=oH (oH 14695981039346656037 p) q
def amG(p q:Nat):Jh p q<18446744073709551616:=FE _ _<|FE _ _ Z
noncomputable def Ji:Ş:=(Tryz.f162.body.bind kF).getD Ń
noncomputable def Jj:Ş:=(kF Ji).getD Ń
def Q2(X:ë->É->Prop):bu->ë->É->Prop
 |.exit 2,a,w=>X a w
 |_,_,_=>False
def vI(b c d:Nat)(a:Nat)(i:Int)(u:Nat->Ç):ë:=⟨#[Ê (Ã ⟨b,0,Ä⟩) c d,u 1,u 2,Â Ë a,u 4,u 5,u 6,u 7,u 8,u 9,u 10,Â Ë a,Â Ë i,u 13,u 14,u 15,u 16,u 17,u 18,u 19,u 20,u 21,u 22,u 23,u 24,u 25,u 26,u 27,u 28,u 29,u 30,u 31,u 32,u 33,u 34,u 35,u 36,u 37],[]⟩
def Dh(b c d:Nat)(e:Nat)(i:Int)(a:ë):Prop:=∃u,a=vI b c d e i u
section
variable{X:ë->É->Prop}{cp:Nat}
def amH(u:Nat->Ç)(c:∀a,Dh b n cp i i a->X a w): Î À Jj (Exit.then K<|Q2 X) (vI b n cp i i u) w:=by
 unfold vI;conv=>arg 2;whnf
 go_wp2_with fail
 exact c _ (gA _)
def amI(c p q z:Nat)(k:Jh p q=z)(t:c<i)(x:2*i<=n)(y:n<=16)(l:p<18446744073709551616)(m:q<18446744073709551616)(u:Nat->Ç) (o:w.cell? ⟨b,2*c,Ä⟩=Ã (Â Æ p)) (r:w.cell? ⟨b,2*c+1,Ä⟩=Ã (Â Æ q)) (h:∃v,w.cell? ⟨b,c,Ä⟩=Ã v) (B:w.frozen? ⟨b,c,Ä⟩=Ï) (f:∀a,Dh b n cp i ((c+1:Nat):Int) a->K a (w.setCell ⟨b,c,Ä⟩<|Â Æ z).drew): Î À Jj (Exit.then K<|Q2 X) (vI b n cp i c u) w:=by
 unfold vI;conv=>arg 2;whnf
 subst k;unfold Jh at f;let⟨C,h⟩:=h;have D:(0:Int)<=(c:Int):=Z
 have E:(c:Int)<(i:Int):=Z
 have F:(2:Int)*(c:Int)+1<(n:Int):=Z
 have G:(n:Int)<=16:=Z
 have H:((2:Int)*(c:Int)).toNat=2*c:=Z
 have I:((2:Int)*(c:Int)+1).toNat=2*c+1:=Z
 have J:Ë.wrap (2*(c:Int))=2*(c:Int):=I2 Z Z;have j:Ë.wrap (2*(c:Int)+1)=2*(c:Int)+1:=I2 Z Z;have L:(0:Int)<=2*(c:Int):=Z
 have M:2*(c:Int)<(n:Int):=Z
 have N:(0:Int)<=2*(c:Int)+1:=Z
 have O:(c:Int)<(n:Int):=Z
 have s:=fi f;clear f;go_wp2_with fail;have d:=fi<|Á o r;refine mg (λe=>e.cell? ⟨b,2*c,Ä⟩=Ã (Â Æ p)/\e.cell? ⟨b,2*c+1,Ä⟩=Ã (Â Æ q)) [16] fw ?_;refine tk 0 d.out ?_;refine tk 1 d.out ?_;refine tk 2 d.out ?_;refine tk 3 d.out ?_;refine tk 4 d.out ?_;refine tk 5 d.out ?_;refine tk 6 d.out ?_;refine tk 8 d.out ?_;refine tk 9 d.out ?_;refine tk 10 d.out ?_;refine tk 11 d.out ?_;refine tk 12 d.out ?_;refine tk 13 d.out ?_;refine gF 7 ?_;intro K f;go_simp;go_at_call 177;refine(Jg 14695981039346656037 p Z l _).mono ?_;rintro e g ⟨rfl,j⟩;subst g;refine f.out _ _ (λ_=>d.out) ?_;refine gF 14 ?_;intro K f;go_simp;go_at_call 177;refine(Jg (oH 14695981039346656037 p) q (FE _ _ Z) m _).mono ?_;rintro e g ⟨rfl,j⟩;subst g;refine f.out _ _ (λ_=>d.out) ?_;refine gF 15 ?_;intro K f;go_simp;refine f.out _ _ (λ_=>d.out) ?_;refine gF 16 ?_;intro K f;go_simp;refine f.out _ _ (λq=>absurd ft q) ?_;refine lU fw ?_ _;go_wp2_with fail;exact s.out _ (gA _)
end
def pr(l:List Nat)(t:Nat):Nat:=Jh (l.getD (2*t) 0)<|l.getD (2*t+1) 0
def Q_(l:List Nat)(t:Nat):Jh (l.getD (2*t) 0) (l.getD (2*t+1) 0)=pr l t:=by unfold pr;exact Eq.refl _
def jS(l:List Nat)(i:Nat):List Nat:=(Ĉ l.length).map λt=>if t<i then pr l t else l.getD t 0
def uS(l:List Nat):List Nat:=(Ĉ<|l.length/2).map<|pr l
def ku(l:List Nat):List Ç:=l.map λ(x:Nat)=>Â Æ x
def sx(l:List Nat):Prop:=∀t,l.getD t 0<18446744073709551616
def Di(l:List Nat)(i:Nat):(jS l i).length=l.length:=by simp[jS]
def Jk(l:List Nat)(i t:Nat)(h:t<l.length):(jS l i)[t]?=Ã (if t<i then pr l t else l.getD t 0):=by simp[jS,ø h]
def amJ(l:List Nat):jS l 0=l:=by
 refine Ą λt=> ?_;by_cases h:t<l.length
 .rw[Jk l 0 t h,if_neg Z,ö,Ñ h];rfl
 .rw[Ö (by rw[Di];omega),Ö Z]
def amK(l:List Nat)(i:Nat)(h:i<l.length):(jS l i).set i (pr l i)=jS l (i+1):=by
 refine Ą λt=> ?_;by_cases a:t<l.length
 .rw[Jk l (i+1) t a,ń];by_cases e:i=t
  .subst e;rw[if_pos U,if_pos (by rwa[Di]),if_pos Z]
  .rw[if_neg e,Jk l i t a];by_cases q:t<i
   .rw[if_pos q,if_pos Z]
   .rw[if_neg q,if_neg Z]
 .rw[Ö (by rw[ě,Di];omega),Ö (by rw[Di];omega)]
def amL(l:List Nat):jS l (l.length/2)=uS l++l.drop (l.length/2):=by
 refine Ą λt=> ?_;have a:(uS l).length=l.length/2:=by simp[uS]
 by_cases b:t<l.length
 .rw[Jk _ _ t b];by_cases q:t<l.length/2
  .rw[if_pos q,â Z];simp[uS,ø q]
  .rw[if_neg q,Þ Z,List.getElem?_drop,a,show l.length/2+(t-l.length/2)=t by omega,ö,Ñ b];rfl
 .rw[Ö (by rw[Di];omega),Ö (by rw[Ó,a,Μ];omega)]
def amM(l:List Nat)(t:Nat):pr l t<18446744073709551616:=by rw[<-Q_];exact amG _ _
def M0{N:Nat}(a:0<N)(h:∀x∈jJ,x<N)(t:Nat):jJ.getD t 0<N:=by
 rw[ö];cases e:jJ[t]? with
 |none=>exact a
 |some x=>exact h x<|ü e
def Q'(l:List Nat):sx (uS l):=M0 Z λx a=>by unfold uS at a;obtain⟨t,_,rfl⟩:=ķ.1 a;exact amM l t
def sy:Nat->List Nat->Nat
 |0,l=>l.getD 0 0
 |k+1,l=>sy k<|uS l
def Tp(l:List Nat)(i x:Nat):ku (l.set i x)=(ku l).set i (Â Æ x):=by simp[ku,List.map_set]
def Jl(l:List Nat)(i x:Nat)(h:l[i]?=Ã x):(ku l)[i]?=Ã (Â Æ x):=by simp[ku,h]
section
variable{cp:Nat}{l:List Nat}{junk:List Ç}
def II(b n cp i:Nat)(T:ú)(l:List Nat)(junk:List Ç)(d:É)(a:ë)(w:É):Prop:=
 ∃c:Nat,Dh b n cp i c a/\c<=i/\fg (λk=>k=b) d w/\fl b (ku (jS l c)++junk) T w
def IE(b n cp i:Nat)(T:ú)(l:List Nat)(junk:List Ç)(c:É)(a:ë)(w:É):Prop:=
 Dh b n cp i i a/\fg (λk=>k=b) c w/\fl b (ku (jS l i)++junk) T w
def M1(i:Nat)(a:ë)(_:É):Nat:=match a.tmps.getD 12 ĉ with
 |Â _ b=>i-b.toNat
 |_=>0
def R_(c:Dh b n cp i j y):M1 i y w=i-j:=by obtain⟨u,rfl⟩:=c;show i-(j:Int).toNat=_;simp
def amN(g:sx l)(r:l.length=n)(s:2*i=n)(m:n<=16)(a:ë)(w:É)(o:II b n cp i T l junk u a w): Î À Jj (Exit.then (λc d=>II b n cp i T l junk u c d/\M1 i c d<M1 i a w)<|Q2<|IE b n cp i T l junk u) a w:=by
 let⟨c,h,v,j,e⟩:=o;rw[R_ h];obtain⟨d,rfl⟩:=h;by_cases p:c=i
 .subst p;exact amH d λa q=>⟨q,j,e⟩
 .have f:=λt x y=>
   e.r t _<|by rw[â (by simp[ku,Di];omega)];exact Jl _ _ _<|by rw[Jk l c t Z,if_neg Z]
  refine amI c (l.getD (2*c) 0) (l.getD (2*c+1) 0) (pr l c) (Q_ l c) Z Z m (g _) (g _) d (f _ Z Z) (f _ Z Z) ⟨_,f c Z Z⟩ (e.C c) λa q=>⟨⟨c+1,q,Z,(j.fj<|fg.I (X:=λk=>k=b) U _).fj<|fg.fU _ _,?_⟩,by rw[R_ q];omega⟩;have k:=(e.gh c<|Â Æ<|pr l c).I (fg.fU (λ_=>False) _) id;rw[<-amK l c Z,Tp,<-ĩ _ _ (by simp[ku,Di];omega)];exact k
def amO(c:sx l)(d:l.length=n)(e:2*i=n)(f:n<=16)(g:fl b (ku l++junk) T w)(h:Dh b n cp i (0:Nat) y): Î À (ã Jj) (Q2<|IE b n cp i T l junk w) y w:= Đ (II b n cp i T l junk w) (M1 i) ⟨0,h,å _,fg.fW _ _,by rwa[amJ]⟩<|amN c d e f
end
def FF(b a c:Nat)(u:Nat->Ç):ë:=⟨#[Ê (Ã ⟨b,0,Ä⟩) a c,u 1,u 2,u 3,u 4,u 5,u 6,u 7,u 8,u 9,u 10,u 11,u 12,u 13,u 14,u 15,u 16,u 17,u 18,u 19,u 20,u 21,u 22,u 23,u 24,u 25,u 26,u 27,u 28,u 29,u 30,u 31,u 32,u 33,u 34,u 35,u 36,u 37],[]⟩
def FG(b c d:Nat)(a:ë):Prop:=∃u,a=FF b c d u
section
variable{cp:Nat}{l:List Nat}{junk:List Ç}
def amP(c:n=1)(u:Nat->Ç)(d:∀a,FG b n cp a->H a w): Î À Ji (Exit.then K<|QQ H) (FF b n cp u) w:=by
 unfold FF;conv=>arg 2;whnf
 subst c;go_wp2_with fail;exact d _ (gA _)
def amQ(u:Nat->Ç)(g:sx l)(h:l.length=n)(j:2*i=n)(s:0<i)(m:n<=16)(t:n<=cp)(d:fl b (ku l++junk) T w) (o:∀a e,FG b i cp a->fg (λk=>k=b) w e->fl b (ku (jS l i)++junk) T e->K a e): Î À Ji (Exit.then K<|QQ H) (FF b n cp u) w:=by
 have L:∀a,Dh b n cp i (0:Nat) a->Î À (ã Jj) (Q2<|IE b n cp i T l junk w) a w:=λa p=>amO g h j m d p;unfold FF;conv=>arg 2;whnf
 have x:(1:Int)<(n:Int):=Z
 have y:(n:Int).tdiv 2=(i:Int):=by rw[Int.tdiv_eq_ediv_of_nonneg Z];omega
 have z:(0:Int)<=(i:Int):=Z
 have B:(i:Int)<=(cp:Int):=Z
 have c:=fi<|Á L o;go_wp2_with fail;refine à ?_ (c.out.1 _ (gA _));rintro(_|(_|_|_|_)|_|_|_|_) a v hq;all_goals first|exact absurd hq id|skip
 let⟨q,r,d⟩:=hq;obtain⟨u,rfl⟩:=q;unfold vI;have f:=fi<|Á r d;go_wp2_with fail;exact c.out.2 _ _ (gA _) f.out.1 f.out.2
def OI(b cp:Nat)(T:ú)(c:É)(d:Nat)(a:ë)(w:É):Prop:=
 ∃(k:Nat) (l:List Nat) (junk:List Ç),FG b l.length cp a/\l.length=2^k/\l.length<=16/\l.length<=cp/\sx l/\fg (λk=>k=b) c w/\fl b (ku l++junk) T w/\sy k l=d
def OE(b cp:Nat)(c:É)(d:Nat)(a:ë)(w:É):Prop:=FG b 1 cp a/\1<=cp/\fg (λk=>k=b) c w/\w.cell? ⟨b,0,Ä⟩=Ã (Â Æ d)
def M3(a:ë)(_:É):Nat:=match a.tmps.getD 0 ĉ with
 |Ê _ n _=>n
 |_=>0
def R'(c:FG b n cp y):M3 y w=n:=by obtain⟨u,rfl⟩:=c;rfl
def amR(a:ë)(w:É)(r:OI b cp T u i a w): Î À Ji (Exit.then (λc d=>OI b cp T u i c d/\M3 c d<M3 a w)<|QQ<|OE b cp u i) a w:=by
 let⟨k,l,junk,g,h,s,t,v,j,m,n⟩:=r;rw[R' g];obtain⟨c,rfl⟩:=g;cases k with
 |zero=>
  have e:=h;have f:w.cell? ⟨b,0,Ä⟩=Ã (Â Æ<|l.getD 0 0):=m.r 0 _ (by rw[â (by simp[ku];omega)];exact Jl _ _ _<|by rw[ö,Ñ Z];rfl);have o:l.getD 0 0=i:=n;rw[o]at f;refine amP e c λa q=>⟨by rwa[e]at q,Z,j,f⟩
 |succ k=>
  have x:2*2^k=l.length:=by rw[h,Nat.pow_succ];omega
  have y:0<2^k:=Nat.pow_pos Z;have f:l.length/2=2^k:=Z
  have o:(uS l).length=2^k:=by simp[uS,f]
  refine amQ c v U x y s t m λa d q z p=>⟨⟨k,uS l,ku (l.drop<|l.length/2)++junk,by rwa[o],o,Z,Z,Q' l,j.fj z,?_,n⟩,by rw[R' q];omega⟩;have e:=amL l;rw[f]at e;rw[e]at p;rw[f,<-þ];simpa[ku]using p
end
def S_{cp:Nat}{l:List Nat}{junk:List Ç}(c:l.length=2^k)(d:l.length<=16)(f:l.length<=cp)(g:sx l)(h:fl b (ku l++junk) T w): Ô À 162 #[Ê (Ã ⟨b,0,Ä⟩) l.length cp] w λe a=>e=È (Â Æ<|sy k l)/\fg (λi=>i=b) w a:=by
 have L:∀a,FG b l.length cp a->Î À (ã Ji) (QQ<|OE b cp w<|sy k l) a w:=λa e=>
  Đ (OI b cp T w<|sy k l) M3 ⟨k,l,junk,e,c,d,f,g,fg.fW _ _,h,U⟩ amR
 have H:=fi L;generalize sy k l=r at*;generalize l.length=n at*;go_enter Tryz.func162,Tryz.ntmps162;go_wp2_with fail;refine à ?_ (H.out _ (gA _));rintro(_|(_|_)|_|_|_|_) a v hq;all_goals first|exact absurd hq id|skip
 let⟨i,o,j,p⟩:=hq;obtain⟨u,rfl⟩:=i;unfold FF;have m:=fi j;go_wp2_with fail;go_ret;exact⟨U,m.out⟩
def amS:À.underlying 118=Ã (.array 16 36):=fw
def amT(w:É)(c:i<16)(e:d[i]?=Ã (Â Æ h)):(η 118 (ė d)<|Â Ë (i:Int)).run À w=aA (Â Æ h) w:=by
 have a:(0:Int)<=(i:Int):=Z
 have b:(i:Int)<16:=Z
 simp[η,Ũ amS,asIntOf,go_sem,a,b];go_simp
noncomputable def Jm:Ş:=(bD.body.bind kF).getD Ń
def FH(c o b:Nat)(a:Array Ç)(i:Int)(u:Nat->Ç):ë:=⟨#[Å<|Ã ⟨c,o,Ä⟩,u 1,u 2,Å<|Ã ⟨b,0,Ä⟩,u 4,u 5,u 6,u 7,u 8,u 9,u 10,ė a,Â Ë i,u 13,u 14,u 15,u 16,u 17,u 18,u 19,u 20,u 21,u 22,u 23,u 24,u 25,u 26,u 27,u 28,u 29,u 30,u 31,u 32,u 33,u 34,u 35,u 36,u 37,u 38,u 39,u 40,u 41,u 42,u 43,u 44,u 45,u 46,u 47],[]⟩
def Dj(d o b:Nat)(c:Array Ç)(i:Int)(a:ë):Prop:=∃u,a=FH d o b c i u
section
variable{X:ë->É->Prop}
def amU(u:Nat->Ç)(c:∀a,Dj n i b d 16 a->X a w): Î À Jm (Exit.then K<|QQ X) (FH n i b d 16 u) w:=by
 unfold FH;conv=>arg 2;whnf
 go_wp2_with fail
 exact c _ (gA _)
def amV(c p z:Nat)(j:oH 14695981039346656037 p=z)(k:c<16)(l:p<18446744073709551616)(f:d[c]?=Ã (Â Æ p))(g:∃v,w.cell? ⟨b,c,Ä⟩=Ã v)(o:w.frozen? ⟨b,c,Ä⟩=Ï)(u:Nat->Ç) (h:∀a,Dj n i b d ((c+1:Nat):Int) a->K a (w.setCell ⟨b,c,Ä⟩<|Â Æ z)): Î À Jm (Exit.then K<|QQ X) (FH n i b d c u) w:=by
 unfold FH;conv=>arg 2;whnf
 let⟨q,g⟩:=g;have r:(0:Int)<=(c:Int):=Z
 have s:(c:Int)<16:=Z
 have t:=λW=>amT W k f;have m:=fi h;clear h f;go_wp2_with (go_at_call 177;refine(Jg 14695981039346656037 p Z l _).mono ?_;rintro e x ⟨rfl,rfl⟩;rw[j]);exact m.out _ (gA _)
def lf(x:Nat):Nat:=oH 14695981039346656037 x
def M4(x:Nat):lf x<18446744073709551616:=FE _ _ Z
def S'(x:Nat):oH 14695981039346656037 x=lf x:=by unfold lf;exact Eq.refl _
def oI(l:List Nat)(i:Nat):List Nat:=(Ĉ 16).map λt=>if t<i then lf (l.getD t 0)else 0
def Dk(l:List Nat)(i:Nat):(oI l i).length=16:=by simp[oI]
def Tq(l:List Nat)(i t:Nat)(h:t<16):(oI l i)[t]?=Ã (if t<i then lf (l.getD t 0)else 0):=by simp[oI,ø h]
def amW(l:List Nat)(i:Nat)(h:i<16):(oI l i).set i (lf<|l.getD i 0)=oI l (i+1):=by
 refine Ą λt=> ?_;by_cases a:t<16
 .rw[Tq l (i+1) t a,ń];by_cases e:i=t
  .subst e;rw[if_pos U,if_pos (by rwa[Dk]),if_pos Z]
  .rw[if_neg e,Tq l i t a];by_cases q:t<i
   .rw[if_pos q,if_pos Z]
   .rw[if_neg q,if_neg Z]
 .rw[Ö (by rw[ě,Dk];omega),Ö (by rw[Dk];omega)]
def T_(l:List Nat):sx (oI l 16):=M0 Z λx a=>by
 unfold oI at a;obtain⟨t,_,rfl⟩:=ķ.1 a;split
 .exact M4 _
 .omega
def AI(n i b:Nat)(l:List Nat)(d:É)(a:ë)(w:É):Prop:=
 ∃c:Nat,Dj n i b (ku l).toArray c a/\c<=16/\fg (λk=>k=b) d w/\fl b (ku<|oI l c) 118 w
def AE(n i b:Nat)(l:List Nat)(c:É)(a:ë)(w:É):Prop:=
 Dj n i b (ku l).toArray 16 a/\fg (λk=>k=b) c w/\fl b (ku<|oI l 16) 118 w
def M5(a:ë)(_:É):Nat:=match a.tmps.getD 12 ĉ with
 |Â _ i=>16-i.toNat
 |_=>0
def U_(c:Dj n i b d j y):M5 y w=16-j:=by obtain⟨u,rfl⟩:=c;show 16-(j:Int).toNat=_;simp
def amX(h:sx jJ)(r:jJ.length=16)(a:ë)(w:É)(j:AI n i b jJ u a w): Î À Jm (Exit.then (λc d=>AI n i b jJ u c d/\M5 c d<M5 a w)<|QQ<|AE n i b jJ u) a w:=by
 let⟨c,f,s,g,e⟩:=j;rw[U_ f];obtain⟨d,rfl⟩:=f;by_cases m:c=16
 .subst m;exact amU d λa q=>⟨q,g,e⟩
 .have o:=e.r c _ (Jl _ _ _<|by rw[Tq jJ c c Z,if_neg Z]);have p:(ku jJ).toArray[c]?=Ã (Â Æ<|jJ.getD c 0):=by
   rw[Ŝ];exact Jl _ _ _<|by rw[ö,Ñ Z];rfl
  refine amV c (jJ.getD c 0) (lf<|jJ.getD c 0) (S' _) Z (h _) p ⟨_,o⟩ (e.C c) d λa q=>⟨⟨c+1,q,Z,g.fj (fg.I (X:=λk=>k=b) U _),?_⟩,by rw[U_ q];omega⟩;have k:=e.gh c<|Â Æ<|lf<|jJ.getD c 0;rwa[<-amW jJ c Z,Tp]
def amY{l:List Nat}(c:sx l)(d:l.length=16)(e:fl b (ku<|oI l 0) 118 w)(f:Dj n i b (ku l).toArray (0:Nat) y): Î À (ã Jm) (QQ<|AE n i b l w) y w:= Đ (AI n i b l w) M5 ⟨0,f,å _,fg.fW _ _,e⟩<|amX c d
end
def Dl:Ş->List Ş
 |ã c=>[c]
 |.seq a b=>Dl a++Dl b
 |.block _ c=>Dl c
 |.scope c=>Dl c
 |.cond _ a b=>Dl a++Dl b
 |_=>[]
noncomputable def Jn:Ş:=((bD.body.map Dl).getD []).getD 1 Ń
def FI(a o:Nat)(P:ByteArray)(n:Nat)(i:Int)(u:Nat->Ç):ë:=⟨#[Å<|Ã ⟨a,o,Ä⟩,u 1,u 2,u 3,u 4,u 5,Â Æ n,u 7,u 8,u 9,u 10,u 11,u 12,u 13,u 14,u 15,u 16,u 17,u 18,u 19,u 20,u 21,u 22,u 23,u 24,u 25,u 26,u 27,u 28,u 29,u 30,u 31,u 32,u 33,Â Ë P.size,Â Ë i,u 36,u 37,u 38,u 39,u 40,u 41,u 42,u 43,u 44,u 45,u 46,u 47],[]⟩
def Dm(b o:Nat)(P:ByteArray)(n:Nat)(i:Int)(a:ë):Prop:=∃u,a=FI b o P n i u
def zE(n:Nat)(l:List UInt8):Nat:=l.foldl (λn c=>tb n c.toNat) n
def amZ(b:Nat)(c:Int)(d:c=B.size)(u:Nat->Ç)(e:∀a,Dm n i B b c a->H a w): Î À Jn (Exit.then K<|Q2 H) (FI n i B b c u) w:=by
 unfold FI;conv=>arg 2;whnf
 subst d;go_wp2_with fail;exact e _ (gA _)
def am0{B:ByteArray}{c:UInt8}(w:É)(a:B.data.toList[i]?=Ã c):(η 9 (Í B)<|Â Ë (i:Int)).run À w=aA (Â bx (c.toNat:Nat)) w:=by
 have e:(0:Int)<=(i:Int):=Z
 let⟨b,d⟩:=Ù.1 a;have f:i<B.size:=by simpa using b
 have g:B[i]=c:=by rw[<-d];exact(Array.getElem_toList _).symm
 go_simp
def am1(b d z:Nat)(c:UInt8)(g:tb b c.toNat=z)(l:d<B.size)(m:B.size<=1000000)(k:b<18446744073709551616)(h:B.data.toList[d]?=Ã c)(o:w.cell? ⟨n,i+1,Ä⟩=Ã (Í B))(u:Nat->Ç) (j:∀a,Dm n i B z ((d+1:Nat):Int) a->K a w): Î À Jn (Exit.then K<|Q2 H) (FI n i B b d u) w:=by
 unfold FI;conv=>arg 2;whnf
 have p:(0:Int)<=(d:Int):=Z
 have q:(d:Int)<(B.size:Int):=Z
 have r:(B.size:Int)<=1000000:=Z
 have s:=λW=>am0 W h;have t:=c.toNat_lt;have T:=O_ b c.toNat k Z w;rw[g]at T;generalize c.toNat=cn at*;have f:=fi<|Á T j;clear j T h g;go_wp2_with (go_at_call 178;apply f.out.1.mono;rintro e v ⟨rfl,rfl⟩);exact f.out.2 _ (gA _)
def BI(n i:Nat)(B:ByteArray)(d:É)(e:Nat)(a:ë)(w:É):Prop:=
 ∃b c:Nat,Dm n i B b c a/\c<=B.size/\b<18446744073709551616/\w=d/\zE b (B.data.toList.drop c)=e
def BE(n i:Nat)(B:ByteArray)(b:É)(c:Nat)(a:ë)(w:É):Prop:=Dm n i B c B.size a/\w=b
def M6(m:Nat)(a:ë)(_:É):Nat:=match a.tmps.getD 35 ĉ with
 |Â _ i=>m-i.toNat
 |_=>0
def U'(c:Dm n i B j b y):M6 m y w=m-b:=by obtain⟨u,rfl⟩:=c;show m-(b:Int).toNat=_;simp
def am2(h:B.size<=1000000)(k:u.cell? ⟨n,i+1,Ä⟩=Ã (Í B))(a:ë)(w:É)(l:BI n i B u j a w): Î À Jn (Exit.then (λb c=>BI n i B u j b c/\M6 B.size b c<M6 B.size a w)<|Q2<|BE n i B u j) a w:=by
 obtain⟨b,c,f,p,m,rfl,e⟩:=l;rw[U' f];obtain⟨d,rfl⟩:=f;have r:B.data.toList.length=B.size:=ft
 by_cases o:c=B.size
 .rw[ģ Z]at e;subst e;exact amZ b c Z d λa q=>⟨by rwa[o]at q,U⟩
 .have g:c<B.data.toList.length:=Z
  rw[Ę g]at e;refine am1 b c (tb b (B.data.toList[c]).toNat) (B.data.toList[c]) (Eq.refl _) Z h m (Ñ g) k d λa q=>⟨⟨_,c+1,q,Z,MX _ _,U,e⟩,by rw[U' q];omega⟩
def am3(b:B.size<=1000000)(c:j<18446744073709551616)(d:w.cell? ⟨n,i+1,Ä⟩=Ã (Í B))(e:Dm n i B j (0:Nat) y): Î À (ã Jn) (Q2<|BE n i B w<|zE j B.data.toList) y w:= Đ (BI n i B w<|zE j B.data.toList) (M6 B.size) ⟨j,0,e,å _,c,U,U⟩<|am2 b d
abbrev zA:List Ç:=[Â Æ 0,Â Æ 0,Â Æ 0,Â Æ 0,Â Æ 0,Â Æ 0,Â Æ 0,Â Æ 0,Â Æ 0,Â Æ 0,Â Æ 0,Â Æ 0,Â Æ 0,Â Æ 0,Â Æ 0,Â Æ 0]
def Dn(B:Nat)(P:ByteArray)(a:List Nat):Nat:=zE (oH (lf B)<|sy 4<|oI a 16) P.data.toList
def Ts:∀(k:Nat) (l:List Nat),sx l->sy k l<18446744073709551616
 |0,_,h=>h 0
 |k+1,l,_=>Ts k (uS l)<|Q' l
def am4(l:List Nat):ku (oI l 0)=zA:=by rfl
def am5{P:ByteArray}(d f g p r s x y z C D E F G I J:Nat)(heq:(ku jJ).toArray=#[Â Æ d,Â Æ f,Â Æ g,Â Æ p,Â Æ r,Â Æ s,Â Æ x,Â Æ y,Â Æ z,Â Æ C,Â Æ D,Â Æ E,Â Æ F,Â Æ G,Â Æ I,Â Æ J])(hl:jJ.length=16)(hB:m<18446744073709551616)(hP:P.size<=1000000)(hs:sx jJ) (K:w.cell? ⟨n,j,Ä⟩=Ã (Â Æ m)) (c1:w.cell? ⟨n,j+1,Ä⟩=Ã (Í P)) (r0:w.cell? ⟨n,j+2,Ä⟩=Ã (Â Æ d)) (r1:w.cell? ⟨n,j+2+1,Ä⟩=Ã (Â Æ f)) (r2:w.cell? ⟨n,j+2+2,Ä⟩=Ã (Â Æ g)) (r3:w.cell? ⟨n,j+2+3,Ä⟩=Ã (Â Æ p)) (r4:w.cell? ⟨n,j+2+4,Ä⟩=Ã (Â Æ r)) (r5:w.cell? ⟨n,j+2+5,Ä⟩=Ã (Â Æ s)) (r6:w.cell? ⟨n,j+2+6,Ä⟩=Ã (Â Æ x)) (r7:w.cell? ⟨n,j+2+7,Ä⟩=Ã (Â Æ y)) (r8:w.cell? ⟨n,j+2+8,Ä⟩=Ã (Â Æ z)) (r9:w.cell? ⟨n,j+2+9,Ä⟩=Ã (Â Æ C)) (r10:w.cell? ⟨n,j+2+10,Ä⟩=Ã (Â Æ D)) (r11:w.cell? ⟨n,j+2+11,Ä⟩=Ã (Â Æ E)) (r12:w.cell? ⟨n,j+2+12,Ä⟩=Ã (Â Æ F)) (r13:w.cell? ⟨n,j+2+13,Ä⟩=Ã (Â Æ G)) (r14:w.cell? ⟨n,j+2+14,Ä⟩=Ã (Â Æ I)) (r15:w.cell? ⟨n,j+2+15,Ä⟩=Ã (Â Æ J)): Ô À 161 #[Å<|Ã ⟨n,j,Ä⟩] w λe c=>e=È (Â Æ<|Dn m P jJ)/\fg (λ_=>False) w c:=by
 have gH:=ä w _ K;have L1:∀a,Dj n j w.heap.size #[Â Æ d,Â Æ f,Â Æ g,Â Æ p,Â Æ r,Â Æ s,Â Æ x,Â Æ y,Â Æ z,Â Æ C,Â Æ D,Â Æ E,Â Æ F,Â Æ G,Â Æ I,Â Æ J] (0:Nat) a->Î À (ã Jm) (QQ<|AE n j w.heap.size jJ<|w.alloc<|Ð zA.toArray 118) a (w.alloc<|Ð zA.toArray 118):=λa L=>
  amY hs hl (by rw[am4];exact fl.N w zA 118)<|by rwa[heq]
 have M:∀W,fl w.heap.size (ku<|oI jJ 16) 118 W->Ô À 162 #[Ê (Ã ⟨w.heap.size,0,Ä⟩) 16 16] W λe c=>e=È (Â Æ<|sy 4<|oI jJ 16)/\fg (λi=>i=w.heap.size) W c:=λW hW=>by have t:=S_ (w:=W) (b:=w.heap.size) (cp:=16) (k:=4) (T:=118) (l:=oI jJ 16) (junk:=[]) (by rw[Dk]) (by rw[Dk];omega) (by rw[Dk];omega) (T_ jJ) (by rwa[ù]);rwa[Dk]at t
 have N:=Ts 4 (oI jJ 16)<|T_ jJ;obtain⟨t,O⟩:∃t,sy 4 (oI jJ 16)=t:=⟨_,U⟩;have V_:Dn m P jJ=zE (oH (lf m) t) P.data.toList:=by unfold Dn;rw[O]
 rw[V_];rw[O]at M N;have L2:∀W a,W.cell? ⟨n,j+1,Ä⟩=Ã (Í P)->Dm n j P (oH (lf m) t) (0:Nat) a->Î À (ã Jn) (Q2<|BE n j P W<|zE (oH (lf m) t) P.data.toList) a W:=λW a h L=>
  am3 hP (FE _ _<|M4 m) h L
 have C1:∀W,Ô À 177 #[Â Æ 14695981039346656037,Â Æ m] W λe c=>e=È (Â Æ<|lf m)/\c=W:=λW=>by rw[<-S'];exact Jg 14695981039346656037 m Z hB W
 have C2:∀W,Ô À 177 #[Â Æ<|lf m,Â Æ t] W λe c=>e=È (Â Æ<|oH (lf m) t)/\c=W:=λW=>Jg (lf m) t (M4 m) N W;have H:=fi<|Á K<|Á c1<|Á L1<|Á M<|Á L2<|Á C1 C2;clear L1 M L2 C1 C2 V_ O N hs K c1 heq;generalize zE (oH (lf m) t) P.data.toList=res at*;generalize oH (lf m) t=n2 at*;generalize lf m=n1 at*;go_enter Tryz.func161,Tryz.ntmps161;go_wp2_with fail;refine à (Q:=QQ<|AE n j w.heap.size jJ<|w.alloc<|Ð zA.toArray 118) ?_ (H.out.2.2.1 _ (gA _));rintro(_|(_|_)|_|_|_|_) a v hq;all_goals first|exact absurd hq id|skip
 let⟨V,hk,W_⟩:=hq;have X:fg (λ_=>False) w v:=(fg.gI (λ_=>False) w zA.toArray 118).C hk λi hi q=>by omega
 have g0:=X.r H.out.1 id;obtain⟨u,rfl⟩:=V;unfold FH;have HV:=fi<|Á X W_;clear X W_ hk r0 r1 r2 r3 r4 r5 r6 r7 r8 r9 r10 r11 r12 r13 r14 r15;go_wp2_with (first
  |(go_at_call 162;refine(H.out.2.2.2.1 _ HV.out.2).mono ?_;rintro e w2 ⟨rfl,yR⟩;have Y:=HV.out.1.C yR (λi hi q=>by omega);have g1:=Y.r H.out.2.1 id;have HK:=fi Y;clear yR Y)
  |(go_at_call 177;with_reducible refine(H.out.2.2.2.2.2.2 _).mono ?_;rintro e Y ⟨rfl,rfl⟩)
  |(go_at_call 177;refine(H.out.2.2.2.2.2.1 _).mono ?_;rintro e Y ⟨rfl,rfl⟩))
 refine à (Q:=Q2<|BE n j P _ res) ?_ (H.out.2.2.2.2.1 _ _ g1 (gA _));rintro(_|(_|_|_|_)|_|_|_|_) a v2 hq;all_goals first|exact absurd hq id|skip
 obtain⟨V,rfl⟩:=hq;obtain⟨u,rfl⟩:=V;unfold FI;go_wp2_with fail;go_ret;exact⟨U,HK.out⟩
def am6{P:ByteArray}(c:j<18446744073709551616)(d:P.size<=1000000)(f:jJ.length=16)(g:sx jJ) (h:w.cell? ⟨i,n,Ä⟩=Ã (Â Æ j)) (k:w.cell? ⟨i,n+1,Ä⟩=Ã (Í P)) (b:∀(a x:Nat),jJ[a]?=Ã x->w.cell? ⟨i,n+2+a,Ä⟩=Ã (Â Æ x)): Ô À 161 #[Å<|Ã ⟨i,n,Ä⟩] w λe l=>e=È (Â Æ<|Dn j P jJ)/\fg (λ_=>False) w l:=by
 match jJ,f with
 |[a0,a1,a2,a3,a4,a5,a6,a7,a8,a9,X_,X',a12,Y_,Y',Z_],_=>exact am5 a0 a1 a2 a3 a4 a5 a6 a7 a8 a9 X_ X' a12 Y_ Y' Z_ fR fR c d g h k (b 0 a0 U) (b 1 a1 U) (b 2 a2 U) (b 3 a3 U) (b 4 a4 U) (b 5 a5 U) (b 6 a6 U) (b 7 a7 U) (b 8 a8 U) (b 9 a9 U) (b 10 X_ U) (b 11 X' U) (b 12 a12 U) (b 13 Y_ U) (b 14 Y' U)<|b 15 Z_ U
abbrev zB:List Ç:=[Â Æ 0,Â Æ 0,Â Æ 0,Â Æ 0,Â Æ 0,Â Æ 0,Â Æ 0,Â Æ 0]
noncomputable def M7:Ş:=(Tryz.f122.body.bind kF).getD Ń
def FJ(a b:Nat)(i:Int)(u:Nat->Ç):ë:=⟨#[Å<|Ã ⟨a,0,Ä⟩,u 1,u 2,Å<|Ã ⟨b,0,Ä⟩,u 4,Â Ë i,u 6,u 7,u 8,u 9,u 10,u 11,u 12,u 13,u 14,u 15,u 16,u 17],[]⟩
def FK(c b:Nat)(i:Int)(a:ë):Prop:=∃u,a=FJ c b i u
section
variable{X:ë->É->Prop}
def am7(u:Nat->Ç)(c:∀a,FK i b 8 a->X a w): Î À M7 (Exit.then K<|QQ X) (FJ i b 8 u) w:=by
 unfold FJ;conv=>arg 2;whnf
 go_wp2_with fail
 exact c _ (gA _)
def am8(c z:Nat)(o:c<8)(T:Ô À 161 #[Å<|Ã ⟨i,c*18,Ä⟩] w λe j=>e=È (Â Æ z)/\fg (λ_=>False) w j)(g:List Ç)(h:Ç)(k:g[c]?=Ã h)(l:fl b g 116 w)(u:Nat->Ç) (m:∀a f,FK i b ((c+1:Nat):Int) a->fg (λ_=>False) w f->K a (f.setCell ⟨b,c,Ä⟩<|Â Æ z)): Î À M7 (Exit.then K<|QQ X) (FJ i b c u) w:=by
 unfold FJ;conv=>arg 2;whnf
 have p:(0:Int)<=(c:Int):=Z
 have q:(c:Int)<8:=Z
 have H:=fi<|Á T<|Á m l;go_wp2_with (go_at_call 161;apply H.out.1.mono;rintro e f ⟨rfl,d⟩;have r:=(H.out.2.2.I d id).r c h k;have s:=(H.out.2.2.I d id).C c;have n:=fi d;clear d);exact H.out.2.1 _ _ (gA _) n.out
def qH(D:Nat->Nat)(i:Nat):List Nat:=(Ĉ 8).map λt=>if t<i then D t else 0
def Dp(D:Nat->Nat)(i:Nat):(qH D i).length=8:=by simp[qH]
def Tt(D:Nat->Nat)(i t:Nat)(h:t<8):(qH D i)[t]?=Ã (if t<i then D t else 0):=by simp[qH,ø h]
def am9(D:Nat->Nat)(i:Nat)(h:i<8):(qH D i).set i (D i)=qH D (i+1):=by
 refine Ą λt=> ?_;by_cases a:t<8
 .rw[Tt D (i+1) t a,ń];by_cases e:i=t
  .subst e;rw[if_pos U,if_pos (by rwa[Dp]),if_pos Z]
  .rw[if_neg e,Tt D i t a];by_cases q:t<i
   .rw[if_pos q,if_pos Z]
   .rw[if_neg q,if_neg Z]
 .rw[Ö (by rw[ě,Dp];omega),Ö (by rw[Dp];omega)]
def Z'(b:∀i,D i<18446744073709551616):sx (qH D 8):=M0 Z λx a=>by
 unfold qH at a;obtain⟨t,_,rfl⟩:=ķ.1 a;split
 .exact b _
 .omega
def ana(D:Nat->Nat):ku (qH D 0)=zB:=by rfl
def DI(i b:Nat)(D:Nat->Nat)(d:É)(a:ë)(w:É):Prop:=
 ∃c:Nat,FK i b c a/\c<=8/\fg (λk=>k=b) d w/\fl b (ku<|qH D c) 116 w
def DE(i b:Nat)(D:Nat->Nat)(c:É)(a:ë)(w:É):Prop:=
 FK i b 8 a/\fg (λk=>k=b) c w/\fl b (ku<|qH D 8) 116 w
def M8(a:ë)(_:É):Nat:=match a.tmps.getD 5 ĉ with
 |Â _ i=>8-i.toNat
 |_=>0
def aac(c:FK i b n y):M8 y w=8-n:=by obtain⟨u,rfl⟩:=c;show 8-(n:Int).toNat=_;simp
def anb(C:∀c,c<8->∀W,fg (λk=>k=b) u W->Ô À 161 #[Å<|Ã ⟨i,c*18,Ä⟩] W λe f=>e=È (Â Æ<|D c)/\fg (λ_=>False) W f)(a:ë)(w:É)(m:DI i b D u a w): Î À M7 (Exit.then (λd f=>DI i b D u d f/\M8 d f<M8 a w)<|QQ<|DE i b D u) a w:=by
 let⟨c,j,r,g,h⟩:=m;rw[aac j];obtain⟨d,rfl⟩:=j;by_cases n:c=8
 .subst n;exact am7 d λa q=>⟨q,g,h⟩
 .have o:=Jl _ _ _ (by rw[Tt D c c Z,if_neg Z]);refine am8 c (D c) Z (C c Z w g) _ _ o h d λa s q l=>⟨⟨c+1,q,Z,(g.fj<|l.S λ_ _=>Ĥ).fj (fg.I (X:=λk=>k=b) U _),?_⟩,by rw[aac q];omega⟩;have p:=(h.I l id).gh c<|Â Æ<|D c;rwa[<-am9 D c Z,Tp]
end
def M9(D:Nat->Nat):Nat:=sy 3<|qH D 8
def anc(h:∀b,D b<18446744073709551616)(C:∀b,b<8->∀W,fg (λk=>k=w.heap.size) (w.alloc<|Ð zB.toArray 116) W->Ô À 161 #[Å<|Ã ⟨i,b*18,Ä⟩] W λe c=>e=È (Â Æ<|D b)/\fg (λ_=>False) W c): Ô À 122 #[Å<|Ã ⟨i,0,Ä⟩] w λe c=>e=È (Â Æ<|M9 D)/\fg (λ_=>False) w c:=by
 have L:∀a,FK i w.heap.size (0:Nat) a->Î À (ã M7) (QQ<|DE i w.heap.size D<|w.alloc<|Ð zB.toArray 116) a (w.alloc<|Ð zB.toArray 116):=λa j=>
  Đ (DI i w.heap.size D<|w.alloc<|Ð zB.toArray 116) M8 ⟨0,j,å _,fg.fW _ _,by rw[ana];exact fl.N w zB 116⟩<|anb C
 have T:∀W,fl w.heap.size (ku<|qH D 8) 116 W->Ô À 162 #[Ê (Ã ⟨w.heap.size,0,Ä⟩) 8 8] W λe c=>e=È (Â Æ<|sy 3<|qH D 8)/\fg (λb=>b=w.heap.size) W c:=λW l=>by have t:=S_ (cp:=8) (k:=3) (by rw[Dp]) (by rw[Dp];omega) (by rw[Dp];omega) (Z' h) (by rwa[ù]);rwa[Dp]at t
 unfold M9;have H:=fi<|Á L T;generalize sy 3 (qH D 8)=t at*;go_enter Tryz.func122,Tryz.ntmps122;go_wp2_with fail;refine à (Q:=QQ<|DE i w.heap.size D<|w.alloc<|Ð zB.toArray 116) ?_ (H.out.1 _ (gA _));rintro(_|(_|_)|_|_|_|_) a v hq;all_goals first|exact absurd hq id|skip
 let⟨m,n,o⟩:=hq;have p:=(fg.gI (λ_=>False) w zB.toArray 116).C n λb r q=>by omega
 obtain⟨u,rfl⟩:=m;unfold FJ;have d:=fi<|Á p o;go_wp2_with (go_at_call 162;refine(H.out.2 _ d.out.2).mono ?_;rintro e x ⟨rfl,f⟩;have g:=d.out.1.C f (λb r q=>by omega);have s:=fi g;clear f g);go_ret;exact⟨U,s.out⟩
def Jo(a:IU):List Nat:=(Ĉ 16).map λj=>(a.C j).toNat
def aad(a:IU):Nat:=Dn a.fy.toNat a.r<|Jo a
def FL(s:St):Nat:=M9 λi=>aad<|s i
def ane(l:List UInt8):∀n,n<18446744073709551616->zE n l<18446744073709551616:=by
 induction l with
 |nil=>exact λn h=>h
 |cons c r h=>exact λn _=>h _<|MX _ _
def aae(B:Nat)(P:ByteArray)(a:List Nat):Dn B P a<18446744073709551616:=by unfold Dn;exact ane _ _<|FE _ _<|M4 B
def Tv(s:St)(h:i<144):(iz s)[i]?=Ã (pM s i):=by simp[iz,ø h]
def mj.anf{s:St}(m:mj n s h W)(a:gL s)(i:Nat)(f:i<8): Ô À 161 #[Å<|Ã ⟨n,i*18,Ä⟩] W λe b=>e=È (Â Æ<|aad<|s i)/\fg (λ_=>False) W b:=by
 have g:=λj d=>by have:=m.C j _<|Tv s d;simpa using this
 have b:=a.fy i;have k:=g (i*18) Z;have l:=g (i*18+1) Z;rw[<-qE s (Ê Ä 0 0) Z,IW _ _ f]at k;rw[<-qE s (Ê Ä 0 0) Z,ME _ _ f]at l;refine am6 (by have c:=b.1;have o:=b.2;omega) (by have:=(a.I i).1;omega) (by simp[Jo]) ?_ ?_ l ?_
 .refine M0 Z λx e=> ?_;unfold Jo at e;obtain⟨t,_,rfl⟩:=ķ.1 e;have c:=(a.C i t).1;have o:=(a.C i t).2;omega
 .rw[k];unfold qD;rw[ę b.1]
 .intro j x e;have d:j<16:=by have:=(Ù.1 e).1;simpa[Jo]using this
  have c:=g (i*18+2+j) Z;rw[<-qE s (Ê Ä 0 0) Z,MG _ _ f d]at c;have o:((s i).C j).toNat=x:=by simpa[Jo,ø d]using e
  have t:=a.C i j;rw[c,<-o];unfold qD;rw[ę t.1]
def ang{s:St}(a:mj i s h w)(b:gL s): Ô À 122 #[Å<|Ã ⟨i,0,Ä⟩] w λe k=>e=È (Â Æ<|FL s)/\fg (λ_=>False) w k:=by have c:=ä w _ a.h;exact anc (λe=>aae _ _ _) λe d W k=>((a.r (fg.gI (λ_=>False) w _ _) id).r k<|by show i≠w.heap.size;exact Nat.ne_of_lt c).anf b e d
def kg(i:Nat):St:=λj=>⟨if j<i then 1000 else 0,⟨#[]⟩,λ_=>0⟩
def anh(i:Nat):kg (i+1)=(kg i).fy i 1000:=by
 funext j;unfold kg St.fy St.gh;by_cases e:j=i
 .subst e;simp
 .by_cases q:j<i
  .simp[e,q,Nat.lt_succ_of_lt q]
  .have:¬j<i+1:=Z
   simp[e,q,this]
def ani(s:St)(a:i<8)(x:Int):(iz s).set (i*18) (Â Æ x)=iz (s.fy i x):=by have h:=Z8 s (Ê Ä 0 0) a x;rw[zC,zC,ĩ _ _ (by rw[sw];omega)]at h;exact List.append_cancel_right h
def anj(s:St)(a:i<8):(iz s)[i*18]?=Ã (Â Æ (s i).fy):=by rw[Tv s Z,<-qE s (Ê Ä 0 0) Z,IW _ _ a];rfl
noncomputable def Na:Ş:=(Tryz.f60.body.bind kF).getD Ń
def FM(r b:Nat)(i:Int)(u:Nat->Ç):ë:=⟨#[Å<|Ã ⟨r,0,Ä⟩,Å<|Ã ⟨b,0,Ä⟩,u 2,Â Ë i,u 4,u 5,u 6,u 7,u 8,u 9,u 10],[]⟩
def FN(r b:Nat)(i:Int)(a:ë):Prop:=∃u,a=FM r b i u
section
variable{X:ë->É->Prop}
def ank(u:Nat->Ç)(c:∀a,FN i b 8 a->X a w): Î À Na (Exit.then K<|QQ X) (FM i b 8 u) w:=by
 unfold FM;conv=>arg 2;whnf
 go_wp2_with fail
 exact c _ (gA _)
def anl(c:Nat)(g:c<8)(e:Ç)(h:w.cell? ⟨b,c*18,Ä⟩=Ã e)(j:w.frozen? ⟨b,c*18,Ä⟩=Ï)(u:Nat->Ç) (d:∀a,FN i b ((c+1:Nat):Int) a->K a (w.setCell ⟨b,c*18,Ä⟩<|Â Æ 1000)): Î À Na (Exit.then K<|QQ X) (FM i b c u) w:=by
 unfold FM;conv=>arg 2;whnf
 have k:(0:Int)<=(c:Int):=Z
 have l:(c:Int)<8:=Z
 have f:=fi d;clear d;go_wp2_with fail;exact f.out _ (gA _)
def Tw(i b:Nat)(d:É)(a:ë)(w:É):Prop:=∃c:Nat,FN i b c a/\c<=8/\fg (λk=>k=b) d w/\fl b (iz<|kg c) 140 w
def FE0(i b:Nat)(c:É)(a:ë)(w:É):Prop:=FN i b 8 a/\fg (λk=>k=b) c w/\fl b (iz<|kg 8) 140 w
def Nb(a:ë)(_:É):Nat:=match a.tmps.getD 3 ĉ with
 |Â _ i=>8-i.toNat
 |_=>0
def aaf(c:FN i b n y):Nb y w=8-n:=by obtain⟨u,rfl⟩:=c;show 8-(n:Int).toNat=_;simp
def anm(a:ë)(w:É)(h:Tw i b u a w): Î À Na (Exit.then (λc d=>Tw i b u c d/\Nb c d<Nb a w)<|QQ<|FE0 i b u) a w:=by
 let⟨c,f,l,g,e⟩:=h;rw[aaf f];obtain⟨d,rfl⟩:=f;by_cases j:c=8
 .subst j;exact ank d λa q=>⟨q,g,e⟩
 .refine anl c Z _ (e.r _ _<|anj _ Z) (e.C _) d λa q=>⟨⟨c+1,q,Z,g.fj (fg.I (X:=λk=>k=b) U _),?_⟩,by rw[aaf q];omega⟩;have k:=e.gh (c*18)<|Â Æ 1000;rwa[ani _ Z,<-anh]at k
end
def ano:(À.info? 140).map (λi=>(i.size,i.zero.map λz=>z.cells.toList))=Ã (144,Ã<|iz<|kg 0):=fw
def anp(s:St):∀v∈iz s,v.oneCell'=Ý:=λv a=>S4 s (lv:=Ê Ä 0 0) U v<|by rw[zC];exact Ţ _ a
def anq(w:É):Ô À 60 #[] w λe l=>e=È (ė (iz<|kg 8).toArray)/\fg (λ_=>False) w l:=by
 let⟨m,n,o⟩:=Ì.1 Tk;let⟨Q,h,c⟩:=Ì.1 ano;simp only[Prod.mk.injEq]at c;let⟨p,r⟩:=c;let⟨t,x,y⟩:=Ì.1 r;have z:t.cells=(iz<|kg 0).toArray:=by rw[<-y]
 have B:∀s,(À.info? 140).map (·.size)=Ã (iz s).length:=λs=>by rw[h,sw];simp[p]
 have L:∀W a,fl (w.heap.size+1) (iz<|kg 0) 140 W->FN w.heap.size (w.heap.size+1) (0:Nat) a->Î À (ã Na) (QQ<|FE0 w.heap.size (w.heap.size+1) W) a W:=λW a f C=>
  Đ (Tw w.heap.size (w.heap.size+1) W) Nb ⟨0,C,å _,fg.fW _ _,f⟩ anm
 have D:=fg.gI (λ_=>False) w (iz<|kg 0).toArray 140;have j:=fg.gI (λ_=>False) (w.alloc<|Ð (iz<|kg 0).toArray 140) (iz<|kg 0).toArray 140;have E:=(fl.N w (iz<|kg 0) 140).I j id;have F:fl (w.heap.size+1) (iz<|kg 0) 140 ((w.alloc<|Ð (iz<|kg 0).toArray 140).alloc<|Ð (iz<|kg 0).toArray 140):=by have:=fl.N (w.alloc<|Ð (iz<|kg 0).toArray 140) (iz<|kg 0) 140;simpa using this
 have b:=fi<|Á n<|Á o<|Á h<|Á x<|Á z B;have H:=fi<|Á L<|Á (D.fj j)<|Á E F;go_enter Tryz.func60,Tryz.ntmps60;go_wp2_with (first
  |(with_reducible refine ď U (Ã 0) U _ _ (S0 U b.out.2.2.1 b.out.2.2.2.1) ?_;rw[b.out.2.2.2.2.1])
  |(with_reducible refine ď U (Ã 1) U _ _ (S0 U b.out.2.2.1 b.out.2.2.2.1) ?_;rw[b.out.2.2.2.2.1]))
 refine à ?_ (H.out.1 _ _ H.out.2.2.2 (gA _));rintro(_|(_|_)|_|_|_|_) a v c;all_goals first|exact absurd c id|skip
 let⟨G,k,f⟩:=c;have I:=H.out.2.1.C k λi J q=>by omega
 have g:=H.out.2.2.1.I k Z;obtain⟨u,rfl⟩:=G;unfold FM;have K:=fl.Y (by rw[ù];exact f);have M:v.there w.heap.size 0 (iz<|kg 8).toArray.size:=g.S2 (by simp[sw]);have N:=MP (iz<|kg 8) [] [] v (iz<|kg 0) (by rw[sw,sw]) (by simpa using g);have O:=I.C (I6 (iz<|kg 8) 0 v g.G) λi J q=>by omega
 have d:=fi<|Á O<|Á N<|Á K M;go_wp2_with (first
  |(with_reducible refine Ĝ U 140 _ U (w.heap.size+1) 0 U (iz<|kg 8) m d.out.2.2.1 b.out.1 b.out.2.1 (b.out.2.2.2.2.2 _) ?_)
  |(with_reducible refine Ŋ U 140 _ _ U w.heap.size 0 (iz (kg 8)).toArray U U d.out.2.2.2 (by rw[b.out.2.2.2.2.2 (kg 8)];simp) (Ķ (anp _)) ?_))
 have P:fl w.heap.size (iz (kg 8)++[]) 140 (v.setCells w.heap.size 0<|iz<|kg 8):=by simpa using d.out.2.1
 apply õ (S5 U U (fl.Y P) b.out.1 b.out.2.1<|b.out.2.2.2.2.2 _) U;exact⟨U,d.out.1⟩
structure fP where
 s:St
 r:List (Nat×Int)
 C:List (Int×Bool)
 h:Int
def zF(a:Č)(k:Nat)(d:List Ç)(w:É):Prop:=
 ∃p c,w.cell? a=Ã (Ê p k c)/\∀(j:Nat) (x:Ç),d[j]?=Ã x->∃b o,p=Ã ⟨b,o,Ä⟩/\w.cell? ⟨b,o+j,Ä⟩=Ã x
def zF.r(h:zF a k l w)(q:fg (λ_=>False) w u):zF a k l u:=by let⟨p,c,d,e⟩:=h;exact⟨p,c,q.r d id,λj x f=>by let⟨b,o,g,i⟩:=e j x f;exact⟨b,o,g,q.r i id⟩⟩
structure sB(b:Nat)(v:fP)(w:É):Prop where
 r:mj b v.s v.h w
 C:gL v.s
 I:0<=v.h
 M:v.h<=40
 N:zF ⟨b,144,Ä⟩ v.r.length (kn v.r) w
 S:zF ⟨b,146,Ä⟩ v.C.length (uQ v.C) w
def sB.Y{v:fP}(h:sB b v w)(q:fg (λ_=>False) w u):sB b v u:= ⟨h.r.r q id,h.C,h.I,h.M,h.N.r q,h.S.r q⟩
structure qI(bp:Option Č)(n:Nat)(vs:List (Nat×fP))(w:É):Prop where
 r:n=vs.length
 C:∀(j b:Nat) (v:fP),vs[j]?=Ã (b,v)->∃sb so,bp=Ã ⟨sb,so,Ä⟩/\w.cell? ⟨sb,so+j,Ä⟩=Ã (Å<|Ã ⟨b,0,Ä⟩)/\sB b v w
def qI.I{a:List (Nat×fP)}(h:qI O n a w)(q:fg (λ_=>False) w u):qI O n a u:= ⟨h.r,λj b v e=>by let⟨c,d,f,g,i⟩:=h.C j b v e;exact⟨c,d,f,q.r g id,i.Y q⟩⟩
def zG(a b:Nat×fP):Nat×fP:=if a.2.h<b.2.h then b else a
def uT(d:Nat×fP)(a:List (Nat×fP)):Nat×fP:=a.foldl zG d
noncomputable def Nc:Ş:=(Tryz.f153.body.bind kF).getD Ń
def FO(a:Option Č)(n b:Nat)(c:Nat)(i:Int)(u:Nat->Ç):ë:=⟨#[Ê a n b,ĉ,Å Ä,Å<|Ã ⟨c,0,Ä⟩,u 4,u 5,u 6,u 7,u 8,Ê a n b,Â Ë n,Â Ë i,u 12,u 13,u 14,u 15,u 16,u 17,u 18,u 19,u 20,u 21,u 22,u 23,u 24,u 25,u 26],[]⟩
def Jp(b:Option Č)(n c:Nat)(d:Nat)(i:Int)(a:ë):Prop:=∃u,a=FO b n c d i u
section
variable{X:ë->É->Prop}{bp:Option Č}{cp:Nat}
def anr(u:Nat->Ç)(b:Int)(c:b=n)(d:∀a,Jp bp n cp i b a->X a w): Î À Nc (Exit.then K<|QQ X) (FO bp n cp i b u) w:=by
 unfold FO;conv=>arg 2;whnf
 subst c;go_wp2_with fail;exact d _ (gA _)
def ant(u:Nat->Ç)(c:Int)(j:Nat)(o:c=j)(q:j<n)(r:n<=1000)(h k b:Nat)(p:bp=Ã ⟨h,k,Ä⟩)(s:w.cell? ⟨h,k+j,Ä⟩=Ã (Å<|Ã ⟨b,0,Ä⟩))(e f:Int)(t:w.cell? ⟨b,145,Ä⟩=Ã (Â Ë e))(v:w.cell? ⟨i,145,Ä⟩=Ã (Â Ë f)) (d:∀a m,Jp bp n cp (if f<e then b else i) (c+1) a->K a (w.drewN m)): Î À Nc (Exit.then K<|QQ X) (FO bp n cp i c u) w:=by
 unfold FO;conv=>arg 2;whnf
 subst o p;have x:(0:Int)<=(j:Int):=Z
 have y:(j:Int)<(n:Int):=Z
 by_cases l:f<e
 .rw[if_pos l]at d;have g:=fi d;clear d;go_wp2_with fail;go_quiet (fail);go_wp2_with fail;exact g.out _ _ (gA _)
 .rw[if_neg l]at d;have g:=fi d;clear d;go_wp2_with fail;go_quiet (fail);go_wp2_with fail;exact g.out _ _ (gA _)
def HI(bp:Option Č)(n cp:Nat)(vs:List (Nat×fP))(b:É)(c:Nat×fP)(a:ë)(w:É):Prop:=
 ∃(j:Nat) (d:Nat×fP),Jp bp n cp d.1 j a/\j<=n/\fg (λ_=>False) b w/\sB d.1 d.2 b/\uT d (vs.drop j)=c
def HE(bp:Option Č)(n cp:Nat)(b:É)(c:Nat×fP)(a:ë)(w:É):Prop:=Jp bp n cp c.1 n a/\fg (λ_=>False) b w
def Ty(n:Nat)(a:ë)(_:É):Nat:=match a.tmps.getD 11 ĉ with
 |Â _ i=>n-i.toNat
 |_=>0
def anu{c:List (Nat×fP)}{i:Nat×fP}(k:qI bp n c W)(z:n<=1000)(a:ë)(w:É)(B:HI bp n cp c W i a w): Î À Nc (Exit.then (λl b=>HI bp n cp c W i l b/\Ty n l b<Ty n a w)<|QQ<|HE bp n cp W i) a w:=by
 let⟨j,d,C,I,f,o,g⟩:=B;obtain⟨u,rfl⟩:=C;by_cases r:j=n
 .have e:c.drop j=[]:=ģ (by rw[<-k.r];omega);rw[e]at g;subst g;refine anr u j (by rw[r]) λa b=>⟨?_,f⟩;rwa[r]at b
 .have s:j<n:=Z
  obtain⟨⟨b,v⟩,t⟩:∃p,c[j]?=Ã p:=⟨_,Ñ<|by rwa[<-k.r]⟩;let⟨D,E,F,G,x⟩:=k.C j b v t;let⟨H,e⟩:=Ù.1 t;rw[Ę H,e]at g;refine ant u j j U s z D E b F (f.r G id) v.h d.2.h (f.r x.r.h id) (f.r o.r.h id) λl m q=> ?_;have y:zG d (b,v)=(if d.2.h<v.h then b else d.1,if d.2.h<v.h then v else d.2):=by unfold zG;split<;>rfl
  refine⟨⟨j+1,zG d (b,v),?_,Z,f.fj<|fg.iQ _ _ _,?_,g⟩,?_⟩
  .rw[y];simpa using q
  .rw[y];simp only;split
   .exact x
   .exact o
  .obtain⟨v,rfl⟩:=q;show n-((j:Int)+1).toNat<n-((j:Int)).toNat;omega
def anv{b:List (Nat×fP)}{d:Nat×fP}(c:qI bp n b w)(g:n<=1000)(f:b[0]?=Ã d): Ô À 153 #[Ê bp n cp] w λe a=>e=È (Å<|Ã ⟨(uT d b).1,0,Ä⟩)/\fg (λ_=>False) w a:=by
 let⟨o,p,e,h,i⟩:=c.C 0 d.1 d.2 f;have q:0<n:=by rw[c.r];exact(Ù.1 f).1
 have L:∀a,Jp bp n cp d.1 0 a->Î À (ã Nc) (QQ<|HE bp n cp w<|uT d b) a w:=λa j=>
  Đ (HI bp n cp b w<|uT d b) (Ty n) ⟨0,d,j,å _,fg.fW _ _,i,U⟩<|anu c g
 have H:=fi L;subst e;have s:(0:Int)<(n:Int):=Z
 generalize uT d b=r at*;simp only[Nat.add_zero]at h;go_enter Tryz.func153,Tryz.ntmps153;go_wp2_with fail;refine à ?_ (H.out _ (gA _));rintro(_|(_|_)|_|_|_|_) a v hq;all_goals first|exact absurd hq id|skip
 let⟨k,l⟩:=hq;obtain⟨u,rfl⟩:=k;unfold FO;have m:=fi l;go_wp2_with fail;go_ret;exact⟨U,m.out⟩
end
def lj(a:List (Nat×fP))(b:Int):Option (Nat×fP):=
 if b=-1 then(a[0]?).map λd=>uT d a else a[b.toNat]?
def jW(b:Option Nat):Ç:=Å<|b.map λb=>⟨b,0,Ä⟩
section
variable{cp:Nat}{a:List (Nat×fP)}
def Nd(f:qI O n a w)(i:n<=1000)(j:0<n)(c:Int)(m:-1<=c): Ô À 113 #[Ê O n cp,Â Ë c] w λe b=>e=È (jW ((lj a c).map (·.1)))/\fg (λ_=>False) w b:=by
 by_cases g:c=-1
 .subst g;obtain⟨d,b⟩:∃d,a[0]?=Ã d:=⟨_,Ñ<|by rwa[<-f.r]⟩;have e:lj a (-1)=Ã (uT d a):=by unfold lj;rw[if_pos U,b];rfl
  rw[e];have H:=fi<|anv (cp:=cp) f i b;go_enter Ε,Ų;go_wp2_with (go_at_call 153;apply H.out.mono;rintro e k ⟨rfl,h⟩);go_ret;exact⟨U,h⟩
 .have o:(c==-1)=Ï:=by rwa[beq_eq_false_iff_ne]
  have q:(0:Int)<=c:=Z
  obtain⟨k,rfl⟩:∃k:Nat,c=k:=⟨c.toNat,Z⟩;have e:lj a (k:Int)=a[k]?:=by unfold lj;rw[if_neg g,ſ]
  rw[e];by_cases h:k<n
  .obtain⟨⟨b,v⟩,d⟩:∃p,a[k]?=Ã p:=⟨_,Ñ<|by rwa[<-f.r]⟩;let⟨r,s,H,t,u⟩:=f.C k b v d;rw[d];subst H;have l:(k:Int)<(n:Int):=Z
   go_enter Ε,Ų;go_wp2_with fail;go_ret;exact⟨U,fg.fW _ _⟩
  .have d:a[k]?=Ä:=Ö (by rw[<-f.r];omega);rw[d];have l:¬(k:Int)<(n:Int):=Z
   go_enter Ε,Ų;go_wp2_with fail;go_ret;exact⟨U,fg.fW _ _⟩
end
def aag(a:List (Nat×fP)):∀(l:List (Nat×fP)) (d:Nat×fP),d∈a->(∀x∈l,x∈a)->uT d l∈a
 |[],d,hd,_=>hd
 |x::l,d,hd,hl=>by
  show uT (zG d x) l∈a;refine aag a l _ ?_ λy b=>hl y<|ũ _ b;unfold zG;split
  .exact hl x List.mem_cons_self
  .exact hd
def Jq{a:List (Nat×fP)}{p:Nat×fP}(h:lj a c=Ã p):p∈a:=by
 unfold lj at h;split at h
 .obtain⟨d,b,rfl⟩:=Ì.1 h;exact aag a a d (ü b) λx e=>e
 .exact ü h
def qI.M{a:List (Nat×fP)}(h:qI O n a w){p:Nat×fP}(b:p∈a):sB p.1 p.2 w:=by let⟨j,c⟩:=List.getElem?_of_mem b;let⟨_,_,_,_,d⟩:=h.C j p.1 p.2 c;exact d
def aah(c:w.cell? ⟨b,i,Ä⟩=Ã v)(h:w.ownsRow 0 e j v n l):zF ⟨b,i,Ä⟩ n l w:=by
 rcases h.2 with⟨rfl,rfl⟩|⟨g,f,k,rfl,_,m,_,_,_,o⟩
 .have d:=á (by simpa using h.1);subst d;exact⟨Ä,0,c,λa x q=>by simp at q⟩
 .refine⟨_,_,c,λa x q=>⟨g,0,U,?_⟩⟩;have:=h.cells U a x q;rwa[Addr.add_mid]at this
def NX.anw{s:St}{b:List (Nat×Int)}{c:List (Int×Bool)}(x:NX i h v z s b c u w)(d:gL s)(e:0<=h)(f:h<=40):sB i ⟨s,b,c,h⟩ w:=by have a:fl i (je s v++[Â Ë h,z]) 147 w:=x.r;refine⟨⟨?_,a.r 145 _<|by rw[Þ (by rw[mK];omega),mK];rfl⟩,d,e,f,aah x.r.C9 x.C,aah x.G x.I⟩;rw[zC,þ]at a;exact a.Y
def anx:(À.info? 136).map (λi=>(i.zero,i.size,i.bytes))=Ã (Ã<|Å Ä,1,8):=fw
def anz{p:Array Ů}{r:List Ů}(C:o.guard=Ä)(s x:Ź)(t:ú) (D:o.op=aW {callee:=.builtin .append,args:=#[s,x],argTypes:=#[t,t]}) (E:P.underlying t=Ã (bK e)) (F:P.info? e=Ã zJ) (G:zJ.zero=Ã z) (B:zJ.size=1) (H:zJ.bytes=8) (g k n:Nat) (b:List Ç) (I:b.length=n) (J:∀j v,b[j]?=Ã v->w.cell? ((⟨g,k,Ä⟩:Č).add j)=Ã v) (L:y.eval s=Ê (Ã ⟨g,k,Ä⟩) n n) (l:Nat) (v:Ç) (M:y.eval x=Ê (Ã ⟨l,0,Ä⟩) 1 1) (N:∀j u,[v][j]?=Ã u->w.cell? ((⟨l,0,Ä⟩:Č).add j)=Ã u) (Y:n<=1000) (O:me e=Ï) (h:∀c f,n+1<=c->fg (λ_=>False) w f->(∃m:Array Ç,f.heap[w.heap.size]?=Ã (Ð m e (0,0))/\0<m.size/\∀u∈m.toList,u∈b\/u=v\/u∈z.cells.toList)->(∀j u,(b++[v])[j]?=Ã u->f.cell? ⟨w.heap.size,0+j,Ä⟩=Ã u)->bq P p vJ r (y.put o.dst<|Ê (Ã ⟨w.heap.size,0,Ä⟩) (n+1) c) f):bq P p vJ (o::r) y w:=by refine Ż C λK T=> ?_;have V:=ι w t o.type e zJ z E F G ⟨g,k,Ä⟩ n n b (by rw[I,B];omega) J ⟨l,0,Ä⟩ 1 1 [v] (by rw[B];rfl) N Z Z (Ť Z<|by rw[H];omega);unfold Ŏ į;simp only[D,aE,bm,aF,ż,Ž,Ł,Ċ,Ě,ġ,L,M,V];refine T _ _ (h _ _ (ε w (n+1) n e) ((fg.fU _ _).fj<|fg.gI _ _ _ _<|Û O) ⟨_,ð w.drew _,by simp;omega,λu d=>by simp only[Ĵ,ā]at d;rcases d with(q|q)|q;exact Û q;exact Ü (Û<|by simpa using q);exact Ü<|Ü<|Sw q⟩ λj u d=> ?_);have W:(w.drew.alloc<|Ð (b.toArray++[v].toArray++ý z.cells (š w (n+1) n e-(n+1))) e).heap[w.heap.size]?=_:=ð w.drew _;simp only[Ω,W,Ļ,Ğ,if_false,ĸ];have X:=(Ù.1 d).1;rw[Array.getElem?_append_left (by simpa using X)];simpa using d
def tF(v:Ç)(T:ú)(w:É):Prop:=v=Ê Ä 0 0\/∃g n c a,v=Ê (Ã ⟨g,0,Ä⟩) n c/\w.heap[g]?=Ã (Ð a T (0,0))
def tF.I(h:w.ownsRow 0 T i v n l):tF v T w:=by
 rcases h.2 with⟨q,_⟩|⟨g,a,b,c,_,d,_⟩
 .exact Û q
 .exact Ü ⟨g,_,a,b,c,d⟩
def tF.C(h:tF v T w)(k:fg (λ_=>False) w u):tF v T u:=by
 rcases h with q|⟨g,n,c,b,d,a⟩
 .exact Û q
 .refine Ü ⟨g,n,c,b,d,?_⟩;rwa[k.N g (Array.getElem?_eq_some_iff.1 a).1 id]
def sC(a:List (Nat×fP)):List Ç:=a.map λp=>Å<|Ã ⟨p.1,0,Ä⟩
structure Tz(vs:List (Nat×fP))(B:Nat)(w w':É)(g:Nat):Prop where
 C:w.heap.size<=g
 r:∃cur:Array Ç,w'.heap[g]?=Ã (Ð cur 136 (0,0))/\0<cur.size/\∀u∈cur.toList,u∈sC vs\/u=Å (Ã ⟨B,0,Ä⟩)\/u=Å Ä
structure TA(B:Nat)(s:St)(h:Int)(w w':É):Prop where
 C:w.heap.size<=B
 r:∃lv uv,fl B (je s lv++[Â Ë h,uv]) 147 w'/\tF lv 257 w'/\tF uv 246 w'/\(∀j,lv.ownBlock=Ã j->w.heap.size<=j)/\∀j,uv.ownBlock=Ã j->w.heap.size<=j
section
variable{bp:Option Č}{cp:Nat}{vs:List (Nat×fP)}
def anB(a b:Nat)(d:n<=1000)(f:n<=cp):Ô À 155 #[Ê (Ã ⟨a,b,Ä⟩) n cp] w λe c=>e=È (Ê (Ã ⟨a,b,Ä⟩) n n)/\c=w:=by go_enter Tryz.func155,Tryz.ntmps155;go_wp2;go_ret;exact⟨U,U⟩
def anC(b:qI bp n vs w)(h:n<=1000)(l:0<n)(m:n<=cp)(B:Nat): Ô À 116 #[Ê bp n cp,Å<|Ã ⟨B,0,Ä⟩] w λe a=>∃g c,e=È (Ê (Ã ⟨g,0,Ä⟩) (n+1) c)/\n+1<=c/\fg (λ_=>False) w a/\Tz vs B w a g/\∀j u,(sC vs++[Å<|Ã ⟨B,0,Ä⟩])[j]?=Ã u->a.cell? ⟨g,0+j,Ä⟩=Ã u:=by
 let⟨G,r,s,t,x⟩:=ò anx;obtain⟨d,y⟩:∃d,vs[0]?=Ã d:=⟨_,Ñ<|by rwa[<-b.r]⟩;let⟨g,f,i,_,_⟩:=b.C 0 d.1 d.2 y;have z:∀(o:Obj) (j:Nat) (v:Ç),(sC vs)[j]?=Ã v->(w.alloc o).cell? ((⟨g,f,Ä⟩:Č).add j)=Ã v:=λo j v q=>by unfold sC at q;rw[Ģ]at q;obtain⟨p,C,rfl⟩:=Ì.1 q;let⟨D,E,H,k,_⟩:=b.C j p.1 p.2 C;rw[i]at H;cases H;rwa[Addr.add_mid,World.cell?_alloc_lt _ _ _<|ä w _ k]
 have H:=fi (Á z<|Á r<|Á s<|Á t<|Á x<|show(sC vs).length=n by unfold sC;rw[ξ];exact b.r.symm);subst i;go_enter Tryz.func116,Tryz.ntmps116;go_wp2_with (first
  |(go_at_call 155;refine(anB g f h m).mono ?_;rintro e a ⟨rfl,k⟩;subst a)
  |(at_builtin;refine anz U _ _ 65 U Tryz.underlying65 H.out.2.1 H.out.2.2.1 H.out.2.2.2.1 H.out.2.2.2.2.1 g f n (sC vs) H.out.2.2.2.2.2 (H.out.1 _) U w.heap.size (Å (Ã ⟨B,0,Ä⟩)) U (ą _ _ _) h A ?_;intro c C a e k p))
 go_ret;refine⟨_,_,U,a,(fg.gI _ _ _ _).fj e,⟨ft,by let⟨c,C,D,E⟩:=k;exact⟨c,by simpa using C,D,λu F=>(E u F).elim Û λq=>q.elim (λq=>Ü<|Û q) λq=>Ü<|Ü<|by simpa[ī]using q⟩⟩,λj u q=>by have:=p j u q;simpa using this⟩
end
structure Dq(r:Nat)(v:Int)(x:Nat)(bp:Option Č)(n cp:Nat)(w:É):Prop where
 M:w.cell? ⟨r,0,Ä⟩=Ã (Â Ë x)
 N:w.cell? ⟨r,5,Ä⟩=Ã (Â Ë v)
 I:w.cell? ⟨r,8,Ä⟩=Ã (Ê bp n cp)
def Dq.C{r:Nat}(h:Dq r c i O n j w)(k:fg (λ_=>False) w u):Dq r c i O n j u:=⟨k.r h.M id,k.r h.N id,k.r h.I id⟩
def tH(a:List (Nat×fP))(v:Int)(x:Nat)(b:List Tx):Option fP×ByteArray:=
 match lj a v with
 |none=>(Ä,pz 3)
 |some p=>if a.length=40 then(Ä,pz 4)else match xM x p.2.s b with
  |none=>(Ä,pz 5)
  |some r=>(Ã ⟨r.1,r.2.1,r.2.2,p.2.h+1⟩,qG a.length)
def Nf(c:Ç)(d:List (Nat×fP))(w:É):Prop:=∃a n b,c=Ê a n b/\n<=b/\qI a n d w
def TB(f:List (Nat×fP))(i:Ç)(w:É)(o:Option fP×ByteArray)(e:aP)(a:É):Prop:=
 fg (λ_=>False) w a/\((o.1=Ä/\e=È (é #[i,Í o.2]))\/∃v b d,o.1=Ã v/\e=È (é #[d,Í o.2])/\Nf d (f++[(b,v)]) a/\TA b v.s v.h w a/\∃g n c,d=Ê (Ã ⟨g,0,Ä⟩) n c/\Tz f b w a g)
def anD{c:List (Nat×fP)}{v:fP}(e:qI O n c w)(f:sB j v w)(h:∀a u,(sC c++[Å<|Ã ⟨j,0,Ä⟩])[a]?=Ã u->w.cell? ⟨i,0+a,Ä⟩=Ã u):qI (Ã ⟨i,0,Ä⟩) (n+1) (c++[(j,v)]) w:=by
 refine⟨by rw[e.r];simp,λa b u q=>⟨i,0,U,?_,?_⟩⟩
 .apply h a _;have:sC c++[Å<|Ã ⟨j,0,Ä⟩]=sC (c++[(j,v)]):=by simp[sC]
  rw[this];unfold sC;rw[Ģ,q];rfl
 .rcases ğ a c.length with d|d
  .rw[â d]at q;let⟨_,_,_,_,k⟩:=e.C a b u q;exact k
  .rw[Þ d]at q;have k:a-c.length=0:=by
    have:=(Ù.1 q).1;simp at this;omega
   rw[k]at q;cases q;exact f
def anE{e:aP}(a:FA h W Ä e u)(k:fg (λ_=>False) w W):e=È (Å Ä)/\fg (λ_=>False) w u:=by
 rcases a with⟨_,b,c⟩|⟨_,_,_,_,_,_,q,_⟩
 .exact⟨b,k.fj c⟩
 .cases q
def anF{e:aP}{s:St}{a:List (Nat×Int)}{b:List (Int×Bool)}(c:FA h W (Ã (s,a,b)) e u)(l:0<=h)(m:h<40)(k:fg (λ_=>False) w W):∃B,e=È (Å<|Ã ⟨B,0,Ä⟩)/\fg (λ_=>False) w u/\sB B ⟨s,a,b,h+1⟩ u/\TA B s (h+1) w u:=by
 rcases c with⟨q,_⟩|⟨n,o,p,B,d,f,q,g,x,i⟩
 .cases q
 .cases q;exact⟨B,g,k.fj x.M,x.anw i Z Z,ï k.M x.N,d,f,x.r,tF.I x.C,tF.I x.I,λj q=>ï k.M<|x.S j q,λj q=>ï k.M<|x.Y j q⟩
section
variable{bp:Option Č}{cp r x:Nat}{v:Int}{vs:List (Nat×fP)}{f:List (Nat×Tx)}
def anG{p:Nat×fP}(F:Ô À 113 #[Ê bp n cp,Â Ë v] w λe a=>e=È (jW<|Ã p.1)/\fg (λ_=>False) w a)(f:Dq r v x O b i w)(m:((n:Int)==40)=Ï)(N:∀W,fg (λ_=>False) w W->Ô À 115 #[Å<|Ã ⟨p.1,0,Ä⟩,Â Ë x,Ê O b i] W (FA p.2.h W Ä)): Ô À 66 #[Ê bp n cp,Å<|Ã ⟨r,0,Ä⟩] w (TB vs (Ê bp n cp) w (Ä,pz 5)):=by
 have o:=f.N;have H:=fi<|Á F<|Á N f;go_enter Ū,Œ;go_wp2_with (go_at_call 113;refine H.out.1.mono ?_;rintro e d ⟨rfl,c⟩;dsimp only[jW,Ŷ]);have g:=fi (Á ((H.out.2.2.C c).C<|fg.fU (λ_=>False) _).M ((H.out.2.2.C c).C<|fg.fU (λ_=>False) _).I);go_region_held3 (λa=>a.cell? ⟨r,0,Ä⟩=Ã (Â Ë x)/\a.cell? ⟨r,8,Ä⟩=Ã (Ê O b i)) (first|exact g.out|exact j.out) (first
   |(go_at_call 115;refine(H.out.2.1 _ (c.fj kp)).mono ?_;rintro e k l;obtain⟨rfl,d⟩:e=È (Å Ä)/\fg (λ_=>False) w k:=anE l (c.fj kp);dsimp only;have j:=fi (Á (H.out.2.2.C d).M (H.out.2.2.C d).I)))
 go_wp2_with (first
  |(go_at_call 114;refine(FB 5 A _).mono ?_;rintro e a ⟨rfl,c⟩;subst a))
 go_ret2;exact⟨d,Û ⟨U,U⟩⟩
def anH{p:Nat×fP}{f:St}{g:List (Nat×Int)}{j:List (Int×Bool)}(k:qI bp n vs w)(Q:n<=40)(q:0<n)(s:n<=cp)(t:0<=p.2.h)(u:p.2.h<40)(F:Ô À 113 #[Ê bp n cp,Â Ë v] w λe a=>e=È (jW<|Ã p.1)/\fg (λ_=>False) w a)(l:Dq r v x O b i w)(T:((n:Int)==40)=Ï)(N:∀W,fg (λ_=>False) w W->Ô À 115 #[Å<|Ã ⟨p.1,0,Ä⟩,Â Ë x,Ê O b i] W (FA p.2.h W<|Ã (f,g,j))): Ô À 66 #[Ê bp n cp,Å<|Ã ⟨r,0,Ä⟩] w (TB vs (Ê bp n cp) w (Ã ⟨f,g,j,p.2.h+1⟩,qG vs.length)):=by
 have V:=l.N;rw[<-k.r];have H:=fi<|Á F<|Á N<|Á l k;go_enter Ū,Œ;go_wp2_with (go_at_call 113;refine H.out.1.mono ?_;rintro e o ⟨rfl,d⟩;dsimp only[jW,Ŷ]);have y:=fi (Á ((H.out.2.2.1.C d).C<|fg.fU (λ_=>False) _).M ((H.out.2.2.1.C d).C<|fg.fU (λ_=>False) _).I);go_region_held3 (λa=>a.cell? ⟨r,0,Ä⟩=Ã (Â Ë x)/\a.cell? ⟨r,8,Ä⟩=Ã (Ê O b i)) (first|exact y.out|exact o.out) (first
   |(go_at_call 115;refine(H.out.2.1 _ (d.fj kp)).mono ?_;rintro e D z;obtain⟨B,rfl,c,C,m⟩:=anF (w:=w) z t u (d.fj kp);dsimp only;have o:=fi (Á (H.out.2.2.1.C c).M (H.out.2.2.1.C c).I)))
 have W:=anC (H.out.2.2.2.I c) Z q s B;have z:=fi W;go_wp2_with (first
  |(go_at_call 116;refine z.out.mono ?_;rintro e G ⟨I,J,rfl,D,d,o,E⟩)
  |(go_at_call 117;refine(N' n Z _).mono ?_;rintro e a ⟨rfl,G⟩;subst a))
 go_ret2;refine⟨c.fj d,Ü ⟨_,B,_,U,U,⟨_,_,_,U,D,?_⟩,⟨m.C,by let⟨G,I,J,K,L,M,P⟩:=m.r;exact⟨G,I,J.I d id,K.C d,L.C d,M,P⟩⟩,_,_,_,U,ï c.M o.C,o.r⟩⟩;exact anD ((H.out.2.2.2.I c).I d) (C.Y d) E
def anI(a:qI bp n vs w)(C:n<=40)(j:0<n)(D:n<=cp)(t:∀p∈vs,p.2.h<40)(d:Dq r v x O b i w)(u:Dg O b f w)(E:b<=1000)(y:iN w)(G:x<8)(z:-1<=v): Ô À 66 #[Ê bp n cp,Å<|Ã ⟨r,0,Ä⟩] w (TB vs (Ê bp n cp) w<|tH vs v x<|lI f):=by
 have L:=d.N;unfold tH;cases g:lj vs v with
 |none=>
  have F:=Nd (cp:=cp) a Z j v z;rw[g]at F;have H:=fi F;go_enter Ū,Œ;go_wp2_with (first
   |(go_at_call 113;refine H.out.mono ?_;rintro e I ⟨rfl,q⟩;dsimp only[jW,Ŷ])
   |(go_at_call 114;refine(FB 3 A _).mono ?_;rintro e l ⟨rfl,J⟩;subst l))
  go_ret2;exact⟨q,Û ⟨U,U⟩⟩
 |some p=>
  have m:=Jq g;have c:=a.M m;have F:=Nd (cp:=cp) a Z j v z;rw[g]at F;have N:∀W,fg (λ_=>False) w W->Ô À 115 #[Å<|Ã ⟨p.1,0,Ä⟩,Â Ë x,Ê O b i] W (FA p.2.h W<|xM x p.2.s<|lI f):=λW k=>
   amw (c.r.r k id) c.I (by have:=c.M;omega) c.C (u.I k) (y.r k id) E G
  have K:=a.r;by_cases B:n=40
  .simp only;rw[if_pos Z];have H:=fi F;clear F N a d u y t c g m K;have o:((n:Int)==40)=Ý:=by rw[B];rfl
   clear B;go_enter Ū,Œ;go_wp2_with (first
    |(go_at_call 113;refine H.out.mono ?_;rintro e I ⟨rfl,q⟩;dsimp only[jW,Ŷ])
    |(go_at_call 114;refine(FB 4 A _).mono ?_;rintro e l ⟨rfl,J⟩;subst l))
   go_ret2;exact⟨q,Û ⟨U,U⟩⟩
  .simp only;rw[if_neg Z];have o:((n:Int)==40)=Ï:=by rw[beq_eq_false_iff_ne];omega
   have l:=t p m;have H:=c.I;cases e:xM x p.2.s (lI f)with
   |none=>
    rw[e]at N;exact anG F d o N
   |some q=>
    let⟨I,J,M⟩:=q;rw[e]at N;exact anH a C j D H l F d o N
end
def anJ(h:l.length=145):À.built 147 [(0,ė l.toArray)]=Ã (l++[Â Ë 0,Ê Ä 0 0]).toArray:=by let⟨z,d,a,b,c⟩:=Tf I_ I' A;rw[Te J_ a,c];have:=MV (place:=λi=>[(0,145),(145,1),(146,1)].toArray[i]?) (pre:=[]) (suf:=[Â Ë 0,Ê Ä 0 0]) (i:=0) (v:=ė l.toArray) (rest:=[]) U (by show l.toArray.size=145;simp[h]) b;simpa[Ŀ,ī]using this
def anK(a:o.op=ς 147 #[(0,qQ)])(b:xX qQ=ė l.toArray)(c:l.length=145):(į xX o).run À w=aA (.value<|ė (l++[Â Ë 0,Ê Ä 0 0]).toArray) w:=by have d:=anJ c;apply Tg a;simp only[Ċ,Ě,ġ,b];exact d
def mM:fP:=⟨kg 8,[],[],0⟩
def aai:gL (kg 8):=by refine⟨λi=> ?_,λi j=>⟨Ø _,show(0:Int)<18446744073709551616 by decide⟩,λi=>⟨show(0:Nat)<=40 by decide,λc a=>by cases a⟩⟩;show gf (if i<8 then 1000 else 0);split<;>exact⟨A,A⟩
def anL{s:St}(d:gL s)(h:fl i (iz s++[Ê Ä 0 0]++[Â Ë 0,Ê Ä 0 0]) 147 w):sB i ⟨s,[],[],0⟩ w:=by
 have a:=sw s;refine⟨⟨λj v c=> ?_,?_⟩,d,Ø _,show(0:Int)<=40 by decide,?_,?_⟩
 .rw[ĸ];apply h.r j v;rwa[þ,â (Ù.1 c).1]
 .apply h.r 145 _;rw[Þ (by simp[a])];simp[a]
 .refine⟨Ä,0,h.r 144 _ ?_,λj x b=>by cases b⟩;rw[þ,Þ (by simp[a])];simp[a]
 .refine⟨Ä,0,h.r 146 _ ?_,λj x b=>by cases b⟩;rw[Þ (by simp[a])];simp[a]
def nJ(ls:List (Nat×Int)):Prop:=∀e∈ls,e.1<8/\gf e.2
def Jr(F:mf):Prop:=∀s a x y g k,gL s->x<8->y<8->gf k->0<=g->g<=100000->(a.length:Int)+g<=1000000->nJ a->nJ (F s a x y g k).M
section
variable{c:RC}{F:mf}
def nJ.G8{ls:List (Nat×Int)}(h:nJ ls){p:Int}(a:i<8)(b:gf p):nJ (ls++[(i,p)]):=λe c=>by
 rcases ā.1 c with q|q
 .exact h e q
 .simp at q;subst q;exact⟨a,b⟩
def anM{t:RT}(h:Jr F)(d:c.y<8)(l:k<=20)(a:nI t)(b:nJ t.C):nJ (ru F c k t).C:=by
 by_cases f:k=19
 .subst f;exact b.G8 d<|rv a.r
 by_cases g:k=20
 .subst g;show nJ (jb F c t _ _ _).2.2.C;unfold jb;split
  .exact b
  .have e:=rv a.r;have i:=rv<|oF a.r;have j:=rv<|oF<|oF a.r;have m:=a.g0;have n:=a.C;have o:=a.M;have p:=e.1;have q:=i.1;exact h _ _ _ _ _ _ a.s d Z j Z Z Z b
 have e:(ru F c k t).C=t.C:=by
  unfold ru;rw[if_neg f,if_neg g];repeat' (split;·rfl)
  rfl
 rwa[e]
def Js(q:B.size<=40)(h:∀n,n<B.size->1<=kP B (n:Int))(i:o7 F)(j:c.x<8)(d:c.y<8)(m:gf c.k)(o:Jr F):∀(p:Nat) (b:Int) (t:RT),gf b->nI t->nJ t.C->nJ (tD F c B p b t).2.2.C
 |0,_,t,_,ht,D=>D
 |f+1,b,t,qc,ht,hlo=>by
  have g0:=ht.g0;have g1:=ht.C;have D:=ht.I;have K:=ht.M;unfold tD;by_cases E:b=B.size
  .rwa[if_pos E]
  rw[if_neg E];by_cases G:(B.size:Int)<b
  .rwa[if_pos G]
  rw[if_neg G];have SL:=qc.1;obtain⟨n,rfl⟩:∃n:Nat,b=n:=⟨b.toNat,Z⟩;have L:n<B.size:=Z
  have k1:=h n L;have M:kP B (n:Int)<=22:=SO _;have r:=SQ M;let⟨N,O,P,Q,T,V⟩:=I0 _ _ r;have W:kP B (n:Int)=1->48<=zv B (n:Int)/\zv B (n:Int)<=57:=SZ;generalize kP B (n:Int)=k at*;generalize q':pO k=ro at*;let⟨a,u,v⟩:=ro;simp only at r N O P Q T V|-;by_cases w:lA t.g t.r.length a u v=Ï
  .rwa[if_pos w]
  rw[if_neg w];have X:lA t.g t.r.length a u v=Ý:=by cases e:lA t.g t.r.length a u v with
   |true=>rfl
   |false=>exact absurd e w
  let⟨MN,Y,Fw⟩:=SY X;have z:gf ((n:Int)+1):=⟨Z,Z⟩;have H:∀{l:List Int},(∀p∈l,gf p)->l.length<=32->nI {t with r:=l,g:=t.g-a}:=λq1 q2=>⟨q1,q2,ht.s,by show 0<=t.g-a;omega,by show t.g-a<=100000;omega,by show(t.C.length:Int)+(t.g-a)<=1000000;omega⟩;by_cases p:k=1
  .rw[if_pos p];have:=W p;subst p;refine Js q h i j d m o f _ _ z (H (su ht.r<|vV ⟨Z,Z⟩) ?_) hlo;simp[iR]at r;simp;omega
  rw[if_neg p];by_cases C:k=17
  .rw[if_pos C];have I:=H (oF<|oF ht.r) (by rw[pd,pd];omega);split
   .exact Js q h i j d m o f _ _ z I hlo
   .exact Js q h i j d m o f _ _ (rv ht.r) I hlo
  rw[if_neg C];by_cases I:k=21
  .rwa[if_pos I]
  rw[if_neg I];by_cases J:k=22
  .rwa[if_pos J]
  rw[if_neg J];let⟨d1,_,_⟩:=SS (t:={t with g:=t.g-a}) i j d m Z Z C r U ⟨ht.r,ht.I,ht.s,by show 0<=t.g-a;omega,by show t.g-a<=100000;omega,by show(t.C.length:Int)+(t.g-a)<=1000000;omega⟩ K Y Fw;exact Js q h i j d m o f _ _ z d1<|anM o d Z ⟨ht.r,ht.I,ht.s,by show 0<=t.g-a;omega,by show t.g-a<=100000;omega,by show(t.C.length:Int)+(t.g-a)<=1000000;omega⟩ hlo
def anN(e:o7 F)(f:Jr F){s:St}{a:List (Nat×Int)}(b:gL s)(h:c.x<8)(i:c.y<8)(j:gf c.k)(l:0<=c.g)(m:c.g<=100000)(o:(a.length:Int)+c.g<=1000000)(d:nJ a):nJ (tE F c s a).M:=by
 unfold tE;simp only;split
 .exact Js (b.I c.y).1 (λn p=>SV b c.y p) e h i j f _ _ _ uP ⟨ft,ft,b,l,m,o⟩ d
 .exact d
end
def aaj:∀n,Jr<|Fy n
 |0=>λ_ _ _ _ _ _ _ _ _ _ _ _ _ h=>h
 |n+1=>λ_ _ x y g k a b d e f i j h=>anN (c:=⟨x,y,k,4-(n:Int),g⟩) (Ja n) (aaj n) a b d e f i j h
def TC:Jr gp:=aaj 4
def anO{s:St}(b:gL s){ls:List (Nat×Int)}{t:Tx}(a:t.Ok)(c:(ls.length:Int)+400<=1000000)(h:nJ ls):nJ (mh s ls t).2.2.2:=by
 unfold mh;split
 .exact h
 .split
  .exact h
  .unfold zz;split
   .exact h
   .rename_i d;have e:=(b.fy t.x).2;exact TC _ ls t.x t.y (t.n-10) t.k (b.r t.x ⟨Z,Z⟩) a.x a.y ⟨a.r,by have:=a.C;omega⟩ Z Z Z h
def zH(a:List (Int×Bool)):Prop:=∀e∈a,0<=e.1/\e.1<=400
def zH.G8{a:List (Int×Bool)}(h:zH a){e:Int×Bool}(b:0<=e.1)(c:e.1<=400):zH (a++[e]):=λx d=>by
 rcases ā.1 d with q|q
 .exact h x q
 .simp at q;subst q;exact⟨b,c⟩
structure TD(v:fP):Prop where
 C:nJ v.r
 r:zH v.C
 I:v.r.length<=400000
 M:v.C.length<=1000
def TF:∀(b:List Tx) {s:St} {ls:List (Nat×Int)} {a:List (Int×Bool)} {r:St×List (Nat×Int)×List (Int×Bool)},(∀t∈b,t.Ok)->gL s->nJ ls->zH a->ls.length+400*b.length<=400000->a.length+b.length<=1000->uR m s ls a b=Ã r->gL r.1/\nJ r.2.1/\zH r.2.2/\r.2.1.length<=400000/\r.2.2.length<=1000
 |[],s,ls,a,r,_,hs,hl,hu,n1,n2,h=>by cases h;exact⟨hs,hl,hu,by simpa using n1,by simpa using n2⟩
 |t::q,s,ls,a,r,ht,hs,hl,hu,n1,n2,h=>by
  unfold uR at h;simp only[ŉ]at n1 n2;split at h
  .have d:=N_ (ls:=ls) hs (ht t ft) Z;have f:=d.C;exact TF q (λc e=>ht c<|ũ _ e) (d.s.r m<|zw _) (anO hs (ht t ft) Z hl) (hu.G8 d.g0 d.r) Z (by simp;omega) h
  .cases h
def anP{s:St}{a:List Tx}{r:St×List (Nat×Int)×List (Int×Bool)}(b:∀t∈a,t.Ok)(c:gL s)(k:a.length<=1000)(e:xM m s a=Ã r):TD ⟨r.1,r.2.1,r.2.2,h⟩:=by unfold xM at e;obtain⟨l,d,rfl⟩:=Ì.1 e;let⟨_,f,g,i,j⟩:=TF a b c (λ_ q=>by cases q) (λ_ q=>by cases q) (by simp;omega) (by simp;omega) d;exact⟨f,g,i,j⟩
end Go.Proofs.Y.iE
namespace Go.Proofs
open Go.Shelf
def Tryz.lays283_ren:ĺ:=⟨fun|283=>187|n=>n,fun|3=>3|9=>9|4=>4|n=>n,fun|n=>n⟩
def Tryz.lays283:bh À Tryz.lays283_ren:={
 mixed:=fw
 f283:=Δ.trans<|congrArg Ã fw
 t3:=ĥ
 a3:=ū
 z3:=œ
 v3:=ı
 t4:=Ħ
 a4:=Ŭ
 z4:=Ŕ
 v4:=Ĳ
 t9:=Ė
 a9:=ŭ
 z9:=ŕ
 v9:=ĳ}
open Go.Lib in
def Tryz.internal_strconv_small(i:Nat)(h:i<100)(w:É):
 Ô À 187 #[Â Ë i] w λe a=>e=È (Í ⟨(ň i).toArray⟩)/\a=w:=Any.internal_strconv_small Tryz.lays283 i h w
def Tryz.laysM284_ren:ĺ:=⟨fun|284=>188|129=>198|317=>197|318=>199|n=>n,fun|53=>36|3=>3|212=>291|0=>0|4=>4|46=>168|5=>5|9=>9|n=>n,fun|17=>1|n=>n⟩
def Tryz.laysM284:Go.Proofs.LaysM.n284 À Tryz.laysM284_ren:={
 mixed:=fw
 f129:=Tryz.func198.trans<|congrArg Ã fw
 f284:=Tryz.func188.trans<|congrArg Ã fw
 f317:=Tryz.func197.trans<|congrArg Ã fw
 f318:=Tryz.func199.trans<|congrArg Ã fw
 t0:=Ρ
 a0:=aZ
 z0:=aQ
 v0:=ο
 t3:=ĥ
 a3:=ū
 z3:=œ
 v3:=ı
 t4:=Ħ
 a4:=Ŭ
 z4:=Ŕ
 v4:=Ĳ
 t5:=Τ
 a5:=bb
 z5:=aR
 v5:=π
 t9:=Ė
 a9:=ŭ
 z9:=ŕ
 v9:=ĳ
 t46:=ŷ
 a46:=av
 z46:=ψ
 v46:=Η
 t53:=Ņ
 a53:=Θ
 z53:=ų
 v53:=Ō
 t212:=Tryz.underlying291
 a212:=Tryz.isAgg291
 z212:=Tryz.sizeOf291
 v212:=Tryz.zeroValue291
 g17:=fw
 i0:=fw
 i3:=fw
 i4:=fw
 i5:=fw
 i9:=fw
 i46:=fw
 i53:=fw
 i212:=fw
 m17:=by kernel_rfl}
open Go.Lib in
def Tryz.internal_strconv_numDigits(u:Nat)(a:1<=u)(b:u<18446744073709551616)(w:É)(c:aD À w "internal/strconv.uint64pow10" Æ aS):
 Ô À 188 #[Â Æ u] w λe d=>e=È (Â Ë<|Ē u)/\d=w:=Any.internal_strconv_numDigits Tryz.laysM284 u a b w c
def Tryz.lays285_ren:ĺ:=⟨fun|285=>189|n=>n,fun|37=>107|53=>36|3=>3|4=>4|51=>95|9=>9|5=>5|0=>0|n=>n,fun|n=>n⟩
def Tryz.lays285:bj À Tryz.lays285_ren:={
 mixed:=fw
 f285:=Tryz.func189.trans<|congrArg Ã fw
 t0:=Ρ
 a0:=aZ
 z0:=aQ
 v0:=ο
 t3:=ĥ
 a3:=ū
 z3:=œ
 v3:=ı
 t4:=Ħ
 a4:=Ŭ
 z4:=Ŕ
 v4:=Ĳ
 t5:=Τ
 a5:=bb
 z5:=aR
 v5:=π
 t9:=Ė
 a9:=ŭ
 z9:=ŕ
 v9:=ĳ
 t37:=Ă
 a37:=Tryz.isAgg107
 z37:=Tryz.sizeOf107
 v37:=Tryz.zeroValue107
 t51:=Ι
 a51:=aT
 z51:=ax
 v51:=Υ
 t53:=Ņ
 a53:=Θ
 z53:=ų
 v53:=Ō}
open Go.RowKit Go.Sort Go.Lib in
def Tryz.internal_strconv_formatBase10(a c f:Nat)(u:Nat)(d:Array UInt8)(w:É)(h:Holds (λ(b:UInt8)=>Â bx (b.toNat:Int)) w a c d)(i:u<10^d.size)(j:u<18446744073709551616)(k:d.size<4611686018427387904):
 Ô À 189 #[Ê (Ã ⟨a,c,Ä⟩) d.size f,Â Æ u] w λe l=>
  e=È (é #[])/\∃(n m:Nat) (g:Array UInt8),l=(ω (λ(b:UInt8)=>Â bx (b.toNat:Int)) w a c g).drewN n/\FmtInv d.size u 0 m g:=Any.internal_strconv_formatBase10 Tryz.lays285 a c f u d w h i j k
def Tryz.lays99_ren:ĺ:=⟨fun|99=>175|206=>194|n=>n,fun|9=>9|4=>4|3=>3|n=>n,fun|n=>n⟩
def Tryz.lays99:br À Tryz.lays99_ren:={
 mixed:=fw
 f99:=Tryz.func175.trans<|congrArg Ã fw
 f206:=Tryz.func194.trans<|congrArg Ã fw
 t3:=ĥ
 a3:=ū
 z3:=œ
 v3:=ı
 t4:=Ħ
 a4:=Ŭ
 z4:=Ŕ
 v4:=Ĳ
 t9:=Ė
 a9:=ŭ
 z9:=ŕ
 v9:=ĳ}
open Go.RowKit Go.Lib in
def Tryz.strings_HasPrefix(s p:ByteArray)(w:É):
 Ô À 175 #[Í s,Í p] w λe a=>e=È (Ò<|Lib.hasPrefix s.data.toList p.data.toList)/\a=w:=Any.strings_HasPrefix Tryz.lays99 s p w
def Tryz.lays212_ren:ĺ:=⟨fun|212=>174|263=>192|264=>193|n=>n,fun|46=>168|51=>95|146=>285|53=>36|148=>287|n=>n,fun|n=>n⟩
def Tryz.lays212:bk À Tryz.lays212_ren:={
 mixed:=fw
 f212:=Tryz.func174.trans<|congrArg Ã fw
 f263:=Tryz.func192.trans<|congrArg Ã fw
 f264:=Tryz.func193.trans<|congrArg Ã fw
 t46:=ŷ
 a46:=av
 z46:=ψ
 v46:=Η
 t51:=Ι
 a51:=aT
 z51:=ax
 v51:=Υ
 t53:=Ņ
 a53:=Θ
 z53:=ų
 v53:=Ō
 t146:=Tryz.underlying285
 a146:=Tryz.isAgg285
 z146:=Tryz.sizeOf285
 v146:=Tryz.zeroValue285
 t148:=Tryz.underlying287
 a148:=Tryz.isAgg287
 z148:=Tryz.sizeOf287
 v148:=Tryz.zeroValue287}
open Go.RowKit Go.Lib in
def Tryz.bits_Mul(x y:Nat)(a:x<18446744073709551616)(b:y<18446744073709551616)(w:É):
 Ô À 174 #[Â Æ x,Â Æ y] w λe c=>e=È (é #[Â Æ ((x*y/18446744073709551616:Nat):Int),Â Æ ((x*y%18446744073709551616:Nat):Int)])/\c=w:=Any.bits_Mul Tryz.lays212 x y a b w
end Go.Proofs
namespace Go.Proofs.Y.iE
open Go Go.Proofs Go.RowKit Go.Sort Go.Proofs.Y.Lift
def zI:UInt8->Ç:=λb=>Â bx (b.toNat:Int)
def lJ(w:É):Prop:=aD À w "internal/strconv.uint64pow10" Æ aS
def anQ(a:kl w)(b:Nat)(f:Array Ç->Array Ç):kl (ō w b f):=by
 intro i o h;unfold ō at h;simp only[Ú]at h;split at h
 .cases d:w.heap[i]? with
  |none=>rw[d]at h;cases h
  |some e=>
   have:=a _ _ d;rw[d]at h;cases e with
   |cells c t z=>simp only[ì,ê]at h;subst h;exact λx=>x
   |_=>exact absurd trivial this
 .exact a i o h
def anR(a:sj m w)(b:Nat)(f:Array Ç->Array Ç)(j:NF b w):sj m (ō w b f):=by
 intro i c T k l h g;unfold ō at h;simp only[Ú]at h;split at h
 .rename_i e;subst e;cases d:w.heap[b]? with
  |none=>rw[d]at h;cases h
  |some n=>
   rw[d]at h;cases n with
   |cells o t z=>
    simp only[ì,ê,onCells,Į]at h;have:=j _ _ _ d;rw[h.2.1,g]at this;cases this
   |_=>simp only[ì,ê,onCells]at h;cases h
 .exact a i c T k l h g
def fg.gh(w:World)(T:TypeId)(cs:Array Value)(off:Nat)(d:Array UInt8)(n:Nat)(hT:me T=false:=by decide):fg (λ_=>False) w ((putRow zI (w.alloc<|.cells cs T) w.heap.size off d).drewN n):= ⟨by simp[ω,ō,World.drewN],λk hk _=>by show(ō (w.alloc<|Ð cs T) w.heap.size _).heap[k]?=_;unfold ō;simp only[Ú];rw[if_neg Z];exact Ĕ _ _ _ hk,λa=>anQ (IP a cs T (0,0)) _ _,λ_ a=>anR (IQ a cs T (0,0)<|Û hT) _ _<|fl.G (fl.N w cs.toList T) hT⟩
def anS(w:É)(T:ú)(a:Nat)(c:a<=24):Holds zI (w.alloc<|Ð Ĭ T) w.heap.size 0 (ř a (0:UInt8)):=λj b=>by
 have d:j<a:=by simpa using b
 refine⟨?_,World.frozen?_alloc_new _ _ _ _⟩;rw[World.cell?_alloc_new,Lib.zeros24_at _ Z,getElem!_pos _ j b];simp[zI]
def gP(u:Nat):ByteArray:=⟨(ň u).toArray⟩
def anT(u:Nat)(h:u<100)(w:É):Ô À 172 #[Â Æ u,Â Ë 10] w λe a=>e=È (Í<|gP u)/\a=w:=by
 have b:(0:Int)<=(u:Int):=Z
 have c:(u:Int)<100:=Z
 go_enter aU,ay;go_wp2_with (go_at_call 187;refine(Tryz.internal_strconv_small u h _).mono ?_;rintro e a ⟨rfl,rfl⟩);go_ret;exact⟨U,U⟩
def anU(u:Nat)(h:¬u<100)(c:u<18446744073709551616)(w:É)(m:lJ w):Ô À 172 #[Â Æ u,Â Ë 10] w λe b=>e=È (Í<|gP u)/\fg (λ_=>False) w b:=by
 have g:1<=u:=Z
 have p:Ē u<=20:=by have:=Lib.numDigits_eq u g c;split at this<;>omega
 have n:À.arrayLen 276=24:=fw
 have q:∀W,(Instr.sliceAt 276 (Å<|Ã ⟨w.heap.size,0,Ä⟩) Ä (Ã<|Â Ë (Ē u:Int)) Ä).run À W=aA (Ê (Ã ⟨w.heap.size,0,Ä⟩) (Ē u) 24) W:=λW=>by rw[run_sliceAt_array_h W 276 ⟨w.heap.size,0,Ä⟩ (by simp[Program.arrayLen,Program.elem,Tryz.type276]) Ë (Ē u:Int) Z (by rw[n];omega)];go_simp
 have i:=anS w 276 (Ē u) Z;have l:=Tryz.internal_strconv_formatBase10 w.heap.size 0 24 u (ř (Ē u) 0) (w.alloc<|Ð Ĭ 276) i (by rw[ē];exact Lib.lt_pow_nDigits u) c (by rw[ē];omega);rw[ē]at l;have o:=Lib.hid i;have r:¬(u:Int)<100:=Z
 go_enter aU,ay;go_wp2_with (go_at_call 188;refine(Tryz.internal_strconv_numDigits u g c _<|Lib.tabIs_alloc m _).mono ?_;rintro e b ⟨rfl,rfl⟩);go_at_call 189;apply l.mono;rintro e b ⟨rfl,k,s,a,d,hF⟩;replace d:b=(ω zI (w.alloc<|Ð Ĭ 276) w.heap.size 0 a).drewN k:=d;subst d;have t:(convert 107 9<|Ê (Ã ⟨w.heap.size,0,Ä⟩) (Ē u) 24).run À ((ω zI (w.alloc<|Ð Ĭ 276) w.heap.size 0 a).drewN k)=aA (Í<|gP u) ((ω zI (w.alloc<|Ð Ĭ 276) w.heap.size 0 a).drewN k):=by have h:=run_convert_bytes_back (P:=À) ((ω zI (w.alloc<|Ð Ĭ 276) w.heap.size 0 a).drewN k) 107 9 5 ⟨w.heap.size,0,Ä⟩ 24 (ň u) fw fw fw (λj f=>by rw[Lib.row_is_numeral hF j f,Lib.add_plain,World.cell?_drewN];exact cell?_putRow zI _ w.heap.size 0 _ a o.out (by rw[hF.size,ē]) j<|by rw[hF.size];rwa[ĭ]at f);rwa[ĭ]at h
 go_wp2;go_ret;exact⟨U,fg.gh w 276 _ _ a k⟩
def anV(u:Nat)(d:u<18446744073709551616)(w:É)(f:lJ w):Ô À 172 #[Â Æ u,Â Ë 10] w λe c=>e=È (Í<|gP u)/\fg (λ_=>False) w c:=by
 by_cases h:u<100
 .exact(anT u h w).mono λe c ⟨a,b⟩=>⟨a,b▸fg.fW _ _⟩
 .exact anU u h d w f
def anW(u:Nat)(b:u<18446744073709551616)(w:É)(c:lJ w):Ô À 157 #[Â Æ u,Â Ë 10] w λe a=>e=È (Í<|gP u)/\fg (λ_=>False) w a:=by go_enter Tryz.func157,Tryz.ntmps157;go_wp2_with (go_at_call 172;refine(anV u b _ c).mono ?_;rintro e a ⟨rfl,d⟩);go_ret;exact⟨U,d⟩
def xN(u:Nat)(b:u<18446744073709551616)(w:É)(c:lJ w):Ô À 118 #[Â Æ u] w λe a=>e=È (Í<|gP u)/\fg (λ_=>False) w a:=by go_enter Tryz.func118,Tryz.ntmps118;go_wp2_with (go_at_call 157;refine(anW u b _ c).mono ?_;rintro e a ⟨rfl,d⟩);go_ret;exact⟨U,d⟩
end Go.Proofs.Y.iE
namespace Go.Proofs.Y.iE
open Go Go.Proofs Go.RowKit Go.Proofs.Y.Lift
def TG(B:Nat):iW:=⟨B,144,[]⟩
def anX(B:Nat):(TG B).Ok:=⟨show(144:Nat)≠36 by decide,show(144:Nat)≠257 by decide,show(144:Nat)≠282 by decide,show(144:Nat)≠300 by decide,show(144:Nat)≠252 by decide,show(144:Nat)≠246 by decide⟩
def aak{s:St}(l:mj n s h w)(z:gL s)(B:iN w)(x y:Nat)(g k:Int)(V:x<8)(Y:y<8)(rR:0<=g)(sr:g<=100000)(hk:gf k)(r:Db)(D:r=gp s [] x y g k): Ô À 158 #[Å<|Ã ⟨n,0,Ä⟩,Â Ë x,Â Ë y,Â Æ g,Â Æ k] w λe f=>
  ∃lv,e=È (é #[ė #[Â Æ r.r,Ò r.C,Â Æ r.I],lv])/\f.ownsRow 0 257 2 lv r.M.length (kn r.M)/\fg (λ_=>False) w f:=by
 let⟨dd,E,F⟩:=Ì.1 Tk;have G:(À.info? 140).map (·.size)=Ã (iz s).length:=by rw[sw];exact K_
 let⟨i0,z0,I,J,K,L⟩:=y_ w_;have m:=S4 s (lv:=Ê Ä 0 0) U;rw[zC]at m;have o:(iz s++[Ê Ä 0 0]).length=145:=by rw[Ó,sw];rfl
 have M:=fg.gI (λ_=>False) w #[Â Æ 0,Ò Ï,Â Æ 0] 252;have N:=(l.r M id).C;have gH:=ä w _ l.h;have C:∀W,iD (w.heap.size+1) 144 [] s (Ê Ä 0 0) W->iN W->Ô À 173 #[Å<|Ã ⟨w.heap.size+1,0,Ä⟩,Â Ë x,Â Ë y,Â Æ g,Â Æ k,Â Ë 1] W λe f=>e=È (ė #[Â Æ r.r,Ò r.C,Â Æ r.I])/\∃jD,iy (TG<|w.heap.size+1) (Ê Ä 0 0) 0 W r.s r.M f jD:=λW hW hrW=>by rw[D];exact D' (TG<|w.heap.size+1) (anX _) s _ [] x y g k W hW (ć _ _ _ _) hrW z V Y rR sr hk<|by simp;omega
 have a:=fi<|Á E<|Á F<|Á G<|Á N<|Á I<|Á K<|Á (J.trans o.symm)<|Á (L.trans o.symm) m;have H:=fi<|Á B C;clear E F G I J K L m o N l C B z M D;go_enter Tryz.func158,Tryz.ntmps158;go_wp2_with (first
  |(with_reducible refine Ĝ U 140 _ U n 0 U (iz s) dd a.out.2.2.2.1 a.out.1 a.out.2.1 a.out.2.2.1 ?_)
  |(with_reducible refine ď U (Ã 19) U _ _ (Ti U U<|sw s) ?_)
  |(with_reducible refine S3 U U 144 U 12 U _ _ U U a.out.2.2.2.2.1 a.out.2.2.2.2.2.1 (iz s++[Ê Ä 0 0]) a.out.2.2.2.2.2.2.1 a.out.2.2.2.2.2.2.2.1 U U a.out.2.2.2.2.2.2.2.2 ?_;intro t hB1 O Sn))
 have CV:t.heap.size=w.heap.size+1+1:=by simpa using Sn
 have P:iD (w.heap.size+1) 144 [] s (Ê Ä 0 0) t:=by unfold iD;rw[ù,zC];simpa using hB1
 have Q:=(fg.gI _ _ _ _).fj O;have K9:=(fl.N w [Â Æ 0,Ò Ï,Â Æ 0] 252).I O id;go_at_call 173;refine(H.out.2 t P<|H.out.1.r Q id).mono ?_;rintro e u ⟨rfl,lv,d⟩;have b:=K9.I d.C (λq=>q.elim (λq=>absurd q<|by show w.heap.size≠w.heap.size+1;omega) λq=>by cases q);have sY:=d.C.M;have TH:u.cell? ⟨w.heap.size+1,144,Ä⟩=Ã lv:=d.r.IY Z;obtain⟨la,lc,rfl⟩:=jl d.I;have l0:=b.M;have y0:=b.C 0;have y1:=b.C 1;have y2:=b.C 2;have c0:=b.r 0 _ U;have c1:=b.r 1 _ U;have c2:=b.r 2 _ U;have hl2:w.heap.size+1<u.heap.size:=Z
 have c:=fi<|Á d<|Á b<|Á Q P;go_wp2_with fail;go_region;go_wp2_with fail;let⟨d2,na,sd⟩:=Ì.1 S6;have hb:=((c.out.2.1.gh 0<|Â Æ r.r).gh 1<|Ò r.C).gh 2<|Â Æ r.I;have T:=((fg.I (X:=λk=>k=w.heap.size) (w:=u) (p:=⟨w.heap.size,0,Ä⟩) U<|Â Æ r.r).fj<|fg.I (X:=λk=>k=w.heap.size) (p:=⟨w.heap.size,1,Ä⟩) U<|Ò r.C).fj (fg.I (X:=λk=>k=w.heap.size) (p:=⟨w.heap.size,2,Ä⟩) U<|Â Æ r.I);have v:=λW=>(fg.gI (λ_=>False) W #[Â Æ r.r,Ò r.C,Â Æ r.I] 252).fj<|fg.fU _ _;apply õ (zy U U (fl.Y (vs:=[Â Æ r.r,Ò r.C,Â Æ r.I])<|hb.I (v _) id) na sd S7) U;refine⟨_,U,ik (ik c.out.1.I T λj hj y=> ?_) (v _) λ_ _=>id,?_⟩
 .let⟨cur,i⟩:=lG c.out.1.I hj;have j:=c.out.2.1;rw[y,j]at i;cases i
 .refine((c.out.2.2.1.C c.out.1.C λi j q=> ?_).C T λi j q=> ?_).fj<|v _
  .rcases q with q|q
   .exact absurd q<|by show i≠w.heap.size+1;omega
   .cases q
  .omega
def tJ(s:St)(x y:Nat)(k:Int):Nat->Nat->ByteArray
 |_,0=>⟨#[45]⟩
 |i,n+1=>if(gp s [] x y i k).C then gP i else tJ s x y k (i+1) n
noncomputable def Ng:Ş:=(Tryz.f120.body.bind kF).getD Ń
def Dr(a x y:Nat)(k:Int)(r:Ç)(i:Int)(u:Nat->Ç):ë:=⟨#[Å<|Ã ⟨a,0,Ä⟩,Â Ë x,Â Ë y,Â Æ k,u 4,u 5,u 6,u 7,r,u 9,u 10,u 11,Â Æ i,u 13,u 14,u 15,u 16,u 17,u 18,u 19,u 20,u 21,u 22,u 23,u 24,u 25,u 26,u 27,u 28,u 29],[]⟩
def zK(b x y:Nat)(k:Int)(r:Ç)(i:Int)(a:ë):Prop:=∃u,a=Dr b x y k r i u
def lJ.r(h:lJ w)(q:fg (λ_=>False) w u):lJ u:=by
 unfold lJ aD World.var? at*;cases a:À.globalNamed "internal/strconv.uint64pow10" with
 |none=>rw[a]at h;cases h
 |some g=>
  rw[a]at h;simp only[Option.bind_some]at h|-;have b:g<w.heap.size:=by
   rcases ğ g w.heap.size with e|e
   .exact e
   .rw[ñ e]at h;simp at h
  rwa[q.N g b id]
section
variable{Y:ë->É->Prop}{s:St}
def anY(b:Ç)(u:Nat->Ç)(d:∀a,zK j i n c b 401 a->H a w): Î À Ng (Exit.then K<|QN H Y) (Dr j i n c b 401 u) w:=by
 unfold Dr;conv=>arg 2;whnf
 go_wp2_with fail
 exact d _ (gA _)
def anZ(p:Ç)(u:Nat->Ç)(b:Nat)(P:b<401)(B:mj j s h w)(C:gL s)(D:iN w)(E:lJ w)(F:i<8)(G:n<8)(I:gf c) (q:(gp s [] i n b c).C=Ï->∀a g,zK j i n c p ((b+1:Nat):Int) a->fg (λ_=>False) w g->K a g) (r:(gp s [] i n b c).C=Ý->∀a g,zK j i n c (Í<|gP b) b a->fg (λ_=>False) w g->Y a g): Î À Ng (Exit.then K<|QN H Y) (Dr j i n c p b u) w:=by
 unfold Dr;conv=>arg 2;whnf
 have T:=aak B C D i n b c F G Z Z I _ U;obtain⟨t,o,v,x,y,J⟩:∃t o v x y,gp s [] i n b c=⟨t,o,v,x,y⟩:=⟨_,_,_,_,_,U⟩;rw[J]at T q r;have Q:Æ.wrap ((b:Int)+1)=((b+1:Nat):Int):=by rw[Ο];omega
 have V:(0:Int)<=(b:Int):=Z
 have W:(b:Int)<401:=Z
 have d:=fi<|Á T<|Á q<|Á r E;cases o with
 |true=>
  go_wp2_with (first
   |(go_at_call 158;refine d.out.1.mono ?_;rintro e l ⟨L,rfl,f,k⟩;obtain⟨M,N,rfl⟩:=jl f;have m:=fi<|Á k f;clear k f)
   |(go_at_call 118;refine(xN b Z _ (d.out.2.2.2.r (m.out.1.fj (fg.gI (λ_=>False) l _ _)))).mono ?_;rintro e X ⟨rfl,z⟩;have O:=fi z;clear z))
  exact d.out.2.2.1 trivial _ _ (gA _)<|(m.out.1.fj<|fg.gI (λ_=>False) l _ _).fj O.out
 |false=>
  go_wp2_with (first
   |(go_at_call 158;refine d.out.1.mono ?_;rintro e l ⟨L,rfl,f,k⟩;obtain⟨M,N,rfl⟩:=jl f;have m:=fi (Á k f);clear k f))
  exact d.out.2.1 trivial _ _ (gA _)<|m.out.1.fj<|fg.gI (λ_=>False) l _ _
def LI(j i n:Nat)(c:Int)(d:Ç)(s:St)(e:É)(f:ByteArray)(a:ë)(w:É):Prop:=
 ∃b:Nat,zK j i n c d b a/\b<=401/\fg (λ_=>False) e w/\tJ s i n c b (401-b)=f
def LE(j i n:Nat)(c:Int)(b:Ç)(d:É)(e:ByteArray)(a:ë)(w:É):Prop:=zK j i n c b 401 a/\fg (λ_=>False) d w/\e=⟨#[45]⟩
def LR(j i n:Nat)(c:Int)(d:É)(e:ByteArray)(a:ë)(w:É):Prop:=∃b,zK j i n c (Í e) b a/\fg (λ_=>False) d w
def Nh(a:ë)(_:É):Nat:=match a.tmps.getD 12 ĉ with
 |Â _ i=>401-i.toNat
 |_=>0
def aal(d:zK j i n c v b y):Nh y w=401-b:=by obtain⟨u,rfl⟩:=d;show 401-(b:Int).toNat=_;simp
def an0(p:mj j s h u)(r:gL s)(t:iN u)(x:lJ u)(y:i<8)(z:n<8)(C:gf c)(a:ë)(w:É)(D:LI j i n c v s u B a w): Î À Ng (Exit.then (λg k=>LI j i n c v s u B g k/\Nh g k<Nh a w)<|QN (LE j i n c v u B)<|LR j i n c u B) a w:=by
 let⟨b,o,I,e,f⟩:=D;have E:=aal (w:=w) o;rw[E];obtain⟨d,rfl⟩:=o;by_cases F:b=401
 .subst F;exact anY v d λa q=>⟨q,e,f.symm⟩
 .have G:401-b=(401-(b+1))+1:=Z
  rw[G,tJ]at f;refine anZ v d b Z (p.r e id) r (t.r e id) (x.r e) y z C ?_ ?_
  .intro l g k q m;rw[l]at f;exact⟨⟨b+1,q,Z,e.fj m,f⟩,by rw[aal q];omega⟩
  .intro l g k q m;rw[l]at f;have H:gP b=B:=f;rw[H]at q;exact⟨b,q,e.fj m⟩
def an1(g:mj j s h w)(k:gL s)(l:iN w)(m:lJ w)(o:i<8)(p:n<8)(q:gf c): Ô À 120 #[Å<|Ã ⟨j,0,Ä⟩,Â Ë i,Â Ë n,Â Æ c] w λe a=>e=È (Í<|tJ s i n c 0 401)/\fg (λ_=>False) w a:=by
 have L:∀a,zK j i n c (Í ⟨#[]⟩) 0 a->Î À (ã Ng) (QN (LE j i n c (Í ⟨#[]⟩) w<|tJ s i n c 0 401)<|LR j i n c w<|tJ s i n c 0 401) a w:=λa t=>
  Đ (LI j i n c (Í ⟨#[]⟩) s w<|tJ s i n c 0 401) Nh ⟨0,t,å _,fg.fW _ _,U⟩<|an0 g k l m o p q
 have H:=fi L;generalize tJ s i n c 0 401=r at*;go_enter Tryz.func120,Tryz.ntmps120;go_wp2_with fail;refine à ?_ (H.out _ (gA _));rintro(_|(_|_)|_|_|_|_) a v hq;all_goals first|exact absurd hq id|skip
 .obtain⟨b,d,rfl⟩:=hq;obtain⟨u,rfl⟩:=b;unfold Dr;have f:=fi d;go_wp2_with fail;go_ret;exact⟨U,f.out⟩
 .let⟨e,b,d⟩:=hq;obtain⟨u,rfl⟩:=b;unfold Dr;have f:=fi d;go_wp2_with fail;go_ret;exact⟨U,f.out⟩
end
def zL:(À.info? 9).map (λi=>(i.zero,i.size,i.bytes))=Ã (Ã<|Í ⟨#[]⟩,1,16):=fw
def jm(xs:List ByteArray):List Ç:=xs.map Í
structure il(w0:É)(tv:Ç)(xs:List ByteArray)(w:É):Prop where
 fu:w.ownsRow w0.heap.size 9 1 tv xs.length (jm xs)
 r:fg (λ_=>False) w0 w
section
variable{w0:É}{tv:Ç}{xs:List ByteArray}
def il.M(w0:É){w:É}(k:fg (λ_=>False) w0 w):il w0 (Ê Ä 0 0) [] w:=⟨ć _ _ _ _,k⟩
def il.fN(h:il w0 tv xs w)(k:fg (λ_=>False) w u):il w0 tv xs u:=⟨ik h.fu k λ_ _=>id,h.r.fj k⟩
def il.C(h:il w0 tv xs w)(a:qC w w0.heap.size 9 1 tv xs.length (jm xs) 1 [Í B] v u):il w0 v (xs++[B]) u:=by
 refine⟨?_,h.r.C a.r λi b q=> ?_⟩
 .have:=a.fu;rwa[show jm xs++[Í B]=jm (xs++[B]) by simp[jm],show xs.length+1=(xs++[B]).length by simp]at this
 .have:=(h.fu.lt i q).1;omega
end
def ry(u:Nat)(h:u<18446744073709551616):(gP u).size<=20:=by have:=Lib.nDigits_le20 u h;unfold gP;show(ň u).toArray.size<=20;simp[ĭ];omega
def nK(p:Option Č)(a:List Ç)(w:É):Prop:=∀(j:Nat) (x:Ç),a[j]?=Ã x->∃b o,p=Ã ⟨b,o,Ä⟩/\w.cell? ⟨b,o+j,Ä⟩=Ã x
def nK.C(h:nK O l w)(q:fg (λ_=>False) w u):nK O l u:=λj x a=>by let⟨b,o,c,d⟩:=h j x a;exact⟨b,o,c,q.r d id⟩
def nK.r{base:Nat}(h:w.ownsRow base e i (Ê O n j) n l):nK O l w:=λb x d=>by
 rcases h.2 with⟨f,k⟩|⟨g,m,o,f,_⟩
 .have:=h.1;rw[k,Nat.zero_mul]at this;rw[á this]at d;cases d
 .cases f;refine⟨g,0,U,?_⟩;have:=h.cells (g:=g) U b x d;rwa[Addr.add_mid]at this
def TJ{α:Type}(f g:α->Ç):∀(l:List α) (j:Nat) (x:α),l[j]?=Ã x->(l.flatMap λp=>[f p,g p])[j*2]?=Ã (f x)/\(l.flatMap λp=>[f p,g p])[j*2+1]?=Ã (g x)
 |[],j,x,h=>by cases h
 |a::l,0,x,h=>by cases h;exact⟨U,U⟩
 |a::l,j+1,x,h=>by have p:=TJ f g l j x h;rwa[show(j+1)*2=j*2+1+1 by omega]
def iJ(y:Nat):ByteArray:=ÿ ⟨#[97,98,99,100,101,102,103,104]⟩ y<|y+1
def sD(e:Nat×Int):ByteArray:=iJ e.1++gP e.2.toNat
noncomputable def Ni:Ş:=(Tryz.f124.body.bind kF).getD Ń
def FP(a:Option Č)(n b:Nat)(c:Ç)(i:Int)(u:Nat->Ç):ë:=⟨#[Ê a n b,u 1,u 2,c,u 4,u 5,Ê a n b,Â Ë n,Â Ë i,u 9,u 10,u 11,u 12,u 13,u 14,u 15,u 16,u 17,u 18,u 19,u 20,u 21,u 22,u 23,u 24,u 25,u 26],[]⟩
def FQ(b:Option Č)(n c:Nat)(d:Ç)(i:Int)(a:ë):Prop:=∃u,a=FP b n c d i u
section
variable{X:ë->É->Prop}{w0:É}{cp:Nat}{tv:Ç}{xs:List ByteArray}
def an2(u:Nat->Ç)(i:Int)(b:i=n)(c:∀a,FQ O n cp tv n a->X a w): Î À Ni (Exit.then K<|QQ X) (FP O n cp tv i u) w:=by
 unfold FP;conv=>arg 2;whnf
 subst b;go_wp2_with fail;exact c _ (gA _)
def an3(u:Nat->Ç)(r:il w0 tv xs w)(j:Nat)(P:j<n)(Q:n<=400000)(T:xs.length<=400000)(y p:Nat)(V:y<8)(s:p<18446744073709551616)(B:lJ w)(l m:Nat)(C:O=Ã ⟨l,m,Ä⟩)(W:w.cell? ⟨l,m+j*2,Ä⟩=Ã (Â Ë y))(Y:w.cell? ⟨l,m+j*2+1,Ä⟩=Ã (Â Æ p)) (b:∀a d t,FQ O n cp t ((j+1:Nat):Int) a->il w0 t (xs++[iJ y++gP p]) d->K a d): Î À Ni (Exit.then K<|QQ X) (FP O n cp tv j u) w:=by
 unfold FP;conv=>arg 2;whnf
 subst C;have e0:(0:Int)<=(j:Int):=Z
 have e1:(j:Int)<(n:Int):=Z
 have y0:(0:Int)<=(y:Int):=Z
 have y1:(y:Int)<8:=Z
 have jx:=ry p s;have mE:Ë.wrap ((y:Int)+1)=(y:Int)+1:=by rw[î];omega
 have E5:(0:Int)<=(y:Int)+1:=Z
 have xd:(y:Int)+1<=8:=Z
 have rf:(y:Int)<=(y:Int)+1:=Z
 have uG:((y:Int)+1).toNat=y+1:=Z
 have xI:¬9223372036854775807<min (y+1) 8-y+(gP p).size:=Z
 obtain⟨ta,tc,rfl⟩:=jl r.fu;have H:=fi<|Á r<|Á B b;go_wp2_with fail;change Î À _ _ _ (w.alloc<|Ð #[Â Ë y,Â Æ p] 257);have v:=fg.gI (λ_=>False) w #[Â Ë y,Â Æ p] 257;have D:=(H.out.1.fN v).fN<|fg.fU _ _;have E:=(H.out.2.1.r v).r<|fg.fU _ _;have o:=(fl.N w [Â Ë y,Â Æ p] 257).I (fg.fU (λ_=>False) _) id;let⟨i0,F,G,I,J⟩:=ò zL;have g:=fi<|Á F<|Á G<|Á I J;refine mg (λd=>d.cell? ⟨w.heap.size,0,Ä⟩=Ã (Â Ë y)/\d.cell? ⟨w.heap.size,1,Ä⟩=Ã (Â Æ p)) [] fw ?_;have c:=fi<|Á (o.r 0 _ rfl)<|o.r 1 _ rfl;generalize w.heap.size=ub at*;generalize đ (w.alloc<|Ð #[Â Ë y,Â Æ p] 257)=w1 at*;apply tk 0 c.out;apply tk 1 c.out;apply tk 2 c.out;apply tk 3 c.out;apply tk 4 c.out;apply tk 5 c.out;apply tk 6 c.out;apply tk 7 c.out;apply tk 8 c.out;apply gF 9;intro K b;go_simp;go_at_call 118;refine(xN p s _ E).mono ?_;rintro e L ⟨rfl,x⟩;have M:=D.fN x;have f:=o.I x id;apply b.out _ _ λ_=>⟨f.r 0 _ U,f.r 1 _ U⟩;apply gF 10;intro K b;go_simp;apply b.out _ _ λ_=>⟨f.r 0 _ U,f.r 1 _ U⟩;have z:=fg.gI (λ_=>False) L #[Í<|iJ y++gP p] 9;have h:=M.fN z;have i:=f.I z id;apply gF 11;intro K b;go_simp;apply b.out _ _ λ_=>⟨i.r 0 _ U,i.r 1 _ U⟩;apply gF 12;intro K b;refine MK fR _ _ 25 fR Ā g.out.1 g.out.2.1 g.out.2.2.1 g.out.2.2.2 U fR h.fu ⟨_,0,Ä⟩ [Í<|iJ y++gP p] fR Z U (ą _ _ _) (λu k=>by simp at k;subst k;rfl) (by unfold č;omega) Z h.r.M ?_;intro tv1 w9 q;obtain⟨a2,M_,rfl⟩:=jl q.fu;have N:=h.C q;have k:=i.I q.r<|jE h.fu i A;apply b.out _ _ λ_=>⟨k.r 0 _ U,k.r 1 _ U⟩;apply gF 13;intro K b;go_simp;apply b.out _ _ λ_=>⟨k.r 0 _ U,k.r 1 _ U⟩;refine lU fw ?_ _;go_wp2_with fail;exact H.out.2.2 _ _ _ (gA _) N
def TK(O:Option Č)(n cp:Nat)(w0:É)(l:List (Nat×Int))(a:ë)(w:É):Prop:=
 ∃(j:Nat) (tv:Ç),FQ O n cp tv j a/\j<=n/\il w0 tv ((l.take j).map sD) w
def ltE(O:Option Č)(n cp:Nat)(w0:É)(l:List (Nat×Int))(a:ë)(w:É):Prop:=
 ∃tv,FQ O n cp tv n a/\il w0 tv (l.map sD) w
def Nj(n:Nat)(a:ë)(_:É):Nat:=match a.tmps.getD 8 ĉ with
 |Â _ i=>n-i.toNat
 |_=>0
def aam(b:FQ O n cp tv i y):Nj n y w=n-i:=by obtain⟨u,rfl⟩:=b;show n-(i:Int).toNat=_;simp
def an4{l:List (Nat×Int)}(k:n=l.length)(m:n<=400000)(o:nJ l)(p:lJ w0)(f:nK O (kn l) w0)(a:ë)(w:É)(r:TK O n cp w0 l a w): Î À Ni (Exit.then (λb d=>TK O n cp w0 l b d/\Nj n b d<Nj n a w)<|QQ<|ltE O n cp w0 l) a w:=by
 let⟨j,tv,g,E,b⟩:=r;rw[aam g];obtain⟨u,rfl⟩:=g;by_cases s:j=n
 .subst s;refine an2 u _ U λa q=>⟨tv,q,?_⟩;rwa[k,Χ]at b
 .obtain⟨x,e⟩:∃x,l[j]?=Ã x:=⟨_,Ñ Z⟩;obtain⟨g0,t⟩:=TJ _ _ l j x e;let⟨v,y,h,z⟩:=f (j*2) _ g0;let⟨F,G,i,B⟩:=f (j*2+1) _ t;rw[h]at i;cases i;have c:=o x<|ü e;refine an3 u b j Z m (by simp;omega) x.1 x.2.toNat c.1 (by have:=c.2.1;have:=c.2.2;omega) (p.r b.r) v y h (b.r.r z id) (by rw[ę c.2.1];exact b.r.r B id) λa d C q D=>⟨⟨j+1,C,q,Z,?_⟩,by rw[aam q];omega⟩;rwa[Κ,e,ś]
def aan{l:List (Nat×Int)}(b:n=l.length)(g:n<=400000)(c:nJ l)(d:lJ w)(f:nK O (kn l) w): Ô À 124 #[Ê O n cp] w λe a=>∃tv,e=È tv/\il w tv (l.map sD) a:=by
 have L:∀a,FQ O n cp (Ê Ä 0 0) (0:Nat) a->Î À (ã Ni) (QQ<|ltE O n cp w l) a w:=λa e=>
  Đ (TK O n cp w l) (Nj n) ⟨0,_,e,å _,il.M w<|fg.fW _ _⟩<|an4 b g c d f
 have H:=fi L;clear L c d f b;go_enter Tryz.func124,Tryz.ntmps124;go_wp2_with fail;refine à ?_ (H.out _ (gA _));rintro(_|(_|_)|_|_|_|_) a v hq;all_goals first|exact absurd hq id|skip
 let⟨tv,h,i⟩:=hq;obtain⟨u,rfl⟩:=h;unfold FP;have j:=fi i;go_wp2_with fail;go_ret;exact⟨_,U,j.out⟩
end
def aao(b:Bool):xD b=((b.toNat:Nat):Int):=by cases b<;>rfl
def FR(e:Int×Bool):ByteArray:=gP e.2.toNat++⟨#[58]⟩++gP e.1.toNat
noncomputable def Nk:Ş:=(Tryz.f125.body.bind kF).getD Ń
def FT(a:Option Č)(n b:Nat)(c:Ç)(i:Int)(u:Nat->Ç):ë:=⟨#[Ê a n b,u 1,u 2,c,u 4,u 5,Ê a n b,Â Ë n,Â Ë i,u 9,u 10,u 11,u 12,u 13,u 14,u 15,u 16,u 17,u 18,u 19,u 20,u 21,u 22,u 23,u 24,u 25],[]⟩
def FU(b:Option Č)(n c:Nat)(d:Ç)(i:Int)(a:ë):Prop:=∃u,a=FT b n c d i u
section
variable{cp:Nat}{xs:List ByteArray}
def an5(u:Nat->Ç)(i:Int)(b:i=n)(c:∀a,FU O n cp v n a->H a w): Î À Nk (Exit.then K<|QQ H) (FT O n cp v i u) w:=by
 unfold FT;conv=>arg 2;whnf
 subst b;go_wp2_with fail;exact c _ (gA _)
def an6(c:Nat->Ç)(r:il u v xs w)(j:Nat)(hj:j<n)(hn:n<=1000)(uo:xs.length<=1000)(p:Nat)(b:Bool)(C:p<18446744073709551616)(D:lJ w)(s t:Nat)(W:O=Ã ⟨s,t,Ä⟩)(X:w.cell? ⟨s,t+j*2,Ä⟩=Ã (Â Æ p))(Y:w.cell? ⟨s,t+j*2+1,Ä⟩=Ã (Ò b)) (f:∀a h E,FU O n cp E ((j+1:Nat):Int) a->il u E (xs++[gP b.toNat++⟨#[58]⟩++gP p]) h->K a h): Î À Nk (Exit.then K<|QQ H) (FT O n cp v j c) w:=by
 unfold FT;conv=>arg 2;whnf
 subst W;have jx:=ry p C;have F:b.toNat<18446744073709551616:=by cases b<;>decide
 have hsb:=ry b.toNat F;have xI:¬9223372036854775807<(gP b.toNat).size+1:=Z
 have hw5:¬9223372036854775807<(gP b.toNat).size+1+(gP p).size:=Z
 obtain⟨ta,tc,rfl⟩:=jl r.fu;have d:=fi<|Á r<|Á D f;clear r D f;go_wp2_with fail;change Î À _ _ _ (w.alloc<|Ð #[Â Æ p,Ò b] 246);have G:=fg.gI (λ_=>False) w #[Â Æ p,Ò b] 246;have T1:=(d.out.1.fN G).fN<|fg.fU _ _;have I:=(d.out.2.1.r G).r<|fg.fU _ _;have x:fl w.heap.size [Â Æ p,Ò b] 246 (đ<|w.alloc<|Ð #[Â Æ p,Ò b] 246):=(fl.N w [Â Æ p,Ò b] 246).I (fg.fU (λ_=>False) _) id;let⟨i0,J,L,M,N⟩:=ò zL;have k:=fi<|Á J<|Á L<|Á M N;clear J L M N X Y;refine mg (λh=>h.cell? ⟨w.heap.size,0,Ä⟩=Ã (Â Æ p)/\h.cell? ⟨w.heap.size,1,Ä⟩=Ã (Ò b)) [] fw ?_;have g:=fi<|Á (x.r 0 _ rfl)<|x.r 1 _ rfl;generalize w.heap.size=ub at*;generalize đ (w.alloc<|Ð #[Â Æ p,Ò b] 246)=w1 at*;apply tk 0 g.out;apply tk 1 g.out;apply tk 2 g.out;apply tk 6 g.out;apply tk 7 g.out;apply gF 3;intro K f;go_simp;go_at_call 159;refine(IZ _ _).mono ?_;rintro e P ⟨rfl,rf⟩;subst P;dsimp only;rw[aao];apply f.out _ _ λ_=>g.out;clear f K;apply gF 4;intro K f;go_simp;go_at_call 118;refine(xN b.toNat F _ I).mono ?_;rintro e P ⟨rfl,y⟩;have T2:=T1.fN y;have z:=x.I y id;have P2:=I.r y;have Q:=fi<|Á (z.r 0 _ rfl)<|z.r 1 _ rfl;dsimp only;apply f.out _ _ λ_=>Q.out;clear f K;apply tk 5 Q.out;apply gF 8;intro K f;go_simp;go_at_call 118;refine(xN p C _ P2).mono ?_;rintro e w3 ⟨rfl,T⟩;have i:=z.I T id;dsimp only;apply f.out _ _ λ_=>⟨i.r 0 _ U,i.r 1 _ U⟩;clear f K;apply gF 9;intro K f;go_simp;apply f.out _ _ λ_=>⟨i.r 0 _ U,i.r 1 _ U⟩;clear f K;have V:=fg.gI (λ_=>False) w3 #[Í<|gP b.toNat++⟨#[58]⟩++gP p] 9;have l:=(T2.fN T).fN V;have o:=i.I V id;apply gF 10;intro K f;go_simp;apply f.out _ _ λ_=>⟨o.r 0 _ U,o.r 1 _ U⟩;clear f K;apply gF 11;intro K f;refine MK (base:=u.heap.size) (n:=xs.length) (xs:=jm xs) (m:=1) fR _ _ 25 fR Ā k.out.1 k.out.2.1 k.out.2.2.1 k.out.2.2.2 U fR l.fu ⟨_,0,Ä⟩ [Í<|gP b.toNat++⟨#[58]⟩++gP p] fR Z U (ą _ _ _) (λc q=>by simp at q;subst q;rfl) (by unfold č;omega) Z l.r.M ?_;intro tv1 w9 B;obtain⟨a2,M_,rfl⟩:=jl B.fu;have q:=o.I B.r<|jE l.fu o A;apply f.out _ _ λ_=>⟨q.r 0 _ U,q.r 1 _ U⟩;clear f K;apply gF 12;intro K f;go_simp;apply f.out _ _ λ_=>⟨q.r 0 _ U,q.r 1 _ U⟩;clear f K;try simp only[ł,Õ,æ,ç]
 refine lU fw ?_ _;go_wp2_with fail;exact d.out.2.2 _ _ _ (gA _)<|l.C B
def TL(O:Option Č)(n cp:Nat)(u:É)(l:List (Int×Bool))(a:ë)(w:É):Prop:=
 ∃(j:Nat) (v:Ç),FU O n cp v j a/\j<=n/\il u v ((l.take j).map FR) w
def TM(O:Option Č)(n cp:Nat)(u:É)(l:List (Int×Bool))(a:ë)(w:É):Prop:=
 ∃v,FU O n cp v n a/\il u v (l.map FR) w
def Nl(n:Nat)(a:ë)(_:É):Nat:=match a.tmps.getD 8 ĉ with
 |Â _ i=>n-i.toNat
 |_=>0
def aap(b:FU O n cp v i y):Nl n y w=n-i:=by obtain⟨u,rfl⟩:=b;show n-(i:Int).toNat=_;simp
def an7{l:List (Int×Bool)}(m:n=l.length)(o:n<=1000)(p:zH l)(r:lJ u)(g:nK O (uQ l) u)(a:ë)(w:É)(s:TL O n cp u l a w): Î À Nk (Exit.then (λb d=>TL O n cp u l b d/\Nl n b d<Nl n a w)<|QQ<|TM O n cp u l) a w:=by
 let⟨j,v,h,G,c⟩:=s;rw[aap h];obtain⟨b,rfl⟩:=h;by_cases t:j=n
 .subst t;refine an5 b _ U λa q=>⟨v,q,?_⟩;rwa[m,Χ]at c
 .obtain⟨x,e⟩:∃x,l[j]?=Ã x:=⟨_,Ñ Z⟩;obtain⟨g0,y⟩:=TJ _ _ l j x e;let⟨z,B,i,C⟩:=g (j*2) _ g0;let⟨H,I,k,D⟩:=g (j*2+1) _ y;rw[i]at k;cases k;have f:=p x<|ü e;refine an6 b c j Z o (by simp;omega) x.1.toNat x.2 (by have:=f.1;have:=f.2;omega) (r.r c.r) z B i (by rw[ę f.1];exact c.r.r C id) (c.r.r D id) λa d E q F=>⟨⟨j+1,E,q,Z,?_⟩,by rw[aap q];omega⟩;rwa[Κ,e,ś]
def an8{l:List (Int×Bool)}(b:n=l.length)(g:n<=1000)(c:zH l)(d:lJ w)(f:nK O (uQ l) w): Ô À 125 #[Ê O n cp] w λe a=>∃v,e=È v/\il w v (l.map FR) a:=by
 have L:∀a,FU O n cp (Ê Ä 0 0) (0:Nat) a->Î À (ã Nk) (QQ<|TM O n cp w l) a w:=λa h=>
  Đ (TL O n cp w l) (Nl n) ⟨0,_,h,å _,il.M w<|fg.fW _ _⟩<|an7 b g c d f
 have H:=fi L;clear L c d f b;go_enter Tryz.func125,Tryz.ntmps125;go_wp2_with fail;refine à (Q:=QQ<|TM O n cp w l) ?_ (H.out _ (gA _));rintro(_|(_|_)|_|_|_|_) a v hq;all_goals first|exact absurd hq id|skip
 let⟨v,i,e⟩:=hq;obtain⟨u,rfl⟩:=i;unfold FT;have j:=fi e;clear e;go_wp2_with fail;go_ret;exact⟨_,U,j.out⟩
end
def Ds(j:Nat):ByteArray:=ÿ ⟨#[48,49,50,51,52,53,54,55,56,57,97,98,99,100,101,102]⟩ j<|j+1
def Dt(s t:St)(i j:Nat):List ByteArray:=if(s i).C j=(t i).C j then[]else[iJ i++Ds j]
def rz(s t:St)(i j:Nat):List ByteArray:=(Ĉ j).flatMap<|Dt s t i
def xO(b a:Int)(p c:ByteArray)(i:Nat):List ByteArray:=(if b=a then[]else[iJ i++⟨#[36]⟩])++(if p.toList=c.toList then[]else[iJ i++⟨#[123]⟩])
def zM(s t:St)(i:Nat):List ByteArray:=xO (s i).fy (t i).fy (s i).r (t i).r i++rz s t i 16
def rA(s t:St)(n:Nat):List ByteArray:=(Ĉ n).flatMap<|zM s t
def an9(s t:St)(i j:Nat):(Dt s t i j).length<=1:=by unfold Dt;split<;>simp
def TN(s t:St)(i j:Nat):rz s t i (j+1)=rz s t i j++Dt s t i j:=by unfold rz;rw[Ś,ů];simp
def Nn(s t:St)(i:Nat):∀j,(rz s t i j).length<=j
 |0=>by simp[rz]
 |j+1=>by rw[TN,Ó];have:=Nn s t i j;have:=an9 s t i j;omega
def aaq(b a:Int)(p c:ByteArray)(i:Nat):(xO b a p c i).length<=2:=by unfold xO;rw[Ó];split<;>split<;>simp
def aar(s t:St)(n:Nat):rA s t (n+1)=rA s t n++zM s t n:=by unfold rA;rw[Ś,ů];simp
def TO(s t:St):∀n,(rA s t n).length<=18*n
 |0=>by simp[rA]
 |n+1=>by rw[aar,Ó];have:=TO s t n;unfold zM;rw[Ó];have:=Nn s t n 16;have:=aaq (s n).fy (t n).fy (s n).r (t n).r n;omega
def xP(i:Nat):(iJ i).size<=1:=by unfold iJ;rw[Ŗ];omega
def aas(i:Nat):(Ds i).size<=1:=by unfold Ds;rw[Ŗ];omega
def mj.gX{s:St}(c:mj n s h W)(a:i<8):W.cell? ⟨n,i*18,Ä⟩=Ã (Â Æ (s i).fy)/\W.cell? ⟨n,i*18+1,Ä⟩=Ã (Í (s i).r)/\∀j,j<16->W.cell? ⟨n,i*18+2+j,Ä⟩=Ã (Â Æ<|(s i).C j):=by
 have g:∀j,j<144->W.cell? ⟨n,j,Ä⟩=Ã (pM s j):=λj b=>by have:=c.C j _<|Tv s b;simpa using this
 refine⟨?_,?_,λj b=> ?_⟩
 .rw[g _ Z,<-qE s (Ê Ä 0 0) Z,IW _ _ a];rfl
 .rw[g _ Z,<-qE s (Ê Ä 0 0) Z,ME _ _ a]
 .rw[g _ Z,<-qE s (Ê Ä 0 0) Z,MG _ _ a b];rfl
noncomputable def zN:Ş:=(Tryz.f126.body.bind kF).getD Ń
noncomputable def xR:Ş:=(kF zN).getD Ń
def uU(a b i:Nat)(c:Ç)(j:Int)(u:Nat->Ç):ë:=⟨#[Å<|Ã ⟨a,0,Ä⟩,Å<|Ã ⟨b,0,Ä⟩,u 2,u 3,u 4,c,Â Ë i,Í<|iJ i,Å<|Ã ⟨a,i*18,Ä⟩,Å<|Ã ⟨b,i*18,Ä⟩,u 10,Â Ë i,u 12,u 13,u 14,u 15,u 16,u 17,u 18,u 19,u 20,u 21,u 22,u 23,u 24,u 25,u 26,u 27,u 28,u 29,u 30,u 31,u 32,u 33,u 34,u 35,u 36,u 37,u 38,u 39,u 40,u 41,u 42,u 43,u 44,u 45,u 46,u 47,u 48,u 49,u 50,u 51,u 52,u 53,Â Ë j,u 55,u 56,u 57,u 58,u 59,u 60,u 61,u 62,u 63,u 64,u 65,u 66,u 67,u 68,u 69,u 70,u 71,u 72,u 73,u 74,u 75,u 76,u 77,u 78,u 79,u 80,u 81],[]⟩
def uV(b c i:Nat)(d:Ç)(j:Int)(a:ë):Prop:=∃u,a=uU b c i d j u
def tK(a b:Nat)(c:Ç)(i:Int)(u:Nat->Ç):ë:=⟨#[Å<|Ã ⟨a,0,Ä⟩,Å<|Ã ⟨b,0,Ä⟩,u 2,u 3,u 4,c,u 6,u 7,u 8,u 9,u 10,Â Ë i,u 12,u 13,u 14,u 15,u 16,u 17,u 18,u 19,u 20,u 21,u 22,u 23,u 24,u 25,u 26,u 27,u 28,u 29,u 30,u 31,u 32,u 33,u 34,u 35,u 36,u 37,u 38,u 39,u 40,u 41,u 42,u 43,u 44,u 45,u 46,u 47,u 48,u 49,u 50,u 51,u 52,u 53,u 54,u 55,u 56,u 57,u 58,u 59,u 60,u 61,u 62,u 63,u 64,u 65,u 66,u 67,u 68,u 69,u 70,u 71,u 72,u 73,u 74,u 75,u 76,u 77,u 78,u 79,u 80,u 81],[]⟩
def vW(b c:Nat)(d:Ç)(i:Int)(a:ë):Prop:=∃u,a=tK b c d i u
section
variable{X:ë->É->Prop}{w0:É}{xs:List ByteArray}{s t:St}
def aoa(u:Nat->Ç)(b:∀a,uV n j i v (16:Nat) a->X a w): Î À xR (Exit.then K<|Q2 X) (uU n j i v (16:Nat) u) w:=by
 unfold uU;conv=>arg 2;whnf
 go_wp2_with fail
 exact b _ (gA _)
def aob(u:Nat->Ç)(b:Nat)(d:i<8)(e:b<16)(p:Int)(f:w.cell? ⟨n,i*18+2+b,Ä⟩=Ã (Â Æ p))(g:w.cell? ⟨j,i*18+2+b,Ä⟩=Ã (Â Æ p)) (c:∀a,uV n j i v ((b+1:Nat):Int) a->K a w.drew): Î À xR (Exit.then K<|Q2 X) (uU n j i v b u) w:=by
 unfold uU;conv=>arg 2;whnf
 have h:(0:Int)<=(b:Int):=Z
 have k:(b:Int)<16:=Z
 have H:=fi c;clear c;go_wp2_with fail;go_region;go_wp2_with fail;exact H.out _ (gA _)
def aoc(u:Nat->Ç)(d:il w0 v xs w)(t:xs.length<=1000)(b:Nat)(x:i<8)(y:b<16)(p q:Int)(z:(p==q)=Ï)(B:w.cell? ⟨n,i*18+2+b,Ä⟩=Ã (Â Æ p))(C:w.cell? ⟨j,i*18+2+b,Ä⟩=Ã (Â Æ q)) (f:∀a g h,uV n j i g ((b+1:Nat):Int) a->il w0 g (xs++[iJ i++Ds b]) h->K a h): Î À xR (Exit.then K<|Q2 X) (uU n j i v b u) w:=by
 unfold uU;conv=>arg 2;whnf
 have D:(0:Int)<=(b:Int):=Z
 have E:(b:Int)<16:=Z
 have F:Ë.wrap ((b:Int)+1)=(b:Int)+1:=by rw[î];omega
 have G:(0:Int)<=(b:Int)+1:=Z
 have I:(b:Int)+1<=16:=Z
 have J:(b:Int)<=(b:Int)+1:=Z
 have L:((b:Int)+1).toNat=b+1:=Z
 have M:¬9223372036854775807<(iJ i).size+(Ds b).size:=by have:=xP i;have:=aas b;omega
 have N:ÿ ⟨#[48,49,50,51,52,53,54,55,56,57,97,98,99,100,101,102]⟩ b (b+1)=Ds b:=U;obtain⟨O,P,rfl⟩:=jl d.fu;let⟨Q,k,l,o,r⟩:=ò zL;have c:=fi<|Á k<|Á l<|Á o r;have H:=fi<|Á d f;clear d f k l o r;go_wp2_with fail;go_region;go_wp2_with (at_builtin;refine C7 (base:=w0.heap.size) (n:=xs.length) (xs:=jm xs) (m:=1) U _ _ 25 U Ā c.out.1 c.out.2.1 c.out.2.2.1 c.out.2.2.2 U U ((H.out.1).fN kp).fu ⟨_,0,Ä⟩ [Í<|iJ i++Ds b] U Z U (ą _ _ _) (λu e=>by simp at e;subst e;rfl) (by unfold č;omega) Z ((H.out.1).fN kp).r.M ?_;intro T V e;obtain⟨W,Y,rfl⟩:=jl e.fu;have s:=fi<|((H.out.1).fN kp).C e;clear e);exact H.out.2 _ _ _ (gA _) s.out
def DJ(n j i:Nat)(w0:É)(xs:List ByteArray)(s t:St)(a:ë)(w:É):Prop:=
 ∃(b:Nat) (v:Ç),uV n j i v b a/\b<=16/\il w0 v (xs++rz s t i b) w
def vY(n j i:Nat)(w0:É)(xs:List ByteArray)(s t:St)(a:ë)(w:É):Prop:=
 ∃(v:Ç),uV n j i v (16:Nat) a/\il w0 v (xs++rz s t i 16) w
def Np(a:ë)(_:É):Nat:=match a.tmps.getD 54 ĉ with
 |Â _ i=>16-i.toNat
 |_=>0
def TP(c:uV n j i v b y):Np y w=16-b:=by obtain⟨u,rfl⟩:=c;show 16-(b:Int).toNat=_;simp
def aod(o:mj n s h w0)(p:mj j t c w0)(e:i<8)(B:xs.length<=900)(a:ë)(w:É)(r:DJ n j i w0 xs s t a w): Î À xR (Exit.then (λb g=>DJ n j i w0 xs s t b g/\Np b g<Np a w)<|Q2<|vY n j i w0 xs s t) a w:=by
 let⟨b,v,l,C,d⟩:=r;rw[TP l];obtain⟨u,rfl⟩:=l;by_cases x:b=16
 .subst x;exact aoa u λa q=>⟨v,q,d⟩
 .have m:=d.r.r ((o.gX e).2.2 b Z) id;have k:=d.r.r ((p.gX e).2.2 b Z) id;by_cases q:(s i).C b=(t i).C b
  .rw[<-q]at k;refine aob u b e Z _ m k λa f=>⟨⟨b+1,v,f,Z,?_⟩,by rw[TP f];omega⟩;rw[TN,Dt,if_pos q,ù];exact d.fN<|fg.fU _ _
  .refine aoc u d (by rw[Ó];have:=Nn s t i b;omega) b e Z _ _ (by simpa using q) m k λa y g f z=>⟨⟨b+1,y,f,Z,?_⟩,by rw[TP f];omega⟩;rwa[TN,Dt,if_neg q,<-þ]
def aoe(u:Nat->Ç)(b:∀a,vW n j v (8:Nat) a->X a w): Î À zN (Exit.then K<|QQ X) (tK n j v (8:Nat) u) w:=by
 unfold tK;conv=>arg 2;whnf
 go_wp2_with fail
 exact b _ (gA _)
def aof(u:Nat->Ç)(d:il w0 v xs w)(E:xs.length<=800)(F:i<8)(b h:Int)(p k:ByteArray)(G:(b==h)=Ý)(I:(p.toList==k.toList)=Ý)(l:w0.cell? ⟨n,i*18,Ä⟩=Ã (Â Æ b))(m:w0.cell? ⟨j,i*18,Ä⟩=Ã (Â Æ h))(f:w0.cell? ⟨n,i*18+1,Ä⟩=Ã (Í p))(g:w0.cell? ⟨j,i*18+1,Ä⟩=Ã (Í k)) (L:∀a e W,uV n j i e (0:Nat) a->il w0 e xs W->Î À (ã xR) (Q2<|vY n j i w0 xs s t) a W) (o:∀a e q,vW n j e ((i+1:Nat):Int) a->il w0 e (xs++rz s t i 16) q->K a q): Î À zN (Exit.then K<|QQ X) (tK n j v i u) w:=by
 unfold tK;conv=>arg 2;whnf
 have J:=d.r.r l id;have M:=d.r.r m id;have N:=d.r.r f id;have O:=d.r.r g id;have P:(0:Int)<=(i:Int):=Z
 have T:(i:Int)<8:=Z
 have V:Ë.wrap ((i:Int)+1)=(i:Int)+1:=by rw[î];omega
 have Y:(0:Int)<=(i:Int)+1:=Z
 have xd:(i:Int)+1<=8:=Z
 have rf:(i:Int)<=(i:Int)+1:=Z
 have uG:((i:Int)+1).toNat=i+1:=Z
 have xI:¬9223372036854775807<(iJ i).size+1:=by have:=xP i;omega
 have TQ:ÿ ⟨#[97,98,99,100,101,102,103,104]⟩ i (i+1)=iJ i:=U;obtain⟨ta,tc,rfl⟩:=jl d.fu;let⟨i0,r,x,y,z⟩:=ò zL;have HI:=fi<|Á r<|Á x<|Á y z;have H:=fi<|Á d<|Á f<|Á g<|Á L o;clear d r x y z L o l m f g;go_wp2_with fail;go_region;go_wp2_with fail;go_region;go_wp2_with fail;go_region;go_wp2_with fail;refine à (Q:=Q2<|vY n j i w0 xs s t) ?_ (H.out.2.2.2.1 _ _ _ (gA _)<|(H.out.1).fN kp);rintro(_|(_|_|_|_)|_|_|_|_) a c hq;all_goals first|exact absurd hq id|skip
 let⟨TR,C,B⟩:=hq;obtain⟨c,rfl⟩:=C;unfold uU;have D:=fi B;clear B;go_wp2_with fail;exact H.out.2.2.2.2 _ _ _ (gA _) D.out
def aog(u:Nat->Ç)(d:il w0 v xs w)(G:xs.length<=800)(I:i<8)(b l:Int)(p o:ByteArray)(J:(b==l)=Ý)(M:(p.toList==o.toList)=Ï)(q:w0.cell? ⟨n,i*18,Ä⟩=Ã (Â Æ b))(r:w0.cell? ⟨j,i*18,Ä⟩=Ã (Â Æ l))(h:w0.cell? ⟨n,i*18+1,Ä⟩=Ã (Í p))(k:w0.cell? ⟨j,i*18+1,Ä⟩=Ã (Í o)) (L:∀a e W,uV n j i e (0:Nat) a->il w0 e (xs++[iJ i++⟨#[123]⟩]) W->Î À (ã xR) (Q2<|vY n j i w0 (xs++[iJ i++⟨#[123]⟩]) s t) a W) (x:∀a e y,vW n j e ((i+1:Nat):Int) a->il w0 e ((xs++[iJ i++⟨#[123]⟩])++rz s t i 16) y->K a y): Î À zN (Exit.then K<|QQ X) (tK n j v i u) w:=by
 unfold tK;conv=>arg 2;whnf
 have N:=d.r.r q id;have O:=d.r.r r id;have P:=d.r.r h id;have T:=d.r.r k id;have V:(0:Int)<=(i:Int):=Z
 have Y:(i:Int)<8:=Z
 have mE:Ë.wrap ((i:Int)+1)=(i:Int)+1:=by rw[î];omega
 have E5:(0:Int)<=(i:Int)+1:=Z
 have xd:(i:Int)+1<=8:=Z
 have rf:(i:Int)<=(i:Int)+1:=Z
 have uG:((i:Int)+1).toNat=i+1:=Z
 have xI:¬9223372036854775807<(iJ i).size+1:=by have:=xP i;omega
 have TQ:ÿ ⟨#[97,98,99,100,101,102,103,104]⟩ i (i+1)=iJ i:=U;obtain⟨ta,tc,rfl⟩:=jl d.fu;let⟨i0,z,B,C,D⟩:=ò zL;have f:=fi<|Á z<|Á B<|Á C D;have H:=fi<|Á d<|Á h<|Á k<|Á L x;clear d z B C D L x q r h k;go_wp2_with fail;go_region;go_wp2_with fail;go_region;go_wp2_with fail;go_region;go_wp2_with (at_builtin;refine C7 (base:=w0.heap.size) (n:=xs.length) (xs:=jm xs) (m:=1) U _ _ 25 U Ā f.out.1 f.out.2.1 f.out.2.2.1 f.out.2.2.2 U U ((H.out.1).fN kp).fu ⟨_,0,Ä⟩ [Í<|iJ i++⟨#[123]⟩] U Z U (λc u g=>fg.r (X:=λ_=>False) kp (ą w (Í<|iJ i++⟨#[123]⟩) 9 c u g) id) (λu g=>by simp at g;subst g;rfl) (by unfold č;omega) Z ((H.out.1).fN kp).r.M ?_;intro E F c;obtain⟨ta2,tc2,rfl⟩:=jl c.fu;have g:=fi<|((H.out.1).fN kp).C c;clear c);refine à (Q:=Q2<|vY n j i w0 (xs++[iJ i++⟨#[123]⟩]) s t) ?_ (H.out.2.2.2.1 _ _ _ (gA _)<|(g.out).fN kp);rintro(_|(_|_|_|_)|_|_|_|_) a c hq;all_goals first|exact absurd hq id|skip
 let⟨TR,E,g⟩:=hq;obtain⟨c,rfl⟩:=E;unfold uU;have F:=fi g;clear g;go_wp2_with fail;exact H.out.2.2.2.2 _ _ _ (gA _) F.out
def aoh(u:Nat->Ç)(d:il w0 v xs w)(I:xs.length<=800)(J:i<8)(b l:Int)(p o:ByteArray)(M:(b==l)=Ï)(N:(p.toList==o.toList)=Ý)(q:w0.cell? ⟨n,i*18,Ä⟩=Ã (Â Æ b))(r:w0.cell? ⟨j,i*18,Ä⟩=Ã (Â Æ l))(h:w0.cell? ⟨n,i*18+1,Ä⟩=Ã (Í p))(k:w0.cell? ⟨j,i*18+1,Ä⟩=Ã (Í o)) (L:∀a e W,uV n j i e (0:Nat) a->il w0 e (xs++[iJ i++⟨#[36]⟩]) W->Î À (ã xR) (Q2<|vY n j i w0 (xs++[iJ i++⟨#[36]⟩]) s t) a W) (x:∀a e y,vW n j e ((i+1:Nat):Int) a->il w0 e ((xs++[iJ i++⟨#[36]⟩])++rz s t i 16) y->K a y): Î À zN (Exit.then K<|QQ X) (tK n j v i u) w:=by
 unfold tK;conv=>arg 2;whnf
 have O:=d.r.r q id;have P:=d.r.r r id;have T:=d.r.r h id;have V:=d.r.r k id;have Y:(0:Int)<=(i:Int):=Z
 have e1:(i:Int)<8:=Z
 have mE:Ë.wrap ((i:Int)+1)=(i:Int)+1:=by rw[î];omega
 have E5:(0:Int)<=(i:Int)+1:=Z
 have xd:(i:Int)+1<=8:=Z
 have rf:(i:Int)<=(i:Int)+1:=Z
 have uG:((i:Int)+1).toNat=i+1:=Z
 have xI:¬9223372036854775807<(iJ i).size+1:=by have:=xP i;omega
 have TQ:ÿ ⟨#[97,98,99,100,101,102,103,104]⟩ i (i+1)=iJ i:=U;have CC:(xs++[iJ i++⟨#[36]⟩]).length=xs.length+1:=ft
 obtain⟨ta,tc,rfl⟩:=jl d.fu;let⟨i0,z,B,C,D⟩:=ò zL;have f:=fi<|Á z<|Á B<|Á C D;have H:=fi<|Á d<|Á h<|Á k<|Á L x;clear d z B C D L x q r h k;go_wp2_with fail;go_region;go_wp2_with fail;go_region;go_wp2_with (at_builtin;refine C7 (base:=w0.heap.size) (n:=xs.length) (xs:=jm xs) (m:=1) U _ _ 25 U Ā f.out.1 f.out.2.1 f.out.2.2.1 f.out.2.2.2 U U ((H.out.1).fN kp).fu ⟨_,0,Ä⟩ [Í<|iJ i++⟨#[36]⟩] U Z U (λc u g=>fg.r (X:=λ_=>False) kp (ą w (Í<|iJ i++⟨#[36]⟩) 9 c u g) id) (λu g=>by simp at g;subst g;rfl) (by unfold č;omega) Z ((H.out.1).fN kp).r.M ?_;intro E F c;obtain⟨G,tc1,rfl⟩:=jl c.fu;have g:=fi<|((H.out.1).fN kp).C c;clear c);have d3:=g.out.r.r H.out.2.1 id;have d4:=g.out.r.r H.out.2.2.1 id;go_region;go_wp2_with fail;refine à (Q:=Q2<|vY n j i w0 (xs++[iJ i++⟨#[36]⟩]) s t) ?_ (H.out.2.2.2.1 _ _ _ (gA _)<|(g.out).fN kp);rintro(_|(_|_|_|_)|_|_|_|_) a c hq;all_goals first|exact absurd hq id|skip
 let⟨TR,F,E⟩:=hq;obtain⟨c,rfl⟩:=F;unfold uU;have G:=fi E;clear E;go_wp2_with fail;exact H.out.2.2.2.2 _ _ _ (gA _) G.out
def aoi(u:Nat->Ç)(f:il w0 v xs w)(N:xs.length<=800)(O:i<8)(b q:Int)(p r:ByteArray)(P:(b==q)=Ï)(T:(p.toList==r.toList)=Ï)(x:w0.cell? ⟨n,i*18,Ä⟩=Ã (Â Æ b))(y:w0.cell? ⟨j,i*18,Ä⟩=Ã (Â Æ q))(k:w0.cell? ⟨n,i*18+1,Ä⟩=Ã (Í p))(l:w0.cell? ⟨j,i*18+1,Ä⟩=Ã (Í r)) (L:∀a g W,uV n j i g (0:Nat) a->il w0 g ((xs++[iJ i++⟨#[36]⟩])++[iJ i++⟨#[123]⟩]) W->Î À (ã xR) (Q2<|vY n j i w0 ((xs++[iJ i++⟨#[36]⟩])++[iJ i++⟨#[123]⟩]) s t) a W) (z:∀a g B,vW n j g ((i+1:Nat):Int) a->il w0 g (((xs++[iJ i++⟨#[36]⟩])++[iJ i++⟨#[123]⟩])++rz s t i 16) B->K a B): Î À zN (Exit.then K<|QQ X) (tK n j v i u) w:=by
 unfold tK;conv=>arg 2;whnf
 have V:=f.r.r x id;have Y:=f.r.r y id;have c3:=f.r.r k id;have c4:=f.r.r l id;have e0:(0:Int)<=(i:Int):=Z
 have e1:(i:Int)<8:=Z
 have mE:Ë.wrap ((i:Int)+1)=(i:Int)+1:=by rw[î];omega
 have E5:(0:Int)<=(i:Int)+1:=Z
 have xd:(i:Int)+1<=8:=Z
 have rf:(i:Int)<=(i:Int)+1:=Z
 have uG:((i:Int)+1).toNat=i+1:=Z
 have xI:¬9223372036854775807<(iJ i).size+1:=by have:=xP i;omega
 have TQ:ÿ ⟨#[97,98,99,100,101,102,103,104]⟩ i (i+1)=iJ i:=U;have G:(xs++[iJ i++⟨#[36]⟩]).length=xs.length+1:=ft
 obtain⟨ta,tc,rfl⟩:=jl f.fu;let⟨i0,C,D,E,F⟩:=ò zL;have e:=fi<|Á C<|Á D<|Á E F;have H:=fi<|Á f<|Á k<|Á l<|Á L z;clear f C D E F L z x y k l;go_wp2_with fail;go_region;go_wp2_with fail;go_region;go_wp2_with (at_builtin;refine C7 (base:=w0.heap.size) (n:=xs.length) (xs:=jm xs) (m:=1) U _ _ 25 U Ā e.out.1 e.out.2.1 e.out.2.2.1 e.out.2.2.2 U U ((H.out.1).fN kp).fu ⟨_,0,Ä⟩ [Í<|iJ i++⟨#[36]⟩] U Z U (λc u d=>fg.r (X:=λ_=>False) kp (ą w (Í<|iJ i++⟨#[36]⟩) 9 c u d) id) (λu d=>by simp at d;subst d;rfl) (by unfold č;omega) Z ((H.out.1).fN kp).r.M ?_;intro J I o;obtain⟨M,tc1,rfl⟩:=jl o.fu;have h:=fi<|((H.out.1).fN kp).C o;clear o);have d3:=h.out.r.r H.out.2.1 id;have d4:=h.out.r.r H.out.2.2.1 id;go_region;go_wp2_with (at_builtin;refine C7 (base:=w0.heap.size) (n:=(xs++[iJ i++⟨#[36]⟩]).length) (xs:=jm<|xs++[iJ i++⟨#[36]⟩]) (m:=1) U _ _ 25 U Ā e.out.1 e.out.2.1 e.out.2.2.1 e.out.2.2.2 U U ((h.out).fN kp).fu ⟨_,0,Ä⟩ [Í<|iJ i++⟨#[123]⟩] U Z U (λc u d=>fg.r (X:=λ_=>False) kp (ą I (Í<|iJ i++⟨#[123]⟩) 9 c u d) id) (λu d=>by simp at d;subst d;rfl) (by unfold č;omega) Z ((h.out).fN kp).r.M ?_;intro d o c;obtain⟨J,M,rfl⟩:=jl c.fu;have I:=fi<|((h.out).fN kp).C c;clear c);have d:=I.out;rw[G]at d;refine à (Q:=Q2<|vY n j i w0 ((xs++[iJ i++⟨#[36]⟩])++[iJ i++⟨#[123]⟩]) s t) ?_ (H.out.2.2.2.1 _ _ _ (gA _)<|(d).fN kp);rintro(_|(_|_|_|_)|_|_|_|_) a c hq;all_goals first|exact absurd hq id|skip
 let⟨TR,J,o⟩:=hq;obtain⟨c,rfl⟩:=J;unfold uU;have M:=fi o;clear o;go_wp2_with fail;exact H.out.2.2.2.2 _ _ _ (gA _) M.out
def DO(n j:Nat)(w0:É)(s t:St)(a:ë)(w:É):Prop:=
 ∃(i:Nat) (v:Ç),vW n j v i a/\i<=8/\il w0 v (rA s t i) w
def TS(n j:Nat)(w0:É)(s t:St)(a:ë)(w:É):Prop:=
 ∃(v:Ç),vW n j v (8:Nat) a/\il w0 v (rA s t 8) w
def Jt(a:ë)(_:É):Nat:=match a.tmps.getD 11 ĉ with
 |Â _ i=>8-i.toNat
 |_=>0
def aat(b:vW n j v i y):Jt y w=8-i:=by obtain⟨u,rfl⟩:=b;show 8-(i:Int).toNat=_;simp
def aoj(B:mj n s h w0)(C:mj j t c w0)(a:ë)(w:É)(E:DO n j w0 s t a w): Î À zN (Exit.then (λq g=>DO n j w0 s t q g/\Jt q g<Jt a w)<|QQ<|TS n j w0 s t) a w:=by
 let⟨i,v,D,H,l⟩:=E;rw[aat D];obtain⟨u,rfl⟩:=D;by_cases F:i=8
 .subst F;exact aoe u λa q=>⟨v,q,l⟩
 have k:i<8:=Z
 have I:=TO s t i;let⟨m,o,_⟩:=B.gX k;let⟨p,r,_⟩:=C.gX k;have L:∀q:List ByteArray,q.length<=900->∀a b W,uV n j i b (0:Nat) a->il w0 b q W->Î À (ã xR) (Q2<|vY n j i w0 q s t) a W:=λq y a b W G z=>
  Đ (DJ n j i w0 q s t) Np ⟨0,b,G,Z,by show il w0 b (q++[]) W;rwa[ù]⟩<|aod B C k y
 have x:∀q:List ByteArray,rA s t i++xO (s i).fy (t i).fy (s i).r (t i).r i=q->∀a b g,vW n j b ((i+1:Nat):Int) a->il w0 b (q++rz s t i 16) g->DO n j w0 s t a g/\Jt a g<8-i:=λq y a b g f z=>⟨⟨i+1,b,f,Z,by rwa[aar,zM,<-þ,y]⟩,by rw[aat f];omega⟩;by_cases d:(s i).fy=(t i).fy<;>by_cases e:(s i).r.toList=(t i).r.toList
 .exact aof u l Z k _ _ _ _ (by simpa using d) (by simpa using e) m p o r (L _ Z)<|x _<|by unfold xO;rw[if_pos d,if_pos e,ù,ù]
 .exact aog u l Z k _ _ _ _ (by simpa using d) (by simpa using e) m p o r (L _<|by rw[Ó];simp;omega)<|x _<|by unfold xO;rw[if_pos d,if_neg e,Ř]
 .exact aoh u l Z k _ _ _ _ (by simpa using d) (by simpa using e) m p o r (L _<|by rw[Ó];simp;omega)<|x _<|by unfold xO;rw[if_neg d,if_pos e,ù]
 .exact aoi u l Z k _ _ _ _ (by simpa using d) (by simpa using e) m p o r (L _<|by rw[Ó,Ó];simp;omega)<|x _<|by unfold xO;rw[if_neg d,if_neg e,þ]
def aol(b:mj n s h w)(d:mj j t c w): Ô À 126 #[Å<|Ã ⟨n,0,Ä⟩,Å<|Ã ⟨j,0,Ä⟩] w λe a=>∃v,e=È v/\il w v (rA s t 8) a:=by
 have L:∀a,vW n j (Ê Ä 0 0) (0:Nat) a->Î À (ã zN) (QQ<|TS n j w s t) a w:=λa f=>
  Đ (DO n j w s t) Jt ⟨0,_,f,å _,il.M w<|fg.fW _ _⟩<|aoj b d
 have H:=fi L;clear L b d;go_enter Tryz.func126,Tryz.ntmps126;go_wp2_with fail;refine à (Q:=QQ<|TS n j w s t) ?_ (H.out _ (gA _));rintro(_|(_|_)|_|_|_|_) a v hq;all_goals first|exact absurd hq id|skip
 let⟨k,g,e⟩:=hq;obtain⟨u,rfl⟩:=g;unfold tK;have i:=fi e;clear e;go_wp2_with fail;go_ret;exact⟨_,U,i.out⟩
end
def aom:(À.info? 5).map (λi=>(i.zero,i.size,i.bytes))=Ã (Ã<|Â bx 0,1,1):=fw
def fg.G(d:X p.block)(n:Nat):fg X w (w.freeze p n):=by
 by_cases b:n=0
 .rw[ĕ,if_pos b];exact fg.fW _ _
 rw[ĕ,if_neg b];refine⟨ft,λk _ f=> ?_,λa i o h=> ?_,λ_ a=>by have:=E_ a p n;rwa[ĕ,if_neg b]at this⟩
 .simp only[Ú];rw[if_neg λ(e:p.block=k)=>f<|e▸d]
 .simp only[Ú]at h;split at h
  .cases e:w.heap[i]? with
   |none=>rw[e]at h;cases h
   |some g=>
    have:=a _ _ e;rw[e]at h;cases g with
    |cells c t z=>simp only[ì,ê]at h;subst h;exact λx=>x
    |_=>exact absurd trivial this
  .exact a i o h
def aau:(À.info? 109).map (·.size)=Ã 2:=fw
def aon:liesAt À À.depth 109 (2/À.cellsOf 109) 0 109 1=Ý:=fw
def aoo(b:Nat)(w:É)(d:w.cell? ⟨b,0,Ä⟩=Ã (Å<|Ã ⟨b,0,Ä⟩)):Ô À 78 #[Å<|Ã ⟨b,0,Ä⟩] w λe a=>e=È (é #[])/\a=w:=by let⟨j,c,_⟩:=Ì.1 aau;go_enter bg,aV;go_wp2;rw[Lib.run_neq_ptr_same w _ ŀ c];go_wp2;go_end0;exact⟨U,U⟩
def aop(b:Nat)(w:É)(g:w.cell? ⟨b,0,Ä⟩=Ã (Å Ä))(a:w.shape? b=Ã (109,2))(h:w.frozen? ⟨b,0,Ä⟩=Ï):Ô À 78 #[Å<|Ã ⟨b,0,Ä⟩] w λe d=>e=È (é #[])/\d=w.setCell ⟨b,0,Ä⟩ (Å<|Ã ⟨b,0,Ä⟩):=by let⟨j,c,f⟩:=Ì.1 aau;go_enter bg,aV;go_wp2;rw[Lib.run_to_unsafe w ⟨b,0,Ä⟩ ŀ Ÿ c (by rw[f];decide) a<|Nat.zero_lt_succ 1];simp only[Ľ];rw[İ];go_wp2;rw[Ű Tryz.func129 fw fw fw fw];rw[Lib.run_noEscape];simp only[Ľ];rw[İ];go_wp2;rw[Lib.run_from_unsafe w ⟨b,0,Ä⟩ Ÿ ŀ c a aon];simp only[Ľ];rw[İ];go_wp2;go_end0;exact⟨U,U⟩
def aav{base:Nat}{u j:ú}(k:P.underlying t=Ã (bK e))(p:P.underlying u=Ã .string)(r:P.info? e=Ã zJ)(I:zJ.zero=Ã (Â bx 0)) (D:zJ.size=1) (J:zJ.bytes=1) (E:w.ownsRow base e 1 v n l) (s:ByteArray) (K:n+s.size<=č) (Q:n+s.size<=140737488355328) (f:(ŗ #[t,u] j #[v,Í s]).run P w=aA z W) (F:me e=Ï):(kl w->kl W)/\(∀m,sj m w->sj m W):=by
 have V:n+s.size<=9223372036854775807:=by simp only[č]at K;omega
 have L:l.length=n:=by simpa using E.1
 rcases E.2 with⟨rfl,rfl⟩|⟨g,y,B,rfl,X,G,Y,hcm,M,htake⟩
 .by_cases C:s.size=0
  .have a:=Lib.run_firstCells_string (P:=P) w 1 s;rw[C]at a;simp[ŗ,Ũ k,Ũ p,sizeOf,typeInfo,r,D,bO,C,a]at f;rw[<-f.2];exact⟨id,λ_=>id⟩
  .have d:=run_append_nil_string w t u j e zJ (Â bx 0) k p r I s Z Z (by rw[J];omega);rw[f]at d;cases d;exact⟨λa=>IP a _ _ _,λ_ a=>IQ a _ _ _<|Û F⟩
 .by_cases N:n+s.size<=y
  .have atC:B.size=y:=by simpa using M
   have d:=Lib.run_append_room_string w t u j e zJ k p r D g n y B G s N Z;rw[f]at d;cases d;refine⟨λa q o b=> ?_,λm a q c T O C b H=> ?_⟩
   .by_cases h:q=g
    .subst h;rw[Ĩ w q B _ e _ G]at b;cases b;exact λx=>x
    .rw[Ġ w g q _ h]at b;exact a q o b
   .by_cases h:q=g
    .subst h;rw[Ĩ w q B _ e _ G]at b;cases b;rw[F]at H;cases H
    .rw[Ġ w g q _ h]at b;exact a q c T O C b H
  .have b:=E.cells U;have d:=Lib.run_append_grow_string w t u j e zJ (Â bx 0) k p r I ⟨g,0,Ä⟩ n y l (by rw[D];simpa using L) b s Z Z (by rw[J];exact Ť Z Z);rw[f]at d;cases d;exact⟨λa=>IP a _ _ _,λ_ a=>IQ a _ _ _<|Û F⟩
def aoq{P:Program}{ops:Array Oper}{rest:List Oper}{o:Oper}{a:Act}{Q:Exit->Act->World->Prop}{w:World}(Sz:o.guard=none)(sl x:Operand)(t u:TypeId) (ho:o.op=.call {callee:=.builtin .append,args:=#[sl,x],argTypes:=#[t,u]}) {base:Nat} {e:TypeId} {i:TypeInfo} (ht:P.underlying t=some (.slice e)) (hu:P.underlying u=some .string) (hi:P.info? e=some i) (hz:i.zero=some (.int .u8 0)) (xA:i.size=1) (xB:i.bytes=1) {v:Value} {n:Nat} {xs:List Value} (hs:a.eval sl=v) (lE:w.ownsRow base e 1 v n xs) (s:ByteArray) (hx:a.eval x=.string s) (C8:n+s.size<=maxLen) (vU:n+s.size<=140737488355328) (xC:base<=w.heap.size) (h:∀v' w',w'.ownsRow base e 1 v' (n+s.size) (xs++Lib.strCells s)->fg (λk=>v.ownBlock=some k) w w'->wpList P ops Q rest (a.put o.dst v') w') (hT:me e=false:=by decide):wpList P ops Q (o::rest) a w:=by refine Ż Sz λK hK=> ?_;let⟨v',w',hr,h2,h3,_⟩:=Lib.run_append_own_string w base t u o.type e i ht hu hi hz xA xB v n xs lE s C8 vU xC;have kp:fg (λk=>v.ownBlock=Ã k) w w':=⟨h3.size,λk hk q=>h3.block k hk λe=>q e.symm,(aav ht hu hi hz xA xB lE s C8 vU hr hT).1,(aav ht hu hi hz xA xB lE s C8 vU hr hT).2⟩;unfold Ŏ į;simp only[ho,aE,bm,aF,ż,Ž,Ł,Ċ,Ě,ġ,hs,hx,hr];exact hK _ _<|h v' w' h2 kp
structure pe(w0:É)(b:Nat)(bs:List Ç)(w:É):Prop where
 I:w0.heap.size<=b
 r:fg (λ_=>False) w0 w
 C:∃v,fl b [Å<|Ã ⟨b,0,Ä⟩,v] 109 w/\w.ownsRow w0.heap.size 5 1 v bs.length bs
def pe.fN(h:pe u b l w)(k:fg (λ_=>False) w W):pe u b l W:=by let⟨v,a,c⟩:=h.C;exact⟨h.I,h.r.fj k,v,a.I k id,ik c k λ_ _=>id⟩
def TT(h:pe u b l w)(s:ByteArray)(m:l.length+s.size<=140737488355328): Ô À 55 #[Å<|Ã ⟨b,0,Ä⟩,Í s] w λe i=>e=È (é #[Â Ë s.size,.nilIface])/\pe u b (l++Lib.strCells s) i:=by
 let⟨B,c,n,o,p⟩:=ò aom;let⟨v,a,d⟩:=h.C;obtain⟨C,D,rfl⟩:=jl d;have t:=a.r 0 _ U;have E:=a.r 1 _ U;have x:=h.r.M;have y:=jE d a A;have H:=fi<|Á h<|Á c<|Á n<|Á o<|Á p<|Á a d;go_enter Tryz.func55,Tryz.ntmps55;go_wp2_with (first
  |(go_at_call 78;refine(aoo b _ t).mono ?_;rintro e i ⟨rfl,j⟩;subst i)
  |(at_builtin;refine aoq U _ _ 107 9 U Ă Ė H.out.2.1 H.out.2.2.1 H.out.2.2.2.1 H.out.2.2.2.2.1 U H.out.2.2.2.2.2.2 s U (by unfold č;omega) m x ?_;intro g f j k;obtain⟨q,r,rfl⟩:=jl j;have i:=H.out.2.2.2.2.2.1.I k y;have z:=i.r 0 _ U;have F:=i.r 1 _ U;have G:=i.C 1;have e:=fi (Á k (Á i j));clear k i j))
 go_ret2;have z:=e.out.2.1.gh 1<|Ê q (l.length+s.size) r;have g:fg (λk=>k=b) f (f.setCell ⟨b,1,Ä⟩<|Ê q (l.length+s.size) r):=fg.I (X:=λk=>k=b) U _<|Ü e.out.2.1.G;refine⟨U,H.out.1.I,(H.out.1.r.C e.out.1 λi c q=> ?_).C g λi c q=> ?_,_,z,?_⟩
 .have:=(H.out.2.2.2.2.2.2.lt i q).1;omega
 .have:=H.out.1.I;omega
 .have:=ik e.out.2.2 g λj q r=>jE e.out.2.2 e.out.2.1 A (by rw[q,r]);rw[Ó,Lib.strCells_length];exact this
def aor:(À.info? 5).map (·.size)=Ã 1:=fw
def aos:À.cellsOf 5=1:=fw
structure Ju(w0:É)(b:Nat)(p:Ç)(w:É):Prop where
 C:w0.heap.size<=b
 I:fg (λ_=>False) w0 w
 r:fl b [p,Ê Ä 0 0] 109 w
section
variable{w0:É}{p:Ç}
def Ju.Ey(h:Ju w0 b (Å<|Ã ⟨b,0,Ä⟩) w)(f:d.size<=č):pe w0 b [] ((w.alloc<|Ð d 5).setCell ⟨b,1,Ä⟩<|Ê (Ã ⟨w.heap.size,0,Ä⟩) 0 d.size).drew.drew.drew:=by have a:=fg.gI (λ_=>False) w d 5;have c:fg (λk=>k=b) (w.alloc<|Ð d 5) ((w.alloc<|Ð d 5).setCell ⟨b,1,Ä⟩<|Ê (Ã ⟨w.heap.size,0,Ä⟩) 0 d.size):=fg.I (X:=λk=>k=b) U _<|Ü (h.r.I a id).G;have k:=(h.r.I a id).gh 1<|Ê (Ã ⟨w.heap.size,0,Ä⟩) 0 d.size;have m:=h.r.M;have g:(w.alloc<|Ð d 5).ownsRow w0.heap.size 5 1 (Ê (Ã ⟨w.heap.size,0,Ä⟩) 0 d.size) 0 []:= ⟨U,Ü ⟨w.heap.size,d.size,d,U,h.I.M,ð w _,å _,f,ft,ft⟩⟩;have l:pe w0 b [] ((w.alloc<|Ð d 5).setCell ⟨b,1,Ä⟩<|Ê (Ã ⟨w.heap.size,0,Ä⟩) 0 d.size):= ⟨h.C,(h.I.fj a).C c λi n q=>by have:=h.C;omega,_,k,ik g c λj q r=>by cases q;have e:w.heap.size=b:=r;omega⟩;exact((l.fN<|fg.fU _ _).fN<|fg.fU _ _).fN<|fg.fU _ _
def aot(h:Ju w0 b (Å<|Ã ⟨b,0,Ä⟩) w)(n:Nat)(j:n<=281474976710656): Ô À 79 #[Å<|Ã ⟨b,0,Ä⟩,Â Ë n] w λe c=>e=È (é #[])/\pe w0 b [] c:=by
 let⟨a,g,o,k⟩:=Lib.run_makeNoZero w.drew #[3] 107 5 Ă n j;have i:Ë.wrap (Ë.wrap 0+(n:Int))=n:=by rw[î,î];omega
 have p:(callFunc 130 #[Â Ë<|Ë.wrap<|Ë.wrap 0+(n:Int)]).run À w.drew=aA (.value<|Ê (Ã ⟨w.drew.heap.size,0,Ä⟩) n a.size) (w.drew.drew.drew.alloc<|Ð a 5):=by rw[i,Ű Tryz.func130 fw fw fw fw,g];rfl
 have e:=fi (Á (show w.drew.cell? ⟨b,1,Ä⟩=Ã (Ê Ä 0 0)from h.r.r 1 _ rfl) trivial);have d:=h.r.I (fg.gI (λ_=>False) w a 5) id;have l:=d.r 1 _ U;have f:=l;have q:=d.C 1;have r:∀W:É,(aj #[107,107] 3 #[Ê (Ã ⟨w.heap.size,0,Ä⟩) 0 a.size,Ê Ä 0 0]).run À W=aA (goInt 0) W:= λW=>run_copy_none W 107 107 3 5 _ _ 0 a.size 0 0 Ă aor U;have m:=fi (h.Ey<|k<|by unfold č;omega);clear i h d g;go_enter Tryz.func79,Tryz.ntmps79;go_wp2;refine mg (λc=>c.cell? ⟨b,1,Ä⟩=Ã (Ê Ä 0 0)/\True) [] fw ?_;refine tk 0 e.out ?_;refine tk 1 e.out ?_;refine tk 2 e.out ?_;refine tk 3 e.out ?_;refine tk 4 e.out ?_;refine tk 5 e.out ?_;refine tk 6 e.out ?_;refine tk 7 e.out ?_;refine tk 9 e.out ?_;refine tk 10 e.out ?_;refine tk 11 e.out ?_;refine tk 12 e.out ?_;refine tk 13 e.out ?_;refine gF 8 ?_;intro K c;go_simp;refine c.out _ _ (λ_=>⟨f,trivial⟩) ?_;refine gF 14 ?_;intro K c;go_simp;refine c.out _ _ (λ_=>⟨f,trivial⟩) ?_;refine gF 15 ?_;intro K c;go_simp;refine c.out _ _ (λ_=>⟨f,trivial⟩) ?_;refine lU fw ?_ _;go_wp2;go_end0;exact⟨U,m.out⟩
def aou(h:Ju w0 b (Å Ä) w)(n:Nat)(l:0<n)(d:n<=281474976710656): Ô À 54 #[Å<|Ã ⟨b,0,Ä⟩,Â Ë n] w λe a=>e=È (é #[])/\pe w0 b [] a:=by
 have f:w.shape? b=Ã (109,2):=by have i:w.heap[b]?=_:=h.r;simp[Β,i]
 have c:=fi (show Ju w0 b (Å<|Ã ⟨b,0,Ä⟩) (w.setCell ⟨b,0,Ä⟩<|Å<|Ã ⟨b,0,Ä⟩).drew from⟨h.C,(h.I.C (fg.I (X:=λk=>k=b) U _<|Ü h.r.G) λi k q=>by have:=h.C;omega).fj<|fg.fU _ _,(h.r.gh 0 _).I (fg.fU (λ_=>False) _) id⟩);have i:=fi<|Á (c.out.r.r 1 _ rfl) trivial;have q:=h.r.r 0 _ U;have g:=h.r.C 0;have m:¬((n:Int)<0):=Z
 have o:(0:Int)<(n:Int):=Z
 have p:Ë.wrap 0<(n:Int):=by rw[î];omega
 go_enter Tryz.func54,Tryz.ntmps54;go_wp2_with (go_at_call 78;refine(aop b w q f g).mono ?_;rintro e a ⟨rfl,k⟩;subst a);refine mg (λa=>a.cell? ⟨b,1,Ä⟩=Ã (Ê Ä 0 0)/\True) [] fw ?_;apply tk 0 i.out;apply tk 1 i.out;apply tk 2 i.out;apply tk 3 i.out;apply tk 4 i.out;apply tk 5 i.out;apply tk 6 i.out;apply tk 7 i.out;apply tk 8 i.out;apply tk 9 i.out;apply tk 10 i.out;apply tk 11 i.out;apply tk 12 i.out;refine lU fw ?_ _;go_wp2_with (go_at_call 79;refine(aot c.out n d).mono ?_;rintro e a ⟨rfl,k⟩;have j:=fi k;clear k);go_end0;exact⟨U,j.out⟩
def aov{l:List UInt8}(h:pe w0 b (û l) w)(f:l≠[]): Ô À 56 #[Å<|Ã ⟨b,0,Ä⟩] w λe K=>e=È (Í ⟨l.toArray⟩)/\fg (λ_=>False) w0 K:=by
 let⟨v,m,d⟩:=h.C;have n:l.length≠0:=by simpa using f
 rw[ŧ]at d;obtain⟨g,a,c,rfl,t,o,u,s,y,z⟩:∃g a c,v=Ê (Ã ⟨g,0,Ä⟩) l.length a/\w0.heap.size<=g/\w.heap[g]?=Ã (Ð c 5 (0,0))/\l.length<=a/\a<=č/\c.size=a*1/\c.toList.take (l.length*1)=û l:=by
  rcases d.2 with⟨_,e⟩|⟨g,a,c,i,r⟩
  .exact absurd e n
  .exact⟨g,a,c,i,r⟩
 have e:=fi (Á (show w.drew.cell? ⟨b,1,Ä⟩=Ã (Ê (Ã ⟨g,0,Ä⟩) l.length a)from m.r 1 _ rfl) trivial);have B:∀W:É,(az #[107] 177 #[Ê (Ã ⟨g,0,Ä⟩) l.length a]).run À W=aA (Å<|Ã ⟨g,0,Ä⟩) W:=λW=>
  Lib.run_unsafeSliceData_row _ _ _ _ _ _ Z
 have C:(ş #[177,3] 9 #[Å<|Ã ⟨g,0,Ä⟩,Â Ë l.length]).run À w.drew=aA (Í ⟨l.toArray⟩) (w.drew.freeze ⟨g,0,Ä⟩ l.length):=by refine ņ w.drew 177 3 9 5 ŵ aos g c.size (by have i:w.drew.heap[g]?=Ã (Ð c 5 (0,0)):=o;simp[Β,i]) l f Z (by unfold č at s;omega) ?_;intro j x i;have:=d.cells U j (Â bx x.toNat) (by simp[û,i]);exact this
 have x:=fi ((h.r.fj<|fg.fU _ _).C (fg.G (X:=λk=>k=g) (p:=⟨g,0,Ä⟩) U l.length) λi j q=>by omega);have j:=fi (Á ((fg.G (X:=λk=>k=g) (p:=⟨g,0,Ä⟩) rfl l.length).r e.out.1 λq=>jE d m A<|by show Ã g=Ã b;rw[show g=b from(show b=g from q).symm]) trivial);go_enter Tryz.func56,Tryz.ntmps56;go_wp2;refine mg (λK=>K.cell? ⟨b,1,Ä⟩=Ã (Ê (Ã ⟨g,0,Ä⟩) l.length a)/\True) [] fw ?_;apply tk 0 e.out;apply tk 1 e.out;apply tk 2 e.out;apply tk 3 e.out;apply tk 4 e.out;apply tk 5 e.out;apply tk 6 e.out;apply tk 7 e.out;apply tk 8 e.out;apply tk 9 e.out;apply gF 10;intro K i;go_simp;apply i.out _ _ λ_=>j.out;apply gF 11;intro K i;go_simp;apply i.out _ _ λ_=>j.out;refine lU fw ?_ _;go_wp2;go_ret;exact⟨U,x.out⟩
end
end Go.Proofs.Y.iE
