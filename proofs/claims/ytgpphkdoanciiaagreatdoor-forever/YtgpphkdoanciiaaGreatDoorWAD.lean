import Derived.Test.YtgpphkdoanciiaaGreatDoorWAC
import Derived.Test.YtgpphkdoanciiaaGreatDoorChecked
import Derived.WalkKit
import Derived.WalkSpells
import Derived.WalkLawsBesides
import Derived.Deep.Light
import Derived.Maps.AppendAt
import Derived.RegionTactic
import Derived.Deep.RegionWith
import Derived.Deep.QuietTactic
import Derived.BigQuiet
import Derived.Deep.RegionHeld3
import Derived.WalkMore
import Derived.Deep.MidRow
import Derived.Great.Walk
import Derived.Lib.UnsafeStr
import Derived.Lib.BufferWrite
import Derived.Laws.Tables
import Derived.Laws.Bits64
import Derived.Shelf.Strconv.Itoa0
import Derived.Shelf.Strconv.Itoa1
import Derived.Shelf.LaysM
import Derived.Shelf.Strconv.Itoa2
import Derived.Shelf.Strconv.Itoa3
import Derived.Shelf.Strings.Repeat
import Derived.Shelf.Strings.OnBuilder
import Derived.Shelf.Strconv.Clone
import Derived.Shelf.Strings.Prefix
import Derived.Shelf.Bits.Mul64
import Derived.Test.YtgpphkdoanciiaaGreatDoorProg
import Derived.Lib.ItoaLen
set_option linter.all false
set_option maxRecDepth 1000000
set_option maxHeartbeats 8000000
open Go.Proofs.Tryz renaming prog->À,ntmps205->è,func205->í,underlying25->Ā,underlying107->Ă,underlying9->Ė,underlying3->ĥ,underlying4->Ħ,zeroValue3->ı,zeroValue4->Ĳ,zeroValue9->ĳ,underlying106->ŀ,underlying36->Ņ,ntmps170->Ň,zeroValue36->Ō,func170->ő,ntmps66->Œ,sizeOf3->œ,sizeOf4->Ŕ,sizeOf9->ŕ,func66->Ū,isAgg3->ū,isAgg4->Ŭ,isAgg9->ŭ,ntmps154->ű,ntmps113->Ų,sizeOf36->ų,underlying177->ŵ,underlying168->ŷ,underlying170->Ÿ,func154->Γ,func187->Δ,func113->Ε,zeroValue168->Η,isAgg36->Θ,underlying95->Ι,underlying0->Ρ,underlying5->Τ,zeroValue95->Υ,zeroValue0->ο,zeroValue5->π,sizeOf168->ψ,ntmps209->ae,ntmps210->af,ntmps173->ah,ntmps168->ai,ntmps196->ak,ntmps169->ar,ntmps187->au,isAgg168->av,sizeOf95->ax,ntmps172->ay,func209->aG,func210->aI,func173->aK,func168->aL,func196->aN,func169->aO,sizeOf0->aQ,sizeOf5->aR,isAgg95->aT,func172->aU,ntmps78->aV,isAgg0->aZ,isAgg5->bb,func78->bg,f161->bD
open And renaming intro->Á
open Go.Value renaming int->Â,pointer->Å,slice->Ê,string->Í,bool->Ò,tuple->é,agg->ė,cells->ī,ownBlock->ļ
open Option renaming some->Ã,none->Ä,map_eq_some_iff->Ì,map_some->ì,isSome_none->Ļ,map->Ŷ
open Go.IntKind renaming u64->Æ,i64->Ë,wrap_i64->î,wrap_u64->Ο,u8->bx
open Go renaming World->Ç,Value->È,Calls->Ô,Act->ë,heap_alloc_new->ð,info_parts->ò,bodyPost_ret->õ,TypeId->ú,cell_one_new->ą,undef->ĉ,Addr->Ċ,maxLen->č,wp_loop->Đ,wpList_load_mid->Ĝ,setRow_other->Ġ,setRow_heap->Ĩ,execOp->į,all_oneCell_toArray->Ķ,wpList_store_mid->Ŋ,Code->Ş,grownCap->š,growslice_fits->Ť,run_underlying->Ũ,Oper->Ů,run_callFunc_extern->Ű,Operand->Ź,wpList_plain->Ż,cell_two_new->ž,grownCap_ge->ε,run_append_grow->ι,run_loadVar_mid->ν,ready_mono->χ,wpOp_step->aB,resolve->aE,builtin->aF,yielded->aH,results->aJ,Ending->aP,Program->aX,invoke->bm,wpList->bq,Exit->bu
open Go.Ending renaming returned->É
open Go.Code renaming wp->Î,wp_mono->à,loop->ã,skip->Ń
open Bool renaming false->Ï,true->Ý,false_eq_true->Ğ
open Go.Obj renaming cells->Ð
open List renaming getElem?_eq_getElem->Ñ,length_append->Ó,setIfInBounds_toArray->Õ,getElem?_eq_none->Ö,getElem?_eq_some_iff->Ù,getElem?_append_right->Þ,eq_nil_of_length_eq_zero->á,getElem?_append_left->â,set_cons_zero->æ,set_cons_succ->ç,getD_eq_getElem?_getD->ö,getElem?_range->ø,append_nil->ù,mem_of_getElem?->ü,append_assoc->þ,mem_append->ā,size_toArray->ă,ext_getElem?->Ą,range->Ĉ,map_toArray->ċ,drop_eq_getElem_cons->Ę,map_cons->Ě,length_set->ě,map_nil->ġ,getElem?_map->Ģ,drop_eq_nil_of_le->ģ,set_append_left->ĩ,mem_map->ķ,getElem?_set->ń,length_cons->ŉ,getElem?_set_self->ŏ,nil_append->Ř,range_succ->Ś,map_append->ś,getElem?_toArray->Ŝ,mem_append_right->ŝ,mem_append_left->Ţ,getElem?_set_ne->ť,mem_cons_of_mem->ũ,flatMap_append->ů,take_add_one->Κ,length_take->Λ,length_drop->Μ,mem_flatMap->Ν,take_length->Χ,length_nil->κ,length_map->ξ,take_left->υ,take_take->φ,drop->bC
open Int renaming le_refl->Ø,toNat_of_nonneg->ę,toNat_natCast->ſ,le_trans->Α
open Array renaming getElem?_modify->Ú,getElem?_eq_none->ñ,size_replicate->ē,toList_append->Ĵ,length_toList->ĵ,getD_eq_getD_getElem?->Ĺ,replicate->ř,mem_toList_iff->Ŧ,size_append->ź
open Or renaming inl->Û,inr->Ü
open Nat renaming le_refl->ß,zero_le->å,le_trans->ï,lt_or_ge->ğ,mul_one->Ī,zero_add->ĸ,le_add_right->ŋ,add_mul->Š,mul_le_mul_right->ţ,lt_of_lt_of_le->Ŵ,min_eq_left->θ,mod_lt->bl
open Go.World renaming block_lt_of_cell?->ä,ownsRow_nil->ć,alloc->Č,setCell->Ď,drew->đ,freeze->ĕ,shape?->Β,cell?->Ω
open Option.some renaming injEq->ê
open Go.Operand renaming tmp->ó,func->bG
open Go.Ground renaming data->ô
open Go.Lib renaming byteCells->û,nDigits->Ē,zeros24->Ĭ,decDigits_length->ĭ,run_unsafeString_row->ņ,decDigits->ň,byteCells_length->ŧ,TabIs->aD,pow10Tab->aS
open Go.Builtin renaming zeroCells->ý,append_->ŗ,unsafeString_->ş,copy_->aj,unsafeSliceData_->az,min->bL,lenOf->bO
open ByteArray renaming extract->ÿ,size_extract->Ŗ,ext->bM
open Go.Region renaming ready->Ć,wanted->ħ,binds->Ő,Mode->ζ
open Go.Great renaming wpList_runTo->ď
open Go.RowKit.Below renaming heap_alloc->Ĕ,heap_setCell->ĝ
open False renaming elim->Ĥ
open Go.Obj.cells renaming injEq->Į
open Go.Oper renaming upon_value->İ,wp->Ŏ
open Go.Shelf renaming Ren->ĺ
open Go.Result renaming andThen->Ľ,andThen_ok->Ł,ok->aA
open Go.TypeDesc renaming isRow->ľ,slice->bK
open Go.Instr renaming fill->Ŀ,index->η
open Go.Act renaming put->ł
open Go.Sort renaming mapBlock->ō,putRow->ω
open Go.Sem renaming run_bind->ż,run_pure->Ž
open Go.Op renaming build->ς,call->aW,alloc->bH
open Go.Proofs.Lays renaming n283->bh,n285->bj,n212->bk,n99->br
variable{i n j b k m J j9 j7 j6:Nat}{w u W jX:Ç}{v x z jQ:È}{a p:Ċ}{h c:Int}{e t T:ú}{d q:Array È}{P:aX}{y:ë}{B:ByteArray}{X:Nat->Prop}{O:Option Ċ}{l:List È}{yQ:Bool}{K H:ë->Ç->Prop}{o:Ů}{D:Nat->Nat}{jJ:List Nat}{qQ:Ź}{zQ:List Int}{zJ:Go.TypeInfo}{xX:Ź->È}{xJ:Nat×Nat}{vX:List ByteArray}{vJ:bu->ë->Ç->Prop}{s:Go.Func}
namespace Go.Proofs.Y.jr
open Go Go.Proofs Go.RowKit Go.Proofs.Y.Lift
def fp{p:Prop}(h:p):Hid p:=h
def abR{b:Bool}(h:yQ=b):É (Ò yQ)=É (Ò b):=by rw[h]
def I1{k:IntKind}{b:Int}(h:c=b):É (Â k c)=É (Â k b):=by rw[h]
def abS{b:ByteArray}(h:B=b):É (Í B)=É (Í b):=by rw[h]
def lP:È->Bool
 |Â bx _=>Ï
 |Â _ _=>Ý
 |Ò _=>Ý
 |_=>Ï
def oD(T:ú):Bool:=T==257||T==246
def vW(m:Nat)(w:Ç):Prop:=∀(b:Nat) (c:Array È) (T:ú) (v:Nat×Nat),m<=b->w.heap[b]?=Ã (Ð c T v)->oD T=Ý->0<c.size/\∀v∈c.toList,lP v=Ý
def NF(b:Nat)(w:Ç):Prop:=∀(c:Array È) (T:ú) (a:Nat×Nat),w.heap[b]?=Ã (Ð c T a)->oD T=Ï
structure ff(X:Nat->Prop)(w w':Ç):Prop where
 fh:w.heap.size<=w'.heap.size
 fu:∀k,k<w.heap.size->¬X k->w'.heap[k]?=w.heap[k]?
 iU:lN w->lN w'
 sH:∀m,vW m w->vW m w'
section
variable{Y:Nat->Prop}{w' d:Ç}
def ff.fY(X:Nat->Prop)(w:Ç):ff X w w:=⟨ß _,λ_ _ _=>rfl,id,λ_=>id⟩
def ff.fl(h:ff X W jX)(k:ff X jX d):ff X W d:= ⟨ï h.fh k.fh,λi b c=>(k.fu i (Ŵ b h.fh) c).trans<|h.fu i b c,λa=>k.iU<|h.iU a,λm a=>k.sH m<|h.sH m a⟩
def ff.ft(h:ff X w w')(b:∀k,k<w.heap.size->X k->Y k):ff Y w w':= ⟨h.fh,λk a c=>h.fu k a λx=>c<|b k a x,h.iU,h.sH⟩
def ff.kj(h:ff X W jX)(k:ff Y jX d)(e:∀i,i<W.heap.size->Y i->X i):ff X W d:= ⟨ï h.fh k.fh,λi b c=>(k.fu i (Ŵ b h.fh) λy=>c<|e i b y).trans<|h.fu i b c,λa=>k.iU<|h.iU a,λm a=>k.sH m<|h.sH m a⟩
def amX(a:lN w)(p:Ċ)(v:È):lN (w.setCell p v):=by
 intro i o h;by_cases e:i=p.block
 .subst e;unfold Ď at h;simp only[Ú,if_true]at h;cases b:w.heap[p.block]? with
  |none=>rw[b]at h;cases h
  |some d=>
   have:=a _ _ b;rw[b]at h;cases d with
   |cells c t z=>simp only[ì,ê]at h;subst h;exact λx=>x
   |_=>exact absurd trivial this
 .rw[ĝ _ _ _ _ (by simpa using e)]at h;exact a i o h
def Mj(a:lN w)(b:Array È)(t:ú)(z:Nat×Nat):lN (w.alloc<|Ð b t z):=by
 intro i o h;by_cases e:i<w.heap.size
 .rw[Ĕ _ _ _ e]at h;exact a i o h
 .by_cases c:i=w.heap.size
  .subst c;rw[ð]at h;cases h;exact λx=>x
  .have:(w.alloc<|Ð b t z).heap.size<=i:=by simp;omega
   rw[ñ this]at h;cases h
def amY(a:vW m w)(p:Ċ)(v:È)(f:lP v=Ý\/NF p.block w):vW m (w.setCell p v):=by
 intro i c T k g h b;by_cases e:i=p.block
 .subst e;unfold Ď at h;simp only[Ú,if_true]at h;cases d:w.heap[p.block]? with
  |none=>rw[d]at h;cases h
  |some l=>
   rw[d]at h;cases l with
   |cells o t z=>
    simp only[ì,ê,Į]at h;obtain⟨n,rfl,rfl⟩:=h;rcases f with f|f
    .subst n;split
     .exact a _ _ _ _ g d b
     .refine⟨by rw[Array.size_setIfInBounds];exact(a _ _ _ _ g d b).1,λu j=> ?_⟩;rw[Array.toList_setIfInBounds]at j;rcases List.mem_or_eq_of_mem_set j with q|q
      .exact(a _ _ _ _ g d b).2 u q
      .rwa[q]
    .rw[f _ _ _ d]at b;cases b
   |_=>cases h
 .rw[ĝ _ _ _ _ (by simpa using e)]at h;exact a i c T k g h b
def Mk(a:vW m w)(d:Array È)(t:ú)(z:Nat×Nat)(b:oD t=Ï\/0<d.size/\∀v∈d.toList,lP v=Ý):vW m (w.alloc<|Ð d t z):=by
 intro i c T g j h f;by_cases e:i<w.heap.size
 .rw[Ĕ _ _ _ e]at h;exact a i c T g j h f
 .by_cases k:i=w.heap.size
  .subst k;rw[ð]at h;cases h;rcases b with b|b
   .rw[b]at f;cases f
   .exact b
  .have:(w.alloc<|Ð d t z).heap.size<=i:=by simp;omega
   rw[ñ this]at h;cases h
def ff.iB{p:Addr}(hx:X p.block)(v:Value)(hv:lP v=true\/NF p.block w:=by first|exact Or.inl (by rfl)|exact Or.inr<|by assumption):ff X w (w.setCell p v):= ⟨fB,λk _ hk=>ĝ _ _ _ _ (by intro e;subst e;exact hk hx),λa=>amX a p v,λ_ a=>amY a p v hv⟩
def ff.gT(X:Nat->Prop)(w:World)(cs:Array Value)(t:TypeId)(hf:oD t=false\/0<cs.size/\∀v∈cs.toList,lP v=true:=by first|exact Or.inl (by decide)|exact Or.inr ⟨by simp,by simp[lP]⟩):ff X w (w.alloc<|.cells cs t):= ⟨fB,λk hk _=>Ĕ _ _ _ hk,λa=>Mj a cs t (0,0),λ_ a=>Mk a cs t (0,0) hf⟩
def ff.iA(X:Nat->Prop)(w:Ç)(n:Nat):ff X w (w.drewN n):=⟨ß _,λ_ _ _=>rfl,id,λ_=>id⟩
def ff.gi(X:Nat->Prop)(w:Ç):ff X w w.drew:=⟨ß _,λ_ _ _=>rfl,id,λ_=>id⟩
def kp{X:Nat->Prop}{w w':World}(h:ff X w w':=by repeat' (first|(with_reducible exact ff.fY _ _)|(with_reducible refine ff.fl ?_<|ff.iA _ _ _)|(with_reducible refine ff.fl ?_<|ff.gi _ _)|(with_reducible refine ff.fl ?_<|ff.gT _ _ _ _))):ff X w w':=h
def ff.fg(h:ff X w w')(b:w.cell? a=Ã v)(c:¬X a.block):w'.cell? a=Ã v:=by rwa[World.cell?_of_block<|h.fu _ (ä w a b) c]
end
def Ml{u:È}(h:j≠b):(w.setCell ⟨j,i,Ä⟩ u).cell? ⟨b,n,Ä⟩=w.cell? ⟨b,n,Ä⟩:= World.cell?_setCell_other _ _ _ _<|by intro e;injection e with e1 e2;exact h e1
def fw(j:Nat)(vs:List È)(T:ú)(w:Ç):Prop:=w.heap[j]?=Ã (Ð vs.toArray T (0,0))
section
variable{vs:List È}{w':Ç}
def fw.fN(w:Ç)(vs:List È)(T:ú):fw w.heap.size vs T (w.alloc<|Ð vs.toArray T):=ð w _
def fw.lt(h:fw j vs T w):j<w.heap.size:=by
 rcases ğ j w.heap.size with a|a
 .exact a
 .unfold fw at h;rw[ñ a]at h;cases h
def fw.fg(h:fw j vs T w)(i:Nat)(v:È)(a:vs[i]?=Ã v):w.cell? ⟨j,i,Ä⟩=Ã v:=by unfold fw at h;simp only[Ω,h,Ļ,Ğ,if_false,Ŝ];exact a
def fw.fC(h:fw j vs T w)(i:Nat):w.frozen? ⟨j,i,Ä⟩=Ï:=by unfold fw at h;simp[World.frozen?,h]
def fw.DL(h:fw j vs T w)(e:w'.heap[j]?=w.heap[j]?):fw j vs T w':=by unfold fw;rwa[e]
def fw.fi(h:fw j vs T w)(k:ff X w w')(a:¬X j):fw j vs T w':=h.DL<|k.fu j h.lt a
def fw.gS(h:fw j vs T w)(i:Nat)(u:È):fw j (vs.set i u) T (w.setCell ⟨j,i,Ä⟩ u):=by unfold fw at h|-;unfold Ď;simp only[Ú,if_true,h,ì,Õ,Ļ,Ğ,if_false]
def fw.nf(h:fw j vs T w)(hT:oD T=false:=by decide):NF j w:=λc T' fr q=>by unfold fw at h;rw[h]at q;cases q;exact hT
def fw.fX(h:fw j vs T w)(k:fw i l e w)(a:T≠e):j≠i:=by rintro rfl;unfold fw at h k;rw[h]at k;cases k;exact a U
end
section
variable{w':Ç}{base:Nat}{size:Nat}{xs:List È}
def amZ(h:w.ownsRow base e size v n xs)(k:∀j,v.ownBlock=Ã j->w'.heap[j]?=w.heap[j]?):w'.ownsRow base e size v n xs:=by
 let⟨c,a⟩:=h;refine⟨c,?_⟩;rcases a with a|⟨g,d,f,b,i,l,r⟩
 .exact Û a
 .refine Ü ⟨g,d,f,b,i,?_,r⟩;rw[k g (by rw[b];rfl)];exact l
def je(h:w.ownsRow base e size v n xs)(k:ff X w w')(b:∀j,v.ownBlock=Ã j->¬X j):w'.ownsRow base e size v n xs:= amZ h λj a=>k.fu j (h.lt j a).2<|b j a
def kX(h:w.ownsRow base e size v n xs):∃a c,v=Ê a n c:=by
 rcases h.2 with⟨b,d⟩|⟨g,f,i,b,_⟩
 .exact⟨_,_,by rw[b,d]⟩
 .exact⟨_,_,b⟩
def nS(h:w.ownsRow base e size v n xs)(a:v.ownBlock=Ã j):∃b,w.heap[j]?=Ã (Ð b e (0,0)):=by
 rcases h.2 with⟨c,_⟩|⟨g,f,b,c,_,d,_⟩
 .rw[c]at a;cases a
 .rw[c]at a;cases a;exact⟨b,d⟩
def kP(h:w.ownsRow base e size v n xs)(k:fw j l T w)(a:e≠T):v.ownBlock≠Ã j:=by intro q;let⟨c,b⟩:=nS h q;unfold fw at k;rw[b]at k;cases k;exact a U
def am0(h:w.ownsRow base e size v n xs)(k:w.ownsRow i t b x m l)(c:e≠t)(d:v.ownBlock=Ã j):x.ownBlock≠Ã j:=by intro q;let⟨g,f⟩:=nS h d;let⟨o,a⟩:=nS k q;rw[f]at a;cases a;exact c U
def Wn{n:Nat}(h:v∈(ý d n).toList):v∈d.toList:=by
 unfold ý at h;rw[Array.toList_map,ķ]at h;obtain⟨i,a,rfl⟩:=h;have b:i<n*d.size:=by simpa using a
 have c:0<d.size:=by
  rcases Nat.eq_zero_or_pos d.size with q|q
  .rw[q,Nat.mul_zero]at b;omega
  .exact q
 have q:i%d.size<d.size:=bl _ c;rw[getElem!_pos d _ q];simp
structure tO(w:Ç)(base:Nat)(e:ú)(size:Nat)(v:È)(n:Nat)(xs:List È)(m:Nat)(news:List È)(v':È)(w':Ç):Prop where
 fD:w'.ownsRow base e size v' (n+m) (xs++news)
 fi:ff (λk=>v.ownBlock=Ã k) w w'
 gV:v'.ownBlock=v.ownBlock\/v'.ownBlock=Ã w.heap.size
 ja:∀v0 n0 Bg,w.ownsRow base e size v0 n0 Bg->(v0.ownBlock=v.ownBlock->n0<=n)->w'.ownsRow base e size v0 n0 Bg
def tO.N7(c:w.ownsRow base e size v n xs)(f:l.length=m*size)(g:base<=w.heap.size)(j:n+m<=i)(o:i<=č)(p:d.size=i*size)(q:d.toList.take ((n+m)*size)=xs++l)(r:oD e=Ï\/0<d.size/\∀v∈d.toList,lP v=Ý): tO w base e size v n xs m l (Ê (Ã ⟨w.heap.size,0,Ä⟩) (n+m) i) (w.drew.alloc<|Ð d e):=by have b:∀X,ff X w (w.drew.alloc<|Ð d e):=λX=>⟨fB,λk s _=>Ĕ _ _ _ s,λa=>Mj a d e (0,0),λ_ a=>Mk a d e (0,0) r⟩;refine⟨⟨by rw[Ó,c.1,f,Š],Ü ⟨w.heap.size,i,d,U,g,ð w.drew _,j,o,p,q⟩⟩,b _,Ü U,λt u x h _=>je h (b λ_=>False) λ_ _=>id⟩
def Wo{ty:ú}{bytes:Nat}(H:P.underlying t=Ã (bK e))(I:P.info? e=Ã zJ)(X:zJ.zero=Ã z) (Bh:zJ.size=size) (Bj:zJ.bytes=bytes) (tL:z.cells.size=size) (l:w.ownsRow base e size v n xs) (a:Ċ) (c:Nat) (b:List È) (hm:0<m) (s:b.length=m*size) (J:∀j u,b[j]?=Ã u->w.cell? (a.add j)=Ã u) (h1:∀u∈b,u.oneCell'=Ý) (Y:n+m<=č) (zV:(n+m)*bytes<=140737488355328) (Bl:base<=w.heap.size) (hfl:oD e=Ï\/(0<b.length/\(∀u∈xs++b,lP u=Ý)/\∀u∈z.cells.toList,lP u=Ý)): ∃x w',(ŗ #[t,t] ty #[v,Ê (Ã a) m c]).run P w=aA x w'/\tO w base e size v n xs m b x w':=by
 subst Bh;subst Bj;have am1:n+m<=9223372036854775807:=by simp only[č]at Y;omega
 have K:(xs++b).length=(n+m)*zJ.size:=by rw[Ó,l.1,s,Š]
 have avA:=l;have tk:∀d,((xs.toArray++b.toArray++ý z.cells (š w (n+m) d e-(n+m))).toList.take ((n+m)*zJ.size)=xs++b):=λd=>by simp only[Ĵ];rw[<-K];exact υ
 have sz:∀d,(xs.toArray++b.toArray++ý z.cells (š w (n+m) d e-(n+m))).size=š w (n+m) d e*zJ.size:=λd=>by have x:=ε w (n+m) d e;simp only[ź,ă,size_zeroCells,tL,l.1,s,<-Š];congr 1;omega
 have am2:∀d,oD e=Ï\/0<(xs.toArray++b.toArray++ý z.cells (š w (n+m) d e-(n+m))).size/\∀v∈(xs.toArray++b.toArray++ý z.cells (š w (n+m) d e-(n+m))).toList,lP v=Ý:=λd=>by
  cases p:oD e with
  |false=>exact Û U
  |true=>
   rcases hfl with q|⟨x,y,L⟩
   .rw[q]at p;cases p
   .refine Ü ⟨by simp only[ź,ă];omega,λv h=> ?_⟩;simp only[Ĵ,ā]at h;rcases h with(h|h)|h
    .exact y v<|Ţ _ h
    .exact y v<|ŝ _ h
    .exact L v<|Wn h
 have gr:=λd=>tO.N7 l s Bl (ε w (n+m) d e) (grownCap_le_maxLen w (n+m) d e Y) (sz d) (tk d)<|am2 d;rcases l.2 with⟨rfl,rfl⟩|⟨g,B,f,rfl,hbg,C,hnc,hcm,Ck,M⟩
 .have N:=á (by simpa using l.1);subst N;have D:=run_append_nil w t ty e zJ z H I X a m c b s J hm Z (by have x:=zV;simp only[ĸ]at x;omega);have x:=gr 0;simp only[ĸ,Ř,Array.empty_append,List.toArray]at x D|-;exact⟨_,_,D,by simpa using x⟩
 .by_cases O:n+m<=B
  .have Wp:n*zJ.size+b.length<=f.size:=by rw[s,Ck,<-Š];exact ţ _ O
   have D:=run_append_room w t ty e zJ H I g n B f C a m c b s J h1 O Wp;have F:=Ĩ w g f (f.toList.take (n*zJ.size)++b++f.toList.drop (n*zJ.size+b.length)).toArray e _ C;have Q:=λk (V:k≠g)=>Ġ w g k (f.toList.take (n*zJ.size)++b++f.toList.drop (n*zJ.size+b.length)).toArray V;have W:(f.toList.take (n*zJ.size)++b++f.toList.drop (n*zJ.size+b.length)).toArray.size=f.size:=by simp only[ă,Ó,Λ,Μ,ĵ];omega
   have kp:ff (λk=>ļ (Ê (Ã ⟨g,0,Ä⟩) n B)=Ã k) w (w.setRow g (f.toList.take (n*zJ.size)++b++f.toList.drop (n*zJ.size+b.length)).toArray):=by
    refine⟨fB,λk _ V=>Q k λe=>V (by simp[ļ,e]),λal q o r=> ?_,λm' hF q c T fr G r p=> ?_⟩;rotate_left
    .by_cases E:q=g
     .subst E;rw[F]at r;cases r;rcases hfl with qq|⟨_,y,_⟩
      .rw[qq]at p;cases p
      .refine⟨by rw[W];exact(hF _ _ _ _ G C p).1,λu x=> ?_⟩;simp only[ā]at x;rcases x with(x|x)|x
       .exact(hF _ _ _ _ G C p).2 u<|List.mem_of_mem_take x
       .exact y u<|ŝ _ x
       .exact(hF _ _ _ _ G C p).2 u<|List.mem_of_mem_drop x
     .rw[Q q E]at r;exact hF q c T fr G r p
    by_cases E:q=g
    .subst E;rw[F]at r;cases r;exact λx=>x
    .rw[Q q E]at r;exact al q o r
   refine⟨_,_,D,⟨K,Ü ⟨g,B,_,U,hbg,F,O,hcm,by rw[W,Ck],?_⟩⟩,kp,Û U,λq r Bg x E=> ?_⟩
   .rw[M,<-K];exact υ
   .by_cases h:q.ownBlock=Ã g
    .have G:=E h;let⟨y,L⟩:=x;refine⟨y,?_⟩;rcases L with⟨rfl,_⟩|⟨g0,T,avB,rfl,b1,o,b3,b4,b5,b6⟩
     .cases h
     .have:g0=g:=by simpa[ļ]using h
      subst this;rw[C]at o;cases o;refine Ü ⟨g0,T,_,U,b1,F,b3,b4,by rw[W,b5],?_⟩;rw[M];have p:r*zJ.size<=n*zJ.size:=ţ _ G;rw[show(xs++b++bC (n*zJ.size+b.length) f.toList).toArray.toList=xs++(b++bC (n*zJ.size+b.length) f.toList)from by simp,List.take_append_of_le_length (by rwa[l.1]),<-M,φ,θ p,b6]
    .exact je x kp λj o N=>h<|by rw[o];simpa[ļ]using N.symm
  .have D:=ι w t ty e zJ z H I X ⟨g,0,Ä⟩ n B xs l.1 (l.cells U) a m c b s J Z Z<|Ť Z zV;exact⟨_,_,D,gr B⟩
def Gv{P:Program}{ops:Array Oper}{rest:List Oper}{o:Oper}{a:Act}{Q:Exit->Act->World->Prop}(Wq:o.guard=none)(s x:Operand)(t:TypeId) (ho:o.op=.call {callee:=.builtin .append,args:=#[s,x],argTypes:=#[t,t]}) {i:TypeInfo} {z:Value} {bytes:Nat} (ht:P.underlying t=some (.slice e)) (hi:P.info? e=some i) (hz:i.zero=some z) (Bh:i.size=size) (Bj:i.bytes=bytes) (tL:z.cells.size=size) (hs:a.eval s=v) (nk:w.ownsRow base e size v n xs) (ad:Addr) {m c:Nat} (news:List Value) (hx:a.eval x=.slice (some ad) m c) (hm:0<m) (hl:news.length=m*size) (Wr:∀j u,news[j]?=some u->w.cell? (ad.add j)=some u) (h1:∀u∈news,u.oneCell'=true) (Gw:n+m<=maxLen) (zV:(n+m)*bytes<=140737488355328) (Bl:base<=w.heap.size) (h:∀v' w',tO w base e size v n xs m news v' w'->wpList P ops Q rest (a.put o.dst v') w') (hfl:oD e=false\/(0<news.length/\(∀u∈xs++news,lP u=true)/\∀u∈z.cells.toList,lP u=true):=by first|exact Or.inl (by decide)|exact Or.inr ⟨by simp,by simp[lP],by simp[lP,Value.cells]⟩): wpList P ops Q (o::rest) a w:=by refine Ż Wq λK hK=> ?_;let⟨v',w',hr,h2⟩:=Wo (ty:=o.type) ht hi hz Bh Bj tL nk ad c news hm hl Wr h1 Gw zV Bl hfl;unfold Ŏ į;simp only[ho,aE,bm,aF,ż,Ž,Ł,ċ,Ě,ġ,hs,hx,hr];exact hK _ _<|h v' w' h2
end
structure Mm where
 fH:Int
 iN:ByteArray
 kY:Nat->Int
abbrev St:=Nat->Mm
def St.gS(s:St)(i:Nat)(a:Mm):St:=λj=>if j=i then a else s j
def St.fH(s:St)(i:Nat)(b:Int):St:=s.gS i {s i with fH:=b}
def St.xi(s:St)(i:Nat)(p:ByteArray):St:=s.gS i {s i with iN:=p}
def St.vY(s:St)(i j:Nat)(v:Int):St:=s.gS i {s i with kY:=λk=>if k=j then v else(s i).kY k}
def tP(n:Int):È:=Â Æ n
def Ws(n:Int):È:=Â Ë n
def sJ(s:St)(i:Nat):È:=if i%18=0 then tP (s<|i/18).fH else if i%18=1 then Í (s<|i/18).iN else tP ((s<|i/18).kY<|i%18-2)
def uP(s:St)(a:È)(i:Nat):È:=if 144<=i then a else sJ s i
def tR(s:St)(a:È)(h:i<144):uP s a i=sJ s i:=by unfold uP;rw[if_neg Z]
def jZ(s:St)(lv:È):List È:=(Ĉ 145).map<|uP s lv
def o7(s:St)(lv:È):(jZ s lv).length=145:=by simp[jZ]
def Mn(s:St)(a:È)(h:i<145):(jZ s a)[i]?=Ã (uP s a i):=by unfold jZ;rw[Ģ,ø h];rfl
def abT{s:St}(h:l.length=145)(b:∀i,i<145->l[i]?=Ã (uP s v i)):l=jZ s v:=by
 apply Ą;intro i;by_cases a:i<145
 .rw[b i a,Mn _ _ a]
 .rw[Ö Z,Ö (by rw[o7];omega)]
section
variable(s:St)(lv:È)
def Mp(h:i<8):uP s lv (i*18)=tP (s i).fH:=by rw[tR _ _ Z,sJ,if_pos Z,show i*18/18=i from by omega]
def QB(h:i<8):uP s lv (i*18+1)=Í (s i).iN:=by rw[tR _ _ Z,sJ,if_neg Z,if_pos Z,show(i*18+1)/18=i from by omega]
def QC(h:i<8)(a:j<16):uP s lv (i*18+2+j)=tP ((s i).kY j):=by rw[tR _ _ Z,sJ,if_neg Z,if_neg Z,show(i*18+2+j)/18=i from by omega,show(i*18+2+j)%18-2=j from by omega]
def Mq:uP s lv 144=lv:=by unfold uP;rw[if_pos Z]
def am3(v:È):(jZ s lv).set 144 v=jZ s v:=by
 refine abT (by rw[ě,o7]) λi a=> ?_;by_cases e:i=144
 .subst e;rw[ŏ (by rw[o7];omega),Mq]
 .rw[ť<|Ne.symm e,Mn _ _ a,tR _ _ Z,tR _ _ Z]
def Wt(j:i<144){c:St}(f:uP c lv i=v)(g:∀b,b<144->b≠i->sJ c b=sJ s b):(jZ s lv).set i v=jZ c lv:=by
 refine abT (by rw[ě,o7]) λb h=> ?_;by_cases e:b=i
 .subst e;rw[ŏ (by rw[o7];omega),f]
 .rw[ť<|Ne.symm e,Mn _ _ h];by_cases d:b<144
  .rw[tR _ _ d,tR _ _ d,g b d e]
  .have:b=144:=Z
   subst this;rw[Mq,Mq]
def abU(h:i<8)(b:Int):(jZ s lv).set (i*18) (tP b)=jZ (s.fH i b) lv:=by
 refine Wt s lv Z ?_ λk a c=> ?_
 .rw[Mp _ _ h];simp[St.fH,St.gS]
 .unfold sJ;by_cases e:k/18=i
  .have:k%18≠0:=Z
   simp[St.fH,St.gS,e,this]
  .simp[St.fH,St.gS,e]
def am4(h:i<8)(p:ByteArray):(jZ s lv).set (i*18+1) (Í p)=jZ (s.xi i p) lv:=by
 refine Wt s lv Z ?_ λk a b=> ?_
 .rw[QB _ _ h];simp[St.xi,St.gS]
 .unfold sJ;by_cases e:k/18=i
  .have:k%18≠1:=Z
   simp[St.xi,St.gS,e,this]
  .simp[St.xi,St.gS,e]
def am5(h:i<8)(c:j<16)(v:Int):(jZ s lv).set (i*18+2+j) (tP v)=jZ (s.vY i j v) lv:=by
 refine Wt s lv Z ?_ λk d f=> ?_
 .rw[QC _ _ h c];simp[St.vY,St.gS]
 .unfold sJ;by_cases e:k/18=i
  .by_cases a:k%18=0
   .simp[St.vY,St.gS,e,a]
   .by_cases b:k%18=1
    .simp[St.vY,St.gS,e,b]
    .have:k%18-2≠j:=Z
     simp[St.vY,St.gS,e,a,b,this]
  .simp[St.vY,St.gS,e]
end
def jz(b:Nat)(T:ú)(tl:List È)(s:St)(lv:È)(w:Ç):Prop:=fw b (jZ s lv++tl) T w
section
variable{tl:List È}{s:St}{lv:È}{w':Ç}
def jz.fg(h:jz b T tl s lv w)(a:i<145):w.cell? ⟨b,i,Ä⟩=Ã (uP s lv i):= fw.fg h i _<|by rw[â (by rwa[o7]),Mn _ _ a]
def jz.iB(h:jz b T tl s lv w)(c:i<145){a:St}(e:(jZ s lv).set i v=jZ a x):jz b T tl a x (w.setCell ⟨b,i,Ä⟩ v):=by have:=fw.gS h i v;rw[ĩ _ _ (show i<(jZ s lv).length by rwa[o7]),e]at this;exact this
def jz.fH(h:jz b T tl s lv w)(a:i<8):w.cell? ⟨b,i*18,Ä⟩=Ã (Â Æ (s i).fH):=by rw[h.fg Z,Mp _ _ a];rfl
def jz.xi(h:jz b T tl s lv w)(a:i<8):w.cell? ⟨b,i*18+1,Ä⟩=Ã (Í (s i).iN):=by rw[h.fg Z,QB _ _ a]
def jz.vY(h:jz b T tl s lv w)(a:i<8)(c:j<16):w.cell? ⟨b,i*18+2+j,Ä⟩=Ã (Â Æ<|(s i).kY j):=by rw[h.fg Z,QC _ _ a c];rfl
def jz.jv(h:jz b T tl s lv w):w.cell? ⟨b,144,Ä⟩=Ã lv:=by rw[h.fg Z,Mq]
def jz.pb(h:jz b T tl s lv w)(a:i<8)(x:Int):jz b T tl (s.fH i x) lv (w.setCell ⟨b,i*18,Ä⟩<|Â Æ x):=h.iB Z<|abU s lv a x
def jz.am6(h:jz b T tl s lv w)(a:i<8)(x:ByteArray):jz b T tl (s.xi i x) lv (w.setCell ⟨b,i*18+1,Ä⟩<|Í x):=h.iB Z<|am4 s lv a x
def jz.Wu(h:jz b T tl s lv w)(a:i<8)(c:j<16)(x:Int):jz b T tl (s.vY i j x) lv (w.setCell ⟨b,i*18+2+j,Ä⟩<|Â Æ x):=h.iB Z<|am5 s lv a c x
def jz.am7(h:jz b T tl s lv w)(v:È):jz b T tl s v (w.setCell ⟨b,144,Ä⟩ v):=h.iB Z<|am3 s lv v
end
def Bm(b:Bool):Int:=if b then 1 else 0
def Mr(b:Bool)(w:Ç):Ô À 159 #[Ò b] w λe a=>e=É (Â Æ<|Bm b)/\a=w:=by
 go_enter Tryz.func159,Tryz.ntmps159;go_wp2;all_goals go_ret
 all_goals refine⟨I1 ?_,U⟩
 all_goals simp[Bm, *]
def abV(b o:Nat)(s:Int)(c:0<=s)(d:s<18446744073709551616)(w:Ç):Ô À 208 #[Å<|Ã ⟨b,o,Ä⟩,Â Æ s] w λe a=>e=É (Å<|Ã ⟨b,o+2+(s%16).toNat,Ä⟩)/\a=w:=by
 go_enter Tryz.func208,Tryz.ntmps208;go_wp2;all_goals go_ret
 exact⟨U,U⟩
def wu(n:Int):Int:=Æ.wrap n
def am8(a:0<=h)(b:h<18446744073709551616):wu h=h:=by show h%18446744073709551616=h;omega
def abW(n:Int):wu n=n%18446744073709551616:=rfl
def am9(n:Int):0<=wu n:=by rw[abW];omega
def ana(n:Int):wu n<18446744073709551616:=by rw[abW];omega
def Bn(k p q:Int):Int:=
 if k=2 then wu (p+q)else if k=3 then wu (p-q)else if k=4 then wu (p*q)
 else if k=5 then(if q=0 then 0 else p/q)else if k=6 then Bm (decide<|p<q)else Bm (decide<|p=q)
def anb(k p q:Int)(b:0<=p)(c:p<18446744073709551616)(d:0<=q)(f:q<18446744073709551616)(w:Ç):Ô À 211 #[Â Ë k,Â Æ p,Â Æ q] w λe a=>e=É (Â Æ<|Bn k p q)/\a=w:=by
 go_enter Tryz.func211,Tryz.ntmps211;go_wp2_with (go_at_call 159;refine(Mr _ _).mono ?_;rintro e a ⟨rfl,rfl⟩);all_goals simp only[beq_iff_eq,beq_eq_false_iff_ne,ne_eq]at*
 all_goals first
  |(exfalso;simp_all;done)
  |(go_ret;refine⟨I1 ?_,U⟩;unfold Bn;simp[wu, *];done)
  |(go_ret;refine⟨I1 ?_,U⟩;unfold Bn;simp[wu, *];rfl)
structure RC where
 x:Nat
 y:Nat
 k:Int
 d:Int
 g:Int
def CS(a:Nat)(c:RC)(b:È):List È:=[Å<|Ã ⟨a,0,Ä⟩,Â Ë c.x,Â Ë c.y,Â Æ c.k,Â Ë c.d,Â Æ c.g,b]
def sK(l:List Int):List È:=l.map tP
def anc{base:Nat}(h:w.ownsRow base e 1 (Ê O (n+1) i) (n+1) (l++[x])):w.ownsRow base e 1 (Ê O n i) n l:=by
 let⟨d,b⟩:=h;simp only[Ó,ŉ,κ,Ī]at d;refine⟨Z,?_⟩;rcases b with⟨b,_⟩|⟨g,q,f,b,j,k,r,m,o,p⟩
 .cases b
 .cases b;refine Ü ⟨g,i,f,U,j,k,Z,m,o,?_⟩;have:=congrArg (List.take n) p;rw[φ,Ī,θ Z,List.take_left' Z]at this;rw[Ī];exact this
def QD{base:Nat}(h:w.ownsRow base e 1 (Ê O (n+1) i) (n+1) (l++[x])):∃g,O=Ã ⟨g,0,Ä⟩/\w.cell? ⟨g,n,Ä⟩=Ã x/\n+1<=i:=by
 let⟨f,d⟩:=h;simp only[Ó,ŉ,κ,Ī]at f;rcases d with⟨d,_⟩|⟨g,o,p,d,q,j,k,r,s,m⟩
 .cases d
 .cases d;refine⟨g,U,?_,k⟩;have:=congrArg (λb=>b[n]?) m;simp only[Ī]at this;rw[List.getElem?_take_of_lt Z,Þ Z,show n-l.length=0 by omega]at this;simp only[Ω,j];simpa using this
def QF(j d:Nat)(c:RC)(f:È)(base:Nat)(b:List Int)(p:Int)(w:Ç)(i:fw d (CS j c f) 282 w)(h:w.ownsRow base 36 1 f (b.length+1) (sK b++[tP p]))(k:b.length<=1000): Ô À 204 #[Å<|Ã ⟨d,0,Ä⟩] w λe g=>e=É (Â Æ p)/\∃a,g=w.setCell ⟨d,6,Ä⟩ a/\w.ownsRow base 36 1 a b.length (sK b)/\a.ownBlock=f.ownBlock:=by obtain⟨a,l,rfl⟩:=kX h;obtain⟨g,rfl,m,o⟩:=QD h;have e:=anc h;have q:=i.fg 6 _ U;have r:=i.fC 6;have H:=fp e;generalize b.length=n at*;go_enter Tryz.func204,Tryz.ntmps204;go_wp2;go_ret;refine⟨U,_,U,?_,U⟩;simpa using H.out
def ane:(À.info? 36).map (λi=>(i.zero,i.size,i.bytes))=Ã (Ã<|Â Æ 0,1,8):=fF
def abX(p b:Nat)(c:RC)(d:È)(base:Nat)(k:List È)(n:Nat)(f m:Nat)(q:Nat)(a:List È)(w:Ç)(g:fw b (CS p c d) 282 w)(l:w.ownsRow base 36 1 d n k)(E:n+m<=1000) (r:0<m) (s:a.length=m) (t:∀j u,a[j]?=Ã u->w.cell? ((⟨f,0,Ä⟩:Ċ).add j)=Ã u) (v:∀u∈a,u.oneCell'=Ý) (x:base<=w.heap.size): Ô À 203 #[Å<|Ã ⟨b,0,Ä⟩,Ê (Ã ⟨f,0,Ä⟩) m q] w λe o=>e=É (é #[])/\∃h i,tO w base 36 1 d n k m a h i/\o=i.setCell ⟨b,6,Ä⟩ h:=by let⟨F,y,z,B,C⟩:=ò ane;have D:=g.fg 6 _ U;have o:=kP l g A;have H:=fp g;go_enter Tryz.func203,Tryz.ntmps203;go_wp2_with (at_builtin;refine Gv U _ _ 231 U Tryz.underlying231 y z B C U U l ⟨f,0,Ä⟩ a U r (by rw[s,Ī]) t v (by unfold č;omega) Z x ?_;intro h i e;obtain⟨G,I,rfl⟩:=kX e.fD;have J:=e.fi.fg D o;have K:=(H.out.fi e.fi o).fC 6);go_end0;exact⟨U,_,_,e,U⟩
def lQ(l:List (Nat×Int)):List È:=l.flatMap λp=>[Ws p.1,tP p.2]
structure jT where
 lb:Nat
 T:ú
 tl:List È
structure jT.Ok(E:jT):Prop where
 QG:E.T≠36
 CU:E.T≠257
 Ms:E.T≠282
 abY:E.T≠300
 anf:E.T≠252
 ang:E.T≠246
def jT.Ok.sH{E:jT}(h:E.Ok):oD E.T=Ï:=by unfold oD;rw[beq_eq_false_iff_ne.2 h.CU,beq_eq_false_iff_ne.2 h.ang];rfl
structure R(E:jT)(rb:Nat)(c:RC)(sv lv:È)(ss:List Int)(s:St)(ls:List (Nat×Int))(w:Ç):Prop where
 fq:fw rb (CS E.lb c sv) 282 w
 oE:w.ownsRow 0 36 1 sv ss.length (sK ss)
 gI:jz E.lb E.T E.tl s lv w
 jv:w.ownsRow 0 257 2 lv ls.length (lQ ls)
structure Tr(E:jT)(rb:Nat)(sv lv:È)(n:Nat)(w:Ç)(lH kO:È)(n':Nat)(w':Ç):Prop where
 fi:ff (λk=>k=E.lb\/k=rb\/sv.ownBlock=Ã k\/lv.ownBlock=Ã k) w w'
 s:∀j,lH.ownBlock=Ã j->sv.ownBlock=Ã j\/w.heap.size<=j
 l:∀j,kO.ownBlock=Ã j->lv.ownBlock=Ã j\/w.heap.size<=j
 ja:∀v0 n0 Bg,w.ownsRow 0 257 2 v0 n0 Bg->(v0.ownBlock=lv.ownBlock->n0<=n)->w'.ownsRow 0 257 2 v0 n0 Bg/\(v0.ownBlock=kO.ownBlock->n0<=n')
section
variable{E:jT}{rb:Nat}{c:RC}{sv lv f o:È}{ss:List Int}{s:St}{ls:List (Nat×Int)}
def Tr.fY(E:jT)(rb:Nat)(sv lv:È)(n:Nat)(w:Ç):Tr E rb sv lv n w sv lv n w:= ⟨ff.fY _ _,λ_ h=>Û h,λ_ h=>Û h,λ_ _ _ h k=>⟨h,k⟩⟩
def Tr.fl(h:Tr E rb sv lv n w f z b u)(k:Tr E rb f z b u o jQ m W):Tr E rb sv lv n w o jQ m W:=by
 refine⟨h.fi.kj k.fi ?_,λj a=> ?_,λj a=> ?_,λc d g p q=> ?_⟩
 .rintro i r (e|e|e|e)
  .exact Û e
  .exact Ü<|Û e
  .exact Ü<|Ü<|Û<|(h.s i e).resolve_right Z
  .exact Ü<|Ü<|Ü<|(h.l i e).resolve_right Z
 .rcases k.s j a with e|e
  .exact h.s j e
  .exact Ü<|ï h.fi.fh e
 .rcases k.l j a with e|e
  .exact h.l j e
  .exact Ü<|ï h.fi.fh e
 .let⟨e,i⟩:=h.ja c d g p q;exact k.ja c d g e i
def Tr.of(k:ff X w u)(c:∀i,i<w.heap.size->X i->i=E.lb\/i=rb\/sv.ownBlock=Ã i)(d:∀j,f.ownBlock=Ã j->sv.ownBlock=Ã j\/w.heap.size<=j)(g:∀i a,X i->w.heap[i]?≠Ã (Ð a 257 (0,0))):Tr E rb sv lv n w f lv n u:= ⟨k.ft λi h q=>(c i h q).elim Û λe=>Ü (e.elim Û λe=>Ü<|Û e),d,λj q=>Û q,λp r s b l=>⟨je b k λj m q=>by let⟨a,o⟩:=nS b m;exact g j a q o,l⟩⟩
def Tr.Gx{Y:Nat->Prop}(t:Tr E rb sv lv n w f z b u)(k:ff Y u W)(m:∀i,Y i->w.heap.size<=i)(o:∀i a,Y i->u.heap[i]?≠Ã (Ð a 257 (0,0))):Tr E rb sv lv n w f z b W:= ⟨t.fi.kj k λi v q=>absurd (m i q) Z,t.s,t.l,λc d e g h=>⟨je (t.ja c d e g h).1 k λj p q=>by let⟨a,r⟩:=nS (t.ja c d e g h).1 p;exact o j a q r,(t.ja c d e g h).2⟩⟩
def R.anh(ok:E.Ok)(h:R E rb c sv lv ss s ls w)(a:fw j l 252 w)(k:ff (λi=>i=j) w u):R E rb c sv lv ss s ls u:= ⟨h.fq.fi k<|fw.fX h.fq a A,je h.oE k λi q r=>kP h.oE a A (by rw[q,r]),h.gI.fi k<|fw.fX h.gI a ok.anf,je h.jv k λi q r=>kP h.jv a A<|by rw[q,r]⟩
def R.I2(ok:E.Ok)(h:R E rb c sv lv ss s ls w)(i:Nat){c':RC}{lH:È}{ss':List Int}(e:(CS E.lb c sv).set i v=CS E.lb c' lH)(b:w.ownsRow 0 36 1 lH ss'.length (sK ss'))(f:∀j,lH.ownBlock=Ã j->sv.ownBlock=Ã j): R E rb c' lH lv ss' s ls (w.setCell ⟨rb,i,Ä⟩ v)/\Tr E rb sv lv ls.length w lH lv ls.length (w.setCell ⟨rb,i,Ä⟩ v):=by have a:=ff.iB (X:=λk=>k=rb) (p:=⟨rb,i,Ä⟩) U v<|Ü h.fq.nf;refine⟨⟨by have:=h.fq.gS i v;rwa[e]at this,je b a λj q r=>kP b h.fq A (by rw[q,r]),h.gI.fi a<|fw.fX h.gI h.fq ok.Ms,je h.jv a λj q r=>kP h.jv h.fq A<|by rw[q,r]⟩,Tr.of a (λi _ q=>Ü<|Û q) (λj q=>Û<|f j q) λi g q k=> ?_⟩;have d:=h.fq;unfold fw at d;rw[q,d]at k;cases k
def R.abZ(ok:E.Ok)(h:R E rb c sv lv ss s ls w)(i:Nat){d:St}(k:jz E.lb E.T E.tl d lv (w.setCell ⟨E.lb,i,Ä⟩ v)): R E rb c sv lv ss d ls (w.setCell ⟨E.lb,i,Ä⟩ v)/\Tr E rb sv lv ls.length w sv lv ls.length (w.setCell ⟨E.lb,i,Ä⟩ v):=by have b:=ff.iB (X:=λk=>k=E.lb) (p:=⟨E.lb,i,Ä⟩) U v<|Ü<|fw.nf h.gI ok.sH;refine⟨⟨h.fq.fi b (fw.fX h.gI h.fq ok.Ms).symm,je h.oE b λj q r=>kP h.oE h.gI ok.QG.symm (by rw[q,r]),k,je h.jv b λj q r=>kP h.jv h.gI ok.CU.symm<|by rw[q,r]⟩,Tr.of b (λi _ q=>Û q) (λj q=>Û q) λi f q a=> ?_⟩;have e:w.heap[E.lb]?=_:=h.gI;rw[q,e]at a;injection a with a;injection a with _ a;exact ok.CU a
def R.ab0(ok:E.Ok)(h:R E rb c sv lv ss s ls w){ns:List Int}{u:Ç}(n:ns.length=m)(a:tO w 0 36 1 sv ss.length (sK ss) m (sK ns) v u): R E rb c v lv (ss++ns) s ls (u.setCell ⟨rb,6,Ä⟩ v)/\Tr E rb sv lv ls.length w v lv ls.length (u.setCell ⟨rb,6,Ä⟩ v):=by
 subst n;have f:∀{i:Nat} {g:Array È} {T:ú},sv.ownBlock=Ã i->w.heap[i]?=Ã (Ð g T (0,0))->T=36:=λ{i g T} q d=>by let⟨k,e⟩:=nS h.oE q;rw[d]at e;cases e;rfl
 have b:R E rb c sv lv ss s ls u:=⟨h.fq.fi a.fi λq=>absurd (f q h.fq) A,a.ja _ _ _ h.oE λ_=>ß _,h.gI.fi a.fi λq=>ok.QG<|f q h.gI,je h.jv a.fi λj q r=>by let⟨k,e⟩:=nS h.jv q;exact absurd (f r e) A⟩;have o:Tr E rb sv lv ls.length w v lv ls.length u:=Tr.of a.fi (λi _ q=>Ü<|Ü q) (λj q=>a.gV.elim (λe=>Û<|by rwa[<-e]) λe=>Ü<|by rw[e]at q;cases q;exact ß _) λi g q d=>absurd (f q d) A;have l:u.ownsRow 0 36 1 v (ss++ns).length (sK<|ss++ns):=by have:=a.fD;rwa[show sK ss++sK ns=sK (ss++ns) by simp[sK],show ss.length+ns.length=(ss++ns).length by simp]at this
 have e:=ff.iB (X:=λk=>k=rb) (p:=⟨rb,6,Ä⟩) U v<|Ü b.fq.nf;have t:fw rb (CS E.lb c v) 282 (u.setCell ⟨rb,6,Ä⟩ v):=b.fq.gS 6 v;refine⟨⟨t,je l e λj q r=>kP l b.fq A (by rw[q,r]),b.gI.fi e<|fw.fX b.gI b.fq ok.Ms,je b.jv e λj q r=>kP b.jv b.fq A<|by rw[q,r]⟩,o.fl<|Tr.of e (λi _ q=>Ü<|Û q) (λj q=>Û q) λi g q d=> ?_⟩;have k:=b.fq;unfold fw at k;rw[q,k]at d;cases d
end
section
variable{E:jT}{rb:Nat}{c:RC}{sv lv:È}{s:St}{ls:List (Nat×Int)}
def R.gu(h:R E rb c sv lv zQ s ls w)(k:ff (λ_=>False) w u):R E rb c sv lv zQ s ls u:= ⟨h.fq.fi k id,je h.oE k λ_ _=>id,h.gI.fi k id,je h.jv k λ_ _=>id⟩
def Tr.gu(k:ff (λ_=>False) w u):Tr E rb sv lv n w sv lv n u:=Tr.of k (λ_ _=>Ĥ) (λ_ q=>Û q) λ_ _=>Ĥ
end
def jN:List (Int×Int×Int):=[(0,0,0),(1,0,1),(1,2,1),(1,2,1),(2,2,1),(2,2,1),(1,2,1),(1,2,1),(1,1,2),(1,2,2),(1,1,0),(1,0,1),(1,0,1),(1,0,1),(1,0,1),(3,1,1),(6,2,0),(2,2,0),(8,2,1),(4,1,0),(8,3,2),(1,1,0),(1,0,0)]
structure jK(w:Ç):Prop where
 ty:∃cs fz,w.heap[2]?=Ã (Ð cs 300 fz)
 gV:∀(k:Nat) (r:Int×Int×Int),jN[k]?=Ã r->w.cell? ⟨2,k*3,Ä⟩=Ã (Â Æ r.1)/\w.cell? ⟨2,k*3+1,Ä⟩=Ã (Â Ë r.2.1)/\w.cell? ⟨2,k*3+2,Ä⟩=Ã (Â Ë r.2.2)
def jK.fi{w':Ç}(h:jK w)(k:ff X w w')(a:¬X 2):jK w':=by
 let⟨c,d,b⟩:=h.ty;have e:2<w.heap.size:=by
  rcases ğ 2 w.heap.size with q|q
  .exact q
  .rw[ñ q]at b;cases b
 refine⟨⟨c,d,by rwa[k.fu 2 e a]⟩,λi r q=> ?_⟩;let⟨f,g,j⟩:=h.gV i r q;exact⟨k.fg f a,k.fg g a,k.fg j a⟩
def jK.fX(h:jK w){cs:Array È}(b:w.heap[j]?=Ã (Ð cs T xJ))(c:T≠300):j≠2:=by rintro rfl;let⟨d,e,a⟩:=h.ty;rw[b]at a;cases a;exact c U
def jK.tr{E:jT}(ok:E.Ok){rb:Nat}{c:RC}{sv lv:È}{s:St}{a:List (Nat×Int)}(h:jK w)(r:R E rb c sv lv zQ s a w)(t:Tr E rb sv lv n w v x i u):jK u:=by
 refine h.fi t.fi ?_;rintro(e|e|e|e)
 .exact h.fX r.gI ok.abY e.symm
 .exact h.fX r.fq A e.symm
 .let⟨b,q⟩:=nS r.oE e;exact h.fX q A U
 .let⟨b,q⟩:=nS r.jv e;exact h.fX q A U
def Mt:∀(k:Nat) (r:Int×Int×Int),jN[k]?=Ã r->0<=r.1/\r.1<=8/\0<=r.2.1/\r.2.1<=3/\0<=r.2.2/\r.2.2<=2:=by
 have h:∀r∈jN,0<=r.1/\r.1<=8/\0<=r.2.1/\r.2.1<=3/\0<=r.2.2/\r.2.2<=2:=A
 exact λk r a=>h r<|ü a
def nJ(g:Int)(n:Nat)(b a c:Int):Bool:= !(decide (g<b)||(decide ((n:Int)-a<0)||decide (32<(n:Int)-a+c)))
def Wv(E:jT)(f:Nat)(c:RC)(a d:È)(i:List Int)(s:St)(e:List (Nat×Int))(w:Ç)(j:Int)(b:Bool)(h:Ç):Prop:=
 R E f (if b then{c with g:=c.g-j}else c) a d i s e h/\Tr E f a d e.length w a d e.length h
section
variable{E:jT}{rb:Nat}{c:RC}{sv lv:È}{w':Ç}{s:St}{ls:List (Nat×Int)}
def Ww(a:R E rb c sv lv zQ s ls w)(k:ff (λ_=>False) w w'):Wv E rb c sv lv zQ s ls w h Ï w':=⟨a.gu k,Tr.gu k⟩
def ani(ok:E.Ok)(a:R E rb c sv lv zQ s ls w){g:Int}(d:c.g=g)(e:w'=u.setCell ⟨rb,5,Ä⟩ (Â Æ<|g-h))(k:ff (λ_=>False) w u):Wv E rb c sv lv zQ s ls w h Ý w':=by subst d e;have b:=a.gu k;let⟨f,i⟩:=b.I2 ok 5 (c':={c with g:=c.g-h}) U b.oE λ_ q=>q;exact⟨f,(Tr.gu k).fl i⟩
end
def Gy(E:jT)(ok:E.Ok)(m:Nat)(c:RC)(q r:È)(d:List Int)(s:St)(t:List (Nat×Int))(w:Ç)(h:R E m c q r d s t w)(u:jK w)(k:Nat)(f b i:Int)(o:jN[k]?=Ã (f,b,i))(y:d.length<=1000)(P:0<=c.g)(Q:c.g<18446744073709551616): Ô À 202 #[Å<|Ã ⟨m,0,Ä⟩,Â Ë k] w λe a=>e=É (Ò<|nJ c.g d.length f b i)/\Wv E m c q r d s t w f (nJ c.g d.length f b i) a:=by
 let⟨z,B,C⟩:=u.gV k _ o;obtain⟨a,T,rfl⟩:=kX h.oE;have D:=h.fq.fg 6 _ U;have V:=h.fq.fg 5 _ U;have W:=h.fq.fC 5;have X:=h.fq.lt;have Y:k<23:=(Ù.1 o).1;let⟨F,G,I,J,K,L⟩:=Mt k _ o;simp only at F G I J K L z B C;obtain⟨n,j⟩:∃n,d.length=n:=⟨_,U⟩;rw[j]at D y;have e:nJ c.g d.length f b i= !(decide (c.g<f)||(decide ((n:Int)-b<0)||decide (32<(n:Int)-b+i))):=by rw[j];rfl
 have H:=fp<|Á h<|Á j e;clear u h j e;generalize M:c.g=g at*;go_enter Tryz.func202,Tryz.ntmps202;go_wp2;go_quiet (fail);go_wp2;by_cases v:g<f
 .go_quiet (fail)
  go_wp2;let⟨h,j,e⟩:=H.out;have l:nJ g d.length f b i=Ï:=by rw[e];simp[v]
  go_ret;rw[l];refine⟨U,Ww h ?_⟩;exact kp
 .have N:=decide_eq_false v;by_cases x:(n:Int)-b<0
  .go_quiet (fail)
   go_wp2;let⟨h,j,e⟩:=H.out;have l:nJ g d.length f b i=Ï:=by rw[e];simp[x]
   go_ret;rw[l];refine⟨U,Ww h ?_⟩;exact kp
  .have O:=decide_eq_false x;go_quiet (fail);go_wp2
   .have p:32<(n:Int)-b+i:=by assumption
    let⟨h,j,e⟩:=H.out;have l:nJ g d.length f b i=Ï:=by rw[e];simp[p]
    go_ret;rw[l];refine⟨U,Ww h ?_⟩;exact kp
   .go_region
    go_wp2;have p:(n:Int)-b+i<=32:=by assumption
    let⟨h,j,e⟩:=H.out;have l:nJ g d.length f b i=Ý:=by rw[e];simp[N,O,p]
    go_ret;rw[l];refine⟨U,ani ok h M U ?_⟩;exact kp
def vZ(s:St)(y:Nat)(q p:Int):Int×St:=
 if(s y).fH<p then(0,s)else(1,(s.fH y<|(s y).fH-p).fH (q%8).toNat<|wu<|(s.fH y ((s y).fH-p) (q%8).toNat).fH+p)
def CV(E:jT)(e:Nat)(c:RC)(a b:È)(g:List Int)(s:St)(d:List (Nat×Int))(w:Ç)(h:St)(f:Ç):Prop:=
 R E e c a b g h d f/\Tr E e a b d.length w a b d.length f
section
variable{E:jT}{rb:Nat}{c:RC}{sv lv:È}{s d f:St}{a:List (Nat×Int)}
def CV.gu(h:R E rb c sv lv zQ s a w)(k:ff (λ_=>False) w u):CV E rb c sv lv zQ s a w s u:=⟨h.gu k,Tr.gu k⟩
def CV.fH(ok:E.Ok)(h:CV E rb c sv lv zQ s a w d W)(e:i<8)(x:Int):CV E rb c sv lv zQ s a w (d.fH i x) (W.setCell ⟨E.lb,i*18,Ä⟩<|Â Æ x):=by let⟨b,f⟩:=h;let⟨g,j⟩:=b.abZ ok (i*18)<|b.gI.pb e x;exact⟨g,f.fl j⟩
end
def anj(E:jT)(ok:E.Ok)(d:Nat)(c:RC)(f g:È)(i:List Int)(s:St)(j:List (Nat×Int))(w:Ç)(h:R E d c f g i s j w)(q p:Int)(n:0<=q)(o:q<18446744073709551616)(r:0<=p)(t:p<18446744073709551616)(a:c.y<8)(u:0<=(s c.y).fH)(v:(s c.y).fH<18446744073709551616): Ô À 209 #[Å<|Ã ⟨d,0,Ä⟩,Â Æ q,Â Æ p] w λe k=>e=É (Â Æ (vZ s c.y q p).1)/\CV E d c f g i s j w (vZ s c.y q p).2 k:=by
 have x:=h.fq.fg 0 _ U;have z:=h.fq.fg 2 _ U;have B:=h.fq.lt;have C:=fw.lt h.gI;have D:=h.gI.fH a;have F:=fw.fC h.gI<|c.y*18;have k:(q%8).toNat<8:=Z
 have H:=fp h;by_cases l:(s c.y).fH<p
 .have e:vZ s c.y q p=(0,s):=by unfold vZ;rw[if_pos l]
  rw[e];generalize(s c.y).fH=b at*;generalize c.y=y at*;go_enter aG,ae;go_wp2;go_quiet (fail);go_wp2;go_ret;refine⟨U,CV.gu H.out ?_⟩;exact kp
 .have e:vZ s c.y q p=(1,(s.fH c.y<|(s c.y).fH-p).fH (q%8).toNat<|wu<|(s.fH c.y ((s c.y).fH-p) (q%8).toNat).fH+p):=by unfold vZ;rw[if_neg l]
  rw[e];have G:=λm=>((h.gu<|ff.iA _ w m).gI.pb a<|(s c.y).fH-p).fH k;have I:∀m,((w.drewN m).setCell ⟨E.lb,c.y*18,Ä⟩<|Â Æ<|(s c.y).fH-p).frozen? ⟨E.lb,(q%8).toNat*18,Ä⟩=Ï:=λm=>fw.fC ((h.gu<|ff.iA _ w m).gI.pb a<|(s c.y).fH-p) _;generalize(s.fH c.y ((s c.y).fH-p) (q%8).toNat).fH=b2 at*;generalize(s c.y).fH=b at*;go_enter aG,ae;go_wp2;go_quiet (fail);go_wp2;go_ret;refine⟨U,((CV.gu H.out ?_).fH ok a _).fH ok k _⟩;exact kp
def mL(E:jT)(rb:Nat)(sv lv:È)(n:Nat)(w:Ç)(c:RC)(f:List Int)(s:St)(a:List (Nat×Int))(b:Ç):Prop:=
 ∃d e,R E rb c d e f s a b/\Tr E rb sv lv n w d e a.length b
section
variable{E:jT}{rb:Nat}{c a:RC}{sv lv:È}{w':Ç}{b:List Int}{s d:St}{ls f:List (Nat×Int)}{p:Int}
def R.lr(h:R E rb c sv lv zQ s ls w):mL E rb sv lv ls.length w c zQ s ls w:=⟨sv,lv,h,Tr.fY _ _ _ _ _ _⟩
def pY(ok:E.Ok)(h:R E rb c sv lv (zQ++[p]) s ls w)(g:zQ.length<=900):Ô À 204 #[Å<|Ã ⟨rb,0,Ä⟩] w λe w'=>e=É (Â Æ p)/\ ∃a,R E rb c a lv zQ s ls w'/\Tr E rb sv lv ls.length w a lv ls.length w':=by have b:=h.oE;rw[show sK (zQ++[p])=sK zQ++[tP p] by simp[sK],show(zQ++[p]).length=zQ.length+1 by simp]at b;refine(QF E.lb rb c sv 0 zQ p w h.fq b Z).mono ?_;rintro e w' ⟨rfl,a,rfl,d,f⟩;exact⟨U,a,h.I2 ok 6 U d λj q=>by rwa[<-f]⟩
def CW(ok:E.Ok)(h:R E rb c sv lv zQ s ls w)(i:zQ.length<=900)(x:Int):Ô À 203 #[Å<|Ã ⟨rb,0,Ä⟩,Ê (Ã ⟨w.heap.size,0,Ä⟩) 1 1] (w.alloc<|Ð #[Â Æ x] 36) λe w'=>e=É (é #[])/\ ∃b,R E rb c b lv (zQ++[x]) s ls w'/\Tr E rb sv lv ls.length w b lv ls.length w':=by have k:=ff.gT (λ_=>False) w #[Â Æ x] 36;have d:=h.gu k;refine(abX E.lb rb c sv 0 (sK zQ) zQ.length w.heap.size 1 1 [Â Æ x] _ d.fq d.oE Z Z U (ą _ _ _) (λa f=>by simp at f;subst f;rfl)<|å _).mono ?_;rintro e w' ⟨rfl,b,u,a,rfl⟩;let⟨f,g⟩:=d.ab0 ok (ns:=[x]) U a;exact⟨U,b,f,(Tr.gu k).fl g⟩
def Wx(ok:E.Ok)(h:R E rb c sv lv zQ s ls w)(i:zQ.length<=900)(x y:Int):Ô À 203 #[Å<|Ã ⟨rb,0,Ä⟩,Ê (Ã ⟨w.heap.size,0,Ä⟩) 2 2] (w.alloc<|Ð #[Â Æ x,Â Æ y] 36) λe w'=>e=É (é #[])/\ ∃b,R E rb c b lv (zQ++[x,y]) s ls w'/\Tr E rb sv lv ls.length w b lv ls.length w':=by have k:=ff.gT (λ_=>False) w #[Â Æ x,Â Æ y] 36;have d:=h.gu k;refine(abX E.lb rb c sv 0 (sK zQ) zQ.length w.heap.size 2 2 [Â Æ x,Â Æ y] _ d.fq d.oE Z Z U (ž _ _ _ _) (λa f=>by simp at f;rcases f with rfl|rfl<;>rfl)<|å _).mono ?_;rintro e w' ⟨rfl,b,u,a,rfl⟩;let⟨f,g⟩:=d.ab0 ok (ns:=[x,y]) U a;exact⟨U,b,f,(Tr.gu k).fl g⟩
end
structure jl(E:jT)(lv:È)(n:Nat)(w:Ç)(s:St)(ls:List (Nat×Int))(w':Ç)(kO:È):Prop where
 gI:jz E.lb E.T E.tl s kO w'
 jv:w'.ownsRow 0 257 2 kO ls.length (lQ ls)
 fi:ff (λk=>k=E.lb\/lv.ownBlock=Ã k) w w'
 l:∀j,kO.ownBlock=Ã j->lv.ownBlock=Ã j\/w.heap.size<=j
 ja:∀v0 n0 Bg,w.ownsRow 0 257 2 v0 n0 Bg->(v0.ownBlock=lv.ownBlock->n0<=n)->w'.ownsRow 0 257 2 v0 n0 Bg/\(v0.ownBlock=kO.ownBlock->n0<=ls.length)
structure Gz where
 jO:Int
 lk:Bool
 ly:Int
 s:St
 ls:List (Nat×Int)
abbrev oF:=St->List (Nat×Int)->Nat->Nat->Int->Int->Gz
def gP(n:Int):Prop:=0<=n/\n<18446744073709551616
def nT(c:Int):Nat:=
 if 48<=c/\c<=57 then 1 else if c=43 then 2 else if c=45 then 3 else if c=42 then 4 else if c=47 then 5 else if c=60 then 6 else if c=61 then 7
 else if c=100 then 8 else if c=120 then 9 else if c=112 then 10 else if c=107 then 11 else if c=99 then 12 else if c=121 then 13 else if c=98 then 14
 else if c=108 then 15 else if c=116 then 16 else if c=106 then 17 else if c=118 then 18 else if c=101 then 19 else if c=111 then 20 else if c=114 then 21 else if c=102 then 22 else 0
def Bo(c:UInt8):Bool:=decide<|nT (c.toNat:Int)≠0
structure iE(s:St):Prop where
 fH:∀i,gP (s i).fH
 kY:∀i j,gP<|(s i).kY j
 iN:∀i,(s i).iN.size<=40/\∀c∈(s i).iN.data.toList,Bo c=Ý
def gN(l:List Int):Int:=l.getLastD 0
def ab1(l:List Int)(h:0<l.length):l=l.dropLast++[gN l]:=by
 have a:l≠[]:=by intro e;subst e;simp at h
 unfold gN;rw[List.getLastD_eq_getLast?,List.getLast?_eq_some_getLast a,Option.getD_some];exact(List.dropLast_concat_getLast a).symm
section
variable{E:jT}{c:RC}{s:St}{a:List (Nat×Int)}{q r:Int}
def ank(ok:E.Ok)(b:R E i c x v (zQ++[h]) s a w)(k:zQ.length<=800)(l:c.y<8): Ô À 205 #[Å<|Ã ⟨i,0,Ä⟩,Â Ë 8] w λe H=>e=É (é #[])/\mL E i x v a.length w c (zQ++[h,h]) s a H:=by have m:=b.fq.fg 0 _ U;have n:=b.fq.fg 2 _ U;have o:=b.fq.lt;have p:=fw.lt b.gI;have H:=fp b;go_enter í,è;go_wp2_with fail;go_quiet (fail);go_wp2_with fail;go_at_call 204;refine(pY ok (H.out.gu<|ff.iA _ _ _) (by first|omega|(simp;omega))).mono ?_;rintro e q ⟨rfl,r,d,f⟩;go_wp2_with fail;go_at_call 203;refine(Wx ok d (by first|omega|(simp;omega)) _ _).mono ?_;rintro e t ⟨rfl,u,g,j⟩;go_wp2_with fail;go_end0;exact⟨U,_,_,g,(((Tr.gu<|ff.iA _ _ _).fl f).fl j)⟩
def anl(ok:E.Ok)(b:R E i c x v ((zQ++[h])++[q]) s a w)(m:zQ.length<=800)(n:c.y<8): Ô À 205 #[Å<|Ã ⟨i,0,Ä⟩,Â Ë 9] w λe H=>e=É (é #[])/\mL E i x v a.length w c (zQ++[q,h]) s a H:=by have o:=b.fq.fg 0 _ U;have p:=b.fq.fg 2 _ U;have r:=b.fq.lt;have t:=fw.lt b.gI;have H:=fp b;go_enter í,è;go_wp2_with fail;go_quiet (fail);go_wp2_with fail;go_at_call 204;refine(pY ok (H.out.gu<|ff.iA _ _ _) (by first|omega|(simp;omega))).mono ?_;rintro e u ⟨rfl,z,d,f⟩;go_wp2_with fail;go_at_call 204;refine(pY ok d (by first|omega|(simp;omega))).mono ?_;rintro e B ⟨rfl,C,g,j⟩;go_wp2_with fail;go_at_call 203;refine(Wx ok g (by first|omega|(simp;omega)) _ _).mono ?_;rintro e D ⟨rfl,F,k,l⟩;go_wp2_with fail;go_end0;exact⟨U,_,_,k,((((Tr.gu<|ff.iA _ _ _).fl f).fl j).fl l)⟩
def anm(ok:E.Ok)(b:R E i c x v (zQ++[h]) s a w)(g:zQ.length<=800)(j:c.y<8): Ô À 205 #[Å<|Ã ⟨i,0,Ä⟩,Â Ë 10] w λe H=>e=É (é #[])/\mL E i x v a.length w c zQ s a H:=by have k:=b.fq.fg 0 _ U;have l:=b.fq.fg 2 _ U;have m:=b.fq.lt;have n:=fw.lt b.gI;have H:=fp b;go_enter í,è;go_wp2_with fail;go_quiet (fail);go_wp2_with fail;go_at_call 204;refine(pY ok (H.out.gu<|ff.iA _ _ _) (by first|omega|(simp;omega))).mono ?_;rintro e o ⟨rfl,p,d,f⟩;go_wp2_with fail;go_end0;exact⟨U,_,_,d,((Tr.gu<|ff.iA _ _ _).fl f)⟩
def ano(ok:E.Ok)(h:R E i c x v zQ s a w)(f:zQ.length<=800)(g:c.y<8): Ô À 205 #[Å<|Ã ⟨i,0,Ä⟩,Â Ë 11] w λe H=>e=É (é #[])/\mL E i x v a.length w c (zQ++[c.k]) s a H:=by have j:=h.fq.fg 0 _ U;have l:=h.fq.fg 2 _ U;have m:=h.fq.lt;have n:=fw.lt h.gI;have o:=h.fq.fg 3 _ U;have H:=fp h;go_enter í,è;go_wp2_with fail;go_quiet (fail);go_wp2_with fail;go_at_call 203;refine(CW ok (H.out.gu<|ff.iA _ _ _) (by first|omega|(simp;omega)) _).mono ?_;rintro e p ⟨rfl,q,b,d⟩;go_wp2_with fail;go_end0;exact⟨U,_,_,b,((Tr.gu<|ff.iA _ _ _).fl d)⟩
def anp(ok:E.Ok)(h:R E i c x v zQ s a w)(f:zQ.length<=800)(g:c.y<8)(j:c.x<8): Ô À 205 #[Å<|Ã ⟨i,0,Ä⟩,Â Ë 12] w λe H=>e=É (é #[])/\mL E i x v a.length w c (zQ++[(c.x:Int)]) s a H:=by have k:=h.fq.fg 0 _ U;have l:=h.fq.fg 2 _ U;have m:=h.fq.lt;have n:=fw.lt h.gI;have o:=h.fq.fg 1 _ U;have H:=fp h;go_enter í,è;go_wp2_with fail;go_quiet (fail);go_wp2_with fail;go_at_call 203;refine(CW ok (H.out.gu<|ff.iA _ _ _) (by first|omega|(simp;omega)) _).mono ?_;rintro e p ⟨rfl,q,b,d⟩;go_wp2_with fail;go_end0;exact⟨U,_,_,b,((Tr.gu<|ff.iA _ _ _).fl d)⟩
def anq(ok:E.Ok)(h:R E i c x v zQ s a w)(f:zQ.length<=800)(g:c.y<8): Ô À 205 #[Å<|Ã ⟨i,0,Ä⟩,Â Ë 13] w λe H=>e=É (é #[])/\mL E i x v a.length w c (zQ++[(c.y:Int)]) s a H:=by have j:=h.fq.fg 0 _ U;have k:=h.fq.fg 2 _ U;have l:=h.fq.lt;have m:=fw.lt h.gI;have H:=fp h;go_enter í,è;go_wp2_with fail;go_quiet (fail);go_wp2_with fail;go_at_call 203;refine(CW ok (H.out.gu<|ff.iA _ _ _) (by first|omega|(simp;omega)) _).mono ?_;rintro e n ⟨rfl,o,b,d⟩;go_wp2_with fail;go_end0;exact⟨U,_,_,b,((Tr.gu<|ff.iA _ _ _).fl d)⟩
def anr(ok:E.Ok)(h:R E i c x v zQ s a w)(g:zQ.length<=800)(b:c.y<8): Ô À 205 #[Å<|Ã ⟨i,0,Ä⟩,Â Ë 14] w λe H=>e=É (é #[])/\mL E i x v a.length w c (zQ++[(s c.y).fH]) s a H:=by have j:=h.fq.fg 0 _ U;have k:=h.fq.fg 2 _ U;have l:=h.fq.lt;have m:=fw.lt h.gI;have n:=h.gI.fH b;have H:=fp h;go_enter í,è;go_wp2_with fail;go_quiet (fail);go_wp2_with fail;go_at_call 203;refine(CW ok (H.out.gu<|ff.iA _ _ _) (by first|omega|(simp;omega)) _).mono ?_;rintro e o ⟨rfl,p,d,f⟩;go_wp2_with fail;go_end0;exact⟨U,_,_,d,((Tr.gu<|ff.iA _ _ _).fl f)⟩
def ant(ok:E.Ok)(b:R E i c x v (zQ++[h]) s a w)(o:zQ.length<=800)(g:c.y<8)(d:gP h): Ô À 205 #[Å<|Ã ⟨i,0,Ä⟩,Â Ë 15] w λe f=>e=É (é #[])/\mL E i x v a.length w c (zQ++[(s c.y).kY (h%16).toNat]) s a f:=by have p:=b.fq.fg 0 _ U;have q:=b.fq.fg 2 _ U;have r:=b.fq.lt;have t:=fw.lt b.gI;have H:=fp b;go_enter í,è;go_wp2_with fail;go_quiet (fail);go_wp2_with fail;go_at_call 204;refine(pY ok (H.out.gu<|ff.iA _ _ _) (by first|omega|(simp;omega))).mono ?_;rintro e u ⟨rfl,z,f,k⟩;have B:=f.gI.vY g (j:=(h%16).toNat) Z;have C:=d.1;have D:=d.2;go_wp2_with fail;go_at_call 208;refine(abV E.lb (c.y*18) h d.1 d.2 _).mono ?_;rintro e l ⟨rfl,F⟩;subst l;go_wp2_with fail;go_at_call 203;refine(CW ok f (by first|omega|(simp;omega)) _).mono ?_;rintro e G ⟨rfl,I,m,n⟩;go_wp2_with fail;go_end0;exact⟨U,_,_,m,(((Tr.gu<|ff.iA _ _ _).fl k).fl n)⟩
def anu(ok:E.Ok)(b:R E i c x v ((zQ++[h])++[q]) s a w)(r:zQ.length<=800)(g:c.y<8)(d:gP q): Ô À 205 #[Å<|Ã ⟨i,0,Ä⟩,Â Ë 16] w λe f=>e=É (é #[])/\mL E i x v a.length w c zQ (s.vY c.y (q%16).toNat h) a f:=by have t:=b.fq.fg 0 _ U;have u:=b.fq.fg 2 _ U;have z:=b.fq.lt;have B:=fw.lt b.gI;have H:=fp b;go_enter í,è;go_wp2_with fail;go_quiet (fail);go_wp2_with fail;go_at_call 204;refine(pY ok (H.out.gu<|ff.iA _ _ _) (by first|omega|(simp;omega))).mono ?_;rintro e C ⟨rfl,D,k,l⟩;go_wp2_with fail;go_at_call 204;refine(pY ok k (by first|omega|(simp;omega))).mono ?_;rintro e F ⟨rfl,G,f,m⟩;have I:=f.gI.vY g (j:=(q%16).toNat) (by have:=d.1;omega);have J:=fw.fC f.gI<|c.y*18+2+(q%16).toNat;go_wp2_with fail;go_at_call 208;refine(abV E.lb (c.y*18) q d.1 d.2 _).mono ?_;rintro e n ⟨rfl,K⟩;subst n;go_wp2_with fail;go_end0;let⟨o,p⟩:=f.abZ ok (c.y*18+2+(q%16).toNat) (f.gI.Wu g (by have:=d.1;omega) h);exact⟨U,_,_,o,(((Tr.gu<|ff.iA _ _ _).fl l).fl m).fl p⟩
def anv(ok:E.Ok)(b:R E i c x v ((zQ++[h])++[q]) s a w)(u:zQ.length<=800)(j:c.y<8)(d:gP h)(f:gP q)(g:iE s): Ô À 205 #[Å<|Ã ⟨i,0,Ä⟩,Â Ë 18] w λe H=>e=É (é #[])/\mL E i x v a.length w c (zQ++[(vZ s c.y q h).1]) (vZ s c.y q h).2 a H:=by have z:=b.fq.fg 0 _ U;have B:=b.fq.fg 2 _ U;have C:=b.fq.lt;have D:=fw.lt b.gI;have H:=fp b;go_enter í,è;go_wp2_with fail;go_quiet (fail);go_wp2_with fail;go_at_call 204;refine(pY ok (H.out.gu<|ff.iA _ _ _) (by first|omega|(simp;omega))).mono ?_;rintro e F ⟨rfl,G,k,l⟩;go_wp2_with fail;go_at_call 204;refine(pY ok k (by first|omega|(simp;omega))).mono ?_;rintro e I ⟨rfl,J,m,n⟩;go_wp2_with fail;go_at_call 209;refine(anj E ok i c _ v _ s a _ m q h f.1 f.2 d.1 d.2 j (g.fH _).1 (g.fH _).2).mono ?_;rintro e K ⟨rfl,o,p⟩;go_wp2_with fail;go_at_call 203;refine(CW ok o (by first|omega|(simp;omega)) _).mono ?_;rintro e L ⟨rfl,M,r,t⟩;go_wp2_with fail;go_end0;exact⟨U,_,_,r,(((((Tr.gu<|ff.iA _ _ _).fl l).fl n).fl p).fl t)⟩
def anw{k:Int}(ok:E.Ok)(b:R E i c x v ((zQ++[h])++[q]) s a w)(r:zQ.length<=800)(t:c.y<8)(d:gP h)(f:gP q)(u:2<=k)(z:k<=7): Ô À 205 #[Å<|Ã ⟨i,0,Ä⟩,Â Ë k] w λe H=>e=É (é #[])/\mL E i x v a.length w c (zQ++[Bn k h q]) s a H:=by
 have B:=b.fq.fg 0 _ U;have C:=b.fq.fg 2 _ U;have D:=b.fq.lt;have F:=fw.lt b.gI;have G:(k==8)=Ï:=by rw[beq_eq_false_iff_ne];omega
 have I:(k==9)=Ï:=by rw[beq_eq_false_iff_ne];omega
 have J:(k==10)=Ï:=by rw[beq_eq_false_iff_ne];omega
 have K:(k==11)=Ï:=by rw[beq_eq_false_iff_ne];omega
 have L:(k==12)=Ï:=by rw[beq_eq_false_iff_ne];omega
 have M:(k==13)=Ï:=by rw[beq_eq_false_iff_ne];omega
 have N:(k==14)=Ï:=by rw[beq_eq_false_iff_ne];omega
 have O:(k==15)=Ï:=by rw[beq_eq_false_iff_ne];omega
 have P:(k==16)=Ï:=by rw[beq_eq_false_iff_ne];omega
 have Q:(k==18)=Ï:=by rw[beq_eq_false_iff_ne];omega
 have T:(k==19)=Ï:=by rw[beq_eq_false_iff_ne];omega
 have V:(k==20)=Ï:=by rw[beq_eq_false_iff_ne];omega
 have H:=fp b;go_enter í,è;go_wp2_with fail;go_quiet (fail);go_wp2_with fail;go_at_call 204;refine(pY ok (H.out.gu<|ff.iA _ _ _) (by first|omega|(simp;omega))).mono ?_;rintro e W ⟨rfl,X,g,j⟩;go_wp2_with fail;go_at_call 204;refine(pY ok g (by first|omega|(simp;omega))).mono ?_;rintro e Y ⟨rfl,I3,l,m⟩;go_wp2_with fail;go_at_call 211;refine(anb k h q d.1 d.2 f.1 f.2 _).mono ?_;rintro e n ⟨rfl,yu⟩;subst n;go_wp2_with fail;go_at_call 203;refine(CW ok l (by first|omega|(simp;omega)) _).mono ?_;rintro e w4 ⟨rfl,sv4,o,p⟩;go_wp2_with fail;go_end0;exact⟨U,_,_,o,((((Tr.gu<|ff.iA _ _ _).fl j).fl m).fl p)⟩
end
def QH{P:Program}{ops:Array Oper}{o:Oper}{a:Act}{w:World}{K:Act->World->Prop}{Q:Exit->Act->World->Prop}{E:Prop}{base:Nat}{e:TypeId}{size n:Nat}{v:Value}{xs:List Value} (hg:o.guard=none) (s x:Operand) (t:TypeId) (Ky:o.op=Op.call {callee:=Callee.builtin Builtin.append,args:=#[s,x],argTypes:=#[t,t]}) {i:TypeInfo} {z:Value} {bytes:Nat} (ht:P.underlying t=some (.slice e)) (hi:P.info? e=some i) (hz:i.zero=some z) (Bh:i.size=size) (Bj:i.bytes=bytes) (tL:z.cells.size=size) (hs:a.eval s=v) (nk:w.ownsRow base e size v n xs) (ad:Addr) {m c:Nat} (news:List Value) (hx:a.eval x=.slice (some ad) m c) (hm:0<m) (hl:news.length=m*size) (Wr:∀j u,news[j]?=some u->w.cell? (ad.add j)=some u) (h1:∀u∈news,u.oneCell'=true) (Gw:n+m<=maxLen) (zV:(n+m)*bytes<=140737488355328) (Bl:base<=w.heap.size) (h:∀v' w',tO w base e size v n xs m news v' w'->K (a.put o.dst v') w') (hfl:oD e=false\/(0<news.length/\(∀u∈xs++news,lP u=true)/\∀u∈z.cells.toList,lP u=true):=by first|exact Or.inl (by decide)|exact Or.inr ⟨by simp,by simp[lP],by simp[lP,Value.cells]⟩): if Region.wanted o (yielded ops a.tmps)=true then Oper.wp P o a w K Q else E:=by
 have hw:ħ o (aH ops a.tmps)=Ý:=by simp[ħ,hg]
 rw[if_pos hw];let⟨v',w',hr,h2⟩:=Wo (ty:=o.type) ht hi hz Bh Bj tL nk ad c news hm hl Wr h1 Gw zV Bl hfl;unfold Ŏ;simp[į,Ky,aE,bm,aF,hs,hx,hr,Ľ];exact h v' w' h2
def anx:(À.info? 257).map (λi=>(i.zero,i.size,i.bytes))=Ã (Ã<|ė #[Â Ë 0,Â Æ 0],2,16):=fF
def ab2(b:List (Nat×Int)):∀u∈lQ b,lP u=Ý:=λu a=>by unfold lQ at a;let⟨e,_,h⟩:=Ν.1 a;simp[Ws,tP]at h;rcases h with rfl|rfl<;>rfl
section
variable{E:jT}{c:RC}{g d:È}{s:St}{ls:List (Nat×Int)}{p:Int}
def R.anz(ok:E.Ok)(h:R E k c g jQ zQ s ls w)(a:tO w 0 257 2 jQ ls.length (lQ ls) 1 [Â Ë b,Â Æ p] d W): (R E k c g jQ zQ s ls W/\W.ownsRow 0 257 2 d (ls++[(b,p)]).length (lQ<|ls++[(b,p)]))/\ R E k c g d zQ s (ls++[(b,p)]) (W.setCell ⟨E.lb,144,Ä⟩ d)/\Tr E k g jQ ls.length w g d (ls++[(b,p)]).length (W.setCell ⟨E.lb,144,Ä⟩ d):=by
 have m:∀{i:Nat} {o:Array È} {T:ú},jQ.ownBlock=Ã i->w.heap[i]?=Ã (Ð o T (0,0))->T=257:=λ{i o T} q hc=>by let⟨l,e⟩:=nS h.jv q;rw[hc]at e;cases e;rfl
 have f:R E k c g jQ zQ s ls W:=⟨h.fq.fi a.fi λq=>absurd (m q h.fq) A,je h.oE a.fi (λj q r=>by let⟨l,e⟩:=nS h.oE q;exact absurd (m r e) A),h.gI.fi a.fi λq=>ok.CU<|m q h.gI,a.ja _ _ _ h.jv λ_=>ß _⟩;have n:W.ownsRow 0 257 2 d (ls++[(b,p)]).length (lQ<|ls++[(b,p)]):=by have:=a.fD;rwa[show lQ ls++[Â Ë b,Â Æ p]=lQ (ls++[(b,p)]) by simp[lQ,Ws,tP],show ls.length+1=(ls++[(b,p)]).length by simp]at this
 have l:=ff.iB (X:=λe=>e=E.lb) (p:=⟨E.lb,144,Ä⟩) U d<|Ü<|fw.nf f.gI ok.sH;have B:W.heap[E.lb]?=_:=f.gI;refine⟨⟨f,n⟩,⟨f.fq.fi l (fw.fX f.gI f.fq ok.Ms).symm,je f.oE l λj q r=>kP f.oE f.gI ok.QG.symm (by rw[q,r]),f.gI.am7 d,je n l λj q r=>kP n f.gI ok.CU.symm<|by rw[q,r]⟩,?_,λj q=>Û q,λj q=> ?_,λx y z t u=> ?_⟩
 .refine(a.fi.ft λe _ q=>Ü<|Ü<|Ü q).kj l λi _ q=>Û q
 .rcases a.gV with e|e
  .exact Û<|by rwa[<-e]
  .rw[e]at q;cases q;exact Ü<|ß _
 .have v:=a.ja x y z t u;refine⟨je v l λj q r=>kP v f.gI ok.CU.symm (by rw[q,r]),λq=> ?_⟩;rcases a.gV with e|e
  .have:=u (by rw[q,e]);simp;omega
  .rw[e]at q;have:=(t.lt _ q).2;omega
end
def gL{f:(Nat->Value)->Act}(a:Act)(h:a=f (λn=>a.tmps.getD n undef):=by rfl):∃u,a=f u:=⟨_,h⟩
section
variable{md:ζ}{ops:Array Ů}{Q:bu->ë->Ç->Prop}{S:Ç->Prop}{X:List Nat}
def rQ(P:aX)(md:ζ)(ops:Array Ů)(Q:bu->ë->Ç->Prop)(S:Ç->Prop)(X:List Nat):Nat->Array Bool->ë->Ç->Prop
 |0,listed,a,w=>Ć md ops listed=[]/\Q .normal a w
 |fuel+1,listed,a,w=>(Ć md ops listed=[]->Q .normal a w)/\
  ∀i∈Ć md ops listed,wpOp P ops Q i (λc b=>(i∉X->S b)/\rQ P md ops Q S X fuel (listed.setIfInBounds i Ý) c b) a w
def ab3:∀(b:Nat) (listed:Array Bool) (a:ë) (w:Ç),rQ P md ops Q S X b listed a w->wpAny P md ops Q b listed a w
 |0,_,_,_,h=>h
 |b+1,_,_,_,h=>⟨h.1,λi c=>wpOp_mono (λd e q=>ab3 b _ d e q.2)<|h.2 i c⟩
def vo(md:ζ)(ops:Array Ů)(X:List Nat)(i:Nat):Bool:=X.all λx=>match ops[x]? with
 |some o=>o.after.toList.any λe=>Ő md e&&e.on==i
 |none=>Ý
def anB{listed:Array Bool}(d:vo md ops X i=Ý)(f:ops[j]?=Ã o)(g:listed.getD i Ï=Ï)(h:∀e∈o.after,Ő md e=Ý->listed.getD e.on Ï=Ý):j∉X:=by intro k;have b:=List.all_eq_true.1 d j k;simp only[f]at b;let⟨e,l,a⟩:=List.any_eq_true.1 b;simp only[Bool.and_eq_true,beq_iff_eq]at a;have c:=h e (Ŧ.1 l) a.1;rw[a.2,g]at c;cases c
def anC{m:Ů}(x:ops[i]?=Ã m)(y:∀(j:Nat) (o:Ů) n b,ops[j]?=Ã o->o.op≠.select n b)(G:vo md ops X i=Ý) (I:∀c a w,Q (.panic c) (a.put m.dst v) w->Q (.panic c) a w): ∀(p:Nat) (d:Array Bool) (a:ë) (w:Ç),(∀j l,ops[j]?=Ã l->j≠i->d.getD j Ý=Ï->(∀e∈l.after,Ő md e=Ý->e.on≠i)->m.apart ops l=Ý)-> i∈Ć md ops d->YieldsIf P ops S m v a->S w->rQ P md ops Q S X p (d.setIfInBounds i Ý) (a.put m.dst v) w->rQ P md ops Q S X (p+1) d a w:=by
 have z:∀{d:Array Bool},i∈Ć md ops d->d.getD i Ï=Ï:=λ{d} f=>by
  have h:=(mem_ready.1 f).1;rcases ğ i d.size with g|g
  .simp[g]at h|-;exact h
  .simp[ñ g]
 intro p
 induction p with
 |zero=>
  intro d a w _ f s r H;refine⟨λh=>absurd (h▸f) fB,λj t=> ?_⟩;by_cases g:j=i
  .subst g;exact s.wpOp x r ⟨λ_=>r,H⟩
  .exact absurd (H.1▸χ t g) fB
 |succ p J=>
  intro d a w B f s r H;refine⟨λh=>absurd (h▸f) fB,λj t=> ?_⟩;by_cases g:j=i
  .subst g;exact s.wpOp x r ⟨λ_=>r,H⟩
  .let⟨C,l,u,D⟩:=mem_ready.1 t;have K:=anB G u (z f) D;have L:∀e∈l.after,Ő md e=Ý->e.on≠i:=λe M N O=>by
    have:=D e M N;rw[O,z f]at this;cases this
   have T:=wpOp_putIf u (B j l u g C L) (λn b=>y i m n b x) (λn b=>y j l n b u) I s<|H.2 j<|χ t g;refine wpOp_mono (λF V q=>⟨q.2.1,J (d.setIfInBounds j Ý) F V (λk W Y hki E Tt=>B k W Y hki ?_ Tt) (χ f<|Ne.symm g) q.1 (q.2.1 K) ?_⟩) T
   .by_cases F:j=k
    .subst F;exact C
    .rwa[getD_set_ne Ý F]at E
   .rw[Array.setIfInBounds_comm _ _ g];exact q.2.2
def Mv{oi:Ů}{listed:Array Bool}(b:ops[i]?=Ã oi) (d:Region.noSelect ops=Ý) (e:Region.free md ops listed i=Ý) (f:(Ć md ops listed).contains i=Ý) (g:vo md ops X i=Ý) (j:∀c y w,Q (.panic c) (y.put oi.dst v) w->Q (.panic c) y w) (k:S w) (l:YieldsIf P ops S oi v y) (h:rQ P md ops Q S X n (listed.setIfInBounds i Ý) (y.put oi.dst v) w):rQ P md ops Q S X (n+1) listed y w:= anC b (Region.noSelect_spec d) g j n listed y w (Region.free_spec b e) (by simpa using f) l k h
def anD{listed:Array Bool}(c:Ć md ops listed=[i])(e:ops[i]?=Ã o) (h:∀b:ë->Ç->Prop,Shut (∀y w,(i∉X->S w)->rQ P md ops Q S X n (listed.setIfInBounds i Ý) y w->b y w)->if ħ o (aH ops y.tmps)=Ý then Ŏ P o y w b Q else b (y.put o.dst ĉ) w):rQ P md ops Q S X (n+1) listed y w:=by
 refine⟨λq=>absurd (c▸q) fB,λj d=> ?_⟩;rw[c]at d;have:j=i:=by simpa using d
 subst this;exact aB e λb f=>h b λy w g k=>f y w ⟨g,k⟩
def ix:List Ů->Nat->Option Ů
 |[],_=>Ä
 |o::_,0=>Ã o
 |_::l,n+1=>ix l n
def ab4:∀{l:List Ů} {i:Nat} {o:Ů},ix l i=Ã o->l.toArray[i]?=Ã o
 |[],_,_,h=>by cases h
 |o::l,0,_,h=>by simpa[ix]using h
 |o::l,n+1,_,h=>by simpa using ab4 (l:=l) h
def ab5(h:ix ops.toList i=Ã o):ops[i]?=Ã o:=by simpa using ab4 h
def tk(i:Nat){oi:Oper}{v:Value}{fuel:Nat}{listed:Array Bool}{a0 a a':Act}{w:World}(hS:S w)(h:rQ P md ops Q S X fuel (listed.setIfInBounds i true) a' w) (h0:a0=a:=by(try simp only[Act.put,List.setIfInBounds_toArray,List.set_cons_zero,List.set_cons_succ]);rfl) (hi:ix ops.toList i=some oi:=by rfl) (hs:Region.noSelect ops=true:=by kernel_rfl) (hf:Region.free md ops listed i=true:=by kernel_rfl) (hr:(Region.ready md ops listed).contains i=true:=by kernel_rfl) (hw:vo md ops X i=true:=by kernel_rfl) (hQ:∀v c a w,Q (.panic c) (a.put oi.dst v) w->Q (.panic c) a w:=by exact λ_ _ _ _ h=>h) (hn:Region.wanted oi (yielded ops a.tmps)=true:=by rfl) (hy:∀w,S w->(execOp a.eval oi).run P w=.ok (.value v) w:=by intro w h;revert h;simp only[and_imp];intros;go_simp;try(with_reducible rfl)) (ha:a.put oi.dst v=a':=by(try simp only[Act.put,List.setIfInBounds_toArray,List.set_cons_zero,List.set_cons_succ]);rfl):rQ P md ops Q S X (fuel+1) listed a0 w:= h0▸Mv (ab5 hi) hs hf hr hw (hQ v) hS (Û ⟨hn,hy⟩) (ha▸h)
def iu(i:Nat){o:Oper}{fuel:Nat}{listed:Array Bool}{a0 a:Act}{w:World} (h:∀K':Act->World->Prop,Shut (∀a w,(i∉X->S w)->rQ P md ops Q S X fuel (listed.setIfInBounds i true) a w->K' a w)->if Region.wanted o (yielded ops a.tmps)=true then Oper.wp P o a w K' Q else K' (a.put o.dst undef) w) (h0:a0=a:=by(try simp only[Act.put,List.setIfInBounds_toArray,List.set_cons_zero,List.set_cons_succ]);rfl) (hr:Region.ready md ops listed=[i]:=by kernel_rfl) (ho:ix ops.toList i=some o:=by rfl):rQ P md ops Q S X (fuel+1) listed a0 w:=h0▸anD hr (ab5 ho) h
def anE{oi oj:Ů}{listed:Array Bool}(g:Ć md ops listed=[i,j])(h:ops[i]?=Ã oi)(l:ops[j]?=Ã oj) (m:∀b:ë->Ç->Prop,Shut (∀y w,(i∉X->S w)->rQ P md ops Q S X n (listed.setIfInBounds i Ý) y w->b y w)->if ħ oi (aH ops y.tmps)=Ý then Ŏ P oi y w b Q else b (y.put oi.dst ĉ) w) (o:∀b:ë->Ç->Prop,Shut (∀y w,(j∉X->S w)->rQ P md ops Q S X n (listed.setIfInBounds j Ý) y w->b y w)->if ħ oj (aH ops y.tmps)=Ý then Ŏ P oj y w b Q else b (y.put oj.dst ĉ) w):rQ P md ops Q S X (n+1) listed y w:=by
 refine⟨λq=>absurd (g▸q) fB,λk c=> ?_⟩;rw[g]at c;rcases List.mem_cons.1 c with rfl|c
 .exact aB h λb d=>m b λy w e f=>d y w ⟨e,f⟩
 .have:k=j:=by simpa using c
  subst this;exact aB l λb d=>o b λy w e f=>d y w ⟨e,f⟩
def om{listed:Array Bool}(b:Ć md ops listed=[])(h:Q .normal y w):∀c,rQ P md ops Q S X c listed y w
 |0=>⟨b,h⟩
 |_+1=>⟨λ_=>h,by rw[b];simp⟩
def oG{id:Nat}(S:Ç->Prop)(X:List Nat)(b:P.follows .mixedOrders=Ý) (h:rQ P .any ops Q S X ops.size (ř ops.size Ï) y w.drew):(Code.region id ops Ý).wp P Q y w:= wp_region_any b<|ab3 _ _ _ _ h
end
section
variable{E:jT}{c:RC}{s:St}{a:List (Nat×Int)}
def anF(ok:E.Ok)(b:R E i c x v (zQ++[h]) s a w)(G:zQ.length<=800)(I:c.y<8)(J:a.length<=1000000): Ô À 205 #[Å<|Ã ⟨i,0,Ä⟩,Â Ë 19] w λe u=>e=É (é #[])/\mL E i x v a.length w c zQ s (a++[(c.y,h)]) u:=by
 have L:w.cell? ⟨i,0,Ä⟩=Ã (Å<|Ã ⟨E.lb,0,Ä⟩):=b.fq.fg 0 _ U;have M:w.cell? ⟨i,2,Ä⟩=Ã (Â Ë c.y):=b.fq.fg 2 _ U;have N:=b.fq.lt;have O:=fw.lt b.gI;let⟨P,o,p,r,t⟩:=ò anx;have k:=fp<|Á o<|Á p<|Á r t;have H:=fp b;clear b o p r t;go_enter í,è;go_wp2_with fail;go_quiet (fail);go_wp2_with fail;have f:=fp<|Á ((H.out.gu<|(ff.iA _ _ nq).fl<|ff.gi _ _).fq.fg 0 _ rfl)<|Á ((H.out.gu<|(ff.iA _ _ nq).fl<|ff.gi _ _).fq.fg 2 _ rfl) (H.out.gu<|(ff.iA _ _ nq).fl<|ff.gi _ _).gI.jv;refine oG (λu=>u.cell? ⟨i,0,Ä⟩=Ã (Å<|Ã ⟨E.lb,0,Ä⟩)/\u.cell? ⟨i,2,Ä⟩=Ã (Â Ë c.y)/\u.cell? ⟨E.lb,144,Ä⟩=Ã v) [22] fF ?_;refine tk 0 f.out ?_;refine tk 1 f.out ?_;refine tk 2 f.out ?_;refine tk 3 f.out ?_;refine tk 4 f.out ?_;refine tk 5 f.out ?_;refine tk 6 f.out ?_;refine tk 7 f.out ?_;refine tk 8 f.out ?_;refine tk 9 f.out ?_;refine tk 10 f.out ?_;refine tk 11 f.out ?_;refine tk 12 f.out ?_;refine tk 13 f.out ?_;refine tk 14 f.out ?_;refine tk 15 f.out ?_;refine iu 16 ?_;intro K d;go_simp;go_at_call 204;refine(pY ok (H.out.gu<|ff.iA _ _ _) Z).mono ?_;rintro e z ⟨rfl,Q,g,C⟩;dsimp only;refine d.out _ _ (λ_=>⟨g.fq.fg 0 _ U,g.fq.fg 2 _ U,g.gI.jv⟩) ?_;clear d K;refine iu 17 ?_;intro K d;go_simp;refine d.out _ _ (λ_=>⟨g.fq.fg 0 _ U,g.fq.fg 2 _ U,g.gI.jv⟩) ?_;clear d K;have j:=g.gu (ff.gT (λ_=>False) z #[Â Ë c.y,Â Æ h] 257);refine iu 18 ?_;intro K d;go_simp;refine d.out _ _ (λ_=>⟨j.fq.fg 0 _ U,j.fq.fg 2 _ U,j.gI.jv⟩) ?_;clear d K;refine iu 19 ?_;intro K d;refine QH (hfl:=Ü ⟨fB,λu l=>(ā.1 l).elim (ab2 a u) (λq=>by simp at q;rcases q with rfl|rfl<;>rfl),by simp[lP,ī]⟩) (base:=0) (n:=a.length) (xs:=lQ a) (m:=1) gG _ _ 142 gG Tryz.underlying142 k.out.1 k.out.2.1 k.out.2.2.1 k.out.2.2.2 U gG j.jv ⟨z.heap.size,0,Ä⟩ [Â Ë c.y,Â Æ h] gG Z U (ž _ _ _ _) (λu l=>by simp at l;rcases l with rfl|rfl<;>rfl) (by unfold č;omega) Z (å _) ?_;intro T V l;obtain⟨W,X,rfl⟩:=kX l.fD;let⟨⟨u,_⟩,D,F⟩:=j.anz ok l;refine d.out _ _ (λ_=>⟨u.fq.fg 0 _ U,u.fq.fg 2 _ U,u.gI.jv⟩) ?_;clear d K;have B:=u.gI.jv;have Y:=fw.fC u.gI 144;refine iu 20 ?_;intro K d;go_simp;refine d.out _ _ (λ_=>⟨u.fq.fg 0 _ U,u.fq.fg 2 _ U,B⟩) ?_;clear d K;refine iu 21 ?_;intro K d;go_simp;refine d.out _ _ (λ_=>⟨u.fq.fg 0 _ U,u.fq.fg 2 _ U,B⟩) ?_;clear d K;refine iu 22 ?_;intro K d;go_simp;refine d.out _ _ (λq=>absurd fB q) ?_;clear d K;try simp only[ł,Õ,æ,ç]
 refine om fF ?_ _;go_wp2_with fail;go_end0;exact⟨U,_,_,D,(((Tr.gu<|(ff.iA _ _ _).fl<|ff.gi _ _).fl C).fl<|Tr.gu<|ff.gT _ _ _ _).fl F⟩
end
structure RT where
 ss:List Int
 s:St
 ls:List (Nat×Int)
 g:Int
def jY(F:oF)(c:RC)(t:RT)(q p k:Int):Int×Int×RT:=
 if c.d=4 then(0,0,t)else
  ((F t.s t.ls c.y (q%8).toNat (min p t.g) k).ly,Bm (F t.s t.ls c.y (q%8).toNat (min p t.g) k).lk,
    {t with s:=(F t.s t.ls c.y (q%8).toNat (min p t.g) k).s,ls:=(F t.s t.ls c.y (q%8).toNat (min p t.g) k).ls,g:=t.g-(F t.s t.ls c.y (q%8).toNat (min p t.g) k).jO})
def gJ(l:List Int):List Int:=l.dropLast
def uQ(F:oF)(c:RC)(a:Nat)(t:RT):RT:=
 if a=8 then{t with ss:=gJ t.ss++[gN t.ss,gN t.ss]}
 else if a=9 then{t with ss:=gJ (gJ t.ss)++[gN t.ss,gN<|gJ t.ss]}
 else if a=10 then{t with ss:=gJ t.ss}
 else if a=11 then{t with ss:=t.ss++[c.k]}
 else if a=12 then{t with ss:=t.ss++[(c.x:Int)]}
 else if a=13 then{t with ss:=t.ss++[(c.y:Int)]}
 else if a=14 then{t with ss:=t.ss++[(t.s c.y).fH]}
 else if a=15 then{t with ss:=gJ t.ss++[(t.s c.y).kY (gN t.ss%16).toNat]}
 else if a=16 then{t with ss:=gJ<|gJ t.ss,s:=t.s.vY c.y (gN t.ss%16).toNat (gN<|gJ t.ss)}
 else if a=18 then{t with ss:=gJ (gJ t.ss)++[(vZ t.s c.y (gN t.ss)<|gN<|gJ t.ss).1],s:=(vZ t.s c.y (gN t.ss)<|gN<|gJ t.ss).2}
 else if a=19 then{t with ss:=gJ t.ss,ls:=t.ls++[(c.y,gN t.ss)]}
 else if a=20 then
  {(jY F c t (gN t.ss) (gN<|gJ t.ss)<|gN<|gJ<|gJ t.ss).2.2 with ss:=gJ (gJ<|gJ t.ss)++[(jY F c t (gN t.ss) (gN<|gJ t.ss)<|gN<|gJ<|gJ t.ss).1,(jY F c t (gN t.ss) (gN<|gJ t.ss)<|gN<|gJ<|gJ t.ss).2.1]}
 else{t with ss:=gJ (gJ t.ss)++[Bn a (gN<|gJ t.ss)<|gN t.ss]}
structure ab6(ls:List (Nat×Int))(g:Int)(e:Gz):Prop where
 I4:0<=e.jO
 I5:e.jO<=g
 yC:iE e.s
 ly:gP e.ly
 iw:(e.ls.length:Int)<=ls.length+e.jO
def rR(F:oF):Prop:=∀s a x y g k,iE s->x<8->y<8->gP k->0<=g->g<=100000->(a.length:Int)+g<=1000000->ab6 a g (F s a x y g k)
def xj(F:oF)(d:Int):Prop:=∀(E:jT),E.Ok->∀(s:St) (b:È) (a:List (Nat×Int)) (x y:Nat) (g k:Int) (w:Ç),jz E.lb E.T E.tl s b w->w.ownsRow 0 257 2 b a.length (lQ a)->jK w->iE s->x<8->y<8->0<=g->g<=100000->gP k->(a.length:Int)+g<=1000000->
 Ô À 173 #[Å<|Ã ⟨E.lb,0,Ä⟩,Â Ë x,Â Ë y,Â Æ g,Â Æ k,Â Ë d] w λe c=>
  e=É (ė #[Â Æ (F s a x y g k).jO,Ò (F s a x y g k).lk,Â Æ (F s a x y g k).ly])/\∃f,jl E b a.length w (F s a x y g k).s (F s a x y g k).ls c f
section
variable{E:jT}{rb:Nat}{c:RC}{sv lv:È}{ss:List Int}{s b:St}{ls a:List (Nat×Int)}{q p:Int}
def R.Bp(ok:E.Ok)(d:R E rb c sv lv ss s ls w)(r:jl E lv ls.length w b a u v):R E rb c sv v ss b a u/\Tr E rb sv lv ls.length w sv v a.length u:=by
 have i:∀{j:Nat} {k:Array È} {T:ú},w.heap[j]?=Ã (Ð k T (0,0))->T≠E.T->T≠257->¬(j=E.lb\/lv.ownBlock=Ã j):=λ{j k T} f h1 h2=>by
  rintro(e|e)
  .have g:=d.gI;rw[e,g]at f;cases f;exact h1 U
  .let⟨m,g⟩:=nS d.jv e;rw[f]at g;cases g;exact h2 U
 refine⟨⟨d.fq.fi r.fi<|i d.fq ok.Ms.symm A,je d.oE r.fi λj f=> ?_,r.gI,r.jv⟩,r.fi.ft λh _ q=>q.elim Û λq=>Ü<|Ü<|Ü q,λj q=>Û q,r.l,r.ja⟩;let⟨m,g⟩:=nS d.oE f;exact i g ok.QG.symm A
def anG(ok:E.Ok)(a:R E rb c sv lv ss s ls w)(b:c.d=4): Ô À 210 #[Å<|Ã ⟨rb,0,Ä⟩,Â Æ q,Â Æ p,Â Æ h] w λe u=>e=É (é #[Â Æ 0,Â Æ 0])/\u=w:=by
 have e:w.cell? ⟨rb,4,Ä⟩=Ã (Â Ë 4):=by have:=a.fq.fg 4 (Â Ë c.d) U;rwa[b]at this
 go_enter aI,af;go_wp2_with fail;go_ret2;exact⟨U,U⟩
end
section
variable{E:jT}{c:RC}{w':Ç}{s f:St}{a l:List (Nat×Int)}{q p:Int}{F:oF}
def anH(E:jT)(n:Nat)(c:RC)(jQ x:È)(zQ:List Int)(a:List (Nat×Int))(w W:Ç)(r:Gz)(w':Ç):Prop:=
 ∃z,jl E x a.length W r.s r.ls w' z/\R E n c jQ z zQ r.s r.ls w'/\Tr E n jQ x a.length w jQ z r.ls.length w'
def anI(p g:Int):(if g<p then g else p)=min p g:=by rw[Int.min_def];split<;>split<;>omega
def Mw(a:0<=h)(b:h<9223372036854775808):Ë.wrap h=h:=by have e:h%(2^64:Int)=h:=Int.emod_eq_of_lt a Z;show(if(Ë.signed&&decide (h%(2^64:Int)≥(2^63:Int)))=Ý then h%(2^64:Int)-2^64 else h%(2^64:Int))=h;rw[e,if_neg];simp;omega
def anJ{q:Int}(h:gP q):Ë.wrap (q.tmod 8)=((q%8).toNat:Int):=by
 have a:=h.1;rw[Int.tmod_eq_emod_of_nonneg a];have:Ë.wrap (q%8)=q%8:=by exact Mw Z Z
 rw[this];omega
def anK(a:0<=h)(b:h<4):Ë.wrap (h+1)=h+1:=by exact Mw Z Z
def zI(ok:E.Ok)(b:R E n c jQ x zQ s a w)(j:0<=c.d)(k:c.d<4)(hF:xj F (c.d+1))(l:jK w)(m:iE s)(o:c.y<8)(i:gP q)(t:gP p)(u:gP h)(C:0<=c.g)(D:c.g<=100000)(G:(a.length:Int)+c.g<=1000000)(W:Ç)(kW:ff (λ_=>False) w W): Ô À 173 #[Å<|Ã ⟨E.lb,0,Ä⟩,Â Ë c.y,Â Ë<|Ë.wrap<|q.tmod 8,Â Æ<|min p c.g,Â Æ h,Â Ë<|Ë.wrap<|c.d+1] W λe w'=>
  e=É (ė #[Â Æ (F s a c.y (q%8).toNat (min p c.g) h).jO,Ò (F s a c.y (q%8).toNat (min p c.g) h).lk,Â Æ (F s a c.y (q%8).toNat (min p c.g) h).ly])/\anH E n c jQ x zQ a w W (F s a c.y (q%8).toNat (min p c.g) h) w':=by
 have f:=b.gu kW;rw[anJ i,anK j k];have H:=t.1;have I:=i.1;refine(hF E ok s x a c.y (q%8).toNat (min p c.g) h W f.gI f.jv (l.fi kW id) m o Z Z Z u Z).mono ?_;rintro e w' ⟨rfl,z,r⟩;let⟨v,B⟩:=f.Bp ok r;exact⟨U,z,r,v,(Tr.gu kW).fl B⟩
def anL{b:List È}(h:R E n c jQ x zQ s a w)(r:jl E x i (đ<|Č w<|Ð b.toArray T) f l u z):fw w.heap.size b T u:=by
 refine fw.fi (w:=đ<|Č w<|Ð b.toArray T) (fw.fN w b T) r.fi ?_;rintro(e|e)
 .have:=fw.lt h.gI;omega
 .have:=(h.jv.lt _ e).2;omega
def Wy{f:List È}{lH:È}(ok:E.Ok)(d:R E n c jQ x zQ s a u)(t:Tr E n lH z b w jQ x k u)(m:w.heap.size<=j)(e:fw j f 252 u)(i:Nat)(v:È): R E n c jQ x zQ s a (u.setCell ⟨j,i,Ä⟩ v)/\Tr E n lH z b w jQ x k (u.setCell ⟨j,i,Ä⟩ v)/\fw j (f.set i v) 252 (u.setCell ⟨j,i,Ä⟩ v):=by have g:ff (λh=>h=j) u (u.setCell ⟨j,i,Ä⟩ v):=ff.iB (X:=λh=>h=j) (p:=⟨j,i,Ä⟩) U v<|Ü e.nf;refine⟨d.anh ok e g,t.Gx g (λi q=>by omega) λi o q l=> ?_,e.gS i v⟩;unfold fw at e;rw[q,e]at l;cases l
def anM(ok:E.Ok)(f:R E n c jQ x zQ s a w)(qt:0<=c.d)(hd:c.d<4)(hF:xj F (c.d+1))(hI:rR F)(hr:jK w)(P:iE s)(hx:c.x<8)(hy:c.y<8)(Q:gP q)(T:gP p)(hk:gP h)(vx:0<=c.g)(we:c.g<=100000)(hlen:(a.length:Int)+c.g<=1000000): Ô À 210 #[Å<|Ã ⟨n,0,Ä⟩,Â Æ q,Â Æ p,Â Æ h] w λe w'=>e=É (é #[Â Æ (F s a c.y (q%8).toNat (min p c.g) h).ly,Â Æ<|Bm (F s a c.y (q%8).toNat (min p c.g) h).lk])/\mL E n jQ x a.length w {c with g:=c.g-(F s a c.y (q%8).toNat (min p c.g) h).jO} zQ (F s a c.y (q%8).toNat (min p c.g) h).s (F s a c.y (q%8).toNat (min p c.g) h).ls w':=by
 have c0:w.cell? ⟨n,0,Ä⟩=Ã (Å<|Ã ⟨E.lb,0,Ä⟩):=f.fq.fg 0 _ U;have c2:w.cell? ⟨n,2,Ä⟩=Ã (Â Ë c.y):=f.fq.fg 2 _ U;have c4:w.cell? ⟨n,4,Ä⟩=Ã (Â Ë c.d):=f.fq.fg 4 _ U;have c5:w.cell? ⟨n,5,Ä⟩=Ã (Â Æ c.g):=f.fq.fg 5 _ U;have iy:=f.fq.lt;have PW:=fw.lt f.gI;have hq0:=Q.1;have xf:=Q.2;have Wz:=T.1;have hp1:=T.2;have call:=zI ok f qt hd hF hr P hy Q T hk vx we hlen;have V:=hI s a c.y (q%8).toNat (min p c.g) h P hy Z hk Z Z Z;have M:=V.I4;have N:=V.I5;clear V;generalize F s a c.y (q%8).toNat (min p c.g) h=r at*;have H:=fp<|Á f<|Á call<|Á M N;have WA:(c.d==4)=Ï:=by rw[beq_eq_false_iff_ne];omega
 clear f hr P hlen call M N;go_enter aI,af;go_wp2_with fail;have k:=fp<|Á ((H.out.1.gu<|ff.gi _ _).fq.fg 0 _ rfl)<|Á ((H.out.1.gu<|ff.gi _ _).fq.fg 2 _ rfl)<|Á ((H.out.1.gu<|ff.gi _ _).fq.fg 4 _ rfl)<|(H.out.1.gu<|ff.gi _ _).fq.fg 5 _ rfl;refine oG (λw'=>w'.cell? ⟨n,0,Ä⟩=Ã (Å<|Ã ⟨E.lb,0,Ä⟩)/\w'.cell? ⟨n,2,Ä⟩=Ã (Â Ë c.y)/\w'.cell? ⟨n,4,Ä⟩=Ã (Â Ë c.d)/\w'.cell? ⟨n,5,Ä⟩=Ã (Â Æ c.g)) [25] fF ?_;refine tk 0 k.out ?_;refine tk 1 k.out ?_;refine tk 2 k.out ?_;refine tk 3 k.out ?_;refine tk 4 k.out ?_;refine tk 5 k.out ?_;refine tk 6 k.out ?_;refine tk 7 k.out ?_;refine tk 8 k.out ?_;refine tk 9 k.out ?_;refine tk 10 k.out ?_;refine tk 11 k.out ?_;refine tk 12 k.out ?_;refine tk 13 k.out ?_;refine tk 14 k.out ?_;refine tk 15 k.out ?_;refine Mv (i:=16) (oi:={dst:=Ã 32,op:=aW {callee:=Go.Callee.builtin bL,args:=#[ó 27,ó 31],argTypes:=#[36,36]},type:=36,pos:= "run.go:186",after:=#[{on:=11,ground:=ô},{on:=15,ground:=ô}],guard:=Ä}) (v:=Â Æ<|min p c.g) U fF fF fF fF (λ_ _ _ f=>f) k.out (Û ⟨gG,?anN⟩) ?avC
 case anN=>(intro w hSw;let⟨q0,q2,q4,q5⟩:=hSw;go_simp<;>rw[anI])
 refine tk 17 k.out ?_;refine tk 18 k.out ?_;refine tk 19 k.out ?_;refine tk 20 k.out ?_;refine tk 21 k.out ?_;refine tk 22 k.out ?_;refine anE (i:=23) (j:=24) (oi:={dst:=Ã 39,op:=aW {callee:=Go.Callee.value<|bG 173,args:=#[ó 19,ó 23,ó 26,ó 32,ó 33,ó 38],argTypes:=#[267,3,3,36,36,3]},type:=252,pos:= "run.go:186",after:=#[{on:=3,ground:=ô},{on:=7,ground:=ô},{on:=10,ground:=ô},{on:=16,ground:=ô},{on:=17,ground:=ô},{on:=22,ground:=ô}],guard:=Ä}) (oj:={dst:=Ã 10,op:=bH 252,type:=0,pos:= "run.go:186",after:=#[],guard:=Ä}) fF U U ?_ ?_
 .intro K l;go_simp;go_at_call 173;refine(H.out.2.1 _ kp).mono ?_;rintro e z ⟨rfl,CN,O,o,D⟩;dsimp only;refine l.out _ _ (λ_=>⟨o.fq.fg 0 _ U,o.fq.fg 2 _ U,o.fq.fg 4 _ U,o.fq.fg 5 _ U⟩) ?_;clear l K;have G:=o.gu (ff.gT (λ_=>False) z #[Â Æ 0,Ò Ï,Â Æ 0] 252);refine iu 24 ?_;intro K l;go_simp;refine l.out _ _ (λ_=>⟨G.fq.fg 0 _ U,G.fq.fg 2 _ U,G.fq.fg 4 _ U,G.fq.fg 5 _ U⟩) ?_;clear l K;refine iu 25 ?_;intro K l;go_simp;refine l.out _ _ (λq=>absurd fB q) ?_;clear l K;try simp only[ł,Õ,æ,ç]
  refine om fF ?_ _;have X:=ff.gT (λ_=>False) z #[Â Æ r.jO,Ò r.lk,Â Æ r.ly] 252;have t:=o.gu X;have I:=D.fl<|Tr.gu X;have m:fw z.heap.size [Â Æ r.jO,Ò r.lk,Â Æ r.ly] 252 _:=fw.fN z _ 252;generalize Č z (Ð #[Â Æ r.jO,Ò r.lk,Â Æ r.ly] 252)=W at*;generalize z.heap.size=b at*;clear G X o D O;have v0:=m.fg 0 _ U;have Y:=m.fg 1 _ U;have v2:=m.fg 2 _ U;have z5:W.cell? ⟨n,5,Ä⟩=Ã (Â Æ c.g):=t.fq.fg 5 _ U;have y5:=t.fq.fC 5;have zl:=t.fq.lt;have zb:=m.lt;have M:=H.out.2.2.1;have N:=H.out.2.2.2;have J:=fw.fX t.fq m A;have y1:=(Ml (w:=W) (i:=5) (u:=Â Æ<|c.g-r.jO) J).trans Y;have y2:=(Ml (w:=W) (i:=5) (u:=Â Æ<|c.g-r.jO) J).trans v2;have C:=fp<|Á t I;clear t I m k;go_wp2_with fail;go_region;go_wp2_with fail;have k:=fp<|Á y1 y2;refine oG (λw'=>w'.cell? ⟨b,1,Ä⟩=Ã (Ò r.lk)/\w'.cell? ⟨b,2,Ä⟩=Ã (Â Æ r.ly)) [] fF ?_;refine tk 0 k.out ?_;refine tk 1 k.out ?_;refine tk 2 k.out ?_;refine tk 3 k.out ?_;refine tk 4 k.out ?_;refine iu 5 ?_;intro K l;go_simp;go_at_call 159;refine(Mr _ _).mono ?_;rintro e w2 ⟨rfl,uH⟩;subst w2;dsimp only;refine l.out _ _ (λ_=>k.out) ?_;clear l K;refine iu 6 ?_;intro K l;go_simp;refine l.out _ _ (λ_=>k.out) ?_;clear l K;refine iu 7 ?_;intro K l;go_simp;refine l.out _ _ (λ_=>k.out) ?_;clear l K;try simp only[ł,Õ,æ,ç]
  refine om fF ?_ _;go_wp2_with fail;go_ret2;let⟨n1,n2⟩:=C.out.1.I2 ok 5 (v:=Â Æ<|c.g-r.jO) (c':={c with g:=c.g-r.jO}) (lH:=jQ) (ss':=zQ) U C.out.1.oE λ_ q=>q;have L:=(ff.gi (λ_=>False)<|W.setCell ⟨n,5,Ä⟩<|Â Æ<|c.g-r.jO).fl (ff.gi (λ_=>False) _);exact⟨U,_,_,n1.gu L,(C.out.2.fl n2).fl<|Tr.gu L⟩
 .intro K l;go_simp;refine l.out _ _ (λ_=>⟨(H.out.1.gu<|((ff.gi _ _).fl<|ff.gT _ _ _ _)).fq.fg 0 _ U,(H.out.1.gu<|((ff.gi _ _).fl<|ff.gT _ _ _ _)).fq.fg 2 _ U,(H.out.1.gu<|((ff.gi _ _).fl<|ff.gT _ _ _ _)).fq.fg 4 _ U,(H.out.1.gu<|((ff.gi _ _).fl<|ff.gT _ _ _ _)).fq.fg 5 _ U⟩) ?_;clear l K;refine iu 23 ?_;intro K l;go_simp;go_at_call 173;refine(H.out.2.1 (đ<|Č w<|Ð #[Â Æ 0,Ò Ï,Â Æ 0] 252) kp).mono ?_;rintro e z ⟨rfl,CN,O,o,D⟩;dsimp only;refine l.out _ _ (λ_=>⟨o.fq.fg 0 _ U,o.fq.fg 2 _ U,o.fq.fg 4 _ U,o.fq.fg 5 _ U⟩) ?_;clear l K;have B:=anL H.out.1 O;have k0:=B.fg 0 _ U;have k1:=B.fg 1 _ U;have k2:=B.fg 2 _ U;have f0:=B.fC 0;have f1:=B.fC 1;have f2:=B.fC 2;refine iu 25 ?_;intro K l;go_simp;refine l.out _ _ (λq=>absurd fB q) ?_;clear l K;try simp only[ł,Õ,æ,ç]
  refine om fF ?_ _;let⟨a1,a2,a3⟩:=Wy ok o D (ß _) B 0<|Â Æ r.jO;let⟨b1,b2,b3⟩:=Wy ok a1 a2 (ß _) a3 1<|Ò r.lk;let⟨t,I,m⟩:=Wy ok b1 b2 (ß _) b3 2<|Â Æ r.ly;generalize Ď (Ď (Ď z ⟨w.heap.size,0,Ä⟩<|Â Æ r.jO) ⟨w.heap.size,1,Ä⟩<|Ò r.lk) ⟨w.heap.size,2,Ä⟩ (Â Æ r.ly)=W at*;replace m:fw w.heap.size [Â Æ r.jO,Ò r.lk,Â Æ r.ly] 252 W:=m;clear a1 a2 a3 b1 b2 b3 B k0 k1 k2 f0 f1 f2 o D O;have v0:=m.fg 0 _ U;have Y:=m.fg 1 _ U;have v2:=m.fg 2 _ U;have z5:W.cell? ⟨n,5,Ä⟩=Ã (Â Æ c.g):=t.fq.fg 5 _ U;have y5:=t.fq.fC 5;have zl:=t.fq.lt;have zb:=m.lt;have M:=H.out.2.2.1;have N:=H.out.2.2.2;have J:=fw.fX t.fq m A;have y1:=(Ml (w:=W) (i:=5) (u:=Â Æ<|c.g-r.jO) J).trans Y;have y2:=(Ml (w:=W) (i:=5) (u:=Â Æ<|c.g-r.jO) J).trans v2;have C:=fp<|Á t I;clear t I m k;go_wp2_with fail;go_region;go_wp2_with fail;have k:=fp<|Á y1 y2;refine oG (λw'=>w'.cell? ⟨w.heap.size,1,Ä⟩=Ã (Ò r.lk)/\w'.cell? ⟨w.heap.size,2,Ä⟩=Ã (Â Æ r.ly)) [] fF ?_;refine tk 0 k.out ?_;refine tk 1 k.out ?_;refine tk 2 k.out ?_;refine tk 3 k.out ?_;refine tk 4 k.out ?_;refine iu 5 ?_;intro K l;go_simp;go_at_call 159;refine(Mr _ _).mono ?_;rintro e w2 ⟨rfl,uH⟩;subst w2;dsimp only;refine l.out _ _ (λ_=>k.out) ?_;clear l K;refine iu 6 ?_;intro K l;go_simp;refine l.out _ _ (λ_=>k.out) ?_;clear l K;refine iu 7 ?_;intro K l;go_simp;refine l.out _ _ (λ_=>k.out) ?_;clear l K;try simp only[ł,Õ,æ,ç]
  refine om fF ?_ _;go_wp2_with fail;go_ret2;let⟨n1,n2⟩:=C.out.1.I2 ok 5 (v:=Â Æ<|c.g-r.jO) (c':={c with g:=c.g-r.jO}) (lH:=jQ) (ss':=zQ) U C.out.1.oE λ_ q=>q;have L:=(ff.gi (λ_=>False)<|W.setCell ⟨n,5,Ä⟩<|Â Æ<|c.g-r.jO).fl (ff.gi (λ_=>False) _);exact⟨U,_,_,n1.gu L,(C.out.2.fl n2).fl<|Tr.gu L⟩
end
section
variable{E:jT}{rb:Nat}{c:RC}{sv lv:È}{s i:St}{f j:List (Nat×Int)}{q p:Int}{F:oF}
def rS(c:RC)(g:Int):RC:={c with g:=g}
def anO(ok:E.Ok)(a:R E rb c sv lv zQ s f w)(i:0<=c.d)(G:c.d<=4)(hF:c.d<4->xj F (c.d+1))(j:rR F)(k:jK w)(l:iE s)(m:c.x<8)(n:c.y<8)(o:gP q)(r:gP p)(v:gP h)(z:0<=c.g)(B:c.g<=100000)(C:(f.length:Int)+c.g<=1000000)(t:RT)(D:t=(jY F c ⟨zQ,s,f,c.g⟩ q p h).2.2): Ô À 210 #[Å<|Ã ⟨rb,0,Ä⟩,Â Æ q,Â Æ p,Â Æ h] w λe u=>e=É (é #[Â Æ (jY F c ⟨zQ,s,f,c.g⟩ q p h).1,Â Æ (jY F c ⟨zQ,s,f,c.g⟩ q p h).2.1])/\mL E rb sv lv f.length w (rS c t.g) zQ t.s t.ls u:=by
 subst D;by_cases b:c.d=4
 .have e:jY F c ⟨zQ,s,f,c.g⟩ q p h=(0,0,⟨zQ,s,f,c.g⟩):=by unfold jY;rw[if_pos b]
  rw[e];refine(anG ok a b).mono ?_;rintro e u ⟨rfl,rfl⟩;exact⟨U,a.lr⟩
 .have e:jY F c ⟨zQ,s,f,c.g⟩ q p h=((F s f c.y (q%8).toNat (min p c.g) h).ly,Bm (F s f c.y (q%8).toNat (min p c.g) h).lk,⟨zQ,(F s f c.y (q%8).toNat (min p c.g) h).s,(F s f c.y (q%8).toNat (min p c.g) h).ls,c.g-(F s f c.y (q%8).toNat (min p c.g) h).jO⟩):=by unfold jY;rw[if_neg b]
  rw[e];exact anM ok a i Z (hF Z) j k l m n o r v z B C
def anP(ok:E.Ok)(i:R E rb c sv lv (((zQ++[h])++[p])++[q]) s f w)(hn:zQ.length<=800)(o:0<=c.d)(r:c.d<=4)(hF:c.d<4->xj F (c.d+1))(v:rR F)(z:jK w)(B:iE s)(C:c.x<8)(D:c.y<8)(G:gP q)(I:gP p)(J:gP h)(K:0<=c.g)(L:c.g<=100000)(M:(f.length:Int)+c.g<=1000000)(t:RT)(N:t=(jY F c ⟨zQ,s,f,c.g⟩ q p h).2.2)(a b:Int)(j:a=(jY F c ⟨zQ,s,f,c.g⟩ q p h).1)(k:b=(jY F c ⟨zQ,s,f,c.g⟩ q p h).2.1): Ô À 205 #[Å<|Ã ⟨rb,0,Ä⟩,Â Ë 20] w λe u=>e=É (é #[])/\mL E rb sv lv f.length w (rS c t.g) (zQ++[a,b]) t.s t.ls u:=by have c0:=i.fq.fg 0 _ U;have c2:=i.fq.fg 2 _ U;have iy:=i.fq.lt;have PW:=fw.lt i.gI;have H:=fp<|Á i<|Á z<|Á hF v;go_enter í,è;go_wp2_with fail;go_quiet (fail);go_wp2_with fail;have O:=Tr.gu (E:=E) (rb:=rb) (sv:=sv) (lv:=lv) (n:=f.length) (ff.iA (λ_=>False) w nq);have P:=H.out.1.gu (ff.iA (λ_=>False) w nq);go_at_call 204;refine(pY ok P (by first|omega|(simp;omega))).mono ?_;rintro e w1 ⟨rfl,sv1,Q,T⟩;go_wp2_with fail;go_at_call 204;refine(pY ok Q (by first|omega|(simp;omega))).mono ?_;rintro e w2 ⟨rfl,I3,V,W⟩;go_wp2_with fail;go_at_call 204;refine(pY ok V (by first|omega|(simp;omega))).mono ?_;rintro e w3 ⟨rfl,QI,X,Y⟩;have l:=((O.fl T).fl W).fl Y;go_wp2_with fail;go_at_call 210;refine(anO ok X o r H.out.2.2.1 H.out.2.2.2 (H.out.2.1.tr ok H.out.1 l) B C D G I J K L M t N).mono ?_;rintro e w4 ⟨rfl,sv4,lv4,h4,t4⟩;rw[<-j,<-k];go_wp2_with fail;go_at_call 203;refine(Wx ok h4 (by first|omega|(simp;omega)) _ _).mono ?_;rintro e w5 ⟨rfl,sv5,m,t5⟩;go_wp2_with fail;go_end0;rw[<-j,<-k]at m;exact⟨U,_,_,m,(l.fl t4).fl t5⟩
end
def uR(h:∀p∈zQ,gP p):gP (gN zQ):=by
 by_cases a:0<zQ.length
 .apply h _;rw[ab1 zQ a];simp[gN]
 .have:zQ=[]:=á Z;subst this;exact⟨A,A⟩
def qU(h:∀p∈zQ,gP p):∀p∈gJ zQ,gP p:=λp a=>h p<|List.dropLast_subset zQ a
def rT(l:List Int):(gJ l).length=l.length-1:=by simp[gJ]
def Br(h:0<zQ.length):gJ zQ++[gN zQ]=zQ:=(ab1 zQ h).symm
def anQ(F:oF)(c:RC)(l b:List Int)(s:St)(a:List (Nat×Int))(g q p k:Int): (jY F c ⟨l,s,a,g⟩ q p k).1=(jY F c ⟨b,s,a,g⟩ q p k).1/\(jY F c ⟨l,s,a,g⟩ q p k).2.1=(jY F c ⟨b,s,a,g⟩ q p k).2.1/\(jY F c ⟨l,s,a,g⟩ q p k).2.2.s=(jY F c ⟨b,s,a,g⟩ q p k).2.2.s/\ (jY F c ⟨l,s,a,g⟩ q p k).2.2.ls=(jY F c ⟨b,s,a,g⟩ q p k).2.2.ls/\(jY F c ⟨l,s,a,g⟩ q p k).2.2.g=(jY F c ⟨b,s,a,g⟩ q p k).2.2.g:=by unfold jY;split<;>exact⟨U,U,U,U,U⟩
section
variable{E:jT}{rb:Nat}{c:RC}{sv lv:È}{s:St}{f:List (Nat×Int)}{F:oF}
def anR(ok:E.Ok)(h:R E rb c sv lv zQ s f w)(hn:zQ.length<=700)(C:0<=c.d)(D:c.d<=4)(hF:c.d<4->xj F (c.d+1))(G:rR F)(H:jK w)(v:iE s)(z:c.x<8)(a:c.y<8)(r:∀p∈zQ,gP p)(I:0<=c.g)(J:c.g<=100000)(K:(f.length:Int)+c.g<=1000000) (k:Nat) (vu:2<=k) (vq:k<=20) (ab7:k≠17) (L B M:Int) (b:jN[k]?=Ã (L,B,M)) (GA:B<=zQ.length) (t:RT) (N:t=uQ F c k ⟨zQ,s,f,c.g⟩): Ô À 205 #[Å<|Ã ⟨rb,0,Ä⟩,Â Ë k] w λe i=>e=É (é #[])/\mL E rb sv lv f.length w (rS c t.g) t.ss t.s t.ls i:=by
 subst N;have i:=uR r;have u:=uR<|qU r;have O:=uR<|qU<|qU r;have j:1<=zQ.length->R E rb c sv lv (gJ zQ++[gN zQ]) s f w:=λq=>by rwa[Br Z]
 have l:2<=zQ.length->R E rb c sv lv ((gJ (gJ zQ)++[gN<|gJ zQ])++[gN zQ]) s f w:=λq=>by rw[Br (by rw[rT];omega),Br Z];exact h
 have P:3<=zQ.length->R E rb c sv lv (((gJ (gJ<|gJ zQ)++[gN<|gJ<|gJ zQ])++[gN<|gJ zQ])++[gN zQ]) s f w:=λq=>by rw[Br (by rw[rT,rT];omega),Br (by rw[rT];omega),Br Z];exact h
 have m:zQ.length<=800:=Z
 have n:(gJ zQ).length<=800:=by rw[rT];omega
 have o:(gJ<|gJ zQ).length<=800:=by rw[rT];omega
 have Q:(gJ<|gJ<|gJ zQ).length<=800:=by rw[rT];omega
 have cases:(k=2\/k=3\/k=4\/k=5\/k=6\/k=7)\/k=8\/k=9\/k=10\/k=11\/k=12\/k=13\/k=14\/k=15\/k=16\/k=18\/k=19\/k=20:=Z
 rcases cases with hq|rfl|rfl|rfl|rfl|rfl|rfl|rfl|rfl|rfl|rfl|rfl|rfl
 .have T:2<=zQ.length:=by
   rcases hq with rfl|rfl|rfl|rfl|rfl|rfl<;>(simp[jN]at b;omega)
  have e:uQ F c k ⟨zQ,s,f,c.g⟩=⟨gJ (gJ zQ)++[Bn k (gN<|gJ zQ)<|gN zQ],s,f,c.g⟩:=by rcases hq with rfl|rfl|rfl|rfl|rfl|rfl<;>rfl
  rw[e];exact anw ok (l T) o a u i Z Z
 .exact ank ok (j<|by simp[jN]at b;omega) n a
 .exact anl ok (l<|by simp[jN]at b;omega) o a
 .exact anm ok (j<|by simp[jN]at b;omega) n a
 .exact ano ok h m a
 .exact anp ok h m a z
 .exact anq ok h m a
 .exact anr ok h m a
 .exact ant ok (j<|by simp[jN]at b;omega) n a i
 .exact anu ok (l<|by simp[jN]at b;omega) o a i
 .exact anv ok (l<|by simp[jN]at b;omega) o a u i v
 .exact anF ok (j<|by simp[jN]at b;omega) n a Z
 .let⟨T,V,W,X,Y⟩:=anQ F c zQ (gJ<|gJ<|gJ zQ) s f c.g (gN zQ) (gN<|gJ zQ)<|gN<|gJ<|gJ zQ;have e:uQ F c 20 ⟨zQ,s,f,c.g⟩=⟨gJ (gJ<|gJ zQ)++[(jY F c ⟨zQ,s,f,c.g⟩ (gN zQ) (gN<|gJ zQ)<|gN<|gJ<|gJ zQ).1,(jY F c ⟨zQ,s,f,c.g⟩ (gN zQ) (gN<|gJ zQ)<|gN<|gJ<|gJ zQ).2.1],(jY F c ⟨zQ,s,f,c.g⟩ (gN zQ) (gN<|gJ zQ)<|gN<|gJ<|gJ zQ).2.2.s,(jY F c ⟨zQ,s,f,c.g⟩ (gN zQ) (gN<|gJ zQ)<|gN<|gJ<|gJ zQ).2.2.ls,(jY F c ⟨zQ,s,f,c.g⟩ (gN zQ) (gN<|gJ zQ)<|gN<|gJ<|gJ zQ).2.2.g⟩:=U;rw[e,T,V,W,X,Y];exact anP ok (P<|by simp[jN]at b;omega) Q C D hF G H v z a i u O I J K _ U _ _ U U
end
def tS(c:Int)(w:Ç):Ô À 103 #[Â bx c] w λe a=>e=É (Â Ë<|nT c)/\a=w:=by
 go_enter Tryz.func103,Tryz.ntmps103;go_wp2;all_goals go_ret
 all_goals refine⟨I1 ?_,U⟩
 all_goals simp only[beq_iff_eq,beq_eq_false_iff_ne,ne_eq]at*
 all_goals(try subst c)
 all_goals first|rfl|(unfold nT;simp[*];done)|(unfold nT;rw[if_neg Z];simp[*])
def mC:Ş->Option Ş
 |ã c=>Ã c
 |.seq a b=>match mC a with
  |some c=>Ã c
  |none=>mC b
 |.block _ c=>mC c
 |.scope c=>mC c
 |.cond _ a b=>match mC a with
  |some c=>Ã c
  |none=>mC b
 |_=>Ä
noncomputable def yD:Ş:=(Tryz.f191.body.bind mC).getD Ń
def qB(a:Nat)(P:ByteArray)(b:Int)(u:Nat->È):ë:=⟨#[Å<|Ã ⟨a,0,Ä⟩,ĉ,Â Æ 0,Ò Ï,Í P,Â Æ P.size,Â Æ b,u 7,u 8,u 9,u 10,u 11,u 12,u 13,u 14,u 15,u 16,u 17,u 18,u 19,u 20,u 21,u 22,u 23,u 24,u 25,u 26,u 27,u 28,u 29,u 30,u 31,u 32,u 33,u 34,u 35,u 36,u 37,u 38,u 39,u 40,u 41,u 42,u 43,u 44,u 45,u 46,u 47,u 48,u 49,u 50,u 51,u 52,u 53,u 54,u 55,u 56,u 57,u 58,u 59,u 60,u 61,u 62,u 63,u 64,u 65,u 66,u 67,u 68,u 69,u 70,u 71,u 72,u 73,u 74,u 75,u 76,u 77,u 78,u 79,u 80],[]⟩
def GB(b:Nat)(P:ByteArray)(c:Int)(a:ë):Prop:=∃u,a=qB b P c u
def frE(a:Nat)(P:ByteArray)(v:Int)(b:Bool)(u:Nat->È):ë:=⟨#[Å<|Ã ⟨a,0,Ä⟩,ĉ,Â Æ v,Ò b,Í P,Â Æ P.size,u 6,u 7,u 8,u 9,u 10,u 11,u 12,u 13,u 14,u 15,u 16,u 17,u 18,u 19,u 20,u 21,u 22,u 23,u 24,u 25,u 26,u 27,u 28,u 29,u 30,u 31,u 32,u 33,u 34,u 35,u 36,u 37,u 38,u 39,u 40,u 41,u 42,u 43,u 44,u 45,u 46,u 47,u 48,u 49,u 50,u 51,u 52,u 53,u 54,u 55,u 56,u 57,u 58,u 59,u 60,u 61,u 62,u 63,u 64,u 65,u 66,u 67,u 68,u 69,u 70,u 71,u 72,u 73,u 74,u 75,u 76,u 77,u 78,u 79,u 80],[]⟩
def I6(c:Nat)(P:ByteArray)(v:Int)(b:Bool)(a:ë):Prop:=∃u,a=frE c P v b u
def QQ(X:ë->Ç->Prop):bu->ë->Ç->Prop
 |.exit 0,a,w=>X a w
 |_,_,_=>False
section
variable{X:ë->Ç->Prop}{E:jT}{c:RC}{s:St}{f:List (Nat×Int)}{F:oF}
def anS(ok:E.Ok)(u:Nat->È)(b:R E i c z x zQ s f w)(j:B.size<=40)(e:h=B.size) (g:∀a d,I6 i B 0 Ý a->mL E i z x f.length w c zQ s f d->X a d): Î À yD (Exit.then K<|QQ X) (qB i B h u) w:=by
 unfold qB;conv=>arg 2;whnf
 subst e;go_wp2_with fail;exact g _ _ (gL _) b.lr
def anT(ok:E.Ok)(u:Nat->È)(b:R E i c z x zQ s f w)(l:B.size<=40)(m:(B.size:Int)<h) (e:∀a d,I6 i B 0 Ï a->mL E i z x f.length w (rS c 0) zQ s f d->X a d): Î À yD (Exit.then K<|QQ X) (qB i B h u) w:=by
 unfold qB;conv=>arg 2;whnf
 have n:w.cell? ⟨i,5,Ä⟩=Ã (Â Æ c.g):=b.fq.fg 5 _ U;have o:=b.fq.fC 5;have p:(h==(B.size:Int))=Ï:=by rw[beq_eq_false_iff_ne];omega
 have H:=fp b;clear b;go_wp2_with fail;let⟨j,k⟩:=H.out.I2 ok 5 (v:=Â Æ 0) (c':=rS c 0) (lH:=z) (ss':=zQ) U H.out.oE λ_ q=>q;exact e _ _ (gL _) ⟨_,_,j,k⟩
def anU(ok:E.Ok)(u:Nat->È)(b:R E i c z x zQ s f w)(P:B.size<=40)(n:Nat)(G:h=n)(I:n<B.size)(y:jK w)(m o p:Int)(Q:zQ.length<=700)(J:0<=c.g)(T:c.g<=100000)(k:Nat)(C:nT ((B[n]'I).toNat:Int)=k)(r:jN[k]?=Ã (m,o,p))(D:nJ c.g zQ.length m o p=Ï) (L:∀a j,I6 i B 0 Ï a->mL E i z x f.length w (rS c 0) zQ s f j->X a j): Î À yD (Exit.then K<|QQ X) (qB i B h u) w:=by
 unfold qB;conv=>arg 2;whnf
 subst G;have V:((n:Int)==(B.size:Int))=Ï:=by rw[beq_eq_false_iff_ne];omega
 have W:decide ((B.size:Int)<(n:Int))=Ï:=decide_eq_false Z;have Y:(0:Int)<=(n:Int):=Z
 have yz:(n:Int)<(B.size:Int):=Z
 have d:=Gy E ok i c z x zQ s f w b y k m o p r Z J Z;rw[D]at d;have H:=fp<|Á b<|Á d<|Á r C;clear b d y r D C;go_wp2_with (go_at_call 103;refine(tS _ _).mono ?_;rintro e j ⟨rfl,l⟩;subst j;rw[H.out.2.2.2]);go_at_call 202;apply H.out.2.1.mono;rintro e M ⟨rfl,l,F⟩;have k5:M.cell? ⟨i,5,Ä⟩=Ã (Â Æ c.g):=l.fq.fg 5 _ U;have g5:=l.fq.fC 5;have t:=fp<|Á l F;clear l F;go_wp2_with fail;let⟨N,O⟩:=R.I2 ok t.out.1 5 (v:=Â Æ 0) (c':=rS c 0) (lH:=z) (ss':=zQ) U t.out.1.oE λ_ q=>q;exact L _ _ (gL _) ⟨_,_,N,t.out.2.fl O⟩
def anV(ok:E.Ok)(u:Nat->È)(b:R E i c z x zQ s f w)(J:B.size<=40)(n:Nat)(C:h=n)(D:n<B.size)(q:jK w)(k l m:Int)(L:zQ.length<=700)(F:0<=c.g)(M:c.g<=100000)(r:nT ((B[n]'D).toNat:Int)=22)(o:jN[(22:Nat)]?=Ã (k,l,m))(t:nJ c.g zQ.length k l m=Ý) (G:∀a j,I6 i B 0 Ï a->mL E i z x f.length w (rS c<|c.g-k) zQ s f j->X a j): Î À yD (Exit.then K<|QQ X) (qB i B h u) w:=by
 unfold qB;conv=>arg 2;whnf
 subst C;have N:((n:Int)==(B.size:Int))=Ï:=by rw[beq_eq_false_iff_ne];omega
 have O:decide ((B.size:Int)<(n:Int))=Ï:=decide_eq_false Z;have P:(0:Int)<=(n:Int):=Z
 have Q:(n:Int)<(B.size:Int):=Z
 have d:=Gy E ok i c z x zQ s f w b q 22 k l m o Z F Z;rw[t]at d;have H:=fp<|Á b<|Á d<|Á o r;clear b d q o t r;go_wp2_with (go_at_call 103;refine(tS _ _).mono ?_;rintro e j ⟨rfl,I⟩;subst j;rw[H.out.2.2.2]);go_at_call 202;apply H.out.2.1.mono;rintro e T ⟨rfl,p,v⟩;rw[if_pos U]at p;have y:=fp<|Á p v;clear p v;go_wp2_with (go_at_call 103;refine(tS _ _).mono ?_;rintro e j ⟨rfl,I⟩;subst j;rw[H.out.2.2.2]);exact G _ _ (gL _) ⟨_,_,y.out.1,y.out.2⟩
def anW(ok:E.Ok)(u:Nat->È)(b:R E i c z x zQ s f w)(P:B.size<=40)(n:Nat)(F:h=n)(G:n<B.size)(r:jK w)(k l m:Int)(I:zQ.length<=700)(J:0<=c.g)(Q:c.g<=100000)(p:Int)(t:List Int)(L:zQ=t++[p])(v:nT ((B[n]'G).toNat:Int)=21)(o:jN[(21:Nat)]?=Ã (k,l,m))(y:nJ c.g zQ.length k l m=Ý) (M:∀a j,I6 i B p Ý a->mL E i z x f.length w (rS c<|c.g-k) t s f j->X a j): Î À yD (Exit.then K<|QQ X) (qB i B h u) w:=by
 unfold qB;conv=>arg 2;whnf
 subst F;have T:((n:Int)==(B.size:Int))=Ï:=by rw[beq_eq_false_iff_ne];omega
 have V:decide ((B.size:Int)<(n:Int))=Ï:=decide_eq_false Z;have W:(0:Int)<=(n:Int):=Z
 have Y:(n:Int)<(B.size:Int):=Z
 have d:=Gy E ok i c z x zQ s f w b r 21 k l m o Z J Z;rw[y]at d;have H:=fp<|Á b<|Á d<|Á o v;clear b d r o y v;go_wp2_with (go_at_call 103;refine(tS _ _).mono ?_;rintro e j ⟨rfl,N⟩;subst j;rw[H.out.2.2.2]);go_at_call 202;apply H.out.2.1.mono;rintro e w1 ⟨rfl,q,C⟩;rw[if_pos U]at q;have D:=fp<|Á q C;clear q C;subst L;go_wp2_with (go_at_call 103;refine(tS _ _).mono ?_;rintro e j ⟨rfl,N⟩;subst j;rw[H.out.2.2.2]);go_at_call 204;refine(pY ok D.out.1<|by simp at I;omega).mono ?_;rintro e w2 ⟨rfl,I3,N,O⟩;go_wp2_with fail;exact M _ _ (gL _) ⟨_,_,N,D.out.2.fl O⟩
def anX(ok:E.Ok)(u:Nat->È)(b:R E i c z x zQ s f w)(L:B.size<=40)(n:Nat)(D:h=n)(k:n<B.size)(r:jK w)(l m o:Int)(M:zQ.length<=700)(F:0<=c.g)(N:c.g<=100000)(O:(48:Int)<=((B[n]'k).toNat:Int))(P:((B[n]'k).toNat:Int)<=57)(t:nT ((B[n]'k).toNat:Int)=1)(p:jN[(1:Nat)]?=Ã (l,m,o))(v:nJ c.g zQ.length l m o=Ý) (G:∀a j,GB i B ((n:Int)+1) a->mL E i z x f.length w (rS c<|c.g-l) (zQ++[((B[n]'k).toNat:Int)-48]) s f j->K a j): Î À yD (Exit.then K<|QQ X) (qB i B h u) w:=by
 unfold qB;conv=>arg 2;whnf
 subst D;have Q:((n:Int)==(B.size:Int))=Ï:=by rw[beq_eq_false_iff_ne];omega
 have T:decide ((B.size:Int)<(n:Int))=Ï:=decide_eq_false Z;have V:(0:Int)<=(n:Int):=Z
 have W:(n:Int)<(B.size:Int):=Z
 have d:=Gy E ok i c z x zQ s f w b r 1 l m o p Z F Z;rw[v]at d;have H:=fp<|Á b<|Á d<|Á p t;clear b d r p v t;go_wp2_with (go_at_call 103;refine(tS _ _).mono ?_;rintro e j ⟨rfl,I⟩;subst j;rw[H.out.2.2.2]);go_at_call 202;apply H.out.2.1.mono;rintro e Y ⟨rfl,q,y⟩;rw[if_pos U]at q;have C:=fp<|Á q y;clear q y;go_wp2_with (go_at_call 103;refine(tS _ _).mono ?_;rintro e j ⟨rfl,I⟩;subst j;rw[H.out.2.2.2]);go_at_call 203;refine(CW ok C.out.1 Z _).mono ?_;rintro e w2 ⟨rfl,I3,I,J⟩;go_wp2_with fail;exact G _ _ (gL _) ⟨_,_,I,C.out.2.fl J⟩
def anY(ok:E.Ok)(u:Nat->È)(b:R E i c z x zQ s f w)(Y:B.size<=40)(n:Nat)(M:h=n)(N:n<B.size)(t:jK w)(k l m:Int)(v:zQ.length<=700)(O:0<=c.g)(we:c.g<=100000)(p q:Int)(y:List Int)(P:zQ=(y++[p])++[q])(Q:¬p=0)(C:nT ((B[n]'N).toNat:Int)=17)(o:jN[(17:Nat)]?=Ã (k,l,m))(D:nJ c.g zQ.length k l m=Ý) (V:∀a j,GB i B q a->mL E i z x f.length w (rS c<|c.g-k) y s f j->K a j): Î À yD (Exit.then K<|QQ X) (qB i B h u) w:=by
 unfold qB;conv=>arg 2;whnf
 subst M;have e1:((n:Int)==(B.size:Int))=Ï:=by rw[beq_eq_false_iff_ne];omega
 have e2:decide ((B.size:Int)<(n:Int))=Ï:=decide_eq_false Z;have L9:(0:Int)<=(n:Int):=Z
 have yz:(n:Int)<(B.size:Int):=Z
 have d:=Gy E ok i c z x zQ s f w b t 17 k l m o Z O Z;rw[D]at d;have H:=fp<|Á b<|Á d<|Á o C;clear b d t o D C;go_wp2_with (go_at_call 103;refine(tS _ _).mono ?_;rintro e j ⟨rfl,I⟩;subst j;rw[H.out.2.2.2]);go_at_call 202;apply H.out.2.1.mono;rintro e w1 ⟨rfl,r,F⟩;rw[if_pos U]at r;have G:=fp<|Á r F;clear r F;subst P;have e3:(p !=0)=Ý:=by rwa[bne_iff_ne]
 go_wp2_with (go_at_call 103;refine(tS _ _).mono ?_;rintro e j ⟨rfl,I⟩;subst j;rw[H.out.2.2.2])
 go_at_call 204;refine(pY ok G.out.1<|by simp at v|-;omega).mono ?_;rintro e w2 ⟨rfl,I3,I,J⟩;go_wp2_with fail;go_at_call 204;refine(pY ok I<|by simp at v;omega).mono ?_;rintro e w3 ⟨rfl,QI,W,L⟩;have T:=(G.out.2.fl J).fl L;clear I J L;go_wp2_with fail;exact V _ _ (gL _) ⟨_,_,W,T⟩
def anZ(ok:E.Ok)(u:Nat->È)(b:R E i c z x zQ s f w)(Y:B.size<=40)(n:Nat)(M:h=n)(N:n<B.size)(t:jK w)(k l m:Int)(v:zQ.length<=700)(O:0<=c.g)(we:c.g<=100000)(p q:Int)(y:List Int)(P:zQ=(y++[p])++[q])(Q:p=0)(C:nT ((B[n]'N).toNat:Int)=17)(o:jN[(17:Nat)]?=Ã (k,l,m))(D:nJ c.g zQ.length k l m=Ý) (V:∀a j,GB i B ((n:Int)+1) a->mL E i z x f.length w (rS c<|c.g-k) y s f j->K a j): Î À yD (Exit.then K<|QQ X) (qB i B h u) w:=by
 unfold qB;conv=>arg 2;whnf
 subst M;have e1:((n:Int)==(B.size:Int))=Ï:=by rw[beq_eq_false_iff_ne];omega
 have e2:decide ((B.size:Int)<(n:Int))=Ï:=decide_eq_false Z;have L9:(0:Int)<=(n:Int):=Z
 have yz:(n:Int)<(B.size:Int):=Z
 have d:=Gy E ok i c z x zQ s f w b t 17 k l m o Z O Z;rw[D]at d;have H:=fp<|Á b<|Á d<|Á o C;clear b d t o D C;go_wp2_with (go_at_call 103;refine(tS _ _).mono ?_;rintro e j ⟨rfl,I⟩;subst j;rw[H.out.2.2.2]);go_at_call 202;apply H.out.2.1.mono;rintro e w1 ⟨rfl,r,F⟩;rw[if_pos U]at r;have G:=fp<|Á r F;clear r F;subst P;subst Q;go_wp2_with (go_at_call 103;refine(tS _ _).mono ?_;rintro e j ⟨rfl,I⟩;subst j;rw[H.out.2.2.2]);go_at_call 204;refine(pY ok G.out.1<|by simp at v|-;omega).mono ?_;rintro e w2 ⟨rfl,I3,I,J⟩;go_wp2_with fail;go_at_call 204;refine(pY ok I<|by simp at v;omega).mono ?_;rintro e w3 ⟨rfl,QI,W,L⟩;have T:=(G.out.2.fl J).fl L;clear I J L;go_wp2_with fail;exact V _ _ (gL _) ⟨_,_,W,T⟩
def an0(ok:E.Ok)(u:Nat->È)(b:R E i c z x zQ s f w)(hP:B.size<=40)(n:Nat)(Q:h=n)(T:n<B.size)(r:jK w)(l o q:Int)(V:zQ.length<=700)(W:0<=c.g)(we:c.g<=100000)(k:Nat)(Y:2<=k)(hk3:k<=20)(ab7:k≠17)(GA:o<=zQ.length)(qt:0<=c.d)(hd:c.d<=4)(hF:c.d<4->xj F (c.d+1))(I:rR F)(J:iE s)(hx:c.x<8)(hy:c.y<8)(L:∀p∈zQ,gP p)(hlen:(f.length:Int)+c.g<=1000000)(t:RT)(M:t=uQ F c k ⟨zQ,s,f,c.g-l⟩)(hco:0<=l)(QJ:l<=c.g)(N:nT ((B[n]'T).toNat:Int)=k)(v:jN[(k:Nat)]?=Ã (l,o,q))(O:nJ c.g zQ.length l o q=Ý) (hK:∀a m,GB i B ((n:Int)+1) a->mL E i z x f.length w (rS c t.g) t.ss t.s t.ls m->K a m): Î À yD (Exit.then K<|QQ X) (qB i B h u) w:=by
 unfold qB;conv=>arg 2;whnf
 subst Q;have e1:((n:Int)==(B.size:Int))=Ï:=by rw[beq_eq_false_iff_ne];omega
 have e2:decide ((B.size:Int)<(n:Int))=Ï:=decide_eq_false Z;have L9:(0:Int)<=(n:Int):=Z
 have yz:(n:Int)<(B.size:Int):=Z
 have j:=Gy E ok i c z x zQ s f w b r k l o q v Z W Z;rw[O]at j;have H:=fp<|Á b<|Á j<|Á r<|Á v N;clear b j r v O N;go_wp2_with (go_at_call 103;refine(tS _ _).mono ?_;rintro e m ⟨rfl,hw⟩;subst m;rw[H.out.2.2.2.2]);go_at_call 202;apply H.out.2.1.mono;rintro e w1 ⟨rfl,C,P⟩;rw[if_pos U]at C;have G:=fp<|Á C P;clear C P;have e11:((k:Int)==1)=Ï:=by rw[beq_eq_false_iff_ne];omega
 have e27:((k:Int)==17)=Ï:=by rw[beq_eq_false_iff_ne];omega
 have e31:((k:Int)==21)=Ï:=by rw[beq_eq_false_iff_ne];omega
 have e32:((k:Int)==22)=Ï:=by rw[beq_eq_false_iff_ne];omega
 have D:=anR (t:=t) ok G.out.1 V qt hd hF I (H.out.2.2.1.tr ok H.out.1 G.out.2) J hx hy L (by show 0<=c.g-l;omega) (by show c.g-l<=100000;omega) (by show(f.length:Int)+(c.g-l)<=1000000;omega) k Y hk3 ab7 l o q H.out.2.2.2.1 GA M;have HD:=fp D;clear D hF I J L hlen M;go_wp2_with (go_at_call 103;refine(tS _ _).mono ?_;rintro e m ⟨rfl,hw⟩;subst m;rw[H.out.2.2.2.2]);go_at_call 205;apply HD.out.mono;rintro e w2 ⟨rfl,I3,Qp,h2,t2⟩;go_wp2_with fail;exact hK _ _ (gL _) ⟨_,_,h2,G.out.2.fl t2⟩
end
def sL(k:Nat):Int×Int×Int:=(jN[k]?).getD (0,0,0)
def CX(P:ByteArray)(a:Int):Int:=((P.data.getD a.toNat 0).toNat:Int)
def mM(P:ByteArray)(a:Int):Nat:=nT<|CX P a
def xk(F:oF)(c:RC)(P:ByteArray):Nat->Int->RT->Int×Bool×RT
 |0,_,t=>(0,Ï,t)
 |f+1,pl,t=>
  if pl=P.size then(0,Ý,t)
  else if(P.size:Int)<pl then(0,Ï,{t with g:=0})
  else if nJ t.g t.ss.length (sL<|mM P pl).1 (sL<|mM P pl).2.1 (sL<|mM P pl).2.2=Ï then(0,Ï,{t with g:=0})
  else if mM P pl=1 then xk F c P f (pl+1) {t with ss:=t.ss++[CX P pl-48],g:=t.g-(sL<|mM P pl).1}
  else if mM P pl=17 then
   if gN (gJ t.ss)=0 then xk F c P f (pl+1) {t with ss:=gJ<|gJ t.ss,g:=t.g-(sL<|mM P pl).1}else xk F c P f (gN t.ss) {t with ss:=gJ<|gJ t.ss,g:=t.g-(sL<|mM P pl).1}
  else if mM P pl=21 then(gN t.ss,Ý,{t with ss:=gJ t.ss,g:=t.g-(sL<|mM P pl).1})
  else if mM P pl=22 then(0,Ï,{t with g:=t.g-(sL<|mM P pl).1})
  else xk F c P f (pl+1) (uQ F c (mM P pl) {t with g:=t.g-(sL<|mM P pl).1})
structure pZ(t:RT):Prop where
 ss:∀p∈t.ss,gP p
 iw:t.ss.length<=32
 s:iE t.s
 g0:0<=t.g
 g1:t.g<=100000
 ls:(t.ls.length:Int)+t.g<=1000000
def an1{p:Prop}[Decidable p](c:i<=m)(d:b<=m):(if p then i else b)<=m:=by split;exact c;exact d
def WB(c:Int):nT c<=22:=by unfold nT;repeat' (first|refine an1 A ?_|decide)
def yE:gP 0:=⟨A,A⟩
def an2:gP 1:=⟨A,A⟩
def WC(h:k<=22):jN[k]?=Ã (sL k):=by
 unfold sL;have:k<jN.length:=by show k<23;omega
 rw[Ñ this];rfl
def CY(n:Int):gP (wu n):=⟨am9 n,ana n⟩
def ab8(b:Bool):gP (Bm b):=by cases b<;>exact⟨A,A⟩
def an3{q:Int}(a:gP c)(d:gP q):gP (Bn h c q):=by
 unfold Bn;repeat' split
 all_goals first|exact CY _|exact ab8 _|exact⟨A,A⟩|skip
 rename_i g;have b:=a.1;have e:=a.2;have f:=d.1;exact⟨Int.ediv_nonneg b f,Int.lt_of_le_of_lt (Int.ediv_le_self _ b) e⟩
def iE.gS{s:St}(h:iE s){a:Mm}(b:gP a.fH)(d:∀j,gP<|a.kY j)(e:a.iN.size<=40/\∀c∈a.iN.data.toList,Bo c=Ý):iE (s.gS i a):=by
 refine⟨λj=> ?_,λj k=> ?_,λj=> ?_⟩<;>unfold St.gS<;>split
 .exact b
 .exact h.fH j
 .exact d k
 .exact h.kY j k
 .exact e
 .exact h.iN j
def iE.pb{s:St}(h:iE s)(i:Nat){b:Int}(a:gP b):iE (s.fH i b):=h.gS a (h.kY i)<|h.iN i
def iE.Wu{s:St}(h:iE s)(i j:Nat)(a:gP c):iE (s.vY i j c):=by
 refine h.gS (h.fH i) (λk=> ?_)<|h.iN i;show gP (if k=j then c else(s i).kY k);split
 .exact a
 .exact h.kY i k
def an4{s:St}(h:iE s)(y:Nat){p:Int}(a:gP p):gP (vZ s y c p).1/\iE (vZ s y c p).2:=by
 unfold vZ;split
 .exact⟨yE,h⟩
 .rename_i d;have b:=h.fH y;have e:=a.1;refine⟨an2,iE.pb (iE.pb h y ⟨Z,by have:=b.2;omega⟩) _<|CY _⟩
def ab9(h:n<8):gP (n:Int):=⟨Z,Z⟩
section
variable{F:oF}{c:RC}{t:RT}
def wh{m:List Int}(h:∀p∈zQ,gP p)(k:∀p∈m,gP p):∀p∈zQ++m,gP p:=λp a=>(ā.1 a).elim (h p)<|k p
def zW{a:Int}(h:gP a):∀p∈[a],gP p:=λp b=>by simp at b;subst b;exact h
def WE{a b:Int}(h:gP a)(k:gP b):∀p∈[a,b],gP p:=λp c=>by simp at c;rcases c with rfl|rfl;exact h;exact k
def an5(b:rR F)(a:pZ t)(d:c.y<8){p k:Int}(f:gP h)(i:gP p)(j:gP k): gP (jY F c t h p k).1/\gP (jY F c t h p k).2.1/\iE (jY F c t h p k).2.2.s/\0<=(jY F c t h p k).2.2.g/\(jY F c t h p k).2.2.g<=t.g/\((jY F c t h p k).2.2.ls.length:Int)+(jY F c t h p k).2.2.g<=(t.ls.length:Int)+t.g:=by
 unfold jY;split
 .exact⟨yE,yE,a.s,a.g0,Ø _,Ø _⟩
 .have l:0<=min p t.g:=by have:=i.1;have:=a.g0;omega
  have m:=a.g0;have n:=a.g1;have o:=a.ls;have r:=f.1;have e:=b t.s t.ls c.y (h%8).toNat (min p t.g) k a.s d Z j l Z Z;have u:=e.I4;have v:=e.I5;have w:=e.iw;refine⟨e.ly,ab8 _,e.yC,?_,?_,?_⟩;all_goals simp only
  all_goals have:=a.g0
  all_goals omega
def WG(v:rR F)(w:c.x<8)(r:c.y<8)(z:gP c.k)(Q:2<=k)(T:k<=20)(V:k≠17){q u:Int}(d:jN[k]?=Ã (h,q,u)){g:Int}(W:t.g=g-h)(a:pZ t)(X:(t.ls.length:Int)+g<=1000000)(Y:q<=t.ss.length)(I7:(t.ss.length:Int)-q+u<=32): pZ (uQ F c k t)/\(uQ F c k t).g<=t.g/\((uQ F c k t).ls.length:Int)+(uQ F c k t).g<=t.ls.length+g:=by
 have i:=uR a.ss;have j:=uR<|qU a.ss;have B:=uR<|qU<|qU a.ss;have m:=qU a.ss;have n:=qU m;have C:=qU n;have f:=rT t.ss;have o:=rT<|gJ t.ss;have D:=rT<|gJ<|gJ t.ss;have g0:=a.g0;have g1:=a.g1;obtain⟨E,G,H,I,J,K⟩:=Mt k _ d;simp only at E G H I J K;have len:=a.iw;have b:∀{l:List Int},(∀p∈l,gP p)->l.length<=32->pZ {t with ss:=l}:=λp L=>⟨p,L,a.s,a.g0,a.g1,a.ls⟩;have cases:(k=2\/k=3\/k=4\/k=5\/k=6\/k=7)\/k=8\/k=9\/k=10\/k=11\/k=12\/k=13\/k=14\/k=15\/k=16\/k=18\/k=19\/k=20:=Z
 rcases cases with hq|rfl|rfl|rfl|rfl|rfl|rfl|rfl|rfl|rfl|rfl|rfl|rfl
 .have e:uQ F c k t={t with ss:=gJ (gJ t.ss)++[Bn k (gN<|gJ t.ss)<|gN t.ss]}:=by
   rcases hq with rfl|rfl|rfl|rfl|rfl|rfl<;>rfl
  rw[e];exact⟨b (wh n<|zW<|an3 j i) (by simp[f,o];omega),Ø _,by simp only;omega⟩
 .exact⟨b (wh m<|WE i i) (by simp[f];simp[jN]at d;omega),Ø _,by show(t.ls.length:Int)+t.g<=_;omega⟩
 .exact⟨b (wh n<|WE i j) (by simp[f,o];omega),Ø _,by show(t.ls.length:Int)+t.g<=_;omega⟩
 .exact⟨b m (by rw[f];omega),Ø _,by show(t.ls.length:Int)+t.g<=_;omega⟩
 .exact⟨b (wh a.ss<|zW z) (by simp;simp[jN]at d;omega),Ø _,by show(t.ls.length:Int)+t.g<=_;omega⟩
 .exact⟨b (wh a.ss<|zW<|ab9 w) (by simp;simp[jN]at d;omega),Ø _,by show(t.ls.length:Int)+t.g<=_;omega⟩
 .exact⟨b (wh a.ss<|zW<|ab9 r) (by simp;simp[jN]at d;omega),Ø _,by show(t.ls.length:Int)+t.g<=_;omega⟩
 .exact⟨b (wh a.ss<|zW<|a.s.fH _) (by simp;simp[jN]at d;omega),Ø _,by show(t.ls.length:Int)+t.g<=_;omega⟩
 .exact⟨b (wh m<|zW<|a.s.kY _ _) (by simp[f];omega),Ø _,by show(t.ls.length:Int)+t.g<=_;omega⟩
 .exact⟨⟨n,by show(gJ<|gJ t.ss).length<=32;omega,a.s.Wu _ _ j,a.g0,a.g1,a.ls⟩,Ø _,by show(t.ls.length:Int)+t.g<=_;omega⟩
 .obtain⟨e,M⟩:=an4 a.s c.y j;exact⟨⟨wh n<|zW e,by show(gJ (gJ t.ss)++[_]).length<=32;simp[f,o];omega,M,a.g0,a.g1,a.ls⟩,Ø _,by show(t.ls.length:Int)+t.g<=_;omega⟩
 .have e:h=4:=by simp[jN]at d;omega
  refine⟨⟨m,by show(gJ t.ss).length<=32;omega,a.s,a.g0,a.g1,?_⟩,Ø _,?_⟩
  .show((t.ls++[_]).length:Int)+t.g<=_;simp;omega
  .show((t.ls++[_]).length:Int)+t.g<=_;simp;omega
 .obtain⟨e,M,N,O,P,w6⟩:=an5 v a r i j B;refine⟨⟨wh C<|WE e M,?_,N,O,?_,?_⟩,P,?_⟩
  .show(gJ (gJ<|gJ t.ss)++[_,_]).length<=32;simp[f,o,D];simp[jN]at d;omega
  .show(jY F c t _ _ _).2.2.g<=_;omega
  .show((jY F c t _ _ _).2.2.ls.length:Int)+(jY F c t _ _ _).2.2.g<=_;omega
  .show((jY F c t _ _ _).2.2.ls.length:Int)+(jY F c t _ _ _).2.2.g<=_;omega
end
def GD(a:Nat)(w:Ç):Nat:=match w.cell? ⟨a,5,Ä⟩with
 |some (Â _ n)=>n.toNat
 |_=>0
def R.gas{E:jT}{c:RC}{s:St}{a:List (Nat×Int)}(h:R E i c v x zQ s a w):GD i w=c.g.toNat:=by unfold GD;rw[h.fq.fg 5 _ U]
def SI(E:jT)(d:Nat)(c:RC)(P:ByteArray)(F:oF)(f h:È)(i:Nat)(j:Ç)(k:Int×Bool×RT)(a:ë)(w:Ç):Prop:=
 ∃(b:Int) (t:RT) (e:Nat),GB d P b a/\gP b/\mL E d f h i j (rS c t.g) t.ss t.s t.ls w/\pZ t/\jK w/\t.g.toNat<e/\xk F c P e b t=k
def SX(E:jT)(d:Nat)(c:RC)(P:ByteArray)(e f:È)(h:Nat)(i:Ç)(b:Int×Bool×RT)(a:ë)(w:Ç):Prop:=
 I6 d P b.1 b.2.1 a/\mL E d e f h i (rS c b.2.2.g) b.2.2.ss b.2.2.s b.2.2.ls w
def WH(a:n<B.size):CX B (n:Int)=((B[n]'a).toNat:Int):=by unfold CX;rw[ſ];have b:n<B.data.size:=a;simp only[Array.getD,b,dif_pos];rfl
def WI{s:St}(b:iE s)(y:Nat)(a:n<(s y).iN.size):1<=mM (s y).iN (n:Int):=by
 unfold mM;rw[WH a];have c:((s y).iN[n]'a)∈(s y).iN.data.toList:=by have:(s y).iN[n]'a=(s y).iN.data[n]'a:=U;rw[this];exact Ŧ.2<|Array.getElem_mem _
 have:=(b.iN y).2 _ c;unfold Bo at this;have:=of_decide_eq_true this;omega
def WJ{b a d:Int}(h:nJ c n b a d=Ý):b<=c/\a<=n/\(n:Int)-a+d<=32:=by unfold nJ at h;simp at h;omega
def an6{p:Prop}[Decidable p](c:i≠m)(d:b≠m):(if p then i else b)≠m:=by split;exact c;exact d
def WK(h:nT c=1):48<=c/\c<=57:=by
 by_cases a:48<=c/\c<=57
 .exact a
 .exfalso;revert h;unfold nT;rw[if_neg a];repeat' (first|refine an6 A ?_|decide)
def an7(a:1<=k)(b:k<=22):1<=(sL k).1:=by
 have h:∀k:Fin 23,1<=k.val->1<=(sL k.val).1:=A
 exact h ⟨k,Z⟩ a
section
variable{E:jT}{c:RC}{F:oF}{l:Int×Bool×RT}
def an8(ok:E.Ok)(hP:B.size<=40)(an9:∀n,n<B.size->1<=mM B (n:Int))(qt:0<=c.d)(hd:c.d<=4)(hF:c.d<4->xj F (c.d+1))(hI:rR F)(hx:c.x<8)(hy:c.y<8)(Mx:gP c.k)(a:ë)(w:Ç)(h:SI E j c B F z v i W l a w): Î À yD (Exit.then (λa' w'=>SI E j c B F z v i W l a' w'/\GD j w'<GD j w)<|QQ<|SX E j c B z v i W l) a w:=by
 let⟨pl,t,fuel,hfr,vi,⟨sv,lv,hR,hT⟩,ht,hr,hfu,lI⟩:=h;have g0:=ht.g0;have g1:=ht.g1;have hl:=ht.iw;have aoa:=hR.gas;obtain⟨f,rfl⟩:∃f,fuel=f+1:=⟨fuel-1,Z⟩;unfold xk at lI;obtain⟨u,rfl⟩:=hfr;by_cases h1:pl=B.size
 .rw[if_pos h1]at lI;subst lI;apply anS ok u hR hP h1;rintro a' w' q1 ⟨lH,kO,r1,r2⟩;exact⟨q1,lH,kO,r1,hT.fl r2⟩
 rw[if_neg h1]at lI;by_cases h2:(B.size:Int)<pl
 .rw[if_pos h2]at lI;subst lI;apply anT ok u hR hP h2;rintro a' w' q1 ⟨lH,kO,r1,r2⟩;exact⟨q1,lH,kO,r1,hT.fl r2⟩
 rw[if_neg h2]at lI;have Wz:=vi.1;obtain⟨n,rfl⟩:∃n:Nat,pl=n:=⟨pl.toNat,Z⟩;have hn:n<B.size:=Z
 have k1:=an9 n hn;have vu:nT ((B[n]'hn).toNat:Int)=mM B (n:Int):=by unfold mM;rw[WH hn]
 have k2:mM B (n:Int)<=22:=WB _;have hk:=WC k2;have hco:=an7 k1 k2;let⟨b1,b2,b3,b4,b5,b6⟩:=Mt _ _ hk;have aob:=WH hn;generalize mM B (n:Int)=k at*;generalize hro:sL k=ro at*;let⟨co,ta,pu⟩:=ro;simp only at lI hk hco b1 b2 b3 b4 b5 b6;by_cases h3:nJ t.g t.ss.length co ta pu=Ï
 .rw[if_pos h3]at lI;subst lI;apply anU ok u hR hP n U hn hr co ta pu Z g0 g1 k vu hk h3;rintro a' w' q1 ⟨lH,kO,r1,r2⟩;exact⟨q1,lH,kO,r1,hT.fl r2⟩
 rw[if_neg h3]at lI;have rE:nJ t.g t.ss.length co ta pu=Ý:=by cases e:nJ t.g t.ss.length co ta pu with
  |true=>rfl
  |false=>exact absurd e h3
 let⟨QJ,GA,I7⟩:=WJ rE;have WL:=ht.ls;have yz:gP ((n:Int)+1):=⟨Z,Z⟩;have QK:∀{a':ë} {w':Ç} {My:Int} {t':RT} {lH kO:È},GB j B My a'->gP My->R E j (rS c t'.g) lH kO t'.ss t'.s t'.ls w'->Tr E j sv lv t.ls.length w lH kO t'.ls.length w'->pZ t'->t'.g<=t.g-co->xk F c B f My t'=l->SI E j c B F z v i W l a' w'/\GD j w'<GD j w:=by intro a' w' My t' lH kO q1 q2 q3 q4 q5 q6 q7;have e5:=q5.g0;refine⟨⟨My,t',f,q1,q2,⟨lH,kO,q3,hT.fl q4⟩,q5,hr.tr ok hR q4,Z,q7⟩,?_⟩;rw[q3.gas,aoa];show t'.g.toNat<t.g.toNat;omega
 by_cases h4:k=1
 .rw[if_pos h4]at lI;subst h4;have hdg:=WK vu;apply anX ok u hR hP n U hn hr co ta pu Z g0 g1 hdg.1 hdg.2 vu hk rE;rintro a' w' q1 ⟨lH,kO,r1,r2⟩;rw[aob]at lI;refine QK (t':={t with ss:=t.ss++[((B[n]'hn).toNat:Int)-48],g:=t.g-co}) q1 yz r1 r2 ⟨wh ht.ss<|zW ⟨Z,Z⟩,?_,ht.s,by show 0<=t.g-co;omega,by show t.g-co<=100000;omega,by show(t.ls.length:Int)+(t.g-co)<=1000000;omega⟩ (Ø _) lI;simp[jN]at hk;simp;omega
 rw[if_neg h4]at lI;by_cases h5:k=17
 .rw[if_pos h5]at lI;subst h5;have aoc:ta=2:=by simp[jN]at hk;omega
  have e2:t.ss=(gJ (gJ t.ss)++[gN<|gJ t.ss])++[gN t.ss]:=by rw[Br (by rw[rT];omega),Br Z]
  have tok:pZ {t with ss:=gJ<|gJ t.ss,g:=t.g-co}:=⟨qU<|qU ht.ss,by show(gJ<|gJ t.ss).length<=32;rw[rT,rT];omega,ht.s,by show 0<=t.g-co;omega,by show t.g-co<=100000;omega,by show(t.ls.length:Int)+(t.g-co)<=1000000;omega⟩;by_cases h6:gN (gJ t.ss)=0
  .rw[if_pos h6]at lI;apply anZ ok u hR hP n U hn hr co ta pu Z g0 g1 _ _ _ e2 h6 vu hk rE;rintro a' w' q1 ⟨lH,kO,r1,r2⟩;exact QK (t':={t with ss:=gJ<|gJ t.ss,g:=t.g-co}) q1 yz r1 r2 tok (Ø _) lI
  .rw[if_neg h6]at lI;apply anY ok u hR hP n U hn hr co ta pu Z g0 g1 _ _ _ e2 h6 vu hk rE;rintro a' w' q1 ⟨lH,kO,r1,r2⟩;exact QK (t':={t with ss:=gJ<|gJ t.ss,g:=t.g-co}) q1 (uR ht.ss) r1 r2 tok (Ø _) lI
 rw[if_neg h5]at lI;by_cases h6:k=21
 .rw[if_pos h6]at lI;subst h6 lI;have aoc:ta=1:=by simp[jN]at hk;omega
  apply anW ok u hR hP n U hn hr co ta pu Z g0 g1 _ _ (Br Z).symm vu hk rE;rintro a' w' q1 ⟨lH,kO,r1,r2⟩;exact⟨q1,lH,kO,r1,hT.fl r2⟩
 rw[if_neg h6]at lI;by_cases h7:k=22
 .rw[if_pos h7]at lI;subst h7 lI;apply anV ok u hR hP n U hn hr co ta pu Z g0 g1 vu hk rE;rintro a' w' q1 ⟨lH,kO,r1,r2⟩;exact⟨q1,lH,kO,r1,hT.fl r2⟩
 rw[if_neg h7]at lI;let⟨d1,d2,d3⟩:=WG (t:={t with g:=t.g-co}) hI hx hy Mx Z Z h5 hk U ⟨ht.ss,ht.iw,ht.s,by show 0<=t.g-co;omega,by show t.g-co<=100000;omega,by show(t.ls.length:Int)+(t.g-co)<=1000000;omega⟩ WL GA I7;apply an0 ok u hR hP n U hn hr co ta pu Z g0 g1 k Z Z h5 GA qt hd hF hI ht.s hx hy ht.ss WL (uQ F c k {t with g:=t.g-co}) U b1 QJ vu hk rE;rintro a' w' q1 ⟨lH,kO,r1,r2⟩;exact QK q1 yz r1 r2 d1 d2 lI
end
section
variable{E:jT}{c:RC}{F:oF}{lv:È}{s:St}{b:List (Nat×Int)}
def qV(F:oF)(c:RC)(s:St)(b:List (Nat×Int)):Int×Bool×RT:=xk F c (s c.y).iN (c.g.toNat+1) 0 ⟨[],s,b,c.g⟩
def acd(ok:E.Ok)(h:R E i c v lv [] s b w)(l:0<=c.d)(o:c.d<=4)(hF:c.d<4->xj F (c.d+1))(p:rR F)(q:jK w)(f:iE s)(r:c.x<8)(j:c.y<8)(t:gP c.k)(z:0<=c.g)(B:c.g<=100000)(C:(b.length:Int)+c.g<=1000000): Ô À 191 #[Å<|Ã ⟨i,0,Ä⟩] w λe a=>e=É (é #[Â Æ (qV F c s b).1,Ò (qV F c s b).2.1])/\mL E i v lv b.length w (rS c (qV F c s b).2.2.g) (qV F c s b).2.2.ss (qV F c s b).2.2.s (qV F c s b).2.2.ls a:=by
 have J:=h.fq.fg 0 _ U;have K:=h.fq.fg 2 _ U;have M:=h.gI.xi j;have N:=h.fq.lt;have O:=fw.lt h.gI;have e:=(f.iN c.y).1;have L:∀m,∀a,GB i (s c.y).iN 0 a->Î À (ã yD) (QQ<|SX E i c (s c.y).iN v lv b.length w<|qV F c s b) a (w.drewN m):=λm a D=>by refine Đ (SI E i c (s c.y).iN F v lv b.length w<|qV F c s b) (λ_ w=>GD i w) ?_ (an8 ok e (λn u=>WI f c.y u) l o hF p r j t);have k:=ff.iA (λ_=>False) w m;exact⟨0,⟨[],s,b,c.g⟩,c.g.toNat+1,D,yE,⟨v,lv,h.gu k,Tr.gu k⟩,⟨fB,fB,f,z,B,C⟩,q.fi k id,fB,U⟩
 have H:=fp L;generalize qV F c s b=res at*;generalize Q:(s c.y).iN=P at*;go_enter Tryz.func191,Tryz.ntmps191;go_wp2_with fail;go_step3;go_wp2_with fail;go_quiet (fail);go_wp2_with fail;go_step3;go_wp2_with fail;refine à ?_ (H.out _ _ (gL _));rintro(_|(_|_)|_|_|_|_) a v hq;all_goals first|exact absurd hq id|skip
 let⟨n,G⟩:=hq;obtain⟨u,rfl⟩:=n;unfold frE;have I:=fp G;go_wp2_with fail;(try rw[Exit.noGoto_ret]);go_ret2;exact⟨U,I.out⟩
end
def WM(a:o.op=bH T)(b:P.info? T=Ã zJ)(c:zJ.zero=Ã z): (į xX o).run P w=aA (.value<|Å<|Ã ⟨w.heap.size,0,Ä⟩) (w.alloc<|Ð z.cells T):=by unfold į;simp[a,Instr.alloc,zeroValue,typeInfo,b,c,newVar,newRow]
def QL:∀(e a d:List È) (w:Ç) (c:List È),c.length=e.length->fw b (a++c++d) T w->fw b (a++e++d) T (w.setCells b a.length e)
 |[],a,d,w,c,hl,h=>by have:c=[]:=á (by simpa using hl);subst this;exact h
 |v::r,a,d,w,c,hl,h=>by
  match c,hl,h with
  |x::c,hl,h=>
   have f:=h.gS a.length v;rw[show(a++x::c++d).set a.length v=(a++[v])++c++d by simp]at f;have:=QL r (a++[v]) d _ c (by simpa using hl) f;rw[show(a++[v]).length=a.length+1 by simp]at this;rw[show a++v::r++d=a++[v]++r++d by simp];exact this
def NF.iB(h:NF b w)(p:Ċ)(v:È):NF b (w.setCell p v):=λc T d q=>by
 by_cases e:b=p.block
 .subst e;unfold Ď at q;simp only[Ú,if_true]at q;cases a:w.heap[p.block]? with
  |none=>rw[a]at q;cases q
  |some f=>
   rw[a]at q;cases f with
   |cells g t z=>
    simp only[ì,ê,Į]at q;rw[<-q.2.1];exact h _ _ _ a
   |_=>cases q
 .rw[ĝ _ _ _ _ (by simpa using e)]at q;exact h c T d q
def Mz:∀(vs:List È) (o:Nat) (w:Ç),NF b w->ff (λk=>k=b) w (w.setCells b o vs)
 |[],_,w,_=>ff.fY _ w
 |v::r,o,w,h=>(ff.iB (X:=λk=>k=b) (p:=⟨b,o,Ä⟩) U v<|Ü h).fl<|Mz r (o+1) _<|h.iB _ _
def fw.rM{vs:List È}(h:fw j vs T w)(a:n<=vs.length):w.there j 0 n:=λi b=>by refine⟨?_,h.fC _⟩;rw[h.fg (0+i) (vs[0+i]'Z)<|Ñ Z];rfl
def fw.tT{vs tl:List È}(h:fw j (vs++tl) T w):w.rangeAt j 0 vs:=λi v a=>by apply h.fg (0+i) v;rwa[ĸ,â (Ù.1 a).1]
def WN{P:Program}{ops:Array Oper}{rest:List Oper}{o1 o2:Oper}{a:Act}{w:World}{Q:Exit->Act->World->Prop}(g1:o1.guard=none)(g2:o2.guard=none)(T:TypeId)(h1:o1.op=.alloc T)(d:Tmp)(hd:o1.dst=some d)(x y:Operand)(h2:o2.op=.store T x y)(pE:o2.dst=none) {i:TypeInfo} {z:Value} (hi:P.info? T=some i) (hz:i.zero=some z) (cs:List Value) (kV:i.size=cs.length) (tL:z.cells.size=cs.length) (hx:(a.put (some d)<|.pointer<|some ⟨w.heap.size,0,none⟩).eval x=.pointer (some ⟨w.heap.size,0,none⟩)) (hy:(a.put (some d)<|.pointer<|some ⟨w.heap.size,0,none⟩).eval y=.agg cs.toArray) (QM:∀v∈cs,v.oneCell'=true) (h:∀w',fw w.heap.size cs T w'->ff (λ_=>False) w w'->w'.heap.size=w.heap.size+1->wpList P ops Q rest (a.put (some d)<|.pointer<|some ⟨w.heap.size,0,none⟩) w') (hT:oD T=false:=by decide):wpList P ops Q (o1::o2::rest) a w:=by
 apply ď g1 (Ã d) hd _ _ (WM h1 hi hz);have hB:fw w.heap.size z.cells.toList T (w.alloc<|Ð z.cells T):=by have:=fw.fN w z.cells.toList T;simpa using this
 refine Ŋ g2 T x y h2 w.heap.size 0 cs.toArray hx hy (hB.rM<|by simp[tL]) (by rw[hi];simp[kV]) (Ķ QM) ?_;rw[pE];have hB2:=QL cs [] [] (w.alloc<|Ð z.cells T) z.cells.toList (by simpa using tL) (by simpa using hB);refine h _ (by simpa using hB2) ?_ ?_
 .refine(ff.gT (λ_=>False) w _ _<|Û hT).kj (Mz _ _ _<|hB.nf hT) λk hk e=> ?_;omega
 .have:∀(vs:List È) (o:Nat) (w:Ç) (b:Nat),(w.setCells b o vs).heap.size=w.heap.size:=by
   intro vs
   induction vs with
   |nil=>intro o w b;rfl
   |cons v r ih=>intro o w b;rw[World.setCells,ih];simp
  simp[this]
section
variable{c:RC}{F:oF}{P:ByteArray}
structure CZ(t:RT)(r:Int×Bool×RT):Prop where
 ly:gP r.1
 s:iE r.2.2.s
 g0:0<=r.2.2.g
 g1:r.2.2.g<=t.g
 ls:(r.2.2.ls.length:Int)+r.2.2.g<=t.ls.length+t.g
def CZ.kD{t a:RT}{r:Int×Bool×RT}(h:CZ a r)(b:a.g<=t.g)(c:(a.ls.length:Int)+a.g<=t.ls.length+t.g):CZ t r:= ⟨h.ly,h.s,h.g0,Α h.g1 b,Α h.ls c⟩
def MA(o:P.size<=40)(d:∀n,n<P.size->1<=mM P (n:Int))(h:rR F)(i:c.x<8)(j:c.y<8)(m:gP c.k):∀(p:Nat) (b:Int) (t:RT),gP b->pZ t->CZ t (xk F c P p b t)
 |0,_,t,_,ht=>⟨yE,ht.s,ht.g0,Ø _,Ø _⟩
 |f+1,b,t,vi,ht=>by
  have L:=ht.g0;have g1:=ht.g1;have hl:=ht.iw;have M:=ht.ls;have E:CZ t (0,Ï,{t with g:=0}):=⟨yE,ht.s,Ø _,L,by show(t.ls.length:Int)+0<=_;omega⟩;unfold xk;by_cases G:b=P.size
  .rw[if_pos G];exact⟨yE,ht.s,ht.g0,Ø _,Ø _⟩
  rw[if_neg G];by_cases H:(P.size:Int)<b
  .rwa[if_pos H]
  rw[if_neg H];have Wz:=vi.1;obtain⟨n,rfl⟩:∃n:Nat,b=n:=⟨b.toNat,Z⟩;have N:n<P.size:=Z
  have k1:=d n N;have O:mM P (n:Int)<=22:=WB _;have u:=WC O;let⟨Q,T,V,W,X,Y⟩:=Mt _ _ u;have aod:mM P (n:Int)=1->48<=CX P (n:Int)/\CX P (n:Int)<=57:=WK;generalize mM P (n:Int)=k at*;generalize hro:sL k=ro at*;let⟨a,v,w⟩:=ro;simp only at u Q T V W X Y|-;by_cases z:nJ t.g t.ss.length a v w=Ï
  .rwa[if_pos z]
  rw[if_neg z];have rE:nJ t.g t.ss.length a v w=Ý:=by cases e:nJ t.g t.ss.length a v w with
   |true=>rfl
   |false=>exact absurd e z
  let⟨QJ,GA,I7⟩:=WJ rE;have B:gP ((n:Int)+1):=⟨Z,Z⟩;have I:∀{l:List Int},(∀p∈l,gP p)->l.length<=32->pZ {t with ss:=l,g:=t.g-a}:=λq1 q2=>⟨q1,q2,ht.s,by show 0<=t.g-a;omega,by show t.g-a<=100000;omega,by show(t.ls.length:Int)+(t.g-a)<=1000000;omega⟩;have C:∀{l:List Int} {r:Int×Bool×RT},CZ {t with ss:=l,g:=t.g-a} r->CZ t r:=λq=>q.kD (by show t.g-a<=t.g;omega) (by show(t.ls.length:Int)+(t.g-a)<=_;omega);by_cases p:k=1
  .rw[if_pos p];have:=aod p;subst p;refine C<|MA o d h i j m f _ _ B<|I (wh ht.ss<|zW ⟨Z,Z⟩) ?_;simp[jN]at u;simp;omega
  rw[if_neg p];by_cases D:k=17
  .rw[if_pos D];have J:=I (qU<|qU ht.ss) (by rw[rT,rT];omega);split
   .exact C<|MA o d h i j m f _ _ B J
   .exact C<|MA o d h i j m f _ _ (uR ht.ss) J
  rw[if_neg D];by_cases J:k=21
  .rw[if_pos J];exact⟨uR ht.ss,ht.s,by show 0<=t.g-a;omega,by show t.g-a<=t.g;omega,by show(t.ls.length:Int)+(t.g-a)<=_;omega⟩
  rw[if_neg J];by_cases K:k=22
  .rw[if_pos K];exact⟨yE,ht.s,by show 0<=t.g-a;omega,by show t.g-a<=t.g;omega,by show(t.ls.length:Int)+(t.g-a)<=_;omega⟩
  rw[if_neg K];let⟨d1,d2,d3⟩:=WG (t:={t with g:=t.g-a}) h i j m Z Z D u U ⟨ht.ss,ht.iw,ht.s,by show 0<=t.g-a;omega,by show t.g-a<=100000;omega,by show(t.ls.length:Int)+(t.g-a)<=1000000;omega⟩ M GA I7;exact(MA o d h i j m f _ _ B d1).kD (Α d2<|by show t.g-a<=t.g;omega) d3
def ace{s:St}{a:List (Nat×Int)}(d:rR F)(b:iE s)(e:c.x<8)(f:c.y<8)(h:gP c.k)(i:0<=c.g)(j:c.g<=100000)(l:(a.length:Int)+c.g<=1000000):CZ ⟨[],s,a,c.g⟩ (qV F c s a):= MA (b.iN c.y).1 (λn m=>WI b c.y m) d e f h _ _ _ yE ⟨fB,fB,b,i,j,l⟩
end
def aoe:(À.underlying 144).map ľ=Ã Ý:=fF
def acf:(À.info? 144).map (λi=>(i.size,i.zero.map (·.cells.size)))=Ã (145,Ã 145):=fF
def acg(h:(P.info? e).map (λi=>(i.size,i.zero.map (·.cells.size)))=Ã (n,Ã m)):∃i z,P.info? e=Ã i/\i.size=n/\i.zero=Ã z/\z.cells.size=m:=by let⟨i,a,h⟩:=Ì.1 h;simp only[Prod.mk.injEq,Ì]at h;let⟨b,z,c,d⟩:=h;exact⟨i,z,a,b,c,d⟩
def WO(s:St){lv:È}(b:lv.oneCell'=Ý):∀v∈jZ s lv,v.oneCell'=Ý:=λv c=>by
 obtain⟨i,a,rfl⟩:=List.getElem_of_mem c;rw[o7]at a;have:=Mn s lv a;rw[Ñ (by rwa[o7])]at this;injection this with this;rw[this];unfold uP sJ;repeat' split
 all_goals first|exact b|rfl
def WQ{t:Tmp}{d:TypeDesc}(h:s.results=#[.cell t T])(a:q.getD t ĉ=Å (Ã ⟨b,0,Ä⟩))(c:w.rangeAt b 0 l)(e:P.underlying T=Ã d)(f:d.isRow=Ý)(g:(P.info? T).map (·.size)=Ã l.length): (aJ s q).run P w=aA (ė l.toArray) w:=by have i:=ν w b 0 T l d c e f g;rw[Ĺ]at a;simp only[aJ,h];simp[a,asAddr,i]
def WR:(À.underlying 252).map ľ=Ã Ý:=fF
def WS:(À.info? 252).map (·.size)=Ã 3:=fF
def aof{e:Array Ů}{f:List Ů}{a:ë}(i:o.guard=Ä)(d:ú)(x y:Ź)(j:o.op=.store d x y) (b:Nat) (c:List È) (k:a.eval x=Å (Ã ⟨b,0,Ä⟩)) (l:a.eval y=ė c.toArray) (m:w.there b 0 c.toArray.size) (n:(P.info? d).map (·.size)=Ã c.toArray.size) (p:c.toArray.all (·.oneCell')=Ý) (h:∀g,g=w.setCells b 0 c->bq P e vJ f (a.put o.dst ĉ) g):bq P e vJ (o::f) a w:= Ŋ i d x y j b 0 c.toArray k l m n p<|h _ U
def xl(F:oF)(c:RC)(s:St)(a:List (Nat×Int)):Gz:=
 ⟨c.g-(qV F c s a).2.2.g,(qV F c s a).2.1,(qV F c s a).1,if(qV F c s a).2.1 then(qV F c s a).2.2.s else s,if(qV F c s a).2.1 then(qV F c s a).2.2.ls else a⟩
section
variable{E:jT}{c:RC}{lv:È}{s:St}{f:List (Nat×Int)}{F:oF}
def ach(k:ff (λ_=>False) w u)(t:Tr E i (Ê Ä 0 0) lv n u x v f.length W)(o:w.heap.size<=i)(r:R E i c x v zQ s f W):jl E lv n w s f W v:=by
 refine⟨r.gI,r.jv,?_,λj q=>(t.l j q).imp id λe=>ï k.fh e,λb d g h m=>t.ja b d g (je h k λ_ _=>id) m⟩;refine(k.ft λ_ _=>Ĥ).kj t.fi ?_;rintro a p (e|e|e|e)
 .exact Û e
 .omega
 .cases e
 .exact Ü e
def jl.Gx{Y:Nat->Prop}(r:jl E lv n w s f W v)(k:ff Y W jX)(m:∀i,Y i->w.heap.size<=i)(o:∀i d,Y i->W.heap[i]?≠Ã (Ð d 257 (0,0)))(p:¬Y E.lb):jl E lv n w s f jX v:=by
 have e:∀{a b c},W.ownsRow 0 257 2 a b c->jX.ownsRow 0 257 2 a b c:=λ{a b c} q=>je q k λj t y=>by let⟨d,u⟩:=nS q t;exact o j d y u
 exact⟨r.gI.fi k p,e r.jv,r.fi.kj k λi x y=>absurd (m i y) Z,r.l,λa b c g h=>⟨e (r.ja a b c g h).1,(r.ja a b c g h).2⟩⟩
def jl.pX{a:St}{c:List (Nat×Int)}(ok:E.Ok)(m:w.ownsRow 0 257 2 lv c.length (lQ c))(r:jl E lv c.length w s f W v):jl E lv c.length w a c (W.setCells E.lb 0<|jZ a lv) lv:=by have k:=Mz (b:=E.lb) (jZ a lv) 0 W<|fw.nf r.gI ok.sH;have l:∀{d e g},W.ownsRow 0 257 2 d e g->(W.setCells E.lb 0<|jZ a lv).ownsRow 0 257 2 d e g:=λ{d e g} q=>je q k λj n y=>kP q r.gI ok.CU.symm (by rw[n,y]);have o:=QL (T:=E.T) (b:=E.lb) (jZ a lv) [] E.tl W (jZ s v) (by rw[o7,o7]) (by have h:=r.gI;unfold jz at h;simpa using h);refine⟨by unfold jz;simpa using o,l (r.ja _ _ _ m λ_=>ß _).1,r.fi.kj k λi _ q=>Û q,λj q=>Û q,λd e g p h=>⟨l (r.ja d e g p h).1,h⟩⟩
def aci(ok:E.Ok)(qt:0<=c.d)(hd:c.d<=4)(hF:c.d<4->xj F (c.d+1))(hI:rR F)(V:jz E.lb E.T E.tl s lv w)(WT:w.ownsRow 0 257 2 lv f.length (lQ f))(hr:jK w)(hs:iE s)(hx:c.x<8)(hy:c.y<8)(Mx:gP c.k)(vx:0<=c.g)(we:c.g<=100000)(hlen:(f.length:Int)+c.g<=1000000): Ô À 173 #[Å<|Ã ⟨E.lb,0,Ä⟩,Â Ë c.x,Â Ë c.y,Â Æ c.g,Â Æ c.k,Â Ë c.d] w λe a=>
  e=É (ė #[Â Æ (xl F c s f).jO,Ò (xl F c s f).lk,Â Æ (xl F c s f).ly])/\∃v,jl E lv f.length w (xl F c s f).s (xl F c s f).ls a v:=by
 let⟨dd,hdu,hdr⟩:=Ì.1 aoe;let⟨i0,z0,MB,kV,MC,tL⟩:=acg acf;have QM:=WO s (lv:=lv) (by obtain⟨a,u,rfl⟩:=kX WT;rfl);have iy:=fw.lt V;have acj:(À.info? 144).map (·.size)=Ã (jZ s lv).length:=by rw[MB,o7];simp[kV]
 have k0:=ff.gT (λ_=>False) w #[Â Æ 0,Ò Ï,Â Æ 0] 252;have UK:(w.alloc<|Ð #[Â Æ 0,Ò Ï,Â Æ 0] 252).rangeAt E.lb 0 (jZ s lv):=fw.tT<|V.fi k0 id;have h:=fp<|Á hdu<|Á hdr<|Á acj<|Á UK<|Á MB<|Á MC<|Á (kV.trans (o7 s lv).symm)<|Á (tL.trans (o7 s lv).symm) QM;have H:=fp<|Á V<|Á WT<|Á hr<|Á hF<|Á hI hs;clear hdu hdr MB kV MC tL QM acj UK V WT hr hF hI hs k0;obtain⟨a,b,t,lI⟩:∃a b t,qV F c s f=(a,b,t):=⟨_,_,_,U⟩;have jE:xl F c s f=⟨c.g-t.g,b,a,if b then t.s else s,if b then t.ls else f⟩:=by unfold xl;rw[lI]
 rw[jE];have QO:=ace H.out.2.2.2.2.1 H.out.2.2.2.2.2 hx hy Mx vx we hlen;rw[lI]at QO;have tg0:0<=t.g:=QO.g0;have tg1:t.g<=c.g:=QO.g1;clear QO;cases b with
 |true=>
  go_enter aK,ah;go_wp2_with (first
   |(with_reducible refine Ĝ U 144 _ U E.lb 0 U (jZ s lv) dd h.out.2.2.2.1 h.out.1 h.out.2.1 h.out.2.2.1 ?_)
   |(with_reducible refine WN U U 144 U 13 U _ _ U U h.out.2.2.2.2.1 h.out.2.2.2.2.2.1 (jZ s lv) h.out.2.2.2.2.2.2.1 h.out.2.2.2.2.2.2.2.1 U U h.out.2.2.2.2.2.2.2.2 ?_;intro l G z I))
  have J:l.heap.size=w.heap.size+1+1:=by simpa using I
  have K:fw (w.heap.size+1) (jZ s lv) 144 l:=by simpa using G
  have n:ff (λ_=>False) w (l.alloc<|Ð #[Å<|Ã ⟨E.lb,0,Ä⟩,Â Ë c.x,Â Ë c.y,Â Æ c.k,Â Ë c.d,Â Æ c.g,Ê Ä 0 0] 282):=((ff.gT _ _ _ _).fl z).fl<|ff.gT _ _ _ _;have L:=ff.gT (λ_=>False) l #[Å<|Ã ⟨E.lb,0,Ä⟩,Â Ë c.x,Â Ë c.y,Â Æ c.k,Â Ë c.d,Â Æ c.g,Ê Ä 0 0] 282;have M:R E (w.heap.size+1+1) c (Ê Ä 0 0) lv [] s f (l.alloc<|Ð #[Å<|Ã ⟨E.lb,0,Ä⟩,Â Ë c.x,Â Ë c.y,Â Æ c.k,Â Ë c.d,Â Æ c.g,Ê Ä 0 0] 282):= ⟨by rw[<-J];exact fw.fN l (CS E.lb c<|Ê Ä 0 0) 282,ć _ _ _ _,H.out.1.fi n id,je H.out.2.1 n λ_ _=>id⟩;have N:fw w.heap.size [Â Æ 0,Ò Ï,Â Æ 0] 252 l:=(fw.fN w [Â Æ 0,Ò Ï,Â Æ 0] 252).fi z id;have S:=acd (F:=F) ok M qt hd H.out.2.2.2.1 H.out.2.2.2.2.1 (H.out.2.2.1.fi n id) H.out.2.2.2.2.2 hx hy Mx vx we hlen;rw[lI]at S;go_at_call 191;apply S.mono;clear S;rintro e W ⟨rfl,QI,QP,o,B⟩;have O:=ach n B Z o;have C:∀{j:Nat} {D:List È} {T:ú},fw j D T l->w.heap.size<=j->fw j D T W:=λ{j D T} hB hj=>by
   refine(hB.fi L id).fi B.fi ?_;have:=hB.lt;rintro(q|q|q|q)
   .omega
   .omega
   .cases q
   .have:=(H.out.2.1.lt j q).2;omega
  have m:=C N<|ß _;have P:=C K Z;have e0:=m.fg 0 _ U;have e1:=m.fg 1 _ U;have e2:=m.fg 2 _ U;have f0:=m.fC 0;have f1:=m.fC 1;have f2:=m.fC 2;have g5:W.cell? ⟨w.heap.size+1+1,5,Ä⟩=Ã (Â Æ t.g):=o.fq.fg 5 _ U;have abb:=o.fq.lt;have r:=fp<|Á O<|Á o<|Á m P;clear O o B m P C M N K n L G z I J;go_wp2_with fail;let⟨d2,pE,vT⟩:=Ì.1 WR;have hb:=((r.out.2.2.1.gS 0<|Â Æ<|c.g-t.g).gS 1<|Ò Ý).gS 2<|Â Æ a;apply õ (WQ U U (fw.tT (tl:=[]) (vs:=[Â Æ<|c.g-t.g,Ò Ý,Â Æ a]) hb) pE vT WS) U;refine⟨U,QP,r.out.1.Gx (Y:=λk=>k=w.heap.size) (((ff.iB (X:=λk=>k=w.heap.size) (p:=⟨w.heap.size,0,Ä⟩) U _).fl<|ff.iB (X:=λk=>k=w.heap.size) (p:=⟨w.heap.size,1,Ä⟩) U _).fl<|ff.iB (X:=λk=>k=w.heap.size) (p:=⟨w.heap.size,2,Ä⟩) U _) (λi q=>by omega) (λi cur q Q=> ?_) Z⟩;have h0:W.heap[w.heap.size]?=_:=r.out.2.2.1;rw[q,h0]at Q;cases Q
 |false=>
  go_enter aK,ah;go_wp2_with (first
   |(with_reducible refine Ĝ U 144 _ U E.lb 0 U (jZ s lv) dd h.out.2.2.2.1 h.out.1 h.out.2.1 h.out.2.2.1 ?_)
   |(with_reducible refine WN U U 144 U 13 U _ _ U U h.out.2.2.2.2.1 h.out.2.2.2.2.2.1 (jZ s lv) h.out.2.2.2.2.2.2.1 h.out.2.2.2.2.2.2.2.1 U U h.out.2.2.2.2.2.2.2.2 ?_;intro l G z I))
  have J:l.heap.size=w.heap.size+1+1:=by simpa using I
  have K:fw (w.heap.size+1) (jZ s lv) 144 l:=by simpa using G
  have n:ff (λ_=>False) w (l.alloc<|Ð #[Å<|Ã ⟨E.lb,0,Ä⟩,Â Ë c.x,Â Ë c.y,Â Æ c.k,Â Ë c.d,Â Æ c.g,Ê Ä 0 0] 282):=((ff.gT _ _ _ _).fl z).fl<|ff.gT _ _ _ _;have L:=ff.gT (λ_=>False) l #[Å<|Ã ⟨E.lb,0,Ä⟩,Â Ë c.x,Â Ë c.y,Â Æ c.k,Â Ë c.d,Â Æ c.g,Ê Ä 0 0] 282;have M:R E (w.heap.size+1+1) c (Ê Ä 0 0) lv [] s f (l.alloc<|Ð #[Å<|Ã ⟨E.lb,0,Ä⟩,Â Ë c.x,Â Ë c.y,Â Æ c.k,Â Ë c.d,Â Æ c.g,Ê Ä 0 0] 282):= ⟨by rw[<-J];exact fw.fN l (CS E.lb c<|Ê Ä 0 0) 282,ć _ _ _ _,H.out.1.fi n id,je H.out.2.1 n λ_ _=>id⟩;have N:fw w.heap.size [Â Æ 0,Ò Ï,Â Æ 0] 252 l:=(fw.fN w [Â Æ 0,Ò Ï,Â Æ 0] 252).fi z id;have S:=acd (F:=F) ok M qt hd H.out.2.2.2.1 H.out.2.2.2.2.1 (H.out.2.2.1.fi n id) H.out.2.2.2.2.2 hx hy Mx vx we hlen;rw[lI]at S;go_at_call 191;apply S.mono;clear S;rintro e W ⟨rfl,QI,QP,o,B⟩;have O:=ach n B Z o;have C:∀{j:Nat} {D:List È} {T:ú},fw j D T l->w.heap.size<=j->fw j D T W:=λ{j D T} hB hj=>by
   refine(hB.fi L id).fi B.fi ?_;have:=hB.lt;rintro(q|q|q|q)
   .omega
   .omega
   .cases q
   .have:=(H.out.2.1.lt j q).2;omega
  have m:=C N<|ß _;have P:=C K Z;have e0:=m.fg 0 _ U;have e1:=m.fg 1 _ U;have e2:=m.fg 2 _ U;have f0:=m.fC 0;have f1:=m.fC 1;have f2:=m.fC 2;have g5:W.cell? ⟨w.heap.size+1+1,5,Ä⟩=Ã (Â Æ t.g):=o.fq.fg 5 _ U;have abb:=o.fq.lt;have r:=fp<|Á O<|Á o<|Á m P;clear O o B m P C M N K n L G z I J;have rg:W.rangeAt (w.heap.size+1) 0 (jZ s lv):=fw.tT (tl:=[]) (by simpa using r.out.2.2.2);have th:W.there E.lb 0 (jZ s lv).toArray.size:=by have:=r.out.1.gI;unfold jz at this;exact this.rM<|by simp only[ă,Ó,o7];omega
  have acn:(À.info? 144).map (·.size)=Ã (jZ s lv).toArray.size:=by rw[h.out.2.2.1];simp
  have uF:=Ķ h.out.2.2.2.2.2.2.2.2;have HNF:=fp<|fw.nf r.out.2.1.gI ok.sH;have HG:=fp<|Á rg<|Á th<|Á acn uF;clear rg th acn uF;go_wp2_with (first
   |(with_reducible refine Ĝ U 144 _ U (w.heap.size+1) 0 U (jZ s lv) dd HG.out.1 h.out.1 h.out.2.1 h.out.2.2.1 ?_)
   |(with_reducible refine aof U 144 _ _ U E.lb (jZ s lv) U U HG.out.2.1 HG.out.2.2.1 HG.out.2.2.2 ?_;intro jX Bs;have kb:ff (λk=>k=E.lb) W jX:=(by rw[Bs];exact Mz _ _ _ HNF.out);have u:=r.out.2.2.1.fi kb Z;have p0:=u.fg 0 _ U;have p1:=u.fg 1 _ U;have p2:=u.fg 2 _ U;have y0:=u.fC 0;have y1:=u.fC 1;have y2:=u.fC 2;have WU:=r.out.2.1.fq.fi kb Z;have p5:jX.cell? ⟨w.heap.size+1+1,5,Ä⟩=Ã (Â Æ t.g):=WU.fg 5 _ U;have hl4:=WU.lt;have HB4:=fp u;clear kb u WU;have HW:=fp Bs;clear Bs))
  let⟨d2,pE,vT⟩:=Ì.1 WR;have hb:=((HB4.out.gS 0<|Â Æ<|c.g-t.g).gS 1<|Ò Ï).gS 2<|Â Æ a;apply õ (WQ U U (fw.tT (tl:=[]) (vs:=[Â Æ<|c.g-t.g,Ò Ï,Â Æ a]) hb) pE vT WS) U;have u:jl E lv f.length w s f jX lv:=by rw[HW.out];exact r.out.1.pX ok H.out.2.1
  refine⟨U,lv,u.Gx (Y:=λk=>k=w.heap.size) (((ff.iB (X:=λk=>k=w.heap.size) (p:=⟨w.heap.size,0,Ä⟩) U _).fl<|ff.iB (X:=λk=>k=w.heap.size) (p:=⟨w.heap.size,1,Ä⟩) U _).fl<|ff.iB (X:=λk=>k=w.heap.size) (p:=⟨w.heap.size,2,Ä⟩) U _) (λi q=>by omega) (λi cur q Q=> ?_) Z⟩;have h0:jX.heap[w.heap.size]?=_:=HB4.out;rw[q,h0]at Q;cases Q
end
def I8:Nat->oF
 |0=>λs a _ _ _ _=>⟨0,Ï,0,s,a⟩
 |n+1=>λs a x y g k=>xl (I8 n) ⟨x,y,k,4-(n:Int),g⟩ s a
def aog{F:oF}(d:rR F){c:RC}{s:St}{a:List (Nat×Int)}(b:iE s)(e:c.x<8)(f:c.y<8)(i:gP c.k)(j:0<=c.g)(l:c.g<=100000)(m:(a.length:Int)+c.g<=1000000):ab6 a c.g (xl F c s a):=by
 have h:=ace d b e f i j l m;have p:=h.g0;have n:=h.g1;have o:=h.ls;simp only at n o;unfold xl;refine⟨by simp only;omega,by simp only;omega,?_,h.ly,?_⟩
 .simp only;split
  .exact h.s
  .exact b
 .simp only;split<;>omega
def MD:∀n,rR<|I8 n
 |0=>λs a x y g k b _ _ _ d _ _=>⟨Ø _,d,b,yE,by show(a.length:Int)<=a.length+0;omega⟩
 |n+1=>λs a x y g k b d e f h i j=>aog (c:=⟨x,y,k,4-(n:Int),g⟩) (MD n) b d e f h i j
def aco:∀n,n<=3->xj (I8<|n+1) (4-(n:Int))
 |0,_=>λE a s t u x y g k w b d f i j l m o p r=>aci (c:=⟨x,y,k,4-((0:Nat):Int),g⟩) (F:=I8 0) a (show(0:Int)<=4-((0:Nat):Int) by decide) (show(4:Int)-((0:Nat):Int)<=4 by decide) (λq=>absurd q<|show¬(4:Int)-((0:Nat):Int)<4 by decide) (MD 0) b d f i j l p m o r
 |n+1,h=>λE a s t u x y g k w b d f i j l m o p r=>by
  have q:=aco n Z;have e:(4:Int)-((n+1:Nat):Int)+1=4-(n:Int):=Z
  exact aci a (by show 0<=4-((n+1:Nat):Int);omega) (by show 4-((n+1:Nat):Int)<=4;omega) (λ_=>by show xj _ (4-((n+1:Nat):Int)+1);rwa[e]) (MD<|n+1) b d f i j l p m o r
def gR:oF:=I8 4
def QR:rR gR:=MD 4
def acp:xj gR 1:=aco 3 A
def jz.qk{tl:List È}{s:St}(h:jz b T tl s v w)(k:ff X w u)(a:¬X b):jz b T tl s v u:=fw.fi h k a
section
variable{E:jT}{lv f:È}{w1:Ç}{s C d:St}{ls r B:List (Nat×Int)}
def jl.fY(a:jz E.lb E.T E.tl s lv w)(b:w.ownsRow 0 257 2 lv ls.length (lQ ls)):jl E lv ls.length w s ls w lv:= ⟨a,b,ff.fY _ _,λ_ q=>Û q,λ_ _ _ c d=>⟨c,d⟩⟩
def jl.fl(h:jl E lv n w C r w1 jQ)(k:jl E jQ r.length w1 d B u f):jl E lv n w d B u f:=by
 refine⟨k.gI,k.jv,h.fi.kj k.fi ?_,λj q=> ?_,λa b c g m=> ?_⟩
 .rintro i o (e|e)
  .exact Û e
  .exact Ü<|(h.l i e).resolve_right Z
 .rcases k.l j q with e|e
  .exact h.l j e
  .exact Ü<|ï h.fi.fh e
 .let⟨e,i⟩:=h.ja a b c g m;exact k.ja a b c e i
def jl.gu(h:jl E lv n w s ls w1 jQ)(k:ff (λ_=>False) w1 u):jl E lv n w s ls u jQ:= h.Gx k (λ_=>Ĥ) (λ_ _=>Ĥ) id
def jl.iB(ok:E.Ok)(h:jl E lv n w s ls w1 jQ)(i:Nat)(k:jz E.lb E.T E.tl d jQ (w1.setCell ⟨E.lb,i,Ä⟩ v)):jl E lv n w d ls (w1.setCell ⟨E.lb,i,Ä⟩ v) jQ:=by have e:=ff.iB (X:=λk=>k=E.lb) (p:=⟨E.lb,i,Ä⟩) U v<|Ü<|fw.nf h.gI ok.sH;have f:∀{a b c},w1.ownsRow 0 257 2 a b c->(w1.setCell ⟨E.lb,i,Ä⟩ v).ownsRow 0 257 2 a b c:=λ{a b c} q=>je q e λj o y=>kP q h.gI ok.CU.symm (by rw[o,y]);exact⟨k,f h.jv,h.fi.kj e λi _ q=>Û q,h.l,λa b c g m=>⟨f (h.ja a b c g m).1,(h.ja a b c g m).2⟩⟩
def jl.fH(ok:E.Ok)(h:jl E lv n w s ls w1 jQ)(a:i<8)(x:Int):jl E lv n w (s.fH i x) ls (w1.setCell ⟨E.lb,i*18,Ä⟩<|Â Æ x) jQ:=h.iB ok _<|h.gI.pb a x
def jl.xi(ok:E.Ok)(h:jl E lv n w s ls w1 jQ)(a:i<8)(x:ByteArray):jl E lv n w (s.xi i x) ls (w1.setCell ⟨E.lb,i*18+1,Ä⟩<|Í x) jQ:=h.iB ok _<|h.gI.am6 a x
end
def Bt(s:St)(x y:Nat)(n:Int):Bool×St:=
 if(s x).fH<n+10 then(Ï,s)else(Ý,(s.fH x<|(s x).fH-(n+10)).fH y<|wu<|(s.fH x ((s x).fH-(n+10)) y).fH+n)
section
variable{E:jT}{lv:È}{s:St}{ls:List (Nat×Int)}
def aoh(ok:E.Ok)(c:jz E.lb E.T E.tl s lv w)(g:w.ownsRow 0 257 2 lv ls.length (lQ ls))(f:iE s)(x y:Nat)(n:Int)(a:x<8)(d:y<8)(h:0<=n)(i:n<=1000000): Ô À 168 #[Å<|Ã ⟨E.lb,0,Ä⟩,Â Ë x,Â Ë y,Â Æ n] w λe m=>e=É (Ò (Bt s x y n).1)/\jl E lv ls.length w (Bt s x y n).2 ls m lv:=by
 have j:=fw.lt c;have k:=c.fH a;have l:=fw.fC c<|x*18;have o:=(f.fH x).1;have p:=(f.fH x).2;have q:∀m,((w.drewN m).setCell ⟨E.lb,x*18,Ä⟩<|Â Æ<|(s x).fH-(n+10)).cell? ⟨E.lb,y*18,Ä⟩=Ã (Â Æ (s.fH x ((s x).fH-(n+10)) y).fH):=λm=>((c.qk (ff.iA (λ_=>False) w m) id).pb a _).fH d;have r:∀m,((w.drewN m).setCell ⟨E.lb,x*18,Ä⟩<|Â Æ<|(s x).fH-(n+10)).frozen? ⟨E.lb,y*18,Ä⟩=Ï:=λm=>fw.fC ((c.qk (ff.iA (λ_=>False) w m) id).pb a _) _;have t:=(c.pb a<|(s x).fH-(n+10)).fH d;have u:=fw.fC (c.pb a<|(s x).fH-(n+10))<|y*18;have H:=fp<|jl.fY c g;unfold Bt;by_cases e:(s x).fH<n+10
 .rw[if_pos e];generalize(s x).fH=b at*;go_enter aL,ai;go_wp2_with fail;go_ret;exact⟨U,H.out⟩
 .rw[if_neg e];generalize(s.fH x ((s x).fH-(n+10)) y).fH=b2 at*;generalize(s x).fH=b at*;go_enter aL,ai;go_wp2_with fail;go_region;go_wp2_with fail;go_region;go_wp2_with fail;go_ret;refine⟨U,?_⟩;first
   |exact((H.out.fH ok a _).fH ok d _).gu<|ff.iA _ _ _
   |exact(((H.out.gu<|ff.iA _ _ _).fH ok a _).fH ok d _)
   |exact(((H.out.gu<|ff.gi _ _).fH ok a _).gu<|ff.gi _ _).fH ok d _
   |exact((H.out.fH ok a _).fH ok d _).still<|(Keep.drew _ _).trans<|Keep.drew _ _
end
def aoi(a:lN w)(p:Ċ)(n:Nat):lN (w.freeze p n):=by
 unfold ĕ;split
 .exact a
 .intro i o h;simp only[Ú]at h;split at h
  .cases b:w.heap[i]? with
   |none=>rw[b]at h;cases h
   |some d=>
    have:=a _ _ b;rw[b]at h;cases d with
    |cells c t z=>simp only[ì,ê]at h;subst h;exact λx=>x
    |_=>exact absurd trivial this
  .exact a i o h
def acr(a:vW m w)(p:Ċ)(n:Nat):vW m (w.freeze p n):=by
 unfold ĕ;split
 .exact a
 .intro i c T f e h b;simp only[Ú]at h;split at h
  .cases d:w.heap[i]? with
   |none=>rw[d]at h;cases h
   |some g=>
    rw[d]at h;cases g with
    |cells j t z=>
     simp only[ì,ê,Į]at h;rw[<-h.1];rw[<-h.2.1]at b;exact a _ _ _ _ e d b
    |_=>cases h
  .exact a i c T f e h b
def aoj{w w1:World}{g:Nat}{cur Y:Array Value}{e:TypeId}{z:Nat×Nat}(hw:ff (λ_=>False) w w1)(hg:w1.heap[g]?=some (.cells cur e z))(avD:w.heap.size<=g)(he:oD e=false:=by decide):ff (λ_=>False) w (w1.setRow g Y):=by
 refine⟨by simpa using hw.fh,λk hk _=>(Ġ w1 g k Y Z).trans<|hw.fu k hk id,λal i o ho=> ?_,λm a i c T fr hm h hT=> ?_⟩;rotate_left
 .by_cases hi:i=g
  .subst hi;rw[Ĩ w1 i cur Y e z hg]at h;cases h;rw[he]at hT;cases hT
  .rw[Ġ w1 g i Y hi]at h;exact hw.sH m a i c T fr hm h hT
 by_cases hi:i=g
 .subst hi;rw[Ĩ w1 i cur Y e z hg]at ho;cases ho;exact λx=>x
 .rw[Ġ w1 g i Y hi]at ho;exact hw.iU al i o ho
def aol(b:ff (λ_=>False) w u)(e:w.heap.size<=p.block):ff (λ_=>False) w (u.freeze p n):=by
 refine⟨?_,λk c _=> ?_,λd=>aoi (b.iU d) p n,λm a=>acr (b.sH m a) p n⟩
 .unfold ĕ;split
  .exact b.fh
  .simpa using b.fh
 .unfold ĕ;split
  .exact b.fu k c id
  .simp only[Ú];rw[if_neg Z];exact b.fu k c id
def WV:(À.info? 5).map (λi=>(i.zero,i.size,i.bytes))=Ã (Ã<|Â bx 0,1,1):=fF
def aom(n:Nat)(e:n<=1000000):∃M:Array È,M.size=n/\∀W:Ç,(Instr.makeSlice 107 (Â Ë (n:Int))<|Â Ë (n:Int)).run À W=aA (Ê (Ã ⟨W.heap.size,0,Ä⟩) n n) (W.alloc<|Ð M 5):=by let⟨i,a,b,c,d⟩:=ò WV;refine⟨madeCells (Â bx 0).cells<|(n:Int).toNat*i.size,by rw[size_madeCells,c];simp,λW=> ?_⟩;simpa using run_make W 107 5 i (Â bx 0) Ă a b Ë Ë n n Z Z (by rw[d];omega) Z
def aon{M:Array È}(b:M.size=B.size)(c:W.heap[i]?=Ã (Ð M 5 (0,0))): (aj #[107,9] 3 #[Ê (Ã ⟨i,0,Ä⟩) B.size B.size,Í B]).run À W=aA (goInt B.size) (W.setRow i (û B.data.toList).toArray):=by let⟨a,d,_,e,_⟩:=ò WV;have h:=Lib.run_copy_row_string W 107 9 3 5 i 0 B.size B.size B M 5 Ă (by rw[d];simp[e]) c (ß _) Z;simpa[List.drop_of_length_le,b]using h
def aoo(d:B.size≠0)(m:B.size<=1000000)(c:W.heap[i]?=Ã (Ð (û B.data.toList).toArray 5 (0,0))): (ş #[177,3] 9 #[Å<|Ã ⟨i,0,Ä⟩,Â Ë (B.size:Int)]).run À W=aA (Í B) (W.freeze ⟨i,0,Ä⟩ B.size):=by
 let⟨a,f,_,k,_⟩:=ò WV;have b:=Lib.size_eq B;have l:(û B.data.toList).toArray.size=B.size:=by rw[ă,ŧ,<-b]
 have h:=ņ W 177 3 9 5 ŵ (by simp[Program.cellsOf,f,k]) i B.size (by unfold Β;rw[c];simp only[l]) B.data.toList (by intro e;rw[e]at b;exact d b) Z Z (λj x e=>Lib.cells_of_row c _ j _<|by rw[List.take_of_length_le<|ß _];simp[û,e]);rwa[<-b]at h
def aop(s:ByteArray)(a:s.size<=1000000)(w:Ç):Ô À 196 #[Í s] w λe c=>e=É (Í s)/\ff (λ_=>False) w c:=by
 by_cases b:s.size=0
 .have d:=bM<|Array.eq_empty_of_size_eq_zero b;subst d;go_enter aN,ak;go_wp2;go_ret;exact⟨U,ff.fY _ _⟩
 .let⟨M,d,mk⟩:=aom s.size a;have g:=aon d<|ð w<|Ð M 5;have h:=aoo b a<|Ĩ (w.alloc<|Ð M 5) w.heap.size M (û s.data.toList).toArray 5 (0,0)<|ð w _;have f:=fp (aol (p:=⟨w.heap.size,0,Ä⟩) (n:=s.size) (aoj (Y:=(û s.data.toList).toArray) (ff.gT (λ_=>False) w M 5) (ð w _)<|ß _)<|ß _);generalize(û s.data.toList).toArray=Y at*;go_enter aN,ak;go_wp2;go_ret;exact⟨U,f.out⟩
def aoq(s:ByteArray)(a:s.size<=1000000)(w:Ç):Ô À 186 #[Í s] w λe b=>e=É (Í s)/\ff (λ_=>False) w b:=by go_enter Tryz.func186,Tryz.ntmps186;go_wp2_with (go_at_call 196;refine(aop s a _).mono ?_;rintro e d ⟨rfl,c⟩);go_ret;exact⟨U,c⟩
def Bu(s:St)(x:Nat)(p:ByteArray):Bool×St:=
 if(s x).fH<20 then(Ï,s)else(Ý,(s.fH x<|(s x).fH-20).xi x p)
def C0{t u:Tmp}{cs:List È}{d:TypeDesc}(h:s.results=#[.cell t T,.tmp u])(a:q.getD t ĉ=Å (Ã ⟨b,0,Ä⟩))(c:w.rangeAt b 0 cs)(e:P.underlying T=Ã d)(f:d.isRow=Ý)(g:(P.info? T).map (·.size)=Ã cs.length): (aJ s q).run P w=aA (é #[ė cs.toArray,q.getD u ĉ]) w:=by have i:=ν w b 0 T cs d c e f g;rw[Ĺ]at a;simp only[aJ,h];simp[a,asAddr,i]
def ME:(À.underlying 246).map ľ=Ã Ý:=fF
def GF:(À.info? 246).map (·.size)=Ã 2:=fF
section
variable{E:jT}{lv:È}{s:St}{ls:List (Nat×Int)}
def aor(ok:E.Ok)(a:jz E.lb E.T E.tl s lv w)(h:w.ownsRow 0 257 2 lv ls.length (lQ ls))(f:iE s)(x:Nat)(p:ByteArray)(c:x<8)(i:p.size<=1000000): Ô À 169 #[Å<|Ã ⟨E.lb,0,Ä⟩,Â Ë x,Í p] w λe d=>e=É (Ò (Bu s x p).1)/\jl E lv ls.length w (Bu s x p).2 ls d lv:=by
 have k:=fw.lt a;have l:=a.fH c;have m:=fw.fC a<|x*18;have n:=(f.fH x).1;have o:=(f.fH x).2;have q:(0:Int)<=(x:Int):=Z
 have r:(x:Int)<8:=Z
 have H:=fp<|jl.fY a h;unfold Bu;by_cases g:(s x).fH<20
 .rw[if_pos g];generalize(s x).fH=b at*;go_enter aO,ar;go_wp2_with fail;go_ret;exact⟨U,H.out⟩
 .rw[if_neg g];generalize(s x).fH=b at*;go_enter aO,ar;go_wp2_with fail;go_region;go_wp2_with fail;go_region_held3 (λ_=>True) (trivial) (first
    |(go_at_call 186;refine(aoq p i _).mono ?_;rintro e t ⟨rfl,j⟩;dsimp only;have d:=((H.out.fH ok c (b-20)).gu (ff.iA (λ_=>False) _ 2)).gu j;have u:=d.gI.xi c;have v:=fw.fC d.gI (x*18+1)))
  go_wp2_with fail
  go_ret;exact⟨U,d.xi ok c p⟩
def C3(s:St)(ls:List (Nat×Int))(x y:Nat)(n k:Int):(Int×Bool)×Bool×St×List (Nat×Int):=
 if n<10\/400<n\/(s x).fH<n then((0,Ï),Ï,s,ls)
 else(((gR (s.fH x<|(s x).fH-n) ls x y (n-10) k).jO+10,(gR (s.fH x<|(s x).fH-n) ls x y (n-10) k).lk),Ý,
  (gR (s.fH x ((s x).fH-n)) ls x y (n-10) k).s.fH x (wu (((gR (s.fH x ((s x).fH-n)) ls x y (n-10) k).s x).fH+(n-((gR (s.fH x ((s x).fH-n)) ls x y (n-10) k).jO+10)))),(gR (s.fH x ((s x).fH-n)) ls x y (n-10) k).ls)
def aos(a:jz E.lb E.T E.tl s lv w)(c:w.ownsRow 0 257 2 lv ls.length (lQ ls))(x y:Nat)(n k:Int)(d:x<8)(j:0<=n)(l:n<10\/400<n\/(s x).fH<n): Ô À 170 #[Å<|Ã ⟨E.lb,0,Ä⟩,Â Ë x,Â Ë y,Â Æ n,Â Æ k] w λe H=>e=É (é #[ė #[Â Æ 0,Ò Ï],Ò Ï])/\jl E lv ls.length w s ls H lv:=by
 have m:=fw.lt a;have o:=a.fH d;have p:(0:Int)<=(x:Int):=Z
 have q:(x:Int)<8:=Z
 let⟨r,f,g⟩:=Ì.1 ME;have H:=fp<|Á (jl.fY a c)<|Á f g;generalize(s x).fH=b at*;by_cases h:n<10
 .go_enter ő,Ň;go_wp2_with fail;have e:=ff.gT (λ_=>False) w #[Â Æ 0,Ò Ï] 246;apply õ (C0 U U (fw.tT (vs:=[Â Æ 0,Ò Ï])<|fw.fN w [Â Æ 0,Ò Ï] 246) H.out.2.1 H.out.2.2 GF) U;exact⟨U,H.out.1.gu e⟩
 .have t:=decide_eq_false h;by_cases i:400<n
  .go_enter ő,Ň;go_wp2_with fail;have e:=ff.gT (λ_=>False) w #[Â Æ 0,Ò Ï] 246;apply õ (C0 U U (fw.tT (vs:=[Â Æ 0,Ò Ï])<|fw.fN w [Â Æ 0,Ò Ï] 246) H.out.2.1 H.out.2.2 GF) U;exact⟨U,H.out.1.gu e⟩
  .have u:=decide_eq_false i;have v:b<n:=Z
   go_enter ő,Ň;go_wp2_with fail;have e:=ff.gT (λ_=>False) w #[Â Æ 0,Ò Ï] 246;apply õ (C0 U U (fw.tT (vs:=[Â Æ 0,Ò Ï])<|fw.fN w [Â Æ 0,Ò Ï] 246) H.out.2.1 H.out.2.2 GF) U;exact⟨U,H.out.1.gu e⟩
def aot(ok:E.Ok)(a:jz E.lb E.T E.tl s lv w)(l:w.ownsRow 0 257 2 lv ls.length (lQ ls))(m:jK w)(g:iE s)(x y:Nat)(n k:Int)(c:x<8)(B:y<8)(D:gP k)(L9:10<=n)(yz:n<=400)(avE:n<=(s x).fH)(hlen:(ls.length:Int)+n<=1000000)(r:Gz)(o:r=gR (s.fH x<|(s x).fH-n) ls x y (n-10) k): Ô À 170 #[Å<|Ã ⟨E.lb,0,Ä⟩,Â Ë x,Â Ë y,Â Æ n,Â Æ k] w λe t=>e=É (é #[ė #[Â Æ<|r.jO+10,Ò r.lk],Ò Ý])/\∃u,jl E lv ls.length w (r.s.fH x<|wu<|(r.s x).fH+(n-(r.jO+10))) r.ls t u:=by
 have iy:=fw.lt a;have d1:=a.fH c;have f1:=fw.fC a<|x*18;have hx0:(0:Int)<=(x:Int):=Z
 have Ef:(x:Int)<8:=Z
 have b0:=(g.fH x).1;have b1:=(g.fH x).2;have v:iE (s.fH x<|(s x).fH-n):=g.pb x ⟨Z,Z⟩;have h:=QR _ ls x y (n-10) k v c B D Z Z Z;have F:=jl.fY a l;have C:∀W j,jl E lv ls.length w (s.fH x<|(s x).fH-n) ls W j->jK W->Ô À 173 #[Å<|Ã ⟨E.lb,0,Ä⟩,Â Ë x,Â Ë y,Â Æ<|n-10,Â Æ k,Â Ë 1] W λe t=>e=É (ė #[Â Æ r.jO,Ò r.lk,Â Æ r.ly])/\∃u,jl E j ls.length W r.s r.ls t u:=λW j G P=>by rw[o];exact acp E ok _ j ls x y (n-10) k W G.gI G.jv P v c B Z Z D Z
 rw[<-o]at h;have u0:=h.I4;have u1:=h.I5;let⟨d2,I,J⟩:=Ì.1 ME;have K:∀i,jK (w.setCell ⟨E.lb,i,Ä⟩<|Â Æ<|(s x).fH-n):=λi=>m.fi (ff.iB (X:=λk=>k=E.lb) U _) λq=>m.fX a ok.abY q.symm;have H:=fp<|Á F<|Á C<|Á K<|Á I<|Á J l;clear a l m g v h F C K I J o;generalize(s x).fH=b at*;have e1:decide (n<10)=Ï:=decide_eq_false Z;have e2:decide (400<n)=Ï:=decide_eq_false Z;have e3:decide (b<n)=Ï:=decide_eq_false Z;generalize Q:(r.s x).fH=b2;go_enter ő,Ň;go_wp2_with fail;have L:=(H.out.1.fH ok c<|b-n).gu (ff.gT (λ_=>False) _ #[Â Æ 0,Ò Ï] 246);go_at_call 173;refine(H.out.2.1 _ _ L<|(H.out.2.2.1 _).fi (ff.gT (λ_=>False) _ _ _) id).mono ?_;rintro e V ⟨rfl,Y,f⟩;have d:fw w.heap.size [Â Æ 0,Ò Ï] 246 V:=by
  have z:fw w.heap.size [Â Æ 0,Ò Ï] 246 ((w.setCell ⟨E.lb,x*18,Ä⟩<|Â Æ<|b-n).alloc<|Ð #[Â Æ 0,Ò Ï] 246):=by have:=fw.fN (w.setCell ⟨E.lb,x*18,Ä⟩<|Â Æ<|b-n) [Â Æ 0,Ò Ï] 246;simpa using this
  refine z.fi f.fi ?_;rintro(q|q)
  .omega
  .have:=(H.out.2.2.2.2.2.lt _ q).2;omega
 have m1:=f.gI.fH c;have z1:=fw.fC f.gI<|x*18;have F8:=fw.lt f.gI;have hl2:=d.lt;have c0:=d.fg 0 _ U;have c1:=d.fg 1 _ U;have y0:=d.fC 0;have y1:=d.fC 1;have M:=fp<|Á (L.fl f) d;rw[Q]at m1;go_wp2_with fail;go_region;go_wp2_with fail;have q1:=M.out.1.fH ok c<|wu<|b2+(n-(r.jO+10));have N:=M.out.2.fi (ff.iB (X:=λk=>k=E.lb) (p:=⟨E.lb,x*18,Ä⟩) U<|Â Æ<|wu<|b2+(n-(r.jO+10))) Z;have q2:=q1.Gx ((ff.iB (X:=λk=>k=w.heap.size) (p:=⟨w.heap.size,0,Ä⟩) U<|Â Æ<|r.jO+10).fl<|ff.iB (X:=λk=>k=w.heap.size) (p:=⟨w.heap.size,1,Ä⟩) U<|Ò r.lk) (λi q=>by omega) (λi cur q O=>by have z:=N;rw[q,z]at O;cases O) Z;have z:∀W:Ç,∀O,ff (λ_=>False) W ((W.alloc<|Ð O 252).drew):=λW O=>(ff.gT _ _ _ _).fl<|ff.gi _ _;have hb:=(((N.gS 0<|Â Æ<|r.jO+10).gS 1<|Ò r.lk)).fi (z _ #[Â Æ<|r.jO+10,Ò r.lk,Â Æ r.ly]) id;apply õ (C0 U U (fw.tT (vs:=[Â Æ<|r.jO+10,Ò r.lk]) hb) H.out.2.2.2.1 H.out.2.2.2.2.1 GF) U;exact⟨U,Y,q2.gu<|z _ _⟩
end
structure Tx where
 x:Nat
 y:Nat
 n:Int
 k:Int
 oH:Int
 iN:ByteArray
structure ot(a:Nat)(t:Tx)(w:Ç):Prop where
 ty:∃cs fz,w.heap[a]?=Ã (Ð cs 200 fz)
 c0:w.cell? ⟨a,0,Ä⟩=Ã (Â Ë t.x)
 c1:w.cell? ⟨a,1,Ä⟩=Ã (Â Ë t.y)
 c2:w.cell? ⟨a,2,Ä⟩=Ã (Â Ë t.n)
 c3:w.cell? ⟨a,3,Ä⟩=Ã (Â Ë t.k)
 c4:w.cell? ⟨a,4,Ä⟩=Ã (Â Ë t.oH)
 c5:w.cell? ⟨a,5,Ä⟩=Ã (Í t.iN)
structure Tx.Ok(t:Tx):Prop where
 x:t.x<8
 y:t.y<8
 n0:0<=t.n
 n1:t.n<1000000
 k0:0<=t.k
 k1:t.k<1000000
 iN:t.iN.size<=40/\∀c∈t.iN.data.toList,Bo c=Ý
def ot.lt{t:Tx}(h:ot i t w):i<w.heap.size:=ä w _ h.c0
def ot.fi{a:Nat}{t:Tx}{w':Ç}(h:ot a t w)(k:ff X w w')(b:¬X a):ot a t w':=by let⟨c,d,e⟩:=h.ty;exact⟨⟨c,d,by rwa[k.fu a h.lt b]⟩,k.fg h.c0 b,k.fg h.c1 b,k.fg h.c2 b,k.fg h.c3 b,k.fg h.c4 b,k.fg h.c5 b⟩
def ot.fX{t:Tx}(h:ot i t w){cs:Array È}(c:w.heap[j]?=Ã (Ð cs T xJ))(d:T≠200):i≠j:=by rintro rfl;let⟨e,f,b⟩:=h.ty;rw[c]at b;cases b;exact d U
def ot.Bp{E:jT}{t:Tx}{s c:St}{ls b:List (Nat×Int)}(d:E.T≠200)(h:ot i t w)(e:jz E.lb E.T E.tl c v w)(f:w.ownsRow 0 257 2 v b.length (lQ b))(r:jl E v n w s ls u x):ot i t u:=by
 refine h.fi r.fi ?_;rintro(q|q)
 .exact h.fX e d q
 .let⟨j,g⟩:=nS f q;exact h.fX g A U
def oI(s:St)(ls:List (Nat×Int))(t:Tx):(Int×Bool)×Bool×St×List (Nat×Int):=
 if t.oH=1 then((10,Ý),(Bt s t.x t.y t.n).1,(Bt s t.x t.y t.n).2,ls)
 else if t.oH=2 then((20,Ý),(Bu s t.x t.iN).1,(Bu s t.x t.iN).2,ls)
 else C3 s ls t.x t.y t.n t.k
def I9(a:0<=h)(b:h<1000000):Æ.wrap h=h:=by show wu h=h;exact am8 a Z
def MG(E:jT)(a:È)(n:Nat)(w:Ç)(o:(Int×Bool)×Bool×St×List (Nat×Int))(e:aP)(b:Ç):Prop:=
 e=É (é #[ė #[Â Æ o.1.1,Ò o.1.2],Ò o.2.1])/\∃c,jl E a n w o.2.2.1 o.2.2.2 b c
def aou{E:jT}{s:St}{ls:List (Nat×Int)}(ok:E.Ok)(b:jz E.lb E.T E.tl s v w)(c:w.ownsRow 0 257 2 v ls.length (lQ ls))(f:jK w)(g:iE s)(x y:Nat)(n k:Int)(d:x<8)(i:y<8)(j:gP k)(l:0<=n)(m:(ls.length:Int)+400<=1000000): Ô À 170 #[Å<|Ã ⟨E.lb,0,Ä⟩,Â Ë x,Â Ë y,Â Æ n,Â Æ k] w (MG E v ls.length w<|C3 s ls x y n k):=by
 unfold C3;by_cases a:n<10\/400<n\/(s x).fH<n
 .rw[if_pos a];exact(aos b c x y n k d l a).mono λe o h=>⟨h.1,v,h.2⟩
 .rw[if_neg a];exact aot ok b c f g x y n k d i j Z Z Z Z _ U
def jl.WW{E:jT}{s:St}{ls:List (Nat×Int)}(k:ff (λ_=>False) w W)(r:jl E v n W s ls u x):jl E v n w s ls u x:= ⟨r.gI,r.jv,(k.ft λ_ _=>Ĥ).kj r.fi λ_ _ q=>q,λj q=>(r.l j q).imp id λe=>ï k.fh e,λa b c d f=>r.ja a b c (je d k λ_ _=>id) f⟩
section
variable{E:jT}{lv:È}{s:St}{ls:List (Nat×Int)}{a:Nat}{t:Tx}
def WX{CN:Value}{w1:World}{n:Nat}{s1:St}{ls1:List (Nat×Int)}(r:jl E lv n w s1 ls1 w1 CN)(hB:fw w.heap.size [.int .u64 0,.bool false] 246 w1)(hlb:E.lb<w.heap.size)(v0 v1:Value)(hf0:lP v0=true:=by rfl)(hf1:lP v1=true:=by rfl): jl E lv n w s1 ls1 ((w1.setCell ⟨w.heap.size,0,none⟩ v0).setCell ⟨w.heap.size,1,none⟩ v1) CN/\fw w.heap.size [v0,v1] 246 ((w1.setCell ⟨w.heap.size,0,none⟩ v0).setCell ⟨w.heap.size,1,none⟩ v1):=by refine⟨r.Gx (Y:=λk=>k=w.heap.size) ((ff.iB (X:=λk=>k=w.heap.size) (p:=⟨w.heap.size,0,Ä⟩) U v0<|Û hf0).fl<|ff.iB (X:=λk=>k=w.heap.size) (p:=⟨w.heap.size,1,Ä⟩) U v1<|Û hf1) (λi q=>by omega) (λi cur q hc=> ?_) Z,(hB.gS 0 v0).gS 1 v1⟩;have h0:w1.heap[w.heap.size]?=_:=hB;rw[q,h0]at hc;cases hc
def WY{W:Ç}{a:St}{b:List (Nat×Int)}{cs:List È}(c:jX=(w.alloc<|Ð cs.toArray T).drewN 1\/jX=w.alloc (Ð cs.toArray T))(d:w.ownsRow 0 257 2 lv ls.length (lQ ls))(f:E.lb<w.heap.size)(r:jl E lv n jX a b u v):fw w.heap.size cs T u:=by
 have e:fw w.heap.size cs T jX:=by
  rcases c with rfl|rfl
  .exact fw.fN w cs T
  .exact fw.fN w cs T
 refine e.fi r.fi ?_;rintro(q|q)
 .omega
 .have:=(d.lt _ q).2;omega
def aov(ok:E.Ok)(V:E.T≠200)(m:jz E.lb E.T E.tl s lv w)(o:w.ownsRow 0 257 2 lv ls.length (lQ ls))(B:jK w)(D:iE s)(d:ot a t w)(f:t.Ok)(hlen:(ls.length:Int)+400<=1000000)(F:t.oH=1): Ô À 154 #[Å<|Ã ⟨E.lb,0,Ä⟩,Å<|Ã ⟨a,0,Ä⟩] w (MG E lv ls.length w<|oI s ls t):=by
 have G:=fw.lt m;have hla:=d.lt;have Y:=d.c0;have c1:=d.c1;have c2:=d.c2;have c3:=d.c3;have c4:=d.c4;have c5:=d.c5;have hn:=I9 f.n0 f.n1;have hk:=I9 f.k0 f.k1;let⟨d2,I,J⟩:=Ì.1 ME;have L:=fp<|Á I J;clear I J;have h:=(ff.gT (λ_=>False) w #[Â Æ 0,Ò Ï] 246).fl<|ff.gi _ _;have u:=m.qk h id;have v:=je o h λ_ _=>id;have c:=d.fi h id;have RA:=B.fi h id;rw[F]at c4;have M:oI s ls t=((10,Ý),(Bt s t.x t.y t.n).1,(Bt s t.x t.y t.n).2,ls):=by unfold oI;rw[if_pos F]
 rw[M];have C:=aoh (ls:=ls) ok u v D t.x t.y t.n f.x f.y f.n0 (by have:=f.n1;omega);have N:∀(l:Ç) (O:St) (P:List (Nat×Int)) (Q:È),jl E lv ls.length _ O P l Q->ot a t l:=λl O P Q r=>ot.Bp V c u v r;have H:=fp<|Á C<|Á o N;clear C N m o B D d f u v RA M;go_enter Γ,ű;go_wp2_with fail;have b:=fp<|Á c.c0<|Á c.c1<|Á c.c2<|Á c.c3 c.c5;clear Y c1 c2 c3 c5 c;refine oG (λe=>e.cell? ⟨a,0,Ä⟩=Ã (Â Ë t.x)/\e.cell? ⟨a,1,Ä⟩=Ã (Â Ë t.y)/\e.cell? ⟨a,2,Ä⟩=Ã (Â Ë t.n)/\e.cell? ⟨a,3,Ä⟩=Ã (Â Ë t.k)/\e.cell? ⟨a,5,Ä⟩=Ã (Í t.iN)) [22] fF ?_;apply tk 0 b.out;apply tk 1 b.out;apply tk 2 b.out;apply tk 3 b.out;apply tk 4 b.out;apply tk 5 b.out;apply tk 6 b.out;apply tk 7 b.out;apply tk 8 b.out;apply tk 9 b.out;apply tk 10 b.out;apply tk 11 b.out;apply tk 12 b.out;apply tk 13 b.out;apply tk 14 b.out;apply tk 15 b.out;apply tk 16 b.out;apply tk 17 b.out;apply tk 18 b.out;apply tk 19 b.out;apply iu 20;intro K g;go_simp;go_at_call 168;apply H.out.1.mono;rintro e l ⟨rfl,z⟩;dsimp only;have c:=H.out.2.2 _ _ _ _ z;apply g.out _ _ λ_=>⟨c.c0,c.c1,c.c2,c.c3,c.c5⟩;clear g K;have i:=WY (W:=w) (cs:=[Â Æ 0,Ò Ï]) (Û U) H.out.2.1 G z;have e0:=i.fg 0 _ U;have e1:=i.fg 1 _ U;have y0:=i.fC 0;have y1:=i.fC 1;have j:=c.fi ((ff.iB (X:=λk=>k=w.heap.size) (p:=⟨w.heap.size,0,Ä⟩) U<|Â Æ 10).fl<|ff.iB (X:=λk=>k=w.heap.size) (p:=⟨w.heap.size,1,Ä⟩) U<|Ò Ý) Z;apply iu 21;intro K g;go_simp;apply g.out _ _ λ_=>⟨j.c0,j.c1,j.c2,j.c3,j.c5⟩;clear g K;apply iu 22;intro K g;go_simp;apply g.out _ _ λq=>absurd fB q;clear g K;try simp only[ł,Õ,æ,ç]
 refine om fF ?_ _;go_wp2_with fail;let⟨q,q2⟩:=WX (jl.WW h z) i G (Â Æ 10)<|Ò Ý;apply õ (C0 U U (fw.tT (tl:=[]) (vs:=[Â Æ 10,Ò Ý]) q2) L.out.1 L.out.2 GF) U;exact⟨U,lv,q⟩
def aow(ok:E.Ok)(V:E.T≠200)(m:jz E.lb E.T E.tl s lv w)(o:w.ownsRow 0 257 2 lv ls.length (lQ ls))(B:jK w)(D:iE s)(d:ot a t w)(g:t.Ok)(hlen:(ls.length:Int)+400<=1000000)(F:t.oH=2): Ô À 154 #[Å<|Ã ⟨E.lb,0,Ä⟩,Å<|Ã ⟨a,0,Ä⟩] w (MG E lv ls.length w<|oI s ls t):=by
 have G:=fw.lt m;have hla:=d.lt;have Y:=d.c0;have c1:=d.c1;have c2:=d.c2;have c3:=d.c3;have c4:=d.c4;have c5:=d.c5;have hn:=I9 g.n0 g.n1;have hk:=I9 g.k0 g.k1;let⟨d2,I,J⟩:=Ì.1 ME;have L:=fp<|Á I J;clear I J;have h:=(ff.gT (λ_=>False) w #[Â Æ 0,Ò Ï] 246).fl<|ff.gi _ _;have u:=m.qk h id;have v:=je o h λ_ _=>id;have b:=d.fi h id;have RA:=B.fi h id;rw[F]at c4;have M:oI s ls t=((20,Ý),(Bu s t.x t.iN).1,(Bu s t.x t.iN).2,ls):=by unfold oI;rw[if_neg Z,if_pos F]
 rw[M];have C:=aor (ls:=ls) ok u v D t.x t.iN g.x (by have:=g.iN.1;omega);have N:∀(l:Ç) (O:St) (P:List (Nat×Int)) (Q:È),jl E lv ls.length _ O P l Q->ot a t l:=λl O P Q r=>ot.Bp V b u v r;have H:=fp<|Á C<|Á o N;clear C N m o B D d g u v RA M;go_enter Γ,ű;go_wp2_with fail;have c:=fp<|Á b.c0<|Á b.c1<|Á b.c2<|Á b.c3 b.c5;clear Y c1 c2 c3 c5 b;refine oG (λe=>e.cell? ⟨a,0,Ä⟩=Ã (Â Ë t.x)/\e.cell? ⟨a,1,Ä⟩=Ã (Â Ë t.y)/\e.cell? ⟨a,2,Ä⟩=Ã (Â Ë t.n)/\e.cell? ⟨a,3,Ä⟩=Ã (Â Ë t.k)/\e.cell? ⟨a,5,Ä⟩=Ã (Í t.iN)) [15] fF ?_;apply tk 0 c.out;apply tk 1 c.out;apply tk 2 c.out;apply tk 3 c.out;apply tk 4 c.out;apply tk 5 c.out;apply tk 6 c.out;apply tk 7 c.out;apply tk 8 c.out;apply tk 9 c.out;apply tk 10 c.out;apply tk 11 c.out;apply tk 12 c.out;apply iu 13;intro K f;go_simp;go_at_call 169;apply H.out.1.mono;rintro e l ⟨rfl,z⟩;dsimp only;have b:=H.out.2.2 _ _ _ _ z;apply f.out _ _ λ_=>⟨b.c0,b.c1,b.c2,b.c3,b.c5⟩;clear f K;have i:=WY (W:=w) (cs:=[Â Æ 0,Ò Ï]) (Û U) H.out.2.1 G z;have e0:=i.fg 0 _ U;have e1:=i.fg 1 _ U;have y0:=i.fC 0;have y1:=i.fC 1;have j:=b.fi ((ff.iB (X:=λk=>k=w.heap.size) (p:=⟨w.heap.size,0,Ä⟩) U<|Â Æ 20).fl<|ff.iB (X:=λk=>k=w.heap.size) (p:=⟨w.heap.size,1,Ä⟩) U<|Ò Ý) Z;apply iu 14;intro K f;go_simp;apply f.out _ _ λ_=>⟨j.c0,j.c1,j.c2,j.c3,j.c5⟩;clear f K;apply iu 15;intro K f;go_simp;apply f.out _ _ λq=>absurd fB q;clear f K;try simp only[ł,Õ,æ,ç]
 refine om fF ?_ _;go_wp2_with fail;let⟨q,q2⟩:=WX (jl.WW h z) i G (Â Æ 20)<|Ò Ý;apply õ (C0 U U (fw.tT (tl:=[]) (vs:=[Â Æ 20,Ò Ý]) q2) L.out.1 L.out.2 GF) U;exact⟨U,lv,q⟩
def aox(ok:E.Ok)(Y:E.T≠200)(m:jz E.lb E.T E.tl s lv w)(p:w.ownsRow 0 257 2 lv ls.length (lQ ls))(B:jK w)(D:iE s)(f:ot a t w)(d:t.Ok)(hlen:(ls.length:Int)+400<=1000000)(F:t.oH≠1)(G:t.oH≠2): Ô À 154 #[Å<|Ã ⟨E.lb,0,Ä⟩,Å<|Ã ⟨a,0,Ä⟩] w (MG E lv ls.length w<|oI s ls t):=by
 have I:=fw.lt m;have hla:=f.lt;have c0:=f.c0;have c1:=f.c1;have c2:=f.c2;have c3:=f.c3;have c4:=f.c4;have c5:=f.c5;have hn:=I9 d.n0 d.n1;have hk:=I9 d.k0 d.k1;let⟨d2,J,L⟩:=Ì.1 ME;have M:=fp<|Á J L;clear J L;have h:=(ff.gT (λ_=>False) w #[Â Æ 0,Ò Ï] 246).fl<|ff.gi _ _;have u:=m.qk h id;have v:=je p h λ_ _=>id;have c:=f.fi h id;have N:=B.fi h id;have z1:(t.oH==1)=Ï:=by rwa[beq_eq_false_iff_ne]
 have z2:(t.oH==2)=Ï:=by rwa[beq_eq_false_iff_ne]
 have O:oI s ls t=C3 s ls t.x t.y t.n t.k:=by unfold oI;rw[if_neg F,if_neg G]
 rw[O];have C:=aou (ls:=ls) ok u v N D t.x t.y t.n t.k d.x d.y ⟨d.k0,by have:=d.k1;omega⟩ d.n0 hlen;have P:∀(j:Ç) (Q:St) (V:List (Nat×Int)) (l:È),jl E lv ls.length _ Q V j l->ot a t j:=λj Q V l r=>ot.Bp Y c u v r;have H:=fp<|Á C<|Á p P;clear C P m p B D f d u v N O;generalize C3 s ls t.x t.y t.n t.k=o at*;go_enter Γ,ű;go_wp2_with fail;have b:=fp<|Á c.c0<|Á c.c1<|Á c.c2<|Á c.c3 c.c5;clear c0 c1 c2 c3 c5 c;refine oG (λe=>e.cell? ⟨a,0,Ä⟩=Ã (Â Ë t.x)/\e.cell? ⟨a,1,Ä⟩=Ã (Â Ë t.y)/\e.cell? ⟨a,2,Ä⟩=Ã (Â Ë t.n)/\e.cell? ⟨a,3,Ä⟩=Ã (Â Ë t.k)/\e.cell? ⟨a,5,Ä⟩=Ã (Í t.iN)) [26,27] fF ?_;apply tk 0 b.out;apply tk 1 b.out;apply tk 2 b.out;apply tk 3 b.out;apply tk 4 b.out;apply tk 5 b.out;apply tk 6 b.out;apply tk 7 b.out;apply tk 8 b.out;apply tk 9 b.out;apply tk 10 b.out;apply tk 11 b.out;apply tk 12 b.out;apply tk 13 b.out;apply tk 14 b.out;apply tk 15 b.out;apply tk 16 b.out;apply tk 17 b.out;apply tk 18 b.out;apply tk 19 b.out;apply tk 20 b.out;apply tk 21 b.out;apply tk 22 b.out;apply iu 23;intro K g;go_simp;go_at_call 170;apply H.out.1.mono;rintro e j ⟨rfl,l,z⟩;dsimp only;have c:=H.out.2.2 _ _ _ _ z;apply g.out _ _ λ_=>⟨c.c0,c.c1,c.c2,c.c3,c.c5⟩;clear g K;have i:=WY (W:=w) (cs:=[Â Æ 0,Ò Ï]) (Û U) H.out.2.1 I z;have e0:=i.fg 0 _ U;have e1:=i.fg 1 _ U;have y0:=i.fC 0;have y1:=i.fC 1;have X:=Á c.c0<|Á c.c1<|Á c.c2<|Á c.c3 c.c5;have b:=fp X;clear X c;apply tk 24 b.out;apply tk 25 b.out;apply iu 26;intro K g;go_simp;apply g.out _ _ λq=>absurd fB q;clear g K;apply iu 27;intro K g;go_simp;apply g.out _ _ λq=>absurd fB q;clear g K;try simp only[ł,Õ,æ,ç]
 refine om fF ?_ _;go_wp2_with fail;let⟨q,q2⟩:=WX (jl.WW h z) i I (Â Æ o.1.1)<|Ò o.1.2;apply õ (C0 U U (fw.tT (tl:=[]) (vs:=[Â Æ o.1.1,Ò o.1.2]) q2) M.out.1 M.out.2 GF) U;exact⟨U,l,q⟩
def acs(ok:E.Ok)(b:E.T≠200)(c:jz E.lb E.T E.tl s lv w)(d:w.ownsRow 0 257 2 lv ls.length (lQ ls))(e:jK w)(f:iE s)(g:ot a t w)(h:t.Ok)(i:(ls.length:Int)+400<=1000000): Ô À 154 #[Å<|Ã ⟨E.lb,0,Ä⟩,Å<|Ã ⟨a,0,Ä⟩] w (MG E lv ls.length w<|oI s ls t):=by
 by_cases j:t.oH=1
 .exact aov ok b c d e f g h i j
 .by_cases k:t.oH=2
  .exact aow ok b c d e f g h i k
  .exact aox ok b c d e f g h i j k
end
def acu:∀(d a b c:List È) (k:Nat),b.length=d.length->(d.zipIdx k).foldl (λ(q:Array È) (p:Value×Nat)=>q.setIfInBounds (a.length-k+p.2) p.1) (a++b++c).toArray=(a++d++c).toArray\/a.length<k
 |[],a,b,c,k,h=>by have:b=[]:=á (by simpa using h);subst this;exact Û U
 |v::r,a,b,c,k,h=>by
  rcases ğ a.length k with q|q
  .exact Ü q
  .match b,h with
   |x::b,h=>
    apply Û;have p:=(acu r (a++[v]) b c (k+1)<|by simpa using h).resolve_right (by simp;omega);simp only[List.zipIdx_cons,List.foldl_cons];rw[show a.length-k+k=a.length by omega,Õ,show(a++x::b++c).set a.length v=a++[v]++b++c by simp];rw[show(a++[v]).length-(k+1)=a.length-k by simp]at p;rw[p];simp
def QS{place:Nat->Option (Nat×Nat)}{pre old suf:List È}{rest:List (Nat×Value)}(a:place i=Ã (pre.length,n))(b:v.cells.size=n)(c:old.length=n): Ŀ place (pre++old++suf).toArray ((i,v)::rest)=Ŀ place (pre++v.cells.toList++suf).toArray rest:=by rw[Instr.fill.eq_2];simp only[a];rw[if_neg (by simp only[ă,Ó,Bool.or_eq_true,decide_eq_true_eq,not_or];omega)];have:=(acu v.cells.toList pre old suf 0<|by rw[c,ĵ,b]).resolve_right Z;simp only[Nat.sub_zero]at this;rw[<-this,<-Array.foldl_toList,Array.toList_zipIdx]
def aoy:((À.info? 144).bind (·.zero)).map (λz=>z.cells.toList.drop 144)=Ã [Ê Ä 0 0]:=fF
def aoz:((À.info? 144).bind (·.zero)).map (λz=>z.cells.size)=Ã 145:=fF
def acv:((À.info? 147).bind (·.zero)).map (λz=>z.cells.toList.drop 145)=Ã [Â Ë 0,Ê Ä 0 0]:=fF
def acw:((À.info? 147).bind (·.zero)).map (λz=>z.cells.size)=Ã 147:=fF
def QU(P:aX)(t:ú):Option (List<|Nat×Nat):=match P.underlying t with
 |some (.struct fs)=>fs.toList.mapM λf=>(P.info? f.type).map λi=>(f.offset,i.size)
 |_=>Ä
def aoA:QU À 144=Ã [(0,144),(144,1)]:=fF
def acy:QU À 147=Ã [(0,145),(145,1),(146,1)]:=fF
def WZ{c:List (Nat×Nat)}(a:QU P t=Ã c)(b:(P.info? t).bind (·.zero)=Ã z)(e:List (Nat×Value)):P.built t e=Ŀ (c.toArray[·]?) z.cells e:=by
 unfold QU at a;unfold Program.built;cases f:P.info? t with
 |none=>rw[f]at b;cases b
 |some h=>
  rw[f]at b;have b:h.zero=Ã z:=b;cases g:P.underlying t with
  |none=>rw[g]at a;cases a
  |some d=>
   rw[g]at a;cases d<;>first|(cases a;done)|skip
   simp only at a;simp only[b,a]
def W0{suf:List È}(h:((P.info? t).bind (·.zero)).map (λz=>z.cells.toList.drop n)=Ã suf)(a:((P.info? t).bind (·.zero)).map (λz=>z.cells.size)=Ã m)(d:n<=m):∃z old,(P.info? t).bind (·.zero)=Ã z/\old.length=n/\z.cells=(old++suf).toArray:=by
 let⟨z,b,c⟩:=Ì.1 h;rw[b]at a;have a:z.cells.size=m:=by injection a
 refine⟨z,z.cells.toList.take n,b,by rw[Λ,ĵ,a];omega,?_⟩;rw[<-c,List.take_append_drop]
def aoB(h:l.length=144):À.built 144 [(0,ė l.toArray)]=Ã (l++[Ê Ä 0 0]).toArray:=by let⟨z,d,a,b,c⟩:=W0 aoy aoz A;rw[WZ aoA a,c];have:=QS (place:=λi=>[(0,144),(144,1)].toArray[i]?) (pre:=[]) (suf:=[Ê Ä 0 0]) (i:=0) (v:=ė l.toArray) (rest:=[]) U (by show l.toArray.size=144;simp[h]) b;simpa[Ŀ,ī]using this
def aoC(h:l.length=145)(a:v.cells=#[v]):À.built 147 [(0,ė l.toArray),(1,v)]=Ã (l++[v,Ê Ä 0 0]).toArray:=by let⟨z,j,c,d,f⟩:=W0 acv acw A;rw[WZ acy c,f];have b:=QS (place:=λi=>[(0,145),(145,1),(146,1)].toArray[i]?) (pre:=[]) (suf:=[Â Ë 0,Ê Ä 0 0]) (i:=0) (v:=ė l.toArray) (rest:=[(1,v)]) U (by show l.toArray.size=145;simp[h]) d;have g:=QS (place:=λi=>[(0,145),(145,1),(146,1)].toArray[i]?) (old:=[Â Ë 0]) (suf:=[Ê Ä 0 0]) (i:=1) (rest:=[]) (by show Ã (145,1)=Ã (l.length,1);rw[h]) (by rw[a];rfl) U;simp only[Ř]at b;rw[b];have e:(ė l.toArray).cells.toList=l:=rfl;rw[e];rw[show(l++[Â Ë 0,Ê Ä 0 0])=l++[Â Ë 0]++[Ê Ä 0 0] by simp,g];simp[Ŀ,a]
def jo(s:St):List È:=(Ĉ 144).map<|sJ s
def wi(s:St):(jo s).length=144:=by simp[jo]
def C4(s:St)(lv:È):jZ s lv=jo s++[lv]:=by unfold jZ jo;rw[Ś,ś];have e:(Ĉ 144).map (uP s lv)=(Ĉ 144).map (sJ s):=List.map_congr_left λi a=>tR s lv (by simpa using a);rw[e];simp[Mq]
def acz(a:o.op=.box T qQ)(b:xX qQ=ė d):(į xX o).run P w=aA (.value<|Å<|Ã ⟨w.heap.size,0,Ä⟩) (w.alloc<|Ð d T):=by unfold į;simp[a,b,Instr.box,newVar,newRow,ī]
def W3{a:Array (Nat×Operand)}(b:o.op=ς T a)(h:P.built T (a.map λ(i,x)=>(i,xX x)).toList=Ã d):(į xX o).run P w=aA (.value<|ė d) w:=by have:=run_build w T (a.map λ(i,x)=>(i,xX x)) d h;unfold į;simp only[b];simp[this]
def W4(a:o.op=ς 144 #[(0,qQ)])(b:xX qQ=ė l.toArray)(c:l.length=144):(į xX o).run À w=aA (.value<|ė (l++[Ê Ä 0 0]).toArray) w:=by have d:=aoB c;apply W3 a;simp only[ċ,Ě,ġ,b];exact d
def aoD{y:Ź}(a:o.op=ς 147 #[(0,qQ),(1,y)])(b:xX qQ=ė l.toArray)(c:xX y=v)(d:l.length=145)(e:v.cells=#[v]):(į xX o).run À w=aA (.value<|ė (l++[v,Ê Ä 0 0]).toArray) w:=by have f:=aoC d e;apply W3 a;simp only[ċ,Ě,ġ,b,c];exact f
def W5:(À.underlying 140).map ľ=Ã Ý:=fF
def acA:(À.info? 140).map (·.size)=Ã 144:=fF
structure oJ(vb:Nat)(s:St)(h:Int)(w:Ç):Prop where
 st:w.rangeAt vb 0 (jo s)
 h:w.cell? ⟨vb,145,Ä⟩=Ã (Â Ë h)
def oJ.fi{s:St}{w':Ç}(a:oJ i s h w)(k:ff X w w')(b:¬X i):oJ i s h w':= ⟨λj v c=>k.fg (a.st j v c) b,k.fg a.h b⟩
def yF(l:List (Int×Bool)):List È:=l.flatMap λp=>[Â Æ p.1,Ò p.2]
structure NX(B:Nat)(h:Int)(lv uv:È)(s:St)(ls:List (Nat×Int))(us:List (Int×Bool))(w0 w:Ç):Prop where
 gI:jz B 147 [Â Ë h,uv] s lv w
 jv:w.ownsRow 0 257 2 lv ls.length (lQ ls)
 sM:w.ownsRow 0 246 2 uv us.length (yF us)
 fi:ff (λ_=>False) w0 w
 sN:w0.heap.size<=B
 Ja:∀j,lv.ownBlock=Ã j->w0.heap.size<=j
 Jb:∀j,uv.ownBlock=Ã j->w0.heap.size<=j
def NX.jy(w:Ç)(s:St)(h:Int):NX w.heap.size h (Ê Ä 0 0) (Ê Ä 0 0) s [] [] w ((Č w<|Ð (jo s++[Ê Ä 0 0,Â Ë h,Ê Ä 0 0]).toArray 147).drew):=by refine⟨?_,ć _ _ _ _,ć _ _ _ _,(ff.gT _ _ _ _).fl<|ff.gi _ _,ß _,(λj q=>nomatch q),(λj q=>nomatch q)⟩;unfold jz;rw[C4,show jo s++[Ê Ä 0 0]++[Â Ë h,Ê Ä 0 0]=jo s++[Ê Ä 0 0,Â Ë h,Ê Ä 0 0] by simp];exact fw.fN w _ 147
noncomputable def MH:Ş:=(Tryz.f115.body.bind mC).getD Ń
def C5(c m B:Nat)(a:Option Ċ)(n b:Nat)(i:Int)(u:Nat->È):ë:=⟨#[Å<|Ã ⟨c,0,Ä⟩,Â Ë m,Ê a n b,ĉ,ĉ,ĉ,Å Ä,Å<|Ã ⟨B,0,Ä⟩,u 8,u 9,u 10,u 11,u 12,u 13,u 14,u 15,u 16,u 17,u 18,u 19,u 20,u 21,u 22,u 23,u 24,Ê a n b,Â Ë n,Â Ë i,u 28,u 29,u 30,u 31,u 32,u 33,u 34,u 35,u 36,u 37,u 38,u 39,u 40,u 41,u 42,u 43,u 44,u 45,u 46,u 47,u 48,u 49,u 50,u 51,u 52,u 53,u 54,u 55,u 56,u 57,u 58,u 59,u 60,u 61,u 62,u 63,u 64,u 65,u 66,u 67,u 68,u 69,u 70,u 71,u 72,u 73,u 74,u 75,u 76,u 77,u 78,u 79,u 80,u 81,u 82],[]⟩
def MI(b m B:Nat)(c:Option Ċ)(n d:Nat)(i:Int)(a:ë):Prop:=∃u,a=C5 b m B c n d i u
def QN(X Y:ë->Ç->Prop):bu->ë->Ç->Prop
 |.exit 0,a,w=>X a w
 |.ret,a,w=>Y a w
 |_,_,_=>False
section
variable{lv:È}{s d:St}{ls f:List (Nat×Int)}{c:List (Int×Bool)}
def W6(j:Nat)(h:Int)(x:È):jT:=⟨j,147,[Â Ë h,x]⟩
def W7(j:Nat)(h:Int)(x:È):(W6 j h x).Ok:=⟨by show(147:Nat)≠36;decide,by show(147:Nat)≠257;decide,by show(147:Nat)≠282;decide,by show(147:Nat)≠300;decide,by show(147:Nat)≠252;decide,by show(147:Nat)≠246;decide⟩
def NX.gu(a:NX j h lv x s ls c u w)(k:ff (λ_=>False) w W):NX j h lv x s ls c u W:= ⟨a.gI.qk k id,je a.jv k λ_ _=>id,je a.sM k λ_ _=>id,a.fi.fl k,a.sN,a.Ja,a.Jb⟩
def NX.Bp(a:NX j h lv x s ls c u w)(r:jl (W6 j h x) lv ls.length w d f W v):NX j h v x d f c u W:=by
 have k:=a.gI;refine⟨r.gI,r.jv,je a.sM r.fi ?_,a.fi.kj r.fi ?_,a.sN,λb q=> ?_,a.Jb⟩
 .rintro b i (q|q)
  .let⟨m,g⟩:=nS a.sM i;have e:b=j:=q;rw[e,k]at g;cases g
  .exact am0 a.sM a.jv A i q
 .rintro i g (q|q)
  .have:=a.sN;have e:i=j:=q;omega
  .have:=a.Ja i q;omega
 .rcases r.l b q with e|e
  .exact a.Ja b e
  .exact ï a.fi.fh e
def NX.fH(a:NX j h lv x s ls c u w)(b:i<8)(v:Int):NX j h lv x (s.fH i v) ls c u (w.setCell ⟨j,i*18,Ä⟩<|Â Æ v):= a.Bp<|(jl.fY (E:=W6 j h x) a.gI a.jv).fH (W7 _ _ _) b v
def acB(c:List (Int×Bool)):∀u∈yF c,lP u=Ý:=λu a=>by unfold yF at a;let⟨e,_,h⟩:=Ν.1 a;simp at h;rcases h with rfl|rfl<;>rfl
def aoE:(À.info? 246).map (λi=>(i.zero,i.size,i.bytes))=Ã (Ã<|ė #[Â Æ 0,Ò Ï],2,16):=fF
def NX.MJ(a:NX j h lv x s ls c u w):w.cell? ⟨j,146,Ä⟩=Ã x:= fw.fg a.gI 146 _<|by rw[Þ (by rw[o7];omega),o7];rfl
def NX.aoF{g:Int}(b:NX j h lv x s ls c u w)(a:tO w 0 246 2 x c.length (yF c) 1 [Â Æ g,Ò yQ] v W): NX j h lv x s ls c u W/\NX j h lv v s ls (c++[(g,yQ)]) u (W.setCell ⟨j,146,Ä⟩ v):=by
 have m:∀{i:Nat} {n:Array È} {T:ú},x.ownBlock=Ã i->w.heap[i]?=Ã (Ð n T (0,0))->T=246:=λ{i n T} q hc=>by let⟨k,e⟩:=nS b.sM q;rw[hc]at e;cases e;rfl
 have o:=b.fi.kj a.fi λi y q=>by have:=b.Jb i q;omega
 have f:NX j h lv x s ls c u W:=⟨b.gI.qk a.fi λq=>absurd (m q b.gI) A,je b.jv a.fi (λd q r=>by let⟨k,e⟩:=nS b.jv q;exact absurd (m r e) A),a.ja _ _ _ b.sM λ_=>ß _,o,b.sN,b.Ja,b.Jb⟩;have t:W.ownsRow 0 246 2 v (c++[(g,yQ)]).length (yF<|c++[(g,yQ)]):=by have:=a.fD;rwa[show yF c++[Â Æ g,Ò yQ]=yF (c++[(g,yQ)]) by simp[yF],show c.length+1=(c++[(g,yQ)]).length by simp]at this
 have l:ff (λk=>k=j) W (W.setCell ⟨j,146,Ä⟩ v):=ff.iB (X:=λk=>k=j) (p:=⟨j,146,Ä⟩) U v<|Ü<|fw.nf f.gI;have k:=fw.gS f.gI 146 v;rw[List.set_append_right _ _ (by rw[o7];omega),o7]at k;refine⟨f,k,je f.jv l λd q r=>kP f.jv f.gI A (by rw[q,r]),je t l λd q r=>kP t f.gI A (by rw[q,r]),o.kj l λi y q=>by have:=b.sN;omega,b.sN,b.Ja,λd q=> ?_⟩;rcases a.gV with e|e
 .exact b.Jb d<|by rwa[<-e]
 .rw[e]at q;cases q;exact b.fi.fh
end
section
variable{X:ë->Ç->Prop}{cp:Nat}{lv:È}{s:St}{ls:List (Nat×Int)}{c:List (Int×Bool)}
def aoG(d:Nat->È)(e:NX j h lv x s ls c u w)(i:Int)(f:i=n) (g:∀a,MI b m j O n cp i a->X a w): Î À MH (Exit.then K<|QN X H) (C5 b m j O n cp i d) w:=by
 unfold C5;conv=>arg 2;whnf
 subst f;go_wp2_with fail;exact g _ (gL _)
def aoH(d:Nat->È)(f:NX j h lv x s ls c u w)(i:Int)(k:Nat)(q:i=k)(P:k<n)(Q:n<=1000)(tb o a:Nat)(r:O=Ã ⟨tb,o,Ä⟩)(T:w.cell? ⟨tb,o+k,Ä⟩=Ã (Å<|Ã ⟨a,0,Ä⟩))(t:Tx)(v:ot a t w)(y:t.Ok)(z:jK w)(B:iE s)(D:(ls.length:Int)+400<=1000000)(g:Int)(E:Bool)(F:St)(G:List (Nat×Int))(I:oI s ls t=((g,E),Ï,F,G)) (J:∀a p,a.tmps.getD 6 ĉ=Å Ä->a.defers=[]->ff (λ_=>False) u p->H a p): Î À MH (Exit.then K<|QN X H) (C5 b m j O n cp i d) w:=by
 unfold C5;conv=>arg 2;whnf
 subst q r;have C:=acs (W7 _ _ _) (by show(147:Nat)≠200;decide) f.gI f.jv z B v y D;rw[I]at C;have V:(0:Int)<=(k:Int):=Z
 have W:(k:Int)<(n:Int):=Z
 have Y:=fw.lt f.gI;have l:=fp<|Á f C;go_wp2_with fail;go_at_call 154;apply l.out.2.mono;rintro e w1 ⟨rfl,CN,L⟩;have M:=l.out.1.Bp L;have N:=fp M;go_wp2_with fail;exact J _ _ U U<|N.out.fi.fl<|ff.gT _ _ _ _
def aoI(d:Nat->È)(f:NX j h lv x s ls c u w)(i:Int)(k:Nat)(Y:i=k)(hj:k<n)(hn:n<=1000)(tb N a:Nat)(hbp:O=Ã ⟨tb,N,Ä⟩)(hc:w.cell? ⟨tb,N+k,Ä⟩=Ã (Å<|Ã ⟨a,0,Ä⟩))(t:Tx)(ht:ot a t w)(Qc:t.Ok)(hr:jK w)(hs:iE s)(hlen:(ls.length:Int)+400<=1000000)(g:Int)(o:Bool)(B:St)(P:List (Nat×Int))(ho:oI s ls t=((g,o),Ý,B,P))(Q:m<8)(F:iE B)(vx:0<=g)(we:g<=1000)(P0:c.length<=1000) (p:∀a v kO W8,MI b m j O n cp (i+1) a->NX j h kO W8 (B.fH m<|wu<|(B m).fH+g) P (c++[(g,o)]) u v->K a v): Î À MH (Exit.then K<|QN X H) (C5 b m j O n cp i d) w:=by
 unfold C5;conv=>arg 2;whnf
 subst Y hbp;have C:=acs (W7 _ _ _) (by show(147:Nat)≠200;decide) f.gI f.jv hr hs ht Qc hlen;rw[ho]at C;have e1:(0:Int)<=(k:Int):=Z
 have e2:(k:Int)<(n:Int):=Z
 have avF:=fw.lt f.gI;have l:=fp<|Á f C;go_wp2_with fail;go_at_call 154;apply l.out.2.mono;rintro e r ⟨rfl,CN,r1⟩;have D:=l.out.1.Bp r1;have m1:=D.gI.fH Q;have z1:=fw.fC D.gI<|m*18;have F8:=fw.lt D.gI;have b0:=(F.fH m).1;have b1:=(F.fH m).2;have hub:x.ownBlock≠Ã r.heap.size:=λq=>by have:=(D.sM.lt _ q).2;omega
 have HX:=fp<|Á D F;generalize hb:(B m).fH=b at*;have hm0:(0:Int)<=(m:Int):=Z
 have hm1:(m:Int)<8:=Z
 go_wp2_with fail
 go_region
 have hx8:=(HX.out.1.fH Q<|wu<|b+g).gu ((ff.gT (λ_=>False) _ #[Â Æ g,Ò o] 246).fl<|ff.gi _ _);have hU:fw r.heap.size [Â Æ g,Ò o] 246 (đ<|Č (r.setCell ⟨j,m*18,Ä⟩<|Â Æ<|wu<|b+g)<|Ð #[Â Æ g,Ò o] 246):=by
  have:=fw.fN (r.setCell ⟨j,m*18,Ä⟩<|Â Æ<|wu<|b+g) [Â Æ g,Ò o] 246;have z:fw r.heap.size [Â Æ g,Ò o] 246 (Č (r.setCell ⟨j,m*18,Ä⟩<|Â Æ<|wu<|b+g)<|Ð #[Â Æ g,Ò o] 246):=by simpa using this
  exact z
 go_wp2_with fail
 change Î À _ _ _ (đ<|Č (r.setCell ⟨j,m*18,Ä⟩<|Â Æ<|wu<|b+g)<|Ð #[Â Æ g,Ò o] 246);generalize đ (Č (r.setCell ⟨j,m*18,Ä⟩<|Â Æ<|wu<|b+g)<|Ð #[Â Æ g,Ò o] 246)=w8 at*;generalize r.heap.size=ub at*;have T:=hx8.gu (ff.gi (λ_=>False) w8);have G:=hU.fi (ff.gi (λ_=>False) w8) id;let⟨i0,MB,MC,aoJ,aoK⟩:=ò aoE;have E:=fp<|Á MB<|Á MC<|Á aoJ aoK;have y:=fp<|Á T.MJ<|Á (G.fg 0 _ rfl)<|G.fg 1 _ rfl;have V:=fp<|Á T G;refine oG (λv=>v.cell? ⟨j,146,Ä⟩=Ã x/\v.cell? ⟨ub,0,Ä⟩=Ã (Â Æ g)/\v.cell? ⟨ub,1,Ä⟩=Ã (Ò o)) [10] fF ?_;refine tk 0 y.out ?_;refine tk 1 y.out ?_;refine tk 2 y.out ?_;refine tk 3 y.out ?_;refine tk 4 y.out ?_;refine tk 5 y.out ?_;have I:=V.out.1.gu (ff.gT (λ_=>False) _ #[Â Æ g,Ò o] 246);have J:=V.out.2.fi (ff.gT (λ_=>False) _ #[Â Æ g,Ò o] 246) id;refine iu 6 ?_;intro K p;go_simp;refine p.out _ _ (λ_=>⟨I.MJ,J.fg 0 _ U,J.fg 1 _ U⟩) ?_;refine iu 7 ?_;intro K p;refine QH (hfl:=Ü ⟨fB,λd z=>(ā.1 z).elim (acB c d) (λq=>by simp at q;rcases q with rfl|rfl<;>rfl),by simp[lP,ī]⟩) gG _ _ 145 gG Tryz.underlying145 E.out.1 E.out.2.1 E.out.2.2.1 E.out.2.2.2 U gG I.sM ⟨_,0,Ä⟩ [Â Æ g,Ò o] gG Z U (ž _ _ _ _) (λd z=>by simp at z;rcases z with rfl|rfl<;>rfl) (by unfold č;omega) Z (å _) ?_;intro uv1 w9 L;obtain⟨a2,cp2,rfl⟩:=kX L.fD;let⟨M,n2⟩:=I.aoF L;have z:=J.fi L.fi hub;refine p.out _ _ (λ_=>⟨M.MJ,z.fg 0 _ U,z.fg 1 _ U⟩) ?_;have W:=M.MJ;have fz:=fw.fC M.gI 146;refine iu 8 ?_;intro K p;go_simp;refine p.out _ _ (λ_=>⟨W,z.fg 0 _ U,z.fg 1 _ U⟩) ?_;refine iu 9 ?_;intro K p;go_simp;refine p.out _ _ (λ_=>⟨W,z.fg 0 _ U,z.fg 1 _ U⟩) ?_;refine iu 10 ?_;intro K p;go_simp;refine p.out _ _ (λq=>absurd fB q) ?_;refine om fF ?_ _;go_wp2_with fail;subst hb;exact p _ _ _ _ (gL _) n2
end
def yH(m:Nat):St->List (Nat×Int)->List (Int×Bool)->List Tx->Option (St×List (Nat×Int)×List (Int×Bool))
 |s,ls,us,[]=>Ã (s,ls,us)
 |s,ls,us,t::r=>if(oI s ls t).2.1 then yH m ((oI s ls t).2.2.1.fH m<|wu<|((oI s ls t).2.2.1 m).fH+(oI s ls t).1.1) (oI s ls t).2.2.2 (us++[(oI s ls t).1]) r else Ä
def aoL{s:St}(b:iE s)(x y:Nat)(c:0<=h):iE (Bt s x y h).2:=by
 unfold Bt;split
 .exact b
 .rename_i a;have:=(b.fH x).2;exact(b.pb x ⟨Z,Z⟩).pb y<|CY _
def aoM{s:St}(a:iE s)(x:Nat)(e:B.size<=40/\∀c∈B.data.toList,Bo c=Ý):iE (Bu s x B).2:=by
 unfold Bu;split
 .exact a
 .rename_i h;have:=(a.fH x).2;have d:=a.pb x (b:=(s x).fH-20) ⟨Z,Z⟩;exact d.gS (d.fH x) (d.kY x) e
structure acC(ls:List (Nat×Int))(o:(Int×Bool)×Bool×St×List (Nat×Int)):Prop where
 g0:0<=o.1.1
 g1:o.1.1<=400
 s:iE o.2.2.1
 ls:o.2.2.2.length<=ls.length+400
def aoN{s:St}(f:iE s){d:List (Nat×Int)}(g:i<8)(l:j<8)(m:gP c)(p:(d.length:Int)+400<=1000000):acC d (C3 s d i j h c):=by
 unfold C3;split
 .exact⟨Ø _,by show(0:Int)<=400;decide,f,ŋ _ _⟩
 .rename_i a;have q:=(f.fH i).2;have o:=f.pb i (b:=(s i).fH-h) ⟨Z,Z⟩;have e:=QR _ d i j (h-10) c o g l m Z Z Z;have r:=e.I4;have t:=e.I5;have u:=e.iw;exact⟨by show 0<=_+10;omega,by show _+10<=400;omega,e.yC.pb i<|CY _,by show(gR _ _ _ _ _ _).ls.length<=_;omega⟩
def acD{s:St}(b:iE s){ls:List (Nat×Int)}{t:Tx}(a:t.Ok)(c:(ls.length:Int)+400<=1000000):acC ls (oI s ls t):=by
 unfold oI;split
 .exact⟨by show(0:Int)<=10;decide,by show(10:Int)<=400;decide,aoL b _ _ a.n0,ŋ _ _⟩
 .split
  .exact⟨by show(0:Int)<=20;decide,by show(20:Int)<=400;decide,aoM b _ a.iN,ŋ _ _⟩
  .exact aoN b a.x a.y ⟨a.k0,by have:=a.k1;omega⟩ c
structure GG(bp:Option Ċ)(n:Nat)(gQ:List (Nat×Tx))(w:Ç):Prop where
 iw:n=gQ.length
 gV:∀(j a:Nat) (t:Tx),gQ[j]?=Ã (a,t)->∃tb te,bp=Ã ⟨tb,te,Ä⟩/\w.cell? ⟨tb,te+j,Ä⟩=Ã (Å<|Ã ⟨a,0,Ä⟩)/\ot a t w/\t.Ok
def GG.fi{gQ:List (Nat×Tx)}{w':Ç}(h:GG O n gQ w)(k:ff (λ_=>False) w w'):GG O n gQ w':= ⟨h.iw,λj a t q=>by let⟨tb,b,c,d,e,f⟩:=h.gV j a t q;exact⟨tb,b,c,k.fg d id,e.fi k id,f⟩⟩
def nU(gQ:List (Nat×Tx)):List Tx:=gQ.map (·.2)
section
variable{bp:Option Ċ}{cp:Nat}{gQ:List (Nat×Tx)}{d:Option (St×List (Nat×Int)×List (Int×Bool))}
def W9(n:Nat)(a:ë)(_:Ç):Nat:=match a.tmps.getD 27 ĉ with
 |Â _ i=>n-i.toNat
 |_=>0
def NI(b m i:Nat)(bp:Option Ċ)(n cp:Nat)(h:Int)(u:Ç)(gQ:List (Nat×Tx))(d:Option (St×List (Nat×Int)×List (Int×Bool)))(a:ë)(w:Ç):Prop:=
 ∃(j:Nat) (s:St) (c:List (Nat×Int)) (e:List (Int×Bool)) (f g:È),MI b m i bp n cp j a/\j<=n/\NX i h f g s c e u w/\iE s/\c.length<=400*j/\e.length=j/\yH m s c e ((nU gQ).drop j)=d
def NE(b m i:Nat)(bp:Option Ċ)(n cp:Nat)(h:Int)(u:Ç)(d:Option (St×List (Nat×Int)×List (Int×Bool)))(a:ë)(w:Ç):Prop:=
 ∃(s:St) (c:List (Nat×Int)) (e:List (Int×Bool)) (f g:È),MI b m i bp n cp n a/\NX i h f g s c e u w/\iE s/\d=Ã (s,c,e)
def NR(u:Ç)(d:Option (St×List (Nat×Int)×List (Int×Bool)))(a:ë)(w:Ç):Prop:=
 a.tmps.getD 6 ĉ=Å Ä/\a.defers=[]/\ff (λ_=>False) u w/\d=Ä
def aoO(C:GG bp n gQ u)(L:jK u)(M:n<=1000)(X:m<8)(a:ë)(w:Ç)(Y:NI b m i bp n cp h u gQ d a w): Î À MH (Exit.then (λo q=>NI b m i bp n cp h u gQ d o q/\W9 n o q<W9 n a w)<|QN (NE b m i bp n cp h u d)<|NR u d) a w:=by
 let⟨j,s,r,N,lv,uv,hfr,hj,x,y,WL,P0,f⟩:=Y;obtain⟨c,rfl⟩:=hfr;by_cases D:j=n
 .have E:(nU gQ).drop j=[]:=ģ (by unfold nU;rw[ξ,<-C.iw];omega);rw[E]at f;refine aoG c x j (by rw[D]) λa e=>⟨s,r,N,lv,uv,?_,x,y,f.symm⟩;rw[<-D];rw[D]at e|-;exact e
 .have F:j<n:=Z
  obtain⟨⟨a,t⟩,O⟩:∃p,gQ[j]?=Ã p:=⟨_,Ñ<|by rwa[<-C.iw]⟩;have E:(nU gQ).drop j=t::(nU gQ).drop (j+1):=by
   have g:(nU gQ)[j]?=Ã t:=by unfold nU;rw[Ģ,O];rfl
   let⟨k,e⟩:=Ù.1 g;rw[Ę k,e]
  let⟨tb,P,Q,T,V,G⟩:=(C.fi x.fi).gV j a t O;have H:(r.length:Int)+400<=1000000:=Z
  have k:=acD y G H;rw[E]at f;unfold yH at f;obtain⟨g,l,I,z,e,J⟩:∃g l I z e,oI s r t=((g,l),I,z,e):=⟨_,_,_,_,_,U⟩;rw[J]at f k;have g0:=k.g0;have g1:g<=400:=k.g1;have W:=k.s;have F8:e.length<=r.length+400:=k.ls;cases I with
  |false=>
   simp only[Ğ,if_false]at f;exact aoH c x j j U F M tb P a Q T t V G (L.fi x.fi id) y H g l z e J λo q B K v=>⟨B,K,v,f.symm⟩
  |true=>
   simp only[if_true]at f;refine aoI c x j j U F M tb P a Q T t V G (L.fi x.fi id) y H g l z e J X W g0 Z Z λo q kO W8 B K=>⟨⟨j+1,_,e,N++[(g,l)],kO,W8,by simpa using B,Z,K,W.pb m<|CY _,Z,by simp[P0],f⟩,?_⟩;obtain⟨v,rfl⟩:=B;show n-((j:Int)+1).toNat<n-((j:Int)).toNat;omega
def Bv(m:Nat)(s:St)(gQ:List Tx):Option (St×List (Nat×Int)×List (Int×Bool)):=
 (yH m s [] [] gQ).map λr=>(r.1.fH m<|wu<|(r.1 m).fH+50,r.2)
def Jc(h:Int)(w:Ç)(r:Option (St×List (Nat×Int)×List (Int×Bool)))(e:aP)(a:Ç):Prop:=
 (r=Ä/\e=É (Å Ä)/\ff (λ_=>False) w a)\/
 ∃s b c i d f,r=Ã (s,b,c)/\e=É (Å<|Ã ⟨i,0,Ä⟩)/\NX i (h+1) d f s b c w a/\iE s
def aoP{s:St}(e:oJ b s h w)(hh0:0<=h)(hh1:h<=1000)(y:iE s)(z:GG bp n gQ w)(B:jK w)(J:n<=1000)(f:m<8): Ô À 115 #[Å<|Ã ⟨b,0,Ä⟩,Â Ë m,Ê bp n cp] w (Jc h w<|Bv m s<|nU gQ):=by
 let⟨M,C,D⟩:=Ì.1 W5;have E:(À.info? 140).map (·.size)=Ã (jo s).length:=by rw[wi];exact acA
 have k:=fp<|Á C<|Á D E;have F:=(e.fi (ff.gi (λ_=>False) w) id).st;have G:=(e.fi (ff.gi (λ_=>False) w) id).h;have oW:Ë.wrap (h+1)=h+1:=Mw Z Z;have c:=fp<|Á F G;have iy:=ä w _ e.h;have L:∀l a,NX w.heap.size (h+1) (Ê Ä 0 0) (Ê Ä 0 0) s [] [] w l->MI b m w.heap.size bp n cp 0 a->Î À (ã MH) (QN (NE b m w.heap.size bp n cp (h+1) w<|yH m s [] []<|nU gQ)<|NR w<|yH m s [] []<|nU gQ) a l:=λl a x N=>
  Đ (NI b m w.heap.size bp n cp (h+1) w gQ<|yH m s [] []<|nU gQ) (W9 n) ⟨0,s,[],[],_,_,N,å _,x,y,fB,U,U⟩<|aoO z B J f
 have H:=fp<|Á e L;have I:Bv m s (nU gQ)=(yH m s [] []<|nU gQ).map λr=>(r.1.fH m<|wu<|(r.1 m).fH+50,r.2):=U;rw[I];clear C D F G e E L y z B I;generalize yH m s [] [] (nU gQ)=d at*;go_enter Tryz.func115,Tryz.ntmps115;go_wp2_with fail;refine oG (λg=>g.rangeAt b 0 (jo s)/\g.cell? ⟨b,145,Ä⟩=Ã (Â Ë h)) [] fF ?_;refine tk 0 c.out ?_;refine tk 1 c.out ?_;refine tk 2 c.out ?_;refine tk 3 c.out ?_;refine Mv (i:=4) (oi:={dst:=Ã 16,op:=Go.Op.load 140<|ó 15,type:=140,pos:= "block.go:30",after:=#[{on:=3,ground:=ô}],guard:=Ä}) U fF fF fF fF (λ_ _ _ h=>h) c.out (yieldsIf_load_mid gG 140 _ U b 0 U (jo s) M (λw h=>h.1) k.out.1 k.out.2.1 k.out.2.2) ?_;refine Mv (i:=5) (oi:={dst:=Ã 17,op:=ς 144 #[(0,ó 16)],type:=144,pos:= "block.go:30",after:=#[{on:=4,ground:=ô}],guard:=Ä}) U fF fF fF fF (λ_ _ _ h=>h) c.out (Û ⟨gG,λ_ _=>W4 U U<|wi s⟩) ?_;refine tk 6 c.out ?_;refine tk 7 c.out ?_;refine tk 8 c.out ?_;refine tk 9 c.out ?_;refine tk 10 c.out ?_;refine Mv (i:=11) U fF fF fF fF (λ_ _ _ h=>h) c.out (Û ⟨gG,λ_ _=>aoD U U U (by simp[wi]) U⟩) ?_;have g:=fp ((H.out.1.fi (ff.gi (λ_=>False) w) id).fi (ff.gT (λ_=>False) _ ((jo s++[Ê Ä 0 0])++[Â Ë<|h+1,Ê Ä 0 0]).toArray 147) id);refine iu 12 ?_;intro K o;rw[if_pos gG];unfold Ŏ;rw[acz U U,İ];refine o.out _ _ (λ_=>⟨g.out.st,g.out.h⟩) ?_;refine iu 13 ?_;intro K o;go_simp;refine o.out _ _ (λ_=>⟨g.out.st,g.out.h⟩) ?_;refine om fF ?_ _;go_wp2_with fail;have O:=NX.jy w s<|h+1;refine à ?_ (H.out.2 _ _ O (gL _));rintro(_|(_|_)|_|_|_|_) a v hq;all_goals first|exact absurd hq id|skip
 .let⟨p,P,Q,T,V,W,j,q,X⟩:=hq;subst X;have d1:=j.gI.fH f;have f1:=fw.fC j.gI<|m*18;have F8:=fw.lt j.gI;have b0:=(q.fH m).1;have b1:=(q.fH m).2;have hm0:(0:Int)<=(m:Int):=Z
  have hm1:(m:Int)<8:=Z
  have t:=fp<|Á j q;generalize Y:(p m).fH=b at*;obtain⟨u,rfl⟩:=W;unfold C5;go_wp2_with fail;go_region;go_wp2_with fail;go_ret;refine Ü ⟨p.fH m<|wu<|(p m).fH+50,P,Q,w.heap.size,T,V,U,U,?_,t.out.2.pb m<|CY _⟩;rw[Y];first
   |exact(t.out.1.fH f<|wu<|b+50).gu<|ff.gi _ _
   |exact(t.out.1.still<|Keep.drew _ _).fH f<|wu<|b+50
 .let⟨j,p,q,t⟩:=hq;simp only[Exit.inBlock,Exit.then];apply õ (results_tmp U _ _ _) p;exact Û ⟨by rw[t];rfl,by rw[j],q⟩
end
def tU(i:Nat):ByteArray:=if i<10 then⟨#[(48+i).toUInt8]⟩else⟨#[(48+i/10).toUInt8,(48+i%10).toUInt8]⟩
def aoQ:∀k:Fin 10,(⟨#[48,49,50,51,52,53,54,55,56,57,97,98,99,100,101,102,103,104,105,106,107,108,109,110,111,112,113,114,115,116,117,118,119,120,121,122]⟩:ByteArray).extract k.val (k.val+1)=tU k.val:=by decide+kernel
def aoR:∀k:Fin 100,k.val<10\/(⟨#[48,48,48,49,48,50,48,51,48,52,48,53,48,54,48,55,48,56,48,57,49,48,49,49,49,50,49,51,49,52,49,53,49,54,49,55,49,56,49,57,50,48,50,49,50,50,50,51,50,52,50,53,50,54,50,55,50,56,50,57,51,48,51,49,51,50,51,51,51,52,51,53,51,54,51,55,51,56,51,57,52,48,52,49,52,50,52,51,52,52,52,53,52,54,52,55,52,56,52,57,53,48,53,49,53,50,53,51,53,52,53,53,53,54,53,55,53,56,53,57,54,48,54,49,54,50,54,51,54,52,54,53,54,54,54,55,54,56,54,57,55,48,55,49,55,50,55,51,55,52,55,53,55,54,55,55,55,56,55,57,56,48,56,49,56,50,56,51,56,52,56,53,56,54,56,55,56,56,56,57,57,48,57,49,57,50,57,51,57,52,57,53,57,54,57,55,57,56,57,57]⟩:ByteArray).extract (k.val*2) (k.val*2+2)=tU k.val:=by decide+kernel
def aoS(i:Nat)(h:i<10)(w:Ç):Ô À 187 #[Â Ë i] w λe a=>e=É (Í<|tU i)/\a=w:=by
 have b:(0:Int)<=(i:Int):=Z
 have c:(i:Int)<10:=Z
 go_enter Δ,au;go_wp2;all_goals go_ret
 refine⟨abS ?_,U⟩;exact aoQ ⟨i,h⟩
def aoT(i:Nat)(h:i<100)(b:10<=i)(w:Ç):Ô À 187 #[Â Ë i] w λe a=>e=É (Í<|tU i)/\a=w:=by
 have c:(0:Int)<=(i:Int):=Z
 have d:(i:Int)<100:=Z
 have f:¬(i:Int)<10:=Z
 go_enter Δ,au;go_wp2;all_goals go_ret
 refine⟨abS ?_,U⟩;exact(aoR ⟨i,h⟩).resolve_left<|by show¬i<10;omega
def aoU(i:Nat)(h:i<100)(w:Ç):Ô À 187 #[Â Ë i] w λe a=>e=É (Í<|tU i)/\a=w:=by
 by_cases b:i<10
 .exact aoS i b w
 .exact aoT i h Z w
def aoV(i:Nat)(h:i<100)(w:Ç):Ô À 171 #[Â Ë i,Â Ë 10] w λe a=>e=É (Í<|tU i)/\a=w:=by
 have b:(0:Int)<=(i:Int):=Z
 have c:(i:Int)<100:=Z
 go_enter Tryz.func171,Tryz.ntmps171;go_wp2_with (go_at_call 187;refine(aoU i h _).mono ?_;rintro e a ⟨rfl,rfl⟩);go_ret;exact⟨U,U⟩
def acE(i:Nat)(h:i<100)(w:Ç):Ô À 117 #[Â Ë i] w λe a=>e=É (Í<|tU i)/\a=w:=by
 go_enter Tryz.func117,Tryz.ntmps117;go_wp2_with (first
  |(go_at_call 171;refine(aoV i h _).mono ?_;rintro e a ⟨rfl,rfl⟩)
  |go_in)
 go_ret;exact⟨U,U⟩
def sd(i:Nat):ByteArray:=⟨#[33]⟩++tU i
def Je(i:Nat)(h:i<10)(w:Ç):Ô À 114 #[Â Ë i] w λe a=>e=É (Í<|sd i)/\a=w:=by
 have b:(tU i).size=1:=by unfold tU;rw[if_pos h];rfl
 go_enter Tryz.func114,Tryz.ntmps114;go_wp2_with (go_at_call 117;refine(acE i Z _).mono ?_;rintro e a ⟨rfl,rfl⟩);go_ret;exact⟨U,U⟩
def tb(n c:Nat):Nat:=(n^^^c)*1099511628211%18446744073709551616
def QV(n c:Nat):tb n c<18446744073709551616:=bl _ Z
def acG(n c:Nat)(a:n<18446744073709551616)(f:c<256)(w:Ç):Ô À 178 #[Â Æ n,Â bx c] w λe b=>e=É (Â Æ<|tb n c)/\b=w:=by
 go_enter Tryz.func178,Tryz.ntmps178;go_wp2_with fail;go_ret;refine⟨?_,U⟩;have d:Æ.wrap (((n^^^c:Nat):Int)*1099511628211)=((tb n c:Nat):Int):=by rw[Ο];unfold tb;omega
 rw[bits_xor_u64_nat n c a Z,d];rfl
def tn(m:Nat):Nat->Nat->Nat
 |n,0=>n
 |n,j+1=>tn m (tb n<|m/2^(8*j)%256) j
def acH(m:Nat):∀(j n:Nat),n<18446744073709551616->tn m n j<18446744073709551616
 |0,_,h=>h
 |j+1,_,_=>acH m j _<|QV _ _
noncomputable def QW:Ş:=(Tryz.f177.body.bind mC).getD Ń
def Jf(m n:Nat)(i:Int)(u:Nat->È):ë:=⟨#[Â Æ n,Â Æ m,u 2,u 3,u 4,Â Ë i,u 6,u 7,u 8,u 9,u 10,u 11,u 12,u 13,u 14,u 15,u 16],[]⟩
def Jg(m n:Nat)(i:Int)(a:ë):Prop:=∃u,a=Jf m n i u
section
variable{X:ë->Ç->Prop}
def aoW(m n j:Nat)(f:j<8)(d:n<18446744073709551616)(g:m<18446744073709551616)(u:Nat->È)(b:∀a,Jg m (tb n<|m/2^(8*j)%256) (((8*j:Nat):Int)-8) a->K a w): Î À QW (Exit.then K<|QQ X) (Jf m n (8*j:Nat) u) w:=by
 unfold Jf;conv=>arg 2;whnf
 have h:(0:Int)<=((8*j:Nat):Int):=Z
 have i:((8*j:Nat):Int)<64:=Z
 have T:=acG n (m/2^(8*j)%256) d Z w;generalize 8*j=j8 at*;have c:((m/2^j8%256:Nat):Int)=(m:Int)/2^j8%256:=fB
 rw[c]at T;have H:=fp<|Á T b;clear T b c;go_wp2_with (go_at_call 178;apply H.out.1.mono;rintro e k ⟨rfl,rfl⟩);exact H.out.2 _ (gL _)
def aoX(m n:Nat)(u:Nat->È)(b:∀a,Jg m n (-8) a->X a w): Î À QW (Exit.then K<|QQ X) (Jf m n (-8) u) w:=by
 unfold Jf;conv=>arg 2;whnf
 go_wp2_with fail
 exact b _ (gL _)
def TI(m:Nat)(b:Ç)(c:Nat)(a:ë)(w:Ç):Prop:=∃n j:Nat,Jg m n (((8*j:Nat):Int)-8) a/\j<=8/\n<18446744073709551616/\w=b/\tn m n j=c
def TE(m:Nat)(b:Ç)(c:Nat)(a:ë)(w:Ç):Prop:=Jg m c (-8) a/\w=b
def QX(a:ë)(_:Ç):Nat:=match a.tmps.getD 5 ĉ with
 |Â _ i=>(i+8).toNat
 |_=>0
def acI(b:Jg m n h y):QX y w=(h+8).toNat:=by obtain⟨u,rfl⟩:=b;rfl
def aoY(f:m<18446744073709551616)(a:ë)(w:Ç)(g:TI m u i a w): Î À QW (Exit.then (λb e=>TI m u i b e/\QX b e<QX a w)<|QQ<|TE m u i) a w:=by
 obtain⟨n,j,c,l,h,rfl,d⟩:=g;have k:=acI (w:=w) c;rw[k];obtain⟨b,rfl⟩:=c;cases j with
 |zero=>
  subst d;exact aoX m n b λa q=>⟨q,U⟩
 |succ j=>
  have e:(((8*(j+1):Nat):Int)-8)=((8*j:Nat):Int):=Z
  rw[e];refine aoW m n j Z h f b λa q=>⟨⟨_,j,q,Z,QV _ _,U,d⟩,?_⟩;rw[acI q];omega
end
def qW(n m:Nat):Nat:=tn m n 8
def Jh(n m:Nat)(a:n<18446744073709551616):qW n m<18446744073709551616:=acH m 8 n a
def MK(n m:Nat)(b:n<18446744073709551616)(c:m<18446744073709551616)(w:Ç):Ô À 177 #[Â Æ n,Â Æ m] w λe d=>e=É (Â Æ<|qW n m)/\d=w:=by
 have L:∀a,Jg m n 56 a->Î À (ã QW) (QQ<|TE m w<|qW n m) a w:=λa f=>
  Đ (TI m w<|qW n m) QX ⟨n,8,f,ß _,b,U,U⟩<|aoY c
 have H:=fp L;generalize qW n m=r at*;go_enter Tryz.func177,Tryz.ntmps177;go_wp2_with fail;refine à ?_ (H.out _ (gL _));rintro(_|(_|_)|_|_|_|_) a v hq;all_goals first|exact absurd hq id|skip
 obtain⟨g,rfl⟩:=hq;obtain⟨u,rfl⟩:=g;unfold Jf;go_wp2_with fail;go_ret;exact⟨U,U⟩
def ML(p q:Nat):Nat:=qW (qW 14695981039346656037 p) q
def aoZ(p q:Nat):ML p q<18446744073709551616:=Jh _ _<|Jh _ _ Z
noncomputable def MN:Ş:=(Tryz.f162.body.bind mC).getD Ń
noncomputable def MO:Ş:=(mC MN).getD Ń
def Q2(X:ë->Ç->Prop):bu->ë->Ç->Prop
 |.exit 2,a,w=>X a w
 |_,_,_=>False
def zK(b c d:Nat)(a:Nat)(i:Int)(u:Nat->È):ë:=⟨#[Ê (Ã ⟨b,0,Ä⟩) c d,u 1,u 2,Â Ë a,u 4,u 5,u 6,u 7,u 8,u 9,u 10,Â Ë a,Â Ë i,u 13,u 14,u 15,u 16,u 17,u 18,u 19,u 20,u 21,u 22,u 23,u 24,u 25,u 26,u 27,u 28,u 29,u 30,u 31,u 32,u 33,u 34,u 35,u 36,u 37],[]⟩
def GH(b c d:Nat)(e:Nat)(i:Int)(a:ë):Prop:=∃u,a=zK b c d e i u
section
variable{X:ë->Ç->Prop}{cp:Nat}
def ao0(u:Nat->È)(c:∀a,GH b n cp i i a->X a w): Î À MO (Exit.then K<|Q2 X) (zK b n cp i i u) w:=by
 unfold zK;conv=>arg 2;whnf
 go_wp2_with fail
 exact c _ (gL _)
def ao1(c p q z:Nat)(j:ML p q=z)(s:c<i)(t:2*i<=n)(x:n<=16)(k:p<18446744073709551616)(l:q<18446744073709551616)(u:Nat->È) (m:w.cell? ⟨b,2*c,Ä⟩=Ã (Â Æ p)) (o:w.cell? ⟨b,2*c+1,Ä⟩=Ã (Â Æ q)) (c0:∃v,w.cell? ⟨b,c,Ä⟩=Ã v) (y:w.frozen? ⟨b,c,Ä⟩=Ï) (f:∀a,GH b n cp i ((c+1:Nat):Int) a->K a (w.setCell ⟨b,c,Ä⟩<|Â Æ z).drew): Î À MO (Exit.then K<|Q2 X) (zK b n cp i c u) w:=by
 unfold zK;conv=>arg 2;whnf
 subst j;unfold ML at f;let⟨B,c0⟩:=c0;have C:(0:Int)<=(c:Int):=Z
 have D:(c:Int)<(i:Int):=Z
 have E:(2:Int)*(c:Int)+1<(n:Int):=Z
 have F:(n:Int)<=16:=Z
 have G:((2:Int)*(c:Int)).toNat=2*c:=Z
 have H:((2:Int)*(c:Int)+1).toNat=2*c+1:=Z
 have I:Ë.wrap (2*(c:Int))=2*(c:Int):=Mw Z Z;have h:Ë.wrap (2*(c:Int)+1)=2*(c:Int)+1:=Mw Z Z;have J:(0:Int)<=2*(c:Int):=Z
 have L:2*(c:Int)<(n:Int):=Z
 have M:(0:Int)<=2*(c:Int)+1:=Z
 have N:(c:Int)<(n:Int):=Z
 have r:=fp f;clear f;go_wp2_with fail;have d:=fp<|Á m o;refine oG (λe=>e.cell? ⟨b,2*c,Ä⟩=Ã (Â Æ p)/\e.cell? ⟨b,2*c+1,Ä⟩=Ã (Â Æ q)) [16] fF ?_;refine tk 0 d.out ?_;refine tk 1 d.out ?_;refine tk 2 d.out ?_;refine tk 3 d.out ?_;refine tk 4 d.out ?_;refine tk 5 d.out ?_;refine tk 6 d.out ?_;refine tk 8 d.out ?_;refine tk 9 d.out ?_;refine tk 10 d.out ?_;refine tk 11 d.out ?_;refine tk 12 d.out ?_;refine tk 13 d.out ?_;refine iu 7 ?_;intro K f;go_simp;go_at_call 177;refine(MK 14695981039346656037 p Z k _).mono ?_;rintro e g ⟨rfl,h⟩;subst g;refine f.out _ _ (λ_=>d.out) ?_;refine iu 14 ?_;intro K f;go_simp;go_at_call 177;refine(MK (qW 14695981039346656037 p) q (Jh _ _ Z) l _).mono ?_;rintro e g ⟨rfl,h⟩;subst g;refine f.out _ _ (λ_=>d.out) ?_;refine iu 15 ?_;intro K f;go_simp;refine f.out _ _ (λ_=>d.out) ?_;refine iu 16 ?_;intro K f;go_simp;refine f.out _ _ (λq=>absurd fB q) ?_;refine om fF ?_ _;go_wp2_with fail;exact r.out _ (gL _)
end
def pr(l:List Nat)(t:Nat):Nat:=ML (l.getD (2*t) 0)<|l.getD (2*t+1) 0
def acJ(l:List Nat)(t:Nat):ML (l.getD (2*t) 0) (l.getD (2*t+1) 0)=pr l t:=by unfold pr;exact Eq.refl _
def lj(l:List Nat)(i:Nat):List Nat:=(Ĉ l.length).map λt=>if t<i then pr l t else l.getD t 0
def yI(l:List Nat):List Nat:=(Ĉ<|l.length/2).map<|pr l
def lY(l:List Nat):List È:=l.map λ(x:Nat)=>Â Æ x
def wj(l:List Nat):Prop:=∀t,l.getD t 0<18446744073709551616
def GI(l:List Nat)(i:Nat):(lj l i).length=l.length:=by simp[lj]
def MP(l:List Nat)(i t:Nat)(h:t<l.length):(lj l i)[t]?=Ã (if t<i then pr l t else l.getD t 0):=by simp[lj,ø h]
def ao2(l:List Nat):lj l 0=l:=by
 refine Ą λt=> ?_;by_cases h:t<l.length
 .rw[MP l 0 t h,if_neg Z,ö,Ñ h];rfl
 .rw[Ö (by rw[GI];omega),Ö Z]
def ao3(l:List Nat)(i:Nat)(h:i<l.length):(lj l i).set i (pr l i)=lj l (i+1):=by
 refine Ą λt=> ?_;by_cases a:t<l.length
 .rw[MP l (i+1) t a,ń];by_cases e:i=t
  .subst e;rw[if_pos U,if_pos (by rwa[GI]),if_pos Z]
  .rw[if_neg e,MP l i t a];by_cases q:t<i
   .rw[if_pos q,if_pos Z]
   .rw[if_neg q,if_neg Z]
 .rw[Ö (by rw[ě,GI];omega),Ö (by rw[GI];omega)]
def ao4(l:List Nat):lj l (l.length/2)=yI l++l.drop (l.length/2):=by
 refine Ą λt=> ?_;have a:(yI l).length=l.length/2:=by simp[yI]
 by_cases b:t<l.length
 .rw[MP _ _ t b];by_cases q:t<l.length/2
  .rw[if_pos q,â Z];simp[yI,ø q]
  .rw[if_neg q,Þ Z,List.getElem?_drop,a,show l.length/2+(t-l.length/2)=t by omega,ö,Ñ b];rfl
 .rw[Ö (by rw[GI];omega),Ö (by rw[Ó,a,Μ];omega)]
def ao5(l:List Nat)(t:Nat):pr l t<18446744073709551616:=by rw[<-acJ];exact aoZ _ _
def QY{N:Nat}(a:0<N)(h:∀x∈jJ,x<N)(t:Nat):jJ.getD t 0<N:=by
 rw[ö];cases e:jJ[t]? with
 |none=>exact a
 |some x=>exact h x<|ü e
def acK(l:List Nat):wj (yI l):=QY Z λx a=>by unfold yI at a;obtain⟨t,_,rfl⟩:=ķ.1 a;exact ao5 l t
def wm:Nat->List Nat->Nat
 |0,l=>l.getD 0 0
 |k+1,l=>wm k<|yI l
def Xa(l:List Nat)(i x:Nat):lY (l.set i x)=(lY l).set i (Â Æ x):=by simp[lY,List.map_set]
def MQ(l:List Nat)(i x:Nat)(h:l[i]?=Ã x):(lY l)[i]?=Ã (Â Æ x):=by simp[lY,h]
section
variable{cp:Nat}{l:List Nat}{junk:List È}
def II(b n cp i:Nat)(T:ú)(l:List Nat)(junk:List È)(d:Ç)(a:ë)(w:Ç):Prop:=
 ∃c:Nat,GH b n cp i c a/\c<=i/\ff (λk=>k=b) d w/\fw b (lY (lj l c)++junk) T w
def IE(b n cp i:Nat)(T:ú)(l:List Nat)(junk:List È)(c:Ç)(a:ë)(w:Ç):Prop:=
 GH b n cp i i a/\ff (λk=>k=b) c w/\fw b (lY (lj l i)++junk) T w
def QZ(i:Nat)(a:ë)(_:Ç):Nat:=match a.tmps.getD 12 ĉ with
 |Â _ b=>i-b.toNat
 |_=>0
def acM(c:GH b n cp i j y):QZ i y w=i-j:=by obtain⟨u,rfl⟩:=c;show i-(j:Int).toNat=_;simp
def ao6(g:wj l)(r:l.length=n)(s:2*i=n)(m:n<=16)(a:ë)(w:Ç)(o:II b n cp i T l junk u a w): Î À MO (Exit.then (λc d=>II b n cp i T l junk u c d/\QZ i c d<QZ i a w)<|Q2<|IE b n cp i T l junk u) a w:=by
 let⟨c,h,v,j,e⟩:=o;rw[acM h];obtain⟨d,rfl⟩:=h;by_cases p:c=i
 .subst p;exact ao0 d λa q=>⟨q,j,e⟩
 .have f:=λt x y=>
   e.fg t _<|by rw[â (by simp[lY,GI];omega)];exact MQ _ _ _<|by rw[MP l c t Z,if_neg Z]
  refine ao1 c (l.getD (2*c) 0) (l.getD (2*c+1) 0) (pr l c) (acJ l c) Z Z m (g _) (g _) d (f _ Z Z) (f _ Z Z) ⟨_,f c Z Z⟩ (e.fC c) λa q=>⟨⟨c+1,q,Z,(j.fl<|ff.iB (X:=λk=>k=b) U _).fl<|ff.gi _ _,?_⟩,by rw[acM q];omega⟩;have k:=(e.gS c<|Â Æ<|pr l c).fi (ff.gi (λ_=>False) _) id;rw[<-ao3 l c Z,Xa,<-ĩ _ _ (by simp[lY,GI];omega)];exact k
def ao7(c:wj l)(d:l.length=n)(e:2*i=n)(f:n<=16)(g:fw b (lY l++junk) T w)(h:GH b n cp i (0:Nat) y): Î À (ã MO) (Q2<|IE b n cp i T l junk w) y w:= Đ (II b n cp i T l junk w) (QZ i) ⟨0,h,å _,ff.fY _ _,by rwa[ao2]⟩<|ao6 c d e f
end
def Ji(b a c:Nat)(u:Nat->È):ë:=⟨#[Ê (Ã ⟨b,0,Ä⟩) a c,u 1,u 2,u 3,u 4,u 5,u 6,u 7,u 8,u 9,u 10,u 11,u 12,u 13,u 14,u 15,u 16,u 17,u 18,u 19,u 20,u 21,u 22,u 23,u 24,u 25,u 26,u 27,u 28,u 29,u 30,u 31,u 32,u 33,u 34,u 35,u 36,u 37],[]⟩
def Jj(b c d:Nat)(a:ë):Prop:=∃u,a=Ji b c d u
section
variable{cp:Nat}{l:List Nat}{junk:List È}
def ao8(c:n=1)(u:Nat->È)(d:∀a,Jj b n cp a->H a w): Î À MN (Exit.then K<|QQ H) (Ji b n cp u) w:=by
 unfold Ji;conv=>arg 2;whnf
 subst c;go_wp2_with fail;exact d _ (gL _)
def ao9(u:Nat->È)(g:wj l)(h:l.length=n)(j:2*i=n)(s:0<i)(m:n<=16)(t:n<=cp)(d:fw b (lY l++junk) T w) (o:∀a e,Jj b i cp a->ff (λk=>k=b) w e->fw b (lY (lj l i)++junk) T e->K a e): Î À MN (Exit.then K<|QQ H) (Ji b n cp u) w:=by
 have L:∀a,GH b n cp i (0:Nat) a->Î À (ã MO) (Q2<|IE b n cp i T l junk w) a w:=λa p=>ao7 g h j m d p;unfold Ji;conv=>arg 2;whnf
 have x:(1:Int)<(n:Int):=Z
 have y:(n:Int).tdiv 2=(i:Int):=by rw[Int.tdiv_eq_ediv_of_nonneg Z];omega
 have z:(0:Int)<=(i:Int):=Z
 have B:(i:Int)<=(cp:Int):=Z
 have c:=fp<|Á L o;go_wp2_with fail;refine à ?_ (c.out.1 _ (gL _));rintro(_|(_|_|_|_)|_|_|_|_) a v hq;all_goals first|exact absurd hq id|skip
 let⟨q,r,d⟩:=hq;obtain⟨u,rfl⟩:=q;unfold zK;have f:=fp<|Á r d;go_wp2_with fail;exact c.out.2 _ _ (gL _) f.out.1 f.out.2
def OI(b cp:Nat)(T:ú)(c:Ç)(d:Nat)(a:ë)(w:Ç):Prop:=
 ∃(k:Nat) (l:List Nat) (junk:List È),Jj b l.length cp a/\l.length=2^k/\l.length<=16/\l.length<=cp/\wj l/\ff (λk=>k=b) c w/\fw b (lY l++junk) T w/\wm k l=d
def OE(b cp:Nat)(c:Ç)(d:Nat)(a:ë)(w:Ç):Prop:=Jj b 1 cp a/\1<=cp/\ff (λk=>k=b) c w/\w.cell? ⟨b,0,Ä⟩=Ã (Â Æ d)
def Q0(a:ë)(_:Ç):Nat:=match a.tmps.getD 0 ĉ with
 |Ê _ n _=>n
 |_=>0
def acN(c:Jj b n cp y):Q0 y w=n:=by obtain⟨u,rfl⟩:=c;rfl
def apa(a:ë)(w:Ç)(r:OI b cp T u i a w): Î À MN (Exit.then (λc d=>OI b cp T u i c d/\Q0 c d<Q0 a w)<|QQ<|OE b cp u i) a w:=by
 let⟨k,l,junk,g,h,s,t,v,j,m,n⟩:=r;rw[acN g];obtain⟨c,rfl⟩:=g;cases k with
 |zero=>
  have e:=h;have f:w.cell? ⟨b,0,Ä⟩=Ã (Â Æ<|l.getD 0 0):=m.fg 0 _ (by rw[â (by simp[lY];omega)];exact MQ _ _ _<|by rw[ö,Ñ Z];rfl);have o:l.getD 0 0=i:=n;rw[o]at f;refine ao8 e c λa q=>⟨by rwa[e]at q,Z,j,f⟩
 |succ k=>
  have x:2*2^k=l.length:=by rw[h,Nat.pow_succ];omega
  have y:0<2^k:=Nat.pow_pos Z;have f:l.length/2=2^k:=Z
  have o:(yI l).length=2^k:=by simp[yI,f]
  refine ao9 c v U x y s t m λa d q z p=>⟨⟨k,yI l,lY (l.drop<|l.length/2)++junk,by rwa[o],o,Z,Z,acK l,j.fl z,?_,n⟩,by rw[acN q];omega⟩;have e:=ao4 l;rw[f]at e;rw[e]at p;rw[f,<-þ];simpa[lY]using p
end
def acO{cp:Nat}{l:List Nat}{junk:List È}(c:l.length=2^k)(d:l.length<=16)(f:l.length<=cp)(g:wj l)(h:fw b (lY l++junk) T w): Ô À 162 #[Ê (Ã ⟨b,0,Ä⟩) l.length cp] w λe a=>e=É (Â Æ<|wm k l)/\ff (λi=>i=b) w a:=by
 have L:∀a,Jj b l.length cp a->Î À (ã MN) (QQ<|OE b cp w<|wm k l) a w:=λa e=>
  Đ (OI b cp T w<|wm k l) Q0 ⟨k,l,junk,e,c,d,f,g,ff.fY _ _,h,U⟩ apa
 have H:=fp L;generalize wm k l=r at*;generalize l.length=n at*;go_enter Tryz.func162,Tryz.ntmps162;go_wp2_with fail;refine à ?_ (H.out _ (gL _));rintro(_|(_|_)|_|_|_|_) a v hq;all_goals first|exact absurd hq id|skip
 let⟨i,o,j,p⟩:=hq;obtain⟨u,rfl⟩:=i;unfold Ji;have m:=fp j;go_wp2_with fail;go_ret;exact⟨U,m.out⟩
def apb:À.underlying 118=Ã (.array 16 36):=fF
def apc(w:Ç)(c:i<16)(e:d[i]?=Ã (Â Æ h)):(η 118 (ė d)<|Â Ë (i:Int)).run À w=aA (Â Æ h) w:=by
 have a:(0:Int)<=(i:Int):=Z
 have b:(i:Int)<16:=Z
 simp[η,Ũ apb,asIntOf,go_sem,a,b];go_simp
noncomputable def MR:Ş:=(bD.body.bind mC).getD Ń
def Jk(c o b:Nat)(a:Array È)(i:Int)(u:Nat->È):ë:=⟨#[Å<|Ã ⟨c,o,Ä⟩,u 1,u 2,Å<|Ã ⟨b,0,Ä⟩,u 4,u 5,u 6,u 7,u 8,u 9,u 10,ė a,Â Ë i,u 13,u 14,u 15,u 16,u 17,u 18,u 19,u 20,u 21,u 22,u 23,u 24,u 25,u 26,u 27,u 28,u 29,u 30,u 31,u 32,u 33,u 34,u 35,u 36,u 37,u 38,u 39,u 40,u 41,u 42,u 43,u 44,u 45,u 46,u 47],[]⟩
def GJ(d o b:Nat)(c:Array È)(i:Int)(a:ë):Prop:=∃u,a=Jk d o b c i u
section
variable{X:ë->Ç->Prop}
def apd(u:Nat->È)(c:∀a,GJ n i b d 16 a->X a w): Î À MR (Exit.then K<|QQ X) (Jk n i b d 16 u) w:=by
 unfold Jk;conv=>arg 2;whnf
 go_wp2_with fail
 exact c _ (gL _)
def ape(c p z:Nat)(h:qW 14695981039346656037 p=z)(j:c<16)(k:p<18446744073709551616)(f:d[c]?=Ã (Â Æ p))(c0:∃v,w.cell? ⟨b,c,Ä⟩=Ã v)(m:w.frozen? ⟨b,c,Ä⟩=Ï)(u:Nat->È) (g:∀a,GJ n i b d ((c+1:Nat):Int) a->K a (w.setCell ⟨b,c,Ä⟩<|Â Æ z)): Î À MR (Exit.then K<|QQ X) (Jk n i b d c u) w:=by
 unfold Jk;conv=>arg 2;whnf
 let⟨o,c0⟩:=c0;have q:(0:Int)<=(c:Int):=Z
 have r:(c:Int)<16:=Z
 have s:=λW=>apc W j f;have l:=fp g;clear g f;go_wp2_with (go_at_call 177;refine(MK 14695981039346656037 p Z k _).mono ?_;rintro e t ⟨rfl,rfl⟩;rw[h]);exact l.out _ (gL _)
def lf(x:Nat):Nat:=qW 14695981039346656037 x
def Q5(x:Nat):lf x<18446744073709551616:=Jh _ _ Z
def acP(x:Nat):qW 14695981039346656037 x=lf x:=by unfold lf;exact Eq.refl _
def qY(l:List Nat)(i:Nat):List Nat:=(Ĉ 16).map λt=>if t<i then lf (l.getD t 0)else 0
def GK(l:List Nat)(i:Nat):(qY l i).length=16:=by simp[qY]
def Xb(l:List Nat)(i t:Nat)(h:t<16):(qY l i)[t]?=Ã (if t<i then lf (l.getD t 0)else 0):=by simp[qY,ø h]
def apf(l:List Nat)(i:Nat)(h:i<16):(qY l i).set i (lf<|l.getD i 0)=qY l (i+1):=by
 refine Ą λt=> ?_;by_cases a:t<16
 .rw[Xb l (i+1) t a,ń];by_cases e:i=t
  .subst e;rw[if_pos U,if_pos (by rwa[GK]),if_pos Z]
  .rw[if_neg e,Xb l i t a];by_cases q:t<i
   .rw[if_pos q,if_pos Z]
   .rw[if_neg q,if_neg Z]
 .rw[Ö (by rw[ě,GK];omega),Ö (by rw[GK];omega)]
def acQ(l:List Nat):wj (qY l 16):=QY Z λx a=>by
 unfold qY at a;obtain⟨t,_,rfl⟩:=ķ.1 a;split
 .exact Q5 _
 .omega
def AI(n i b:Nat)(l:List Nat)(d:Ç)(a:ë)(w:Ç):Prop:=
 ∃c:Nat,GJ n i b (lY l).toArray c a/\c<=16/\ff (λk=>k=b) d w/\fw b (lY<|qY l c) 118 w
def AE(n i b:Nat)(l:List Nat)(c:Ç)(a:ë)(w:Ç):Prop:=
 GJ n i b (lY l).toArray 16 a/\ff (λk=>k=b) c w/\fw b (lY<|qY l 16) 118 w
def Q6(a:ë)(_:Ç):Nat:=match a.tmps.getD 12 ĉ with
 |Â _ i=>16-i.toNat
 |_=>0
def acR(c:GJ n i b d j y):Q6 y w=16-j:=by obtain⟨u,rfl⟩:=c;show 16-(j:Int).toNat=_;simp
def apg(h:wj jJ)(r:jJ.length=16)(a:ë)(w:Ç)(j:AI n i b jJ u a w): Î À MR (Exit.then (λc d=>AI n i b jJ u c d/\Q6 c d<Q6 a w)<|QQ<|AE n i b jJ u) a w:=by
 let⟨c,f,s,g,e⟩:=j;rw[acR f];obtain⟨d,rfl⟩:=f;by_cases m:c=16
 .subst m;exact apd d λa q=>⟨q,g,e⟩
 .have o:=e.fg c _ (MQ _ _ _<|by rw[Xb jJ c c Z,if_neg Z]);have p:(lY jJ).toArray[c]?=Ã (Â Æ<|jJ.getD c 0):=by
   rw[Ŝ];exact MQ _ _ _<|by rw[ö,Ñ Z];rfl
  refine ape c (jJ.getD c 0) (lf<|jJ.getD c 0) (acP _) Z (h _) p ⟨_,o⟩ (e.fC c) d λa q=>⟨⟨c+1,q,Z,g.fl (ff.iB (X:=λk=>k=b) U _),?_⟩,by rw[acR q];omega⟩;have k:=e.gS c<|Â Æ<|lf<|jJ.getD c 0;rwa[<-apf jJ c Z,Xa]
def aph{l:List Nat}(c:wj l)(d:l.length=16)(e:fw b (lY<|qY l 0) 118 w)(f:GJ n i b (lY l).toArray (0:Nat) y): Î À (ã MR) (QQ<|AE n i b l w) y w:= Đ (AI n i b l w) Q6 ⟨0,f,å _,ff.fY _ _,e⟩<|apg c d
end
def GM:Ş->List Ş
 |ã c=>[c]
 |.seq a b=>GM a++GM b
 |.block _ c=>GM c
 |.scope c=>GM c
 |.cond _ a b=>GM a++GM b
 |_=>[]
noncomputable def MS:Ş:=((bD.body.map GM).getD []).getD 1 Ń
def Jl(a o:Nat)(P:ByteArray)(n:Nat)(i:Int)(u:Nat->È):ë:=⟨#[Å<|Ã ⟨a,o,Ä⟩,u 1,u 2,u 3,u 4,u 5,Â Æ n,u 7,u 8,u 9,u 10,u 11,u 12,u 13,u 14,u 15,u 16,u 17,u 18,u 19,u 20,u 21,u 22,u 23,u 24,u 25,u 26,u 27,u 28,u 29,u 30,u 31,u 32,u 33,Â Ë P.size,Â Ë i,u 36,u 37,u 38,u 39,u 40,u 41,u 42,u 43,u 44,u 45,u 46,u 47],[]⟩
def GN(b o:Nat)(P:ByteArray)(n:Nat)(i:Int)(a:ë):Prop:=∃u,a=Jl b o P n i u
def mN(n:Nat)(l:List UInt8):Nat:=l.foldl (λn c=>tb n c.toNat) n
def apj(b:Nat)(c:Int)(d:c=B.size)(u:Nat->È)(e:∀a,GN n i B b c a->H a w): Î À MS (Exit.then K<|Q2 H) (Jl n i B b c u) w:=by
 unfold Jl;conv=>arg 2;whnf
 subst d;go_wp2_with fail;exact e _ (gL _)
def apk{B:ByteArray}{c:UInt8}(w:Ç)(a:B.data.toList[i]?=Ã c):(η 9 (Í B)<|Â Ë (i:Int)).run À w=aA (Â bx (c.toNat:Nat)) w:=by
 have e:(0:Int)<=(i:Int):=Z
 let⟨b,d⟩:=Ù.1 a;have f:i<B.size:=by simpa using b
 have g:B[i]=c:=by rw[<-d];exact(Array.getElem_toList _).symm
 go_simp
def apl(b d z:Nat)(c:UInt8)(g:tb b c.toNat=z)(l:d<B.size)(m:B.size<=1000000)(k:b<18446744073709551616)(h:B.data.toList[d]?=Ã c)(c1:w.cell? ⟨n,i+1,Ä⟩=Ã (Í B))(u:Nat->È) (j:∀a,GN n i B z ((d+1:Nat):Int) a->K a w): Î À MS (Exit.then K<|Q2 H) (Jl n i B b d u) w:=by
 unfold Jl;conv=>arg 2;whnf
 have o:(0:Int)<=(d:Int):=Z
 have p:(d:Int)<(B.size:Int):=Z
 have q:(B.size:Int)<=1000000:=Z
 have r:=λW=>apk W h;have s:=c.toNat_lt;have T:=acG b c.toNat k Z w;rw[g]at T;generalize c.toNat=cn at*;have f:=fp<|Á T j;clear j T h g;go_wp2_with (go_at_call 178;apply f.out.1.mono;rintro e t ⟨rfl,rfl⟩);exact f.out.2 _ (gL _)
def BI(n i:Nat)(B:ByteArray)(d:Ç)(e:Nat)(a:ë)(w:Ç):Prop:=
 ∃b c:Nat,GN n i B b c a/\c<=B.size/\b<18446744073709551616/\w=d/\mN b (B.data.toList.drop c)=e
def BE(n i:Nat)(B:ByteArray)(b:Ç)(c:Nat)(a:ë)(w:Ç):Prop:=GN n i B c B.size a/\w=b
def Q7(m:Nat)(a:ë)(_:Ç):Nat:=match a.tmps.getD 35 ĉ with
 |Â _ i=>m-i.toNat
 |_=>0
def acS(c:GN n i B j b y):Q7 m y w=m-b:=by obtain⟨u,rfl⟩:=c;show m-(b:Int).toNat=_;simp
def apm(h:B.size<=1000000)(c1:u.cell? ⟨n,i+1,Ä⟩=Ã (Í B))(a:ë)(w:Ç)(k:BI n i B u j a w): Î À MS (Exit.then (λb c=>BI n i B u j b c/\Q7 B.size b c<Q7 B.size a w)<|Q2<|BE n i B u j) a w:=by
 obtain⟨b,c,f,o,l,rfl,e⟩:=k;rw[acS f];obtain⟨d,rfl⟩:=f;have p:B.data.toList.length=B.size:=fB
 by_cases m:c=B.size
 .rw[ģ Z]at e;subst e;exact apj b c Z d λa q=>⟨by rwa[m]at q,U⟩
 .have g:c<B.data.toList.length:=Z
  rw[Ę g]at e;refine apl b c (tb b (B.data.toList[c]).toNat) (B.data.toList[c]) (Eq.refl _) Z h l (Ñ g) c1 d λa q=>⟨⟨_,c+1,q,Z,QV _ _,U,e⟩,by rw[acS q];omega⟩
def apn(b:B.size<=1000000)(c:j<18446744073709551616)(c1:w.cell? ⟨n,i+1,Ä⟩=Ã (Í B))(d:GN n i B j (0:Nat) y): Î À (ã MS) (Q2<|BE n i B w<|mN j B.data.toList) y w:= Đ (BI n i B w<|mN j B.data.toList) (Q7 B.size) ⟨j,0,d,å _,c,U,U⟩<|apm b c1
abbrev zA:List È:=[Â Æ 0,Â Æ 0,Â Æ 0,Â Æ 0,Â Æ 0,Â Æ 0,Â Æ 0,Â Æ 0,Â Æ 0,Â Æ 0,Â Æ 0,Â Æ 0,Â Æ 0,Â Æ 0,Â Æ 0,Â Æ 0]
def GO(B:Nat)(P:ByteArray)(a:List Nat):Nat:=mN (qW (lf B)<|wm 4<|qY a 16) P.data.toList
def Xc:∀(k:Nat) (l:List Nat),wj l->wm k l<18446744073709551616
 |0,_,h=>h 0
 |k+1,l,_=>Xc k (yI l)<|acK l
def apo(l:List Nat):lY (qY l 0)=zA:=by rfl
def apq{P:ByteArray}(d f g p r s x y z C D E F G I J:Nat)(heq:(lY jJ).toArray=#[Â Æ d,Â Æ f,Â Æ g,Â Æ p,Â Æ r,Â Æ s,Â Æ x,Â Æ y,Â Æ z,Â Æ C,Â Æ D,Â Æ E,Â Æ F,Â Æ G,Â Æ I,Â Æ J])(hl:jJ.length=16)(hB:m<18446744073709551616)(hP:P.size<=1000000)(hs:wj jJ) (K:w.cell? ⟨n,j,Ä⟩=Ã (Â Æ m)) (c1:w.cell? ⟨n,j+1,Ä⟩=Ã (Í P)) (r0:w.cell? ⟨n,j+2,Ä⟩=Ã (Â Æ d)) (r1:w.cell? ⟨n,j+2+1,Ä⟩=Ã (Â Æ f)) (r2:w.cell? ⟨n,j+2+2,Ä⟩=Ã (Â Æ g)) (r3:w.cell? ⟨n,j+2+3,Ä⟩=Ã (Â Æ p)) (r4:w.cell? ⟨n,j+2+4,Ä⟩=Ã (Â Æ r)) (r5:w.cell? ⟨n,j+2+5,Ä⟩=Ã (Â Æ s)) (r6:w.cell? ⟨n,j+2+6,Ä⟩=Ã (Â Æ x)) (r7:w.cell? ⟨n,j+2+7,Ä⟩=Ã (Â Æ y)) (r8:w.cell? ⟨n,j+2+8,Ä⟩=Ã (Â Æ z)) (r9:w.cell? ⟨n,j+2+9,Ä⟩=Ã (Â Æ C)) (r10:w.cell? ⟨n,j+2+10,Ä⟩=Ã (Â Æ D)) (r11:w.cell? ⟨n,j+2+11,Ä⟩=Ã (Â Æ E)) (r12:w.cell? ⟨n,j+2+12,Ä⟩=Ã (Â Æ F)) (r13:w.cell? ⟨n,j+2+13,Ä⟩=Ã (Â Æ G)) (r14:w.cell? ⟨n,j+2+14,Ä⟩=Ã (Â Æ I)) (r15:w.cell? ⟨n,j+2+15,Ä⟩=Ã (Â Æ J)): Ô À 161 #[Å<|Ã ⟨n,j,Ä⟩] w λe c=>e=É (Â Æ<|GO m P jJ)/\ff (λ_=>False) w c:=by
 have iy:=ä w _ K;have L1:∀a,GJ n j w.heap.size #[Â Æ d,Â Æ f,Â Æ g,Â Æ p,Â Æ r,Â Æ s,Â Æ x,Â Æ y,Â Æ z,Â Æ C,Â Æ D,Â Æ E,Â Æ F,Â Æ G,Â Æ I,Â Æ J] (0:Nat) a->Î À (ã MR) (QQ<|AE n j w.heap.size jJ<|w.alloc<|Ð zA.toArray 118) a (w.alloc<|Ð zA.toArray 118):=λa L=>
  aph hs hl (by rw[apo];exact fw.fN w zA 118)<|by rwa[heq]
 have M:∀W,fw w.heap.size (lY<|qY jJ 16) 118 W->Ô À 162 #[Ê (Ã ⟨w.heap.size,0,Ä⟩) 16 16] W λe c=>e=É (Â Æ<|wm 4<|qY jJ 16)/\ff (λi=>i=w.heap.size) W c:=λW hW=>by have t:=acO (w:=W) (b:=w.heap.size) (cp:=16) (k:=4) (T:=118) (l:=qY jJ 16) (junk:=[]) (by rw[GK]) (by rw[GK];omega) (by rw[GK];omega) (acQ jJ) (by rwa[ù]);rwa[GK]at t
 have N:=Xc 4 (qY jJ 16)<|acQ jJ;obtain⟨t,O⟩:∃t,wm 4 (qY jJ 16)=t:=⟨_,U⟩;have hac:GO m P jJ=mN (qW (lf m) t) P.data.toList:=by unfold GO;rw[O]
 rw[hac];rw[O]at M N;have L2:∀W a,W.cell? ⟨n,j+1,Ä⟩=Ã (Í P)->GN n j P (qW (lf m) t) (0:Nat) a->Î À (ã MS) (Q2<|BE n j P W<|mN (qW (lf m) t) P.data.toList) a W:=λW a h L=>
  apn hP (Jh _ _<|Q5 m) h L
 have C1:∀W,Ô À 177 #[Â Æ 14695981039346656037,Â Æ m] W λe c=>e=É (Â Æ<|lf m)/\c=W:=λW=>by rw[<-acP];exact MK 14695981039346656037 m Z hB W
 have C2:∀W,Ô À 177 #[Â Æ<|lf m,Â Æ t] W λe c=>e=É (Â Æ<|qW (lf m) t)/\c=W:=λW=>MK (lf m) t (Q5 m) N W;have H:=fp<|Á K<|Á c1<|Á L1<|Á M<|Á L2<|Á C1 C2;clear L1 M L2 C1 C2 hac O N hs K c1 heq;generalize mN (qW (lf m) t) P.data.toList=res at*;generalize qW (lf m) t=n2 at*;generalize lf m=n1 at*;go_enter Tryz.func161,Tryz.ntmps161;go_wp2_with fail;refine à (Q:=QQ<|AE n j w.heap.size jJ<|w.alloc<|Ð zA.toArray 118) ?_ (H.out.2.2.1 _ (gL _));rintro(_|(_|_)|_|_|_|_) a v hq;all_goals first|exact absurd hq id|skip
 let⟨V,hk,hBv⟩:=hq;have X:ff (λ_=>False) w v:=(ff.gT (λ_=>False) w zA.toArray 118).kj hk λi hi q=>by omega
 have g0:=X.fg H.out.1 id;obtain⟨u,rfl⟩:=V;unfold Jk;have HV:=fp<|Á X hBv;clear X hBv hk r0 r1 r2 r3 r4 r5 r6 r7 r8 r9 r10 r11 r12 r13 r14 r15;go_wp2_with (first
  |(go_at_call 162;refine(H.out.2.2.2.1 _ HV.out.2).mono ?_;rintro e w2 ⟨rfl,Cq⟩;have Y:=HV.out.1.kj Cq (λi hi q=>by omega);have g1:=Y.fg H.out.2.1 id;have HK:=fp Y;clear Cq Y)
  |(go_at_call 177;with_reducible refine(H.out.2.2.2.2.2.2 _).mono ?_;rintro e Y ⟨rfl,rfl⟩)
  |(go_at_call 177;refine(H.out.2.2.2.2.2.1 _).mono ?_;rintro e Y ⟨rfl,rfl⟩))
 refine à (Q:=Q2<|BE n j P _ res) ?_ (H.out.2.2.2.2.1 _ _ g1 (gL _));rintro(_|(_|_|_|_)|_|_|_|_) a v2 hq;all_goals first|exact absurd hq id|skip
 obtain⟨V,rfl⟩:=hq;obtain⟨u,rfl⟩:=V;unfold Jl;go_wp2_with fail;go_ret;exact⟨U,HK.out⟩
def apr{P:ByteArray}(c:j<18446744073709551616)(d:P.size<=1000000)(f:jJ.length=16)(g:wj jJ) (c0:w.cell? ⟨i,n,Ä⟩=Ã (Â Æ j)) (c1:w.cell? ⟨i,n+1,Ä⟩=Ã (Í P)) (b:∀(a x:Nat),jJ[a]?=Ã x->w.cell? ⟨i,n+2+a,Ä⟩=Ã (Â Æ x)): Ô À 161 #[Å<|Ã ⟨i,n,Ä⟩] w λe h=>e=É (Â Æ<|GO j P jJ)/\ff (λ_=>False) w h:=by
 match jJ,f with
 |[a0,a1,a2,a3,a4,a5,a6,a7,a8,a9,a10,a11,a12,a13,a14,a15],_=>exact apq a0 a1 a2 a3 a4 a5 a6 a7 a8 a9 a10 a11 a12 a13 a14 a15 gG gG c d g c0 c1 (b 0 a0 U) (b 1 a1 U) (b 2 a2 U) (b 3 a3 U) (b 4 a4 U) (b 5 a5 U) (b 6 a6 U) (b 7 a7 U) (b 8 a8 U) (b 9 a9 U) (b 10 a10 U) (b 11 a11 U) (b 12 a12 U) (b 13 a13 U) (b 14 a14 U)<|b 15 a15 U
abbrev zB:List È:=[Â Æ 0,Â Æ 0,Â Æ 0,Â Æ 0,Â Æ 0,Â Æ 0,Â Æ 0,Â Æ 0]
noncomputable def Q8:Ş:=(Tryz.f122.body.bind mC).getD Ń
def Jm(a b:Nat)(i:Int)(u:Nat->È):ë:=⟨#[Å<|Ã ⟨a,0,Ä⟩,u 1,u 2,Å<|Ã ⟨b,0,Ä⟩,u 4,Â Ë i,u 6,u 7,u 8,u 9,u 10,u 11,u 12,u 13,u 14,u 15,u 16,u 17],[]⟩
def Jn(c b:Nat)(i:Int)(a:ë):Prop:=∃u,a=Jm c b i u
section
variable{X:ë->Ç->Prop}
def aps(u:Nat->È)(c:∀a,Jn i b 8 a->X a w): Î À Q8 (Exit.then K<|QQ X) (Jm i b 8 u) w:=by
 unfold Jm;conv=>arg 2;whnf
 go_wp2_with fail
 exact c _ (gL _)
def apt(c z:Nat)(o:c<8)(T:Ô À 161 #[Å<|Ã ⟨i,c*18,Ä⟩] w λe j=>e=É (Â Æ z)/\ff (λ_=>False) w j)(g:List È)(h:È)(k:g[c]?=Ã h)(l:fw b g 116 w)(u:Nat->È) (m:∀a f,Jn i b ((c+1:Nat):Int) a->ff (λ_=>False) w f->K a (f.setCell ⟨b,c,Ä⟩<|Â Æ z)): Î À Q8 (Exit.then K<|QQ X) (Jm i b c u) w:=by
 unfold Jm;conv=>arg 2;whnf
 have p:(0:Int)<=(c:Int):=Z
 have q:(c:Int)<8:=Z
 have H:=fp<|Á T<|Á m l;go_wp2_with (go_at_call 161;apply H.out.1.mono;rintro e f ⟨rfl,d⟩;have r:=(H.out.2.2.fi d id).fg c h k;have s:=(H.out.2.2.fi d id).fC c;have n:=fp d;clear d);exact H.out.2.1 _ _ (gL _) n.out
def tV(D:Nat->Nat)(i:Nat):List Nat:=(Ĉ 8).map λt=>if t<i then D t else 0
def GQ(D:Nat->Nat)(i:Nat):(tV D i).length=8:=by simp[tV]
def Xd(D:Nat->Nat)(i t:Nat)(h:t<8):(tV D i)[t]?=Ã (if t<i then D t else 0):=by simp[tV,ø h]
def apu(D:Nat->Nat)(i:Nat)(h:i<8):(tV D i).set i (D i)=tV D (i+1):=by
 refine Ą λt=> ?_;by_cases a:t<8
 .rw[Xd D (i+1) t a,ń];by_cases e:i=t
  .subst e;rw[if_pos U,if_pos (by rwa[GQ]),if_pos Z]
  .rw[if_neg e,Xd D i t a];by_cases q:t<i
   .rw[if_pos q,if_pos Z]
   .rw[if_neg q,if_neg Z]
 .rw[Ö (by rw[ě,GQ];omega),Ö (by rw[GQ];omega)]
def acT(b:∀i,D i<18446744073709551616):wj (tV D 8):=QY Z λx a=>by
 unfold tV at a;obtain⟨t,_,rfl⟩:=ķ.1 a;split
 .exact b _
 .omega
def apv(D:Nat->Nat):lY (tV D 0)=zB:=by rfl
def DI(i b:Nat)(D:Nat->Nat)(d:Ç)(a:ë)(w:Ç):Prop:=
 ∃c:Nat,Jn i b c a/\c<=8/\ff (λk=>k=b) d w/\fw b (lY<|tV D c) 116 w
def DE(i b:Nat)(D:Nat->Nat)(c:Ç)(a:ë)(w:Ç):Prop:=
 Jn i b 8 a/\ff (λk=>k=b) c w/\fw b (lY<|tV D 8) 116 w
def Q9(a:ë)(_:Ç):Nat:=match a.tmps.getD 5 ĉ with
 |Â _ i=>8-i.toNat
 |_=>0
def acU(c:Jn i b n y):Q9 y w=8-n:=by obtain⟨u,rfl⟩:=c;show 8-(n:Int).toNat=_;simp
def apw(C:∀c,c<8->∀W,ff (λk=>k=b) u W->Ô À 161 #[Å<|Ã ⟨i,c*18,Ä⟩] W λe f=>e=É (Â Æ<|D c)/\ff (λ_=>False) W f)(a:ë)(w:Ç)(m:DI i b D u a w): Î À Q8 (Exit.then (λd f=>DI i b D u d f/\Q9 d f<Q9 a w)<|QQ<|DE i b D u) a w:=by
 let⟨c,j,r,g,h⟩:=m;rw[acU j];obtain⟨d,rfl⟩:=j;by_cases n:c=8
 .subst n;exact aps d λa q=>⟨q,g,h⟩
 .have o:=MQ _ _ _ (by rw[Xd D c c Z,if_neg Z]);refine apt c (D c) Z (C c Z w g) _ _ o h d λa s q l=>⟨⟨c+1,q,Z,(g.fl<|l.ft λ_ _=>Ĥ).fl (ff.iB (X:=λk=>k=b) U _),?_⟩,by rw[acU q];omega⟩;have p:=(h.fi l id).gS c<|Â Æ<|D c;rwa[<-apu D c Z,Xa]
end
def Ra(D:Nat->Nat):Nat:=wm 3<|tV D 8
def apx(h:∀b,D b<18446744073709551616)(C:∀b,b<8->∀W,ff (λk=>k=w.heap.size) (w.alloc<|Ð zB.toArray 116) W->Ô À 161 #[Å<|Ã ⟨i,b*18,Ä⟩] W λe c=>e=É (Â Æ<|D b)/\ff (λ_=>False) W c): Ô À 122 #[Å<|Ã ⟨i,0,Ä⟩] w λe c=>e=É (Â Æ<|Ra D)/\ff (λ_=>False) w c:=by
 have L:∀a,Jn i w.heap.size (0:Nat) a->Î À (ã Q8) (QQ<|DE i w.heap.size D<|w.alloc<|Ð zB.toArray 116) a (w.alloc<|Ð zB.toArray 116):=λa j=>
  Đ (DI i w.heap.size D<|w.alloc<|Ð zB.toArray 116) Q9 ⟨0,j,å _,ff.fY _ _,by rw[apv];exact fw.fN w zB 116⟩<|apw C
 have T:∀W,fw w.heap.size (lY<|tV D 8) 116 W->Ô À 162 #[Ê (Ã ⟨w.heap.size,0,Ä⟩) 8 8] W λe c=>e=É (Â Æ<|wm 3<|tV D 8)/\ff (λb=>b=w.heap.size) W c:=λW l=>by have t:=acO (cp:=8) (k:=3) (by rw[GQ]) (by rw[GQ];omega) (by rw[GQ];omega) (acT h) (by rwa[ù]);rwa[GQ]at t
 unfold Ra;have H:=fp<|Á L T;generalize wm 3 (tV D 8)=t at*;go_enter Tryz.func122,Tryz.ntmps122;go_wp2_with fail;refine à (Q:=QQ<|DE i w.heap.size D<|w.alloc<|Ð zB.toArray 116) ?_ (H.out.1 _ (gL _));rintro(_|(_|_)|_|_|_|_) a v hq;all_goals first|exact absurd hq id|skip
 let⟨m,n,o⟩:=hq;have p:=(ff.gT (λ_=>False) w zB.toArray 116).kj n λb r q=>by omega
 obtain⟨u,rfl⟩:=m;unfold Jm;have d:=fp<|Á p o;go_wp2_with (go_at_call 162;refine(H.out.2 _ d.out.2).mono ?_;rintro e x ⟨rfl,f⟩;have g:=d.out.1.kj f (λb r q=>by omega);have s:=fp g;clear f g);go_ret;exact⟨U,s.out⟩
def MU(a:Mm):List Nat:=(Ĉ 16).map λj=>(a.kY j).toNat
def acV(a:Mm):Nat:=GO a.fH.toNat a.iN<|MU a
def Jo(s:St):Nat:=Ra λi=>acV<|s i
def apy(l:List UInt8):∀n,n<18446744073709551616->mN n l<18446744073709551616:=by
 induction l with
 |nil=>exact λn h=>h
 |cons c r h=>exact λn _=>h _<|QV _ _
def acW(B:Nat)(P:ByteArray)(a:List Nat):GO B P a<18446744073709551616:=by unfold GO;exact apy _ _<|Jh _ _<|Q5 B
def Xe(s:St)(h:i<144):(jo s)[i]?=Ã (sJ s i):=by simp[jo,ø h]
def oJ.apz{s:St}(m:oJ n s h W)(a:iE s)(i:Nat)(f:i<8): Ô À 161 #[Å<|Ã ⟨n,i*18,Ä⟩] W λe b=>e=É (Â Æ<|acV<|s i)/\ff (λ_=>False) W b:=by
 have g:=λj d=>by have:=m.st j _<|Xe s d;simpa using this
 have b:=a.fH i;have k:=g (i*18) Z;have l:=g (i*18+1) Z;rw[<-tR s (Ê Ä 0 0) Z,Mp _ _ f]at k;rw[<-tR s (Ê Ä 0 0) Z,QB _ _ f]at l;refine apr (by have c:=b.1;have o:=b.2;omega) (by have:=(a.iN i).1;omega) (by simp[MU]) ?_ ?_ l ?_
 .refine QY Z λx e=> ?_;unfold MU at e;obtain⟨t,_,rfl⟩:=ķ.1 e;have c:=(a.kY i t).1;have o:=(a.kY i t).2;omega
 .rw[k];unfold tP;rw[ę b.1]
 .intro j x e;have d:j<16:=by have:=(Ù.1 e).1;simpa[MU]using this
  have c:=g (i*18+2+j) Z;rw[<-tR s (Ê Ä 0 0) Z,QC _ _ f d]at c;have o:((s i).kY j).toNat=x:=by simpa[MU,ø d]using e
  have t:=a.kY i j;rw[c,<-o];unfold tP;rw[ę t.1]
def apA{s:St}(a:oJ i s h w)(b:iE s): Ô À 122 #[Å<|Ã ⟨i,0,Ä⟩] w λe k=>e=É (Â Æ<|Jo s)/\ff (λ_=>False) w k:=by have c:=ä w _ a.h;exact apx (λe=>acW _ _ _) λe d W k=>((a.fi (ff.gT (λ_=>False) w _ _) id).fi k<|by show i≠w.heap.size;exact Nat.ne_of_lt c).apz b e d
def lJ(i:Nat):St:=λj=>⟨if j<i then 1000 else 0,⟨#[]⟩,λ_=>0⟩
def apB(i:Nat):lJ (i+1)=(lJ i).fH i 1000:=by
 funext j;unfold lJ St.fH St.gS;by_cases e:j=i
 .subst e;simp
 .by_cases q:j<i
  .simp[e,q,Nat.lt_succ_of_lt q]
  .have:¬j<i+1:=Z
   simp[e,q,this]
def apC(s:St)(a:i<8)(x:Int):(jo s).set (i*18) (Â Æ x)=jo (s.fH i x):=by have h:=abU s (Ê Ä 0 0) a x;rw[C4,C4,ĩ _ _ (by rw[wi];omega)]at h;exact List.append_cancel_right h
def apD(s:St)(a:i<8):(jo s)[i*18]?=Ã (Â Æ (s i).fH):=by rw[Xe s Z,<-tR s (Ê Ä 0 0) Z,Mp _ _ a];rfl
noncomputable def Rb:Ş:=(Tryz.f60.body.bind mC).getD Ń
def Jp(r b:Nat)(i:Int)(u:Nat->È):ë:=⟨#[Å<|Ã ⟨r,0,Ä⟩,Å<|Ã ⟨b,0,Ä⟩,u 2,Â Ë i,u 4,u 5,u 6,u 7,u 8,u 9,u 10],[]⟩
def Jq(r b:Nat)(i:Int)(a:ë):Prop:=∃u,a=Jp r b i u
section
variable{X:ë->Ç->Prop}
def apE(u:Nat->È)(c:∀a,Jq i b 8 a->X a w): Î À Rb (Exit.then K<|QQ X) (Jp i b 8 u) w:=by
 unfold Jp;conv=>arg 2;whnf
 go_wp2_with fail
 exact c _ (gL _)
def apF(c:Nat)(g:c<8)(e:È)(c0:w.cell? ⟨b,c*18,Ä⟩=Ã e)(h:w.frozen? ⟨b,c*18,Ä⟩=Ï)(u:Nat->È) (d:∀a,Jq i b ((c+1:Nat):Int) a->K a (w.setCell ⟨b,c*18,Ä⟩<|Â Æ 1000)): Î À Rb (Exit.then K<|QQ X) (Jp i b c u) w:=by
 unfold Jp;conv=>arg 2;whnf
 have j:(0:Int)<=(c:Int):=Z
 have k:(c:Int)<8:=Z
 have f:=fp d;clear d;go_wp2_with fail;exact f.out _ (gL _)
def Xf(i b:Nat)(d:Ç)(a:ë)(w:Ç):Prop:=∃c:Nat,Jq i b c a/\c<=8/\ff (λk=>k=b) d w/\fw b (jo<|lJ c) 140 w
def FE0(i b:Nat)(c:Ç)(a:ë)(w:Ç):Prop:=Jq i b 8 a/\ff (λk=>k=b) c w/\fw b (jo<|lJ 8) 140 w
def Re(a:ë)(_:Ç):Nat:=match a.tmps.getD 3 ĉ with
 |Â _ i=>8-i.toNat
 |_=>0
def acX(c:Jq i b n y):Re y w=8-n:=by obtain⟨u,rfl⟩:=c;show 8-(n:Int).toNat=_;simp
def apG(a:ë)(w:Ç)(h:Xf i b u a w): Î À Rb (Exit.then (λc d=>Xf i b u c d/\Re c d<Re a w)<|QQ<|FE0 i b u) a w:=by
 let⟨c,f,l,g,e⟩:=h;rw[acX f];obtain⟨d,rfl⟩:=f;by_cases j:c=8
 .subst j;exact apE d λa q=>⟨q,g,e⟩
 .refine apF c Z _ (e.fg _ _<|apD _ Z) (e.fC _) d λa q=>⟨⟨c+1,q,Z,g.fl (ff.iB (X:=λk=>k=b) U _),?_⟩,by rw[acX q];omega⟩;have k:=e.gS (c*18)<|Â Æ 1000;rwa[apC _ Z,<-apB]at k
end
def apH:(À.info? 140).map (λi=>(i.size,i.zero.map λz=>z.cells.toList))=Ã (144,Ã<|jo<|lJ 0):=fF
def apI(s:St):∀v∈jo s,v.oneCell'=Ý:=λv a=>WO s (lv:=Ê Ä 0 0) U v<|by rw[C4];exact Ţ _ a
def apJ(w:Ç):Ô À 60 #[] w λe l=>e=É (ė (jo<|lJ 8).toArray)/\ff (λ_=>False) w l:=by
 let⟨m,n,o⟩:=Ì.1 W5;let⟨Q,h,c⟩:=Ì.1 apH;simp only[Prod.mk.injEq]at c;let⟨p,r⟩:=c;let⟨t,x,y⟩:=Ì.1 r;have z:t.cells=(jo<|lJ 0).toArray:=by rw[<-y]
 have B:∀s,(À.info? 140).map (·.size)=Ã (jo s).length:=λs=>by rw[h,wi];simp[p]
 have L:∀W a,fw (w.heap.size+1) (jo<|lJ 0) 140 W->Jq w.heap.size (w.heap.size+1) (0:Nat) a->Î À (ã Rb) (QQ<|FE0 w.heap.size (w.heap.size+1) W) a W:=λW a f C=>
  Đ (Xf w.heap.size (w.heap.size+1) W) Re ⟨0,C,å _,ff.fY _ _,f⟩ apG
 have D:=ff.gT (λ_=>False) w (jo<|lJ 0).toArray 140;have j:=ff.gT (λ_=>False) (w.alloc<|Ð (jo<|lJ 0).toArray 140) (jo<|lJ 0).toArray 140;have E:=(fw.fN w (jo<|lJ 0) 140).fi j id;have F:fw (w.heap.size+1) (jo<|lJ 0) 140 ((w.alloc<|Ð (jo<|lJ 0).toArray 140).alloc<|Ð (jo<|lJ 0).toArray 140):=by have:=fw.fN (w.alloc<|Ð (jo<|lJ 0).toArray 140) (jo<|lJ 0) 140;simpa using this
 have b:=fp<|Á n<|Á o<|Á h<|Á x<|Á z B;have H:=fp<|Á L<|Á (D.fl j)<|Á E F;go_enter Tryz.func60,Tryz.ntmps60;go_wp2_with (first
  |(with_reducible refine ď U (Ã 0) U _ _ (WM U b.out.2.2.1 b.out.2.2.2.1) ?_;rw[b.out.2.2.2.2.1])
  |(with_reducible refine ď U (Ã 1) U _ _ (WM U b.out.2.2.1 b.out.2.2.2.1) ?_;rw[b.out.2.2.2.2.1]))
 refine à ?_ (H.out.1 _ _ H.out.2.2.2 (gL _));rintro(_|(_|_)|_|_|_|_) a v c;all_goals first|exact absurd c id|skip
 let⟨G,k,f⟩:=c;have I:=H.out.2.1.kj k λi J q=>by omega
 have g:=H.out.2.2.1.fi k Z;obtain⟨u,rfl⟩:=G;unfold Jp;have K:=fw.tT (by rw[ù];exact f);have M:v.there w.heap.size 0 (jo<|lJ 8).toArray.size:=g.rM (by simp[wi]);have N:=QL (jo<|lJ 8) [] [] v (jo<|lJ 0) (by rw[wi,wi]) (by simpa using g);have O:=I.kj (Mz (jo<|lJ 8) 0 v g.nf) λi J q=>by omega
 have d:=fp<|Á O<|Á N<|Á K M;go_wp2_with (first
  |(with_reducible refine Ĝ U 140 _ U (w.heap.size+1) 0 U (jo<|lJ 8) m d.out.2.2.1 b.out.1 b.out.2.1 (b.out.2.2.2.2.2 _) ?_)
  |(with_reducible refine Ŋ U 140 _ _ U w.heap.size 0 (jo (lJ 8)).toArray U U d.out.2.2.2 (by rw[b.out.2.2.2.2.2 (lJ 8)];simp) (Ķ (apI _)) ?_))
 have P:fw w.heap.size (jo (lJ 8)++[]) 140 (v.setCells w.heap.size 0<|jo<|lJ 8):=by simpa using d.out.2.1
 apply õ (WQ U U (fw.tT P) b.out.1 b.out.2.1<|b.out.2.2.2.2.2 _) U;exact⟨U,d.out.1⟩
structure gE where
 s:St
 ls:List (Nat×Int)
 us:List (Int×Bool)
 h:Int
def C6(a:Ċ)(k:Nat)(d:List È)(w:Ç):Prop:=
 ∃p c,w.cell? a=Ã (Ê p k c)/\∀(j:Nat) (x:È),d[j]?=Ã x->∃b o,p=Ã ⟨b,o,Ä⟩/\w.cell? ⟨b,o+j,Ä⟩=Ã x
def C6.fi{w':Ç}(h:C6 a k l w)(q:ff (λ_=>False) w w'):C6 a k l w':=by let⟨p,c,d,e⟩:=h;exact⟨p,c,q.fg d id,λj x f=>by let⟨b,o,g,i⟩:=e j x f;exact⟨b,o,g,q.fg i id⟩⟩
structure wo(b:Nat)(v:gE)(w:Ç):Prop where
 st:oJ b v.s v.h w
 yC:iE v.s
 h0:0<=v.h
 h1:v.h<=40
 ls:C6 ⟨b,144,Ä⟩ v.ls.length (lQ v.ls) w
 us:C6 ⟨b,146,Ä⟩ v.us.length (yF v.us) w
def wo.fi{v:gE}{w':Ç}(h:wo b v w)(q:ff (λ_=>False) w w'):wo b v w':= ⟨h.st.fi q id,h.yC,h.h0,h.h1,h.ls.fi q,h.us.fi q⟩
structure tW(bp:Option Ċ)(n:Nat)(vs:List (Nat×gE))(w:Ç):Prop where
 iw:n=vs.length
 gV:∀(j b:Nat) (v:gE),vs[j]?=Ã (b,v)->∃sb so,bp=Ã ⟨sb,so,Ä⟩/\w.cell? ⟨sb,so+j,Ä⟩=Ã (Å<|Ã ⟨b,0,Ä⟩)/\wo b v w
def tW.fi{vs:List (Nat×gE)}{w':Ç}(h:tW O n vs w)(q:ff (λ_=>False) w w'):tW O n vs w':= ⟨h.iw,λj b v e=>by let⟨a,c,d,f,g⟩:=h.gV j b v e;exact⟨a,c,d,q.fg f id,g.fi q⟩⟩
def C7(a b:Nat×gE):Nat×gE:=if a.2.h<b.2.h then b else a
def yJ(d:Nat×gE)(a:List (Nat×gE)):Nat×gE:=a.foldl C7 d
noncomputable def Rf:Ş:=(Tryz.f153.body.bind mC).getD Ń
def Jr(a:Option Ċ)(n b:Nat)(c:Nat)(i:Int)(u:Nat->È):ë:=⟨#[Ê a n b,ĉ,Å Ä,Å<|Ã ⟨c,0,Ä⟩,u 4,u 5,u 6,u 7,u 8,Ê a n b,Â Ë n,Â Ë i,u 12,u 13,u 14,u 15,u 16,u 17,u 18,u 19,u 20,u 21,u 22,u 23,u 24,u 25,u 26],[]⟩
def MV(b:Option Ċ)(n c:Nat)(d:Nat)(i:Int)(a:ë):Prop:=∃u,a=Jr b n c d i u
section
variable{X:ë->Ç->Prop}{bp:Option Ċ}{cp:Nat}
def apK(u:Nat->È)(b:Int)(c:b=n)(d:∀a,MV bp n cp i b a->X a w): Î À Rf (Exit.then K<|QQ X) (Jr bp n cp i b u) w:=by
 unfold Jr;conv=>arg 2;whnf
 subst c;go_wp2_with fail;exact d _ (gL _)
def apL(u:Nat->È)(c:Int)(j:Nat)(o:c=j)(q:j<n)(r:n<=1000)(h k b:Nat)(p:bp=Ã ⟨h,k,Ä⟩)(s:w.cell? ⟨h,k+j,Ä⟩=Ã (Å<|Ã ⟨b,0,Ä⟩))(e f:Int)(c1:w.cell? ⟨b,145,Ä⟩=Ã (Â Ë e))(t:w.cell? ⟨i,145,Ä⟩=Ã (Â Ë f)) (d:∀a m,MV bp n cp (if f<e then b else i) (c+1) a->K a (w.drewN m)): Î À Rf (Exit.then K<|QQ X) (Jr bp n cp i c u) w:=by
 unfold Jr;conv=>arg 2;whnf
 subst o p;have v:(0:Int)<=(j:Int):=Z
 have x:(j:Int)<(n:Int):=Z
 by_cases l:f<e
 .rw[if_pos l]at d;have g:=fp d;clear d;go_wp2_with fail;go_quiet (fail);go_wp2_with fail;exact g.out _ _ (gL _)
 .rw[if_neg l]at d;have g:=fp d;clear d;go_wp2_with fail;go_quiet (fail);go_wp2_with fail;exact g.out _ _ (gL _)
def HI(bp:Option Ċ)(n cp:Nat)(vs:List (Nat×gE))(b:Ç)(c:Nat×gE)(a:ë)(w:Ç):Prop:=
 ∃(j:Nat) (d:Nat×gE),MV bp n cp d.1 j a/\j<=n/\ff (λ_=>False) b w/\wo d.1 d.2 b/\yJ d (vs.drop j)=c
def HE(bp:Option Ċ)(n cp:Nat)(b:Ç)(c:Nat×gE)(a:ë)(w:Ç):Prop:=MV bp n cp c.1 n a/\ff (λ_=>False) b w
def Xg(n:Nat)(a:ë)(_:Ç):Nat:=match a.tmps.getD 11 ĉ with
 |Â _ i=>n-i.toNat
 |_=>0
def apM{c:List (Nat×gE)}{i:Nat×gE}(k:tW bp n c W)(z:n<=1000)(a:ë)(w:Ç)(B:HI bp n cp c W i a w): Î À Rf (Exit.then (λl b=>HI bp n cp c W i l b/\Xg n l b<Xg n a w)<|QQ<|HE bp n cp W i) a w:=by
 let⟨j,d,C,I,f,o,g⟩:=B;obtain⟨u,rfl⟩:=C;by_cases r:j=n
 .have e:c.drop j=[]:=ģ (by rw[<-k.iw];omega);rw[e]at g;subst g;refine apK u j (by rw[r]) λa b=>⟨?_,f⟩;rwa[r]at b
 .have s:j<n:=Z
  obtain⟨⟨b,v⟩,t⟩:∃p,c[j]?=Ã p:=⟨_,Ñ<|by rwa[<-k.iw]⟩;let⟨D,E,F,G,x⟩:=k.gV j b v t;let⟨H,e⟩:=Ù.1 t;rw[Ę H,e]at g;refine apL u j j U s z D E b F (f.fg G id) v.h d.2.h (f.fg x.st.h id) (f.fg o.st.h id) λl m q=> ?_;have y:C7 d (b,v)=(if d.2.h<v.h then b else d.1,if d.2.h<v.h then v else d.2):=by unfold C7;split<;>rfl
  refine⟨⟨j+1,C7 d (b,v),?_,Z,f.fl<|ff.iA _ _ _,?_,g⟩,?_⟩
  .rw[y];simpa using q
  .rw[y];simp only;split
   .exact x
   .exact o
  .obtain⟨v,rfl⟩:=q;show n-((j:Int)+1).toNat<n-((j:Int)).toNat;omega
def apN{b:List (Nat×gE)}{d:Nat×gE}(c:tW bp n b w)(g:n<=1000)(f:b[0]?=Ã d): Ô À 153 #[Ê bp n cp] w λe a=>e=É (Å<|Ã ⟨(yJ d b).1,0,Ä⟩)/\ff (λ_=>False) w a:=by
 let⟨o,p,e,h,i⟩:=c.gV 0 d.1 d.2 f;have q:0<n:=by rw[c.iw];exact(Ù.1 f).1
 have L:∀a,MV bp n cp d.1 0 a->Î À (ã Rf) (QQ<|HE bp n cp w<|yJ d b) a w:=λa j=>
  Đ (HI bp n cp b w<|yJ d b) (Xg n) ⟨0,d,j,å _,ff.fY _ _,i,U⟩<|apM c g
 have H:=fp L;subst e;have s:(0:Int)<(n:Int):=Z
 generalize yJ d b=r at*;simp only[Nat.add_zero]at h;go_enter Tryz.func153,Tryz.ntmps153;go_wp2_with fail;refine à ?_ (H.out _ (gL _));rintro(_|(_|_)|_|_|_|_) a v hq;all_goals first|exact absurd hq id|skip
 let⟨k,l⟩:=hq;obtain⟨u,rfl⟩:=k;unfold Jr;have m:=fp l;go_wp2_with fail;go_ret;exact⟨U,m.out⟩
end
def np(a:List (Nat×gE))(b:Int):Option (Nat×gE):=
 if b=-1 then(a[0]?).map λd=>yJ d a else a[b.toNat]?
def lz(b:Option Nat):È:=Å<|b.map λb=>⟨b,0,Ä⟩
section
variable{cp:Nat}{a:List (Nat×gE)}
def Rh(f:tW O n a w)(i:n<=1000)(j:0<n)(c:Int)(m:-1<=c): Ô À 113 #[Ê O n cp,Â Ë c] w λe b=>e=É (lz ((np a c).map (·.1)))/\ff (λ_=>False) w b:=by
 by_cases g:c=-1
 .subst g;obtain⟨d,b⟩:∃d,a[0]?=Ã d:=⟨_,Ñ<|by rwa[<-f.iw]⟩;have e:np a (-1)=Ã (yJ d a):=by unfold np;rw[if_pos U,b];rfl
  rw[e];have H:=fp<|apN (cp:=cp) f i b;go_enter Ε,Ų;go_wp2_with (go_at_call 153;apply H.out.mono;rintro e k ⟨rfl,h⟩);go_ret;exact⟨U,h⟩
 .have o:(c==-1)=Ï:=by rwa[beq_eq_false_iff_ne]
  have q:(0:Int)<=c:=Z
  obtain⟨k,rfl⟩:∃k:Nat,c=k:=⟨c.toNat,Z⟩;have e:np a (k:Int)=a[k]?:=by unfold np;rw[if_neg g,ſ]
  rw[e];by_cases h:k<n
  .obtain⟨⟨b,v⟩,d⟩:∃p,a[k]?=Ã p:=⟨_,Ñ<|by rwa[<-f.iw]⟩;let⟨r,s,H,t,u⟩:=f.gV k b v d;rw[d];subst H;have l:(k:Int)<(n:Int):=Z
   go_enter Ε,Ų;go_wp2_with fail;go_ret;exact⟨U,ff.fY _ _⟩
  .have d:a[k]?=Ä:=Ö (by rw[<-f.iw];omega);rw[d];have l:¬(k:Int)<(n:Int):=Z
   go_enter Ε,Ų;go_wp2_with fail;go_ret;exact⟨U,ff.fY _ _⟩
end
def acY(a:List (Nat×gE)):∀(l:List (Nat×gE)) (d:Nat×gE),d∈a->(∀x∈l,x∈a)->yJ d l∈a
 |[],d,hd,_=>hd
 |x::l,d,hd,hl=>by
  show yJ (C7 d x) l∈a;refine acY a l _ ?_ λy b=>hl y<|ũ _ b;unfold C7;split
  .exact hl x List.mem_cons_self
  .exact hd
def MW{a:List (Nat×gE)}{p:Nat×gE}(h:np a c=Ã p):p∈a:=by
 unfold np at h;split at h
 .obtain⟨d,b,rfl⟩:=Ì.1 h;exact acY a a d (ü b) λx e=>e
 .exact ü h
def tW.yK{a:List (Nat×gE)}(h:tW O n a w){p:Nat×gE}(b:p∈a):wo p.1 p.2 w:=by let⟨j,c⟩:=List.getElem?_of_mem b;let⟨_,_,_,_,d⟩:=h.gV j p.1 p.2 c;exact d
def acZ(c:w.cell? ⟨b,i,Ä⟩=Ã v)(h:w.ownsRow 0 e j v n l):C6 ⟨b,i,Ä⟩ n l w:=by
 rcases h.2 with⟨rfl,rfl⟩|⟨g,f,k,rfl,_,m,_,_,_,o⟩
 .have d:=á (by simpa using h.1);subst d;exact⟨Ä,0,c,λa x q=>by simp at q⟩
 .refine⟨_,_,c,λa x q=>⟨g,0,U,?_⟩⟩;have:=h.cells U a x q;rwa[Addr.add_mid]at this
def NX.yK{s:St}{b:List (Nat×Int)}{c:List (Int×Bool)}(x:NX i h v z s b c u w)(d:iE s)(e:0<=h)(f:h<=40):wo i ⟨s,b,c,h⟩ w:=by have a:fw i (jZ s v++[Â Ë h,z]) 147 w:=x.gI;refine⟨⟨?_,a.fg 145 _<|by rw[Þ (by rw[o7];omega),o7];rfl⟩,d,e,f,acZ x.gI.jv x.jv,acZ x.MJ x.sM⟩;rw[C4,þ]at a;exact a.tT
def apO:(À.info? 136).map (λi=>(i.zero,i.size,i.bytes))=Ã (Ã<|Å Ä,1,8):=fF
def apP{p:Array Ů}{r:List Ů}(C:o.guard=Ä)(s x:Ź)(t:ú) (D:o.op=aW {callee:=.builtin .append,args:=#[s,x],argTypes:=#[t,t]}) (E:P.underlying t=Ã (bK e)) (F:P.info? e=Ã zJ) (G:zJ.zero=Ã z) (B:zJ.size=1) (H:zJ.bytes=8) (g k n:Nat) (b:List È) (I:b.length=n) (J:∀j v,b[j]?=Ã v->w.cell? ((⟨g,k,Ä⟩:Ċ).add j)=Ã v) (L:y.eval s=Ê (Ã ⟨g,k,Ä⟩) n n) (l:Nat) (v:È) (M:y.eval x=Ê (Ã ⟨l,0,Ä⟩) 1 1) (N:∀j u,[v][j]?=Ã u->w.cell? ((⟨l,0,Ä⟩:Ċ).add j)=Ã u) (Y:n<=1000) (O:oD e=Ï) (h:∀c f,n+1<=c->ff (λ_=>False) w f->(∃m:Array È,f.heap[w.heap.size]?=Ã (Ð m e (0,0))/\0<m.size/\∀u∈m.toList,u∈b\/u=v\/u∈z.cells.toList)->(∀j u,(b++[v])[j]?=Ã u->f.cell? ⟨w.heap.size,0+j,Ä⟩=Ã u)->bq P p vJ r (y.put o.dst<|Ê (Ã ⟨w.heap.size,0,Ä⟩) (n+1) c) f):bq P p vJ (o::r) y w:=by refine Ż C λK T=> ?_;have V:=ι w t o.type e zJ z E F G ⟨g,k,Ä⟩ n n b (by rw[I,B];omega) J ⟨l,0,Ä⟩ 1 1 [v] (by rw[B];rfl) N Z Z (Ť Z<|by rw[H];omega);unfold Ŏ į;simp only[D,aE,bm,aF,ż,Ž,Ł,ċ,Ě,ġ,L,M,V];refine T _ _ (h _ _ (ε w (n+1) n e) ((ff.gi _ _).fl<|ff.gT _ _ _ _<|Û O) ⟨_,ð w.drew _,by simp;omega,λu d=>by simp only[Ĵ,ā]at d;rcases d with(q|q)|q;exact Û q;exact Ü (Û<|by simpa using q);exact Ü<|Ü<|Wn q⟩ λj u d=> ?_);have W:(w.drew.alloc<|Ð (b.toArray++[v].toArray++ý z.cells (š w (n+1) n e-(n+1))) e).heap[w.heap.size]?=_:=ð w.drew _;simp only[Ω,W,Ļ,Ğ,if_false,ĸ];have X:=(Ù.1 d).1;rw[Array.getElem?_append_left (by simpa using X)];simpa using d
def xm(v:È)(T:ú)(w:Ç):Prop:=v=Ê Ä 0 0\/∃g n c a,v=Ê (Ã ⟨g,0,Ä⟩) n c/\w.heap[g]?=Ã (Ð a T (0,0))
def xm.fD{xs:List È}(h:w.ownsRow 0 T i v n xs):xm v T w:=by
 rcases h.2 with⟨q,_⟩|⟨g,a,b,c,_,d,_⟩
 .exact Û q
 .exact Ü ⟨g,_,a,b,c,d⟩
def xm.fi{w':Ç}(h:xm v T w)(k:ff (λ_=>False) w w'):xm v T w':=by
 rcases h with q|⟨g,n,c,b,d,a⟩
 .exact Û q
 .refine Ü ⟨g,n,c,b,d,?_⟩;rwa[k.fu g (Array.getElem?_eq_some_iff.1 a).1 id]
def wq(a:List (Nat×gE)):List È:=a.map λp=>Å<|Ã ⟨p.1,0,Ä⟩
structure Xh(vs:List (Nat×gE))(B:Nat)(w w':Ç)(g:Nat):Prop where
 fN:w.heap.size<=g
 gV:∃cur:Array È,w'.heap[g]?=Ã (Ð cur 136 (0,0))/\0<cur.size/\∀u∈cur.toList,u∈wq vs\/u=Å (Ã ⟨B,0,Ä⟩)\/u=Å Ä
structure Xi(B:Nat)(s:St)(h:Int)(w w':Ç):Prop where
 fN:w.heap.size<=B
 gV:∃lv uv,fw B (jZ s lv++[Â Ë h,uv]) 147 w'/\xm lv 257 w'/\xm uv 246 w'/\(∀j,lv.ownBlock=Ã j->w.heap.size<=j)/\∀j,uv.ownBlock=Ã j->w.heap.size<=j
section
variable{bp:Option Ċ}{cp:Nat}{vs:List (Nat×gE)}
def apQ(a b:Nat)(d:n<=1000)(f:n<=cp):Ô À 155 #[Ê (Ã ⟨a,b,Ä⟩) n cp] w λe c=>e=É (Ê (Ã ⟨a,b,Ä⟩) n n)/\c=w:=by go_enter Tryz.func155,Tryz.ntmps155;go_wp2;go_ret;exact⟨U,U⟩
def apR(b:tW bp n vs w)(h:n<=1000)(l:0<n)(m:n<=cp)(B:Nat): Ô À 116 #[Ê bp n cp,Å<|Ã ⟨B,0,Ä⟩] w λe a=>∃g c,e=É (Ê (Ã ⟨g,0,Ä⟩) (n+1) c)/\n+1<=c/\ff (λ_=>False) w a/\Xh vs B w a g/\∀j u,(wq vs++[Å<|Ã ⟨B,0,Ä⟩])[j]?=Ã u->a.cell? ⟨g,0+j,Ä⟩=Ã u:=by
 let⟨G,r,s,t,x⟩:=ò apO;obtain⟨d,y⟩:∃d,vs[0]?=Ã d:=⟨_,Ñ<|by rwa[<-b.iw]⟩;let⟨g,f,i,_,_⟩:=b.gV 0 d.1 d.2 y;have z:∀(o:Obj) (j:Nat) (v:È),(wq vs)[j]?=Ã v->(w.alloc o).cell? ((⟨g,f,Ä⟩:Ċ).add j)=Ã v:=λo j v q=>by unfold wq at q;rw[Ģ]at q;obtain⟨p,C,rfl⟩:=Ì.1 q;let⟨D,E,H,k,_⟩:=b.gV j p.1 p.2 C;rw[i]at H;cases H;rwa[Addr.add_mid,World.cell?_alloc_lt _ _ _<|ä w _ k]
 have H:=fp (Á z<|Á r<|Á s<|Á t<|Á x<|show(wq vs).length=n by unfold wq;rw[ξ];exact b.iw.symm);subst i;go_enter Tryz.func116,Tryz.ntmps116;go_wp2_with (first
  |(go_at_call 155;refine(apQ g f h m).mono ?_;rintro e a ⟨rfl,k⟩;subst a)
  |(at_builtin;refine apP U _ _ 65 U Tryz.underlying65 H.out.2.1 H.out.2.2.1 H.out.2.2.2.1 H.out.2.2.2.2.1 g f n (wq vs) H.out.2.2.2.2.2 (H.out.1 _) U w.heap.size (Å (Ã ⟨B,0,Ä⟩)) U (ą _ _ _) h A ?_;intro c C a e k p))
 go_ret;refine⟨_,_,U,a,(ff.gT _ _ _ _).fl e,⟨fB,by let⟨c,C,D,E⟩:=k;exact⟨c,by simpa using C,D,λu F=>(E u F).elim Û λq=>q.elim (λq=>Ü<|Û q) λq=>Ü<|Ü<|by simpa[ī]using q⟩⟩,λj u q=>by have:=p j u q;simpa using this⟩
end
structure GR(r:Nat)(v:Int)(x:Nat)(bp:Option Ċ)(n cp:Nat)(w:Ç):Prop where
 c0:w.cell? ⟨r,0,Ä⟩=Ã (Â Ë x)
 c5:w.cell? ⟨r,5,Ä⟩=Ã (Â Ë v)
 c8:w.cell? ⟨r,8,Ä⟩=Ã (Ê bp n cp)
def GR.fi{r:Nat}{v:Int}{x:Nat}{cp:Nat}{w':Ç}(h:GR r v x O n cp w)(k:ff (λ_=>False) w w'):GR r v x O n cp w':=⟨k.fg h.c0 id,k.fg h.c5 id,k.fg h.c8 id⟩
def yL(a:List (Nat×gE))(v:Int)(x:Nat)(gQ:List Tx):Option gE×ByteArray:=
 match np a v with
 |none=>(Ä,sd 3)
 |some p=>if a.length=40 then(Ä,sd 4)else match Bv x p.2.s gQ with
  |none=>(Ä,sd 5)
  |some r=>(Ã ⟨r.1,r.2.1,r.2.2,p.2.h+1⟩,tU a.length)
def Ri(c:È)(d:List (Nat×gE))(w:Ç):Prop:=∃a n b,c=Ê a n b/\n<=b/\tW a n d w
def Xj(f:List (Nat×gE))(i:È)(w:Ç)(o:Option gE×ByteArray)(e:aP)(a:Ç):Prop:=
 ff (λ_=>False) w a/\((o.1=Ä/\e=É (é #[i,Í o.2]))\/∃v b d,o.1=Ã v/\e=É (é #[d,Í o.2])/\Ri d (f++[(b,v)]) a/\Xi b v.s v.h w a/\∃g n c,d=Ê (Ã ⟨g,0,Ä⟩) n c/\Xh f b w a g)
def apS{c:List (Nat×gE)}{v:gE}(e:tW O n c w)(f:wo j v w)(h:∀a u,(wq c++[Å<|Ã ⟨j,0,Ä⟩])[a]?=Ã u->w.cell? ⟨i,0+a,Ä⟩=Ã u):tW (Ã ⟨i,0,Ä⟩) (n+1) (c++[(j,v)]) w:=by
 refine⟨by rw[e.iw];simp,λa b u q=>⟨i,0,U,?_,?_⟩⟩
 .apply h a _;have:wq c++[Å<|Ã ⟨j,0,Ä⟩]=wq (c++[(j,v)]):=by simp[wq]
  rw[this];unfold wq;rw[Ģ,q];rfl
 .rcases ğ a c.length with d|d
  .rw[â d]at q;let⟨_,_,_,_,k⟩:=e.gV a b u q;exact k
  .rw[Þ d]at q;have k:a-c.length=0:=by
    have:=(Ù.1 q).1;simp at this;omega
   rw[k]at q;cases q;exact f
def apT{e:aP}(a:Jc h W Ä e u)(k:ff (λ_=>False) w W):e=É (Å Ä)/\ff (λ_=>False) w u:=by
 rcases a with⟨_,b,c⟩|⟨_,_,_,_,_,_,q,_⟩
 .exact⟨b,k.fl c⟩
 .cases q
def apU{e:aP}{s:St}{a:List (Nat×Int)}{b:List (Int×Bool)}(c:Jc h W (Ã (s,a,b)) e u)(l:0<=h)(m:h<40)(k:ff (λ_=>False) w W):∃B,e=É (Å<|Ã ⟨B,0,Ä⟩)/\ff (λ_=>False) w u/\wo B ⟨s,a,b,h+1⟩ u/\Xi B s (h+1) w u:=by
 rcases c with⟨q,_⟩|⟨n,o,p,B,d,f,q,g,x,i⟩
 .cases q
 .cases q;exact⟨B,g,k.fl x.fi,x.yK i Z Z,ï k.fh x.sN,d,f,x.gI,xm.fD x.jv,xm.fD x.sM,λj q=>ï k.fh<|x.Ja j q,λj q=>ï k.fh<|x.Jb j q⟩
section
variable{bp:Option Ċ}{cp r x:Nat}{v:Int}{vs:List (Nat×gE)}{f:List (Nat×Tx)}
def apV{p:Nat×gE}(F:Ô À 113 #[Ê bp n cp,Â Ë v] w λe a=>e=É (lz<|Ã p.1)/\ff (λ_=>False) w a)(f:GR r v x O b i w)(m:((n:Int)==40)=Ï)(N:∀W,ff (λ_=>False) w W->Ô À 115 #[Å<|Ã ⟨p.1,0,Ä⟩,Â Ë x,Ê O b i] W (Jc p.2.h W Ä)): Ô À 66 #[Ê bp n cp,Å<|Ã ⟨r,0,Ä⟩] w (Xj vs (Ê bp n cp) w (Ä,sd 5)):=by
 have o:=f.c5;have H:=fp<|Á F<|Á N f;go_enter Ū,Œ;go_wp2_with (go_at_call 113;refine H.out.1.mono ?_;rintro e d ⟨rfl,c⟩;dsimp only[lz,Ŷ]);have g:=fp (Á ((H.out.2.2.fi c).fi<|ff.gi (λ_=>False) _).c0 ((H.out.2.2.fi c).fi<|ff.gi (λ_=>False) _).c8);go_region_held3 (λa=>a.cell? ⟨r,0,Ä⟩=Ã (Â Ë x)/\a.cell? ⟨r,8,Ä⟩=Ã (Ê O b i)) (first|exact g.out|exact j.out) (first
   |(go_at_call 115;refine(H.out.2.1 _ (c.fl kp)).mono ?_;rintro e k l;obtain⟨rfl,d⟩:e=É (Å Ä)/\ff (λ_=>False) w k:=apT l (c.fl kp);dsimp only;have j:=fp (Á (H.out.2.2.fi d).c0 (H.out.2.2.fi d).c8)))
 go_wp2_with (first
  |(go_at_call 114;refine(Je 5 A _).mono ?_;rintro e a ⟨rfl,c⟩;subst a))
 go_ret2;exact⟨d,Û ⟨U,U⟩⟩
def apW{p:Nat×gE}{f:St}{g:List (Nat×Int)}{j:List (Int×Bool)}(k:tW bp n vs w)(Q:n<=40)(q:0<n)(s:n<=cp)(t:0<=p.2.h)(u:p.2.h<40)(F:Ô À 113 #[Ê bp n cp,Â Ë v] w λe a=>e=É (lz<|Ã p.1)/\ff (λ_=>False) w a)(l:GR r v x O b i w)(T:((n:Int)==40)=Ï)(N:∀W,ff (λ_=>False) w W->Ô À 115 #[Å<|Ã ⟨p.1,0,Ä⟩,Â Ë x,Ê O b i] W (Jc p.2.h W<|Ã (f,g,j))): Ô À 66 #[Ê bp n cp,Å<|Ã ⟨r,0,Ä⟩] w (Xj vs (Ê bp n cp) w (Ã ⟨f,g,j,p.2.h+1⟩,tU vs.length)):=by
 have V:=l.c5;rw[<-k.iw];have H:=fp<|Á F<|Á N<|Á l k;go_enter Ū,Œ;go_wp2_with (go_at_call 113;refine H.out.1.mono ?_;rintro e o ⟨rfl,d⟩;dsimp only[lz,Ŷ]);have y:=fp (Á ((H.out.2.2.1.fi d).fi<|ff.gi (λ_=>False) _).c0 ((H.out.2.2.1.fi d).fi<|ff.gi (λ_=>False) _).c8);go_region_held3 (λa=>a.cell? ⟨r,0,Ä⟩=Ã (Â Ë x)/\a.cell? ⟨r,8,Ä⟩=Ã (Ê O b i)) (first|exact y.out|exact o.out) (first
   |(go_at_call 115;refine(H.out.2.1 _ (d.fl kp)).mono ?_;rintro e D z;obtain⟨B,rfl,c,C,m⟩:=apU (w:=w) z t u (d.fl kp);dsimp only;have o:=fp (Á (H.out.2.2.1.fi c).c0 (H.out.2.2.1.fi c).c8)))
 have W:=apR (H.out.2.2.2.fi c) Z q s B;have z:=fp W;go_wp2_with (first
  |(go_at_call 116;refine z.out.mono ?_;rintro e G ⟨I,J,rfl,D,d,o,E⟩)
  |(go_at_call 117;refine(acE n Z _).mono ?_;rintro e a ⟨rfl,G⟩;subst a))
 go_ret2;refine⟨c.fl d,Ü ⟨_,B,_,U,U,⟨_,_,_,U,D,?_⟩,⟨m.fN,by let⟨G,I,J,K,L,M,P⟩:=m.gV;exact⟨G,I,J.fi d id,K.fi d,L.fi d,M,P⟩⟩,_,_,_,U,ï c.fh o.fN,o.gV⟩⟩;exact apS ((H.out.2.2.2.fi c).fi d) (C.fi d) E
def apX(a:tW bp n vs w)(C:n<=40)(j:0<n)(D:n<=cp)(t:∀p∈vs,p.2.h<40)(d:GR r v x O b i w)(u:GG O b f w)(E:b<=1000)(y:jK w)(G:x<8)(z:-1<=v): Ô À 66 #[Ê bp n cp,Å<|Ã ⟨r,0,Ä⟩] w (Xj vs (Ê bp n cp) w<|yL vs v x<|nU f):=by
 have L:=d.c5;unfold yL;cases g:np vs v with
 |none=>
  have F:=Rh (cp:=cp) a Z j v z;rw[g]at F;have H:=fp F;go_enter Ū,Œ;go_wp2_with (first
   |(go_at_call 113;refine H.out.mono ?_;rintro e I ⟨rfl,q⟩;dsimp only[lz,Ŷ])
   |(go_at_call 114;refine(Je 3 A _).mono ?_;rintro e l ⟨rfl,J⟩;subst l))
  go_ret2;exact⟨q,Û ⟨U,U⟩⟩
 |some p=>
  have m:=MW g;have c:=a.yK m;have F:=Rh (cp:=cp) a Z j v z;rw[g]at F;have N:∀W,ff (λ_=>False) w W->Ô À 115 #[Å<|Ã ⟨p.1,0,Ä⟩,Â Ë x,Ê O b i] W (Jc p.2.h W<|Bv x p.2.s<|nU f):=λW k=>
   aoP (c.st.fi k id) c.h0 (by have:=c.h1;omega) c.yC (u.fi k) (y.fi k id) E G
  have K:=a.iw;by_cases B:n=40
  .simp only;rw[if_pos Z];have H:=fp F;clear F N a d u y t c g m K;have o:((n:Int)==40)=Ý:=by rw[B];rfl
   clear B;go_enter Ū,Œ;go_wp2_with (first
    |(go_at_call 113;refine H.out.mono ?_;rintro e I ⟨rfl,q⟩;dsimp only[lz,Ŷ])
    |(go_at_call 114;refine(Je 4 A _).mono ?_;rintro e l ⟨rfl,J⟩;subst l))
   go_ret2;exact⟨q,Û ⟨U,U⟩⟩
  .simp only;rw[if_neg Z];have o:((n:Int)==40)=Ï:=by rw[beq_eq_false_iff_ne];omega
   have l:=t p m;have H:=c.h0;cases e:Bv x p.2.s (nU f)with
   |none=>
    rw[e]at N;exact apV F d o N
   |some q=>
    let⟨I,J,M⟩:=q;rw[e]at N;exact apW a C j D H l F d o N
end
def apY(h:l.length=145):À.built 147 [(0,ė l.toArray)]=Ã (l++[Â Ë 0,Ê Ä 0 0]).toArray:=by let⟨z,d,a,b,c⟩:=W0 acv acw A;rw[WZ acy a,c];have:=QS (place:=λi=>[(0,145),(145,1),(146,1)].toArray[i]?) (pre:=[]) (suf:=[Â Ë 0,Ê Ä 0 0]) (i:=0) (v:=ė l.toArray) (rest:=[]) U (by show l.toArray.size=145;simp[h]) b;simpa[Ŀ,ī]using this
def apZ(a:o.op=ς 147 #[(0,qQ)])(b:xX qQ=ė l.toArray)(c:l.length=145):(į xX o).run À w=aA (.value<|ė (l++[Â Ë 0,Ê Ä 0 0]).toArray) w:=by have d:=apY c;apply W3 a;simp only[ċ,Ě,ġ,b];exact d
def pd:gE:=⟨lJ 8,[],[],0⟩
def ac0:iE (lJ 8):=by refine⟨λi=> ?_,λi j=>⟨Ø _,show(0:Int)<18446744073709551616 by decide⟩,λi=>⟨show(0:Nat)<=40 by decide,λc a=>by cases a⟩⟩;show gP (if i<8 then 1000 else 0);split<;>exact⟨A,A⟩
def ap0{s:St}(d:iE s)(h:fw i (jo s++[Ê Ä 0 0]++[Â Ë 0,Ê Ä 0 0]) 147 w):wo i ⟨s,[],[],0⟩ w:=by
 have a:=wi s;refine⟨⟨λj v c=> ?_,?_⟩,d,Ø _,show(0:Int)<=40 by decide,?_,?_⟩
 .rw[ĸ];apply h.fg j v;rwa[þ,â (Ù.1 c).1]
 .apply h.fg 145 _;rw[Þ (by simp[a])];simp[a]
 .refine⟨Ä,0,h.fg 144 _ ?_,λj x b=>by cases b⟩;rw[þ,Þ (by simp[a])];simp[a]
 .refine⟨Ä,0,h.fg 146 _ ?_,λj x b=>by cases b⟩;rw[Þ (by simp[a])];simp[a]
def p6(ls:List (Nat×Int)):Prop:=∀e∈ls,e.1<8/\gP e.2
def MX(F:oF):Prop:=∀s a x y g k,iE s->x<8->y<8->gP k->0<=g->g<=100000->(a.length:Int)+g<=1000000->p6 a->p6 (F s a x y g k).ls
section
variable{c:RC}{F:oF}
def p6.jV{ls:List (Nat×Int)}(h:p6 ls){p:Int}(a:i<8)(b:gP p):p6 (ls++[(i,p)]):=λe c=>by
 rcases ā.1 c with q|q
 .exact h e q
 .simp at q;subst q;exact⟨a,b⟩
def ap1{t:RT}(h:MX F)(d:c.y<8)(l:k<=20)(a:pZ t)(b:p6 t.ls):p6 (uQ F c k t).ls:=by
 by_cases f:k=19
 .subst f;exact b.jV d<|uR a.ss
 by_cases g:k=20
 .subst g;show p6 (jY F c t _ _ _).2.2.ls;unfold jY;split
  .exact b
  .have e:=uR a.ss;have i:=uR<|qU a.ss;have j:=uR<|qU<|qU a.ss;have m:=a.g0;have n:=a.g1;have o:=a.ls;have p:=e.1;have q:=i.1;exact h _ _ _ _ _ _ a.s d Z j Z Z Z b
 have e:(uQ F c k t).ls=t.ls:=by
  unfold uQ;rw[if_neg f,if_neg g];repeat' (split;·rfl)
  rfl
 rwa[e]
def MY(q:B.size<=40)(h:∀n,n<B.size->1<=mM B (n:Int))(i:rR F)(j:c.x<8)(d:c.y<8)(m:gP c.k)(o:MX F):∀(p:Nat) (b:Int) (t:RT),gP b->pZ t->p6 t.ls->p6 (xk F c B p b t).2.2.ls
 |0,_,t,_,ht,D=>D
 |f+1,b,t,vi,ht,hlo=>by
  have g0:=ht.g0;have g1:=ht.g1;have D:=ht.iw;have K:=ht.ls;unfold xk;by_cases E:b=B.size
  .rwa[if_pos E]
  rw[if_neg E];by_cases G:(B.size:Int)<b
  .rwa[if_pos G]
  rw[if_neg G];have Wz:=vi.1;obtain⟨n,rfl⟩:∃n:Nat,b=n:=⟨b.toNat,Z⟩;have L:n<B.size:=Z
  have k1:=h n L;have M:mM B (n:Int)<=22:=WB _;have r:=WC M;let⟨N,O,P,Q,T,V⟩:=Mt _ _ r;have W:mM B (n:Int)=1->48<=CX B (n:Int)/\CX B (n:Int)<=57:=WK;generalize mM B (n:Int)=k at*;generalize hro:sL k=ro at*;let⟨a,u,v⟩:=ro;simp only at r N O P Q T V|-;by_cases w:nJ t.g t.ss.length a u v=Ï
  .rwa[if_pos w]
  rw[if_neg w];have X:nJ t.g t.ss.length a u v=Ý:=by cases e:nJ t.g t.ss.length a u v with
   |true=>rfl
   |false=>exact absurd e w
  let⟨QJ,Y,I7⟩:=WJ X;have z:gP ((n:Int)+1):=⟨Z,Z⟩;have H:∀{l:List Int},(∀p∈l,gP p)->l.length<=32->pZ {t with ss:=l,g:=t.g-a}:=λq1 q2=>⟨q1,q2,ht.s,by show 0<=t.g-a;omega,by show t.g-a<=100000;omega,by show(t.ls.length:Int)+(t.g-a)<=1000000;omega⟩;by_cases p:k=1
  .rw[if_pos p];have:=W p;subst p;refine MY q h i j d m o f _ _ z (H (wh ht.ss<|zW ⟨Z,Z⟩) ?_) hlo;simp[jN]at r;simp;omega
  rw[if_neg p];by_cases C:k=17
  .rw[if_pos C];have I:=H (qU<|qU ht.ss) (by rw[rT,rT];omega);split
   .exact MY q h i j d m o f _ _ z I hlo
   .exact MY q h i j d m o f _ _ (uR ht.ss) I hlo
  rw[if_neg C];by_cases I:k=21
  .rwa[if_pos I]
  rw[if_neg I];by_cases J:k=22
  .rwa[if_pos J]
  rw[if_neg J];let⟨d1,_,_⟩:=WG (t:={t with g:=t.g-a}) i j d m Z Z C r U ⟨ht.ss,ht.iw,ht.s,by show 0<=t.g-a;omega,by show t.g-a<=100000;omega,by show(t.ls.length:Int)+(t.g-a)<=1000000;omega⟩ K Y I7;exact MY q h i j d m o f _ _ z d1<|ap1 o d Z ⟨ht.ss,ht.iw,ht.s,by show 0<=t.g-a;omega,by show t.g-a<=100000;omega,by show(t.ls.length:Int)+(t.g-a)<=1000000;omega⟩ hlo
def ap2(e:rR F)(f:MX F){s:St}{a:List (Nat×Int)}(b:iE s)(h:c.x<8)(i:c.y<8)(j:gP c.k)(l:0<=c.g)(m:c.g<=100000)(o:(a.length:Int)+c.g<=1000000)(d:p6 a):p6 (xl F c s a).ls:=by
 unfold xl;simp only;split
 .exact MY (b.iN c.y).1 (λn p=>WI b c.y p) e h i j f _ _ _ yE ⟨fB,fB,b,l,m,o⟩ d
 .exact d
end
def ac1:∀n,MX<|I8 n
 |0=>λ_ _ _ _ _ _ _ _ _ _ _ _ _ h=>h
 |n+1=>λ_ _ x y g k a b d e f i j h=>ap2 (c:=⟨x,y,k,4-(n:Int),g⟩) (MD n) (ac1 n) a b d e f i j h
def Xk:MX gR:=ac1 4
def ap3{s:St}(b:iE s){ls:List (Nat×Int)}{t:Tx}(a:t.Ok)(c:(ls.length:Int)+400<=1000000)(h:p6 ls):p6 (oI s ls t).2.2.2:=by
 unfold oI;split
 .exact h
 .split
  .exact h
  .unfold C3;split
   .exact h
   .rename_i d;have e:=(b.fH t.x).2;exact Xk _ ls t.x t.y (t.n-10) t.k (b.pb t.x ⟨Z,Z⟩) a.x a.y ⟨a.k0,by have:=a.k1;omega⟩ Z Z Z h
def C8(a:List (Int×Bool)):Prop:=∀e∈a,0<=e.1/\e.1<=400
def C8.jV{a:List (Int×Bool)}(h:C8 a){e:Int×Bool}(b:0<=e.1)(c:e.1<=400):C8 (a++[e]):=λx d=>by
 rcases ā.1 d with q|q
 .exact h x q
 .simp at q;subst q;exact⟨b,c⟩
structure Xl(v:gE):Prop where
 jv:p6 v.ls
 sM:C8 v.us
 nl:v.ls.length<=400000
 nu:v.us.length<=1000
def Xm:∀(gQ:List Tx) {s:St} {ls:List (Nat×Int)} {a:List (Int×Bool)} {r:St×List (Nat×Int)×List (Int×Bool)},(∀t∈gQ,t.Ok)->iE s->p6 ls->C8 a->ls.length+400*gQ.length<=400000->a.length+gQ.length<=1000->yH m s ls a gQ=Ã r->iE r.1/\p6 r.2.1/\C8 r.2.2/\r.2.1.length<=400000/\r.2.2.length<=1000
 |[],s,ls,a,r,_,hs,hl,hu,n1,n2,h=>by cases h;exact⟨hs,hl,hu,by simpa using n1,by simpa using n2⟩
 |t::q,s,ls,a,r,ht,hs,hl,hu,n1,n2,h=>by
  unfold yH at h;simp only[ŉ]at n1 n2;split at h
  .have d:=acD (ls:=ls) hs (ht t fB) Z;have e:=d.ls;exact Xm q (λb c=>ht b<|ũ _ c) (d.s.pb m<|CY _) (ap3 hs (ht t fB) Z hl) (hu.jV d.g0 d.g1) Z (by simp;omega) h
  .cases h
def ap4{s:St}{gQ:List Tx}{r:St×List (Nat×Int)×List (Int×Bool)}(a:∀t∈gQ,t.Ok)(b:iE s)(j:gQ.length<=1000)(e:Bv m s gQ=Ã r):Xl ⟨r.1,r.2.1,r.2.2,h⟩:=by unfold Bv at e;obtain⟨k,c,rfl⟩:=Ì.1 e;let⟨_,d,f,g,i⟩:=Xm gQ a b (λ_ q=>by cases q) (λ_ q=>by cases q) (by simp;omega) (by simp;omega) c;exact⟨d,f,g,i⟩
end Go.Proofs.Y.jr
namespace Go.Proofs
open Go.Shelf
def Tryz.lays283_ren:ĺ:=⟨fun|283=>187|n=>n,fun|3=>3|9=>9|4=>4|n=>n,fun|n=>n⟩
def Tryz.lays283:bh À Tryz.lays283_ren:={
 mixed:=fF
 f283:=Δ.trans<|congrArg Ã fF
 t3:=ĥ
 a3:=ū
 z3:=œ
 v3:=ı
 t4:=Ħ
 a4:=Ŭ
 z4:=Ŕ
 v4:=Ĳ
 t9:=Ė
 a9:=ŭ
 z9:=ŕ
 v9:=ĳ}
open Go.Lib in
def Tryz.internal_strconv_small(i:Nat)(h:i<100)(w:Ç):
 Ô À 187 #[Â Ë i] w λe a=>e=É (Í ⟨(ň i).toArray⟩)/\a=w:=Any.internal_strconv_small Tryz.lays283 i h w
def Tryz.laysM284_ren:ĺ:=⟨fun|284=>188|129=>198|317=>197|318=>199|n=>n,fun|53=>36|3=>3|212=>291|0=>0|4=>4|46=>168|5=>5|9=>9|n=>n,fun|17=>1|n=>n⟩
def Tryz.laysM284:Go.Proofs.LaysM.n284 À Tryz.laysM284_ren:={
 mixed:=fF
 f129:=Tryz.func198.trans<|congrArg Ã fF
 f284:=Tryz.func188.trans<|congrArg Ã fF
 f317:=Tryz.func197.trans<|congrArg Ã fF
 f318:=Tryz.func199.trans<|congrArg Ã fF
 t0:=Ρ
 a0:=aZ
 z0:=aQ
 v0:=ο
 t3:=ĥ
 a3:=ū
 z3:=œ
 v3:=ı
 t4:=Ħ
 a4:=Ŭ
 z4:=Ŕ
 v4:=Ĳ
 t5:=Τ
 a5:=bb
 z5:=aR
 v5:=π
 t9:=Ė
 a9:=ŭ
 z9:=ŕ
 v9:=ĳ
 t46:=ŷ
 a46:=av
 z46:=ψ
 v46:=Η
 t53:=Ņ
 a53:=Θ
 z53:=ų
 v53:=Ō
 t212:=Tryz.underlying291
 a212:=Tryz.isAgg291
 z212:=Tryz.sizeOf291
 v212:=Tryz.zeroValue291
 g17:=fF
 i0:=fF
 i3:=fF
 i4:=fF
 i5:=fF
 i9:=fF
 i46:=fF
 i53:=fF
 i212:=fF
 m17:=by kernel_rfl}
open Go.Lib in
def Tryz.internal_strconv_numDigits(u:Nat)(a:1<=u)(b:u<18446744073709551616)(w:Ç)(c:aD À w "internal/strconv.uint64pow10" Æ aS):
 Ô À 188 #[Â Æ u] w λe d=>e=É (Â Ë<|Ē u)/\d=w:=Any.internal_strconv_numDigits Tryz.laysM284 u a b w c
def Tryz.lays285_ren:ĺ:=⟨fun|285=>189|n=>n,fun|37=>107|53=>36|3=>3|4=>4|51=>95|9=>9|5=>5|0=>0|n=>n,fun|n=>n⟩
def Tryz.lays285:bj À Tryz.lays285_ren:={
 mixed:=fF
 f285:=Tryz.func189.trans<|congrArg Ã fF
 t0:=Ρ
 a0:=aZ
 z0:=aQ
 v0:=ο
 t3:=ĥ
 a3:=ū
 z3:=œ
 v3:=ı
 t4:=Ħ
 a4:=Ŭ
 z4:=Ŕ
 v4:=Ĳ
 t5:=Τ
 a5:=bb
 z5:=aR
 v5:=π
 t9:=Ė
 a9:=ŭ
 z9:=ŕ
 v9:=ĳ
 t37:=Ă
 a37:=Tryz.isAgg107
 z37:=Tryz.sizeOf107
 v37:=Tryz.zeroValue107
 t51:=Ι
 a51:=aT
 z51:=ax
 v51:=Υ
 t53:=Ņ
 a53:=Θ
 z53:=ų
 v53:=Ō}
open Go.RowKit Go.Sort Go.Lib in
def Tryz.internal_strconv_formatBase10(a c f:Nat)(u:Nat)(d:Array UInt8)(w:Ç)(h:Holds (λ(b:UInt8)=>Â bx (b.toNat:Int)) w a c d)(i:u<10^d.size)(j:u<18446744073709551616)(k:d.size<4611686018427387904):
 Ô À 189 #[Ê (Ã ⟨a,c,Ä⟩) d.size f,Â Æ u] w λe l=>
  e=É (é #[])/\∃(n m:Nat) (g:Array UInt8),l=(ω (λ(b:UInt8)=>Â bx (b.toNat:Int)) w a c g).drewN n/\FmtInv d.size u 0 m g:=Any.internal_strconv_formatBase10 Tryz.lays285 a c f u d w h i j k
def Tryz.lays99_ren:ĺ:=⟨fun|99=>175|206=>194|n=>n,fun|9=>9|4=>4|3=>3|n=>n,fun|n=>n⟩
def Tryz.lays99:br À Tryz.lays99_ren:={
 mixed:=fF
 f99:=Tryz.func175.trans<|congrArg Ã fF
 f206:=Tryz.func194.trans<|congrArg Ã fF
 t3:=ĥ
 a3:=ū
 z3:=œ
 v3:=ı
 t4:=Ħ
 a4:=Ŭ
 z4:=Ŕ
 v4:=Ĳ
 t9:=Ė
 a9:=ŭ
 z9:=ŕ
 v9:=ĳ}
open Go.RowKit Go.Lib in
def Tryz.strings_HasPrefix(s p:ByteArray)(w:Ç):
 Ô À 175 #[Í s,Í p] w λe a=>e=É (Ò<|Lib.hasPrefix s.data.toList p.data.toList)/\a=w:=Any.strings_HasPrefix Tryz.lays99 s p w
def Tryz.lays212_ren:ĺ:=⟨fun|212=>174|263=>192|264=>193|n=>n,fun|46=>168|51=>95|146=>285|53=>36|148=>287|n=>n,fun|n=>n⟩
def Tryz.lays212:bk À Tryz.lays212_ren:={
 mixed:=fF
 f212:=Tryz.func174.trans<|congrArg Ã fF
 f263:=Tryz.func192.trans<|congrArg Ã fF
 f264:=Tryz.func193.trans<|congrArg Ã fF
 t46:=ŷ
 a46:=av
 z46:=ψ
 v46:=Η
 t51:=Ι
 a51:=aT
 z51:=ax
 v51:=Υ
 t53:=Ņ
 a53:=Θ
 z53:=ų
 v53:=Ō
 t146:=Tryz.underlying285
 a146:=Tryz.isAgg285
 z146:=Tryz.sizeOf285
 v146:=Tryz.zeroValue285
 t148:=Tryz.underlying287
 a148:=Tryz.isAgg287
 z148:=Tryz.sizeOf287
 v148:=Tryz.zeroValue287}
open Go.RowKit Go.Lib in
def Tryz.bits_Mul(x y:Nat)(a:x<18446744073709551616)(b:y<18446744073709551616)(w:Ç):
 Ô À 174 #[Â Æ x,Â Æ y] w λe c=>e=É (é #[Â Æ ((x*y/18446744073709551616:Nat):Int),Â Æ ((x*y%18446744073709551616:Nat):Int)])/\c=w:=Any.bits_Mul Tryz.lays212 x y a b w
end Go.Proofs
namespace Go.Proofs.Y.jr
open Go Go.Proofs Go.RowKit Go.Sort Go.Proofs.Y.Lift
def C9:UInt8->È:=λb=>Â bx (b.toNat:Int)
def nW(w:Ç):Prop:=aD À w "internal/strconv.uint64pow10" Æ aS
def ap5(a:lN w)(b:Nat)(f:Array È->Array È):lN (ō w b f):=by
 intro i o h;unfold ō at h;simp only[Ú]at h;split at h
 .cases d:w.heap[i]? with
  |none=>rw[d]at h;cases h
  |some e=>
   have:=a _ _ d;rw[d]at h;cases e with
   |cells c t z=>simp only[ì,ê]at h;subst h;exact λx=>x
   |_=>exact absurd trivial this
 .exact a i o h
def ap6(a:vW m w)(b:Nat)(f:Array È->Array È)(j:NF b w):vW m (ō w b f):=by
 intro i c T k l h g;unfold ō at h;simp only[Ú]at h;split at h
 .rename_i e;subst e;cases d:w.heap[b]? with
  |none=>rw[d]at h;cases h
  |some n=>
   rw[d]at h;cases n with
   |cells o t z=>
    simp only[ì,ê,onCells,Į]at h;have:=j _ _ _ d;rw[h.2.1,g]at this;cases this
   |_=>simp only[ì,ê,onCells]at h;cases h
 .exact a i c T k l h g
def ff.gS(w:World)(T:TypeId)(cs:Array Value)(off:Nat)(d:Array UInt8)(n:Nat)(hT:oD T=false:=by decide):ff (λ_=>False) w ((putRow C9 (w.alloc<|.cells cs T) w.heap.size off d).drewN n):= ⟨by simp[ω,ō,World.drewN],λk hk _=>by show(ō (w.alloc<|Ð cs T) w.heap.size _).heap[k]?=_;unfold ō;simp only[Ú];rw[if_neg Z];exact Ĕ _ _ _ hk,λa=>ap5 (Mj a cs T (0,0)) _ _,λ_ a=>ap6 (Mk a cs T (0,0)<|Û hT) _ _<|fw.nf (fw.fN w cs.toList T) hT⟩
def ap7(w:Ç)(T:ú)(a:Nat)(c:a<=24):Holds C9 (w.alloc<|Ð Ĭ T) w.heap.size 0 (ř a (0:UInt8)):=λj b=>by
 have d:j<a:=by simpa using b
 refine⟨?_,World.frozen?_alloc_new _ _ _ _⟩;rw[World.cell?_alloc_new,Lib.zeros24_at _ Z,getElem!_pos _ j b];simp[C9]
def iK(u:Nat):ByteArray:=⟨(ň u).toArray⟩
def ap8(u:Nat)(h:u<100)(w:Ç):Ô À 172 #[Â Æ u,Â Ë 10] w λe a=>e=É (Í<|iK u)/\a=w:=by
 have b:(0:Int)<=(u:Int):=Z
 have c:(u:Int)<100:=Z
 go_enter aU,ay;go_wp2_with (go_at_call 187;refine(Tryz.internal_strconv_small u h _).mono ?_;rintro e a ⟨rfl,rfl⟩);go_ret;exact⟨U,U⟩
def ap9(u:Nat)(h:¬u<100)(c:u<18446744073709551616)(w:Ç)(m:nW w):Ô À 172 #[Â Æ u,Â Ë 10] w λe b=>e=É (Í<|iK u)/\ff (λ_=>False) w b:=by
 have g:1<=u:=Z
 have p:Ē u<=20:=by have:=Lib.numDigits_eq u g c;split at this<;>omega
 have n:À.arrayLen 276=24:=fF
 have q:∀W,(Instr.sliceAt 276 (Å<|Ã ⟨w.heap.size,0,Ä⟩) Ä (Ã<|Â Ë (Ē u:Int)) Ä).run À W=aA (Ê (Ã ⟨w.heap.size,0,Ä⟩) (Ē u) 24) W:=λW=>by rw[run_sliceAt_array_h W 276 ⟨w.heap.size,0,Ä⟩ (by simp[Program.arrayLen,Program.elem,Tryz.type276]) Ë (Ē u:Int) Z (by rw[n];omega)];go_simp
 have i:=ap7 w 276 (Ē u) Z;have l:=Tryz.internal_strconv_formatBase10 w.heap.size 0 24 u (ř (Ē u) 0) (w.alloc<|Ð Ĭ 276) i (by rw[ē];exact Lib.lt_pow_nDigits u) c (by rw[ē];omega);rw[ē]at l;have o:=Lib.hid i;have r:¬(u:Int)<100:=Z
 go_enter aU,ay;go_wp2_with (go_at_call 188;refine(Tryz.internal_strconv_numDigits u g c _<|Lib.tabIs_alloc m _).mono ?_;rintro e b ⟨rfl,rfl⟩);go_at_call 189;apply l.mono;rintro e b ⟨rfl,k,s,a,d,hF⟩;replace d:b=(ω C9 (w.alloc<|Ð Ĭ 276) w.heap.size 0 a).drewN k:=d;subst d;have t:(convert 107 9<|Ê (Ã ⟨w.heap.size,0,Ä⟩) (Ē u) 24).run À ((ω C9 (w.alloc<|Ð Ĭ 276) w.heap.size 0 a).drewN k)=aA (Í<|iK u) ((ω C9 (w.alloc<|Ð Ĭ 276) w.heap.size 0 a).drewN k):=by have h:=run_convert_bytes_back (P:=À) ((ω C9 (w.alloc<|Ð Ĭ 276) w.heap.size 0 a).drewN k) 107 9 5 ⟨w.heap.size,0,Ä⟩ 24 (ň u) fF fF fF (λj f=>by rw[Lib.row_is_numeral hF j f,Lib.add_plain,World.cell?_drewN];exact cell?_putRow C9 _ w.heap.size 0 _ a o.out (by rw[hF.size,ē]) j<|by rw[hF.size];rwa[ĭ]at f);rwa[ĭ]at h
 go_wp2;go_ret;exact⟨U,ff.gS w 276 _ _ a k⟩
def aqa(u:Nat)(d:u<18446744073709551616)(w:Ç)(f:nW w):Ô À 172 #[Â Æ u,Â Ë 10] w λe c=>e=É (Í<|iK u)/\ff (λ_=>False) w c:=by
 by_cases h:u<100
 .exact(ap8 u h w).mono λe c ⟨a,b⟩=>⟨a,b▸ff.fY _ _⟩
 .exact ap9 u h d w f
def aqb(u:Nat)(b:u<18446744073709551616)(w:Ç)(c:nW w):Ô À 157 #[Â Æ u,Â Ë 10] w λe a=>e=É (Í<|iK u)/\ff (λ_=>False) w a:=by go_enter Tryz.func157,Tryz.ntmps157;go_wp2_with (go_at_call 172;refine(aqa u b _ c).mono ?_;rintro e a ⟨rfl,d⟩);go_ret;exact⟨U,d⟩
def Bw(u:Nat)(b:u<18446744073709551616)(w:Ç)(c:nW w):Ô À 118 #[Â Æ u] w λe a=>e=É (Í<|iK u)/\ff (λ_=>False) w a:=by go_enter Tryz.func118,Tryz.ntmps118;go_wp2_with (go_at_call 157;refine(aqb u b _ c).mono ?_;rintro e a ⟨rfl,d⟩);go_ret;exact⟨U,d⟩
end Go.Proofs.Y.jr
namespace Go.Proofs.Y.jr
open Go Go.Proofs Go.RowKit Go.Proofs.Y.Lift
def Xn(B:Nat):jT:=⟨B,144,[]⟩
def aqc(B:Nat):(Xn B).Ok:=⟨show(144:Nat)≠36 by decide,show(144:Nat)≠257 by decide,show(144:Nat)≠282 by decide,show(144:Nat)≠300 by decide,show(144:Nat)≠252 by decide,show(144:Nat)≠246 by decide⟩
def ac2{s:St}(l:oJ n s h w)(z:iE s)(B:jK w)(x y:Nat)(g k:Int)(V:x<8)(Y:y<8)(vx:0<=g)(we:g<=100000)(hk:gP k)(r:Gz)(D:r=gR s [] x y g k): Ô À 158 #[Å<|Ã ⟨n,0,Ä⟩,Â Ë x,Â Ë y,Â Æ g,Â Æ k] w λe f=>
  ∃lv,e=É (é #[ė #[Â Æ r.jO,Ò r.lk,Â Æ r.ly],lv])/\f.ownsRow 0 257 2 lv r.ls.length (lQ r.ls)/\ff (λ_=>False) w f:=by
 let⟨dd,E,F⟩:=Ì.1 W5;have G:(À.info? 140).map (·.size)=Ã (jo s).length:=by rw[wi];exact acA
 let⟨i0,z0,I,J,K,L⟩:=acg acf;have m:=WO s (lv:=Ê Ä 0 0) U;rw[C4]at m;have o:(jo s++[Ê Ä 0 0]).length=145:=by rw[Ó,wi];rfl
 have M:=ff.gT (λ_=>False) w #[Â Æ 0,Ò Ï,Â Æ 0] 252;have N:=(l.fi M id).st;have iy:=ä w _ l.h;have C:∀W,jz (w.heap.size+1) 144 [] s (Ê Ä 0 0) W->jK W->Ô À 173 #[Å<|Ã ⟨w.heap.size+1,0,Ä⟩,Â Ë x,Â Ë y,Â Æ g,Â Æ k,Â Ë 1] W λe f=>e=É (ė #[Â Æ r.jO,Ò r.lk,Â Æ r.ly])/\∃kO,jl (Xn<|w.heap.size+1) (Ê Ä 0 0) 0 W r.s r.ls f kO:=λW hW hrW=>by rw[D];exact acp (Xn<|w.heap.size+1) (aqc _) s _ [] x y g k W hW (ć _ _ _ _) hrW z V Y vx we hk<|by simp;omega
 have a:=fp<|Á E<|Á F<|Á G<|Á N<|Á I<|Á K<|Á (J.trans o.symm)<|Á (L.trans o.symm) m;have H:=fp<|Á B C;clear E F G I J K L m o N l C B z M D;go_enter Tryz.func158,Tryz.ntmps158;go_wp2_with (first
  |(with_reducible refine Ĝ U 140 _ U n 0 U (jo s) dd a.out.2.2.2.1 a.out.1 a.out.2.1 a.out.2.2.1 ?_)
  |(with_reducible refine ď U (Ã 19) U _ _ (W4 U U<|wi s) ?_)
  |(with_reducible refine WN U U 144 U 12 U _ _ U U a.out.2.2.2.2.1 a.out.2.2.2.2.2.1 (jo s++[Ê Ä 0 0]) a.out.2.2.2.2.2.2.1 a.out.2.2.2.2.2.2.2.1 U U a.out.2.2.2.2.2.2.2.2 ?_;intro t hB1 O Wa))
 have Ge:t.heap.size=w.heap.size+1+1:=by simpa using Wa
 have P:jz (w.heap.size+1) 144 [] s (Ê Ä 0 0) t:=by unfold jz;rw[ù,C4];simpa using hB1
 have Q:=(ff.gT _ _ _ _).fl O;have O0:=(fw.fN w [Â Æ 0,Ò Ï,Â Æ 0] 252).fi O id;go_at_call 173;refine(H.out.2 t P<|H.out.1.fi Q id).mono ?_;rintro e u ⟨rfl,lv,d⟩;have b:=O0.fi d.fi (λq=>q.elim (λq=>absurd q<|by show w.heap.size≠w.heap.size+1;omega) λq=>by cases q);have wY:=d.fi.fh;have hlv:u.cell? ⟨w.heap.size+1,144,Ä⟩=Ã lv:=d.gI.fg Z;obtain⟨la,lc,rfl⟩:=kX d.jv;have l0:=b.lt;have y0:=b.fC 0;have y1:=b.fC 1;have y2:=b.fC 2;have c0:=b.fg 0 _ U;have c1:=b.fg 1 _ U;have c2:=b.fg 2 _ U;have hl2:w.heap.size+1<u.heap.size:=Z
 have c:=fp<|Á d<|Á b<|Á Q P;go_wp2_with fail;go_region;go_wp2_with fail;let⟨d2,pE,vT⟩:=Ì.1 WR;have hb:=((c.out.2.1.gS 0<|Â Æ r.jO).gS 1<|Ò r.lk).gS 2<|Â Æ r.ly;have T:=((ff.iB (X:=λk=>k=w.heap.size) (w:=u) (p:=⟨w.heap.size,0,Ä⟩) U<|Â Æ r.jO).fl<|ff.iB (X:=λk=>k=w.heap.size) (p:=⟨w.heap.size,1,Ä⟩) U<|Ò r.lk).fl (ff.iB (X:=λk=>k=w.heap.size) (p:=⟨w.heap.size,2,Ä⟩) U<|Â Æ r.ly);have v:=λW=>(ff.gT (λ_=>False) W #[Â Æ r.jO,Ò r.lk,Â Æ r.ly] 252).fl<|ff.gi _ _;apply õ (C0 U U (fw.tT (vs:=[Â Æ r.jO,Ò r.lk,Â Æ r.ly])<|hb.fi (v _) id) pE vT WS) U;refine⟨_,U,je (je c.out.1.jv T λj hj y=> ?_) (v _) λ_ _=>id,?_⟩
 .let⟨cur,i⟩:=nS c.out.1.jv hj;have j:=c.out.2.1;rw[y,j]at i;cases i
 .refine((c.out.2.2.1.kj c.out.1.fi λi j q=> ?_).kj T λi j q=> ?_).fl<|v _
  .rcases q with q|q
   .exact absurd q<|by show i≠w.heap.size+1;omega
   .cases q
  .omega
def xo(s:St)(x y:Nat)(k:Int):Nat->Nat->ByteArray
 |_,0=>⟨#[45]⟩
 |i,n+1=>if(gR s [] x y i k).lk then iK i else xo s x y k (i+1) n
noncomputable def Rj:Ş:=(Tryz.f120.body.bind mC).getD Ń
def GU(a x y:Nat)(k:Int)(r:È)(i:Int)(u:Nat->È):ë:=⟨#[Å<|Ã ⟨a,0,Ä⟩,Â Ë x,Â Ë y,Â Æ k,u 4,u 5,u 6,u 7,r,u 9,u 10,u 11,Â Æ i,u 13,u 14,u 15,u 16,u 17,u 18,u 19,u 20,u 21,u 22,u 23,u 24,u 25,u 26,u 27,u 28,u 29],[]⟩
def Da(b x y:Nat)(k:Int)(r:È)(i:Int)(a:ë):Prop:=∃u,a=GU b x y k r i u
def nW.fi{w':Ç}(h:nW w)(q:ff (λ_=>False) w w'):nW w':=by
 unfold nW aD World.var? at*;cases a:À.globalNamed "internal/strconv.uint64pow10" with
 |none=>rw[a]at h;cases h
 |some g=>
  rw[a]at h;simp only[Option.bind_some]at h|-;have b:g<w.heap.size:=by
   rcases ğ g w.heap.size with e|e
   .exact e
   .rw[ñ e]at h;simp at h
  rwa[q.fu g b id]
section
variable{X Y:ë->Ç->Prop}{x:Nat}{s:St}
def aqd(b:È)(u:Nat->È)(d:∀a,Da n x i c b 401 a->X a w): Î À Rj (Exit.then K<|QN X Y) (GU n x i c b 401 u) w:=by
 unfold GU;conv=>arg 2;whnf
 go_wp2_with fail
 exact d _ (gL _)
def aqe(m:È)(u:Nat->È)(j:Nat)(O:j<401)(z:oJ n s h w)(B:iE s)(C:jK w)(D:nW w)(E:x<8)(F:i<8)(G:gP c) (o:(gR s [] x i j c).lk=Ï->∀a d,Da n x i c m ((j+1:Nat):Int) a->ff (λ_=>False) w d->K a d) (p:(gR s [] x i j c).lk=Ý->∀a d,Da n x i c (Í<|iK j) j a->ff (λ_=>False) w d->Y a d): Î À Rj (Exit.then K<|QN X Y) (GU n x i c m j u) w:=by
 unfold GU;conv=>arg 2;whnf
 have T:=ac2 z B C x i j c E F Z Z G _ U;obtain⟨q,l,r,t,v,I⟩:∃q l r t v,gR s [] x i j c=⟨q,l,r,t,v⟩:=⟨_,_,_,_,_,U⟩;rw[I]at T o p;have P:Æ.wrap ((j:Int)+1)=((j+1:Nat):Int):=by rw[Ο];omega
 have Q:(0:Int)<=(j:Int):=Z
 have V:(j:Int)<401:=Z
 have H:=fp<|Á T<|Á o<|Á p D;cases l with
 |true=>
  go_wp2_with (first
   |(go_at_call 158;refine H.out.1.mono ?_;rintro e g ⟨J,rfl,b,f⟩;obtain⟨L,M,rfl⟩:=kX b;have k:=fp<|Á f b;clear f b)
   |(go_at_call 118;refine(Bw j Z _ (H.out.2.2.2.fi (k.out.1.fl (ff.gT (λ_=>False) g _ _)))).mono ?_;rintro e W ⟨rfl,y⟩;have N:=fp y;clear y))
  exact H.out.2.2.1 trivial _ _ (gL _)<|(k.out.1.fl<|ff.gT (λ_=>False) g _ _).fl N.out
 |false=>
  go_wp2_with (first
   |(go_at_call 158;refine H.out.1.mono ?_;rintro e g ⟨J,rfl,b,f⟩;obtain⟨L,M,rfl⟩:=kX b;have k:=fp (Á f b);clear f b))
  exact H.out.2.1 trivial _ _ (gL _)<|k.out.1.fl<|ff.gT (λ_=>False) g _ _
def LI(n x i:Nat)(c:Int)(b:È)(s:St)(d:Ç)(e:ByteArray)(a:ë)(w:Ç):Prop:=
 ∃j:Nat,Da n x i c b j a/\j<=401/\ff (λ_=>False) d w/\xo s x i c j (401-j)=e
def LE(n x i:Nat)(c:Int)(b:È)(d:Ç)(e:ByteArray)(a:ë)(w:Ç):Prop:=Da n x i c b 401 a/\ff (λ_=>False) d w/\e=⟨#[45]⟩
def LR(n x i:Nat)(c:Int)(d:Ç)(e:ByteArray)(a:ë)(w:Ç):Prop:=∃b,Da n x i c (Í e) b a/\ff (λ_=>False) d w
def Rk(a:ë)(_:Ç):Nat:=match a.tmps.getD 12 ĉ with
 |Â _ i=>401-i.toNat
 |_=>0
def ac3(b:Da n x i c v j y):Rk y w=401-j:=by obtain⟨u,rfl⟩:=b;show 401-(j:Int).toNat=_;simp
def aqf(o:oJ n s h u)(p:iE s)(r:jK u)(t:nW u)(y:x<8)(z:i<8)(C:gP c)(a:ë)(w:Ç)(D:LI n x i c v s u B a w): Î À Rj (Exit.then (λf g=>LI n x i c v s u B f g/\Rk f g<Rk a w)<|QN (LE n x i c v u B)<|LR n x i c u B) a w:=by
 let⟨j,m,I,d,e⟩:=D;have E:=ac3 (w:=w) m;rw[E];obtain⟨b,rfl⟩:=m;by_cases F:j=401
 .subst F;exact aqd v b λa q=>⟨q,d,e.symm⟩
 .have G:401-j=(401-(j+1))+1:=Z
  rw[G,xo]at e;refine aqe v b j Z (o.fi d id) p (r.fi d id) (t.fi d) y z C ?_ ?_
  .intro k f g q l;rw[k]at e;exact⟨⟨j+1,q,Z,d.fl l,e⟩,by rw[ac3 q];omega⟩
  .intro k f g q l;rw[k]at e;have H:iK j=B:=e;rw[H]at q;exact⟨j,q,d.fl l⟩
def aqg(g:oJ n s h w)(j:iE s)(k:jK w)(l:nW w)(m:x<8)(o:i<8)(p:gP c): Ô À 120 #[Å<|Ã ⟨n,0,Ä⟩,Â Ë x,Â Ë i,Â Æ c] w λe a=>e=É (Í<|xo s x i c 0 401)/\ff (λ_=>False) w a:=by
 have L:∀a,Da n x i c (Í ⟨#[]⟩) 0 a->Î À (ã Rj) (QN (LE n x i c (Í ⟨#[]⟩) w<|xo s x i c 0 401)<|LR n x i c w<|xo s x i c 0 401) a w:=λa q=>
  Đ (LI n x i c (Í ⟨#[]⟩) s w<|xo s x i c 0 401) Rk ⟨0,q,å _,ff.fY _ _,U⟩<|aqf g j k l m o p
 have H:=fp L;generalize xo s x i c 0 401=r at*;go_enter Tryz.func120,Tryz.ntmps120;go_wp2_with fail;refine à ?_ (H.out _ (gL _));rintro(_|(_|_)|_|_|_|_) a v hq;all_goals first|exact absurd hq id|skip
 .obtain⟨b,d,rfl⟩:=hq;obtain⟨u,rfl⟩:=b;unfold GU;have f:=fp d;go_wp2_with fail;go_ret;exact⟨U,f.out⟩
 .let⟨e,b,d⟩:=hq;obtain⟨u,rfl⟩:=b;unfold GU;have f:=fp d;go_wp2_with fail;go_ret;exact⟨U,f.out⟩
end
def Db:(À.info? 9).map (λi=>(i.zero,i.size,i.bytes))=Ã (Ã<|Í ⟨#[]⟩,1,16):=fF
def mD(xs:List ByteArray):List È:=xs.map Í
structure ji(w0:Ç)(tv:È)(xs:List ByteArray)(w:Ç):Prop where
 fD:w.ownsRow w0.heap.size 9 1 tv xs.length (mD xs)
 fi:ff (λ_=>False) w0 w
section
variable{w0:Ç}{tv:È}{xs:List ByteArray}
def ji.mX(w0:Ç){w:Ç}(k:ff (λ_=>False) w0 w):ji w0 (Ê Ä 0 0) [] w:=⟨ć _ _ _ _,k⟩
def ji.gu(h:ji w0 tv xs w)(k:ff (λ_=>False) w u):ji w0 tv xs u:=⟨je h.fD k λ_ _=>id,h.fi.fl k⟩
def ji.jV(h:ji w0 tv xs w)(a:tO w w0.heap.size 9 1 tv xs.length (mD xs) 1 [Í B] v u):ji w0 v (xs++[B]) u:=by
 refine⟨?_,h.fi.kj a.fi λi b q=> ?_⟩
 .have:=a.fD;rwa[show mD xs++[Í B]=mD (xs++[B]) by simp[mD],show xs.length+1=(xs++[B]).length by simp]at this
 .have:=(h.fD.lt i q).1;omega
end
def uS(u:Nat)(h:u<18446744073709551616):(iK u).size<=20:=by have:=Lib.nDigits_le20 u h;unfold iK;show(ň u).toArray.size<=20;simp[ĭ];omega
def p7(p:Option Ċ)(a:List È)(w:Ç):Prop:=∀(j:Nat) (x:È),a[j]?=Ã x->∃b o,p=Ã ⟨b,o,Ä⟩/\w.cell? ⟨b,o+j,Ä⟩=Ã x
def p7.fi{p:Option Ċ}{w':Ç}(h:p7 p l w)(q:ff (λ_=>False) w w'):p7 p l w':=λj x a=>by let⟨b,o,c,d⟩:=h j x a;exact⟨b,o,c,q.fg d id⟩
def p7.fD{base:Nat}{a:Option Ċ}{c:Nat}{xs:List È}(h:w.ownsRow base e i (Ê a n c) n xs):p7 a xs w:=λj x b=>by
 rcases h.2 with⟨d,f⟩|⟨g,k,l,d,_⟩
 .have:=h.1;rw[f,Nat.zero_mul]at this;rw[á this]at b;cases b
 .cases d;refine⟨g,0,U,?_⟩;have:=h.cells (g:=g) U j x b;rwa[Addr.add_mid]at this
def Xo{α:Type}(f g:α->È):∀(l:List α) (j:Nat) (x:α),l[j]?=Ã x->(l.flatMap λp=>[f p,g p])[j*2]?=Ã (f x)/\(l.flatMap λp=>[f p,g p])[j*2+1]?=Ã (g x)
 |[],j,x,h=>by cases h
 |a::l,0,x,h=>by cases h;exact⟨U,U⟩
 |a::l,j+1,x,h=>by have p:=Xo f g l j x h;rwa[show(j+1)*2=j*2+1+1 by omega]
def jG(y:Nat):ByteArray:=ÿ ⟨#[97,98,99,100,101,102,103,104]⟩ y<|y+1
def wv(e:Nat×Int):ByteArray:=jG e.1++iK e.2.toNat
noncomputable def Rl:Ş:=(Tryz.f124.body.bind mC).getD Ń
def Js(a:Option Ċ)(n b:Nat)(c:È)(i:Int)(u:Nat->È):ë:=⟨#[Ê a n b,u 1,u 2,c,u 4,u 5,Ê a n b,Â Ë n,Â Ë i,u 9,u 10,u 11,u 12,u 13,u 14,u 15,u 16,u 17,u 18,u 19,u 20,u 21,u 22,u 23,u 24,u 25,u 26],[]⟩
def Jt(b:Option Ċ)(n c:Nat)(d:È)(i:Int)(a:ë):Prop:=∃u,a=Js b n c d i u
section
variable{X:ë->Ç->Prop}{w0:Ç}{cp:Nat}{tv:È}{xs:List ByteArray}
def aqh(u:Nat->È)(i:Int)(b:i=n)(c:∀a,Jt O n cp tv n a->X a w): Î À Rl (Exit.then K<|QQ X) (Js O n cp tv i u) w:=by
 unfold Js;conv=>arg 2;whnf
 subst b;go_wp2_with fail;exact c _ (gL _)
def aqi(u:Nat->È)(r:ji w0 tv xs w)(j:Nat)(P:j<n)(Q:n<=400000)(T:xs.length<=400000)(y p:Nat)(V:y<8)(s:p<18446744073709551616)(B:nW w)(l m:Nat)(C:O=Ã ⟨l,m,Ä⟩)(W:w.cell? ⟨l,m+j*2,Ä⟩=Ã (Â Ë y))(Y:w.cell? ⟨l,m+j*2+1,Ä⟩=Ã (Â Æ p)) (b:∀a d t,Jt O n cp t ((j+1:Nat):Int) a->ji w0 t (xs++[jG y++iK p]) d->K a d): Î À Rl (Exit.then K<|QQ X) (Js O n cp tv j u) w:=by
 unfold Js;conv=>arg 2;whnf
 subst C;have e0:(0:Int)<=(j:Int):=Z
 have e1:(j:Int)<(n:Int):=Z
 have y0:(0:Int)<=(y:Int):=Z
 have y1:(y:Int)<8:=Z
 have kV:=uS p s;have oW:Ë.wrap ((y:Int)+1)=(y:Int)+1:=by rw[î];omega
 have IA:(0:Int)<=(y:Int)+1:=Z
 have AV:(y:Int)+1<=8:=Z
 have uH:(y:Int)<=(y:Int)+1:=Z
 have yu:((y:Int)+1).toNat=y+1:=Z
 have Bs:¬9223372036854775807<min (y+1) 8-y+(iK p).size:=Z
 obtain⟨ta,tc,rfl⟩:=kX r.fD;have H:=fp<|Á r<|Á B b;go_wp2_with fail;change Î À _ _ _ (w.alloc<|Ð #[Â Ë y,Â Æ p] 257);have v:=ff.gT (λ_=>False) w #[Â Ë y,Â Æ p] 257;have D:=(H.out.1.gu v).gu<|ff.gi _ _;have E:=(H.out.2.1.fi v).fi<|ff.gi _ _;have o:=(fw.fN w [Â Ë y,Â Æ p] 257).fi (ff.gi (λ_=>False) _) id;let⟨i0,F,G,I,J⟩:=ò Db;have g:=fp<|Á F<|Á G<|Á I J;refine oG (λd=>d.cell? ⟨w.heap.size,0,Ä⟩=Ã (Â Ë y)/\d.cell? ⟨w.heap.size,1,Ä⟩=Ã (Â Æ p)) [] fF ?_;have c:=fp<|Á (o.fg 0 _ rfl)<|o.fg 1 _ rfl;generalize w.heap.size=ub at*;generalize đ (w.alloc<|Ð #[Â Ë y,Â Æ p] 257)=w1 at*;apply tk 0 c.out;apply tk 1 c.out;apply tk 2 c.out;apply tk 3 c.out;apply tk 4 c.out;apply tk 5 c.out;apply tk 6 c.out;apply tk 7 c.out;apply tk 8 c.out;apply iu 9;intro K b;go_simp;go_at_call 118;refine(Bw p s _ E).mono ?_;rintro e L ⟨rfl,x⟩;have M:=D.gu x;have f:=o.fi x id;apply b.out _ _ λ_=>⟨f.fg 0 _ U,f.fg 1 _ U⟩;apply iu 10;intro K b;go_simp;apply b.out _ _ λ_=>⟨f.fg 0 _ U,f.fg 1 _ U⟩;have z:=ff.gT (λ_=>False) L #[Í<|jG y++iK p] 9;have h:=M.gu z;have i:=f.fi z id;apply iu 11;intro K b;go_simp;apply b.out _ _ λ_=>⟨i.fg 0 _ U,i.fg 1 _ U⟩;apply iu 12;intro K b;refine QH gG _ _ 25 gG Ā g.out.1 g.out.2.1 g.out.2.2.1 g.out.2.2.2 U gG h.fD ⟨_,0,Ä⟩ [Í<|jG y++iK p] gG Z U (ą _ _ _) (λu k=>by simp at k;subst k;rfl) (by unfold č;omega) Z h.fi.fh ?_;intro tv1 w9 q;obtain⟨a2,cp2,rfl⟩:=kX q.fD;have N:=h.jV q;have k:=i.fi q.fi<|kP h.fD i A;apply b.out _ _ λ_=>⟨k.fg 0 _ U,k.fg 1 _ U⟩;apply iu 13;intro K b;go_simp;apply b.out _ _ λ_=>⟨k.fg 0 _ U,k.fg 1 _ U⟩;refine om fF ?_ _;go_wp2_with fail;exact H.out.2.2 _ _ _ (gL _) N
def Xp(O:Option Ċ)(n cp:Nat)(w0:Ç)(l:List (Nat×Int))(a:ë)(w:Ç):Prop:=
 ∃(j:Nat) (tv:È),Jt O n cp tv j a/\j<=n/\ji w0 tv ((l.take j).map wv) w
def ltE(O:Option Ċ)(n cp:Nat)(w0:Ç)(l:List (Nat×Int))(a:ë)(w:Ç):Prop:=
 ∃tv,Jt O n cp tv n a/\ji w0 tv (l.map wv) w
def Rm(n:Nat)(a:ë)(_:Ç):Nat:=match a.tmps.getD 8 ĉ with
 |Â _ i=>n-i.toNat
 |_=>0
def ac4(b:Jt O n cp tv i y):Rm n y w=n-i:=by obtain⟨u,rfl⟩:=b;show n-(i:Int).toNat=_;simp
def aqj{l:List (Nat×Int)}(k:n=l.length)(m:n<=400000)(o:p6 l)(p:nW w0)(f:p7 O (lQ l) w0)(a:ë)(w:Ç)(r:Xp O n cp w0 l a w): Î À Rl (Exit.then (λb d=>Xp O n cp w0 l b d/\Rm n b d<Rm n a w)<|QQ<|ltE O n cp w0 l) a w:=by
 let⟨j,tv,g,E,b⟩:=r;rw[ac4 g];obtain⟨u,rfl⟩:=g;by_cases s:j=n
 .subst s;refine aqh u _ U λa q=>⟨tv,q,?_⟩;rwa[k,Χ]at b
 .obtain⟨x,e⟩:∃x,l[j]?=Ã x:=⟨_,Ñ Z⟩;obtain⟨g0,t⟩:=Xo _ _ l j x e;let⟨v,y,h,z⟩:=f (j*2) _ g0;let⟨F,G,i,B⟩:=f (j*2+1) _ t;rw[h]at i;cases i;have c:=o x<|ü e;refine aqi u b j Z m (by simp;omega) x.1 x.2.toNat c.1 (by have:=c.2.1;have:=c.2.2;omega) (p.fi b.fi) v y h (b.fi.fg z id) (by rw[ę c.2.1];exact b.fi.fg B id) λa d C q D=>⟨⟨j+1,C,q,Z,?_⟩,by rw[ac4 q];omega⟩;rwa[Κ,e,ś]
def ac5{l:List (Nat×Int)}(b:n=l.length)(g:n<=400000)(c:p6 l)(d:nW w)(f:p7 O (lQ l) w): Ô À 124 #[Ê O n cp] w λe a=>∃tv,e=É tv/\ji w tv (l.map wv) a:=by
 have L:∀a,Jt O n cp (Ê Ä 0 0) (0:Nat) a->Î À (ã Rl) (QQ<|ltE O n cp w l) a w:=λa e=>
  Đ (Xp O n cp w l) (Rm n) ⟨0,_,e,å _,ji.mX w<|ff.fY _ _⟩<|aqj b g c d f
 have H:=fp L;clear L c d f b;go_enter Tryz.func124,Tryz.ntmps124;go_wp2_with fail;refine à ?_ (H.out _ (gL _));rintro(_|(_|_)|_|_|_|_) a v hq;all_goals first|exact absurd hq id|skip
 let⟨tv,h,i⟩:=hq;obtain⟨u,rfl⟩:=h;unfold Js;have j:=fp i;go_wp2_with fail;go_ret;exact⟨_,U,j.out⟩
end
def ac6(b:Bool):Bm b=((b.toNat:Nat):Int):=by cases b<;>rfl
def Ju(e:Int×Bool):ByteArray:=iK e.2.toNat++⟨#[58]⟩++iK e.1.toNat
noncomputable def Rn:Ş:=(Tryz.f125.body.bind mC).getD Ń
def Jv(a:Option Ċ)(n b:Nat)(c:È)(i:Int)(u:Nat->È):ë:=⟨#[Ê a n b,u 1,u 2,c,u 4,u 5,Ê a n b,Â Ë n,Â Ë i,u 9,u 10,u 11,u 12,u 13,u 14,u 15,u 16,u 17,u 18,u 19,u 20,u 21,u 22,u 23,u 24,u 25],[]⟩
def Jw(b:Option Ċ)(n c:Nat)(d:È)(i:Int)(a:ë):Prop:=∃u,a=Jv b n c d i u
section
variable{cp:Nat}{xs:List ByteArray}
def aqk(u:Nat->È)(i:Int)(b:i=n)(c:∀a,Jw O n cp v n a->H a w): Î À Rn (Exit.then K<|QQ H) (Jv O n cp v i u) w:=by
 unfold Jv;conv=>arg 2;whnf
 subst b;go_wp2_with fail;exact c _ (gL _)
def aql(c:Nat->È)(r:ji u v xs w)(j:Nat)(hj:j<n)(hn:n<=1000)(K8:xs.length<=1000)(p:Nat)(b:Bool)(C:p<18446744073709551616)(D:nW w)(s t:Nat)(W:O=Ã ⟨s,t,Ä⟩)(X:w.cell? ⟨s,t+j*2,Ä⟩=Ã (Â Æ p))(Y:w.cell? ⟨s,t+j*2+1,Ä⟩=Ã (Ò b)) (f:∀a h E,Jw O n cp E ((j+1:Nat):Int) a->ji u E (xs++[iK b.toNat++⟨#[58]⟩++iK p]) h->K a h): Î À Rn (Exit.then K<|QQ H) (Jv O n cp v j c) w:=by
 unfold Jv;conv=>arg 2;whnf
 subst W;have e0:(0:Int)<=(j:Int):=Z
 have e1:(j:Int)<(n:Int):=Z
 have kV:=uS p C;have F:b.toNat<18446744073709551616:=by cases b<;>decide
 have hsb:=uS b.toNat F;have Bs:¬9223372036854775807<(iK b.toNat).size+1:=Z
 have hw5:¬9223372036854775807<(iK b.toNat).size+1+(iK p).size:=Z
 obtain⟨ta,tc,rfl⟩:=kX r.fD;have d:=fp<|Á r<|Á D f;clear r D f;go_wp2_with fail;change Î À _ _ _ (w.alloc<|Ð #[Â Æ p,Ò b] 246);have G:=ff.gT (λ_=>False) w #[Â Æ p,Ò b] 246;have T1:=(d.out.1.gu G).gu<|ff.gi _ _;have I:=(d.out.2.1.fi G).fi<|ff.gi _ _;have x:fw w.heap.size [Â Æ p,Ò b] 246 (đ<|w.alloc<|Ð #[Â Æ p,Ò b] 246):=(fw.fN w [Â Æ p,Ò b] 246).fi (ff.gi (λ_=>False) _) id;let⟨i0,J,L,M,N⟩:=ò Db;have k:=fp<|Á J<|Á L<|Á M N;clear J L M N X Y;refine oG (λh=>h.cell? ⟨w.heap.size,0,Ä⟩=Ã (Â Æ p)/\h.cell? ⟨w.heap.size,1,Ä⟩=Ã (Ò b)) [] fF ?_;have g:=fp<|Á (x.fg 0 _ rfl)<|x.fg 1 _ rfl;generalize w.heap.size=ub at*;generalize đ (w.alloc<|Ð #[Â Æ p,Ò b] 246)=w1 at*;apply tk 0 g.out;apply tk 1 g.out;apply tk 2 g.out;apply tk 6 g.out;apply tk 7 g.out;apply iu 3;intro K f;go_simp;go_at_call 159;refine(Mr _ _).mono ?_;rintro e P ⟨rfl,uH⟩;subst P;dsimp only;rw[ac6];apply f.out _ _ λ_=>g.out;clear f K;apply iu 4;intro K f;go_simp;go_at_call 118;refine(Bw b.toNat F _ I).mono ?_;rintro e P ⟨rfl,y⟩;have T2:=T1.gu y;have z:=x.fi y id;have P2:=I.fi y;have Q:=fp<|Á (z.fg 0 _ rfl)<|z.fg 1 _ rfl;dsimp only;apply f.out _ _ λ_=>Q.out;clear f K;apply tk 5 Q.out;apply iu 8;intro K f;go_simp;go_at_call 118;refine(Bw p C _ P2).mono ?_;rintro e w3 ⟨rfl,T⟩;have T3':=T2.gu T;have i:=z.fi T id;dsimp only;apply f.out _ _ λ_=>⟨i.fg 0 _ U,i.fg 1 _ U⟩;clear f K;apply iu 9;intro K f;go_simp;apply f.out _ _ λ_=>⟨i.fg 0 _ U,i.fg 1 _ U⟩;clear f K;have V:=ff.gT (λ_=>False) w3 #[Í<|iK b.toNat++⟨#[58]⟩++iK p] 9;have l:=T3'.gu V;have o:=i.fi V id;apply iu 10;intro K f;go_simp;apply f.out _ _ λ_=>⟨o.fg 0 _ U,o.fg 1 _ U⟩;clear f K;apply iu 11;intro K f;refine QH (base:=u.heap.size) (n:=xs.length) (xs:=mD xs) (m:=1) gG _ _ 25 gG Ā k.out.1 k.out.2.1 k.out.2.2.1 k.out.2.2.2 U gG l.fD ⟨_,0,Ä⟩ [Í<|iK b.toNat++⟨#[58]⟩++iK p] gG Z U (ą _ _ _) (λc q=>by simp at q;subst q;rfl) (by unfold č;omega) Z l.fi.fh ?_;intro tv1 w9 B;obtain⟨a2,cp2,rfl⟩:=kX B.fD;have TF:=l.jV B;have q:=o.fi B.fi<|kP l.fD o A;apply f.out _ _ λ_=>⟨q.fg 0 _ U,q.fg 1 _ U⟩;clear f K;apply iu 12;intro K f;go_simp;apply f.out _ _ λ_=>⟨q.fg 0 _ U,q.fg 1 _ U⟩;clear f K;try simp only[ł,Õ,æ,ç]
 refine om fF ?_ _;go_wp2_with fail;exact d.out.2.2 _ _ _ (gL _) TF
def Xq(O:Option Ċ)(n cp:Nat)(u:Ç)(l:List (Int×Bool))(a:ë)(w:Ç):Prop:=
 ∃(j:Nat) (v:È),Jw O n cp v j a/\j<=n/\ji u v ((l.take j).map Ju) w
def Xr(O:Option Ċ)(n cp:Nat)(u:Ç)(l:List (Int×Bool))(a:ë)(w:Ç):Prop:=
 ∃v,Jw O n cp v n a/\ji u v (l.map Ju) w
def Ro(n:Nat)(a:ë)(_:Ç):Nat:=match a.tmps.getD 8 ĉ with
 |Â _ i=>n-i.toNat
 |_=>0
def ac7(b:Jw O n cp v i y):Ro n y w=n-i:=by obtain⟨u,rfl⟩:=b;show n-(i:Int).toNat=_;simp
def aqm{l:List (Int×Bool)}(m:n=l.length)(o:n<=1000)(p:C8 l)(r:nW u)(g:p7 O (yF l) u)(a:ë)(w:Ç)(s:Xq O n cp u l a w): Î À Rn (Exit.then (λb d=>Xq O n cp u l b d/\Ro n b d<Ro n a w)<|QQ<|Xr O n cp u l) a w:=by
 let⟨j,v,h,G,c⟩:=s;rw[ac7 h];obtain⟨b,rfl⟩:=h;by_cases t:j=n
 .subst t;refine aqk b _ U λa q=>⟨v,q,?_⟩;rwa[m,Χ]at c
 .obtain⟨x,e⟩:∃x,l[j]?=Ã x:=⟨_,Ñ Z⟩;obtain⟨g0,y⟩:=Xo _ _ l j x e;let⟨z,B,i,C⟩:=g (j*2) _ g0;let⟨H,I,k,D⟩:=g (j*2+1) _ y;rw[i]at k;cases k;have f:=p x<|ü e;refine aql b c j Z o (by simp;omega) x.1.toNat x.2 (by have:=f.1;have:=f.2;omega) (r.fi c.fi) z B i (by rw[ę f.1];exact c.fi.fg C id) (c.fi.fg D id) λa d E q F=>⟨⟨j+1,E,q,Z,?_⟩,by rw[ac7 q];omega⟩;rwa[Κ,e,ś]
def aqn{l:List (Int×Bool)}(b:n=l.length)(g:n<=1000)(c:C8 l)(d:nW w)(f:p7 O (yF l) w): Ô À 125 #[Ê O n cp] w λe a=>∃v,e=É v/\ji w v (l.map Ju) a:=by
 have L:∀a,Jw O n cp (Ê Ä 0 0) (0:Nat) a->Î À (ã Rn) (QQ<|Xr O n cp w l) a w:=λa h=>
  Đ (Xq O n cp w l) (Ro n) ⟨0,_,h,å _,ji.mX w<|ff.fY _ _⟩<|aqm b g c d f
 have H:=fp L;clear L c d f b;go_enter Tryz.func125,Tryz.ntmps125;go_wp2_with fail;refine à (Q:=QQ<|Xr O n cp w l) ?_ (H.out _ (gL _));rintro(_|(_|_)|_|_|_|_) a v hq;all_goals first|exact absurd hq id|skip
 let⟨v,i,e⟩:=hq;obtain⟨u,rfl⟩:=i;unfold Jv;have j:=fp e;clear e;go_wp2_with fail;go_ret;exact⟨_,U,j.out⟩
end
def GV(j:Nat):ByteArray:=ÿ ⟨#[48,49,50,51,52,53,54,55,56,57,97,98,99,100,101,102]⟩ j<|j+1
def GX(s t:St)(i j:Nat):List ByteArray:=if(s i).kY j=(t i).kY j then[]else[jG i++GV j]
def uT(s t:St)(i j:Nat):List ByteArray:=(Ĉ j).flatMap<|GX s t i
def Bx(b a:Int)(p c:ByteArray)(i:Nat):List ByteArray:=(if b=a then[]else[jG i++⟨#[36]⟩])++(if p.toList=c.toList then[]else[jG i++⟨#[123]⟩])
def Dc(s t:St)(i:Nat):List ByteArray:=Bx (s i).fH (t i).fH (s i).iN (t i).iN i++uT s t i 16
def uU(s t:St)(n:Nat):List ByteArray:=(Ĉ n).flatMap<|Dc s t
def aqo(s t:St)(i j:Nat):(GX s t i j).length<=1:=by unfold GX;split<;>simp
def Xs(s t:St)(i j:Nat):uT s t i (j+1)=uT s t i j++GX s t i j:=by unfold uT;rw[Ś,ů];simp
def Rp(s t:St)(i:Nat):∀j,(uT s t i j).length<=j
 |0=>by simp[uT]
 |j+1=>by rw[Xs,Ó];have:=Rp s t i j;have:=aqo s t i j;omega
def ac8(b a:Int)(p c:ByteArray)(i:Nat):(Bx b a p c i).length<=2:=by unfold Bx;rw[Ó];split<;>split<;>simp
def ac9(s t:St)(n:Nat):uU s t (n+1)=uU s t n++Dc s t n:=by unfold uU;rw[Ś,ů];simp
def Xt(s t:St):∀n,(uU s t n).length<=18*n
 |0=>by simp[uU]
 |n+1=>by rw[ac9,Ó];have:=Xt s t n;unfold Dc;rw[Ó];have:=Rp s t n 16;have:=ac8 (s n).fH (t n).fH (s n).iN (t n).iN n;omega
def By(i:Nat):(jG i).size<=1:=by unfold jG;rw[Ŗ];omega
def ada(i:Nat):(GV i).size<=1:=by unfold GV;rw[Ŗ];omega
def oJ.iU{s:St}(c:oJ n s h W)(a:i<8):W.cell? ⟨n,i*18,Ä⟩=Ã (Â Æ (s i).fH)/\W.cell? ⟨n,i*18+1,Ä⟩=Ã (Í (s i).iN)/\∀j,j<16->W.cell? ⟨n,i*18+2+j,Ä⟩=Ã (Â Æ<|(s i).kY j):=by
 have g:∀j,j<144->W.cell? ⟨n,j,Ä⟩=Ã (sJ s j):=λj b=>by have:=c.st j _<|Xe s b;simpa using this
 refine⟨?_,?_,λj b=> ?_⟩
 .rw[g _ Z,<-tR s (Ê Ä 0 0) Z,Mp _ _ a];rfl
 .rw[g _ Z,<-tR s (Ê Ä 0 0) Z,QB _ _ a]
 .rw[g _ Z,<-tR s (Ê Ä 0 0) Z,QC _ _ a b];rfl
noncomputable def Dd:Ş:=(Tryz.f126.body.bind mC).getD Ń
noncomputable def Bz:Ş:=(mC Dd).getD Ń
def yM(a b i:Nat)(c:È)(j:Int)(u:Nat->È):ë:=⟨#[Å<|Ã ⟨a,0,Ä⟩,Å<|Ã ⟨b,0,Ä⟩,u 2,u 3,u 4,c,Â Ë i,Í<|jG i,Å<|Ã ⟨a,i*18,Ä⟩,Å<|Ã ⟨b,i*18,Ä⟩,u 10,Â Ë i,u 12,u 13,u 14,u 15,u 16,u 17,u 18,u 19,u 20,u 21,u 22,u 23,u 24,u 25,u 26,u 27,u 28,u 29,u 30,u 31,u 32,u 33,u 34,u 35,u 36,u 37,u 38,u 39,u 40,u 41,u 42,u 43,u 44,u 45,u 46,u 47,u 48,u 49,u 50,u 51,u 52,u 53,Â Ë j,u 55,u 56,u 57,u 58,u 59,u 60,u 61,u 62,u 63,u 64,u 65,u 66,u 67,u 68,u 69,u 70,u 71,u 72,u 73,u 74,u 75,u 76,u 77,u 78,u 79,u 80,u 81],[]⟩
def yN(b c i:Nat)(d:È)(j:Int)(a:ë):Prop:=∃u,a=yM b c i d j u
def xp(a b:Nat)(c:È)(i:Int)(u:Nat->È):ë:=⟨#[Å<|Ã ⟨a,0,Ä⟩,Å<|Ã ⟨b,0,Ä⟩,u 2,u 3,u 4,c,u 6,u 7,u 8,u 9,u 10,Â Ë i,u 12,u 13,u 14,u 15,u 16,u 17,u 18,u 19,u 20,u 21,u 22,u 23,u 24,u 25,u 26,u 27,u 28,u 29,u 30,u 31,u 32,u 33,u 34,u 35,u 36,u 37,u 38,u 39,u 40,u 41,u 42,u 43,u 44,u 45,u 46,u 47,u 48,u 49,u 50,u 51,u 52,u 53,u 54,u 55,u 56,u 57,u 58,u 59,u 60,u 61,u 62,u 63,u 64,u 65,u 66,u 67,u 68,u 69,u 70,u 71,u 72,u 73,u 74,u 75,u 76,u 77,u 78,u 79,u 80,u 81],[]⟩
def zY(b c:Nat)(d:È)(i:Int)(a:ë):Prop:=∃u,a=xp b c d i u
section
variable{X:ë->Ç->Prop}{w0:Ç}{xs:List ByteArray}{s t:St}
def aqp(u:Nat->È)(b:∀a,yN n j i v (16:Nat) a->X a w): Î À Bz (Exit.then K<|Q2 X) (yM n j i v (16:Nat) u) w:=by
 unfold yM;conv=>arg 2;whnf
 go_wp2_with fail
 exact b _ (gL _)
def aqr(u:Nat->È)(b:Nat)(d:i<8)(e:b<16)(p:Int)(f:w.cell? ⟨n,i*18+2+b,Ä⟩=Ã (Â Æ p))(g:w.cell? ⟨j,i*18+2+b,Ä⟩=Ã (Â Æ p)) (c:∀a,yN n j i v ((b+1:Nat):Int) a->K a w.drew): Î À Bz (Exit.then K<|Q2 X) (yM n j i v b u) w:=by
 unfold yM;conv=>arg 2;whnf
 have h:(0:Int)<=(b:Int):=Z
 have k:(b:Int)<16:=Z
 have H:=fp c;clear c;go_wp2_with fail;go_region;go_wp2_with fail;exact H.out _ (gL _)
def aqs(u:Nat->È)(d:ji w0 v xs w)(t:xs.length<=1000)(b:Nat)(x:i<8)(y:b<16)(p q:Int)(z:(p==q)=Ï)(B:w.cell? ⟨n,i*18+2+b,Ä⟩=Ã (Â Æ p))(C:w.cell? ⟨j,i*18+2+b,Ä⟩=Ã (Â Æ q)) (f:∀a g h,yN n j i g ((b+1:Nat):Int) a->ji w0 g (xs++[jG i++GV b]) h->K a h): Î À Bz (Exit.then K<|Q2 X) (yM n j i v b u) w:=by
 unfold yM;conv=>arg 2;whnf
 have D:(0:Int)<=(b:Int):=Z
 have E:(b:Int)<16:=Z
 have F:Ë.wrap ((b:Int)+1)=(b:Int)+1:=by rw[î];omega
 have G:(0:Int)<=(b:Int)+1:=Z
 have I:(b:Int)+1<=16:=Z
 have J:(b:Int)<=(b:Int)+1:=Z
 have L:((b:Int)+1).toNat=b+1:=Z
 have M:¬9223372036854775807<(jG i).size+(GV b).size:=by have:=By i;have:=ada b;omega
 have N:ÿ ⟨#[48,49,50,51,52,53,54,55,56,57,97,98,99,100,101,102]⟩ b (b+1)=GV b:=U;obtain⟨O,P,rfl⟩:=kX d.fD;let⟨Q,k,l,o,r⟩:=ò Db;have c:=fp<|Á k<|Á l<|Á o r;have H:=fp<|Á d f;clear d f k l o r;go_wp2_with fail;go_region;go_wp2_with (at_builtin;refine Gv (base:=w0.heap.size) (n:=xs.length) (xs:=mD xs) (m:=1) U _ _ 25 U Ā c.out.1 c.out.2.1 c.out.2.2.1 c.out.2.2.2 U U ((H.out.1).gu kp).fD ⟨_,0,Ä⟩ [Í<|jG i++GV b] U Z U (ą _ _ _) (λu e=>by simp at e;subst e;rfl) (by unfold č;omega) Z ((H.out.1).gu kp).fi.fh ?_;intro T V e;obtain⟨W,Y,rfl⟩:=kX e.fD;have s:=fp<|((H.out.1).gu kp).jV e;clear e);exact H.out.2 _ _ _ (gL _) s.out
def DJ(n j i:Nat)(w0:Ç)(xs:List ByteArray)(s t:St)(a:ë)(w:Ç):Prop:=
 ∃(b:Nat) (v:È),yN n j i v b a/\b<=16/\ji w0 v (xs++uT s t i b) w
def zZ(n j i:Nat)(w0:Ç)(xs:List ByteArray)(s t:St)(a:ë)(w:Ç):Prop:=
 ∃(v:È),yN n j i v (16:Nat) a/\ji w0 v (xs++uT s t i 16) w
def Rq(a:ë)(_:Ç):Nat:=match a.tmps.getD 54 ĉ with
 |Â _ i=>16-i.toNat
 |_=>0
def Xu(c:yN n j i v b y):Rq y w=16-b:=by obtain⟨u,rfl⟩:=c;show 16-(b:Int).toNat=_;simp
def aqt(o:oJ n s h w0)(p:oJ j t c w0)(e:i<8)(B:xs.length<=900)(a:ë)(w:Ç)(r:DJ n j i w0 xs s t a w): Î À Bz (Exit.then (λb g=>DJ n j i w0 xs s t b g/\Rq b g<Rq a w)<|Q2<|zZ n j i w0 xs s t) a w:=by
 let⟨b,v,l,C,d⟩:=r;rw[Xu l];obtain⟨u,rfl⟩:=l;by_cases x:b=16
 .subst x;exact aqp u λa q=>⟨v,q,d⟩
 .have m:=d.fi.fg ((o.iU e).2.2 b Z) id;have k:=d.fi.fg ((p.iU e).2.2 b Z) id;by_cases q:(s i).kY b=(t i).kY b
  .rw[<-q]at k;refine aqr u b e Z _ m k λa f=>⟨⟨b+1,v,f,Z,?_⟩,by rw[Xu f];omega⟩;rw[Xs,GX,if_pos q,ù];exact d.gu<|ff.gi _ _
  .refine aqs u d (by rw[Ó];have:=Rp s t i b;omega) b e Z _ _ (by simpa using q) m k λa y g f z=>⟨⟨b+1,y,f,Z,?_⟩,by rw[Xu f];omega⟩;rwa[Xs,GX,if_neg q,<-þ]
def aqu(u:Nat->È)(b:∀a,zY n j v (8:Nat) a->X a w): Î À Dd (Exit.then K<|QQ X) (xp n j v (8:Nat) u) w:=by
 unfold xp;conv=>arg 2;whnf
 go_wp2_with fail
 exact b _ (gL _)
def aqv(u:Nat->È)(d:ji w0 v xs w)(E:xs.length<=800)(F:i<8)(b h:Int)(p k:ByteArray)(G:(b==h)=Ý)(I:(p.toList==k.toList)=Ý)(l:w0.cell? ⟨n,i*18,Ä⟩=Ã (Â Æ b))(m:w0.cell? ⟨j,i*18,Ä⟩=Ã (Â Æ h))(f:w0.cell? ⟨n,i*18+1,Ä⟩=Ã (Í p))(g:w0.cell? ⟨j,i*18+1,Ä⟩=Ã (Í k)) (L:∀a e W,yN n j i e (0:Nat) a->ji w0 e xs W->Î À (ã Bz) (Q2<|zZ n j i w0 xs s t) a W) (o:∀a e q,zY n j e ((i+1:Nat):Int) a->ji w0 e (xs++uT s t i 16) q->K a q): Î À Dd (Exit.then K<|QQ X) (xp n j v i u) w:=by
 unfold xp;conv=>arg 2;whnf
 have J:=d.fi.fg l id;have M:=d.fi.fg m id;have N:=d.fi.fg f id;have O:=d.fi.fg g id;have P:(0:Int)<=(i:Int):=Z
 have T:(i:Int)<8:=Z
 have V:Ë.wrap ((i:Int)+1)=(i:Int)+1:=by rw[î];omega
 have Y:(0:Int)<=(i:Int)+1:=Z
 have AV:(i:Int)+1<=8:=Z
 have uH:(i:Int)<=(i:Int)+1:=Z
 have yu:((i:Int)+1).toNat=i+1:=Z
 have Bs:¬9223372036854775807<(jG i).size+1:=by have:=By i;omega
 have Xv:ÿ ⟨#[97,98,99,100,101,102,103,104]⟩ i (i+1)=jG i:=U;obtain⟨ta,tc,rfl⟩:=kX d.fD;let⟨i0,r,x,y,z⟩:=ò Db;have HI:=fp<|Á r<|Á x<|Á y z;have H:=fp<|Á d<|Á f<|Á g<|Á L o;clear d r x y z L o l m f g;go_wp2_with fail;go_region;go_wp2_with fail;go_region;go_wp2_with fail;go_region;go_wp2_with fail;refine à (Q:=Q2<|zZ n j i w0 xs s t) ?_ (H.out.2.2.2.1 _ _ _ (gL _)<|(H.out.1).gu kp);rintro(_|(_|_|_|_)|_|_|_|_) a c hq;all_goals first|exact absurd hq id|skip
 let⟨Xw,C,B⟩:=hq;obtain⟨c,rfl⟩:=C;unfold yM;have D:=fp B;clear B;go_wp2_with fail;exact H.out.2.2.2.2 _ _ _ (gL _) D.out
def aqw(u:Nat->È)(d:ji w0 v xs w)(G:xs.length<=800)(I:i<8)(b l:Int)(p o:ByteArray)(J:(b==l)=Ý)(M:(p.toList==o.toList)=Ï)(q:w0.cell? ⟨n,i*18,Ä⟩=Ã (Â Æ b))(r:w0.cell? ⟨j,i*18,Ä⟩=Ã (Â Æ l))(h:w0.cell? ⟨n,i*18+1,Ä⟩=Ã (Í p))(k:w0.cell? ⟨j,i*18+1,Ä⟩=Ã (Í o)) (L:∀a e W,yN n j i e (0:Nat) a->ji w0 e (xs++[jG i++⟨#[123]⟩]) W->Î À (ã Bz) (Q2<|zZ n j i w0 (xs++[jG i++⟨#[123]⟩]) s t) a W) (x:∀a e y,zY n j e ((i+1:Nat):Int) a->ji w0 e ((xs++[jG i++⟨#[123]⟩])++uT s t i 16) y->K a y): Î À Dd (Exit.then K<|QQ X) (xp n j v i u) w:=by
 unfold xp;conv=>arg 2;whnf
 have N:=d.fi.fg q id;have O:=d.fi.fg r id;have P:=d.fi.fg h id;have T:=d.fi.fg k id;have V:(0:Int)<=(i:Int):=Z
 have Y:(i:Int)<8:=Z
 have oW:Ë.wrap ((i:Int)+1)=(i:Int)+1:=by rw[î];omega
 have IA:(0:Int)<=(i:Int)+1:=Z
 have AV:(i:Int)+1<=8:=Z
 have uH:(i:Int)<=(i:Int)+1:=Z
 have yu:((i:Int)+1).toNat=i+1:=Z
 have Bs:¬9223372036854775807<(jG i).size+1:=by have:=By i;omega
 have Xv:ÿ ⟨#[97,98,99,100,101,102,103,104]⟩ i (i+1)=jG i:=U;obtain⟨ta,tc,rfl⟩:=kX d.fD;let⟨i0,z,B,C,D⟩:=ò Db;have f:=fp<|Á z<|Á B<|Á C D;have H:=fp<|Á d<|Á h<|Á k<|Á L x;clear d z B C D L x q r h k;go_wp2_with fail;go_region;go_wp2_with fail;go_region;go_wp2_with fail;go_region;go_wp2_with (at_builtin;refine Gv (base:=w0.heap.size) (n:=xs.length) (xs:=mD xs) (m:=1) U _ _ 25 U Ā f.out.1 f.out.2.1 f.out.2.2.1 f.out.2.2.2 U U ((H.out.1).gu kp).fD ⟨_,0,Ä⟩ [Í<|jG i++⟨#[123]⟩] U Z U (λc u g=>ff.fg (X:=λ_=>False) kp (ą w (Í<|jG i++⟨#[123]⟩) 9 c u g) id) (λu g=>by simp at g;subst g;rfl) (by unfold č;omega) Z ((H.out.1).gu kp).fi.fh ?_;intro E F c;obtain⟨ta2,tc2,rfl⟩:=kX c.fD;have g:=fp<|((H.out.1).gu kp).jV c;clear c);refine à (Q:=Q2<|zZ n j i w0 (xs++[jG i++⟨#[123]⟩]) s t) ?_ (H.out.2.2.2.1 _ _ _ (gL _)<|(g.out).gu kp);rintro(_|(_|_|_|_)|_|_|_|_) a c hq;all_goals first|exact absurd hq id|skip
 let⟨Xw,E,g⟩:=hq;obtain⟨c,rfl⟩:=E;unfold yM;have F:=fp g;clear g;go_wp2_with fail;exact H.out.2.2.2.2 _ _ _ (gL _) F.out
def aqx(u:Nat->È)(d:ji w0 v xs w)(I:xs.length<=800)(J:i<8)(b l:Int)(p o:ByteArray)(M:(b==l)=Ï)(N:(p.toList==o.toList)=Ý)(q:w0.cell? ⟨n,i*18,Ä⟩=Ã (Â Æ b))(r:w0.cell? ⟨j,i*18,Ä⟩=Ã (Â Æ l))(h:w0.cell? ⟨n,i*18+1,Ä⟩=Ã (Í p))(k:w0.cell? ⟨j,i*18+1,Ä⟩=Ã (Í o)) (L:∀a e W,yN n j i e (0:Nat) a->ji w0 e (xs++[jG i++⟨#[36]⟩]) W->Î À (ã Bz) (Q2<|zZ n j i w0 (xs++[jG i++⟨#[36]⟩]) s t) a W) (x:∀a e y,zY n j e ((i+1:Nat):Int) a->ji w0 e ((xs++[jG i++⟨#[36]⟩])++uT s t i 16) y->K a y): Î À Dd (Exit.then K<|QQ X) (xp n j v i u) w:=by
 unfold xp;conv=>arg 2;whnf
 have O:=d.fi.fg q id;have P:=d.fi.fg r id;have T:=d.fi.fg h id;have V:=d.fi.fg k id;have Y:(0:Int)<=(i:Int):=Z
 have e1:(i:Int)<8:=Z
 have oW:Ë.wrap ((i:Int)+1)=(i:Int)+1:=by rw[î];omega
 have IA:(0:Int)<=(i:Int)+1:=Z
 have AV:(i:Int)+1<=8:=Z
 have uH:(i:Int)<=(i:Int)+1:=Z
 have yu:((i:Int)+1).toNat=i+1:=Z
 have Bs:¬9223372036854775807<(jG i).size+1:=by have:=By i;omega
 have Xv:ÿ ⟨#[97,98,99,100,101,102,103,104]⟩ i (i+1)=jG i:=U;have F8:(xs++[jG i++⟨#[36]⟩]).length=xs.length+1:=fB
 obtain⟨ta,tc,rfl⟩:=kX d.fD;let⟨i0,z,B,C,D⟩:=ò Db;have f:=fp<|Á z<|Á B<|Á C D;have H:=fp<|Á d<|Á h<|Á k<|Á L x;clear d z B C D L x q r h k;go_wp2_with fail;go_region;go_wp2_with fail;go_region;go_wp2_with (at_builtin;refine Gv (base:=w0.heap.size) (n:=xs.length) (xs:=mD xs) (m:=1) U _ _ 25 U Ā f.out.1 f.out.2.1 f.out.2.2.1 f.out.2.2.2 U U ((H.out.1).gu kp).fD ⟨_,0,Ä⟩ [Í<|jG i++⟨#[36]⟩] U Z U (λc u g=>ff.fg (X:=λ_=>False) kp (ą w (Í<|jG i++⟨#[36]⟩) 9 c u g) id) (λu g=>by simp at g;subst g;rfl) (by unfold č;omega) Z ((H.out.1).gu kp).fi.fh ?_;intro E F c;obtain⟨G,tc1,rfl⟩:=kX c.fD;have g:=fp<|((H.out.1).gu kp).jV c;clear c);have d3:=g.out.fi.fg H.out.2.1 id;have d4:=g.out.fi.fg H.out.2.2.1 id;go_region;go_wp2_with fail;refine à (Q:=Q2<|zZ n j i w0 (xs++[jG i++⟨#[36]⟩]) s t) ?_ (H.out.2.2.2.1 _ _ _ (gL _)<|(g.out).gu kp);rintro(_|(_|_|_|_)|_|_|_|_) a c hq;all_goals first|exact absurd hq id|skip
 let⟨Xw,F,E⟩:=hq;obtain⟨c,rfl⟩:=F;unfold yM;have G:=fp E;clear E;go_wp2_with fail;exact H.out.2.2.2.2 _ _ _ (gL _) G.out
def aqy(u:Nat->È)(f:ji w0 v xs w)(N:xs.length<=800)(O:i<8)(b q:Int)(p r:ByteArray)(P:(b==q)=Ï)(T:(p.toList==r.toList)=Ï)(x:w0.cell? ⟨n,i*18,Ä⟩=Ã (Â Æ b))(y:w0.cell? ⟨j,i*18,Ä⟩=Ã (Â Æ q))(k:w0.cell? ⟨n,i*18+1,Ä⟩=Ã (Í p))(l:w0.cell? ⟨j,i*18+1,Ä⟩=Ã (Í r)) (L:∀a g W,yN n j i g (0:Nat) a->ji w0 g ((xs++[jG i++⟨#[36]⟩])++[jG i++⟨#[123]⟩]) W->Î À (ã Bz) (Q2<|zZ n j i w0 ((xs++[jG i++⟨#[36]⟩])++[jG i++⟨#[123]⟩]) s t) a W) (z:∀a g B,zY n j g ((i+1:Nat):Int) a->ji w0 g (((xs++[jG i++⟨#[36]⟩])++[jG i++⟨#[123]⟩])++uT s t i 16) B->K a B): Î À Dd (Exit.then K<|QQ X) (xp n j v i u) w:=by
 unfold xp;conv=>arg 2;whnf
 have V:=f.fi.fg x id;have Y:=f.fi.fg y id;have c3:=f.fi.fg k id;have c4:=f.fi.fg l id;have e0:(0:Int)<=(i:Int):=Z
 have e1:(i:Int)<8:=Z
 have oW:Ë.wrap ((i:Int)+1)=(i:Int)+1:=by rw[î];omega
 have IA:(0:Int)<=(i:Int)+1:=Z
 have AV:(i:Int)+1<=8:=Z
 have uH:(i:Int)<=(i:Int)+1:=Z
 have yu:((i:Int)+1).toNat=i+1:=Z
 have Bs:¬9223372036854775807<(jG i).size+1:=by have:=By i;omega
 have Xv:ÿ ⟨#[97,98,99,100,101,102,103,104]⟩ i (i+1)=jG i:=U;have G:(xs++[jG i++⟨#[36]⟩]).length=xs.length+1:=fB
 obtain⟨ta,tc,rfl⟩:=kX f.fD;let⟨i0,C,D,E,F⟩:=ò Db;have e:=fp<|Á C<|Á D<|Á E F;have H:=fp<|Á f<|Á k<|Á l<|Á L z;clear f C D E F L z x y k l;go_wp2_with fail;go_region;go_wp2_with fail;go_region;go_wp2_with (at_builtin;refine Gv (base:=w0.heap.size) (n:=xs.length) (xs:=mD xs) (m:=1) U _ _ 25 U Ā e.out.1 e.out.2.1 e.out.2.2.1 e.out.2.2.2 U U ((H.out.1).gu kp).fD ⟨_,0,Ä⟩ [Í<|jG i++⟨#[36]⟩] U Z U (λc u d=>ff.fg (X:=λ_=>False) kp (ą w (Í<|jG i++⟨#[36]⟩) 9 c u d) id) (λu d=>by simp at d;subst d;rfl) (by unfold č;omega) Z ((H.out.1).gu kp).fi.fh ?_;intro J I o;obtain⟨M,tc1,rfl⟩:=kX o.fD;have h:=fp<|((H.out.1).gu kp).jV o;clear o);have d3:=h.out.fi.fg H.out.2.1 id;have d4:=h.out.fi.fg H.out.2.2.1 id;go_region;go_wp2_with (at_builtin;refine Gv (base:=w0.heap.size) (n:=(xs++[jG i++⟨#[36]⟩]).length) (xs:=mD<|xs++[jG i++⟨#[36]⟩]) (m:=1) U _ _ 25 U Ā e.out.1 e.out.2.1 e.out.2.2.1 e.out.2.2.2 U U ((h.out).gu kp).fD ⟨_,0,Ä⟩ [Í<|jG i++⟨#[123]⟩] U Z U (λc u d=>ff.fg (X:=λ_=>False) kp (ą I (Í<|jG i++⟨#[123]⟩) 9 c u d) id) (λu d=>by simp at d;subst d;rfl) (by unfold č;omega) Z ((h.out).gu kp).fi.fh ?_;intro d o c;obtain⟨J,M,rfl⟩:=kX c.fD;have I:=fp<|((h.out).gu kp).jV c;clear c);have d:=I.out;rw[G]at d;refine à (Q:=Q2<|zZ n j i w0 ((xs++[jG i++⟨#[36]⟩])++[jG i++⟨#[123]⟩]) s t) ?_ (H.out.2.2.2.1 _ _ _ (gL _)<|(d).gu kp);rintro(_|(_|_|_|_)|_|_|_|_) a c hq;all_goals first|exact absurd hq id|skip
 let⟨Xw,J,o⟩:=hq;obtain⟨c,rfl⟩:=J;unfold yM;have M:=fp o;clear o;go_wp2_with fail;exact H.out.2.2.2.2 _ _ _ (gL _) M.out
def DO(n j:Nat)(w0:Ç)(s t:St)(a:ë)(w:Ç):Prop:=
 ∃(i:Nat) (v:È),zY n j v i a/\i<=8/\ji w0 v (uU s t i) w
def Xx(n j:Nat)(w0:Ç)(s t:St)(a:ë)(w:Ç):Prop:=
 ∃(v:È),zY n j v (8:Nat) a/\ji w0 v (uU s t 8) w
def MZ(a:ë)(_:Ç):Nat:=match a.tmps.getD 11 ĉ with
 |Â _ i=>8-i.toNat
 |_=>0
def adb(b:zY n j v i y):MZ y w=8-i:=by obtain⟨u,rfl⟩:=b;show 8-(i:Int).toNat=_;simp
def aqz(B:oJ n s h w0)(C:oJ j t c w0)(a:ë)(w:Ç)(E:DO n j w0 s t a w): Î À Dd (Exit.then (λq g=>DO n j w0 s t q g/\MZ q g<MZ a w)<|QQ<|Xx n j w0 s t) a w:=by
 let⟨i,v,D,H,l⟩:=E;rw[adb D];obtain⟨u,rfl⟩:=D;by_cases F:i=8
 .subst F;exact aqu u λa q=>⟨v,q,l⟩
 have k:i<8:=Z
 have I:=Xt s t i;let⟨m,o,_⟩:=B.iU k;let⟨p,r,_⟩:=C.iU k;have L:∀q:List ByteArray,q.length<=900->∀a b W,yN n j i b (0:Nat) a->ji w0 b q W->Î À (ã Bz) (Q2<|zZ n j i w0 q s t) a W:=λq y a b W G z=>
  Đ (DJ n j i w0 q s t) Rq ⟨0,b,G,Z,by show ji w0 b (q++[]) W;rwa[ù]⟩<|aqt B C k y
 have x:∀q:List ByteArray,uU s t i++Bx (s i).fH (t i).fH (s i).iN (t i).iN i=q->∀a b g,zY n j b ((i+1:Nat):Int) a->ji w0 b (q++uT s t i 16) g->DO n j w0 s t a g/\MZ a g<8-i:=λq y a b g f z=>⟨⟨i+1,b,f,Z,by rwa[ac9,Dc,<-þ,y]⟩,by rw[adb f];omega⟩;by_cases d:(s i).fH=(t i).fH<;>by_cases e:(s i).iN.toList=(t i).iN.toList
 .exact aqv u l Z k _ _ _ _ (by simpa using d) (by simpa using e) m p o r (L _ Z)<|x _<|by unfold Bx;rw[if_pos d,if_pos e,ù,ù]
 .exact aqw u l Z k _ _ _ _ (by simpa using d) (by simpa using e) m p o r (L _<|by rw[Ó];simp;omega)<|x _<|by unfold Bx;rw[if_pos d,if_neg e,Ř]
 .exact aqx u l Z k _ _ _ _ (by simpa using d) (by simpa using e) m p o r (L _<|by rw[Ó];simp;omega)<|x _<|by unfold Bx;rw[if_neg d,if_pos e,ù]
 .exact aqy u l Z k _ _ _ _ (by simpa using d) (by simpa using e) m p o r (L _<|by rw[Ó,Ó];simp;omega)<|x _<|by unfold Bx;rw[if_neg d,if_neg e,þ]
def aqA(b:oJ n s h w)(d:oJ j t c w): Ô À 126 #[Å<|Ã ⟨n,0,Ä⟩,Å<|Ã ⟨j,0,Ä⟩] w λe a=>∃v,e=É v/\ji w v (uU s t 8) a:=by
 have L:∀a,zY n j (Ê Ä 0 0) (0:Nat) a->Î À (ã Dd) (QQ<|Xx n j w s t) a w:=λa f=>
  Đ (DO n j w s t) MZ ⟨0,_,f,å _,ji.mX w<|ff.fY _ _⟩<|aqz b d
 have H:=fp L;clear L b d;go_enter Tryz.func126,Tryz.ntmps126;go_wp2_with fail;refine à (Q:=QQ<|Xx n j w s t) ?_ (H.out _ (gL _));rintro(_|(_|_)|_|_|_|_) a v hq;all_goals first|exact absurd hq id|skip
 let⟨k,g,e⟩:=hq;obtain⟨u,rfl⟩:=g;unfold xp;have i:=fp e;clear e;go_wp2_with fail;go_ret;exact⟨_,U,i.out⟩
end
def aqB:(À.info? 5).map (λi=>(i.zero,i.size,i.bytes))=Ã (Ã<|Â bx 0,1,1):=fF
def ff.Nz(d:X p.block)(n:Nat):ff X w (w.freeze p n):=by
 by_cases b:n=0
 .rw[ĕ,if_pos b];exact ff.fY _ _
 rw[ĕ,if_neg b];refine⟨fB,λk _ f=> ?_,λa i o h=> ?_,λ_ a=>by have:=acr a p n;rwa[ĕ,if_neg b]at this⟩
 .simp only[Ú];rw[if_neg λ(e:p.block=k)=>f<|e▸d]
 .simp only[Ú]at h;split at h
  .cases e:w.heap[i]? with
   |none=>rw[e]at h;cases h
   |some g=>
    have:=a _ _ e;rw[e]at h;cases g with
    |cells c t z=>simp only[ì,ê]at h;subst h;exact λx=>x
    |_=>exact absurd trivial this
  .exact a i o h
def ade:(À.info? 109).map (·.size)=Ã 2:=fF
def aqC:liesAt À À.depth 109 (2/À.cellsOf 109) 0 109 1=Ý:=fF
def aqD(b:Nat)(w:Ç)(d:w.cell? ⟨b,0,Ä⟩=Ã (Å<|Ã ⟨b,0,Ä⟩)):Ô À 78 #[Å<|Ã ⟨b,0,Ä⟩] w λe a=>e=É (é #[])/\a=w:=by let⟨j,c,_⟩:=Ì.1 ade;go_enter bg,aV;go_wp2;rw[Lib.run_neq_ptr_same w _ ŀ c];go_wp2;go_end0;exact⟨U,U⟩
def aqE(b:Nat)(w:Ç)(g:w.cell? ⟨b,0,Ä⟩=Ã (Å Ä))(a:w.shape? b=Ã (109,2))(h:w.frozen? ⟨b,0,Ä⟩=Ï):Ô À 78 #[Å<|Ã ⟨b,0,Ä⟩] w λe d=>e=É (é #[])/\d=w.setCell ⟨b,0,Ä⟩ (Å<|Ã ⟨b,0,Ä⟩):=by let⟨j,c,f⟩:=Ì.1 ade;go_enter bg,aV;go_wp2;rw[Lib.run_to_unsafe w ⟨b,0,Ä⟩ ŀ Ÿ c (by rw[f];decide) a<|Nat.zero_lt_succ 1];simp only[Ľ];rw[İ];go_wp2;rw[Ű Tryz.func129 fF fF fF fF];rw[Lib.run_noEscape];simp only[Ľ];rw[İ];go_wp2;rw[Lib.run_from_unsafe w ⟨b,0,Ä⟩ Ÿ ŀ c a aqC];simp only[Ľ];rw[İ];go_wp2;go_end0;exact⟨U,U⟩
def adf{base:Nat}{u j:ú}(k:P.underlying t=Ã (bK e))(p:P.underlying u=Ã .string)(r:P.info? e=Ã zJ)(I:zJ.zero=Ã (Â bx 0)) (D:zJ.size=1) (J:zJ.bytes=1) (E:w.ownsRow base e 1 v n l) (s:ByteArray) (K:n+s.size<=č) (Q:n+s.size<=140737488355328) (f:(ŗ #[t,u] j #[v,Í s]).run P w=aA z W) (F:oD e=Ï):(lN w->lN W)/\(∀m,vW m w->vW m W):=by
 have V:n+s.size<=9223372036854775807:=by simp only[č]at K;omega
 have L:l.length=n:=by simpa using E.1
 rcases E.2 with⟨rfl,rfl⟩|⟨g,y,B,rfl,X,G,Y,hcm,M,htake⟩
 .by_cases C:s.size=0
  .have a:=Lib.run_firstCells_string (P:=P) w 1 s;rw[C]at a;simp[ŗ,Ũ k,Ũ p,sizeOf,typeInfo,r,D,bO,C,a]at f;rw[<-f.2];exact⟨id,λ_=>id⟩
  .have d:=run_append_nil_string w t u j e zJ (Â bx 0) k p r I s Z Z (by rw[J];omega);rw[f]at d;cases d;exact⟨λa=>Mj a _ _ _,λ_ a=>Mk a _ _ _<|Û F⟩
 .by_cases N:n+s.size<=y
  .have avG:B.size=y:=by simpa using M
   have d:=Lib.run_append_room_string w t u j e zJ k p r D g n y B G s N Z;rw[f]at d;cases d;refine⟨λa q o b=> ?_,λm a q c T O C b H=> ?_⟩
   .by_cases h:q=g
    .subst h;rw[Ĩ w q B _ e _ G]at b;cases b;exact λx=>x
    .rw[Ġ w g q _ h]at b;exact a q o b
   .by_cases h:q=g
    .subst h;rw[Ĩ w q B _ e _ G]at b;cases b;rw[F]at H;cases H
    .rw[Ġ w g q _ h]at b;exact a q c T O C b H
  .have b:=E.cells U;have d:=Lib.run_append_grow_string w t u j e zJ (Â bx 0) k p r I ⟨g,0,Ä⟩ n y l (by rw[D];simpa using L) b s Z Z (by rw[J];exact Ť Z Z);rw[f]at d;cases d;exact⟨λa=>Mj a _ _ _,λ_ a=>Mk a _ _ _<|Û F⟩
def aqF{P:Program}{ops:Array Oper}{rest:List Oper}{o:Oper}{a:Act}{Q:Exit->Act->World->Prop}{w:World}(Wq:o.guard=none)(sl x:Operand)(t u:TypeId) (ho:o.op=.call {callee:=.builtin .append,args:=#[sl,x],argTypes:=#[t,u]}) {base:Nat} {e:TypeId} {i:TypeInfo} (ht:P.underlying t=some (.slice e)) (hu:P.underlying u=some .string) (hi:P.info? e=some i) (hz:i.zero=some (.int .u8 0)) (Bh:i.size=1) (Bj:i.bytes=1) {v:Value} {n:Nat} {xs:List Value} (hs:a.eval sl=v) (nk:w.ownsRow base e 1 v n xs) (s:ByteArray) (hx:a.eval x=.string s) (Gw:n+s.size<=maxLen) (zV:n+s.size<=140737488355328) (Bl:base<=w.heap.size) (h:∀v' w',w'.ownsRow base e 1 v' (n+s.size) (xs++Lib.strCells s)->ff (λk=>v.ownBlock=some k) w w'->wpList P ops Q rest (a.put o.dst v') w') (hT:oD e=false:=by decide):wpList P ops Q (o::rest) a w:=by refine Ż Wq λK hK=> ?_;let⟨v',w',hr,h2,h3,_⟩:=Lib.run_append_own_string w base t u o.type e i ht hu hi hz Bh Bj v n xs nk s Gw zV Bl;have kp:ff (λk=>v.ownBlock=Ã k) w w':=⟨h3.size,λk hk q=>h3.block k hk λe=>q e.symm,(adf ht hu hi hz Bh Bj nk s Gw zV hr hT).1,(adf ht hu hi hz Bh Bj nk s Gw zV hr hT).2⟩;unfold Ŏ į;simp only[ho,aE,bm,aF,ż,Ž,Ł,ċ,Ě,ġ,hs,hx,hr];exact hK _ _<|h v' w' h2 kp
structure rU(w0:Ç)(b:Nat)(bs:List È)(w:Ç):Prop where
 sN:w0.heap.size<=b
 fi:ff (λ_=>False) w0 w
 gV:∃v,fw b [Å<|Ã ⟨b,0,Ä⟩,v] 109 w/\w.ownsRow w0.heap.size 5 1 v bs.length bs
def rU.gu(h:rU u b l w)(k:ff (λ_=>False) w W):rU u b l W:=by let⟨v,a,c⟩:=h.gV;exact⟨h.sN,h.fi.fl k,v,a.fi k id,je c k λ_ _=>id⟩
def Xy(h:rU u b l w)(s:ByteArray)(m:l.length+s.size<=140737488355328): Ô À 55 #[Å<|Ã ⟨b,0,Ä⟩,Í s] w λe i=>e=É (é #[Â Ë s.size,.nilIface])/\rU u b (l++Lib.strCells s) i:=by
 let⟨B,c,n,o,p⟩:=ò aqB;let⟨v,a,d⟩:=h.gV;obtain⟨C,D,rfl⟩:=kX d;have t:=a.fg 0 _ U;have E:=a.fg 1 _ U;have x:=h.fi.fh;have y:=kP d a A;have H:=fp<|Á h<|Á c<|Á n<|Á o<|Á p<|Á a d;go_enter Tryz.func55,Tryz.ntmps55;go_wp2_with (first
  |(go_at_call 78;refine(aqD b _ t).mono ?_;rintro e i ⟨rfl,j⟩;subst i)
  |(at_builtin;refine aqF U _ _ 107 9 U Ă Ė H.out.2.1 H.out.2.2.1 H.out.2.2.2.1 H.out.2.2.2.2.1 U H.out.2.2.2.2.2.2 s U (by unfold č;omega) m x ?_;intro g f j k;obtain⟨q,r,rfl⟩:=kX j;have i:=H.out.2.2.2.2.2.1.fi k y;have z:=i.fg 0 _ U;have F:=i.fg 1 _ U;have G:=i.fC 1;have e:=fp (Á k (Á i j));clear k i j))
 go_ret2;have z:=e.out.2.1.gS 1<|Ê q (l.length+s.size) r;have g:ff (λk=>k=b) f (f.setCell ⟨b,1,Ä⟩<|Ê q (l.length+s.size) r):=ff.iB (X:=λk=>k=b) U _<|Ü e.out.2.1.nf;refine⟨U,H.out.1.sN,(H.out.1.fi.kj e.out.1 λi c q=> ?_).kj g λi c q=> ?_,_,z,?_⟩
 .have:=(H.out.2.2.2.2.2.2.lt i q).1;omega
 .have:=H.out.1.sN;omega
 .have:=je e.out.2.2 g λj q r=>kP e.out.2.2 e.out.2.1 A (by rw[q,r]);rw[Ó,Lib.strCells_length];exact this
def aqG:(À.info? 5).map (·.size)=Ã 1:=fF
def aqH:À.cellsOf 5=1:=fF
structure M0(w0:Ç)(b:Nat)(p:È)(w:Ç):Prop where
 sN:w0.heap.size<=b
 fi:ff (λ_=>False) w0 w
 gV:fw b [p,Ê Ä 0 0] 109 w
section
variable{w0:Ç}{p:È}
def M0.HZ(h:M0 w0 b (Å<|Ã ⟨b,0,Ä⟩) w)(f:d.size<=č):rU w0 b [] ((w.alloc<|Ð d 5).setCell ⟨b,1,Ä⟩<|Ê (Ã ⟨w.heap.size,0,Ä⟩) 0 d.size).drew.drew.drew:=by have a:=ff.gT (λ_=>False) w d 5;have c:ff (λk=>k=b) (w.alloc<|Ð d 5) ((w.alloc<|Ð d 5).setCell ⟨b,1,Ä⟩<|Ê (Ã ⟨w.heap.size,0,Ä⟩) 0 d.size):=ff.iB (X:=λk=>k=b) U _<|Ü (h.gV.fi a id).nf;have k:=(h.gV.fi a id).gS 1<|Ê (Ã ⟨w.heap.size,0,Ä⟩) 0 d.size;have m:=h.gV.lt;have g:(w.alloc<|Ð d 5).ownsRow w0.heap.size 5 1 (Ê (Ã ⟨w.heap.size,0,Ä⟩) 0 d.size) 0 []:= ⟨U,Ü ⟨w.heap.size,d.size,d,U,h.fi.fh,ð w _,å _,f,fB,fB⟩⟩;have l:rU w0 b [] ((w.alloc<|Ð d 5).setCell ⟨b,1,Ä⟩<|Ê (Ã ⟨w.heap.size,0,Ä⟩) 0 d.size):= ⟨h.sN,(h.fi.fl a).kj c λi n q=>by have:=h.sN;omega,_,k,je g c λj q r=>by cases q;have e:w.heap.size=b:=r;omega⟩;exact((l.gu<|ff.gi _ _).gu<|ff.gi _ _).gu<|ff.gi _ _
def aqI(h:M0 w0 b (Å<|Ã ⟨b,0,Ä⟩) w)(n:Nat)(j:n<=281474976710656): Ô À 79 #[Å<|Ã ⟨b,0,Ä⟩,Â Ë n] w λe c=>e=É (é #[])/\rU w0 b [] c:=by
 let⟨a,g,o,k⟩:=Lib.run_makeNoZero w.drew #[3] 107 5 Ă n j;have i:Ë.wrap (Ë.wrap 0+(n:Int))=n:=by rw[î,î];omega
 have p:(callFunc 130 #[Â Ë<|Ë.wrap<|Ë.wrap 0+(n:Int)]).run À w.drew=aA (.value<|Ê (Ã ⟨w.drew.heap.size,0,Ä⟩) n a.size) (w.drew.drew.drew.alloc<|Ð a 5):=by rw[i,Ű Tryz.func130 fF fF fF fF,g];rfl
 have e:=fp (Á (show w.drew.cell? ⟨b,1,Ä⟩=Ã (Ê Ä 0 0)from h.gV.fg 1 _ rfl) trivial);have d:=h.gV.fi (ff.gT (λ_=>False) w a 5) id;have l:=d.fg 1 _ U;have f:=l;have q:=d.fC 1;have r:∀W:Ç,(aj #[107,107] 3 #[Ê (Ã ⟨w.heap.size,0,Ä⟩) 0 a.size,Ê Ä 0 0]).run À W=aA (goInt 0) W:= λW=>run_copy_none W 107 107 3 5 _ _ 0 a.size 0 0 Ă aqG U;have m:=fp (h.HZ<|k<|by unfold č;omega);clear i h d g;go_enter Tryz.func79,Tryz.ntmps79;go_wp2;refine oG (λc=>c.cell? ⟨b,1,Ä⟩=Ã (Ê Ä 0 0)/\True) [] fF ?_;refine tk 0 e.out ?_;refine tk 1 e.out ?_;refine tk 2 e.out ?_;refine tk 3 e.out ?_;refine tk 4 e.out ?_;refine tk 5 e.out ?_;refine tk 6 e.out ?_;refine tk 7 e.out ?_;refine tk 9 e.out ?_;refine tk 10 e.out ?_;refine tk 11 e.out ?_;refine tk 12 e.out ?_;refine tk 13 e.out ?_;refine iu 8 ?_;intro K c;go_simp;refine c.out _ _ (λ_=>⟨f,trivial⟩) ?_;refine iu 14 ?_;intro K c;go_simp;refine c.out _ _ (λ_=>⟨f,trivial⟩) ?_;refine iu 15 ?_;intro K c;go_simp;refine c.out _ _ (λ_=>⟨f,trivial⟩) ?_;refine om fF ?_ _;go_wp2;go_end0;exact⟨U,m.out⟩
def aqJ(h:M0 w0 b (Å Ä) w)(n:Nat)(l:0<n)(d:n<=281474976710656): Ô À 54 #[Å<|Ã ⟨b,0,Ä⟩,Â Ë n] w λe a=>e=É (é #[])/\rU w0 b [] a:=by
 have f:w.shape? b=Ã (109,2):=by have i:w.heap[b]?=_:=h.gV;simp[Β,i]
 have c:=fp (show M0 w0 b (Å<|Ã ⟨b,0,Ä⟩) (w.setCell ⟨b,0,Ä⟩<|Å<|Ã ⟨b,0,Ä⟩).drew from⟨h.sN,(h.fi.kj (ff.iB (X:=λk=>k=b) U _<|Ü h.gV.nf) λi k q=>by have:=h.sN;omega).fl<|ff.gi _ _,(h.gV.gS 0 _).fi (ff.gi (λ_=>False) _) id⟩);have i:=fp<|Á (c.out.gV.fg 1 _ rfl) trivial;have q:=h.gV.fg 0 _ U;have g:=h.gV.fC 0;have m:¬((n:Int)<0):=Z
 have o:(0:Int)<(n:Int):=Z
 have p:Ë.wrap 0<(n:Int):=by rw[î];omega
 go_enter Tryz.func54,Tryz.ntmps54;go_wp2_with (go_at_call 78;refine(aqE b w q f g).mono ?_;rintro e a ⟨rfl,k⟩;subst a);refine oG (λa=>a.cell? ⟨b,1,Ä⟩=Ã (Ê Ä 0 0)/\True) [] fF ?_;apply tk 0 i.out;apply tk 1 i.out;apply tk 2 i.out;apply tk 3 i.out;apply tk 4 i.out;apply tk 5 i.out;apply tk 6 i.out;apply tk 7 i.out;apply tk 8 i.out;apply tk 9 i.out;apply tk 10 i.out;apply tk 11 i.out;apply tk 12 i.out;refine om fF ?_ _;go_wp2_with (go_at_call 79;refine(aqI c.out n d).mono ?_;rintro e a ⟨rfl,k⟩;have j:=fp k;clear k);go_end0;exact⟨U,j.out⟩
def aqK{l:List UInt8}(h:rU w0 b (û l) w)(f:l≠[]): Ô À 56 #[Å<|Ã ⟨b,0,Ä⟩] w λe K=>e=É (Í ⟨l.toArray⟩)/\ff (λ_=>False) w0 K:=by
 let⟨v,m,d⟩:=h.gV;have n:l.length≠0:=by simpa using f
 rw[ŧ]at d;obtain⟨g,a,c,rfl,t,o,u,s,y,z⟩:∃g a c,v=Ê (Ã ⟨g,0,Ä⟩) l.length a/\w0.heap.size<=g/\w.heap[g]?=Ã (Ð c 5 (0,0))/\l.length<=a/\a<=č/\c.size=a*1/\c.toList.take (l.length*1)=û l:=by
  rcases d.2 with⟨_,e⟩|⟨g,a,c,i,r⟩
  .exact absurd e n
  .exact⟨g,a,c,i,r⟩
 have e:=fp (Á (show w.drew.cell? ⟨b,1,Ä⟩=Ã (Ê (Ã ⟨g,0,Ä⟩) l.length a)from m.fg 1 _ rfl) trivial);have B:∀W:Ç,(az #[107] 177 #[Ê (Ã ⟨g,0,Ä⟩) l.length a]).run À W=aA (Å<|Ã ⟨g,0,Ä⟩) W:=λW=>
  Lib.run_unsafeSliceData_row _ _ _ _ _ _ Z
 have C:(ş #[177,3] 9 #[Å<|Ã ⟨g,0,Ä⟩,Â Ë l.length]).run À w.drew=aA (Í ⟨l.toArray⟩) (w.drew.freeze ⟨g,0,Ä⟩ l.length):=by refine ņ w.drew 177 3 9 5 ŵ aqH g c.size (by have i:w.drew.heap[g]?=Ã (Ð c 5 (0,0)):=o;simp[Β,i]) l f Z (by unfold č at s;omega) ?_;intro j x i;have:=d.cells U j (Â bx x.toNat) (by simp[û,i]);exact this
 have x:=fp ((h.fi.fl<|ff.gi _ _).kj (ff.Nz (X:=λk=>k=g) (p:=⟨g,0,Ä⟩) U l.length) λi j q=>by omega);have j:=fp (Á ((ff.Nz (X:=λk=>k=g) (p:=⟨g,0,Ä⟩) rfl l.length).fg e.out.1 λq=>kP d m A<|by show Ã g=Ã b;rw[show g=b from(show b=g from q).symm]) trivial);go_enter Tryz.func56,Tryz.ntmps56;go_wp2;refine oG (λK=>K.cell? ⟨b,1,Ä⟩=Ã (Ê (Ã ⟨g,0,Ä⟩) l.length a)/\True) [] fF ?_;apply tk 0 e.out;apply tk 1 e.out;apply tk 2 e.out;apply tk 3 e.out;apply tk 4 e.out;apply tk 5 e.out;apply tk 6 e.out;apply tk 7 e.out;apply tk 8 e.out;apply tk 9 e.out;apply iu 10;intro K i;go_simp;apply i.out _ _ λ_=>j.out;apply iu 11;intro K i;go_simp;apply i.out _ _ λ_=>j.out;refine om fF ?_ _;go_wp2;go_ret;exact⟨U,x.out⟩
end
end Go.Proofs.Y.jr
