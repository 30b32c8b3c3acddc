import Derived.Test.YtgpphkdoanciiaaGreatDoorWAC
import Derived.Test.YtgpphkdoanciiaaGreatDoorChecked
import Derived.WalkKit
import Derived.WalkSpells
import Derived.WalkLawsBesides
import Derived.Deep.Light
import Derived.Maps.AppendAt
import Derived.RegionTactic
import Derived.Deep.RegionWith
import Derived.Deep.QuietTactic
import Derived.BigQuiet
import Derived.Deep.RegionHeld3
import Derived.WalkMore
import Derived.Deep.MidRow
import Derived.Great.Walk
import Derived.Lib.UnsafeStr
import Derived.Lib.BufferWrite
import Derived.Laws.Tables
import Derived.Laws.Bits64
import Derived.Shelf.Strconv.Itoa0
import Derived.Shelf.Strconv.Itoa1
import Derived.Shelf.LaysM
import Derived.Shelf.Strconv.Itoa2
import Derived.Shelf.Strconv.Itoa3
import Derived.Shelf.Strings.Repeat
import Derived.Shelf.Strings.OnBuilder
import Derived.Shelf.Strconv.Clone
import Derived.Shelf.Strings.Prefix
import Derived.Shelf.Bits.Mul64
import Derived.Test.YtgpphkdoanciiaaGreatDoorProg
import Derived.Lib.ItoaLen
set_option linter.all false
set_option maxRecDepth 1000000
set_option maxHeartbeats 8000000
open Go.Proofs.Tryz renaming prog->À,ntmps205->è,func205->í,underlying25->Ā,underlying107->Ă,underlying9->Ė,underlying3->ĥ,underlying4->Ħ,zeroValue3->ı,zeroValue4->Ĳ,zeroValue9->ĳ,underlying106->ŀ,underlying36->Ņ,ntmps170->Ň,zeroValue36->Ō,func170->ő,ntmps66->Œ,sizeOf3->œ,sizeOf4->Ŕ,sizeOf9->ŕ,func66->Ū,isAgg3->ū,isAgg4->Ŭ,isAgg9->ŭ,ntmps154->ű,ntmps113->Ų,sizeOf36->ų,underlying177->ŵ,underlying168->ŷ,underlying170->Ÿ,func154->Γ,func187->Δ,func113->Ε,zeroValue168->Η,isAgg36->Θ,underlying95->Ι,underlying0->Ο,underlying5->Ρ,zeroValue95->Τ,zeroValue0->ξ,zeroValue5->ο,sizeOf168->υ,ntmps209->χ,ntmps210->ψ,ntmps173->ae,ntmps168->ag,ntmps196->ai,ntmps169->aj,ntmps187->ak,isAgg168->ar,sizeOf95->au,ntmps172->av,func209->aE,func210->aG,func173->aI,func168->aJ,func196->aK,func169->aL,sizeOf0->aO,sizeOf5->aP,isAgg95->aR,func172->aS,ntmps78->aT,isAgg0->aX,isAgg5->aY,func78->aZ,f161->bC
open And renaming intro->Á
open Go.Value renaming int->Â,pointer->Å,slice->Ê,string->Í,bool->Ò,tuple->é,agg->ė,cells->ī,ownBlock->ļ
open Option renaming some->Ã,none->Ä,map_eq_some_iff->Ì,map_some->ì,isSome_none->Ļ,map->Ŷ
open Go.IntKind renaming u64->Æ,i64->Ë,wrap_i64->î,u8->br,wrap_u64->bB
open Go renaming Value->Ç,World->É,Calls->Ô,Act->ë,heap_alloc_new->ð,info_parts->ò,bodyPost_ret->õ,TypeId->ú,cell_one_new->ą,undef->Ĉ,Addr->ċ,maxLen->Č,wp_loop->ď,wpList_load_mid->Ĝ,setRow_other->Ġ,setRow_heap->Ĩ,execOp->į,all_oneCell_toArray->Ķ,wpList_store_mid->Ŋ,Code->Ş,grownCap->š,growslice_fits->Ť,run_underlying->Ũ,Oper->Ů,run_callFunc_extern->Ű,Operand->Ź,wpList_plain->Ż,cell_two_new->ž,grownCap_ge->Ω,run_append_grow->θ,run_loadVar_mid->κ,ready_mono->σ,wpOp_step->az,resolve->aC,builtin->aD,yielded->aF,results->aH,Ending->aN,Program->aV,invoke->bk,wpList->bm,Exit->bq
open Go.Ending renaming returned->È
open Go.Code renaming wp->Î,wp_mono->à,loop->ã,skip->Ń
open Bool renaming false->Ï,true->Ý,false_eq_true->Ğ
open Go.Obj renaming cells->Ð
open List renaming getElem?_eq_getElem->Ñ,length_append->Ó,setIfInBounds_toArray->Õ,getElem?_eq_none->Ö,getElem?_eq_some_iff->Ù,getElem?_append_right->Þ,eq_nil_of_length_eq_zero->á,getElem?_append_left->â,set_cons_zero->æ,set_cons_succ->ç,getD_eq_getElem?_getD->ö,getElem?_range->ø,append_nil->ù,mem_of_getElem?->ü,append_assoc->þ,mem_append->ā,size_toArray->ă,ext_getElem?->Ą,map_toArray->ĉ,range->Đ,drop_eq_getElem_cons->Ę,map_cons->Ě,length_set->ě,map_nil->ġ,getElem?_map->Ģ,drop_eq_nil_of_le->ģ,set_append_left->ĩ,mem_map->ķ,getElem?_set->ń,length_cons->ŉ,getElem?_set_self->ŏ,nil_append->Ř,range_succ->Ś,map_append->ś,getElem?_toArray->Ŝ,mem_append_right->ŝ,mem_append_left->Ţ,getElem?_set_ne->ť,mem_cons_of_mem->ũ,flatMap_append->ů,take_add_one->Κ,length_take->Λ,length_drop->Μ,mem_flatMap->Ν,take_length->Υ,length_nil->ι,length_map->ν,take_left->ρ,take_take->ς,drop->bA
open Int renaming le_refl->Ø,toNat_of_nonneg->ę,toNat_natCast->ſ,le_trans->Α
open Array renaming getElem?_modify->Ú,getElem?_eq_none->ñ,size_replicate->ē,toList_append->Ĵ,length_toList->ĵ,getD_eq_getD_getElem?->Ĺ,replicate->ř,mem_toList_iff->Ŧ,size_append->ź
open Or renaming inl->Û,inr->Ü
open Nat renaming le_refl->ß,zero_le->å,le_trans->ï,lt_or_ge->ğ,mul_one->Ī,zero_add->ĸ,le_add_right->ŋ,add_mul->Š,mul_le_mul_right->ţ,lt_of_lt_of_le->Ŵ,min_eq_left->η,mod_lt->bj
open Go.World renaming block_lt_of_cell?->ä,ownsRow_nil->ć,alloc->Ċ,setCell->č,drew->đ,freeze->ĕ,shape?->Β,cell?->Χ
open Option.some renaming injEq->ê
open Go.Operand renaming tmp->ó,func->bF
open Go.Ground renaming data->ô
open Go.Lib renaming byteCells->û,nDigits->Ē,zeros24->Ĭ,decDigits_length->ĭ,run_unsafeString_row->ņ,decDigits->ň,byteCells_length->ŧ,TabIs->aB,pow10Tab->aQ
open Go.Builtin renaming zeroCells->ý,append_->ŗ,unsafeString_->ş,copy_->ah,unsafeSliceData_->ax,min->bK,lenOf->bN
open ByteArray renaming extract->ÿ,size_extract->Ŗ,ext->bL
open Go.Region renaming ready->Ć,wanted->ħ,binds->Ő,Mode->ε
open Go.Great renaming wpList_runTo->Ď
open Go.RowKit.Below renaming heap_alloc->Ĕ,heap_setCell->ĝ
open False renaming elim->Ĥ
open Go.Obj.cells renaming injEq->Į
open Go.Oper renaming upon_value->İ,wp->Ŏ
open Go.Shelf renaming Ren->ĺ
open Go.Result renaming andThen->Ľ,andThen_ok->Ł,ok->ay
open Go.TypeDesc renaming isRow->ľ,slice->bJ
open Go.Instr renaming fill->Ŀ,index->ζ
open Go.Act renaming put->ł
open Go.Sort renaming mapBlock->ō,putRow->φ
open Go.Sem renaming run_bind->ż,run_pure->Ž
open Go.Op renaming build->π,call->aU,alloc->bG
open Go.Proofs.Lays renaming n283->bb,n285->bg,n212->bh,n99->bn
variable{i n j b k m J j9 j7 j6:Nat}{w u W jX:É}{v x z jQ:Ç}{a p:ċ}{h c:Int}{e t T:ú}{d q:Array Ç}{P:aV}{y:ë}{B:ByteArray}{X:Nat->Prop}{O:Option ċ}{l:List Ç}{yQ:Bool}{K H:ë->É->Prop}{o:Ů}{D:Nat->Nat}{jJ:List Nat}{qQ:Ź}{zQ:List Int}{zJ:Go.TypeInfo}{xX:Ź->Ç}{xJ:Nat×Nat}{vX:List ByteArray}{vJ:bq->ë->É->Prop}{s:Go.Func}
namespace Go.Proofs.Y.gR
open Go Go.Proofs Go.RowKit Go.Proofs.Y.Lift
def ff{p:Prop}(h:p):Hid p:=h
def h_{b:Bool}(h:yQ=b):È (Ò yQ)=È (Ò b):=by rw[h]
def FK{k:IntKind}{b:Int}(h:c=b):È (Â k c)=È (Â k b):=by rw[h]
def i_{b:ByteArray}(h:B=b):È (Í B)=È (Í b):=by rw[h]
def kh:Ç->Bool
 |Â br _=>Ï
 |Â _ _=>Ý
 |Ò _=>Ý
 |_=>Ï
def mb(T:ú):Bool:=T==257||T==246
def rR(m:Nat)(w:É):Prop:=∀(b:Nat) (c:Array Ç) (T:ú) (v:Nat×Nat),m<=b->w.heap[b]?=Ã (Ð c T v)->mb T=Ý->0<c.size/\∀v∈c.toList,kh v=Ý
def NF(b:Nat)(w:É):Prop:=∀(c:Array Ç) (T:ú) (a:Nat×Nat),w.heap[b]?=Ã (Ð c T a)->mb T=Ï
structure fc(X:Nat->Prop)(w w':É):Prop where
 M:w.heap.size<=w'.heap.size
 N:∀k,k<w.heap.size->¬X k->w'.heap[k]?=w.heap[k]?
 gS:j5 w->j5 w'
 Y:∀m,rR m w->rR m w'
section
variable{Y:Nat->Prop}{w' d:É}
def fc.fT(X:Nat->Prop)(w:É):fc X w w:=⟨ß _,λ_ _ _=>rfl,id,λ_=>id⟩
def fc.fg(h:fc X W jX)(k:fc X jX d):fc X W d:= ⟨ï h.M k.M,λi b c=>(k.N i (Ŵ b h.M) c).trans<|h.N i b c,λa=>k.gS<|h.gS a,λm a=>k.Y m<|h.Y m a⟩
def fc.S(h:fc X w w')(b:∀k,k<w.heap.size->X k->Y k):fc Y w w':= ⟨h.M,λk a c=>h.N k a λx=>c<|b k a x,h.gS,h.Y⟩
def fc.C(h:fc X W jX)(k:fc Y jX d)(e:∀i,i<W.heap.size->Y i->X i):fc X W d:= ⟨ï h.M k.M,λi b c=>(k.N i (Ŵ b h.M) λy=>c<|e i b y).trans<|h.N i b c,λa=>k.gS<|h.gS a,λm a=>k.Y m<|h.Y m a⟩
def akF(a:j5 w)(p:ċ)(v:Ç):j5 (w.setCell p v):=by
 intro i o h;by_cases e:i=p.block
 .subst e;unfold č at h;simp only[Ú,if_true]at h;cases b:w.heap[p.block]? with
  |none=>rw[b]at h;cases h
  |some d=>
   have:=a _ _ b;rw[b]at h;cases d with
   |cells c t z=>simp only[ì,ê]at h;subst h;exact λx=>x
   |_=>exact absurd trivial this
 .rw[ĝ _ _ _ _ (by simpa using e)]at h;exact a i o h
def IZ(a:j5 w)(b:Array Ç)(t:ú)(z:Nat×Nat):j5 (w.alloc<|Ð b t z):=by
 intro i o h;by_cases e:i<w.heap.size
 .rw[Ĕ _ _ _ e]at h;exact a i o h
 .by_cases c:i=w.heap.size
  .subst c;rw[ð]at h;cases h;exact λx=>x
  .have:(w.alloc<|Ð b t z).heap.size<=i:=by simp;omega
   rw[ñ this]at h;cases h
def akG(a:rR m w)(p:ċ)(v:Ç)(f:kh v=Ý\/NF p.block w):rR m (w.setCell p v):=by
 intro i c T k g h b;by_cases e:i=p.block
 .subst e;unfold č at h;simp only[Ú,if_true]at h;cases d:w.heap[p.block]? with
  |none=>rw[d]at h;cases h
  |some l=>
   rw[d]at h;cases l with
   |cells o t z=>
    simp only[ì,ê,Į]at h;obtain⟨n,rfl,rfl⟩:=h;rcases f with f|f
    .subst n;split
     .exact a _ _ _ _ g d b
     .refine⟨by rw[Array.size_setIfInBounds];exact(a _ _ _ _ g d b).1,λu j=> ?_⟩;rw[Array.toList_setIfInBounds]at j;rcases List.mem_or_eq_of_mem_set j with q|q
      .exact(a _ _ _ _ g d b).2 u q
      .rwa[q]
    .rw[f _ _ _ d]at b;cases b
   |_=>cases h
 .rw[ĝ _ _ _ _ (by simpa using e)]at h;exact a i c T k g h b
def I1(a:rR m w)(d:Array Ç)(t:ú)(z:Nat×Nat)(b:mb t=Ï\/0<d.size/\∀v∈d.toList,kh v=Ý):rR m (w.alloc<|Ð d t z):=by
 intro i c T g j h f;by_cases e:i<w.heap.size
 .rw[Ĕ _ _ _ e]at h;exact a i c T g j h f
 .by_cases k:i=w.heap.size
  .subst k;rw[ð]at h;cases h;rcases b with b|b
   .rw[b]at f;cases f
   .exact b
  .have:(w.alloc<|Ð d t z).heap.size<=i:=by simp;omega
   rw[ñ this]at h;cases h
def fc.I{p:Addr}(hx:X p.block)(v:Value)(hv:kh v=true\/NF p.block w:=by first|exact Or.inl (by rfl)|exact Or.inr<|by assumption):fc X w (w.setCell p v):= ⟨fj,λk _ hk=>ĝ _ _ _ _ (by intro e;subst e;exact hk hx),λa=>akF a p v,λ_ a=>akG a p v hv⟩
def fc.gE(X:Nat->Prop)(w:World)(cs:Array Value)(t:TypeId)(hf:mb t=false\/0<cs.size/\∀v∈cs.toList,kh v=true:=by first|exact Or.inl (by decide)|exact Or.inr ⟨by simp,by simp[kh]⟩):fc X w (w.alloc<|.cells cs t):= ⟨fj,λk hk _=>Ĕ _ _ _ hk,λa=>IZ a cs t (0,0),λ_ a=>I1 a cs t (0,0) hf⟩
def fc.iN(X:Nat->Prop)(w:É)(n:Nat):fc X w (w.drewN n):=⟨ß _,λ_ _ _=>rfl,id,λ_=>id⟩
def fc.fR(X:Nat->Prop)(w:É):fc X w w.drew:=⟨ß _,λ_ _ _=>rfl,id,λ_=>id⟩
def kp{X:Nat->Prop}{w w':World}(h:fc X w w':=by repeat' (first|(with_reducible exact fc.fT _ _)|(with_reducible refine fc.fg ?_<|fc.iN _ _ _)|(with_reducible refine fc.fg ?_<|fc.fR _ _)|(with_reducible refine fc.fg ?_<|fc.gE _ _ _ _))):fc X w w':=h
def fc.r(h:fc X w w')(b:w.cell? a=Ã v)(c:¬X a.block):w'.cell? a=Ã v:=by rwa[World.cell?_of_block<|h.N _ (ä w a b) c]
end
def I2{u:Ç}(h:j≠b):(w.setCell ⟨j,i,Ä⟩ u).cell? ⟨b,n,Ä⟩=w.cell? ⟨b,n,Ä⟩:= World.cell?_setCell_other _ _ _ _<|by intro e;injection e with e1 e2;exact h e1
def fh(j:Nat)(vs:List Ç)(T:ú)(w:É):Prop:=w.heap[j]?=Ã (Ð vs.toArray T (0,0))
section
variable{vs:List Ç}{w':É}
def fh.N(w:É)(vs:List Ç)(T:ú):fh w.heap.size vs T (w.alloc<|Ð vs.toArray T):=ð w _
def fh.M(h:fh j vs T w):j<w.heap.size:=by
 rcases ğ j w.heap.size with a|a
 .exact a
 .unfold fh at h;rw[ñ a]at h;cases h
def fh.r(h:fh j vs T w)(i:Nat)(v:Ç)(a:vs[i]?=Ã v):w.cell? ⟨j,i,Ä⟩=Ã v:=by unfold fh at h;simp only[Χ,h,Ļ,Ğ,if_false,Ŝ];exact a
def fh.C(h:fh j vs T w)(i:Nat):w.frozen? ⟨j,i,Ä⟩=Ï:=by unfold fh at h;simp[World.frozen?,h]
def fh.Ax(h:fh j vs T w)(e:w'.heap[j]?=w.heap[j]?):fh j vs T w':=by unfold fh;rwa[e]
def fh.I(h:fh j vs T w)(k:fc X w w')(a:¬X j):fh j vs T w':=h.Ax<|k.N j h.M a
def fh.fZ(h:fh j vs T w)(i:Nat)(u:Ç):fh j (vs.set i u) T (w.setCell ⟨j,i,Ä⟩ u):=by unfold fh at h|-;unfold č;simp only[Ú,if_true,h,ì,Õ,Ļ,Ğ,if_false]
def fh.G(h:fh j vs T w)(hT:mb T=false:=by decide):NF j w:=λc T' fr q=>by unfold fh at h;rw[h]at q;cases q;exact hT
def fh.S(h:fh j vs T w)(k:fh i l e w)(a:T≠e):j≠i:=by rintro rfl;unfold fh at h k;rw[h]at k;cases k;exact a U
end
section
variable{w':É}{base:Nat}{size:Nat}{xs:List Ç}
def akH(h:w.ownsRow base e size v n xs)(k:∀j,v.ownBlock=Ã j->w'.heap[j]?=w.heap[j]?):w'.ownsRow base e size v n xs:=by
 let⟨c,a⟩:=h;refine⟨c,?_⟩;rcases a with a|⟨g,d,f,b,i,l,r⟩
 .exact Û a
 .refine Ü ⟨g,d,f,b,i,?_,r⟩;rw[k g (by rw[b];rfl)];exact l
def ic(h:w.ownsRow base e size v n xs)(k:fc X w w')(b:∀j,v.ownBlock=Ã j->¬X j):w'.ownsRow base e size v n xs:= akH h λj a=>k.N j (h.lt j a).2<|b j a
def jh(h:w.ownsRow base e size v n xs):∃a c,v=Ê a n c:=by
 rcases h.2 with⟨b,d⟩|⟨g,f,i,b,_⟩
 .exact⟨_,_,by rw[b,d]⟩
 .exact⟨_,_,b⟩
def lF(h:w.ownsRow base e size v n xs)(a:v.ownBlock=Ã j):∃b,w.heap[j]?=Ã (Ð b e (0,0)):=by
 rcases h.2 with⟨c,_⟩|⟨g,f,b,c,_,d,_⟩
 .rw[c]at a;cases a
 .rw[c]at a;cases a;exact⟨b,d⟩
def jA(h:w.ownsRow base e size v n xs)(k:fh j l T w)(a:e≠T):v.ownBlock≠Ã j:=by intro q;let⟨c,b⟩:=lF h q;unfold fh at k;rw[b]at k;cases k;exact a U
def akI(h:w.ownsRow base e size v n xs)(k:w.ownsRow i t b x m l)(c:e≠t)(d:v.ownBlock=Ã j):x.ownBlock≠Ã j:=by intro q;let⟨g,f⟩:=lF h d;let⟨o,a⟩:=lF k q;rw[f]at a;cases a;exact c U
def SC{n:Nat}(h:v∈(ý d n).toList):v∈d.toList:=by
 unfold ý at h;rw[Array.toList_map,ķ]at h;obtain⟨i,a,rfl⟩:=h;have b:i<n*d.size:=by simpa using a
 have c:0<d.size:=by
  rcases Nat.eq_zero_or_pos d.size with q|q
  .rw[q,Nat.mul_zero]at b;omega
  .exact q
 rw[getElem!_pos d _<|bj _ c];simp
structure qk(w:É)(base:Nat)(e:ú)(size:Nat)(v:Ç)(n:Nat)(xs:List Ç)(m:Nat)(news:List Ç)(v':Ç)(w':É):Prop where
 fq:w'.ownsRow base e size v' (n+m) (xs++news)
 r:fc (λk=>v.ownBlock=Ã k) w w'
 C:v'.ownBlock=v.ownBlock\/v'.ownBlock=Ã w.heap.size
 I:∀v0 n0 xE,w.ownsRow base e size v0 n0 xE->(v0.ownBlock=v.ownBlock->n0<=n)->w'.ownsRow base e size v0 n0 xE
def qk.akJ(c:w.ownsRow base e size v n xs)(f:l.length=m*size)(g:base<=w.heap.size)(j:n+m<=i)(o:i<=Č)(p:d.size=i*size)(q:d.toList.take ((n+m)*size)=xs++l)(r:mb e=Ï\/0<d.size/\∀v∈d.toList,kh v=Ý): qk w base e size v n xs m l (Ê (Ã ⟨w.heap.size,0,Ä⟩) (n+m) i) (w.drew.alloc<|Ð d e):=by have b:∀X,fc X w (w.drew.alloc<|Ð d e):=λX=>⟨fj,λk s _=>Ĕ _ _ _ s,λa=>IZ a d e (0,0),λ_ a=>I1 a d e (0,0) r⟩;refine⟨⟨by rw[Ó,c.1,f,Š],Ü ⟨w.heap.size,i,d,U,g,ð w.drew _,j,o,p,q⟩⟩,b _,Ü U,λt u x h _=>ic h (b λ_=>False) λ_ _=>id⟩
def SF{ty:ú}{bytes:Nat}(H:P.underlying t=Ã (bJ e))(I:P.info? e=Ã zJ)(W:zJ.zero=Ã z) (xF:zJ.size=size) (xG:zJ.bytes=bytes) (rO:z.cells.size=size) (l:w.ownsRow base e size v n xs) (a:ċ) (c:Nat) (b:List Ç) (hm:0<m) (s:b.length=m*size) (J:∀j u,b[j]?=Ã u->w.cell? (a.add j)=Ã u) (h1:∀u∈b,u.oneCell'=Ý) (X:n+m<=Č) (Y:(n+m)*bytes<=140737488355328) (xH:base<=w.heap.size) (hfl:mb e=Ï\/(0<b.length/\(∀u∈xs++b,kh u=Ý)/\∀u∈z.cells.toList,kh u=Ý)): ∃x w',(ŗ #[t,t] ty #[v,Ê (Ã a) m c]).run P w=ay x w'/\qk w base e size v n xs m b x w':=by
 subst xF;subst xG;have akK:n+m<=9223372036854775807:=by simp only[Č]at X;omega
 have K:(xs++b).length=(n+m)*zJ.size:=by rw[Ó,l.1,s,Š]
 have atK:=l;have tk:∀d,((xs.toArray++b.toArray++ý z.cells (š w (n+m) d e-(n+m))).toList.take ((n+m)*zJ.size)=xs++b):=λd=>by simp only[Ĵ];rw[<-K];exact ρ
 have sz:∀d,(xs.toArray++b.toArray++ý z.cells (š w (n+m) d e-(n+m))).size=š w (n+m) d e*zJ.size:=λd=>by have x:=Ω w (n+m) d e;simp only[ź,ă,size_zeroCells,rO,l.1,s,<-Š];congr 1;omega
 have akL:∀d,mb e=Ï\/0<(xs.toArray++b.toArray++ý z.cells (š w (n+m) d e-(n+m))).size/\∀v∈(xs.toArray++b.toArray++ý z.cells (š w (n+m) d e-(n+m))).toList,kh v=Ý:=λd=>by
  cases p:mb e with
  |false=>exact Û U
  |true=>
   rcases hfl with q|⟨x,y,L⟩
   .rw[q]at p;cases p
   .refine Ü ⟨by simp only[ź,ă];omega,λv h=> ?_⟩;simp only[Ĵ,ā]at h;rcases h with(h|h)|h
    .exact y v<|Ţ _ h
    .exact y v<|ŝ _ h
    .exact L v<|SC h
 have gr:=λd=>qk.akJ l s xH (Ω w (n+m) d e) (grownCap_le_maxLen w (n+m) d e X) (sz d) (tk d)<|akL d;rcases l.2 with⟨rfl,rfl⟩|⟨g,B,f,rfl,hbg,C,hnc,hcm,yU,M⟩
 .have N:=á (by simpa using l.1);subst N;have E:=run_append_nil w t ty e zJ z H I W a m c b s J hm Z (by have x:=Y;simp only[ĸ]at x;omega);have x:=gr 0;simp only[ĸ,Ř,Array.empty_append,List.toArray]at x E|-;exact⟨_,_,E,by simpa using x⟩
 .by_cases O:n+m<=B
  .have SG:n*zJ.size+b.length<=f.size:=by rw[s,yU,<-Š];exact ţ _ O
   have E:=run_append_room w t ty e zJ H I g n B f C a m c b s J h1 O SG;have F:=Ĩ w g f (f.toList.take (n*zJ.size)++b++f.toList.drop (n*zJ.size+b.length)).toArray e _ C;have Q:=λk (S:k≠g)=>Ġ w g k (f.toList.take (n*zJ.size)++b++f.toList.drop (n*zJ.size+b.length)).toArray S;have V:(f.toList.take (n*zJ.size)++b++f.toList.drop (n*zJ.size+b.length)).toArray.size=f.size:=by simp only[ă,Ó,Λ,Μ,ĵ];omega
   have kp:fc (λk=>ļ (Ê (Ã ⟨g,0,Ä⟩) n B)=Ã k) w (w.setRow g (f.toList.take (n*zJ.size)++b++f.toList.drop (n*zJ.size+b.length)).toArray):=by
    refine⟨fj,λk _ S=>Q k λe=>S (by simp[ļ,e]),λal q o r=> ?_,λm' hF q c T fr G r p=> ?_⟩;rotate_left
    .by_cases D:q=g
     .subst D;rw[F]at r;cases r;rcases hfl with qq|⟨_,y,_⟩
      .rw[qq]at p;cases p
      .refine⟨by rw[V];exact(hF _ _ _ _ G C p).1,λu x=> ?_⟩;simp only[ā]at x;rcases x with(x|x)|x
       .exact(hF _ _ _ _ G C p).2 u<|List.mem_of_mem_take x
       .exact y u<|ŝ _ x
       .exact(hF _ _ _ _ G C p).2 u<|List.mem_of_mem_drop x
     .rw[Q q D]at r;exact hF q c T fr G r p
    by_cases D:q=g
    .subst D;rw[F]at r;cases r;exact λx=>x
    .rw[Q q D]at r;exact al q o r
   refine⟨_,_,E,⟨K,Ü ⟨g,B,_,U,hbg,F,O,hcm,by rw[V,yU],?_⟩⟩,kp,Û U,λq r xE x D=> ?_⟩
   .rw[M,<-K];exact ρ
   .by_cases h:q.ownBlock=Ã g
    .let⟨y,L⟩:=x;refine⟨y,?_⟩;rcases L with⟨rfl,_⟩|⟨g0,G,atL,rfl,T,o,b3,b4,b5,b6⟩
     .cases h
     .have:g0=g:=by simpa[ļ]using h
      subst this;rw[C]at o;cases o;refine Ü ⟨g0,G,_,U,T,F,b3,b4,by rw[V,b5],?_⟩;rw[M];have p:r*zJ.size<=n*zJ.size:=ţ _<|D h;rw[show(xs++b++bA (n*zJ.size+b.length) f.toList).toArray.toList=xs++(b++bA (n*zJ.size+b.length) f.toList)from by simp,List.take_append_of_le_length (by rwa[l.1]),<-M,ς,η p,b6]
    .exact ic x kp λj o N=>h<|by rw[o];simpa[ļ]using N.symm
  .exact⟨_,_,(θ w t ty e zJ z H I W ⟨g,0,Ä⟩ n B xs l.1 (l.cells U) a m c b s J Z Z<|Ť Z Y),gr B⟩
def Df{P:Program}{ops:Array Oper}{rest:List Oper}{o:Oper}{a:Act}{Q:Exit->Act->World->Prop}(SH:o.guard=none)(s x:Operand)(t:TypeId) (ho:o.op=.call {callee:=.builtin .append,args:=#[s,x],argTypes:=#[t,t]}) {i:TypeInfo} {z:Value} {bytes:Nat} (ht:P.underlying t=some (.slice e)) (hi:P.info? e=some i) (hz:i.zero=some z) (xF:i.size=size) (xG:i.bytes=bytes) (rO:z.cells.size=size) (hs:a.eval s=v) (lD:w.ownsRow base e size v n xs) (ad:Addr) {m c:Nat} (news:List Value) (hx:a.eval x=.slice (some ad) m c) (hm:0<m) (hl:news.length=m*size) (SJ:∀j u,news[j]?=some u->w.cell? (ad.add j)=some u) (h1:∀u∈news,u.oneCell'=true) (Dg:n+m<=maxLen) (Dh:(n+m)*bytes<=140737488355328) (xH:base<=w.heap.size) (h:∀v' w',qk w base e size v n xs m news v' w'->wpList P ops Q rest (a.put o.dst v') w') (hfl:mb e=false\/(0<news.length/\(∀u∈xs++news,kh u=true)/\∀u∈z.cells.toList,kh u=true):=by first|exact Or.inl (by decide)|exact Or.inr ⟨by simp,by simp[kh],by simp[kh,Value.cells]⟩): wpList P ops Q (o::rest) a w:=by refine Ż SH λK hK=> ?_;let⟨v',w',hr,h2⟩:=SF (ty:=o.type) ht hi hz xF xG rO lD ad c news hm hl SJ h1 Dg Dh xH hfl;unfold Ŏ į;simp only[ho,aC,bk,aD,ż,Ž,Ł,ĉ,Ě,ġ,hs,hx,hr];exact hK _ _<|h v' w' h2
end
structure I3 where
 fu:Int
 r:ByteArray
 C:Nat->Int
abbrev St:=Nat->I3
def St.fZ(s:St)(i:Nat)(a:I3):St:=λj=>if j=i then a else s j
def St.fu(s:St)(i:Nat)(b:Int):St:=s.fZ i {s i with fu:=b}
def St.C(s:St)(i:Nat)(p:ByteArray):St:=s.fZ i {s i with r:=p}
def St.r(s:St)(i j:Nat)(v:Int):St:=s.fZ i {s i with C:=λk=>if k=j then v else(s i).C k}
def qm(n:Int):Ç:=Â Æ n
def SK(n:Int):Ç:=Â Ë n
def qn(s:St)(i:Nat):Ç:=if i%18=0 then qm (s<|i/18).fu else if i%18=1 then Í (s<|i/18).r else qm ((s<|i/18).C<|i%18-2)
def rS(s:St)(a:Ç)(i:Nat):Ç:=if 144<=i then a else qn s i
def qo(s:St)(a:Ç)(h:i<144):rS s a i=qn s i:=by unfold rS;rw[if_neg Z]
def iZ(s:St)(lv:Ç):List Ç:=(Đ 145).map<|rS s lv
def mG(s:St)(lv:Ç):(iZ s lv).length=145:=by simp[iZ]
def I4(s:St)(a:Ç)(h:i<145):(iZ s a)[i]?=Ã (rS s a i):=by unfold iZ;rw[Ģ,ø h];rfl
def j_{s:St}(h:l.length=145)(b:∀i,i<145->l[i]?=Ã (rS s v i)):l=iZ s v:=by
 apply Ą;intro i;by_cases a:i<145
 .rw[b i a,I4 _ _ a]
 .rw[Ö Z,Ö (by rw[mG];omega)]
section
variable(s:St)(lv:Ç)
def I5(h:i<8):rS s lv (i*18)=qm (s i).fu:=by rw[qo _ _ Z,qn,if_pos Z,show i*18/18=i from by omega]
def MP(h:i<8):rS s lv (i*18+1)=Í (s i).r:=by rw[qo _ _ Z,qn,if_neg Z,if_pos Z,show(i*18+1)/18=i from by omega]
def MQ(h:i<8)(a:j<16):rS s lv (i*18+2+j)=qm ((s i).C j):=by rw[qo _ _ Z,qn,if_neg Z,if_neg Z,show(i*18+2+j)/18=i from by omega,show(i*18+2+j)%18-2=j from by omega]
def I6:rS s lv 144=lv:=by unfold rS;rw[if_pos Z]
def akM(v:Ç):(iZ s lv).set 144 v=iZ s v:=by
 refine j_ (by rw[ě,mG]) λi a=> ?_;by_cases e:i=144
 .subst e;rw[ŏ (by rw[mG];omega),I6]
 .rw[ť<|Ne.symm e,I4 _ _ a,qo _ _ Z,qo _ _ Z]
def SL(j:i<144){c:St}(f:rS c lv i=v)(g:∀b,b<144->b≠i->qn c b=qn s b):(iZ s lv).set i v=iZ c lv:=by
 refine j_ (by rw[ě,mG]) λb h=> ?_;by_cases e:b=i
 .subst e;rw[ŏ (by rw[mG];omega),f]
 .rw[ť<|Ne.symm e,I4 _ _ h];by_cases d:b<144
  .rw[qo _ _ d,qo _ _ d,g b d e]
  .have:b=144:=Z
   subst this;rw[I6,I6]
def k_(h:i<8)(b:Int):(iZ s lv).set (i*18) (qm b)=iZ (s.fu i b) lv:=by
 refine SL s lv Z ?_ λk a c=> ?_
 .rw[I5 _ _ h];simp[St.fu,St.fZ]
 .unfold qn;by_cases e:k/18=i
  .have:k%18≠0:=Z
   simp[St.fu,St.fZ,e,this]
  .simp[St.fu,St.fZ,e]
def akN(h:i<8)(p:ByteArray):(iZ s lv).set (i*18+1) (Í p)=iZ (s.C i p) lv:=by
 refine SL s lv Z ?_ λk a b=> ?_
 .rw[MP _ _ h];simp[St.C,St.fZ]
 .unfold qn;by_cases e:k/18=i
  .have:k%18≠1:=Z
   simp[St.C,St.fZ,e,this]
  .simp[St.C,St.fZ,e]
def akO(h:i<8)(c:j<16)(v:Int):(iZ s lv).set (i*18+2+j) (qm v)=iZ (s.r i j v) lv:=by
 refine SL s lv Z ?_ λk d f=> ?_
 .rw[MQ _ _ h c];simp[St.r,St.fZ]
 .unfold qn;by_cases e:k/18=i
  .by_cases a:k%18=0
   .simp[St.r,St.fZ,e,a]
   .by_cases b:k%18=1
    .simp[St.r,St.fZ,e,b]
    .have:k%18-2≠j:=Z
     simp[St.r,St.fZ,e,a,b,this]
  .simp[St.r,St.fZ,e]
end
def iB(b:Nat)(T:ú)(tl:List Ç)(s:St)(lv:Ç)(w:É):Prop:=fh b (iZ s lv++tl) T w
section
variable{tl:List Ç}{s:St}{lv:Ç}
def iB.I7(h:iB b T tl s lv w)(a:i<145):w.cell? ⟨b,i,Ä⟩=Ã (rS s lv i):= fh.r h i _<|by rw[â (by rwa[mG]),I4 _ _ a]
def iB.qC(h:iB b T tl s lv w)(c:i<145){a:St}(e:(iZ s lv).set i v=iZ a x):iB b T tl a x (w.setCell ⟨b,i,Ä⟩ v):=by have:=fh.fZ h i v;rw[ĩ _ _ (show i<(iZ s lv).length by rwa[mG]),e]at this;exact this
def iB.fu(h:iB b T tl s lv w)(a:i<8):w.cell? ⟨b,i*18,Ä⟩=Ã (Â Æ (s i).fu):=by rw[h.I7 Z,I5 _ _ a];rfl
def iB.MR(h:iB b T tl s lv w)(a:i<8):w.cell? ⟨b,i*18+1,Ä⟩=Ã (Í (s i).r):=by rw[h.I7 Z,MP _ _ a]
def iB.m_(h:iB b T tl s lv w)(a:i<8)(c:j<16):w.cell? ⟨b,i*18+2+j,Ä⟩=Ã (Â Æ<|(s i).C j):=by rw[h.I7 Z,MQ _ _ a c];rfl
def iB.Di(h:iB b T tl s lv w):w.cell? ⟨b,144,Ä⟩=Ã lv:=by rw[h.I7 Z,I6]
def iB.zE(h:iB b T tl s lv w)(a:i<8)(x:Int):iB b T tl (s.fu i x) lv (w.setCell ⟨b,i*18,Ä⟩<|Â Æ x):=h.qC Z<|k_ s lv a x
def iB.akP(h:iB b T tl s lv w)(a:i<8)(x:ByteArray):iB b T tl (s.C i x) lv (w.setCell ⟨b,i*18+1,Ä⟩<|Í x):=h.qC Z<|akN s lv a x
def iB.SN(h:iB b T tl s lv w)(a:i<8)(c:j<16)(x:Int):iB b T tl (s.r i j x) lv (w.setCell ⟨b,i*18+2+j,Ä⟩<|Â Æ x):=h.qC Z<|akO s lv a c x
def iB.akQ(h:iB b T tl s lv w)(v:Ç):iB b T tl s v (w.setCell ⟨b,144,Ä⟩ v):=h.qC Z<|akM s lv v
end
def xI(b:Bool):Int:=if b then 1 else 0
def I8(b:Bool)(w:É):Ô À 159 #[Ò b] w λe a=>e=È (Â Æ<|xI b)/\a=w:=by
 go_enter Tryz.func159,Tryz.ntmps159;go_wp2;all_goals go_ret
 all_goals refine⟨FK ?_,U⟩
 all_goals simp[xI, *]
def n_(b o:Nat)(s:Int)(c:0<=s)(d:s<18446744073709551616)(w:É):Ô À 208 #[Å<|Ã ⟨b,o,Ä⟩,Â Æ s] w λe a=>e=È (Å<|Ã ⟨b,o+2+(s%16).toNat,Ä⟩)/\a=w:=by
 go_enter Tryz.func208,Tryz.ntmps208;go_wp2;all_goals go_ret
 exact⟨U,U⟩
def wu(n:Int):Int:=Æ.wrap n
def akR(a:0<=h)(b:h<18446744073709551616):wu h=h:=by show h%18446744073709551616=h;omega
def o_(n:Int):wu n=n%18446744073709551616:=rfl
def akS(n:Int):0<=wu n:=by rw[o_];omega
def akT(n:Int):wu n<18446744073709551616:=by rw[o_];omega
def xK(k p q:Int):Int:=
 if k=2 then wu (p+q)else if k=3 then wu (p-q)else if k=4 then wu (p*q)
 else if k=5 then(if q=0 then 0 else p/q)else if k=6 then xI (decide<|p<q)else xI (decide<|p=q)
def akU(k p q:Int)(b:0<=p)(c:p<18446744073709551616)(d:0<=q)(f:q<18446744073709551616)(w:É):Ô À 211 #[Â Ë k,Â Æ p,Â Æ q] w λe a=>e=È (Â Æ<|xK k p q)/\a=w:=by
 go_enter Tryz.func211,Tryz.ntmps211;go_wp2_with (go_at_call 159;refine(I8 _ _).mono ?_;rintro e a ⟨rfl,rfl⟩);all_goals simp only[beq_iff_eq,beq_eq_false_iff_ne,ne_eq]at*
 all_goals first
  |(exfalso;simp_all;done)
  |(go_ret;refine⟨FK ?_,U⟩;unfold xK;simp[wu, *];done)
  |(go_ret;refine⟨FK ?_,U⟩;unfold xK;simp[wu, *];rfl)
structure RC where
 x:Nat
 y:Nat
 k:Int
 d:Int
 g:Int
def qZ(a:Nat)(c:RC)(b:Ç):List Ç:=[Å<|Ã ⟨a,0,Ä⟩,Â Ë c.x,Â Ë c.y,Â Æ c.k,Â Ë c.d,Â Æ c.g,b]
def pA(l:List Int):List Ç:=l.map qm
def akV{base:Nat}(h:w.ownsRow base e 1 (Ê O (n+1) i) (n+1) (l++[x])):w.ownsRow base e 1 (Ê O n i) n l:=by
 let⟨d,b⟩:=h;simp only[Ó,ŉ,ι,Ī]at d;refine⟨Z,?_⟩;rcases b with⟨b,_⟩|⟨g,q,f,b,j,k,r,m,o,p⟩
 .cases b
 .cases b;refine Ü ⟨g,i,f,U,j,k,Z,m,o,?_⟩;have:=congrArg (List.take n) p;rw[ς,Ī,η Z,List.take_left' Z]at this;rw[Ī];exact this
def MS{base:Nat}(h:w.ownsRow base e 1 (Ê O (n+1) i) (n+1) (l++[x])):∃g,O=Ã ⟨g,0,Ä⟩/\w.cell? ⟨g,n,Ä⟩=Ã x/\n+1<=i:=by
 let⟨f,d⟩:=h;simp only[Ó,ŉ,ι,Ī]at f;rcases d with⟨d,_⟩|⟨g,o,p,d,q,j,k,r,s,m⟩
 .cases d
 .cases d;refine⟨g,U,?_,k⟩;have:=congrArg (λb=>b[n]?) m;simp only[Ī]at this;rw[List.getElem?_take_of_lt Z,Þ Z,show n-l.length=0 by omega]at this;simp only[Χ,j];simpa using this
def MU(j d:Nat)(c:RC)(f:Ç)(base:Nat)(b:List Int)(p:Int)(w:É)(i:fh d (qZ j c f) 282 w)(h:w.ownsRow base 36 1 f (b.length+1) (pA b++[qm p]))(k:b.length<=1000): Ô À 204 #[Å<|Ã ⟨d,0,Ä⟩] w λe g=>e=È (Â Æ p)/\∃a,g=w.setCell ⟨d,6,Ä⟩ a/\w.ownsRow base 36 1 a b.length (pA b)/\a.ownBlock=f.ownBlock:=by obtain⟨a,l,rfl⟩:=jh h;obtain⟨g,rfl,m,o⟩:=MS h;have e:=akV h;have q:=i.r 6 _ U;have r:=i.C 6;have H:=ff e;generalize b.length=n at*;go_enter Tryz.func204,Tryz.ntmps204;go_wp2;go_ret;refine⟨U,_,U,?_,U⟩;simpa using H.out
def akW:(À.info? 36).map (λi=>(i.zero,i.size,i.bytes))=Ã (Ã<|Â Æ 0,1,8):=ft
def p_(p b:Nat)(c:RC)(d:Ç)(base:Nat)(k:List Ç)(n:Nat)(f m:Nat)(q:Nat)(a:List Ç)(w:É)(g:fh b (qZ p c d) 282 w)(l:w.ownsRow base 36 1 d n k)(E:n+m<=1000) (r:0<m) (s:a.length=m) (t:∀j u,a[j]?=Ã u->w.cell? ((⟨f,0,Ä⟩:ċ).add j)=Ã u) (v:∀u∈a,u.oneCell'=Ý) (x:base<=w.heap.size): Ô À 203 #[Å<|Ã ⟨b,0,Ä⟩,Ê (Ã ⟨f,0,Ä⟩) m q] w λe o=>e=È (é #[])/\∃h i,qk w base 36 1 d n k m a h i/\o=i.setCell ⟨b,6,Ä⟩ h:=by let⟨F,y,z,B,C⟩:=ò akW;have D:=g.r 6 _ U;have o:=jA l g A;have H:=ff g;go_enter Tryz.func203,Tryz.ntmps203;go_wp2_with (at_builtin;refine Df U _ _ 231 U Tryz.underlying231 y z B C U U l ⟨f,0,Ä⟩ a U r (by rw[s,Ī]) t v (by unfold Č;omega) Z x ?_;intro h i e;obtain⟨G,I,rfl⟩:=jh e.fq;have J:=e.r.r D o;have K:=(H.out.I e.r o).C 6);go_end0;exact⟨U,_,_,e,U⟩
def ki(l:List (Nat×Int)):List Ç:=l.flatMap λp=>[SK p.1,qm p.2]
structure iU where
 r:Nat
 T:ú
 C:List Ç
structure iU.Ok(E:iU):Prop where
 M:E.T≠36
 r:E.T≠257
 I:E.T≠282
 N:E.T≠300
 akX:E.T≠252
 akY:E.T≠246
def iU.Ok.C{E:iU}(h:E.Ok):mb E.T=Ï:=by unfold mb;rw[beq_eq_false_iff_ne.2 h.r,beq_eq_false_iff_ne.2 h.akY];rfl
structure R(E:iU)(rb:Nat)(c:RC)(sv lv:Ç)(ss:List Int)(s:St)(ls:List (Nat×Int))(w:É):Prop where
 r:fh rb (qZ E.r c sv) 282 w
 I:w.ownsRow 0 36 1 sv ss.length (pA ss)
 C:iB E.r E.T E.C s lv w
 M:w.ownsRow 0 257 2 lv ls.length (ki ls)
structure Tr(E:iU)(rb:Nat)(sv lv:Ç)(n:Nat)(w:É)(jZ jz:Ç)(n':Nat)(w':É):Prop where
 r:fc (λk=>k=E.r\/k=rb\/sv.ownBlock=Ã k\/lv.ownBlock=Ã k) w w'
 s:∀j,jZ.ownBlock=Ã j->sv.ownBlock=Ã j\/w.heap.size<=j
 l:∀j,jz.ownBlock=Ã j->lv.ownBlock=Ã j\/w.heap.size<=j
 C:∀v0 n0 xE,w.ownsRow 0 257 2 v0 n0 xE->(v0.ownBlock=lv.ownBlock->n0<=n)->w'.ownsRow 0 257 2 v0 n0 xE/\(v0.ownBlock=jz.ownBlock->n0<=n')
section
variable{E:iU}{rb:Nat}{c:RC}{sv lv f o:Ç}{ss:List Int}{s:St}{ls:List (Nat×Int)}
def Tr.fT(E:iU)(rb:Nat)(sv lv:Ç)(n:Nat)(w:É):Tr E rb sv lv n w sv lv n w:= ⟨fc.fT _ _,λ_ h=>Û h,λ_ h=>Û h,λ_ _ _ h k=>⟨h,k⟩⟩
def Tr.fg(h:Tr E rb sv lv n w f z b u)(k:Tr E rb f z b u o jQ m W):Tr E rb sv lv n w o jQ m W:=by
 refine⟨h.r.C k.r ?_,λj a=> ?_,λj a=> ?_,λc d g p q=> ?_⟩
 .rintro i r (e|e|e|e)
  .exact Û e
  .exact Ü<|Û e
  .exact Ü<|Ü<|Û<|(h.s i e).resolve_right Z
  .exact Ü<|Ü<|Ü<|(h.l i e).resolve_right Z
 .rcases k.s j a with e|e
  .exact h.s j e
  .exact Ü<|ï h.r.M e
 .rcases k.l j a with e|e
  .exact h.l j e
  .exact Ü<|ï h.r.M e
 .let⟨e,i⟩:=h.C c d g p q;exact k.C c d g e i
def Tr.I(k:fc X w u)(c:∀i,i<w.heap.size->X i->i=E.r\/i=rb\/sv.ownBlock=Ã i)(d:∀j,f.ownBlock=Ã j->sv.ownBlock=Ã j\/w.heap.size<=j)(g:∀i a,X i->w.heap[i]?≠Ã (Ð a 257 (0,0))):Tr E rb sv lv n w f lv n u:= ⟨k.S λi h q=>(c i h q).elim Û λe=>Ü (e.elim Û λe=>Ü<|Û e),d,λj q=>Û q,λp r s b l=>⟨ic b k λj m q=>by let⟨a,o⟩:=lF b m;exact g j a q o,l⟩⟩
def Tr.akZ{Y:Nat->Prop}(t:Tr E rb sv lv n w f z b u)(k:fc Y u W)(m:∀i,Y i->w.heap.size<=i)(o:∀i a,Y i->u.heap[i]?≠Ã (Ð a 257 (0,0))):Tr E rb sv lv n w f z b W:= ⟨t.r.C k λi v q=>absurd (m i q) Z,t.s,t.l,λc d e g h=>⟨ic (t.C c d e g h).1 k λj p q=>by let⟨a,r⟩:=lF (t.C c d e g h).1 p;exact o j a q r,(t.C c d e g h).2⟩⟩
def R.ak0(ok:E.Ok)(h:R E rb c sv lv ss s ls w)(a:fh j l 252 w)(k:fc (λi=>i=j) w u):R E rb c sv lv ss s ls u:= ⟨h.r.I k<|fh.S h.r a A,ic h.I k λi q r=>jA h.I a A (by rw[q,r]),h.C.I k<|fh.S h.C a ok.akX,ic h.M k λi q r=>jA h.M a A<|by rw[q,r]⟩
def R.N(ok:E.Ok)(h:R E rb c sv lv ss s ls w)(i:Nat){c':RC}{jZ:Ç}{ss':List Int}(e:(qZ E.r c sv).set i v=qZ E.r c' jZ)(b:w.ownsRow 0 36 1 jZ ss'.length (pA ss'))(f:∀j,jZ.ownBlock=Ã j->sv.ownBlock=Ã j): R E rb c' jZ lv ss' s ls (w.setCell ⟨rb,i,Ä⟩ v)/\Tr E rb sv lv ls.length w jZ lv ls.length (w.setCell ⟨rb,i,Ä⟩ v):=by have a:=fc.I (X:=λk=>k=rb) (p:=⟨rb,i,Ä⟩) U v<|Ü h.r.G;refine⟨⟨by have:=h.r.fZ i v;rwa[e]at this,ic b a λj q r=>jA b h.r A (by rw[q,r]),h.C.I a<|fh.S h.C h.r ok.I,ic h.M a λj q r=>jA h.M h.r A<|by rw[q,r]⟩,Tr.I a (λi _ q=>Ü<|Û q) (λj q=>Û<|f j q) λi g q k=> ?_⟩;have d:=h.r;unfold fh at d;rw[q,d]at k;cases k
def R.S(ok:E.Ok)(h:R E rb c sv lv ss s ls w)(i:Nat){d:St}(k:iB E.r E.T E.C d lv (w.setCell ⟨E.r,i,Ä⟩ v)): R E rb c sv lv ss d ls (w.setCell ⟨E.r,i,Ä⟩ v)/\Tr E rb sv lv ls.length w sv lv ls.length (w.setCell ⟨E.r,i,Ä⟩ v):=by have b:=fc.I (X:=λk=>k=E.r) (p:=⟨E.r,i,Ä⟩) U v<|Ü<|fh.G h.C ok.C;refine⟨⟨h.r.I b (fh.S h.C h.r ok.I).symm,ic h.I b λj q r=>jA h.I h.C ok.M.symm (by rw[q,r]),k,ic h.M b λj q r=>jA h.M h.C ok.r.symm<|by rw[q,r]⟩,Tr.I b (λi _ q=>Û q) (λj q=>Û q) λi e q a=> ?_⟩;rw[q,h.C]at a;injection a with a;injection a with _ a;exact ok.r a
def R.Y(ok:E.Ok)(h:R E rb c sv lv ss s ls w){ns:List Int}{u:É}(o:ns.length=m)(a:qk w 0 36 1 sv ss.length (pA ss) m (pA ns) v u): R E rb c v lv (ss++ns) s ls (u.setCell ⟨rb,6,Ä⟩ v)/\Tr E rb sv lv ls.length w v lv ls.length (u.setCell ⟨rb,6,Ä⟩ v):=by
 subst o;have f:∀{i:Nat} {g:Array Ç} {T:ú},sv.ownBlock=Ã i->w.heap[i]?=Ã (Ð g T (0,0))->T=36:=λ{i g T} q d=>by let⟨k,e⟩:=lF h.I q;rw[d]at e;cases e;rfl
 have b:R E rb c sv lv ss s ls u:=⟨h.r.I a.r λq=>absurd (f q h.r) A,a.I _ _ _ h.I λ_=>ß _,h.C.I a.r λq=>ok.M<|f q h.C,ic h.M a.r λj q r=>by let⟨k,e⟩:=lF h.M q;exact absurd (f r e) A⟩;have n:u.ownsRow 0 36 1 v (ss++ns).length (pA<|ss++ns):=by have:=a.fq;rwa[show pA ss++pA ns=pA (ss++ns) by simp[pA],show ss.length+ns.length=(ss++ns).length by simp]at this
 have l:=fc.I (X:=λk=>k=rb) (p:=⟨rb,6,Ä⟩) U v<|Ü b.r.G;refine⟨⟨b.r.fZ 6 v,ic n l λj q r=>jA n b.r A (by rw[q,r]),b.C.I l<|fh.S b.C b.r ok.I,ic b.M l λj q r=>jA b.M b.r A<|by rw[q,r]⟩,(Tr.I a.r (λi _ q=>Ü<|Ü q) (λj q=>a.C.elim (λe=>Û<|by rwa[<-e]) λe=>Ü<|by rw[e]at q;cases q;exact ß _) λi g q d=>absurd (f q d) A).fg<|Tr.I l (λi _ q=>Ü<|Û q) (λj q=>Û q) λi g q d=> ?_⟩;have e:=b.r;unfold fh at e;rw[q,e]at d;cases d
end
section
variable{E:iU}{rb:Nat}{c:RC}{sv lv:Ç}{s:St}{ls:List (Nat×Int)}
def R.fL(h:R E rb c sv lv zQ s ls w)(k:fc (λ_=>False) w W):R E rb c sv lv zQ s ls W:= ⟨h.r.I k id,ic h.I k λ_ _=>id,h.C.I k id,ic h.M k λ_ _=>id⟩
def Tr.fL(k:fc (λ_=>False) w W):Tr E rb sv lv n w sv lv n W:=Tr.I k (λ_ _=>Ĥ) (λ_ q=>Û q) λ_ _=>Ĥ
end
def iO:List (Int×Int×Int):=[(0,0,0),(1,0,1),(1,2,1),(1,2,1),(2,2,1),(2,2,1),(1,2,1),(1,2,1),(1,1,2),(1,2,2),(1,1,0),(1,0,1),(1,0,1),(1,0,1),(1,0,1),(3,1,1),(6,2,0),(2,2,0),(8,2,1),(4,1,0),(8,3,2),(1,1,0),(1,0,0)]
structure iK(w:É):Prop where
 M:∃cs fz,w.heap[2]?=Ã (Ð cs 300 fz)
 I:∀(k:Nat) (r:Int×Int×Int),iO[k]?=Ã r->w.cell? ⟨2,k*3,Ä⟩=Ã (Â Æ r.1)/\w.cell? ⟨2,k*3+1,Ä⟩=Ã (Â Ë r.2.1)/\w.cell? ⟨2,k*3+2,Ä⟩=Ã (Â Ë r.2.2)
def iK.r(h:iK w)(k:fc X w u)(a:¬X 2):iK u:=by
 let⟨c,d,b⟩:=h.M;have e:2<w.heap.size:=by
  rcases ğ 2 w.heap.size with q|q
  .exact q
  .rw[ñ q]at b;cases b
 refine⟨⟨c,d,by rwa[k.N 2 e a]⟩,λi r q=> ?_⟩;let⟨f,g,j⟩:=h.I i r q;exact⟨k.r f a,k.r g a,k.r j a⟩
def iK.C(h:iK w)(b:w.heap[j]?=Ã (Ð d T xJ))(c:T≠300):j≠2:=by rintro rfl;let⟨e,f,a⟩:=h.M;rw[b]at a;cases a;exact c U
def iK.N{E:iU}(ok:E.Ok){rb:Nat}{c:RC}{sv lv:Ç}{s:St}{a:List (Nat×Int)}(h:iK w)(r:R E rb c sv lv zQ s a w)(t:Tr E rb sv lv n w v x i u):iK u:=by
 refine h.r t.r ?_;rintro(e|e|e|e)
 .exact h.C r.C ok.N e.symm
 .exact h.C r.r A e.symm
 .let⟨b,q⟩:=lF r.I e;exact h.C q A U
 .let⟨b,q⟩:=lF r.M e;exact h.C q A U
def I9:∀(k:Nat) (r:Int×Int×Int),iO[k]?=Ã r->0<=r.1/\r.1<=8/\0<=r.2.1/\r.2.1<=3/\0<=r.2.2/\r.2.2<=2:=by
 have h:∀r∈iO,0<=r.1/\r.1<=8/\0<=r.2.1/\r.2.1<=3/\0<=r.2.2/\r.2.2<=2:=A
 exact λk r a=>h r<|ü a
def lu(g:Int)(n:Nat)(b a c:Int):Bool:= !(decide (g<b)||(decide ((n:Int)-a<0)||decide (32<(n:Int)-a+c)))
def SO(E:iU)(f:Nat)(c:RC)(a d:Ç)(i:List Int)(s:St)(e:List (Nat×Int))(w:É)(j:Int)(b:Bool)(h:É):Prop:=
 R E f (if b then{c with g:=c.g-j}else c) a d i s e h/\Tr E f a d e.length w a d e.length h
section
variable{E:iU}{rb:Nat}{c:RC}{sv lv:Ç}{s:St}{ls:List (Nat×Int)}
def SQ(a:R E rb c sv lv zQ s ls w)(k:fc (λ_=>False) w u):SO E rb c sv lv zQ s ls w h Ï u:=⟨a.fL k,Tr.fL k⟩
def ak1(ok:E.Ok)(a:R E rb c sv lv zQ s ls w){g:Int}(d:c.g=g)(e:u=W.setCell ⟨rb,5,Ä⟩ (Â Æ<|g-h))(k:fc (λ_=>False) w W):SO E rb c sv lv zQ s ls w h Ý u:=by subst d e;have b:=a.fL k;let⟨f,i⟩:=b.N ok 5 (c':={c with g:=c.g-h}) U b.I λ_ q=>q;exact⟨f,(Tr.fL k).fg i⟩
end
def Dj(E:iU)(ok:E.Ok)(m:Nat)(c:RC)(q r:Ç)(d:List Int)(s:St)(t:List (Nat×Int))(w:É)(h:R E m c q r d s t w)(u:iK w)(k:Nat)(f b i:Int)(o:iO[k]?=Ã (f,b,i))(y:d.length<=1000)(P:0<=c.g)(Q:c.g<18446744073709551616): Ô À 202 #[Å<|Ã ⟨m,0,Ä⟩,Â Ë k] w λe a=>e=È (Ò<|lu c.g d.length f b i)/\SO E m c q r d s t w f (lu c.g d.length f b i) a:=by
 let⟨z,B,C⟩:=u.I k _ o;obtain⟨a,S,rfl⟩:=jh h.I;have D:=h.r.r 6 _ U;have T:=h.r.r 5 _ U;have V:=h.r.C 5;have W:=h.r.M;have X:k<23:=(Ù.1 o).1;let⟨F,G,I,J,K,L⟩:=I9 k _ o;simp only at F G I J K L z B C;obtain⟨n,j⟩:∃n,d.length=n:=⟨_,U⟩;rw[j]at D y;have e:lu c.g d.length f b i= !(decide (c.g<f)||(decide ((n:Int)-b<0)||decide (32<(n:Int)-b+i))):=by rw[j];rfl
 have H:=ff<|Á h<|Á j e;clear u h j e;generalize M:c.g=g at*;go_enter Tryz.func202,Tryz.ntmps202;go_wp2;go_quiet (fail);go_wp2;by_cases v:g<f
 .go_quiet (fail)
  go_wp2;let⟨h,j,e⟩:=H.out;have l:lu g d.length f b i=Ï:=by rw[e];simp[v]
  go_ret;rw[l];refine⟨U,SQ h ?_⟩;exact kp
 .have N:=decide_eq_false v;by_cases x:(n:Int)-b<0
  .go_quiet (fail)
   go_wp2;let⟨h,j,e⟩:=H.out;have l:lu g d.length f b i=Ï:=by rw[e];simp[x]
   go_ret;rw[l];refine⟨U,SQ h ?_⟩;exact kp
  .have O:=decide_eq_false x;go_quiet (fail);go_wp2
   .have p:32<(n:Int)-b+i:=by assumption
    let⟨h,j,e⟩:=H.out;have l:lu g d.length f b i=Ï:=by rw[e];simp[p]
    go_ret;rw[l];refine⟨U,SQ h ?_⟩;exact kp
   .go_region
    go_wp2;have p:(n:Int)-b+i<=32:=by assumption
    let⟨h,j,e⟩:=H.out;have l:lu g d.length f b i=Ý:=by rw[e];simp[N,O,p]
    go_ret;rw[l];refine⟨U,ak1 ok h M U ?_⟩;exact kp
def rT(s:St)(y:Nat)(q p:Int):Int×St:=
 if(s y).fu<p then(0,s)else(1,(s.fu y<|(s y).fu-p).fu (q%8).toNat<|wu<|(s.fu y ((s y).fu-p) (q%8).toNat).fu+p)
def zF(E:iU)(e:Nat)(c:RC)(a b:Ç)(g:List Int)(s:St)(d:List (Nat×Int))(w:É)(h:St)(f:É):Prop:=
 R E e c a b g h d f/\Tr E e a b d.length w a b d.length f
section
variable{E:iU}{rb:Nat}{c:RC}{sv lv:Ç}{s d f:St}{a:List (Nat×Int)}
def zF.fL(h:R E rb c sv lv zQ s a w)(k:fc (λ_=>False) w u):zF E rb c sv lv zQ s a w s u:=⟨h.fL k,Tr.fL k⟩
def zF.fu(ok:E.Ok)(h:zF E rb c sv lv zQ s a w d W)(e:i<8)(x:Int):zF E rb c sv lv zQ s a w (d.fu i x) (W.setCell ⟨E.r,i*18,Ä⟩<|Â Æ x):=by let⟨b,f⟩:=h;let⟨g,j⟩:=b.S ok (i*18)<|b.C.zE e x;exact⟨g,f.fg j⟩
end
def ak2(E:iU)(ok:E.Ok)(d:Nat)(c:RC)(f g:Ç)(i:List Int)(s:St)(j:List (Nat×Int))(w:É)(h:R E d c f g i s j w)(q p:Int)(n:0<=q)(o:q<18446744073709551616)(r:0<=p)(t:p<18446744073709551616)(a:c.y<8)(u:0<=(s c.y).fu)(v:(s c.y).fu<18446744073709551616): Ô À 209 #[Å<|Ã ⟨d,0,Ä⟩,Â Æ q,Â Æ p] w λe k=>e=È (Â Æ (rT s c.y q p).1)/\zF E d c f g i s j w (rT s c.y q p).2 k:=by
 have x:=h.r.r 0 _ U;have z:=h.r.r 2 _ U;have B:=h.r.M;have C:=fh.M h.C;have D:=h.C.fu a;have F:=fh.C h.C<|c.y*18;have k:(q%8).toNat<8:=Z
 have H:=ff h;by_cases l:(s c.y).fu<p
 .have e:rT s c.y q p=(0,s):=by unfold rT;rw[if_pos l]
  rw[e];generalize(s c.y).fu=b at*;generalize c.y=y at*;go_enter aE,χ;go_wp2;go_quiet (fail);go_wp2;go_ret;refine⟨U,zF.fL H.out ?_⟩;exact kp
 .have e:rT s c.y q p=(1,(s.fu c.y<|(s c.y).fu-p).fu (q%8).toNat<|wu<|(s.fu c.y ((s c.y).fu-p) (q%8).toNat).fu+p):=by unfold rT;rw[if_neg l]
  rw[e];have G:=λm=>((h.fL<|fc.iN _ w m).C.zE a<|(s c.y).fu-p).fu k;have I:∀m,((w.drewN m).setCell ⟨E.r,c.y*18,Ä⟩<|Â Æ<|(s c.y).fu-p).frozen? ⟨E.r,(q%8).toNat*18,Ä⟩=Ï:=λm=>fh.C ((h.fL<|fc.iN _ w m).C.zE a<|(s c.y).fu-p) _;generalize(s.fu c.y ((s c.y).fu-p) (q%8).toNat).fu=b2 at*;generalize(s c.y).fu=b at*;go_enter aE,χ;go_wp2;go_quiet (fail);go_wp2;go_ret;refine⟨U,((zF.fL H.out ?_).fu ok a _).fu ok k _⟩;exact kp
def kJ(E:iU)(rb:Nat)(sv lv:Ç)(n:Nat)(w:É)(c:RC)(f:List Int)(s:St)(a:List (Nat×Int))(b:É):Prop:=
 ∃d e,R E rb c d e f s a b/\Tr E rb sv lv n w d e a.length b
section
variable{E:iU}{rb:Nat}{c a:RC}{sv lv:Ç}{w':É}{b:List Int}{s d:St}{ls f:List (Nat×Int)}{p:Int}
def R.jR(h:R E rb c sv lv zQ s ls w):kJ E rb sv lv ls.length w c zQ s ls w:=⟨sv,lv,h,Tr.fT _ _ _ _ _ _⟩
def nA(ok:E.Ok)(h:R E rb c sv lv (zQ++[p]) s ls w)(g:zQ.length<=900):Ô À 204 #[Å<|Ã ⟨rb,0,Ä⟩] w λe w'=>e=È (Â Æ p)/\ ∃a,R E rb c a lv zQ s ls w'/\Tr E rb sv lv ls.length w a lv ls.length w':=by have b:=h.I;rw[show pA (zQ++[p])=pA zQ++[qm p] by simp[pA],show(zQ++[p]).length=zQ.length+1 by simp]at b;refine(MU E.r rb c sv 0 zQ p w h.r b Z).mono ?_;rintro e w' ⟨rfl,a,rfl,d,f⟩;exact⟨U,a,h.N ok 6 U d λj q=>by rwa[<-f]⟩
def zG(ok:E.Ok)(h:R E rb c sv lv zQ s ls w)(i:zQ.length<=900)(x:Int):Ô À 203 #[Å<|Ã ⟨rb,0,Ä⟩,Ê (Ã ⟨w.heap.size,0,Ä⟩) 1 1] (w.alloc<|Ð #[Â Æ x] 36) λe w'=>e=È (é #[])/\ ∃b,R E rb c b lv (zQ++[x]) s ls w'/\Tr E rb sv lv ls.length w b lv ls.length w':=by have k:=fc.gE (λ_=>False) w #[Â Æ x] 36;have d:=h.fL k;refine(p_ E.r rb c sv 0 (pA zQ) zQ.length w.heap.size 1 1 [Â Æ x] _ d.r d.I Z Z U (ą _ _ _) (λa f=>by simp at f;subst f;rfl)<|å _).mono ?_;rintro e w' ⟨rfl,b,u,a,rfl⟩;let⟨f,g⟩:=d.Y ok (ns:=[x]) U a;exact⟨U,b,f,(Tr.fL k).fg g⟩
def SR(ok:E.Ok)(h:R E rb c sv lv zQ s ls w)(i:zQ.length<=900)(x y:Int):Ô À 203 #[Å<|Ã ⟨rb,0,Ä⟩,Ê (Ã ⟨w.heap.size,0,Ä⟩) 2 2] (w.alloc<|Ð #[Â Æ x,Â Æ y] 36) λe w'=>e=È (é #[])/\ ∃b,R E rb c b lv (zQ++[x,y]) s ls w'/\Tr E rb sv lv ls.length w b lv ls.length w':=by have k:=fc.gE (λ_=>False) w #[Â Æ x,Â Æ y] 36;have d:=h.fL k;refine(p_ E.r rb c sv 0 (pA zQ) zQ.length w.heap.size 2 2 [Â Æ x,Â Æ y] _ d.r d.I Z Z U (ž _ _ _ _) (λa f=>by simp at f;rcases f with rfl|rfl<;>rfl)<|å _).mono ?_;rintro e w' ⟨rfl,b,u,a,rfl⟩;let⟨f,g⟩:=d.Y ok (ns:=[x,y]) U a;exact⟨U,b,f,(Tr.fL k).fg g⟩
end
structure im(E:iU)(lv:Ç)(n:Nat)(w:É)(s:St)(ls:List (Nat×Int))(w':É)(jz:Ç):Prop where
 r:iB E.r E.T E.C s jz w'
 I:w'.ownsRow 0 257 2 jz ls.length (ki ls)
 C:fc (λk=>k=E.r\/lv.ownBlock=Ã k) w w'
 l:∀j,jz.ownBlock=Ã j->lv.ownBlock=Ã j\/w.heap.size<=j
 M:∀v0 n0 xE,w.ownsRow 0 257 2 v0 n0 xE->(v0.ownBlock=lv.ownBlock->n0<=n)->w'.ownsRow 0 257 2 v0 n0 xE/\(v0.ownBlock=jz.ownBlock->n0<=ls.length)
structure Dk where
 r:Int
 C:Bool
 I:Int
 s:St
 M:List (Nat×Int)
abbrev me:=St->List (Nat×Int)->Nat->Nat->Int->Int->Dk
def fX(n:Int):Prop:=0<=n/\n<18446744073709551616
def lG(c:Int):Nat:=
 if 48<=c/\c<=57 then 1 else if c=43 then 2 else if c=45 then 3 else if c=42 then 4 else if c=47 then 5 else if c=60 then 6 else if c=61 then 7
 else if c=100 then 8 else if c=120 then 9 else if c=112 then 10 else if c=107 then 11 else if c=99 then 12 else if c=121 then 13 else if c=98 then 14
 else if c=108 then 15 else if c=116 then 16 else if c=106 then 17 else if c=118 then 18 else if c=101 then 19 else if c=111 then 20 else if c=114 then 21 else if c=102 then 22 else 0
def xL(c:UInt8):Bool:=decide<|lG (c.toNat:Int)≠0
structure gI(s:St):Prop where
 fu:∀i,fX (s i).fu
 C:∀i j,fX<|(s i).C j
 I:∀i,(s i).r.size<=40/\∀c∈(s i).r.data.toList,xL c=Ý
def gd(l:List Int):Int:=l.getLastD 0
def q_(l:List Int)(h:0<l.length):l=l.dropLast++[gd l]:=by
 have a:l≠[]:=by intro e;subst e;simp at h
 unfold gd;rw[List.getLastD_eq_getLast?,List.getLast?_eq_some_getLast a,Option.getD_some];exact(List.dropLast_concat_getLast a).symm
section
variable{E:iU}{c:RC}{s:St}{a:List (Nat×Int)}{q r:Int}
def ak3(ok:E.Ok)(b:R E i c x v (zQ++[h]) s a w)(k:zQ.length<=800)(l:c.y<8): Ô À 205 #[Å<|Ã ⟨i,0,Ä⟩,Â Ë 8] w λe H=>e=È (é #[])/\kJ E i x v a.length w c (zQ++[h,h]) s a H:=by have m:=b.r.r 0 _ U;have n:=b.r.r 2 _ U;have o:=b.r.M;have p:=fh.M b.C;have H:=ff b;go_enter í,è;go_wp2_with fail;go_quiet (fail);go_wp2_with fail;go_at_call 204;refine(nA ok (H.out.fL<|fc.iN _ _ _) (by first|omega|(simp;omega))).mono ?_;rintro e q ⟨rfl,r,d,f⟩;go_wp2_with fail;go_at_call 203;refine(SR ok d (by first|omega|(simp;omega)) _ _).mono ?_;rintro e t ⟨rfl,u,g,j⟩;go_wp2_with fail;go_end0;exact⟨U,_,_,g,(((Tr.fL<|fc.iN _ _ _).fg f).fg j)⟩
def ak4(ok:E.Ok)(b:R E i c x v ((zQ++[h])++[q]) s a w)(m:zQ.length<=800)(n:c.y<8): Ô À 205 #[Å<|Ã ⟨i,0,Ä⟩,Â Ë 9] w λe H=>e=È (é #[])/\kJ E i x v a.length w c (zQ++[q,h]) s a H:=by have o:=b.r.r 0 _ U;have p:=b.r.r 2 _ U;have r:=b.r.M;have t:=fh.M b.C;have H:=ff b;go_enter í,è;go_wp2_with fail;go_quiet (fail);go_wp2_with fail;go_at_call 204;refine(nA ok (H.out.fL<|fc.iN _ _ _) (by first|omega|(simp;omega))).mono ?_;rintro e u ⟨rfl,z,d,f⟩;go_wp2_with fail;go_at_call 204;refine(nA ok d (by first|omega|(simp;omega))).mono ?_;rintro e B ⟨rfl,C,g,j⟩;go_wp2_with fail;go_at_call 203;refine(SR ok g (by first|omega|(simp;omega)) _ _).mono ?_;rintro e D ⟨rfl,F,k,l⟩;go_wp2_with fail;go_end0;exact⟨U,_,_,k,((((Tr.fL<|fc.iN _ _ _).fg f).fg j).fg l)⟩
def ak5(ok:E.Ok)(b:R E i c x v (zQ++[h]) s a w)(g:zQ.length<=800)(j:c.y<8): Ô À 205 #[Å<|Ã ⟨i,0,Ä⟩,Â Ë 10] w λe H=>e=È (é #[])/\kJ E i x v a.length w c zQ s a H:=by have k:=b.r.r 0 _ U;have l:=b.r.r 2 _ U;have m:=b.r.M;have n:=fh.M b.C;have H:=ff b;go_enter í,è;go_wp2_with fail;go_quiet (fail);go_wp2_with fail;go_at_call 204;refine(nA ok (H.out.fL<|fc.iN _ _ _) (by first|omega|(simp;omega))).mono ?_;rintro e o ⟨rfl,p,d,f⟩;go_wp2_with fail;go_end0;exact⟨U,_,_,d,((Tr.fL<|fc.iN _ _ _).fg f)⟩
def ak6(ok:E.Ok)(h:R E i c x v zQ s a w)(f:zQ.length<=800)(g:c.y<8): Ô À 205 #[Å<|Ã ⟨i,0,Ä⟩,Â Ë 11] w λe H=>e=È (é #[])/\kJ E i x v a.length w c (zQ++[c.k]) s a H:=by have j:=h.r.r 0 _ U;have l:=h.r.r 2 _ U;have m:=h.r.M;have n:=fh.M h.C;have o:=h.r.r 3 _ U;have H:=ff h;go_enter í,è;go_wp2_with fail;go_quiet (fail);go_wp2_with fail;go_at_call 203;refine(zG ok (H.out.fL<|fc.iN _ _ _) (by first|omega|(simp;omega)) _).mono ?_;rintro e p ⟨rfl,q,b,d⟩;go_wp2_with fail;go_end0;exact⟨U,_,_,b,((Tr.fL<|fc.iN _ _ _).fg d)⟩
def ak7(ok:E.Ok)(h:R E i c x v zQ s a w)(f:zQ.length<=800)(g:c.y<8)(j:c.x<8): Ô À 205 #[Å<|Ã ⟨i,0,Ä⟩,Â Ë 12] w λe H=>e=È (é #[])/\kJ E i x v a.length w c (zQ++[(c.x:Int)]) s a H:=by have k:=h.r.r 0 _ U;have l:=h.r.r 2 _ U;have m:=h.r.M;have n:=fh.M h.C;have o:=h.r.r 1 _ U;have H:=ff h;go_enter í,è;go_wp2_with fail;go_quiet (fail);go_wp2_with fail;go_at_call 203;refine(zG ok (H.out.fL<|fc.iN _ _ _) (by first|omega|(simp;omega)) _).mono ?_;rintro e p ⟨rfl,q,b,d⟩;go_wp2_with fail;go_end0;exact⟨U,_,_,b,((Tr.fL<|fc.iN _ _ _).fg d)⟩
def ak8(ok:E.Ok)(h:R E i c x v zQ s a w)(f:zQ.length<=800)(g:c.y<8): Ô À 205 #[Å<|Ã ⟨i,0,Ä⟩,Â Ë 13] w λe H=>e=È (é #[])/\kJ E i x v a.length w c (zQ++[(c.y:Int)]) s a H:=by have j:=h.r.r 0 _ U;have k:=h.r.r 2 _ U;have l:=h.r.M;have m:=fh.M h.C;have H:=ff h;go_enter í,è;go_wp2_with fail;go_quiet (fail);go_wp2_with fail;go_at_call 203;refine(zG ok (H.out.fL<|fc.iN _ _ _) (by first|omega|(simp;omega)) _).mono ?_;rintro e n ⟨rfl,o,b,d⟩;go_wp2_with fail;go_end0;exact⟨U,_,_,b,((Tr.fL<|fc.iN _ _ _).fg d)⟩
def ak9(ok:E.Ok)(h:R E i c x v zQ s a w)(g:zQ.length<=800)(b:c.y<8): Ô À 205 #[Å<|Ã ⟨i,0,Ä⟩,Â Ë 14] w λe H=>e=È (é #[])/\kJ E i x v a.length w c (zQ++[(s c.y).fu]) s a H:=by have j:=h.r.r 0 _ U;have k:=h.r.r 2 _ U;have l:=h.r.M;have m:=fh.M h.C;have n:=h.C.fu b;have H:=ff h;go_enter í,è;go_wp2_with fail;go_quiet (fail);go_wp2_with fail;go_at_call 203;refine(zG ok (H.out.fL<|fc.iN _ _ _) (by first|omega|(simp;omega)) _).mono ?_;rintro e o ⟨rfl,p,d,f⟩;go_wp2_with fail;go_end0;exact⟨U,_,_,d,((Tr.fL<|fc.iN _ _ _).fg f)⟩
def ala(ok:E.Ok)(b:R E i c x v (zQ++[h]) s a w)(o:zQ.length<=800)(g:c.y<8)(d:fX h): Ô À 205 #[Å<|Ã ⟨i,0,Ä⟩,Â Ë 15] w λe f=>e=È (é #[])/\kJ E i x v a.length w c (zQ++[(s c.y).C (h%16).toNat]) s a f:=by have p:=b.r.r 0 _ U;have q:=b.r.r 2 _ U;have r:=b.r.M;have t:=fh.M b.C;have H:=ff b;go_enter í,è;go_wp2_with fail;go_quiet (fail);go_wp2_with fail;go_at_call 204;refine(nA ok (H.out.fL<|fc.iN _ _ _) (by first|omega|(simp;omega))).mono ?_;rintro e u ⟨rfl,z,f,k⟩;have B:=f.C.m_ g (j:=(h%16).toNat) Z;have C:=d.1;have D:=d.2;go_wp2_with fail;go_at_call 208;refine(n_ E.r (c.y*18) h d.1 d.2 _).mono ?_;rintro e l ⟨rfl,F⟩;subst l;go_wp2_with fail;go_at_call 203;refine(zG ok f (by first|omega|(simp;omega)) _).mono ?_;rintro e G ⟨rfl,I,m,n⟩;go_wp2_with fail;go_end0;exact⟨U,_,_,m,(((Tr.fL<|fc.iN _ _ _).fg k).fg n)⟩
def alb(ok:E.Ok)(b:R E i c x v ((zQ++[h])++[q]) s a w)(r:zQ.length<=800)(g:c.y<8)(d:fX q): Ô À 205 #[Å<|Ã ⟨i,0,Ä⟩,Â Ë 16] w λe f=>e=È (é #[])/\kJ E i x v a.length w c zQ (s.r c.y (q%16).toNat h) a f:=by have t:=b.r.r 0 _ U;have u:=b.r.r 2 _ U;have z:=b.r.M;have B:=fh.M b.C;have H:=ff b;go_enter í,è;go_wp2_with fail;go_quiet (fail);go_wp2_with fail;go_at_call 204;refine(nA ok (H.out.fL<|fc.iN _ _ _) (by first|omega|(simp;omega))).mono ?_;rintro e C ⟨rfl,D,k,l⟩;go_wp2_with fail;go_at_call 204;refine(nA ok k (by first|omega|(simp;omega))).mono ?_;rintro e F ⟨rfl,G,f,m⟩;have I:=f.C.m_ g (j:=(q%16).toNat) (by have:=d.1;omega);have J:=fh.C f.C<|c.y*18+2+(q%16).toNat;go_wp2_with fail;go_at_call 208;refine(n_ E.r (c.y*18) q d.1 d.2 _).mono ?_;rintro e n ⟨rfl,K⟩;subst n;go_wp2_with fail;go_end0;let⟨o,p⟩:=f.S ok (c.y*18+2+(q%16).toNat) (f.C.SN g (by have:=d.1;omega) h);exact⟨U,_,_,o,(((Tr.fL<|fc.iN _ _ _).fg l).fg m).fg p⟩
def alc(ok:E.Ok)(b:R E i c x v ((zQ++[h])++[q]) s a w)(u:zQ.length<=800)(j:c.y<8)(d:fX h)(f:fX q)(g:gI s): Ô À 205 #[Å<|Ã ⟨i,0,Ä⟩,Â Ë 18] w λe H=>e=È (é #[])/\kJ E i x v a.length w c (zQ++[(rT s c.y q h).1]) (rT s c.y q h).2 a H:=by have z:=b.r.r 0 _ U;have B:=b.r.r 2 _ U;have C:=b.r.M;have D:=fh.M b.C;have H:=ff b;go_enter í,è;go_wp2_with fail;go_quiet (fail);go_wp2_with fail;go_at_call 204;refine(nA ok (H.out.fL<|fc.iN _ _ _) (by first|omega|(simp;omega))).mono ?_;rintro e F ⟨rfl,G,k,l⟩;go_wp2_with fail;go_at_call 204;refine(nA ok k (by first|omega|(simp;omega))).mono ?_;rintro e I ⟨rfl,J,m,n⟩;go_wp2_with fail;go_at_call 209;refine(ak2 E ok i c _ v _ s a _ m q h f.1 f.2 d.1 d.2 j (g.fu _).1 (g.fu _).2).mono ?_;rintro e K ⟨rfl,o,p⟩;go_wp2_with fail;go_at_call 203;refine(zG ok o (by first|omega|(simp;omega)) _).mono ?_;rintro e L ⟨rfl,M,r,t⟩;go_wp2_with fail;go_end0;exact⟨U,_,_,r,(((((Tr.fL<|fc.iN _ _ _).fg l).fg n).fg p).fg t)⟩
def ald{k:Int}(ok:E.Ok)(b:R E i c x v ((zQ++[h])++[q]) s a w)(r:zQ.length<=800)(t:c.y<8)(d:fX h)(f:fX q)(u:2<=k)(z:k<=7): Ô À 205 #[Å<|Ã ⟨i,0,Ä⟩,Â Ë k] w λe H=>e=È (é #[])/\kJ E i x v a.length w c (zQ++[xK k h q]) s a H:=by
 have B:=b.r.r 0 _ U;have C:=b.r.r 2 _ U;have D:=b.r.M;have F:=fh.M b.C;have G:(k==8)=Ï:=by rw[beq_eq_false_iff_ne];omega
 have I:(k==9)=Ï:=by rw[beq_eq_false_iff_ne];omega
 have J:(k==10)=Ï:=by rw[beq_eq_false_iff_ne];omega
 have K:(k==11)=Ï:=by rw[beq_eq_false_iff_ne];omega
 have L:(k==12)=Ï:=by rw[beq_eq_false_iff_ne];omega
 have M:(k==13)=Ï:=by rw[beq_eq_false_iff_ne];omega
 have N:(k==14)=Ï:=by rw[beq_eq_false_iff_ne];omega
 have O:(k==15)=Ï:=by rw[beq_eq_false_iff_ne];omega
 have P:(k==16)=Ï:=by rw[beq_eq_false_iff_ne];omega
 have Q:(k==18)=Ï:=by rw[beq_eq_false_iff_ne];omega
 have S:(k==19)=Ï:=by rw[beq_eq_false_iff_ne];omega
 have T:(k==20)=Ï:=by rw[beq_eq_false_iff_ne];omega
 have H:=ff b;go_enter í,è;go_wp2_with fail;go_quiet (fail);go_wp2_with fail;go_at_call 204;refine(nA ok (H.out.fL<|fc.iN _ _ _) (by first|omega|(simp;omega))).mono ?_;rintro e V ⟨rfl,W,g,j⟩;go_wp2_with fail;go_at_call 204;refine(nA ok g (by first|omega|(simp;omega))).mono ?_;rintro e X ⟨rfl,Y,l,m⟩;go_wp2_with fail;go_at_call 211;refine(akU k h q d.1 d.2 f.1 f.2 _).mono ?_;rintro e n ⟨rfl,uB⟩;subst n;go_wp2_with fail;go_at_call 203;refine(zG ok l (by first|omega|(simp;omega)) _).mono ?_;rintro e w4 ⟨rfl,sv4,o,p⟩;go_wp2_with fail;go_end0;exact⟨U,_,_,o,((((Tr.fL<|fc.iN _ _ _).fg j).fg m).fg p)⟩
end
def MV{P:Program}{ops:Array Oper}{o:Oper}{a:Act}{w:World}{K:Act->World->Prop}{Q:Exit->Act->World->Prop}{E:Prop}{base:Nat}{e:TypeId}{size n:Nat}{v:Value}{xs:List Value} (hg:o.guard=none) (s x:Operand) (t:TypeId) (vn:o.op=Op.call {callee:=Callee.builtin Builtin.append,args:=#[s,x],argTypes:=#[t,t]}) {i:TypeInfo} {z:Value} {bytes:Nat} (ht:P.underlying t=some (.slice e)) (hi:P.info? e=some i) (hz:i.zero=some z) (xF:i.size=size) (xG:i.bytes=bytes) (rO:z.cells.size=size) (hs:a.eval s=v) (lD:w.ownsRow base e size v n xs) (ad:Addr) {m c:Nat} (news:List Value) (hx:a.eval x=.slice (some ad) m c) (hm:0<m) (hl:news.length=m*size) (SJ:∀j u,news[j]?=some u->w.cell? (ad.add j)=some u) (h1:∀u∈news,u.oneCell'=true) (Dg:n+m<=maxLen) (Dh:(n+m)*bytes<=140737488355328) (xH:base<=w.heap.size) (h:∀v' w',qk w base e size v n xs m news v' w'->K (a.put o.dst v') w') (hfl:mb e=false\/(0<news.length/\(∀u∈xs++news,kh u=true)/\∀u∈z.cells.toList,kh u=true):=by first|exact Or.inl (by decide)|exact Or.inr ⟨by simp,by simp[kh],by simp[kh,Value.cells]⟩): if Region.wanted o (yielded ops a.tmps)=true then Oper.wp P o a w K Q else E:=by
 have hw:ħ o (aF ops a.tmps)=Ý:=by simp[ħ,hg]
 rw[if_pos hw];let⟨v',w',hr,h2⟩:=SF (ty:=o.type) ht hi hz xF xG rO lD ad c news hm hl SJ h1 Dg Dh xH hfl;unfold Ŏ;simp[į,vn,aC,bk,aD,hs,hx,hr,Ľ];exact h v' w' h2
def ale:(À.info? 257).map (λi=>(i.zero,i.size,i.bytes))=Ã (Ã<|ė #[Â Ë 0,Â Æ 0],2,16):=ft
def q'(b:List (Nat×Int)):∀u∈ki b,kh u=Ý:=λu a=>by unfold ki at a;let⟨e,_,h⟩:=Ν.1 a;simp[SK,qm]at h;rcases h with rfl|rfl<;>rfl
section
variable{E:iU}{c:RC}{g d:Ç}{s:St}{ls:List (Nat×Int)}{p:Int}
def R.alf(ok:E.Ok)(h:R E k c g jQ zQ s ls w)(a:qk w 0 257 2 jQ ls.length (ki ls) 1 [Â Ë b,Â Æ p] d W): (R E k c g jQ zQ s ls W/\W.ownsRow 0 257 2 d (ls++[(b,p)]).length (ki<|ls++[(b,p)]))/\ R E k c g d zQ s (ls++[(b,p)]) (W.setCell ⟨E.r,144,Ä⟩ d)/\Tr E k g jQ ls.length w g d (ls++[(b,p)]).length (W.setCell ⟨E.r,144,Ä⟩ d):=by
 have m:∀{i:Nat} {o:Array Ç} {T:ú},jQ.ownBlock=Ã i->w.heap[i]?=Ã (Ð o T (0,0))->T=257:=λ{i o T} q hc=>by let⟨l,e⟩:=lF h.M q;rw[hc]at e;cases e;rfl
 have f:R E k c g jQ zQ s ls W:=⟨h.r.I a.r λq=>absurd (m q h.r) A,ic h.I a.r (λj q r=>by let⟨l,e⟩:=lF h.I q;exact absurd (m r e) A),h.C.I a.r λq=>ok.r<|m q h.C,a.I _ _ _ h.M λ_=>ß _⟩;have n:W.ownsRow 0 257 2 d (ls++[(b,p)]).length (ki<|ls++[(b,p)]):=by have:=a.fq;rwa[show ki ls++[Â Ë b,Â Æ p]=ki (ls++[(b,p)]) by simp[ki,SK,qm],show ls.length+1=(ls++[(b,p)]).length by simp]at this
 have l:=fc.I (X:=λe=>e=E.r) (p:=⟨E.r,144,Ä⟩) U d<|Ü<|fh.G f.C ok.C;refine⟨⟨f,n⟩,⟨f.r.I l (fh.S f.C f.r ok.I).symm,ic f.I l λj q r=>jA f.I f.C ok.M.symm (by rw[q,r]),f.C.akQ d,ic n l λj q r=>jA n f.C ok.r.symm<|by rw[q,r]⟩,?_,λj q=>Û q,λj q=> ?_,λx y z t u=> ?_⟩
 .refine(a.r.S λe _ q=>Ü<|Ü<|Ü q).C l λi _ q=>Û q
 .rcases a.C with e|e
  .exact Û<|by rwa[<-e]
  .rw[e]at q;cases q;exact Ü<|ß _
 .have v:=a.I x y z t u;refine⟨ic v l λj q r=>jA v f.C ok.r.symm (by rw[q,r]),λq=> ?_⟩;rcases a.C with e|e
  .have:=u (by rw[q,e]);simp;omega
  .rw[e]at q;have:=(t.lt _ q).2;omega
end
def gi{f:(Nat->Value)->Act}(a:Act)(h:a=f (λn=>a.tmps.getD n undef):=by rfl):∃u,a=f u:=⟨_,h⟩
section
variable{md:ε}{ops:Array Ů}{Q:bq->ë->É->Prop}{S:É->Prop}{X:List Nat}
def oN(P:aV)(md:ε)(ops:Array Ů)(Q:bq->ë->É->Prop)(S:É->Prop)(X:List Nat):Nat->Array Bool->ë->É->Prop
 |0,listed,a,w=>Ć md ops listed=[]/\Q .normal a w
 |fuel+1,listed,a,w=>(Ć md ops listed=[]->Q .normal a w)/\
  ∀i∈Ć md ops listed,wpOp P ops Q i (λc b=>(i∉X->S b)/\oN P md ops Q S X fuel (listed.setIfInBounds i Ý) c b) a w
def r_:∀(b:Nat) (listed:Array Bool) (a:ë) (w:É),oN P md ops Q S X b listed a w->wpAny P md ops Q b listed a w
 |0,_,_,_,h=>h
 |b+1,_,_,_,h=>⟨h.1,λi c=>wpOp_mono (λd e q=>r_ b _ d e q.2)<|h.2 i c⟩
def rD(md:ε)(ops:Array Ů)(X:List Nat)(i:Nat):Bool:=X.all λx=>match ops[x]? with
 |some o=>o.after.toList.any λe=>Ő md e&&e.on==i
 |none=>Ý
def alg{listed:Array Bool}(d:rD md ops X i=Ý)(f:ops[j]?=Ã o)(g:listed.getD i Ï=Ï)(h:∀e∈o.after,Ő md e=Ý->listed.getD e.on Ï=Ý):j∉X:=by intro k;have b:=List.all_eq_true.1 d j k;simp only[f]at b;let⟨e,l,a⟩:=List.any_eq_true.1 b;simp only[Bool.and_eq_true,beq_iff_eq]at a;have c:=h e (Ŧ.1 l) a.1;rw[a.2,g]at c;cases c
def alh{m:Ů}(x:ops[i]?=Ã m)(y:∀(j:Nat) (o:Ů) n b,ops[j]?=Ã o->o.op≠.select n b)(G:rD md ops X i=Ý) (I:∀c a w,Q (.panic c) (a.put m.dst v) w->Q (.panic c) a w): ∀(p:Nat) (d:Array Bool) (a:ë) (w:É),(∀j l,ops[j]?=Ã l->j≠i->d.getD j Ý=Ï->(∀e∈l.after,Ő md e=Ý->e.on≠i)->m.apart ops l=Ý)-> i∈Ć md ops d->YieldsIf P ops S m v a->S w->oN P md ops Q S X p (d.setIfInBounds i Ý) (a.put m.dst v) w->oN P md ops Q S X (p+1) d a w:=by
 have z:∀{d:Array Bool},i∈Ć md ops d->d.getD i Ï=Ï:=λ{d} f=>by
  have h:=(mem_ready.1 f).1;rcases ğ i d.size with g|g
  .simp[g]at h|-;exact h
  .simp[ñ g]
 intro p
 induction p with
 |zero=>
  intro d a w _ f s r H;refine⟨λh=>absurd (h▸f) fj,λj t=> ?_⟩;by_cases g:j=i
  .subst g;exact s.wpOp x r ⟨λ_=>r,H⟩
  .exact absurd (H.1▸σ t g) fj
 |succ p J=>
  intro d a w B f s r H;refine⟨λh=>absurd (h▸f) fj,λj t=> ?_⟩;by_cases g:j=i
  .subst g;exact s.wpOp x r ⟨λ_=>r,H⟩
  .let⟨C,l,u,D⟩:=mem_ready.1 t;have K:∀e∈l.after,Ő md e=Ý->e.on≠i:=λe L M N=>by
    have:=D e L M;rw[N,z f]at this;cases this
   refine wpOp_mono (λF O q=>⟨q.2.1,J (d.setIfInBounds j Ý) F O (λk T V W E Y=>B k T V W ?_ Y) (σ f<|Ne.symm g) q.1 (q.2.1<|alg G u (z f) D) ?_⟩)<|wpOp_putIf u (B j l u g C K) (λn b=>y i m n b x) (λn b=>y j l n b u) I s<|H.2 j<|σ t g
   .by_cases F:j=k
    .subst F;exact C
    .rwa[getD_set_ne Ý F]at E
   .rw[Array.setIfInBounds_comm _ _ g];exact q.2.2
def Ja{oi:Ů}{listed:Array Bool}(b:ops[i]?=Ã oi) (d:Region.noSelect ops=Ý) (e:Region.free md ops listed i=Ý) (f:(Ć md ops listed).contains i=Ý) (g:rD md ops X i=Ý) (j:∀c y w,Q (.panic c) (y.put oi.dst v) w->Q (.panic c) y w) (k:S w) (l:YieldsIf P ops S oi v y) (h:oN P md ops Q S X n (listed.setIfInBounds i Ý) (y.put oi.dst v) w):oN P md ops Q S X (n+1) listed y w:= alh b (Region.noSelect_spec d) g j n listed y w (Region.free_spec b e) (by simpa using f) l k h
def ali{listed:Array Bool}(c:Ć md ops listed=[i])(e:ops[i]?=Ã o) (h:∀b:ë->É->Prop,Shut (∀y w,(i∉X->S w)->oN P md ops Q S X n (listed.setIfInBounds i Ý) y w->b y w)->if ħ o (aF ops y.tmps)=Ý then Ŏ P o y w b Q else b (y.put o.dst Ĉ) w):oN P md ops Q S X (n+1) listed y w:=by
 refine⟨λq=>absurd (c▸q) fj,λj d=> ?_⟩;rw[c]at d;have:j=i:=by simpa using d
 subst this;exact az e λb f=>h b λy w g k=>f y w ⟨g,k⟩
def ix:List Ů->Nat->Option Ů
 |[],_=>Ä
 |o::_,0=>Ã o
 |_::l,n+1=>ix l n
def t_:∀{l:List Ů} {i:Nat} {o:Ů},ix l i=Ã o->l.toArray[i]?=Ã o
 |[],_,_,h=>by cases h
 |o::l,0,_,h=>by simpa[ix]using h
 |o::l,n+1,_,h=>by simpa using t_ (l:=l) h
def u_(h:ix ops.toList i=Ã o):ops[i]?=Ã o:=by simpa using t_ h
def tk(i:Nat){oi:Oper}{v:Value}{fuel:Nat}{listed:Array Bool}{a0 a a':Act}{w:World}(hS:S w)(h:oN P md ops Q S X fuel (listed.setIfInBounds i true) a' w) (h0:a0=a:=by(try simp only[Act.put,List.setIfInBounds_toArray,List.set_cons_zero,List.set_cons_succ]);rfl) (hi:ix ops.toList i=some oi:=by rfl) (hs:Region.noSelect ops=true:=by kernel_rfl) (hf:Region.free md ops listed i=true:=by kernel_rfl) (hr:(Region.ready md ops listed).contains i=true:=by kernel_rfl) (hw:rD md ops X i=true:=by kernel_rfl) (hQ:∀v c a w,Q (.panic c) (a.put oi.dst v) w->Q (.panic c) a w:=by exact λ_ _ _ _ h=>h) (hn:Region.wanted oi (yielded ops a.tmps)=true:=by rfl) (hy:∀w,S w->(execOp a.eval oi).run P w=.ok (.value v) w:=by intro w h;revert h;simp only[and_imp];intros;go_simp;try(with_reducible rfl)) (ha:a.put oi.dst v=a':=by(try simp only[Act.put,List.setIfInBounds_toArray,List.set_cons_zero,List.set_cons_succ]);rfl):oN P md ops Q S X (fuel+1) listed a0 w:= h0▸Ja (u_ hi) hs hf hr hw (hQ v) hS (Û ⟨hn,hy⟩) (ha▸h)
def gD(i:Nat){o:Oper}{fuel:Nat}{listed:Array Bool}{a0 a:Act}{w:World} (h:∀K':Act->World->Prop,Shut (∀a w,(i∉X->S w)->oN P md ops Q S X fuel (listed.setIfInBounds i true) a w->K' a w)->if Region.wanted o (yielded ops a.tmps)=true then Oper.wp P o a w K' Q else K' (a.put o.dst undef) w) (h0:a0=a:=by(try simp only[Act.put,List.setIfInBounds_toArray,List.set_cons_zero,List.set_cons_succ]);rfl) (hr:Region.ready md ops listed=[i]:=by kernel_rfl) (ho:ix ops.toList i=some o:=by rfl):oN P md ops Q S X (fuel+1) listed a0 w:=h0▸ali hr (u_ ho) h
def alj{oi oj:Ů}{listed:Array Bool}(g:Ć md ops listed=[i,j])(h:ops[i]?=Ã oi)(l:ops[j]?=Ã oj) (m:∀b:ë->É->Prop,Shut (∀y w,(i∉X->S w)->oN P md ops Q S X n (listed.setIfInBounds i Ý) y w->b y w)->if ħ oi (aF ops y.tmps)=Ý then Ŏ P oi y w b Q else b (y.put oi.dst Ĉ) w) (o:∀b:ë->É->Prop,Shut (∀y w,(j∉X->S w)->oN P md ops Q S X n (listed.setIfInBounds j Ý) y w->b y w)->if ħ oj (aF ops y.tmps)=Ý then Ŏ P oj y w b Q else b (y.put oj.dst Ĉ) w):oN P md ops Q S X (n+1) listed y w:=by
 refine⟨λq=>absurd (g▸q) fj,λk c=> ?_⟩;rw[g]at c;rcases List.mem_cons.1 c with rfl|c
 .exact az h λb d=>m b λy w e f=>d y w ⟨e,f⟩
 .have:k=j:=by simpa using c
  subst this;exact az l λb d=>o b λy w e f=>d y w ⟨e,f⟩
def lS{listed:Array Bool}(b:Ć md ops listed=[])(h:Q .normal y w):∀c,oN P md ops Q S X c listed y w
 |0=>⟨b,h⟩
 |_+1=>⟨λ_=>h,by rw[b];simp⟩
def mf{id:Nat}(S:É->Prop)(X:List Nat)(b:P.follows .mixedOrders=Ý) (h:oN P .any ops Q S X ops.size (ř ops.size Ï) y w.drew):(Code.region id ops Ý).wp P Q y w:= wp_region_any b<|r_ _ _ _ _ h
end
section
variable{E:iU}{c:RC}{s:St}{a:List (Nat×Int)}
def alk(ok:E.Ok)(b:R E i c x v (zQ++[h]) s a w)(G:zQ.length<=800)(I:c.y<8)(J:a.length<=1000000): Ô À 205 #[Å<|Ã ⟨i,0,Ä⟩,Â Ë 19] w λe u=>e=È (é #[])/\kJ E i x v a.length w c zQ s (a++[(c.y,h)]) u:=by
 have L:w.cell? ⟨i,0,Ä⟩=Ã (Å<|Ã ⟨E.r,0,Ä⟩):=b.r.r 0 _ U;have M:w.cell? ⟨i,2,Ä⟩=Ã (Â Ë c.y):=b.r.r 2 _ U;have N:=b.r.M;have O:=fh.M b.C;let⟨P,o,p,r,t⟩:=ò ale;have k:=ff<|Á o<|Á p<|Á r t;have H:=ff b;clear b o p r t;go_enter í,è;go_wp2_with fail;go_quiet (fail);go_wp2_with fail;have f:=ff<|Á ((H.out.fL<|(fc.iN _ _ nq).fg<|fc.fR _ _).r.r 0 _ rfl)<|Á ((H.out.fL<|(fc.iN _ _ nq).fg<|fc.fR _ _).r.r 2 _ rfl) (H.out.fL<|(fc.iN _ _ nq).fg<|fc.fR _ _).C.Di;refine mf (λu=>u.cell? ⟨i,0,Ä⟩=Ã (Å<|Ã ⟨E.r,0,Ä⟩)/\u.cell? ⟨i,2,Ä⟩=Ã (Â Ë c.y)/\u.cell? ⟨E.r,144,Ä⟩=Ã v) [22] ft ?_;refine tk 0 f.out ?_;refine tk 1 f.out ?_;refine tk 2 f.out ?_;refine tk 3 f.out ?_;refine tk 4 f.out ?_;refine tk 5 f.out ?_;refine tk 6 f.out ?_;refine tk 7 f.out ?_;refine tk 8 f.out ?_;refine tk 9 f.out ?_;refine tk 10 f.out ?_;refine tk 11 f.out ?_;refine tk 12 f.out ?_;refine tk 13 f.out ?_;refine tk 14 f.out ?_;refine tk 15 f.out ?_;refine gD 16 ?_;intro K d;go_simp;go_at_call 204;refine(nA ok (H.out.fL<|fc.iN _ _ _) Z).mono ?_;rintro e z ⟨rfl,Q,g,C⟩;dsimp only;refine d.out _ _ (λ_=>⟨g.r.r 0 _ U,g.r.r 2 _ U,g.C.Di⟩) ?_;clear d K;refine gD 17 ?_;intro K d;go_simp;refine d.out _ _ (λ_=>⟨g.r.r 0 _ U,g.r.r 2 _ U,g.C.Di⟩) ?_;clear d K;have j:=g.fL (fc.gE (λ_=>False) z #[Â Ë c.y,Â Æ h] 257);refine gD 18 ?_;intro K d;go_simp;refine d.out _ _ (λ_=>⟨j.r.r 0 _ U,j.r.r 2 _ U,j.C.Di⟩) ?_;clear d K;refine gD 19 ?_;intro K d;refine MV (hfl:=Ü ⟨fj,λu l=>(ā.1 l).elim (q' a u) (λq=>by simp at q;rcases q with rfl|rfl<;>rfl),by simp[kh,ī]⟩) (base:=0) (n:=a.length) (xs:=ki a) (m:=1) fP _ _ 142 fP Tryz.underlying142 k.out.1 k.out.2.1 k.out.2.2.1 k.out.2.2.2 U fP j.M ⟨z.heap.size,0,Ä⟩ [Â Ë c.y,Â Æ h] fP Z U (ž _ _ _ _) (λu l=>by simp at l;rcases l with rfl|rfl<;>rfl) (by unfold Č;omega) Z (å _) ?_;intro S T l;obtain⟨V,W,rfl⟩:=jh l.fq;let⟨⟨u,_⟩,D,F⟩:=j.alf ok l;refine d.out _ _ (λ_=>⟨u.r.r 0 _ U,u.r.r 2 _ U,u.C.Di⟩) ?_;clear d K;have B:=u.C.Di;have X:=fh.C u.C 144;refine gD 20 ?_;intro K d;go_simp;refine d.out _ _ (λ_=>⟨u.r.r 0 _ U,u.r.r 2 _ U,B⟩) ?_;clear d K;refine gD 21 ?_;intro K d;go_simp;refine d.out _ _ (λ_=>⟨u.r.r 0 _ U,u.r.r 2 _ U,B⟩) ?_;clear d K;refine gD 22 ?_;intro K d;go_simp;refine d.out _ _ (λq=>absurd fj q) ?_;clear d K;try simp only[ł,Õ,æ,ç]
 refine lS ft ?_ _;go_wp2_with fail;go_end0;exact⟨U,_,_,D,(((Tr.fL<|(fc.iN _ _ _).fg<|fc.fR _ _).fg C).fg<|Tr.fL<|fc.gE _ _ _ _).fg F⟩
end
structure RT where
 r:List Int
 s:St
 C:List (Nat×Int)
 g:Int
def iY(F:me)(c:RC)(t:RT)(q p k:Int):Int×Int×RT:=
 if c.d=4 then(0,0,t)else
  ((F t.s t.C c.y (q%8).toNat (min p t.g) k).I,xI (F t.s t.C c.y (q%8).toNat (min p t.g) k).C,
    {t with s:=(F t.s t.C c.y (q%8).toNat (min p t.g) k).s,C:=(F t.s t.C c.y (q%8).toNat (min p t.g) k).M,g:=t.g-(F t.s t.C c.y (q%8).toNat (min p t.g) k).r})
def fV(l:List Int):List Int:=l.dropLast
def re(F:me)(c:RC)(a:Nat)(t:RT):RT:=
 if a=8 then{t with r:=fV t.r++[gd t.r,gd t.r]}
 else if a=9 then{t with r:=fV (fV t.r)++[gd t.r,gd<|fV t.r]}
 else if a=10 then{t with r:=fV t.r}
 else if a=11 then{t with r:=t.r++[c.k]}
 else if a=12 then{t with r:=t.r++[(c.x:Int)]}
 else if a=13 then{t with r:=t.r++[(c.y:Int)]}
 else if a=14 then{t with r:=t.r++[(t.s c.y).fu]}
 else if a=15 then{t with r:=fV t.r++[(t.s c.y).C (gd t.r%16).toNat]}
 else if a=16 then{t with r:=fV<|fV t.r,s:=t.s.r c.y (gd t.r%16).toNat (gd<|fV t.r)}
 else if a=18 then{t with r:=fV (fV t.r)++[(rT t.s c.y (gd t.r)<|gd<|fV t.r).1],s:=(rT t.s c.y (gd t.r)<|gd<|fV t.r).2}
 else if a=19 then{t with r:=fV t.r,C:=t.C++[(c.y,gd t.r)]}
 else if a=20 then
  {(iY F c t (gd t.r) (gd<|fV t.r)<|gd<|fV<|fV t.r).2.2 with r:=fV (fV<|fV t.r)++[(iY F c t (gd t.r) (gd<|fV t.r)<|gd<|fV<|fV t.r).1,(iY F c t (gd t.r) (gd<|fV t.r)<|gd<|fV<|fV t.r).2.1]}
 else{t with r:=fV (fV t.r)++[xK a (gd<|fV t.r)<|gd t.r]}
structure w_(ls:List (Nat×Int))(g:Int)(e:Dk):Prop where
 C:0<=e.r
 r:e.r<=g
 N:gI e.s
 M:fX e.I
 I:(e.M.length:Int)<=ls.length+e.r
def oO(F:me):Prop:=∀s a x y g k,gI s->x<8->y<8->fX k->0<=g->g<=100000->(a.length:Int)+g<=1000000->w_ a g (F s a x y g k)
def tf(F:me)(d:Int):Prop:=∀(E:iU),E.Ok->∀(s:St) (b:Ç) (a:List (Nat×Int)) (x y:Nat) (g k:Int) (w:É),iB E.r E.T E.C s b w->w.ownsRow 0 257 2 b a.length (ki a)->iK w->gI s->x<8->y<8->0<=g->g<=100000->fX k->(a.length:Int)+g<=1000000->
 Ô À 173 #[Å<|Ã ⟨E.r,0,Ä⟩,Â Ë x,Â Ë y,Â Æ g,Â Æ k,Â Ë d] w λe c=>
  e=È (ė #[Â Æ (F s a x y g k).r,Ò (F s a x y g k).C,Â Æ (F s a x y g k).I])/\∃f,im E b a.length w (F s a x y g k).s (F s a x y g k).M c f
section
variable{E:iU}{rb:Nat}{c:RC}{sv lv:Ç}{s b:St}{ls a:List (Nat×Int)}{q p:Int}
def R.xM(ok:E.Ok)(d:R E rb c sv lv zQ s ls w)(r:im E lv ls.length w b a u v):R E rb c sv v zQ b a u/\Tr E rb sv lv ls.length w sv v a.length u:=by
 have i:∀{j:Nat} {k:Array Ç} {T:ú},w.heap[j]?=Ã (Ð k T (0,0))->T≠E.T->T≠257->¬(j=E.r\/lv.ownBlock=Ã j):=λ{j k T} f h1 h2=>by
  rintro(e|e)
  .rw[e,d.C]at f;cases f;exact h1 U
  .let⟨m,g⟩:=lF d.M e;rw[f]at g;cases g;exact h2 U
 refine⟨⟨d.r.I r.C<|i d.r ok.I.symm A,ic d.I r.C λj f=> ?_,r.r,r.I⟩,r.C.S λh _ q=>q.elim Û λq=>Ü<|Ü<|Ü q,λj q=>Û q,r.l,r.M⟩;let⟨m,g⟩:=lF d.I f;exact i g ok.M.symm A
def alm(ok:E.Ok)(a:R E rb c sv lv zQ s ls w)(b:c.d=4): Ô À 210 #[Å<|Ã ⟨rb,0,Ä⟩,Â Æ q,Â Æ p,Â Æ h] w λe u=>e=È (é #[Â Æ 0,Â Æ 0])/\u=w:=by
 have e:w.cell? ⟨rb,4,Ä⟩=Ã (Â Ë 4):=by have:=a.r.r 4 (Â Ë c.d) U;rwa[b]at this
 go_enter aG,ψ;go_wp2_with fail;go_ret2;exact⟨U,U⟩
end
section
variable{E:iU}{c:RC}{w':É}{s f:St}{a l:List (Nat×Int)}{q p:Int}{F:me}
def aln(E:iU)(n:Nat)(c:RC)(jQ x:Ç)(zQ:List Int)(a:List (Nat×Int))(w W:É)(r:Dk)(w':É):Prop:=
 ∃z,im E x a.length W r.s r.M w' z/\R E n c jQ z zQ r.s r.M w'/\Tr E n jQ x a.length w jQ z r.M.length w'
def alo(p g:Int):(if g<p then g else p)=min p g:=by rw[Int.min_def];split<;>split<;>omega
def Jb(a:0<=h)(b:h<9223372036854775808):Ë.wrap h=h:=by show(if(Ë.signed&&decide (h%(2^64:Int)≥(2^63:Int)))=Ý then h%(2^64:Int)-2^64 else h%(2^64:Int))=h;rw[(Int.emod_eq_of_lt a Z),if_neg];simp;omega
def alp{q:Int}(h:fX q):Ë.wrap (q.tmod 8)=((q%8).toNat:Int):=by
 rw[Int.tmod_eq_emod_of_nonneg h.1];have:Ë.wrap (q%8)=q%8:=by exact Jb Z Z
 rw[this];omega
def alq(a:0<=h)(b:h<4):Ë.wrap (h+1)=h+1:=by exact Jb Z Z
def vB(ok:E.Ok)(b:R E n c jQ x zQ s a w)(j:0<=c.d)(k:c.d<4)(hF:tf F (c.d+1))(l:iK w)(m:gI s)(o:c.y<8)(i:fX q)(t:fX p)(u:fX h)(C:0<=c.g)(D:c.g<=100000)(G:(a.length:Int)+c.g<=1000000)(W:É)(kW:fc (λ_=>False) w W): Ô À 173 #[Å<|Ã ⟨E.r,0,Ä⟩,Â Ë c.y,Â Ë<|Ë.wrap<|q.tmod 8,Â Æ<|min p c.g,Â Æ h,Â Ë<|Ë.wrap<|c.d+1] W λe w'=>
  e=È (ė #[Â Æ (F s a c.y (q%8).toNat (min p c.g) h).r,Ò (F s a c.y (q%8).toNat (min p c.g) h).C,Â Æ (F s a c.y (q%8).toNat (min p c.g) h).I])/\aln E n c jQ x zQ a w W (F s a c.y (q%8).toNat (min p c.g) h) w':=by
 have f:=b.fL kW;rw[alp i,alq j k];have H:=t.1;have I:=i.1;refine(hF E ok s x a c.y (q%8).toNat (min p c.g) h W f.C f.M (l.r kW id) m o Z Z Z u Z).mono ?_;rintro e w' ⟨rfl,z,r⟩;let⟨v,B⟩:=f.xM ok r;exact⟨U,z,r,v,(Tr.fL kW).fg B⟩
def alr{b:List Ç}(h:R E n c jQ x zQ s a w)(r:im E x i (đ<|Ċ w<|Ð b.toArray T) f l u z):fh w.heap.size b T u:=by
 refine fh.I (w:=đ<|Ċ w<|Ð b.toArray T) (fh.N w b T) r.C ?_;rintro(e|e)
 .have:=fh.M h.C;omega
 .have:=(h.M.lt _ e).2;omega
def SS{f:List Ç}{jZ:Ç}(ok:E.Ok)(d:R E n c jQ x zQ s a u)(t:Tr E n jZ z b w jQ x k u)(m:w.heap.size<=j)(e:fh j f 252 u)(i:Nat)(v:Ç): R E n c jQ x zQ s a (u.setCell ⟨j,i,Ä⟩ v)/\Tr E n jZ z b w jQ x k (u.setCell ⟨j,i,Ä⟩ v)/\fh j (f.set i v) 252 (u.setCell ⟨j,i,Ä⟩ v):=by have g:fc (λh=>h=j) u (u.setCell ⟨j,i,Ä⟩ v):=fc.I (X:=λh=>h=j) (p:=⟨j,i,Ä⟩) U v<|Ü e.G;refine⟨d.ak0 ok e g,t.akZ g (λi q=>by omega) λi o q l=> ?_,e.fZ i v⟩;unfold fh at e;rw[q,e]at l;cases l
def als(ok:E.Ok)(f:R E n c jQ x zQ s a w)(oH:0<=c.d)(hd:c.d<4)(hF:tf F (c.d+1))(hI:oO F)(hr:iK w)(P:gI s)(hx:c.x<8)(hy:c.y<8)(Q:fX q)(S:fX p)(hk:fX h)(ua:0<=c.g)(uH:c.g<=100000)(hlen:(a.length:Int)+c.g<=1000000): Ô À 210 #[Å<|Ã ⟨n,0,Ä⟩,Â Æ q,Â Æ p,Â Æ h] w λe w'=>e=È (é #[Â Æ (F s a c.y (q%8).toNat (min p c.g) h).I,Â Æ<|xI (F s a c.y (q%8).toNat (min p c.g) h).C])/\kJ E n jQ x a.length w {c with g:=c.g-(F s a c.y (q%8).toNat (min p c.g) h).r} zQ (F s a c.y (q%8).toNat (min p c.g) h).s (F s a c.y (q%8).toNat (min p c.g) h).M w':=by
 have c0:w.cell? ⟨n,0,Ä⟩=Ã (Å<|Ã ⟨E.r,0,Ä⟩):=f.r.r 0 _ U;have c2:w.cell? ⟨n,2,Ä⟩=Ã (Â Ë c.y):=f.r.r 2 _ U;have c4:w.cell? ⟨n,4,Ä⟩=Ã (Â Ë c.d):=f.r.r 4 _ U;have c5:w.cell? ⟨n,5,Ä⟩=Ã (Â Æ c.g):=f.r.r 5 _ U;have gJ:=f.r.M;have Me:=fh.M f.C;have hq0:=Q.1;have CO:=Q.2;have SU:=S.1;have hp1:=S.2;have call:=vB ok f oH hd hF hr P hy Q S hk ua uH hlen;have T:=hI s a c.y (q%8).toNat (min p c.g) h P hy Z hk Z Z Z;have M:=T.C;have N:=T.r;clear T;generalize F s a c.y (q%8).toNat (min p c.g) h=r at*;have H:=ff<|Á f<|Á call<|Á M N;have SV:(c.d==4)=Ï:=by rw[beq_eq_false_iff_ne];omega
 clear f hr P hlen call M N;go_enter aG,ψ;go_wp2_with fail;have k:=ff<|Á ((H.out.1.fL<|fc.fR _ _).r.r 0 _ rfl)<|Á ((H.out.1.fL<|fc.fR _ _).r.r 2 _ rfl)<|Á ((H.out.1.fL<|fc.fR _ _).r.r 4 _ rfl)<|(H.out.1.fL<|fc.fR _ _).r.r 5 _ rfl;refine mf (λw'=>w'.cell? ⟨n,0,Ä⟩=Ã (Å<|Ã ⟨E.r,0,Ä⟩)/\w'.cell? ⟨n,2,Ä⟩=Ã (Â Ë c.y)/\w'.cell? ⟨n,4,Ä⟩=Ã (Â Ë c.d)/\w'.cell? ⟨n,5,Ä⟩=Ã (Â Æ c.g)) [25] ft ?_;refine tk 0 k.out ?_;refine tk 1 k.out ?_;refine tk 2 k.out ?_;refine tk 3 k.out ?_;refine tk 4 k.out ?_;refine tk 5 k.out ?_;refine tk 6 k.out ?_;refine tk 7 k.out ?_;refine tk 8 k.out ?_;refine tk 9 k.out ?_;refine tk 10 k.out ?_;refine tk 11 k.out ?_;refine tk 12 k.out ?_;refine tk 13 k.out ?_;refine tk 14 k.out ?_;refine tk 15 k.out ?_;refine Ja (i:=16) (oi:={dst:=Ã 32,op:=aU {callee:=Go.Callee.builtin bK,args:=#[ó 27,ó 31],argTypes:=#[36,36]},type:=36,pos:= "run.go:186",after:=#[{on:=11,ground:=ô},{on:=15,ground:=ô}],guard:=Ä}) (v:=Â Æ<|min p c.g) U ft ft ft ft (λ_ _ _ f=>f) k.out (Û ⟨fP,?alu⟩) ?atM
 case alu=>(intro w hSw;let⟨q0,q2,q4,q5⟩:=hSw;go_simp<;>rw[alo])
 refine tk 17 k.out ?_;refine tk 18 k.out ?_;refine tk 19 k.out ?_;refine tk 20 k.out ?_;refine tk 21 k.out ?_;refine tk 22 k.out ?_;refine alj (i:=23) (j:=24) (oi:={dst:=Ã 39,op:=aU {callee:=Go.Callee.value<|bF 173,args:=#[ó 19,ó 23,ó 26,ó 32,ó 33,ó 38],argTypes:=#[267,3,3,36,36,3]},type:=252,pos:= "run.go:186",after:=#[{on:=3,ground:=ô},{on:=7,ground:=ô},{on:=10,ground:=ô},{on:=16,ground:=ô},{on:=17,ground:=ô},{on:=22,ground:=ô}],guard:=Ä}) (oj:={dst:=Ã 10,op:=bG 252,type:=0,pos:= "run.go:186",after:=#[],guard:=Ä}) ft U U ?_ ?_
 .intro K l;go_simp;go_at_call 173;refine(H.out.2.1 _ kp).mono ?_;rintro e z ⟨rfl,zv,O,o,D⟩;dsimp only;refine l.out _ _ (λ_=>⟨o.r.r 0 _ U,o.r.r 2 _ U,o.r.r 4 _ U,o.r.r 5 _ U⟩) ?_;clear l K;have G:=o.fL (fc.gE (λ_=>False) z #[Â Æ 0,Ò Ï,Â Æ 0] 252);refine gD 24 ?_;intro K l;go_simp;refine l.out _ _ (λ_=>⟨G.r.r 0 _ U,G.r.r 2 _ U,G.r.r 4 _ U,G.r.r 5 _ U⟩) ?_;clear l K;refine gD 25 ?_;intro K l;go_simp;refine l.out _ _ (λq=>absurd fj q) ?_;clear l K;try simp only[ł,Õ,æ,ç]
  refine lS ft ?_ _;have V:=fc.gE (λ_=>False) z #[Â Æ r.r,Ò r.C,Â Æ r.I] 252;have t:=o.fL V;have I:=D.fg<|Tr.fL V;have m:fh z.heap.size [Â Æ r.r,Ò r.C,Â Æ r.I] 252 _:=fh.N z _ 252;generalize Ċ z (Ð #[Â Æ r.r,Ò r.C,Â Æ r.I] 252)=W at*;generalize z.heap.size=b at*;clear G V o D O;have v0:=m.r 0 _ U;have X:=m.r 1 _ U;have Y:=m.r 2 _ U;have z5:W.cell? ⟨n,5,Ä⟩=Ã (Â Æ c.g):=t.r.r 5 _ U;have y5:=t.r.C 5;have zl:=t.r.M;have zb:=m.M;have M:=H.out.2.2.1;have N:=H.out.2.2.2;have J:=fh.S t.r m A;have y1:=(I2 (w:=W) (i:=5) (u:=Â Æ<|c.g-r.r) J).trans X;have y2:=(I2 (w:=W) (i:=5) (u:=Â Æ<|c.g-r.r) J).trans Y;have C:=ff<|Á t I;clear t I m k;go_wp2_with fail;go_region;go_wp2_with fail;have k:=ff<|Á y1 y2;refine mf (λw'=>w'.cell? ⟨b,1,Ä⟩=Ã (Ò r.C)/\w'.cell? ⟨b,2,Ä⟩=Ã (Â Æ r.I)) [] ft ?_;refine tk 0 k.out ?_;refine tk 1 k.out ?_;refine tk 2 k.out ?_;refine tk 3 k.out ?_;refine tk 4 k.out ?_;refine gD 5 ?_;intro K l;go_simp;go_at_call 159;refine(I8 _ _).mono ?_;rintro e w2 ⟨rfl,qT⟩;subst w2;dsimp only;refine l.out _ _ (λ_=>k.out) ?_;clear l K;refine gD 6 ?_;intro K l;go_simp;refine l.out _ _ (λ_=>k.out) ?_;clear l K;refine gD 7 ?_;intro K l;go_simp;refine l.out _ _ (λ_=>k.out) ?_;clear l K;try simp only[ł,Õ,æ,ç]
  refine lS ft ?_ _;go_wp2_with fail;go_ret2;let⟨n1,n2⟩:=C.out.1.N ok 5 (v:=Â Æ<|c.g-r.r) (c':={c with g:=c.g-r.r}) (jZ:=jQ) (ss':=zQ) U C.out.1.I λ_ q=>q;have L:=(fc.fR (λ_=>False)<|W.setCell ⟨n,5,Ä⟩<|Â Æ<|c.g-r.r).fg (fc.fR (λ_=>False) _);exact⟨U,_,_,n1.fL L,(C.out.2.fg n2).fg<|Tr.fL L⟩
 .intro K l;go_simp;refine l.out _ _ (λ_=>⟨(H.out.1.fL<|((fc.fR _ _).fg<|fc.gE _ _ _ _)).r.r 0 _ U,(H.out.1.fL<|((fc.fR _ _).fg<|fc.gE _ _ _ _)).r.r 2 _ U,(H.out.1.fL<|((fc.fR _ _).fg<|fc.gE _ _ _ _)).r.r 4 _ U,(H.out.1.fL<|((fc.fR _ _).fg<|fc.gE _ _ _ _)).r.r 5 _ U⟩) ?_;clear l K;refine gD 23 ?_;intro K l;go_simp;go_at_call 173;refine(H.out.2.1 (đ<|Ċ w<|Ð #[Â Æ 0,Ò Ï,Â Æ 0] 252) kp).mono ?_;rintro e z ⟨rfl,zv,O,o,D⟩;dsimp only;refine l.out _ _ (λ_=>⟨o.r.r 0 _ U,o.r.r 2 _ U,o.r.r 4 _ U,o.r.r 5 _ U⟩) ?_;clear l K;have B:=alr H.out.1 O;have k0:=B.r 0 _ U;have k1:=B.r 1 _ U;have k2:=B.r 2 _ U;have f0:=B.C 0;have f1:=B.C 1;have f2:=B.C 2;refine gD 25 ?_;intro K l;go_simp;refine l.out _ _ (λq=>absurd fj q) ?_;clear l K;try simp only[ł,Õ,æ,ç]
  refine lS ft ?_ _;let⟨a1,a2,a3⟩:=SS ok o D (ß _) B 0<|Â Æ r.r;let⟨b1,b2,b3⟩:=SS ok a1 a2 (ß _) a3 1<|Ò r.C;let⟨t,I,m⟩:=SS ok b1 b2 (ß _) b3 2<|Â Æ r.I;generalize č (č (č z ⟨w.heap.size,0,Ä⟩<|Â Æ r.r) ⟨w.heap.size,1,Ä⟩<|Ò r.C) ⟨w.heap.size,2,Ä⟩ (Â Æ r.I)=W at*;replace m:fh w.heap.size [Â Æ r.r,Ò r.C,Â Æ r.I] 252 W:=m;clear a1 a2 a3 b1 b2 b3 B k0 k1 k2 f0 f1 f2 o D O;have v0:=m.r 0 _ U;have X:=m.r 1 _ U;have Y:=m.r 2 _ U;have z5:W.cell? ⟨n,5,Ä⟩=Ã (Â Æ c.g):=t.r.r 5 _ U;have y5:=t.r.C 5;have zl:=t.r.M;have zb:=m.M;have M:=H.out.2.2.1;have N:=H.out.2.2.2;have J:=fh.S t.r m A;have y1:=(I2 (w:=W) (i:=5) (u:=Â Æ<|c.g-r.r) J).trans X;have y2:=(I2 (w:=W) (i:=5) (u:=Â Æ<|c.g-r.r) J).trans Y;have C:=ff<|Á t I;clear t I m k;go_wp2_with fail;go_region;go_wp2_with fail;have k:=ff<|Á y1 y2;refine mf (λw'=>w'.cell? ⟨w.heap.size,1,Ä⟩=Ã (Ò r.C)/\w'.cell? ⟨w.heap.size,2,Ä⟩=Ã (Â Æ r.I)) [] ft ?_;refine tk 0 k.out ?_;refine tk 1 k.out ?_;refine tk 2 k.out ?_;refine tk 3 k.out ?_;refine tk 4 k.out ?_;refine gD 5 ?_;intro K l;go_simp;go_at_call 159;refine(I8 _ _).mono ?_;rintro e w2 ⟨rfl,qT⟩;subst w2;dsimp only;refine l.out _ _ (λ_=>k.out) ?_;clear l K;refine gD 6 ?_;intro K l;go_simp;refine l.out _ _ (λ_=>k.out) ?_;clear l K;refine gD 7 ?_;intro K l;go_simp;refine l.out _ _ (λ_=>k.out) ?_;clear l K;try simp only[ł,Õ,æ,ç]
  refine lS ft ?_ _;go_wp2_with fail;go_ret2;let⟨n1,n2⟩:=C.out.1.N ok 5 (v:=Â Æ<|c.g-r.r) (c':={c with g:=c.g-r.r}) (jZ:=jQ) (ss':=zQ) U C.out.1.I λ_ q=>q;have L:=(fc.fR (λ_=>False)<|W.setCell ⟨n,5,Ä⟩<|Â Æ<|c.g-r.r).fg (fc.fR (λ_=>False) _);exact⟨U,_,_,n1.fL L,(C.out.2.fg n2).fg<|Tr.fL L⟩
end
section
variable{E:iU}{rb:Nat}{c:RC}{sv lv:Ç}{s i:St}{f j:List (Nat×Int)}{q p:Int}{F:me}
def oP(c:RC)(g:Int):RC:={c with g:=g}
def alv(ok:E.Ok)(a:R E rb c sv lv zQ s f w)(i:0<=c.d)(G:c.d<=4)(hF:c.d<4->tf F (c.d+1))(j:oO F)(k:iK w)(l:gI s)(m:c.x<8)(n:c.y<8)(o:fX q)(r:fX p)(v:fX h)(z:0<=c.g)(B:c.g<=100000)(C:(f.length:Int)+c.g<=1000000)(t:RT)(D:t=(iY F c ⟨zQ,s,f,c.g⟩ q p h).2.2): Ô À 210 #[Å<|Ã ⟨rb,0,Ä⟩,Â Æ q,Â Æ p,Â Æ h] w λe u=>e=È (é #[Â Æ (iY F c ⟨zQ,s,f,c.g⟩ q p h).1,Â Æ (iY F c ⟨zQ,s,f,c.g⟩ q p h).2.1])/\kJ E rb sv lv f.length w (oP c t.g) zQ t.s t.C u:=by
 subst D;by_cases b:c.d=4
 .have e:iY F c ⟨zQ,s,f,c.g⟩ q p h=(0,0,⟨zQ,s,f,c.g⟩):=by unfold iY;rw[if_pos b]
  rw[e];refine(alm ok a b).mono ?_;rintro e u ⟨rfl,rfl⟩;exact⟨U,a.jR⟩
 .have e:iY F c ⟨zQ,s,f,c.g⟩ q p h=((F s f c.y (q%8).toNat (min p c.g) h).I,xI (F s f c.y (q%8).toNat (min p c.g) h).C,⟨zQ,(F s f c.y (q%8).toNat (min p c.g) h).s,(F s f c.y (q%8).toNat (min p c.g) h).M,c.g-(F s f c.y (q%8).toNat (min p c.g) h).r⟩):=by unfold iY;rw[if_neg b]
  rw[e];exact als ok a i Z (hF Z) j k l m n o r v z B C
def alx(ok:E.Ok)(i:R E rb c sv lv (((zQ++[h])++[p])++[q]) s f w)(hn:zQ.length<=800)(o:0<=c.d)(r:c.d<=4)(hF:c.d<4->tf F (c.d+1))(v:oO F)(z:iK w)(B:gI s)(C:c.x<8)(D:c.y<8)(G:fX q)(I:fX p)(J:fX h)(K:0<=c.g)(L:c.g<=100000)(M:(f.length:Int)+c.g<=1000000)(t:RT)(N:t=(iY F c ⟨zQ,s,f,c.g⟩ q p h).2.2)(a b:Int)(j:a=(iY F c ⟨zQ,s,f,c.g⟩ q p h).1)(k:b=(iY F c ⟨zQ,s,f,c.g⟩ q p h).2.1): Ô À 205 #[Å<|Ã ⟨rb,0,Ä⟩,Â Ë 20] w λe u=>e=È (é #[])/\kJ E rb sv lv f.length w (oP c t.g) (zQ++[a,b]) t.s t.C u:=by have c0:=i.r.r 0 _ U;have c2:=i.r.r 2 _ U;have gJ:=i.r.M;have Me:=fh.M i.C;have H:=ff<|Á i<|Á z<|Á hF v;go_enter í,è;go_wp2_with fail;go_quiet (fail);go_wp2_with fail;have O:=Tr.fL (E:=E) (rb:=rb) (sv:=sv) (lv:=lv) (n:=f.length) (fc.iN (λ_=>False) w nq);have P:=H.out.1.fL (fc.iN (λ_=>False) w nq);go_at_call 204;refine(nA ok P (by first|omega|(simp;omega))).mono ?_;rintro e w1 ⟨rfl,sv1,Q,S⟩;go_wp2_with fail;go_at_call 204;refine(nA ok Q (by first|omega|(simp;omega))).mono ?_;rintro e w2 ⟨rfl,Jc,T,V⟩;go_wp2_with fail;go_at_call 204;refine(nA ok T (by first|omega|(simp;omega))).mono ?_;rintro e w3 ⟨rfl,MW,W,X⟩;have l:=((O.fg S).fg V).fg X;go_wp2_with fail;go_at_call 210;refine(alv ok W o r H.out.2.2.1 H.out.2.2.2 (H.out.2.1.N ok H.out.1 l) B C D G I J K L M t N).mono ?_;rintro e w4 ⟨rfl,sv4,lv4,Y,t4⟩;rw[<-j,<-k];go_wp2_with fail;go_at_call 203;refine(SR ok Y (by first|omega|(simp;omega)) _ _).mono ?_;rintro e w5 ⟨rfl,sv5,m,t5⟩;go_wp2_with fail;go_end0;rw[<-j,<-k]at m;exact⟨U,_,_,m,(l.fg t4).fg t5⟩
end
def rf(h:∀p∈zQ,fX p):fX (gd zQ):=by
 by_cases a:0<zQ.length
 .apply h _;rw[q_ zQ a];simp[gd]
 .have:zQ=[]:=á Z;subst this;exact⟨A,A⟩
def oe(h:∀p∈zQ,fX p):∀p∈fV zQ,fX p:=λp a=>h p<|List.dropLast_subset zQ a
def oQ(l:List Int):(fV l).length=l.length-1:=by simp[fV]
def xN(h:0<zQ.length):fV zQ++[gd zQ]=zQ:=(q_ zQ h).symm
def aly(F:me)(c:RC)(l b:List Int)(s:St)(a:List (Nat×Int))(g q p k:Int): (iY F c ⟨l,s,a,g⟩ q p k).1=(iY F c ⟨b,s,a,g⟩ q p k).1/\(iY F c ⟨l,s,a,g⟩ q p k).2.1=(iY F c ⟨b,s,a,g⟩ q p k).2.1/\(iY F c ⟨l,s,a,g⟩ q p k).2.2.s=(iY F c ⟨b,s,a,g⟩ q p k).2.2.s/\ (iY F c ⟨l,s,a,g⟩ q p k).2.2.C=(iY F c ⟨b,s,a,g⟩ q p k).2.2.C/\(iY F c ⟨l,s,a,g⟩ q p k).2.2.g=(iY F c ⟨b,s,a,g⟩ q p k).2.2.g:=by unfold iY;split<;>exact⟨U,U,U,U,U⟩
section
variable{E:iU}{rb:Nat}{c:RC}{sv lv:Ç}{s:St}{f:List (Nat×Int)}{F:me}
def alz(ok:E.Ok)(h:R E rb c sv lv zQ s f w)(Y:zQ.length<=700)(C:0<=c.d)(D:c.d<=4)(hF:c.d<4->tf F (c.d+1))(G:oO F)(H:iK w)(v:gI s)(z:c.x<8)(a:c.y<8)(r:∀p∈zQ,fX p)(I:0<=c.g)(J:c.g<=100000)(K:(f.length:Int)+c.g<=1000000) (k:Nat) (rU:2<=k) (rG:k<=20) (y_:k≠17) (L B M:Int) (b:iO[k]?=Ã (L,B,M)) (Dl:B<=zQ.length) (t:RT) (N:t=re F c k ⟨zQ,s,f,c.g⟩): Ô À 205 #[Å<|Ã ⟨rb,0,Ä⟩,Â Ë k] w λe i=>e=È (é #[])/\kJ E rb sv lv f.length w (oP c t.g) t.r t.s t.C i:=by
 subst N;have i:=rf r;have u:=rf<|oe r;have O:=rf<|oe<|oe r;have j:1<=zQ.length->R E rb c sv lv (fV zQ++[gd zQ]) s f w:=λq=>by rwa[xN Z]
 have l:2<=zQ.length->R E rb c sv lv ((fV (fV zQ)++[gd<|fV zQ])++[gd zQ]) s f w:=λq=>by rw[xN (by rw[oQ];omega),xN Z];exact h
 have P:3<=zQ.length->R E rb c sv lv (((fV (fV<|fV zQ)++[gd<|fV<|fV zQ])++[gd<|fV zQ])++[gd zQ]) s f w:=λq=>by rw[xN (by rw[oQ,oQ];omega),xN (by rw[oQ];omega),xN Z];exact h
 have m:zQ.length<=800:=Z
 have n:(fV zQ).length<=800:=by rw[oQ];omega
 have o:(fV<|fV zQ).length<=800:=by rw[oQ];omega
 have Q:(fV<|fV<|fV zQ).length<=800:=by rw[oQ];omega
 have cases:(k=2\/k=3\/k=4\/k=5\/k=6\/k=7)\/k=8\/k=9\/k=10\/k=11\/k=12\/k=13\/k=14\/k=15\/k=16\/k=18\/k=19\/k=20:=Z
 rcases cases with hq|rfl|rfl|rfl|rfl|rfl|rfl|rfl|rfl|rfl|rfl|rfl|rfl
 .have S:2<=zQ.length:=by
   rcases hq with rfl|rfl|rfl|rfl|rfl|rfl<;>(simp[iO]at b;omega)
  have e:re F c k ⟨zQ,s,f,c.g⟩=⟨fV (fV zQ)++[xK k (gd<|fV zQ)<|gd zQ],s,f,c.g⟩:=by rcases hq with rfl|rfl|rfl|rfl|rfl|rfl<;>rfl
  rw[e];exact ald ok (l S) o a u i Z Z
 .exact ak3 ok (j<|by simp[iO]at b;omega) n a
 .exact ak4 ok (l<|by simp[iO]at b;omega) o a
 .exact ak5 ok (j<|by simp[iO]at b;omega) n a
 .exact ak6 ok h m a
 .exact ak7 ok h m a z
 .exact ak8 ok h m a
 .exact ak9 ok h m a
 .exact ala ok (j<|by simp[iO]at b;omega) n a i
 .exact alb ok (l<|by simp[iO]at b;omega) o a i
 .exact alc ok (l<|by simp[iO]at b;omega) o a u i v
 .exact alk ok (j<|by simp[iO]at b;omega) n a Z
 .let⟨S,T,V,W,X⟩:=aly F c zQ (fV<|fV<|fV zQ) s f c.g (gd zQ) (gd<|fV zQ)<|gd<|fV<|fV zQ;have e:re F c 20 ⟨zQ,s,f,c.g⟩=⟨fV (fV<|fV zQ)++[(iY F c ⟨zQ,s,f,c.g⟩ (gd zQ) (gd<|fV zQ)<|gd<|fV<|fV zQ).1,(iY F c ⟨zQ,s,f,c.g⟩ (gd zQ) (gd<|fV zQ)<|gd<|fV<|fV zQ).2.1],(iY F c ⟨zQ,s,f,c.g⟩ (gd zQ) (gd<|fV zQ)<|gd<|fV<|fV zQ).2.2.s,(iY F c ⟨zQ,s,f,c.g⟩ (gd zQ) (gd<|fV zQ)<|gd<|fV<|fV zQ).2.2.C,(iY F c ⟨zQ,s,f,c.g⟩ (gd zQ) (gd<|fV zQ)<|gd<|fV<|fV zQ).2.2.g⟩:=U;rw[e,S,T,V,W,X];exact alx ok (P<|by simp[iO]at b;omega) Q C D hF G H v z a i u O I J K _ U _ _ U U
end
def qp(c:Int)(w:É):Ô À 103 #[Â br c] w λe a=>e=È (Â Ë<|lG c)/\a=w:=by
 go_enter Tryz.func103,Tryz.ntmps103;go_wp2;all_goals go_ret
 all_goals refine⟨FK ?_,U⟩
 all_goals simp only[beq_iff_eq,beq_eq_false_iff_ne,ne_eq]at*
 all_goals(try subst c)
 all_goals first|rfl|(unfold lG;simp[*];done)|(unfold lG;rw[if_neg Z];simp[*])
def ko:Ş->Option Ş
 |ã c=>Ã c
 |.seq a b=>match ko a with
  |some c=>Ã c
  |none=>ko b
 |.block _ c=>ko c
 |.scope c=>ko c
 |.cond _ a b=>match ko a with
  |some c=>Ã c
  |none=>ko b
 |_=>Ä
noncomputable def uI:Ş:=(Tryz.f191.body.bind ko).getD Ń
def n5(a:Nat)(P:ByteArray)(b:Int)(u:Nat->Ç):ë:=⟨#[Å<|Ã ⟨a,0,Ä⟩,Ĉ,Â Æ 0,Ò Ï,Í P,Â Æ P.size,Â Æ b,u 7,u 8,u 9,u 10,u 11,u 12,u 13,u 14,u 15,u 16,u 17,u 18,u 19,u 20,u 21,u 22,u 23,u 24,u 25,u 26,u 27,u 28,u 29,u 30,u 31,u 32,u 33,u 34,u 35,u 36,u 37,u 38,u 39,u 40,u 41,u 42,u 43,u 44,u 45,u 46,u 47,u 48,u 49,u 50,u 51,u 52,u 53,u 54,u 55,u 56,u 57,u 58,u 59,u 60,u 61,u 62,u 63,u 64,u 65,u 66,u 67,u 68,u 69,u 70,u 71,u 72,u 73,u 74,u 75,u 76,u 77,u 78,u 79,u 80],[]⟩
def Dm(b:Nat)(P:ByteArray)(c:Int)(a:ë):Prop:=∃u,a=n5 b P c u
def z_(a:Nat)(P:ByteArray)(v:Int)(b:Bool)(u:Nat->Ç):ë:=⟨#[Å<|Ã ⟨a,0,Ä⟩,Ĉ,Â Æ v,Ò b,Í P,Â Æ P.size,u 6,u 7,u 8,u 9,u 10,u 11,u 12,u 13,u 14,u 15,u 16,u 17,u 18,u 19,u 20,u 21,u 22,u 23,u 24,u 25,u 26,u 27,u 28,u 29,u 30,u 31,u 32,u 33,u 34,u 35,u 36,u 37,u 38,u 39,u 40,u 41,u 42,u 43,u 44,u 45,u 46,u 47,u 48,u 49,u 50,u 51,u 52,u 53,u 54,u 55,u 56,u 57,u 58,u 59,u 60,u 61,u 62,u 63,u 64,u 65,u 66,u 67,u 68,u 69,u 70,u 71,u 72,u 73,u 74,u 75,u 76,u 77,u 78,u 79,u 80],[]⟩
def FL(c:Nat)(P:ByteArray)(v:Int)(b:Bool)(a:ë):Prop:=∃u,a=z_ c P v b u
def QQ(X:ë->É->Prop):bq->ë->É->Prop
 |.exit 0,a,w=>X a w
 |_,_,_=>False
section
variable{X:ë->É->Prop}{E:iU}{c:RC}{s:St}{f:List (Nat×Int)}{F:me}
def alA(ok:E.Ok)(u:Nat->Ç)(b:R E i c z x zQ s f w)(j:B.size<=40)(e:h=B.size) (g:∀a d,FL i B 0 Ý a->kJ E i z x f.length w c zQ s f d->X a d): Î À uI (Exit.then K<|QQ X) (n5 i B h u) w:=by
 unfold n5;conv=>arg 2;whnf
 subst e;go_wp2_with fail;exact g _ _ (gi _) b.jR
def alB(ok:E.Ok)(u:Nat->Ç)(b:R E i c z x zQ s f w)(l:B.size<=40)(m:(B.size:Int)<h) (e:∀a d,FL i B 0 Ï a->kJ E i z x f.length w (oP c 0) zQ s f d->X a d): Î À uI (Exit.then K<|QQ X) (n5 i B h u) w:=by
 unfold n5;conv=>arg 2;whnf
 have n:w.cell? ⟨i,5,Ä⟩=Ã (Â Æ c.g):=b.r.r 5 _ U;have o:=b.r.C 5;have p:(h==(B.size:Int))=Ï:=by rw[beq_eq_false_iff_ne];omega
 have H:=ff b;clear b;go_wp2_with fail;let⟨j,k⟩:=H.out.N ok 5 (v:=Â Æ 0) (c':=oP c 0) (jZ:=z) (ss':=zQ) U H.out.I λ_ q=>q;exact e _ _ (gi _) ⟨_,_,j,k⟩
def alC(ok:E.Ok)(u:Nat->Ç)(b:R E i c z x zQ s f w)(P:B.size<=40)(n:Nat)(G:h=n)(I:n<B.size)(y:iK w)(m o p:Int)(Q:zQ.length<=700)(J:0<=c.g)(S:c.g<=100000)(k:Nat)(C:lG ((B[n]'I).toNat:Int)=k)(r:iO[k]?=Ã (m,o,p))(D:lu c.g zQ.length m o p=Ï) (L:∀a j,FL i B 0 Ï a->kJ E i z x f.length w (oP c 0) zQ s f j->X a j): Î À uI (Exit.then K<|QQ X) (n5 i B h u) w:=by
 unfold n5;conv=>arg 2;whnf
 subst G;have T:((n:Int)==(B.size:Int))=Ï:=by rw[beq_eq_false_iff_ne];omega
 have V:decide ((B.size:Int)<(n:Int))=Ï:=decide_eq_false Z;have W:(0:Int)<=(n:Int):=Z
 have Y:(n:Int)<(B.size:Int):=Z
 have d:=Dj E ok i c z x zQ s f w b y k m o p r Z J Z;rw[D]at d;have H:=ff<|Á b<|Á d<|Á r C;clear b d y r D C;go_wp2_with (go_at_call 103;refine(qp _ _).mono ?_;rintro e j ⟨rfl,l⟩;subst j;rw[H.out.2.2.2]);go_at_call 202;apply H.out.2.1.mono;rintro e M ⟨rfl,l,F⟩;have k5:M.cell? ⟨i,5,Ä⟩=Ã (Â Æ c.g):=l.r.r 5 _ U;have g5:=l.r.C 5;have t:=ff<|Á l F;clear l F;go_wp2_with fail;let⟨N,O⟩:=R.N ok t.out.1 5 (v:=Â Æ 0) (c':=oP c 0) (jZ:=z) (ss':=zQ) U t.out.1.I λ_ q=>q;exact L _ _ (gi _) ⟨_,_,N,t.out.2.fg O⟩
def alD(ok:E.Ok)(u:Nat->Ç)(b:R E i c z x zQ s f w)(J:B.size<=40)(n:Nat)(C:h=n)(D:n<B.size)(q:iK w)(k l m:Int)(L:zQ.length<=700)(F:0<=c.g)(M:c.g<=100000)(r:lG ((B[n]'D).toNat:Int)=22)(o:iO[(22:Nat)]?=Ã (k,l,m))(t:lu c.g zQ.length k l m=Ý) (G:∀a j,FL i B 0 Ï a->kJ E i z x f.length w (oP c<|c.g-k) zQ s f j->X a j): Î À uI (Exit.then K<|QQ X) (n5 i B h u) w:=by
 unfold n5;conv=>arg 2;whnf
 subst C;have N:((n:Int)==(B.size:Int))=Ï:=by rw[beq_eq_false_iff_ne];omega
 have O:decide ((B.size:Int)<(n:Int))=Ï:=decide_eq_false Z;have P:(0:Int)<=(n:Int):=Z
 have Q:(n:Int)<(B.size:Int):=Z
 have d:=Dj E ok i c z x zQ s f w b q 22 k l m o Z F Z;rw[t]at d;have H:=ff<|Á b<|Á d<|Á o r;clear b d q o t r;go_wp2_with (go_at_call 103;refine(qp _ _).mono ?_;rintro e j ⟨rfl,I⟩;subst j;rw[H.out.2.2.2]);go_at_call 202;apply H.out.2.1.mono;rintro e S ⟨rfl,p,v⟩;rw[if_pos U]at p;have y:=ff<|Á p v;clear p v;go_wp2_with (go_at_call 103;refine(qp _ _).mono ?_;rintro e j ⟨rfl,I⟩;subst j;rw[H.out.2.2.2]);exact G _ _ (gi _) ⟨_,_,y.out.1,y.out.2⟩
def alE(ok:E.Ok)(u:Nat->Ç)(b:R E i c z x zQ s f w)(P:B.size<=40)(n:Nat)(F:h=n)(G:n<B.size)(r:iK w)(k l m:Int)(I:zQ.length<=700)(J:0<=c.g)(Q:c.g<=100000)(p:Int)(t:List Int)(L:zQ=t++[p])(v:lG ((B[n]'G).toNat:Int)=21)(o:iO[(21:Nat)]?=Ã (k,l,m))(y:lu c.g zQ.length k l m=Ý) (M:∀a j,FL i B p Ý a->kJ E i z x f.length w (oP c<|c.g-k) t s f j->X a j): Î À uI (Exit.then K<|QQ X) (n5 i B h u) w:=by
 unfold n5;conv=>arg 2;whnf
 subst F;have S:((n:Int)==(B.size:Int))=Ï:=by rw[beq_eq_false_iff_ne];omega
 have T:decide ((B.size:Int)<(n:Int))=Ï:=decide_eq_false Z;have V:(0:Int)<=(n:Int):=Z
 have W:(n:Int)<(B.size:Int):=Z
 have d:=Dj E ok i c z x zQ s f w b r 21 k l m o Z J Z;rw[y]at d;have H:=ff<|Á b<|Á d<|Á o v;clear b d r o y v;go_wp2_with (go_at_call 103;refine(qp _ _).mono ?_;rintro e j ⟨rfl,N⟩;subst j;rw[H.out.2.2.2]);go_at_call 202;apply H.out.2.1.mono;rintro e Y ⟨rfl,q,C⟩;rw[if_pos U]at q;have D:=ff<|Á q C;clear q C;subst L;go_wp2_with (go_at_call 103;refine(qp _ _).mono ?_;rintro e j ⟨rfl,N⟩;subst j;rw[H.out.2.2.2]);go_at_call 204;refine(nA ok D.out.1<|by simp at I;omega).mono ?_;rintro e w2 ⟨rfl,Jc,N,O⟩;go_wp2_with fail;exact M _ _ (gi _) ⟨_,_,N,D.out.2.fg O⟩
def alF(ok:E.Ok)(u:Nat->Ç)(b:R E i c z x zQ s f w)(L:B.size<=40)(n:Nat)(D:h=n)(k:n<B.size)(r:iK w)(l m o:Int)(M:zQ.length<=700)(F:0<=c.g)(N:c.g<=100000)(O:(48:Int)<=((B[n]'k).toNat:Int))(P:((B[n]'k).toNat:Int)<=57)(t:lG ((B[n]'k).toNat:Int)=1)(p:iO[(1:Nat)]?=Ã (l,m,o))(v:lu c.g zQ.length l m o=Ý) (G:∀a j,Dm i B ((n:Int)+1) a->kJ E i z x f.length w (oP c<|c.g-l) (zQ++[((B[n]'k).toNat:Int)-48]) s f j->K a j): Î À uI (Exit.then K<|QQ X) (n5 i B h u) w:=by
 unfold n5;conv=>arg 2;whnf
 subst D;have Q:((n:Int)==(B.size:Int))=Ï:=by rw[beq_eq_false_iff_ne];omega
 have S:decide ((B.size:Int)<(n:Int))=Ï:=decide_eq_false Z;have T:(0:Int)<=(n:Int):=Z
 have V:(n:Int)<(B.size:Int):=Z
 have d:=Dj E ok i c z x zQ s f w b r 1 l m o p Z F Z;rw[v]at d;have H:=ff<|Á b<|Á d<|Á p t;clear b d r p v t;go_wp2_with (go_at_call 103;refine(qp _ _).mono ?_;rintro e j ⟨rfl,I⟩;subst j;rw[H.out.2.2.2]);go_at_call 202;apply H.out.2.1.mono;rintro e W ⟨rfl,q,y⟩;rw[if_pos U]at q;have C:=ff<|Á q y;clear q y;go_wp2_with (go_at_call 103;refine(qp _ _).mono ?_;rintro e j ⟨rfl,I⟩;subst j;rw[H.out.2.2.2]);go_at_call 203;refine(zG ok C.out.1 Z _).mono ?_;rintro e Y ⟨rfl,Jc,I,J⟩;go_wp2_with fail;exact G _ _ (gi _) ⟨_,_,I,C.out.2.fg J⟩
def alG(ok:E.Ok)(u:Nat->Ç)(b:R E i c z x zQ s f w)(W:B.size<=40)(n:Nat)(M:h=n)(N:n<B.size)(t:iK w)(k l m:Int)(v:zQ.length<=700)(O:0<=c.g)(Y:c.g<=100000)(p q:Int)(y:List Int)(P:zQ=(y++[p])++[q])(Q:¬p=0)(C:lG ((B[n]'N).toNat:Int)=17)(o:iO[(17:Nat)]?=Ã (k,l,m))(D:lu c.g zQ.length k l m=Ý) (S:∀a j,Dm i B q a->kJ E i z x f.length w (oP c<|c.g-k) y s f j->K a j): Î À uI (Exit.then K<|QQ X) (n5 i B h u) w:=by
 unfold n5;conv=>arg 2;whnf
 subst M;have e1:((n:Int)==(B.size:Int))=Ï:=by rw[beq_eq_false_iff_ne];omega
 have e2:decide ((B.size:Int)<(n:Int))=Ï:=decide_eq_false Z;have IK:(0:Int)<=(n:Int):=Z
 have vO:(n:Int)<(B.size:Int):=Z
 have d:=Dj E ok i c z x zQ s f w b t 17 k l m o Z O Z;rw[D]at d;have H:=ff<|Á b<|Á d<|Á o C;clear b d t o D C;go_wp2_with (go_at_call 103;refine(qp _ _).mono ?_;rintro e j ⟨rfl,I⟩;subst j;rw[H.out.2.2.2]);go_at_call 202;apply H.out.2.1.mono;rintro e w1 ⟨rfl,r,F⟩;rw[if_pos U]at r;have G:=ff<|Á r F;clear r F;subst P;have e3:(p !=0)=Ý:=by rwa[bne_iff_ne]
 go_wp2_with (go_at_call 103;refine(qp _ _).mono ?_;rintro e j ⟨rfl,I⟩;subst j;rw[H.out.2.2.2])
 go_at_call 204;refine(nA ok G.out.1<|by simp at v|-;omega).mono ?_;rintro e w2 ⟨rfl,Jc,I,J⟩;go_wp2_with fail;go_at_call 204;refine(nA ok I<|by simp at v;omega).mono ?_;rintro e w3 ⟨rfl,MW,V,L⟩;have T:=(G.out.2.fg J).fg L;clear I J L;go_wp2_with fail;exact S _ _ (gi _) ⟨_,_,V,T⟩
def alH(ok:E.Ok)(u:Nat->Ç)(b:R E i c z x zQ s f w)(W:B.size<=40)(n:Nat)(M:h=n)(N:n<B.size)(t:iK w)(k l m:Int)(v:zQ.length<=700)(O:0<=c.g)(Y:c.g<=100000)(p q:Int)(y:List Int)(P:zQ=(y++[p])++[q])(Q:p=0)(C:lG ((B[n]'N).toNat:Int)=17)(o:iO[(17:Nat)]?=Ã (k,l,m))(D:lu c.g zQ.length k l m=Ý) (S:∀a j,Dm i B ((n:Int)+1) a->kJ E i z x f.length w (oP c<|c.g-k) y s f j->K a j): Î À uI (Exit.then K<|QQ X) (n5 i B h u) w:=by
 unfold n5;conv=>arg 2;whnf
 subst M;have e1:((n:Int)==(B.size:Int))=Ï:=by rw[beq_eq_false_iff_ne];omega
 have e2:decide ((B.size:Int)<(n:Int))=Ï:=decide_eq_false Z;have IK:(0:Int)<=(n:Int):=Z
 have vO:(n:Int)<(B.size:Int):=Z
 have d:=Dj E ok i c z x zQ s f w b t 17 k l m o Z O Z;rw[D]at d;have H:=ff<|Á b<|Á d<|Á o C;clear b d t o D C;go_wp2_with (go_at_call 103;refine(qp _ _).mono ?_;rintro e j ⟨rfl,I⟩;subst j;rw[H.out.2.2.2]);go_at_call 202;apply H.out.2.1.mono;rintro e w1 ⟨rfl,r,F⟩;rw[if_pos U]at r;have G:=ff<|Á r F;clear r F;subst P;subst Q;go_wp2_with (go_at_call 103;refine(qp _ _).mono ?_;rintro e j ⟨rfl,I⟩;subst j;rw[H.out.2.2.2]);go_at_call 204;refine(nA ok G.out.1<|by simp at v|-;omega).mono ?_;rintro e w2 ⟨rfl,Jc,I,J⟩;go_wp2_with fail;go_at_call 204;refine(nA ok I<|by simp at v;omega).mono ?_;rintro e w3 ⟨rfl,MW,V,L⟩;have T:=(G.out.2.fg J).fg L;clear I J L;go_wp2_with fail;exact S _ _ (gi _) ⟨_,_,V,T⟩
def alI(ok:E.Ok)(u:Nat->Ç)(b:R E i c z x zQ s f w)(hP:B.size<=40)(n:Nat)(Q:h=n)(S:n<B.size)(r:iK w)(l o q:Int)(T:zQ.length<=700)(V:0<=c.g)(uH:c.g<=100000)(k:Nat)(W:2<=k)(Y:k<=20)(y_:k≠17)(Dl:o<=zQ.length)(oH:0<=c.d)(hd:c.d<=4)(hF:c.d<4->tf F (c.d+1))(I:oO F)(J:gI s)(hx:c.x<8)(hy:c.y<8)(L:∀p∈zQ,fX p)(hlen:(f.length:Int)+c.g<=1000000)(t:RT)(M:t=re F c k ⟨zQ,s,f,c.g-l⟩)(A_:0<=l)(MX:l<=c.g)(N:lG ((B[n]'S).toNat:Int)=k)(v:iO[(k:Nat)]?=Ã (l,o,q))(O:lu c.g zQ.length l o q=Ý) (hK:∀a m,Dm i B ((n:Int)+1) a->kJ E i z x f.length w (oP c t.g) t.r t.s t.C m->K a m): Î À uI (Exit.then K<|QQ X) (n5 i B h u) w:=by
 unfold n5;conv=>arg 2;whnf
 subst Q;have e1:((n:Int)==(B.size:Int))=Ï:=by rw[beq_eq_false_iff_ne];omega
 have e2:decide ((B.size:Int)<(n:Int))=Ï:=decide_eq_false Z;have IK:(0:Int)<=(n:Int):=Z
 have vO:(n:Int)<(B.size:Int):=Z
 have j:=Dj E ok i c z x zQ s f w b r k l o q v Z V Z;rw[O]at j;have H:=ff<|Á b<|Á j<|Á r<|Á v N;clear b j r v O N;go_wp2_with (go_at_call 103;refine(qp _ _).mono ?_;rintro e m ⟨rfl,hw⟩;subst m;rw[H.out.2.2.2.2]);go_at_call 202;apply H.out.2.1.mono;rintro e w1 ⟨rfl,C,P⟩;rw[if_pos U]at C;have G:=ff<|Á C P;clear C P;have e11:((k:Int)==1)=Ï:=by rw[beq_eq_false_iff_ne];omega
 have e27:((k:Int)==17)=Ï:=by rw[beq_eq_false_iff_ne];omega
 have e31:((k:Int)==21)=Ï:=by rw[beq_eq_false_iff_ne];omega
 have e32:((k:Int)==22)=Ï:=by rw[beq_eq_false_iff_ne];omega
 have D:=alz (t:=t) ok G.out.1 T oH hd hF I (H.out.2.2.1.N ok H.out.1 G.out.2) J hx hy L (by show 0<=c.g-l;omega) (by show c.g-l<=100000;omega) (by show(f.length:Int)+(c.g-l)<=1000000;omega) k W Y y_ l o q H.out.2.2.2.1 Dl M;have HD:=ff D;clear D hF I J L hlen M;go_wp2_with (go_at_call 103;refine(qp _ _).mono ?_;rintro e m ⟨rfl,hw⟩;subst m;rw[H.out.2.2.2.2]);go_at_call 205;apply HD.out.mono;rintro e w2 ⟨rfl,Jc,MA,h2,t2⟩;go_wp2_with fail;exact hK _ _ (gi _) ⟨_,_,h2,G.out.2.fg t2⟩
end
def pB(k:Nat):Int×Int×Int:=(iO[k]?).getD (0,0,0)
def zH(P:ByteArray)(a:Int):Int:=((P.data.getD a.toNat 0).toNat:Int)
def kK(P:ByteArray)(a:Int):Nat:=lG<|zH P a
def tg(F:me)(c:RC)(P:ByteArray):Nat->Int->RT->Int×Bool×RT
 |0,_,t=>(0,Ï,t)
 |f+1,pl,t=>
  if pl=P.size then(0,Ý,t)
  else if(P.size:Int)<pl then(0,Ï,{t with g:=0})
  else if lu t.g t.r.length (pB<|kK P pl).1 (pB<|kK P pl).2.1 (pB<|kK P pl).2.2=Ï then(0,Ï,{t with g:=0})
  else if kK P pl=1 then tg F c P f (pl+1) {t with r:=t.r++[zH P pl-48],g:=t.g-(pB<|kK P pl).1}
  else if kK P pl=17 then
   if gd (fV t.r)=0 then tg F c P f (pl+1) {t with r:=fV<|fV t.r,g:=t.g-(pB<|kK P pl).1}else tg F c P f (gd t.r) {t with r:=fV<|fV t.r,g:=t.g-(pB<|kK P pl).1}
  else if kK P pl=21 then(gd t.r,Ý,{t with r:=fV t.r,g:=t.g-(pB<|kK P pl).1})
  else if kK P pl=22 then(0,Ï,{t with g:=t.g-(pB<|kK P pl).1})
  else tg F c P f (pl+1) (re F c (kK P pl) {t with g:=t.g-(pB<|kK P pl).1})
structure nD(t:RT):Prop where
 r:∀p∈t.r,fX p
 I:t.r.length<=32
 s:gI t.s
 g0:0<=t.g
 C:t.g<=100000
 M:(t.C.length:Int)+t.g<=1000000
def alJ{p:Prop}[Decidable p](c:i<=m)(d:b<=m):(if p then i else b)<=m:=by split;exact c;exact d
def SY(c:Int):lG c<=22:=by unfold lG;repeat' (first|refine alJ A ?_|decide)
def uJ:fX 0:=⟨A,A⟩
def alK:fX 1:=⟨A,A⟩
def SZ(h:k<=22):iO[k]?=Ã (pB k):=by
 unfold pB;have:k<iO.length:=by show k<23;omega
 rw[Ñ this];rfl
def zI(n:Int):fX (wu n):=⟨akS n,akT n⟩
def A'(b:Bool):fX (xI b):=by cases b<;>exact⟨A,A⟩
def alL{q:Int}(a:fX c)(d:fX q):fX (xK h c q):=by
 unfold xK;repeat' split
 all_goals first|exact zI _|exact A' _|exact⟨A,A⟩|skip
 rename_i e;have b:=a.1;exact⟨Int.ediv_nonneg b d.1,Int.lt_of_le_of_lt (Int.ediv_le_self _ b) a.2⟩
def gI.fZ{s:St}(h:gI s){a:I3}(b:fX a.fu)(d:∀j,fX<|a.C j)(e:a.r.size<=40/\∀c∈a.r.data.toList,xL c=Ý):gI (s.fZ i a):=by
 refine⟨λj=> ?_,λj k=> ?_,λj=> ?_⟩<;>unfold St.fZ<;>split
 .exact b
 .exact h.fu j
 .exact d k
 .exact h.C j k
 .exact e
 .exact h.I j
def gI.r{s:St}(h:gI s)(i:Nat){b:Int}(a:fX b):gI (s.fu i b):=h.fZ a (h.C i)<|h.I i
def gI.SN{s:St}(h:gI s)(i j:Nat)(a:fX c):gI (s.r i j c):=by
 refine h.fZ (h.fu i) (λk=> ?_)<|h.I i;show fX (if k=j then c else(s i).C k);split
 .exact a
 .exact h.C i k
def alM{s:St}(h:gI s)(y:Nat){p:Int}(a:fX p):fX (rT s y c p).1/\gI (rT s y c p).2:=by
 unfold rT;split
 .exact⟨uJ,h⟩
 .rename_i d;have b:=h.fu y;have e:=a.1;refine⟨alK,gI.r (gI.r h y ⟨Z,by have:=b.2;omega⟩) _<|zI _⟩
def B_(h:n<8):fX (n:Int):=⟨Z,Z⟩
section
variable{F:me}{c:RC}{t:RT}
def rV{m:List Int}(h:∀p∈zQ,fX p)(k:∀p∈m,fX p):∀p∈zQ++m,fX p:=λp a=>(ā.1 a).elim (h p)<|k p
def vU{a:Int}(h:fX a):∀p∈[a],fX p:=λp b=>by simp at b;subst b;exact h
def S0{a b:Int}(h:fX a)(k:fX b):∀p∈[a,b],fX p:=λp c=>by simp at c;rcases c with rfl|rfl;exact h;exact k
def alN(b:oO F)(a:nD t)(d:c.y<8){p k:Int}(f:fX h)(i:fX p)(j:fX k): fX (iY F c t h p k).1/\fX (iY F c t h p k).2.1/\gI (iY F c t h p k).2.2.s/\0<=(iY F c t h p k).2.2.g/\(iY F c t h p k).2.2.g<=t.g/\((iY F c t h p k).2.2.C.length:Int)+(iY F c t h p k).2.2.g<=(t.C.length:Int)+t.g:=by
 unfold iY;split
 .exact⟨uJ,uJ,a.s,a.g0,Ø _,Ø _⟩
 .have l:0<=min p t.g:=by have:=i.1;have:=a.g0;omega
  have m:=a.C;have n:=a.M;have o:=f.1;have e:=b t.s t.C c.y (h%8).toNat (min p t.g) k a.s d Z j l Z Z;have r:=e.C;have u:=e.r;have v:=e.I;refine⟨e.M,A' _,e.N,?_,?_,?_⟩;all_goals simp only
  all_goals have:=a.g0
  all_goals omega
def S2(v:oO F)(w:c.x<8)(r:c.y<8)(z:fX c.k)(Q:2<=k)(S:k<=20)(T:k≠17){q u:Int}(d:iO[k]?=Ã (h,q,u)){g:Int}(V:t.g=g-h)(a:nD t)(W:(t.C.length:Int)+g<=1000000)(X:q<=t.r.length)(Y:(t.r.length:Int)-q+u<=32): nD (re F c k t)/\(re F c k t).g<=t.g/\((re F c k t).C.length:Int)+(re F c k t).g<=t.C.length+g:=by
 have i:=rf a.r;have j:=rf<|oe a.r;have B:=rf<|oe<|oe a.r;have m:=oe a.r;have n:=oe m;have C:=oe n;have f:=oQ t.r;have o:=oQ<|fV t.r;have D:=oQ<|fV<|fV t.r;have g1:=a.C;obtain⟨E,G,H,I,J,K⟩:=I9 k _ d;simp only at E G H I J K;have len:=a.I;have b:∀{l:List Int},(∀p∈l,fX p)->l.length<=32->nD {t with r:=l}:=λp L=>⟨p,L,a.s,a.g0,a.C,a.M⟩;have cases:(k=2\/k=3\/k=4\/k=5\/k=6\/k=7)\/k=8\/k=9\/k=10\/k=11\/k=12\/k=13\/k=14\/k=15\/k=16\/k=18\/k=19\/k=20:=Z
 rcases cases with hq|rfl|rfl|rfl|rfl|rfl|rfl|rfl|rfl|rfl|rfl|rfl|rfl
 .have e:re F c k t={t with r:=fV (fV t.r)++[xK k (gd<|fV t.r)<|gd t.r]}:=by
   rcases hq with rfl|rfl|rfl|rfl|rfl|rfl<;>rfl
  rw[e];exact⟨b (rV n<|vU<|alL j i) (by simp[f,o];omega),Ø _,by simp only;omega⟩
 .exact⟨b (rV m<|S0 i i) (by simp[f];simp[iO]at d;omega),Ø _,by show(t.C.length:Int)+t.g<=_;omega⟩
 .exact⟨b (rV n<|S0 i j) (by simp[f,o];omega),Ø _,by show(t.C.length:Int)+t.g<=_;omega⟩
 .exact⟨b m (by rw[f];omega),Ø _,by show(t.C.length:Int)+t.g<=_;omega⟩
 .exact⟨b (rV a.r<|vU z) (by simp;simp[iO]at d;omega),Ø _,by show(t.C.length:Int)+t.g<=_;omega⟩
 .exact⟨b (rV a.r<|vU<|B_ w) (by simp;simp[iO]at d;omega),Ø _,by show(t.C.length:Int)+t.g<=_;omega⟩
 .exact⟨b (rV a.r<|vU<|B_ r) (by simp;simp[iO]at d;omega),Ø _,by show(t.C.length:Int)+t.g<=_;omega⟩
 .exact⟨b (rV a.r<|vU<|a.s.fu _) (by simp;simp[iO]at d;omega),Ø _,by show(t.C.length:Int)+t.g<=_;omega⟩
 .exact⟨b (rV m<|vU<|a.s.C _ _) (by simp[f];omega),Ø _,by show(t.C.length:Int)+t.g<=_;omega⟩
 .exact⟨⟨n,by show(fV<|fV t.r).length<=32;omega,a.s.SN _ _ j,a.g0,a.C,a.M⟩,Ø _,by show(t.C.length:Int)+t.g<=_;omega⟩
 .obtain⟨e,M⟩:=alM a.s c.y j;exact⟨⟨rV n<|vU e,by show(fV (fV t.r)++[_]).length<=32;simp[f,o];omega,M,a.g0,a.C,a.M⟩,Ø _,by show(t.C.length:Int)+t.g<=_;omega⟩
 .have e:h=4:=by simp[iO]at d;omega
  refine⟨⟨m,by show(fV t.r).length<=32;omega,a.s,a.g0,a.C,?_⟩,Ø _,?_⟩
  .show((t.C++[_]).length:Int)+t.g<=_;simp;omega
  .show((t.C++[_]).length:Int)+t.g<=_;simp;omega
 .obtain⟨e,M,N,O,P,w6⟩:=alN v a r i j B;refine⟨⟨rV C<|S0 e M,?_,N,O,?_,?_⟩,P,?_⟩
  .show(fV (fV<|fV t.r)++[_,_]).length<=32;simp[f,o,D];simp[iO]at d;omega
  .show(iY F c t _ _ _).2.2.g<=_;omega
  .show((iY F c t _ _ _).2.2.C.length:Int)+(iY F c t _ _ _).2.2.g<=_;omega
  .show((iY F c t _ _ _).2.2.C.length:Int)+(iY F c t _ _ _).2.2.g<=_;omega
end
def Dn(a:Nat)(w:É):Nat:=match w.cell? ⟨a,5,Ä⟩with
 |some (Â _ n)=>n.toNat
 |_=>0
def R.G{E:iU}{c:RC}{s:St}{a:List (Nat×Int)}(h:R E i c v x zQ s a w):Dn i w=c.g.toNat:=by unfold Dn;rw[h.r.r 5 _ U]
def SI(E:iU)(d:Nat)(c:RC)(P:ByteArray)(F:me)(f h:Ç)(i:Nat)(j:É)(k:Int×Bool×RT)(a:ë)(w:É):Prop:=
 ∃(b:Int) (t:RT) (e:Nat),Dm d P b a/\fX b/\kJ E d f h i j (oP c t.g) t.r t.s t.C w/\nD t/\iK w/\t.g.toNat<e/\tg F c P e b t=k
def SX(E:iU)(d:Nat)(c:RC)(P:ByteArray)(e f:Ç)(h:Nat)(i:É)(b:Int×Bool×RT)(a:ë)(w:É):Prop:=
 FL d P b.1 b.2.1 a/\kJ E d e f h i (oP c b.2.2.g) b.2.2.r b.2.2.s b.2.2.C w
def S3(a:n<B.size):zH B (n:Int)=((B[n]'a).toNat:Int):=by unfold zH;rw[ſ];have b:n<B.data.size:=a;simp only[Array.getD,b,dif_pos];rfl
def S4{s:St}(b:gI s)(y:Nat)(a:n<(s y).r.size):1<=kK (s y).r (n:Int):=by
 unfold kK;rw[S3 a];have c:((s y).r[n]'a)∈(s y).r.data.toList:=by have:(s y).r[n]'a=(s y).r.data[n]'a:=U;rw[this];exact Ŧ.2<|Array.getElem_mem _
 have:=(b.I y).2 _ c;unfold xL at this;have:=of_decide_eq_true this;omega
def S5{b a d:Int}(h:lu c n b a d=Ý):b<=c/\a<=n/\(n:Int)-a+d<=32:=by unfold lu at h;simp at h;omega
def alO{p:Prop}[Decidable p](c:i≠m)(d:b≠m):(if p then i else b)≠m:=by split;exact c;exact d
def S6(h:lG c=1):48<=c/\c<=57:=by
 by_cases a:48<=c/\c<=57
 .exact a
 .exfalso;revert h;unfold lG;rw[if_neg a];repeat' (first|refine alO A ?_|decide)
def alP(a:1<=k)(b:k<=22):1<=(pB k).1:=by
 have h:∀k:Fin 23,1<=k.val->1<=(pB k.val).1:=A
 exact h ⟨k,Z⟩ a
section
variable{E:iU}{c:RC}{F:me}{l:Int×Bool×RT}
def alQ(ok:E.Ok)(hP:B.size<=40)(alR:∀n,n<B.size->1<=kK B (n:Int))(oH:0<=c.d)(hd:c.d<=4)(hF:c.d<4->tf F (c.d+1))(hI:oO F)(hx:c.x<8)(hy:c.y<8)(Je:fX c.k)(a:ë)(w:É)(h:SI E j c B F z v i W l a w): Î À uI (Exit.then (λa' w'=>SI E j c B F z v i W l a' w'/\Dn j w'<Dn j w)<|QQ<|SX E j c B z v i W l) a w:=by
 let⟨pl,t,fuel,hfr,rC,⟨sv,lv,hR,hT⟩,ht,hr,hfu,j0⟩:=h;have g0:=ht.g0;have g1:=ht.C;have hl:=ht.I;have alS:=hR.G;obtain⟨f,rfl⟩:∃f,fuel=f+1:=⟨fuel-1,Z⟩;unfold tg at j0;obtain⟨u,rfl⟩:=hfr;by_cases h1:pl=B.size
 .rw[if_pos h1]at j0;subst j0;apply alA ok u hR hP h1;rintro a' w' q1 ⟨jZ,jz,r1,r2⟩;exact⟨q1,jZ,jz,r1,hT.fg r2⟩
 rw[if_neg h1]at j0;by_cases h2:(B.size:Int)<pl
 .rw[if_pos h2]at j0;subst j0;apply alB ok u hR hP h2;rintro a' w' q1 ⟨jZ,jz,r1,r2⟩;exact⟨q1,jZ,jz,r1,hT.fg r2⟩
 rw[if_neg h2]at j0;have SU:=rC.1;obtain⟨n,rfl⟩:∃n:Nat,pl=n:=⟨pl.toNat,Z⟩;have hn:n<B.size:=Z
 have k1:=alR n hn;have rU:lG ((B[n]'hn).toNat:Int)=kK B (n:Int):=by unfold kK;rw[S3 hn]
 have k2:kK B (n:Int)<=22:=SY _;have hk:=SZ k2;have A_:=alP k1 k2;let⟨b1,b2,b3,b4,b5,b6⟩:=I9 _ _ hk;have alT:=S3 hn;generalize kK B (n:Int)=k at*;generalize B':pB k=ro at*;let⟨co,ta,pu⟩:=ro;simp only at j0 hk A_ b1 b2 b3 b4 b5 b6;by_cases h3:lu t.g t.r.length co ta pu=Ï
 .rw[if_pos h3]at j0;subst j0;apply alC ok u hR hP n U hn hr co ta pu Z g0 g1 k rU hk h3;rintro a' w' q1 ⟨jZ,jz,r1,r2⟩;exact⟨q1,jZ,jz,r1,hT.fg r2⟩
 rw[if_neg h3]at j0;have oI:lu t.g t.r.length co ta pu=Ý:=by cases e:lu t.g t.r.length co ta pu with
  |true=>rfl
  |false=>exact absurd e h3
 let⟨MX,Dl,S7⟩:=S5 oI;have S8:=ht.M;have vO:fX ((n:Int)+1):=⟨Z,Z⟩;have MY:∀{a':ë} {w':É} {Jf:Int} {t':RT} {jZ jz:Ç},Dm j B Jf a'->fX Jf->R E j (oP c t'.g) jZ jz t'.r t'.s t'.C w'->Tr E j sv lv t.C.length w jZ jz t'.C.length w'->nD t'->t'.g<=t.g-co->tg F c B f Jf t'=l->SI E j c B F z v i W l a' w'/\Dn j w'<Dn j w:=by intro a' w' Jf t' jZ jz q1 q2 q3 q4 q5 q6 q7;refine⟨⟨Jf,t',f,q1,q2,⟨jZ,jz,q3,hT.fg q4⟩,q5,hr.N ok hR q4,Z,q7⟩,?_⟩;rw[q3.G,alS];show t'.g.toNat<t.g.toNat;omega
 by_cases h4:k=1
 .rw[if_pos h4]at j0;subst h4;have C_:=S6 rU;apply alF ok u hR hP n U hn hr co ta pu Z g0 g1 C_.1 C_.2 rU hk oI;rintro a' w' q1 ⟨jZ,jz,r1,r2⟩;rw[alT]at j0;refine MY (t':={t with r:=t.r++[((B[n]'hn).toNat:Int)-48],g:=t.g-co}) q1 vO r1 r2 ⟨rV ht.r<|vU ⟨Z,Z⟩,?_,ht.s,by show 0<=t.g-co;omega,by show t.g-co<=100000;omega,by show(t.C.length:Int)+(t.g-co)<=1000000;omega⟩ (Ø _) j0;simp[iO]at hk;simp;omega
 rw[if_neg h4]at j0;by_cases h5:k=17
 .rw[if_pos h5]at j0;subst h5;have alU:ta=2:=by simp[iO]at hk;omega
  have e2:t.r=(fV (fV t.r)++[gd<|fV t.r])++[gd t.r]:=by rw[xN (by rw[oQ];omega),xN Z]
  have tok:nD {t with r:=fV<|fV t.r,g:=t.g-co}:=⟨oe<|oe ht.r,by show(fV<|fV t.r).length<=32;rw[oQ,oQ];omega,ht.s,by show 0<=t.g-co;omega,by show t.g-co<=100000;omega,by show(t.C.length:Int)+(t.g-co)<=1000000;omega⟩;by_cases h6:gd (fV t.r)=0
  .rw[if_pos h6]at j0;apply alH ok u hR hP n U hn hr co ta pu Z g0 g1 _ _ _ e2 h6 rU hk oI;rintro a' w' q1 ⟨jZ,jz,r1,r2⟩;exact MY (t':={t with r:=fV<|fV t.r,g:=t.g-co}) q1 vO r1 r2 tok (Ø _) j0
  .rw[if_neg h6]at j0;apply alG ok u hR hP n U hn hr co ta pu Z g0 g1 _ _ _ e2 h6 rU hk oI;rintro a' w' q1 ⟨jZ,jz,r1,r2⟩;exact MY (t':={t with r:=fV<|fV t.r,g:=t.g-co}) q1 (rf ht.r) r1 r2 tok (Ø _) j0
 rw[if_neg h5]at j0;by_cases h6:k=21
 .rw[if_pos h6]at j0;subst h6 j0;have alU:ta=1:=by simp[iO]at hk;omega
  apply alE ok u hR hP n U hn hr co ta pu Z g0 g1 _ _ (xN Z).symm rU hk oI;rintro a' w' q1 ⟨jZ,jz,r1,r2⟩;exact⟨q1,jZ,jz,r1,hT.fg r2⟩
 rw[if_neg h6]at j0;by_cases h7:k=22
 .rw[if_pos h7]at j0;subst h7 j0;apply alD ok u hR hP n U hn hr co ta pu Z g0 g1 rU hk oI;rintro a' w' q1 ⟨jZ,jz,r1,r2⟩;exact⟨q1,jZ,jz,r1,hT.fg r2⟩
 rw[if_neg h7]at j0;let⟨d1,d2,d3⟩:=S2 (t:={t with g:=t.g-co}) hI hx hy Je Z Z h5 hk U ⟨ht.r,ht.I,ht.s,by show 0<=t.g-co;omega,by show t.g-co<=100000;omega,by show(t.C.length:Int)+(t.g-co)<=1000000;omega⟩ S8 Dl S7;apply alI ok u hR hP n U hn hr co ta pu Z g0 g1 k Z Z h5 Dl oH hd hF hI ht.s hx hy ht.r S8 (re F c k {t with g:=t.g-co}) U b1 MX rU hk oI;rintro a' w' q1 ⟨jZ,jz,r1,r2⟩;exact MY q1 vO r1 r2 d1 d2 j0
end
section
variable{E:iU}{c:RC}{F:me}{lv:Ç}{s:St}{b:List (Nat×Int)}
def oh(F:me)(c:RC)(s:St)(b:List (Nat×Int)):Int×Bool×RT:=tg F c (s c.y).r (c.g.toNat+1) 0 ⟨[],s,b,c.g⟩
def C'(ok:E.Ok)(h:R E i c v lv [] s b w)(l:0<=c.d)(o:c.d<=4)(hF:c.d<4->tf F (c.d+1))(p:oO F)(q:iK w)(f:gI s)(r:c.x<8)(j:c.y<8)(t:fX c.k)(z:0<=c.g)(B:c.g<=100000)(C:(b.length:Int)+c.g<=1000000): Ô À 191 #[Å<|Ã ⟨i,0,Ä⟩] w λe a=>e=È (é #[Â Æ (oh F c s b).1,Ò (oh F c s b).2.1])/\kJ E i v lv b.length w (oP c (oh F c s b).2.2.g) (oh F c s b).2.2.r (oh F c s b).2.2.s (oh F c s b).2.2.C a:=by
 have I:=h.r.r 0 _ U;have J:=h.r.r 2 _ U;have K:=h.C.MR j;have M:=h.r.M;have N:=fh.M h.C;have e:=(f.I c.y).1;have L:∀m,∀a,Dm i (s c.y).r 0 a->Î À (ã uI) (QQ<|SX E i c (s c.y).r v lv b.length w<|oh F c s b) a (w.drewN m):=λm a D=>by refine ď (SI E i c (s c.y).r F v lv b.length w<|oh F c s b) (λ_ w=>Dn i w) ?_ (alQ ok e (λn u=>S4 f c.y u) l o hF p r j t);have k:=fc.iN (λ_=>False) w m;exact⟨0,⟨[],s,b,c.g⟩,c.g.toNat+1,D,uJ,⟨v,lv,h.fL k,Tr.fL k⟩,⟨fj,fj,f,z,B,C⟩,q.r k id,fj,U⟩
 have H:=ff L;generalize oh F c s b=res at*;generalize O:(s c.y).r=P at*;go_enter Tryz.func191,Tryz.ntmps191;go_wp2_with fail;go_step3;go_wp2_with fail;go_quiet (fail);go_wp2_with fail;go_step3;go_wp2_with fail;refine à ?_ (H.out _ _ (gi _));rintro(_|(_|_)|_|_|_|_) a v hq;all_goals first|exact absurd hq id|skip
 let⟨n,G⟩:=hq;obtain⟨u,rfl⟩:=n;unfold z_;go_wp2_with fail;(try rw[Exit.noGoto_ret]);go_ret2;exact⟨U,(ff G).out⟩
end
def S9(a:o.op=bG T)(b:P.info? T=Ã zJ)(c:zJ.zero=Ã z): (į xX o).run P w=ay (.value<|Å<|Ã ⟨w.heap.size,0,Ä⟩) (w.alloc<|Ð z.cells T):=by unfold į;simp[a,Instr.alloc,zeroValue,typeInfo,b,c,newVar,newRow]
def MZ:∀(e a d:List Ç) (w:É) (c:List Ç),c.length=e.length->fh b (a++c++d) T w->fh b (a++e++d) T (w.setCells b a.length e)
 |[],a,d,w,c,hl,h=>by have:c=[]:=á (by simpa using hl);subst this;exact h
 |v::r,a,d,w,c,hl,h=>by
  match c,hl,h with
  |x::c,hl,h=>
   have f:=h.fZ a.length v;rw[show(a++x::c++d).set a.length v=(a++[v])++c++d by simp]at f;have:=MZ r (a++[v]) d _ c (by simpa using hl) f;rw[show(a++[v]).length=a.length+1 by simp]at this;rw[show a++v::r++d=a++[v]++r++d by simp];exact this
def NF.qC(h:NF b w)(p:ċ)(v:Ç):NF b (w.setCell p v):=λc T d q=>by
 by_cases e:b=p.block
 .subst e;unfold č at q;simp only[Ú,if_true]at q;cases a:w.heap[p.block]? with
  |none=>rw[a]at q;cases q
  |some f=>
   rw[a]at q;cases f with
   |cells g t z=>
    simp only[ì,ê,Į]at q;rw[<-q.2.1];exact h _ _ _ a
   |_=>cases q
 .rw[ĝ _ _ _ _ (by simpa using e)]at q;exact h c T d q
def Jg:∀(vs:List Ç) (o:Nat) (w:É),NF b w->fc (λk=>k=b) w (w.setCells b o vs)
 |[],_,w,_=>fc.fT _ w
 |v::r,o,w,h=>(fc.I (X:=λk=>k=b) (p:=⟨b,o,Ä⟩) U v<|Ü h).fg<|Jg r (o+1) _<|h.qC _ _
def fh.Ta{vs:List Ç}(h:fh j vs T w)(a:n<=vs.length):w.there j 0 n:=λi b=>by refine⟨?_,h.C _⟩;rw[h.r (0+i) (vs[0+i]'Z)<|Ñ Z];rfl
def fh.Y{vs tl:List Ç}(h:fh j (vs++tl) T w):w.rangeAt j 0 vs:=λi v a=>by apply h.r (0+i) v;rwa[ĸ,â (Ù.1 a).1]
def Tb{P:Program}{ops:Array Oper}{rest:List Oper}{o1 o2:Oper}{a:Act}{w:World}{Q:Exit->Act->World->Prop}(g1:o1.guard=none)(g2:o2.guard=none)(T:TypeId)(h1:o1.op=.alloc T)(d:Tmp)(hd:o1.dst=some d)(x y:Operand)(h2:o2.op=.store T x y)(mV:o2.dst=none) {i:TypeInfo} {z:Value} (hi:P.info? T=some i) (hz:i.zero=some z) (cs:List Value) (jH:i.size=cs.length) (rO:z.cells.size=cs.length) (hx:(a.put (some d)<|.pointer<|some ⟨w.heap.size,0,none⟩).eval x=.pointer (some ⟨w.heap.size,0,none⟩)) (hy:(a.put (some d)<|.pointer<|some ⟨w.heap.size,0,none⟩).eval y=.agg cs.toArray) (M0:∀v∈cs,v.oneCell'=true) (h:∀w',fh w.heap.size cs T w'->fc (λ_=>False) w w'->w'.heap.size=w.heap.size+1->wpList P ops Q rest (a.put (some d)<|.pointer<|some ⟨w.heap.size,0,none⟩) w') (hT:mb T=false:=by decide):wpList P ops Q (o1::o2::rest) a w:=by
 apply Ď g1 (Ã d) hd _ _ (S9 h1 hi hz);have hB:fh w.heap.size z.cells.toList T (w.alloc<|Ð z.cells T):=by have:=fh.N w z.cells.toList T;simpa using this
 refine Ŋ g2 T x y h2 w.heap.size 0 cs.toArray hx hy (hB.Ta<|by simp[rO]) (by rw[hi];simp[jH]) (Ķ M0) ?_;rw[mV];have hB2:=MZ cs [] [] (w.alloc<|Ð z.cells T) z.cells.toList (by simpa using rO) (by simpa using hB);refine h _ (by simpa using hB2) ?_ ?_
 .refine(fc.gE (λ_=>False) w _ _<|Û hT).C (Jg _ _ _<|hB.G hT) λk hk e=> ?_;omega
 .have:∀(vs:List Ç) (o:Nat) (w:É) (b:Nat),(w.setCells b o vs).heap.size=w.heap.size:=by
   intro vs
   induction vs with
   |nil=>intro o w b;rfl
   |cons v r ih=>intro o w b;rw[World.setCells,ih];simp
  simp[this]
section
variable{c:RC}{F:me}
structure zK(t:RT)(r:Int×Bool×RT):Prop where
 M:fX r.1
 s:gI r.2.2.s
 g0:0<=r.2.2.g
 C:r.2.2.g<=t.g
 I:(r.2.2.C.length:Int)+r.2.2.g<=t.C.length+t.g
def zK.r{t a:RT}{r:Int×Bool×RT}(h:zK a r)(b:a.g<=t.g)(c:(a.C.length:Int)+a.g<=t.C.length+t.g):zK t r:= ⟨h.M,h.s,h.g0,Α h.C b,Α h.I c⟩
def Jh(o:B.size<=40)(d:∀n,n<B.size->1<=kK B (n:Int))(h:oO F)(i:c.x<8)(j:c.y<8)(m:fX c.k):∀(p:Nat) (b:Int) (t:RT),fX b->nD t->zK t (tg F c B p b t)
 |0,_,t,_,ht=>⟨uJ,ht.s,ht.g0,Ø _,Ø _⟩
 |f+1,b,t,rC,ht=>by
  have M:=ht.g0;have g1:=ht.C;have hl:=ht.I;have N:=ht.M;have G:zK t (0,Ï,{t with g:=0}):=⟨uJ,ht.s,Ø _,M,by show(t.C.length:Int)+0<=_;omega⟩;unfold tg;by_cases H:b=B.size
  .rw[if_pos H];exact⟨uJ,ht.s,ht.g0,Ø _,Ø _⟩
  rw[if_neg H];by_cases I:(B.size:Int)<b
  .rwa[if_pos I]
  rw[if_neg I];have SU:=rC.1;obtain⟨n,rfl⟩:∃n:Nat,b=n:=⟨b.toNat,Z⟩;have O:n<B.size:=Z
  have k1:=d n O;have P:kK B (n:Int)<=22:=SY _;have u:=SZ P;let⟨Q,S,T,V,W,X⟩:=I9 _ _ u;have Y:kK B (n:Int)=1->48<=zH B (n:Int)/\zH B (n:Int)<=57:=S6;generalize kK B (n:Int)=k at*;generalize B':pB k=ro at*;let⟨a,v,w⟩:=ro;simp only at u Q S T V W X|-;by_cases z:lu t.g t.r.length a v w=Ï
  .rwa[if_pos z]
  rw[if_neg z];have oI:lu t.g t.r.length a v w=Ý:=by cases e:lu t.g t.r.length a v w with
   |true=>rfl
   |false=>exact absurd e z
  let⟨MX,Dl,S7⟩:=S5 oI;have C:fX ((n:Int)+1):=⟨Z,Z⟩;have J:∀{l:List Int},(∀p∈l,fX p)->l.length<=32->nD {t with r:=l,g:=t.g-a}:=λq1 q2=>⟨q1,q2,ht.s,by show 0<=t.g-a;omega,by show t.g-a<=100000;omega,by show(t.C.length:Int)+(t.g-a)<=1000000;omega⟩;have D:∀{l:List Int} {r:Int×Bool×RT},zK {t with r:=l,g:=t.g-a} r->zK t r:=λq=>q.r (by show t.g-a<=t.g;omega) (by show(t.C.length:Int)+(t.g-a)<=_;omega);by_cases p:k=1
  .rw[if_pos p];have:=Y p;subst p;refine D<|Jh o d h i j m f _ _ C<|J (rV ht.r<|vU ⟨Z,Z⟩) ?_;simp[iO]at u;simp;omega
  rw[if_neg p];by_cases E:k=17
  .rw[if_pos E];have K:=J (oe<|oe ht.r) (by rw[oQ,oQ];omega);split
   .exact D<|Jh o d h i j m f _ _ C K
   .exact D<|Jh o d h i j m f _ _ (rf ht.r) K
  rw[if_neg E];by_cases K:k=21
  .rw[if_pos K];exact⟨rf ht.r,ht.s,by show 0<=t.g-a;omega,by show t.g-a<=t.g;omega,by show(t.C.length:Int)+(t.g-a)<=_;omega⟩
  rw[if_neg K];by_cases L:k=22
  .rw[if_pos L];exact⟨uJ,ht.s,by show 0<=t.g-a;omega,by show t.g-a<=t.g;omega,by show(t.C.length:Int)+(t.g-a)<=_;omega⟩
  rw[if_neg L];let⟨d1,d2,d3⟩:=S2 (t:={t with g:=t.g-a}) h i j m Z Z E u U ⟨ht.r,ht.I,ht.s,by show 0<=t.g-a;omega,by show t.g-a<=100000;omega,by show(t.C.length:Int)+(t.g-a)<=1000000;omega⟩ N Dl S7;exact(Jh o d h i j m f _ _ C d1).r (Α d2<|by show t.g-a<=t.g;omega) d3
def D_{s:St}{a:List (Nat×Int)}(d:oO F)(b:gI s)(e:c.x<8)(f:c.y<8)(h:fX c.k)(i:0<=c.g)(j:c.g<=100000)(l:(a.length:Int)+c.g<=1000000):zK ⟨[],s,a,c.g⟩ (oh F c s a):= Jh (b.I c.y).1 (λn m=>S4 b c.y m) d e f h _ _ _ uJ ⟨fj,fj,b,i,j,l⟩
end
def alV:(À.underlying 144).map ľ=Ã Ý:=ft
def D':(À.info? 144).map (λi=>(i.size,i.zero.map (·.cells.size)))=Ã (145,Ã 145):=ft
def E_(h:(P.info? e).map (λi=>(i.size,i.zero.map (·.cells.size)))=Ã (n,Ã m)):∃i z,P.info? e=Ã i/\i.size=n/\i.zero=Ã z/\z.cells.size=m:=by let⟨i,a,h⟩:=Ì.1 h;simp only[Prod.mk.injEq,Ì]at h;let⟨b,z,c,d⟩:=h;exact⟨i,z,a,b,c,d⟩
def Td(s:St){lv:Ç}(b:lv.oneCell'=Ý):∀v∈iZ s lv,v.oneCell'=Ý:=λv c=>by
 obtain⟨i,a,rfl⟩:=List.getElem_of_mem c;rw[mG]at a;have:=I4 s lv a;rw[Ñ (by rwa[mG])]at this;injection this with this;rw[this];unfold rS qn;repeat' split
 all_goals first|exact b|rfl
def Te{t:Tmp}{d:TypeDesc}(h:s.results=#[.cell t T])(a:q.getD t Ĉ=Å (Ã ⟨b,0,Ä⟩))(c:w.rangeAt b 0 l)(e:P.underlying T=Ã d)(f:d.isRow=Ý)(g:(P.info? T).map (·.size)=Ã l.length): (aH s q).run P w=ay (ė l.toArray) w:=by rw[Ĺ]at a;simp only[aH,h];simp[a,asAddr,κ w b 0 T l d c e f g]
def Tf:(À.underlying 252).map ľ=Ã Ý:=ft
def Tg:(À.info? 252).map (·.size)=Ã 3:=ft
def alW{e:Array Ů}{f:List Ů}{a:ë}(i:o.guard=Ä)(d:ú)(x y:Ź)(j:o.op=.store d x y) (b:Nat) (c:List Ç) (k:a.eval x=Å (Ã ⟨b,0,Ä⟩)) (l:a.eval y=ė c.toArray) (m:w.there b 0 c.toArray.size) (n:(P.info? d).map (·.size)=Ã c.toArray.size) (p:c.toArray.all (·.oneCell')=Ý) (h:∀g,g=w.setCells b 0 c->bm P e vJ f (a.put o.dst Ĉ) g):bm P e vJ (o::f) a w:= Ŋ i d x y j b 0 c.toArray k l m n p<|h _ U
def tj(F:me)(c:RC)(s:St)(a:List (Nat×Int)):Dk:=
 ⟨c.g-(oh F c s a).2.2.g,(oh F c s a).2.1,(oh F c s a).1,if(oh F c s a).2.1 then(oh F c s a).2.2.s else s,if(oh F c s a).2.1 then(oh F c s a).2.2.C else a⟩
section
variable{E:iU}{c:RC}{lv:Ç}{s:St}{f:List (Nat×Int)}{F:me}
def F_(k:fc (λ_=>False) w u)(t:Tr E i (Ê Ä 0 0) lv n u x v f.length W)(o:w.heap.size<=i)(r:R E i c x v zQ s f W):im E lv n w s f W v:=by
 refine⟨r.C,r.M,?_,λj q=>(t.l j q).imp id λe=>ï k.M e,λb d g h m=>t.C b d g (ic h k λ_ _=>id) m⟩;refine(k.S λ_ _=>Ĥ).C t.r ?_;rintro a p (e|e|e|e)
 .exact Û e
 .omega
 .cases e
 .exact Ü e
def im.N{Y:Nat->Prop}(r:im E lv n w s f W v)(k:fc Y W jX)(m:∀i,Y i->w.heap.size<=i)(o:∀i d,Y i->W.heap[i]?≠Ã (Ð d 257 (0,0)))(p:¬Y E.r):im E lv n w s f jX v:=by
 have e:∀{a b c},W.ownsRow 0 257 2 a b c->jX.ownsRow 0 257 2 a b c:=λ{a b c} q=>ic q k λj t y=>by let⟨d,u⟩:=lF q t;exact o j d y u
 exact⟨r.r.I k p,e r.I,r.C.C k λi x y=>absurd (m i y) Z,r.l,λa b c g h=>⟨e (r.M a b c g h).1,(r.M a b c g h).2⟩⟩
def im.qM{a:St}{c:List (Nat×Int)}(ok:E.Ok)(m:w.ownsRow 0 257 2 lv c.length (ki c))(r:im E lv c.length w s f W v):im E lv c.length w a c (W.setCells E.r 0<|iZ a lv) lv:=by have k:=Jg (b:=E.r) (iZ a lv) 0 W<|fh.G r.r ok.C;have l:∀{d e g},W.ownsRow 0 257 2 d e g->(W.setCells E.r 0<|iZ a lv).ownsRow 0 257 2 d e g:=λ{d e g} q=>ic q k λj n y=>jA q r.r ok.r.symm (by rw[n,y]);have o:=MZ (T:=E.T) (b:=E.r) (iZ a lv) [] E.C W (iZ s v) (by rw[mG,mG]) (by have h:=r.r;unfold iB at h;simpa using h);refine⟨by unfold iB;simpa using o,l (r.M _ _ _ m λ_=>ß _).1,r.C.C k λi _ q=>Û q,λj q=>Û q,λd e g p h=>⟨l (r.M d e g p h).1,h⟩⟩
def F'(ok:E.Ok)(oH:0<=c.d)(hd:c.d<=4)(hF:c.d<4->tf F (c.d+1))(hI:oO F)(V:iB E.r E.T E.C s lv w)(Ti:w.ownsRow 0 257 2 lv f.length (ki f))(hr:iK w)(hs:gI s)(hx:c.x<8)(hy:c.y<8)(Je:fX c.k)(ua:0<=c.g)(uH:c.g<=100000)(hlen:(f.length:Int)+c.g<=1000000): Ô À 173 #[Å<|Ã ⟨E.r,0,Ä⟩,Â Ë c.x,Â Ë c.y,Â Æ c.g,Â Æ c.k,Â Ë c.d] w λe a=>
  e=È (ė #[Â Æ (tj F c s f).r,Ò (tj F c s f).C,Â Æ (tj F c s f).I])/\∃v,im E lv f.length w (tj F c s f).s (tj F c s f).M a v:=by
 let⟨dd,G_,H_⟩:=Ì.1 alV;let⟨i0,z0,Ji,jH,Jj,rO⟩:=E_ D';have M0:=Td s (lv:=lv) (by obtain⟨a,u,rfl⟩:=jh Ti;rfl);have gJ:=fh.M V;have I_:(À.info? 144).map (·.size)=Ã (iZ s lv).length:=by rw[Ji,mG];simp[jH]
 have k0:=fc.gE (λ_=>False) w #[Â Æ 0,Ò Ï,Â Æ 0] 252;have QX:(w.alloc<|Ð #[Â Æ 0,Ò Ï,Â Æ 0] 252).rangeAt E.r 0 (iZ s lv):=fh.Y<|V.I k0 id;have h:=ff<|Á G_<|Á H_<|Á I_<|Á QX<|Á Ji<|Á Jj<|Á (jH.trans (mG s lv).symm)<|Á (rO.trans (mG s lv).symm) M0;have H:=ff<|Á V<|Á Ti<|Á hr<|Á hF<|Á hI hs;clear G_ H_ Ji jH Jj rO M0 I_ QX V Ti hr hF hI hs k0;obtain⟨a,b,t,j0⟩:∃a b t,oh F c s f=(a,b,t):=⟨_,_,_,U⟩;have iH:tj F c s f=⟨c.g-t.g,b,a,if b then t.s else s,if b then t.C else f⟩:=by unfold tj;rw[j0]
 rw[iH];have M1:=D_ H.out.2.2.2.2.1 H.out.2.2.2.2.2 hx hy Je ua uH hlen;rw[j0]at M1;have tg0:0<=t.g:=M1.g0;have tg1:t.g<=c.g:=M1.C;clear M1;cases b with
 |true=>
  go_enter aI,ae;go_wp2_with (first
   |(with_reducible refine Ĝ U 144 _ U E.r 0 U (iZ s lv) dd h.out.2.2.2.1 h.out.1 h.out.2.1 h.out.2.2.1 ?_)
   |(with_reducible refine Tb U U 144 U 13 U _ _ U U h.out.2.2.2.2.1 h.out.2.2.2.2.2.1 (iZ s lv) h.out.2.2.2.2.2.2.1 h.out.2.2.2.2.2.2.2.1 U U h.out.2.2.2.2.2.2.2.2 ?_;intro l G z I))
  have J:l.heap.size=w.heap.size+1+1:=by simpa using I
  have K:fh (w.heap.size+1) (iZ s lv) 144 l:=by simpa using G
  have n:fc (λ_=>False) w (l.alloc<|Ð #[Å<|Ã ⟨E.r,0,Ä⟩,Â Ë c.x,Â Ë c.y,Â Æ c.k,Â Ë c.d,Â Æ c.g,Ê Ä 0 0] 282):=((fc.gE _ _ _ _).fg z).fg<|fc.gE _ _ _ _;have L:=fc.gE (λ_=>False) l #[Å<|Ã ⟨E.r,0,Ä⟩,Â Ë c.x,Â Ë c.y,Â Æ c.k,Â Ë c.d,Â Æ c.g,Ê Ä 0 0] 282;have M:R E (w.heap.size+1+1) c (Ê Ä 0 0) lv [] s f (l.alloc<|Ð #[Å<|Ã ⟨E.r,0,Ä⟩,Â Ë c.x,Â Ë c.y,Â Æ c.k,Â Ë c.d,Â Æ c.g,Ê Ä 0 0] 282):= ⟨by rw[<-J];exact fh.N l (qZ E.r c<|Ê Ä 0 0) 282,ć _ _ _ _,H.out.1.I n id,ic H.out.2.1 n λ_ _=>id⟩;have N:fh w.heap.size [Â Æ 0,Ò Ï,Â Æ 0] 252 l:=(fh.N w [Â Æ 0,Ò Ï,Â Æ 0] 252).I z id;have S:=C' (F:=F) ok M oH hd H.out.2.2.2.1 H.out.2.2.2.2.1 (H.out.2.2.1.r n id) H.out.2.2.2.2.2 hx hy Je ua uH hlen;rw[j0]at S;go_at_call 191;apply S.mono;clear S;rintro e W ⟨rfl,MW,M3,o,B⟩;have O:=F_ n B Z o;have C:∀{j:Nat} {D:List Ç} {T:ú},fh j D T l->w.heap.size<=j->fh j D T W:=λ{j D T} hB hj=>by
   refine(hB.I L id).I B.r ?_;have:=hB.M;rintro(q|q|q|q)
   .omega
   .omega
   .cases q
   .have:=(H.out.2.1.lt j q).2;omega
  have m:=C N<|ß _;have P:=C K Z;have e0:=m.r 0 _ U;have e1:=m.r 1 _ U;have e2:=m.r 2 _ U;have f0:=m.C 0;have f1:=m.C 1;have f2:=m.C 2;have g5:W.cell? ⟨w.heap.size+1+1,5,Ä⟩=Ã (Â Æ t.g):=o.r.r 5 _ U;have Zr:=o.r.M;have r:=ff<|Á O<|Á o<|Á m P;clear O o B m P C M N K n L G z I J;go_wp2_with fail;let⟨d2,mV,rN⟩:=Ì.1 Tf;have u:=((r.out.2.2.1.fZ 0<|Â Æ<|c.g-t.g).fZ 1<|Ò Ý).fZ 2<|Â Æ a;apply õ (Te U U (fh.Y (tl:=[]) (vs:=[Â Æ<|c.g-t.g,Ò Ý,Â Æ a]) u) mV rN Tg) U;refine⟨U,M3,r.out.1.N (Y:=λk=>k=w.heap.size) (((fc.I (X:=λk=>k=w.heap.size) (p:=⟨w.heap.size,0,Ä⟩) U _).fg<|fc.I (X:=λk=>k=w.heap.size) (p:=⟨w.heap.size,1,Ä⟩) U _).fg<|fc.I (X:=λk=>k=w.heap.size) (p:=⟨w.heap.size,2,Ä⟩) U _) (λi q=>by omega) (λi cur q Q=> ?_) Z⟩;have h0:W.heap[w.heap.size]?=_:=r.out.2.2.1;rw[q,h0]at Q;cases Q
 |false=>
  go_enter aI,ae;go_wp2_with (first
   |(with_reducible refine Ĝ U 144 _ U E.r 0 U (iZ s lv) dd h.out.2.2.2.1 h.out.1 h.out.2.1 h.out.2.2.1 ?_)
   |(with_reducible refine Tb U U 144 U 13 U _ _ U U h.out.2.2.2.2.1 h.out.2.2.2.2.2.1 (iZ s lv) h.out.2.2.2.2.2.2.1 h.out.2.2.2.2.2.2.2.1 U U h.out.2.2.2.2.2.2.2.2 ?_;intro l G z I))
  have J:l.heap.size=w.heap.size+1+1:=by simpa using I
  have K:fh (w.heap.size+1) (iZ s lv) 144 l:=by simpa using G
  have n:fc (λ_=>False) w (l.alloc<|Ð #[Å<|Ã ⟨E.r,0,Ä⟩,Â Ë c.x,Â Ë c.y,Â Æ c.k,Â Ë c.d,Â Æ c.g,Ê Ä 0 0] 282):=((fc.gE _ _ _ _).fg z).fg<|fc.gE _ _ _ _;have L:=fc.gE (λ_=>False) l #[Å<|Ã ⟨E.r,0,Ä⟩,Â Ë c.x,Â Ë c.y,Â Æ c.k,Â Ë c.d,Â Æ c.g,Ê Ä 0 0] 282;have M:R E (w.heap.size+1+1) c (Ê Ä 0 0) lv [] s f (l.alloc<|Ð #[Å<|Ã ⟨E.r,0,Ä⟩,Â Ë c.x,Â Ë c.y,Â Æ c.k,Â Ë c.d,Â Æ c.g,Ê Ä 0 0] 282):= ⟨by rw[<-J];exact fh.N l (qZ E.r c<|Ê Ä 0 0) 282,ć _ _ _ _,H.out.1.I n id,ic H.out.2.1 n λ_ _=>id⟩;have N:fh w.heap.size [Â Æ 0,Ò Ï,Â Æ 0] 252 l:=(fh.N w [Â Æ 0,Ò Ï,Â Æ 0] 252).I z id;have S:=C' (F:=F) ok M oH hd H.out.2.2.2.1 H.out.2.2.2.2.1 (H.out.2.2.1.r n id) H.out.2.2.2.2.2 hx hy Je ua uH hlen;rw[j0]at S;go_at_call 191;apply S.mono;clear S;rintro e W ⟨rfl,MW,M3,o,B⟩;have O:=F_ n B Z o;have C:∀{j:Nat} {D:List Ç} {T:ú},fh j D T l->w.heap.size<=j->fh j D T W:=λ{j D T} hB hj=>by
   refine(hB.I L id).I B.r ?_;have:=hB.M;rintro(q|q|q|q)
   .omega
   .omega
   .cases q
   .have:=(H.out.2.1.lt j q).2;omega
  have m:=C N<|ß _;have P:=C K Z;have e0:=m.r 0 _ U;have e1:=m.r 1 _ U;have e2:=m.r 2 _ U;have f0:=m.C 0;have f1:=m.C 1;have f2:=m.C 2;have g5:W.cell? ⟨w.heap.size+1+1,5,Ä⟩=Ã (Â Æ t.g):=o.r.r 5 _ U;have Zr:=o.r.M;have r:=ff<|Á O<|Á o<|Á m P;clear O o B m P C M N K n L G z I J;have rg:W.rangeAt (w.heap.size+1) 0 (iZ s lv):=fh.Y (tl:=[]) (by simpa using r.out.2.2.2);have th:W.there E.r 0 (iZ s lv).toArray.size:=by have:=r.out.1.r;unfold iB at this;exact this.Ta<|by simp only[ă,Ó,mG];omega
  have I':(À.info? 144).map (·.size)=Ã (iZ s lv).toArray.size:=by rw[h.out.2.2.1];simp
  have qR:=Ķ h.out.2.2.2.2.2.2.2.2;have HNF:=ff<|fh.G r.out.2.1.C ok.C;have HG:=ff<|Á rg<|Á th<|Á I' qR;clear rg th I' qR;go_wp2_with (first
   |(with_reducible refine Ĝ U 144 _ U (w.heap.size+1) 0 U (iZ s lv) dd HG.out.1 h.out.1 h.out.2.1 h.out.2.2.1 ?_)
   |(with_reducible refine alW U 144 _ _ U E.r (iZ s lv) U U HG.out.2.1 HG.out.2.2.1 HG.out.2.2.2 ?_;intro jX xO;have kb:fc (λk=>k=E.r) W jX:=(by rw[xO];exact Jg _ _ _ HNF.out);have u:=r.out.2.2.1.I kb Z;have p0:=u.r 0 _ U;have p1:=u.r 1 _ U;have p2:=u.r 2 _ U;have y0:=u.C 0;have y1:=u.C 1;have y2:=u.C 2;have Tk:=r.out.2.1.r.I kb Z;have p5:jX.cell? ⟨w.heap.size+1+1,5,Ä⟩=Ã (Â Æ t.g):=Tk.r 5 _ U;have hl4:=Tk.M;have J_:=ff u;clear kb u Tk;have HW:=ff xO;clear xO))
  let⟨d2,mV,rN⟩:=Ì.1 Tf;apply õ (Te U U (fh.Y (tl:=[]) (vs:=[Â Æ<|c.g-t.g,Ò Ï,Â Æ a])<|((J_.out.fZ 0<|Â Æ<|c.g-t.g).fZ 1<|Ò Ï).fZ 2<|Â Æ a) mV rN Tg) U;have u:im E lv f.length w s f jX lv:=by rw[HW.out];exact r.out.1.qM ok H.out.2.1
  refine⟨U,lv,u.N (Y:=λk=>k=w.heap.size) (((fc.I (X:=λk=>k=w.heap.size) (p:=⟨w.heap.size,0,Ä⟩) U _).fg<|fc.I (X:=λk=>k=w.heap.size) (p:=⟨w.heap.size,1,Ä⟩) U _).fg<|fc.I (X:=λk=>k=w.heap.size) (p:=⟨w.heap.size,2,Ä⟩) U _) (λi q=>by omega) (λi cur q Q=> ?_) Z⟩;rw[q,J_.out]at Q;cases Q
end
def FM:Nat->me
 |0=>λs a _ _ _ _=>⟨0,Ï,0,s,a⟩
 |n+1=>λs a x y g k=>tj (FM n) ⟨x,y,k,4-(n:Int),g⟩ s a
def alX{F:me}(d:oO F){c:RC}{s:St}{a:List (Nat×Int)}(b:gI s)(e:c.x<8)(f:c.y<8)(i:fX c.k)(j:0<=c.g)(l:c.g<=100000)(m:(a.length:Int)+c.g<=1000000):w_ a c.g (tj F c s a):=by
 have h:=D_ d b e f i j l m;have p:=h.g0;have n:=h.C;have o:=h.I;simp only at n o;unfold tj;refine⟨by simp only;omega,by simp only;omega,?_,h.M,?_⟩
 .simp only;split
  .exact h.s
  .exact b
 .simp only;split<;>omega
def Jk:∀n,oO<|FM n
 |0=>λs a x y g k b _ _ _ d _ _=>⟨Ø _,d,b,uJ,by show(a.length:Int)<=a.length+0;omega⟩
 |n+1=>λs a x y g k b d e f h i j=>alX (c:=⟨x,y,k,4-(n:Int),g⟩) (Jk n) b d e f h i j
def J':∀n,n<=3->tf (FM<|n+1) (4-(n:Int))
 |0,_=>λE a s t u x y g k w b d f i j l m o p r=>F' (c:=⟨x,y,k,4-((0:Nat):Int),g⟩) (F:=FM 0) a (show(0:Int)<=4-((0:Nat):Int) by decide) (show(4:Int)-((0:Nat):Int)<=4 by decide) (λq=>absurd q<|show¬(4:Int)-((0:Nat):Int)<4 by decide) (Jk 0) b d f i j l p m o r
 |n+1,h=>λE a s t u x y g k w b d f i j l m o p r=>by
  have e:(4:Int)-((n+1:Nat):Int)+1=4-(n:Int):=Z
  exact F' a (by show 0<=4-((n+1:Nat):Int);omega) (by show 4-((n+1:Nat):Int)<=4;omega) (λ_=>by show tf _ (4-((n+1:Nat):Int)+1);rw[e];exact(J' n Z)) (Jk<|n+1) b d f i j l p m o r
def gk:me:=FM 4
def M4:oO gk:=Jk 4
def K_:tf gk 1:=J' 3 A
def iB.nT{tl:List Ç}{s:St}(h:iB b T tl s v w)(k:fc X w u)(a:¬X b):iB b T tl s v u:=fh.I h k a
section
variable{E:iU}{lv:Ç}{w1:É}{s B d:St}{ls f r:List (Nat×Int)}
def im.fT(a:iB E.r E.T E.C s lv w)(b:w.ownsRow 0 257 2 lv ls.length (ki ls)):im E lv ls.length w s ls w lv:= ⟨a,b,fc.fT _ _,λ_ q=>Û q,λ_ _ _ c d=>⟨c,d⟩⟩
def im.fg(h:im E lv n w B f w1 v)(k:im E v f.length w1 d r u jQ):im E lv n w d r u jQ:=by
 refine⟨k.r,k.I,h.C.C k.C ?_,λj q=> ?_,λa b c g m=> ?_⟩
 .rintro i o (e|e)
  .exact Û e
  .exact Ü<|(h.l i e).resolve_right Z
 .rcases k.l j q with e|e
  .exact h.l j e
  .exact Ü<|ï h.C.M e
 .let⟨e,i⟩:=h.M a b c g m;exact k.M a b c e i
def im.fL(h:im E lv n w s ls w1 v)(k:fc (λ_=>False) w1 u):im E lv n w s ls u v:= h.N k (λ_=>Ĥ) (λ_ _=>Ĥ) id
def im.Y(ok:E.Ok)(h:im E lv n w s ls w1 v)(i:Nat)(k:iB E.r E.T E.C d v (w1.setCell ⟨E.r,i,Ä⟩ x)):im E lv n w d ls (w1.setCell ⟨E.r,i,Ä⟩ x) v:=by have e:=fc.I (X:=λk=>k=E.r) (p:=⟨E.r,i,Ä⟩) U x<|Ü<|fh.G h.r ok.C;have f:∀{a b c},w1.ownsRow 0 257 2 a b c->(w1.setCell ⟨E.r,i,Ä⟩ x).ownsRow 0 257 2 a b c:=λ{a b c} q=>ic q e λj o y=>jA q h.r ok.r.symm (by rw[o,y]);exact⟨k,f h.I,h.C.C e λi _ q=>Û q,h.l,λa b c g m=>⟨f (h.M a b c g m).1,(h.M a b c g m).2⟩⟩
def im.fu(ok:E.Ok)(h:im E lv n w s ls w1 v)(a:i<8)(x:Int):im E lv n w (s.fu i x) ls (w1.setCell ⟨E.r,i*18,Ä⟩<|Â Æ x) v:=h.Y ok _<|h.r.zE a x
def im.MR(ok:E.Ok)(h:im E lv n w s ls w1 v)(a:i<8)(x:ByteArray):im E lv n w (s.C i x) ls (w1.setCell ⟨E.r,i*18+1,Ä⟩<|Í x) v:=h.Y ok _<|h.r.akP a x
end
def xP(s:St)(x y:Nat)(n:Int):Bool×St:=
 if(s x).fu<n+10 then(Ï,s)else(Ý,(s.fu x<|(s x).fu-(n+10)).fu y<|wu<|(s.fu x ((s x).fu-(n+10)) y).fu+n)
section
variable{E:iU}{lv:Ç}{s:St}{ls:List (Nat×Int)}
def alY(ok:E.Ok)(c:iB E.r E.T E.C s lv w)(g:w.ownsRow 0 257 2 lv ls.length (ki ls))(f:gI s)(x y:Nat)(n:Int)(a:x<8)(d:y<8)(h:0<=n)(i:n<=1000000): Ô À 168 #[Å<|Ã ⟨E.r,0,Ä⟩,Â Ë x,Â Ë y,Â Æ n] w λe m=>e=È (Ò (xP s x y n).1)/\im E lv ls.length w (xP s x y n).2 ls m lv:=by
 have j:=c.fu a;have k:=fh.C c<|x*18;have l:=(f.fu x).1;have o:=(f.fu x).2;have p:∀m,((w.drewN m).setCell ⟨E.r,x*18,Ä⟩<|Â Æ<|(s x).fu-(n+10)).cell? ⟨E.r,y*18,Ä⟩=Ã (Â Æ (s.fu x ((s x).fu-(n+10)) y).fu):=λm=>((c.nT (fc.iN (λ_=>False) w m) id).zE a _).fu d;have q:∀m,((w.drewN m).setCell ⟨E.r,x*18,Ä⟩<|Â Æ<|(s x).fu-(n+10)).frozen? ⟨E.r,y*18,Ä⟩=Ï:=λm=>fh.C ((c.nT (fc.iN (λ_=>False) w m) id).zE a _) _;have r:=(c.zE a<|(s x).fu-(n+10)).fu d;have t:=fh.C (c.zE a<|(s x).fu-(n+10))<|y*18;have H:=ff<|im.fT c g;unfold xP;by_cases e:(s x).fu<n+10
 .rw[if_pos e];generalize(s x).fu=b at*;go_enter aJ,ag;go_wp2_with fail;go_ret;exact⟨U,H.out⟩
 .rw[if_neg e];generalize(s.fu x ((s x).fu-(n+10)) y).fu=b2 at*;generalize(s x).fu=b at*;go_enter aJ,ag;go_wp2_with fail;go_region;go_wp2_with fail;go_region;go_wp2_with fail;go_ret;refine⟨U,?_⟩;first
   |exact((H.out.fu ok a _).fu ok d _).fL<|fc.iN _ _ _
   |exact(((H.out.fL<|fc.iN _ _ _).fu ok a _).fu ok d _)
   |exact(((H.out.fL<|fc.fR _ _).fu ok a _).fL<|fc.fR _ _).fu ok d _
   |exact((H.out.fu ok a _).fu ok d _).still<|(Keep.drew _ _).trans<|Keep.drew _ _
end
def alZ(a:j5 w)(p:ċ)(n:Nat):j5 (w.freeze p n):=by
 unfold ĕ;split
 .exact a
 .intro i o h;simp only[Ú]at h;split at h
  .cases b:w.heap[i]? with
   |none=>rw[b]at h;cases h
   |some d=>
    have:=a _ _ b;rw[b]at h;cases d with
    |cells c t z=>simp only[ì,ê]at h;subst h;exact λx=>x
    |_=>exact absurd trivial this
  .exact a i o h
def L_(a:rR m w)(p:ċ)(n:Nat):rR m (w.freeze p n):=by
 unfold ĕ;split
 .exact a
 .intro i c T f e h b;simp only[Ú]at h;split at h
  .cases d:w.heap[i]? with
   |none=>rw[d]at h;cases h
   |some g=>
    rw[d]at h;cases g with
    |cells j t z=>
     simp only[ì,ê,Į]at h;rw[<-h.1];rw[<-h.2.1]at b;exact a _ _ _ _ e d b
    |_=>cases h
  .exact a i c T f e h b
def al0{w w1:World}{g:Nat}{cur Y:Array Value}{e:TypeId}{z:Nat×Nat}(hw:fc (λ_=>False) w w1)(hg:w1.heap[g]?=some (.cells cur e z))(atN:w.heap.size<=g)(he:mb e=false:=by decide):fc (λ_=>False) w (w1.setRow g Y):=by
 refine⟨by simpa using hw.M,λk hk _=>(Ġ w1 g k Y Z).trans<|hw.N k hk id,λal i o ho=> ?_,λm a i c T fr hm h hT=> ?_⟩;rotate_left
 .by_cases hi:i=g
  .subst hi;rw[Ĩ w1 i cur Y e z hg]at h;cases h;rw[he]at hT;cases hT
  .rw[Ġ w1 g i Y hi]at h;exact hw.Y m a i c T fr hm h hT
 by_cases hi:i=g
 .subst hi;rw[Ĩ w1 i cur Y e z hg]at ho;cases ho;exact λx=>x
 .rw[Ġ w1 g i Y hi]at ho;exact hw.gS al i o ho
def al1(b:fc (λ_=>False) w u)(e:w.heap.size<=p.block):fc (λ_=>False) w (u.freeze p n):=by
 refine⟨?_,λk c _=> ?_,λd=>alZ (b.gS d) p n,λm a=>L_ (b.Y m a) p n⟩
 .unfold ĕ;split
  .exact b.M
  .simpa using b.M
 .unfold ĕ;split
  .exact b.N k c id
  .simp only[Ú];rw[if_neg Z];exact b.N k c id
def Tl:(À.info? 5).map (λi=>(i.zero,i.size,i.bytes))=Ã (Ã<|Â br 0,1,1):=ft
def al2(n:Nat)(e:n<=1000000):∃M:Array Ç,M.size=n/\∀W:É,(Instr.makeSlice 107 (Â Ë (n:Int))<|Â Ë (n:Int)).run À W=ay (Ê (Ã ⟨W.heap.size,0,Ä⟩) n n) (W.alloc<|Ð M 5):=by let⟨i,a,b,c,d⟩:=ò Tl;refine⟨madeCells (Â br 0).cells<|(n:Int).toNat*i.size,by rw[size_madeCells,c];simp,λW=> ?_⟩;simpa using run_make W 107 5 i (Â br 0) Ă a b Ë Ë n n Z Z (by rw[d];omega) Z
def al3{M:Array Ç}(b:M.size=B.size)(c:W.heap[i]?=Ã (Ð M 5 (0,0))): (ah #[107,9] 3 #[Ê (Ã ⟨i,0,Ä⟩) B.size B.size,Í B]).run À W=ay (goInt B.size) (W.setRow i (û B.data.toList).toArray):=by let⟨a,d,_,e,_⟩:=ò Tl;have h:=Lib.run_copy_row_string W 107 9 3 5 i 0 B.size B.size B M 5 Ă (by rw[d];simp[e]) c (ß _) Z;simpa[List.drop_of_length_le,b]using h
def al4(d:B.size≠0)(m:B.size<=1000000)(c:W.heap[i]?=Ã (Ð (û B.data.toList).toArray 5 (0,0))): (ş #[177,3] 9 #[Å<|Ã ⟨i,0,Ä⟩,Â Ë (B.size:Int)]).run À W=ay (Í B) (W.freeze ⟨i,0,Ä⟩ B.size):=by
 let⟨a,f,_,k,_⟩:=ò Tl;have b:=Lib.size_eq B;have l:(û B.data.toList).toArray.size=B.size:=by rw[ă,ŧ,<-b]
 have h:=ņ W 177 3 9 5 ŵ (by simp[Program.cellsOf,f,k]) i B.size (by unfold Β;rw[c];simp only[l]) B.data.toList (by intro e;rw[e]at b;exact d b) Z Z (λj x e=>Lib.cells_of_row c _ j _<|by rw[List.take_of_length_le<|ß _];simp[û,e]);rwa[<-b]at h
def al5(s:ByteArray)(a:s.size<=1000000)(w:É):Ô À 196 #[Í s] w λe c=>e=È (Í s)/\fc (λ_=>False) w c:=by
 by_cases b:s.size=0
 .have d:=bL<|Array.eq_empty_of_size_eq_zero b;subst d;go_enter aK,ai;go_wp2;go_ret;exact⟨U,fc.fT _ _⟩
 .let⟨M,d,mk⟩:=al2 s.size a;have g:=al3 d<|ð w<|Ð M 5;have h:=al4 b a<|Ĩ (w.alloc<|Ð M 5) w.heap.size M (û s.data.toList).toArray 5 (0,0)<|ð w _;have f:=ff (al1 (p:=⟨w.heap.size,0,Ä⟩) (n:=s.size) (al0 (Y:=(û s.data.toList).toArray) (fc.gE (λ_=>False) w M 5) (ð w _)<|ß _)<|ß _);generalize(û s.data.toList).toArray=Y at*;go_enter aK,ai;go_wp2;go_ret;exact⟨U,f.out⟩
def al6(s:ByteArray)(a:s.size<=1000000)(w:É):Ô À 186 #[Í s] w λe b=>e=È (Í s)/\fc (λ_=>False) w b:=by go_enter Tryz.func186,Tryz.ntmps186;go_wp2_with (go_at_call 196;refine(al5 s a _).mono ?_;rintro e d ⟨rfl,c⟩);go_ret;exact⟨U,c⟩
def xR(s:St)(x:Nat)(p:ByteArray):Bool×St:=
 if(s x).fu<20 then(Ï,s)else(Ý,(s.fu x<|(s x).fu-20).C x p)
def zL{t u:Tmp}{cs:List Ç}{d:TypeDesc}(h:s.results=#[.cell t T,.tmp u])(a:q.getD t Ĉ=Å (Ã ⟨b,0,Ä⟩))(c:w.rangeAt b 0 cs)(e:P.underlying T=Ã d)(f:d.isRow=Ý)(g:(P.info? T).map (·.size)=Ã cs.length): (aH s q).run P w=ay (é #[ė cs.toArray,q.getD u Ĉ]) w:=by have i:=κ w b 0 T cs d c e f g;rw[Ĺ]at a;simp only[aH,h];simp[a,asAddr,i]
def Jl:(À.underlying 246).map ľ=Ã Ý:=ft
def Dp:(À.info? 246).map (·.size)=Ã 2:=ft
section
variable{E:iU}{lv:Ç}{s:St}{ls:List (Nat×Int)}
def al7(ok:E.Ok)(a:iB E.r E.T E.C s lv w)(h:w.ownsRow 0 257 2 lv ls.length (ki ls))(f:gI s)(x:Nat)(p:ByteArray)(c:x<8)(i:p.size<=1000000): Ô À 169 #[Å<|Ã ⟨E.r,0,Ä⟩,Â Ë x,Í p] w λe d=>e=È (Ò (xR s x p).1)/\im E lv ls.length w (xR s x p).2 ls d lv:=by
 have k:=fh.M a;have l:=a.fu c;have m:=fh.C a<|x*18;have n:=(f.fu x).1;have o:=(f.fu x).2;have q:(0:Int)<=(x:Int):=Z
 have r:(x:Int)<8:=Z
 have H:=ff<|im.fT a h;unfold xR;by_cases g:(s x).fu<20
 .rw[if_pos g];generalize(s x).fu=b at*;go_enter aL,aj;go_wp2_with fail;go_ret;exact⟨U,H.out⟩
 .rw[if_neg g];generalize(s x).fu=b at*;go_enter aL,aj;go_wp2_with fail;go_region;go_wp2_with fail;go_region_held3 (λ_=>True) (trivial) (first
    |(go_at_call 186;refine(al6 p i _).mono ?_;rintro e t ⟨rfl,j⟩;dsimp only;have d:=((H.out.fu ok c (b-20)).fL (fc.iN (λ_=>False) _ 2)).fL j;have u:=d.r.MR c;have v:=fh.C d.r (x*18+1)))
  go_wp2_with fail
  go_ret;exact⟨U,d.MR ok c p⟩
def zM(s:St)(ls:List (Nat×Int))(x y:Nat)(n k:Int):(Int×Bool)×Bool×St×List (Nat×Int):=
 if n<10\/400<n\/(s x).fu<n then((0,Ï),Ï,s,ls)
 else(((gk (s.fu x<|(s x).fu-n) ls x y (n-10) k).r+10,(gk (s.fu x<|(s x).fu-n) ls x y (n-10) k).C),Ý,
  (gk (s.fu x ((s x).fu-n)) ls x y (n-10) k).s.fu x (wu (((gk (s.fu x ((s x).fu-n)) ls x y (n-10) k).s x).fu+(n-((gk (s.fu x ((s x).fu-n)) ls x y (n-10) k).r+10)))),(gk (s.fu x ((s x).fu-n)) ls x y (n-10) k).M)
def al8(a:iB E.r E.T E.C s lv w)(c:w.ownsRow 0 257 2 lv ls.length (ki ls))(x y:Nat)(n k:Int)(d:x<8)(j:0<=n)(l:n<10\/400<n\/(s x).fu<n): Ô À 170 #[Å<|Ã ⟨E.r,0,Ä⟩,Â Ë x,Â Ë y,Â Æ n,Â Æ k] w λe H=>e=È (é #[ė #[Â Æ 0,Ò Ï],Ò Ï])/\im E lv ls.length w s ls H lv:=by
 have m:=fh.M a;have o:=a.fu d;have p:(0:Int)<=(x:Int):=Z
 have q:(x:Int)<8:=Z
 let⟨r,f,g⟩:=Ì.1 Jl;have H:=ff<|Á (im.fT a c)<|Á f g;generalize(s x).fu=b at*;by_cases h:n<10
 .go_enter ő,Ň;go_wp2_with fail;have e:=fc.gE (λ_=>False) w #[Â Æ 0,Ò Ï] 246;apply õ (zL U U (fh.Y (vs:=[Â Æ 0,Ò Ï])<|fh.N w [Â Æ 0,Ò Ï] 246) H.out.2.1 H.out.2.2 Dp) U;exact⟨U,H.out.1.fL e⟩
 .have t:=decide_eq_false h;by_cases i:400<n
  .go_enter ő,Ň;go_wp2_with fail;have e:=fc.gE (λ_=>False) w #[Â Æ 0,Ò Ï] 246;apply õ (zL U U (fh.Y (vs:=[Â Æ 0,Ò Ï])<|fh.N w [Â Æ 0,Ò Ï] 246) H.out.2.1 H.out.2.2 Dp) U;exact⟨U,H.out.1.fL e⟩
  .have u:=decide_eq_false i;have v:b<n:=Z
   go_enter ő,Ň;go_wp2_with fail;have e:=fc.gE (λ_=>False) w #[Â Æ 0,Ò Ï] 246;apply õ (zL U U (fh.Y (vs:=[Â Æ 0,Ò Ï])<|fh.N w [Â Æ 0,Ò Ï] 246) H.out.2.1 H.out.2.2 Dp) U;exact⟨U,H.out.1.fL e⟩
def al9(ok:E.Ok)(a:iB E.r E.T E.C s lv w)(l:w.ownsRow 0 257 2 lv ls.length (ki ls))(m:iK w)(g:gI s)(x y:Nat)(n k:Int)(c:x<8)(B:y<8)(D:fX k)(IK:10<=n)(vO:n<=400)(atO:n<=(s x).fu)(hlen:(ls.length:Int)+n<=1000000)(r:Dk)(o:r=gk (s.fu x<|(s x).fu-n) ls x y (n-10) k): Ô À 170 #[Å<|Ã ⟨E.r,0,Ä⟩,Â Ë x,Â Ë y,Â Æ n,Â Æ k] w λe t=>e=È (é #[ė #[Â Æ<|r.r+10,Ò r.C],Ò Ý])/\∃u,im E lv ls.length w (r.s.fu x<|wu<|(r.s x).fu+(n-(r.r+10))) r.M t u:=by
 have gJ:=fh.M a;have d1:=a.fu c;have f1:=fh.C a<|x*18;have hx0:(0:Int)<=(x:Int):=Z
 have AV:(x:Int)<8:=Z
 have b0:=(g.fu x).1;have b1:=(g.fu x).2;have v:gI (s.fu x<|(s x).fu-n):=g.r x ⟨Z,Z⟩;have h:=M4 _ ls x y (n-10) k v c B D Z Z Z;have F:=im.fT a l;have C:∀W j,im E lv ls.length w (s.fu x<|(s x).fu-n) ls W j->iK W->Ô À 173 #[Å<|Ã ⟨E.r,0,Ä⟩,Â Ë x,Â Ë y,Â Æ<|n-10,Â Æ k,Â Ë 1] W λe t=>e=È (ė #[Â Æ r.r,Ò r.C,Â Æ r.I])/\∃u,im E j ls.length W r.s r.M t u:=λW j G P=>by rw[o];exact K_ E ok _ j ls x y (n-10) k W G.r G.I P v c B Z Z D Z
 rw[<-o]at h;have u0:=h.C;have u1:=h.r;let⟨d2,I,J⟩:=Ì.1 Jl;have K:∀i,iK (w.setCell ⟨E.r,i,Ä⟩<|Â Æ<|(s x).fu-n):=λi=>m.r (fc.I (X:=λk=>k=E.r) U _) λq=>m.C a ok.N q.symm;have H:=ff<|Á F<|Á C<|Á K<|Á I<|Á J l;clear a l m g v h F C K I J o;generalize(s x).fu=b at*;have e1:decide (n<10)=Ï:=decide_eq_false Z;have e2:decide (400<n)=Ï:=decide_eq_false Z;have e3:decide (b<n)=Ï:=decide_eq_false Z;generalize Q:(r.s x).fu=b2;go_enter ő,Ň;go_wp2_with fail;have L:=(H.out.1.fu ok c<|b-n).fL (fc.gE (λ_=>False) _ #[Â Æ 0,Ò Ï] 246);go_at_call 173;refine(H.out.2.1 _ _ L<|(H.out.2.2.1 _).r (fc.gE (λ_=>False) _ _ _) id).mono ?_;rintro e S ⟨rfl,V,f⟩;have d:fh w.heap.size [Â Æ 0,Ò Ï] 246 S:=by
  have z:fh w.heap.size [Â Æ 0,Ò Ï] 246 ((w.setCell ⟨E.r,x*18,Ä⟩<|Â Æ<|b-n).alloc<|Ð #[Â Æ 0,Ò Ï] 246):=by have:=fh.N (w.setCell ⟨E.r,x*18,Ä⟩<|Â Æ<|b-n) [Â Æ 0,Ò Ï] 246;simpa using this
  refine z.I f.C ?_;rintro(q|q)
  .omega
  .have:=(H.out.2.2.2.2.2.lt _ q).2;omega
 have Y:=f.r.fu c;have z1:=fh.C f.r<|x*18;have CK:=fh.M f.r;have hl2:=d.M;have c0:=d.r 0 _ U;have c1:=d.r 1 _ U;have y0:=d.C 0;have y1:=d.C 1;have M:=ff<|Á (L.fg f) d;rw[Q]at Y;go_wp2_with fail;go_region;go_wp2_with fail;have q1:=M.out.1.fu ok c<|wu<|b2+(n-(r.r+10));have N:=M.out.2.I (fc.I (X:=λk=>k=E.r) (p:=⟨E.r,x*18,Ä⟩) U<|Â Æ<|wu<|b2+(n-(r.r+10))) Z;have q2:=q1.N ((fc.I (X:=λk=>k=w.heap.size) (p:=⟨w.heap.size,0,Ä⟩) U<|Â Æ<|r.r+10).fg<|fc.I (X:=λk=>k=w.heap.size) (p:=⟨w.heap.size,1,Ä⟩) U<|Ò r.C) (λi q=>by omega) (λi cur q O=>by have z:=N;rw[q,z]at O;cases O) Z;have z:∀W:É,∀O,fc (λ_=>False) W ((W.alloc<|Ð O 252).drew):=λW O=>(fc.gE _ _ _ _).fg<|fc.fR _ _;have hb:=(((N.fZ 0<|Â Æ<|r.r+10).fZ 1<|Ò r.C)).I (z _ #[Â Æ<|r.r+10,Ò r.C,Â Æ r.I]) id;apply õ (zL U U (fh.Y (vs:=[Â Æ<|r.r+10,Ò r.C]) hb) H.out.2.2.2.1 H.out.2.2.2.2.1 Dp) U;exact⟨U,V,q2.fL<|z _ _⟩
end
structure Tx where
 x:Nat
 y:Nat
 n:Int
 k:Int
 r:Int
 C:ByteArray
structure lT(a:Nat)(t:Tx)(w:É):Prop where
 b:∃cs fz,w.heap[a]?=Ã (Ð cs 200 fz)
 r:w.cell? ⟨a,0,Ä⟩=Ã (Â Ë t.x)
 C:w.cell? ⟨a,1,Ä⟩=Ã (Â Ë t.y)
 I:w.cell? ⟨a,2,Ä⟩=Ã (Â Ë t.n)
 M:w.cell? ⟨a,3,Ä⟩=Ã (Â Ë t.k)
 Y:w.cell? ⟨a,4,Ä⟩=Ã (Â Ë t.r)
 N:w.cell? ⟨a,5,Ä⟩=Ã (Í t.C)
structure Tx.Ok(t:Tx):Prop where
 x:t.x<8
 y:t.y<8
 I:0<=t.n
 M:t.n<1000000
 r:0<=t.k
 C:t.k<1000000
 N:t.C.size<=40/\∀c∈t.C.data.toList,xL c=Ý
def lT.G{t:Tx}(h:lT i t w):i<w.heap.size:=ä w _ h.r
def lT.S{t:Tx}(h:lT i t w)(k:fc X w u)(b:¬X i):lT i t u:=by let⟨c,d,e⟩:=h.b;exact⟨⟨c,d,by rwa[k.N i h.G b]⟩,k.r h.r b,k.r h.C b,k.r h.I b,k.r h.M b,k.r h.Y b,k.r h.N b⟩
def lT.iR{t:Tx}(h:lT i t w)(c:w.heap[j]?=Ã (Ð d T xJ))(e:T≠200):i≠j:=by rintro rfl;let⟨f,g,b⟩:=h.b;rw[c]at b;cases b;exact e U
def lT.xM{E:iU}{t:Tx}{s c:St}{ls b:List (Nat×Int)}(d:E.T≠200)(h:lT i t w)(e:iB E.r E.T E.C c v w)(f:w.ownsRow 0 257 2 v b.length (ki b))(r:im E v n w s ls u x):lT i t u:=by
 refine h.S r.C ?_;rintro(q|q)
 .exact h.iR e d q
 .let⟨j,g⟩:=lF f q;exact h.iR g A U
def mg(s:St)(ls:List (Nat×Int))(t:Tx):(Int×Bool)×Bool×St×List (Nat×Int):=
 if t.r=1 then((10,Ý),(xP s t.x t.y t.n).1,(xP s t.x t.y t.n).2,ls)
 else if t.r=2 then((20,Ý),(xR s t.x t.C).1,(xR s t.x t.C).2,ls)
 else zM s ls t.x t.y t.n t.k
def FN(a:0<=h)(b:h<1000000):Æ.wrap h=h:=by show wu h=h;exact akR a Z
def Jm(E:iU)(a:Ç)(n:Nat)(w:É)(o:(Int×Bool)×Bool×St×List (Nat×Int))(e:aN)(b:É):Prop:=
 e=È (é #[ė #[Â Æ o.1.1,Ò o.1.2],Ò o.2.1])/\∃c,im E a n w o.2.2.1 o.2.2.2 b c
def ama{E:iU}{s:St}{ls:List (Nat×Int)}(ok:E.Ok)(b:iB E.r E.T E.C s v w)(c:w.ownsRow 0 257 2 v ls.length (ki ls))(f:iK w)(g:gI s)(x y:Nat)(n k:Int)(d:x<8)(i:y<8)(j:fX k)(l:0<=n)(m:(ls.length:Int)+400<=1000000): Ô À 170 #[Å<|Ã ⟨E.r,0,Ä⟩,Â Ë x,Â Ë y,Â Æ n,Â Æ k] w (Jm E v ls.length w<|zM s ls x y n k):=by
 unfold zM;by_cases a:n<10\/400<n\/(s x).fu<n
 .rw[if_pos a];exact(al8 b c x y n k d l a).mono λe o h=>⟨h.1,v,h.2⟩
 .rw[if_neg a];exact al9 ok b c f g x y n k d i j Z Z Z Z _ U
def im.S{E:iU}{s:St}{ls:List (Nat×Int)}(k:fc (λ_=>False) w W)(r:im E v n W s ls u x):im E v n w s ls u x:= ⟨r.r,r.I,(k.S λ_ _=>Ĥ).C r.C λ_ _ q=>q,λj q=>(r.l j q).imp id λe=>ï k.M e,λa b c d f=>r.M a b c (ic d k λ_ _=>id) f⟩
section
variable{E:iU}{lv:Ç}{s:St}{ls:List (Nat×Int)}{a:Nat}{t:Tx}
def Tm{zv:Value}{w1:World}{n:Nat}{s1:St}{M_:List (Nat×Int)}(r:im E lv n w s1 M_ w1 zv)(hB:fh w.heap.size [.int .u64 0,.bool false] 246 w1)(hlb:E.r<w.heap.size)(v0 v1:Value)(hf0:kh v0=true:=by rfl)(hf1:kh v1=true:=by rfl): im E lv n w s1 M_ ((w1.setCell ⟨w.heap.size,0,none⟩ v0).setCell ⟨w.heap.size,1,none⟩ v1) zv/\fh w.heap.size [v0,v1] 246 ((w1.setCell ⟨w.heap.size,0,none⟩ v0).setCell ⟨w.heap.size,1,none⟩ v1):=by refine⟨r.N (Y:=λk=>k=w.heap.size) ((fc.I (X:=λk=>k=w.heap.size) (p:=⟨w.heap.size,0,Ä⟩) U v0<|Û hf0).fg<|fc.I (X:=λk=>k=w.heap.size) (p:=⟨w.heap.size,1,Ä⟩) U v1<|Û hf1) (λi q=>by omega) (λi cur q hc=> ?_) Z,(hB.fZ 0 v0).fZ 1 v1⟩;rw[q,hB]at hc;cases hc
def Tn{W:É}{a:St}{b:List (Nat×Int)}{cs:List Ç}(c:jX=(w.alloc<|Ð cs.toArray T).drewN 1\/jX=w.alloc (Ð cs.toArray T))(d:w.ownsRow 0 257 2 lv ls.length (ki ls))(f:E.r<w.heap.size)(r:im E lv n jX a b u v):fh w.heap.size cs T u:=by
 have e:fh w.heap.size cs T jX:=by
  rcases c with rfl|rfl
  .exact fh.N w cs T
  .exact fh.N w cs T
 refine e.I r.C ?_;rintro(q|q)
 .omega
 .have:=(d.lt _ q).2;omega
def amb(ok:E.Ok)(S:E.T≠200)(m:iB E.r E.T E.C s lv w)(o:w.ownsRow 0 257 2 lv ls.length (ki ls))(B:iK w)(D:gI s)(d:lT a t w)(f:t.Ok)(hlen:(ls.length:Int)+400<=1000000)(F:t.r=1): Ô À 154 #[Å<|Ã ⟨E.r,0,Ä⟩,Å<|Ã ⟨a,0,Ä⟩] w (Jm E lv ls.length w<|mg s ls t):=by
 have G:=fh.M m;have M':=d.G;have V:=d.r;have Y:=d.C;have c2:=d.I;have c3:=d.M;have c4:=d.Y;have c5:=d.N;have hn:=FN f.I f.M;have hk:=FN f.r f.C;let⟨d2,I,J⟩:=Ì.1 Jl;have L:=ff<|Á I J;clear I J;have h:=(fc.gE (λ_=>False) w #[Â Æ 0,Ò Ï] 246).fg<|fc.fR _ _;have u:=m.nT h id;have v:=ic o h λ_ _=>id;have c:=d.S h id;have RA:=B.r h id;rw[F]at c4;have M:mg s ls t=((10,Ý),(xP s t.x t.y t.n).1,(xP s t.x t.y t.n).2,ls):=by unfold mg;rw[if_pos F]
 rw[M];have C:=alY (ls:=ls) ok u v D t.x t.y t.n f.x f.y f.I (by have:=f.M;omega);have N:∀(l:É) (O:St) (P:List (Nat×Int)) (Q:Ç),im E lv ls.length _ O P l Q->lT a t l:=λl O P Q r=>lT.xM S c u v r;have H:=ff<|Á C<|Á o N;clear C N m o B D d f u v RA M;go_enter Γ,ű;go_wp2_with fail;have b:=ff<|Á c.r<|Á c.C<|Á c.I<|Á c.M c.N;clear V Y c2 c3 c5 c;refine mf (λe=>e.cell? ⟨a,0,Ä⟩=Ã (Â Ë t.x)/\e.cell? ⟨a,1,Ä⟩=Ã (Â Ë t.y)/\e.cell? ⟨a,2,Ä⟩=Ã (Â Ë t.n)/\e.cell? ⟨a,3,Ä⟩=Ã (Â Ë t.k)/\e.cell? ⟨a,5,Ä⟩=Ã (Í t.C)) [22] ft ?_;apply tk 0 b.out;apply tk 1 b.out;apply tk 2 b.out;apply tk 3 b.out;apply tk 4 b.out;apply tk 5 b.out;apply tk 6 b.out;apply tk 7 b.out;apply tk 8 b.out;apply tk 9 b.out;apply tk 10 b.out;apply tk 11 b.out;apply tk 12 b.out;apply tk 13 b.out;apply tk 14 b.out;apply tk 15 b.out;apply tk 16 b.out;apply tk 17 b.out;apply tk 18 b.out;apply tk 19 b.out;apply gD 20;intro K g;go_simp;go_at_call 168;apply H.out.1.mono;rintro e l ⟨rfl,z⟩;dsimp only;have c:=H.out.2.2 _ _ _ _ z;apply g.out _ _ λ_=>⟨c.r,c.C,c.I,c.M,c.N⟩;clear g K;have i:=Tn (W:=w) (cs:=[Â Æ 0,Ò Ï]) (Û U) H.out.2.1 G z;have e0:=i.r 0 _ U;have e1:=i.r 1 _ U;have y0:=i.C 0;have y1:=i.C 1;have j:=c.S ((fc.I (X:=λk=>k=w.heap.size) (p:=⟨w.heap.size,0,Ä⟩) U<|Â Æ 10).fg<|fc.I (X:=λk=>k=w.heap.size) (p:=⟨w.heap.size,1,Ä⟩) U<|Ò Ý) Z;apply gD 21;intro K g;go_simp;apply g.out _ _ λ_=>⟨j.r,j.C,j.I,j.M,j.N⟩;clear g K;apply gD 22;intro K g;go_simp;apply g.out _ _ λq=>absurd fj q;clear g K;try simp only[ł,Õ,æ,ç]
 refine lS ft ?_ _;go_wp2_with fail;let⟨q,q2⟩:=Tm (im.S h z) i G (Â Æ 10)<|Ò Ý;apply õ (zL U U (fh.Y (tl:=[]) (vs:=[Â Æ 10,Ò Ý]) q2) L.out.1 L.out.2 Dp) U;exact⟨U,lv,q⟩
def amc(ok:E.Ok)(S:E.T≠200)(m:iB E.r E.T E.C s lv w)(o:w.ownsRow 0 257 2 lv ls.length (ki ls))(B:iK w)(D:gI s)(d:lT a t w)(g:t.Ok)(hlen:(ls.length:Int)+400<=1000000)(F:t.r=2): Ô À 154 #[Å<|Ã ⟨E.r,0,Ä⟩,Å<|Ã ⟨a,0,Ä⟩] w (Jm E lv ls.length w<|mg s ls t):=by
 have G:=fh.M m;have M':=d.G;have V:=d.r;have Y:=d.C;have c2:=d.I;have c3:=d.M;have c4:=d.Y;have c5:=d.N;have hn:=FN g.I g.M;have hk:=FN g.r g.C;let⟨d2,I,J⟩:=Ì.1 Jl;have L:=ff<|Á I J;clear I J;have h:=(fc.gE (λ_=>False) w #[Â Æ 0,Ò Ï] 246).fg<|fc.fR _ _;have u:=m.nT h id;have v:=ic o h λ_ _=>id;have b:=d.S h id;have RA:=B.r h id;rw[F]at c4;have M:mg s ls t=((20,Ý),(xR s t.x t.C).1,(xR s t.x t.C).2,ls):=by unfold mg;rw[if_neg Z,if_pos F]
 rw[M];have C:=al7 (ls:=ls) ok u v D t.x t.C g.x (by have:=g.N.1;omega);have N:∀(l:É) (O:St) (P:List (Nat×Int)) (Q:Ç),im E lv ls.length _ O P l Q->lT a t l:=λl O P Q r=>lT.xM S b u v r;have H:=ff<|Á C<|Á o N;clear C N m o B D d g u v RA M;go_enter Γ,ű;go_wp2_with fail;have c:=ff<|Á b.r<|Á b.C<|Á b.I<|Á b.M b.N;clear V Y c2 c3 c5 b;refine mf (λe=>e.cell? ⟨a,0,Ä⟩=Ã (Â Ë t.x)/\e.cell? ⟨a,1,Ä⟩=Ã (Â Ë t.y)/\e.cell? ⟨a,2,Ä⟩=Ã (Â Ë t.n)/\e.cell? ⟨a,3,Ä⟩=Ã (Â Ë t.k)/\e.cell? ⟨a,5,Ä⟩=Ã (Í t.C)) [15] ft ?_;apply tk 0 c.out;apply tk 1 c.out;apply tk 2 c.out;apply tk 3 c.out;apply tk 4 c.out;apply tk 5 c.out;apply tk 6 c.out;apply tk 7 c.out;apply tk 8 c.out;apply tk 9 c.out;apply tk 10 c.out;apply tk 11 c.out;apply tk 12 c.out;apply gD 13;intro K f;go_simp;go_at_call 169;apply H.out.1.mono;rintro e l ⟨rfl,z⟩;dsimp only;have b:=H.out.2.2 _ _ _ _ z;apply f.out _ _ λ_=>⟨b.r,b.C,b.I,b.M,b.N⟩;clear f K;have i:=Tn (W:=w) (cs:=[Â Æ 0,Ò Ï]) (Û U) H.out.2.1 G z;have e0:=i.r 0 _ U;have e1:=i.r 1 _ U;have y0:=i.C 0;have y1:=i.C 1;have j:=b.S ((fc.I (X:=λk=>k=w.heap.size) (p:=⟨w.heap.size,0,Ä⟩) U<|Â Æ 20).fg<|fc.I (X:=λk=>k=w.heap.size) (p:=⟨w.heap.size,1,Ä⟩) U<|Ò Ý) Z;apply gD 14;intro K f;go_simp;apply f.out _ _ λ_=>⟨j.r,j.C,j.I,j.M,j.N⟩;clear f K;apply gD 15;intro K f;go_simp;apply f.out _ _ λq=>absurd fj q;clear f K;try simp only[ł,Õ,æ,ç]
 refine lS ft ?_ _;go_wp2_with fail;let⟨q,q2⟩:=Tm (im.S h z) i G (Â Æ 20)<|Ò Ý;apply õ (zL U U (fh.Y (tl:=[]) (vs:=[Â Æ 20,Ò Ý]) q2) L.out.1 L.out.2 Dp) U;exact⟨U,lv,q⟩
def amd(ok:E.Ok)(X:E.T≠200)(m:iB E.r E.T E.C s lv w)(p:w.ownsRow 0 257 2 lv ls.length (ki ls))(B:iK w)(D:gI s)(f:lT a t w)(d:t.Ok)(Y:(ls.length:Int)+400<=1000000)(F:t.r≠1)(G:t.r≠2): Ô À 154 #[Å<|Ã ⟨E.r,0,Ä⟩,Å<|Ã ⟨a,0,Ä⟩] w (Jm E lv ls.length w<|mg s ls t):=by
 have I:=fh.M m;have M':=f.G;have c0:=f.r;have c1:=f.C;have c2:=f.I;have c3:=f.M;have c4:=f.Y;have c5:=f.N;have hn:=FN d.I d.M;have hk:=FN d.r d.C;let⟨d2,J,L⟩:=Ì.1 Jl;have M:=ff<|Á J L;clear J L;have h:=(fc.gE (λ_=>False) w #[Â Æ 0,Ò Ï] 246).fg<|fc.fR _ _;have u:=m.nT h id;have v:=ic p h λ_ _=>id;have c:=f.S h id;have N:=B.r h id;have z1:(t.r==1)=Ï:=by rwa[beq_eq_false_iff_ne]
 have z2:(t.r==2)=Ï:=by rwa[beq_eq_false_iff_ne]
 have O:mg s ls t=zM s ls t.x t.y t.n t.k:=by unfold mg;rw[if_neg F,if_neg G]
 rw[O];have C:=ama (ls:=ls) ok u v N D t.x t.y t.n t.k d.x d.y ⟨d.r,by have:=d.C;omega⟩ d.I Y;have P:∀(j:É) (Q:St) (S:List (Nat×Int)) (l:Ç),im E lv ls.length _ Q S j l->lT a t j:=λj Q S l r=>lT.xM X c u v r;have H:=ff<|Á C<|Á p P;clear C P m p B D f d u v N O;generalize zM s ls t.x t.y t.n t.k=o at*;go_enter Γ,ű;go_wp2_with fail;have b:=ff<|Á c.r<|Á c.C<|Á c.I<|Á c.M c.N;clear c0 c1 c2 c3 c5 c;refine mf (λe=>e.cell? ⟨a,0,Ä⟩=Ã (Â Ë t.x)/\e.cell? ⟨a,1,Ä⟩=Ã (Â Ë t.y)/\e.cell? ⟨a,2,Ä⟩=Ã (Â Ë t.n)/\e.cell? ⟨a,3,Ä⟩=Ã (Â Ë t.k)/\e.cell? ⟨a,5,Ä⟩=Ã (Í t.C)) [26,27] ft ?_;apply tk 0 b.out;apply tk 1 b.out;apply tk 2 b.out;apply tk 3 b.out;apply tk 4 b.out;apply tk 5 b.out;apply tk 6 b.out;apply tk 7 b.out;apply tk 8 b.out;apply tk 9 b.out;apply tk 10 b.out;apply tk 11 b.out;apply tk 12 b.out;apply tk 13 b.out;apply tk 14 b.out;apply tk 15 b.out;apply tk 16 b.out;apply tk 17 b.out;apply tk 18 b.out;apply tk 19 b.out;apply tk 20 b.out;apply tk 21 b.out;apply tk 22 b.out;apply gD 23;intro K g;go_simp;go_at_call 170;apply H.out.1.mono;rintro e j ⟨rfl,l,z⟩;dsimp only;have c:=H.out.2.2 _ _ _ _ z;apply g.out _ _ λ_=>⟨c.r,c.C,c.I,c.M,c.N⟩;clear g K;have i:=Tn (W:=w) (cs:=[Â Æ 0,Ò Ï]) (Û U) H.out.2.1 I z;have e0:=i.r 0 _ U;have e1:=i.r 1 _ U;have y0:=i.C 0;have y1:=i.C 1;have V:=Á c.r<|Á c.C<|Á c.I<|Á c.M c.N;have b:=ff V;clear V c;apply tk 24 b.out;apply tk 25 b.out;apply gD 26;intro K g;go_simp;apply g.out _ _ λq=>absurd fj q;clear g K;apply gD 27;intro K g;go_simp;apply g.out _ _ λq=>absurd fj q;clear g K;try simp only[ł,Õ,æ,ç]
 refine lS ft ?_ _;go_wp2_with fail;let⟨q,q2⟩:=Tm (im.S h z) i I (Â Æ o.1.1)<|Ò o.1.2;apply õ (zL U U (fh.Y (tl:=[]) (vs:=[Â Æ o.1.1,Ò o.1.2]) q2) M.out.1 M.out.2 Dp) U;exact⟨U,l,q⟩
def N_(ok:E.Ok)(b:E.T≠200)(c:iB E.r E.T E.C s lv w)(d:w.ownsRow 0 257 2 lv ls.length (ki ls))(e:iK w)(f:gI s)(g:lT a t w)(h:t.Ok)(i:(ls.length:Int)+400<=1000000): Ô À 154 #[Å<|Ã ⟨E.r,0,Ä⟩,Å<|Ã ⟨a,0,Ä⟩] w (Jm E lv ls.length w<|mg s ls t):=by
 by_cases j:t.r=1
 .exact amb ok b c d e f g h i j
 .by_cases k:t.r=2
  .exact amc ok b c d e f g h i k
  .exact amd ok b c d e f g h i j k
end
def N':∀(d a b c:List Ç) (k:Nat),b.length=d.length->(d.zipIdx k).foldl (λ(q:Array Ç) (p:Value×Nat)=>q.setIfInBounds (a.length-k+p.2) p.1) (a++b++c).toArray=(a++d++c).toArray\/a.length<k
 |[],a,b,c,k,h=>by have:b=[]:=á (by simpa using h);subst this;exact Û U
 |v::r,a,b,c,k,h=>by
  rcases ğ a.length k with q|q
  .exact Ü q
  .match b,h with
   |x::b,h=>
    apply Û;have p:=(N' r (a++[v]) b c (k+1)<|by simpa using h).resolve_right (by simp;omega);simp only[List.zipIdx_cons,List.foldl_cons];rw[show a.length-k+k=a.length by omega,Õ,show(a++x::b++c).set a.length v=a++[v]++b++c by simp];rw[show(a++[v]).length-(k+1)=a.length-k by simp]at p;rw[p];simp
def M5{place:Nat->Option (Nat×Nat)}{pre old suf:List Ç}{rest:List (Nat×Value)}(a:place i=Ã (pre.length,n))(b:v.cells.size=n)(c:old.length=n): Ŀ place (pre++old++suf).toArray ((i,v)::rest)=Ŀ place (pre++v.cells.toList++suf).toArray rest:=by rw[Instr.fill.eq_2];simp only[a];rw[if_neg (by simp only[ă,Ó,Bool.or_eq_true,decide_eq_true_eq,not_or];omega)];have:=(N' v.cells.toList pre old suf 0<|by rw[c,ĵ,b]).resolve_right Z;simp only[Nat.sub_zero]at this;rw[<-this,<-Array.foldl_toList,Array.toList_zipIdx]
def ame:((À.info? 144).bind (·.zero)).map (λz=>z.cells.toList.drop 144)=Ã [Ê Ä 0 0]:=ft
def amf:((À.info? 144).bind (·.zero)).map (λz=>z.cells.size)=Ã 145:=ft
def O_:((À.info? 147).bind (·.zero)).map (λz=>z.cells.toList.drop 145)=Ã [Â Ë 0,Ê Ä 0 0]:=ft
def P_:((À.info? 147).bind (·.zero)).map (λz=>z.cells.size)=Ã 147:=ft
def M6(P:aV)(t:ú):Option (List<|Nat×Nat):=match P.underlying t with
 |some (.struct fs)=>fs.toList.mapM λf=>(P.info? f.type).map λi=>(f.offset,i.size)
 |_=>Ä
def amg:M6 À 144=Ã [(0,144),(144,1)]:=ft
def P':M6 À 147=Ã [(0,145),(145,1),(146,1)]:=ft
def To{c:List (Nat×Nat)}(a:M6 P t=Ã c)(b:(P.info? t).bind (·.zero)=Ã z)(e:List (Nat×Value)):P.built t e=Ŀ (c.toArray[·]?) z.cells e:=by
 unfold M6 at a;unfold Program.built;cases f:P.info? t with
 |none=>rw[f]at b;cases b
 |some h=>
  rw[f]at b;have b:h.zero=Ã z:=b;cases g:P.underlying t with
  |none=>rw[g]at a;cases a
  |some d=>
   rw[g]at a;cases d<;>first|(cases a;done)|skip
   simp only at a;simp only[b,a]
def Tp{suf:List Ç}(h:((P.info? t).bind (·.zero)).map (λz=>z.cells.toList.drop n)=Ã suf)(a:((P.info? t).bind (·.zero)).map (λz=>z.cells.size)=Ã m)(d:n<=m):∃z old,(P.info? t).bind (·.zero)=Ã z/\old.length=n/\z.cells=(old++suf).toArray:=by
 let⟨z,b,c⟩:=Ì.1 h;rw[b]at a;have a:z.cells.size=m:=by injection a
 refine⟨z,z.cells.toList.take n,b,by rw[Λ,ĵ,a];omega,?_⟩;rw[<-c,List.take_append_drop]
def amh(h:l.length=144):À.built 144 [(0,ė l.toArray)]=Ã (l++[Ê Ä 0 0]).toArray:=by let⟨z,d,a,b,c⟩:=Tp ame amf A;rw[To amg a,c];have:=M5 (place:=λi=>[(0,144),(144,1)].toArray[i]?) (pre:=[]) (suf:=[Ê Ä 0 0]) (i:=0) (v:=ė l.toArray) (rest:=[]) U (by show l.toArray.size=144;simp[h]) b;simpa[Ŀ,ī]using this
def ami(h:l.length=145)(a:v.cells=#[v]):À.built 147 [(0,ė l.toArray),(1,v)]=Ã (l++[v,Ê Ä 0 0]).toArray:=by let⟨z,g,c,d,f⟩:=Tp O_ P_ A;rw[To P' c,f];have b:=M5 (place:=λi=>[(0,145),(145,1),(146,1)].toArray[i]?) (pre:=[]) (suf:=[Â Ë 0,Ê Ä 0 0]) (i:=0) (v:=ė l.toArray) (rest:=[(1,v)]) U (by show l.toArray.size=145;simp[h]) d;simp only[Ř]at b;rw[b];have e:(ė l.toArray).cells.toList=l:=rfl;rw[e];rw[show(l++[Â Ë 0,Ê Ä 0 0])=l++[Â Ë 0]++[Ê Ä 0 0] by simp,(M5 (place:=λi=>[(0,145),(145,1),(146,1)].toArray[i]?) (old:=[Â Ë 0]) (suf:=[Ê Ä 0 0]) (i:=1) (rest:=[]) (by show Ã (145,1)=Ã (l.length,1);rw[h]) (by rw[a];rfl) U)];simp[Ŀ,a]
def iq(s:St):List Ç:=(Đ 144).map<|qn s
def rW(s:St):(iq s).length=144:=by simp[iq]
def zN(s:St)(lv:Ç):iZ s lv=iq s++[lv]:=by unfold iZ iq;rw[Ś,ś];rw[(List.map_congr_left λi a=>qo s lv<|by simpa using a)];simp[I6]
def Q_(a:o.op=.box T qQ)(b:xX qQ=ė d):(į xX o).run P w=ay (.value<|Å<|Ã ⟨w.heap.size,0,Ä⟩) (w.alloc<|Ð d T):=by unfold į;simp[a,b,Instr.box,newVar,newRow,ī]
def Tq{a:Array (Nat×Operand)}(b:o.op=π T a)(h:P.built T (a.map λ(i,x)=>(i,xX x)).toList=Ã d):(į xX o).run P w=ay (.value<|ė d) w:=by have:=run_build w T (a.map λ(i,x)=>(i,xX x)) d h;unfold į;simp only[b];simp[this]
def Ts(a:o.op=π 144 #[(0,qQ)])(b:xX qQ=ė l.toArray)(c:l.length=144):(į xX o).run À w=ay (.value<|ė (l++[Ê Ä 0 0]).toArray) w:=by apply Tq a;simp only[ĉ,Ě,ġ,b];exact amh c
def amj{y:Ź}(a:o.op=π 147 #[(0,qQ),(1,y)])(b:xX qQ=ė l.toArray)(c:xX y=v)(d:l.length=145)(e:v.cells=#[v]):(į xX o).run À w=ay (.value<|ė (l++[v,Ê Ä 0 0]).toArray) w:=by apply Tq a;simp only[ĉ,Ě,ġ,b,c];exact ami d e
def Tt:(À.underlying 140).map ľ=Ã Ý:=ft
def Q':(À.info? 140).map (·.size)=Ã 144:=ft
structure mh(vb:Nat)(s:St)(h:Int)(w:É):Prop where
 C:w.rangeAt vb 0 (iq s)
 h:w.cell? ⟨vb,145,Ä⟩=Ã (Â Ë h)
def mh.r{s:St}(a:mh i s h w)(k:fc X w u)(b:¬X i):mh i s h u:= ⟨λj v c=>k.r (a.C j v c) b,k.r a.h b⟩
def uK(l:List (Int×Bool)):List Ç:=l.flatMap λp=>[Â Æ p.1,Ò p.2]
structure NX(B:Nat)(h:Int)(lv uv:Ç)(s:St)(ls:List (Nat×Int))(us:List (Int×Bool))(w0 w:É):Prop where
 r:iB B 147 [Â Ë h,uv] s lv w
 C:w.ownsRow 0 257 2 lv ls.length (ki ls)
 I:w.ownsRow 0 246 2 uv us.length (uK us)
 M:fc (λ_=>False) w0 w
 N:w0.heap.size<=B
 S:∀j,lv.ownBlock=Ã j->w0.heap.size<=j
 Y:∀j,uv.ownBlock=Ã j->w0.heap.size<=j
def NX.iW(w:É)(s:St)(h:Int):NX w.heap.size h (Ê Ä 0 0) (Ê Ä 0 0) s [] [] w ((Ċ w<|Ð (iq s++[Ê Ä 0 0,Â Ë h,Ê Ä 0 0]).toArray 147).drew):=by refine⟨?_,ć _ _ _ _,ć _ _ _ _,(fc.gE _ _ _ _).fg<|fc.fR _ _,ß _,(λj q=>nomatch q),(λj q=>nomatch q)⟩;unfold iB;rw[zN,show iq s++[Ê Ä 0 0]++[Â Ë h,Ê Ä 0 0]=iq s++[Ê Ä 0 0,Â Ë h,Ê Ä 0 0] by simp];exact fh.N w _ 147
noncomputable def Jn:Ş:=(Tryz.f115.body.bind ko).getD Ń
def zO(c m B:Nat)(a:Option ċ)(n b:Nat)(i:Int)(u:Nat->Ç):ë:=⟨#[Å<|Ã ⟨c,0,Ä⟩,Â Ë m,Ê a n b,Ĉ,Ĉ,Ĉ,Å Ä,Å<|Ã ⟨B,0,Ä⟩,u 8,u 9,u 10,u 11,u 12,u 13,u 14,u 15,u 16,u 17,u 18,u 19,u 20,u 21,u 22,u 23,u 24,Ê a n b,Â Ë n,Â Ë i,u 28,u 29,u 30,u 31,u 32,u 33,u 34,u 35,u 36,u 37,u 38,u 39,u 40,u 41,u 42,u 43,u 44,u 45,u 46,u 47,u 48,u 49,u 50,u 51,u 52,u 53,u 54,u 55,u 56,u 57,u 58,u 59,u 60,u 61,u 62,u 63,u 64,u 65,u 66,u 67,u 68,u 69,u 70,u 71,u 72,u 73,u 74,u 75,u 76,u 77,u 78,u 79,u 80,u 81,u 82],[]⟩
def Jo(b m B:Nat)(c:Option ċ)(n d:Nat)(i:Int)(a:ë):Prop:=∃u,a=zO b m B c n d i u
def QN(X Y:ë->É->Prop):bq->ë->É->Prop
 |.exit 0,a,w=>X a w
 |.ret,a,w=>Y a w
 |_,_,_=>False
section
variable{lv:Ç}{s d:St}{ls f:List (Nat×Int)}{c:List (Int×Bool)}
def Tv(j:Nat)(h:Int)(x:Ç):iU:=⟨j,147,[Â Ë h,x]⟩
def Tw(j:Nat)(h:Int)(x:Ç):(Tv j h x).Ok:=⟨by show(147:Nat)≠36;decide,by show(147:Nat)≠257;decide,by show(147:Nat)≠282;decide,by show(147:Nat)≠300;decide,by show(147:Nat)≠252;decide,by show(147:Nat)≠246;decide⟩
def NX.fL(a:NX j h lv x s ls c u w)(k:fc (λ_=>False) w W):NX j h lv x s ls c u W:= ⟨a.r.nT k id,ic a.C k λ_ _=>id,ic a.I k λ_ _=>id,a.M.fg k,a.N,a.S,a.Y⟩
def NX.xM(a:NX j h lv x s ls c u w)(r:im (Tv j h x) lv ls.length w d f W v):NX j h v x d f c u W:=by
 have k:=a.r;refine⟨r.r,r.I,ic a.I r.C ?_,a.M.C r.C ?_,a.N,λb q=> ?_,a.Y⟩
 .rintro b i (q|q)
  .let⟨m,g⟩:=lF a.I i;have e:b=j:=q;rw[e,k]at g;cases g
  .exact akI a.I a.C A i q
 .rintro i g (q|q)
  .have:=a.N;have e:i=j:=q;omega
  .have:=a.S i q;omega
 .rcases r.l b q with e|e
  .exact a.S b e
  .exact ï a.M.M e
def NX.fu(a:NX j h lv x s ls c u w)(b:i<8)(v:Int):NX j h lv x (s.fu i v) ls c u (w.setCell ⟨j,i*18,Ä⟩<|Â Æ v):= a.xM<|(im.fT (E:=Tv j h x) a.r a.C).fu (Tw _ _ _) b v
def R_(c:List (Int×Bool)):∀u∈uK c,kh u=Ý:=λu a=>by unfold uK at a;let⟨e,_,h⟩:=Ν.1 a;simp at h;rcases h with rfl|rfl<;>rfl
def amk:(À.info? 246).map (λi=>(i.zero,i.size,i.bytes))=Ã (Ã<|ė #[Â Æ 0,Ò Ï],2,16):=ft
def NX.G(a:NX j h lv x s ls c u w):w.cell? ⟨j,146,Ä⟩=Ã x:= fh.r a.r 146 _<|by rw[Þ (by rw[mG];omega),mG];rfl
def NX.aml{g:Int}(b:NX j h lv x s ls c u w)(a:qk w 0 246 2 x c.length (uK c) 1 [Â Æ g,Ò yQ] v W): NX j h lv x s ls c u W/\NX j h lv v s ls (c++[(g,yQ)]) u (W.setCell ⟨j,146,Ä⟩ v):=by
 have m:∀{i:Nat} {n:Array Ç} {T:ú},x.ownBlock=Ã i->w.heap[i]?=Ã (Ð n T (0,0))->T=246:=λ{i n T} q hc=>by let⟨k,e⟩:=lF b.I q;rw[hc]at e;cases e;rfl
 have o:=b.M.C a.r λi y q=>by have:=b.Y i q;omega
 have f:NX j h lv x s ls c u W:=⟨b.r.nT a.r λq=>absurd (m q b.r) A,ic b.C a.r (λd q r=>by let⟨k,e⟩:=lF b.C q;exact absurd (m r e) A),a.I _ _ _ b.I λ_=>ß _,o,b.N,b.S,b.Y⟩;have t:W.ownsRow 0 246 2 v (c++[(g,yQ)]).length (uK<|c++[(g,yQ)]):=by have:=a.fq;rwa[show uK c++[Â Æ g,Ò yQ]=uK (c++[(g,yQ)]) by simp[uK],show c.length+1=(c++[(g,yQ)]).length by simp]at this
 have l:fc (λk=>k=j) W (W.setCell ⟨j,146,Ä⟩ v):=fc.I (X:=λk=>k=j) (p:=⟨j,146,Ä⟩) U v<|Ü<|fh.G f.r;have k:=fh.fZ f.r 146 v;rw[List.set_append_right _ _ (by rw[mG];omega),mG]at k;refine⟨f,k,ic f.C l λd q r=>jA f.C f.r A (by rw[q,r]),ic t l λd q r=>jA t f.r A (by rw[q,r]),o.C l λi y q=>by have:=b.N;omega,b.N,b.S,λd q=> ?_⟩;rcases a.C with e|e
 .exact b.Y d<|by rwa[<-e]
 .rw[e]at q;cases q;exact b.M.M
end
section
variable{X:ë->É->Prop}{cp:Nat}{lv:Ç}{s:St}{ls:List (Nat×Int)}{c:List (Int×Bool)}
def amm(d:Nat->Ç)(e:NX j h lv x s ls c u w)(i:Int)(f:i=n) (g:∀a,Jo b m j O n cp i a->X a w): Î À Jn (Exit.then K<|QN X H) (zO b m j O n cp i d) w:=by
 unfold zO;conv=>arg 2;whnf
 subst f;go_wp2_with fail;exact g _ (gi _)
def amn(d:Nat->Ç)(f:NX j h lv x s ls c u w)(i:Int)(k:Nat)(q:i=k)(P:k<n)(Q:n<=1000)(tb o a:Nat)(r:O=Ã ⟨tb,o,Ä⟩)(S:w.cell? ⟨tb,o+k,Ä⟩=Ã (Å<|Ã ⟨a,0,Ä⟩))(t:Tx)(v:lT a t w)(y:t.Ok)(z:iK w)(B:gI s)(D:(ls.length:Int)+400<=1000000)(g:Int)(E:Bool)(F:St)(G:List (Nat×Int))(I:mg s ls t=((g,E),Ï,F,G)) (J:∀a p,a.tmps.getD 6 Ĉ=Å Ä->a.defers=[]->fc (λ_=>False) u p->H a p): Î À Jn (Exit.then K<|QN X H) (zO b m j O n cp i d) w:=by
 unfold zO;conv=>arg 2;whnf
 subst q r;have C:=N_ (Tw _ _ _) (by show(147:Nat)≠200;decide) f.r f.C z B v y D;rw[I]at C;have T:(0:Int)<=(k:Int):=Z
 have V:(k:Int)<(n:Int):=Z
 have W:=fh.M f.r;have l:=ff<|Á f C;go_wp2_with fail;go_at_call 154;apply l.out.2.mono;rintro e Y ⟨rfl,zv,L⟩;have M:=l.out.1.xM L;have N:=ff M;go_wp2_with fail;exact J _ _ U U<|N.out.M.fg<|fc.gE _ _ _ _
def amo(d:Nat->Ç)(f:NX j h lv x s ls c u w)(i:Int)(k:Nat)(W:i=k)(hj:k<n)(hn:n<=1000)(tb N a:Nat)(Y:O=Ã ⟨tb,N,Ä⟩)(hc:w.cell? ⟨tb,N+k,Ä⟩=Ã (Å<|Ã ⟨a,0,Ä⟩))(t:Tx)(ht:lT a t w)(Mq:t.Ok)(hr:iK w)(hs:gI s)(hlen:(ls.length:Int)+400<=1000000)(g:Int)(o:Bool)(B:St)(P:List (Nat×Int))(ho:mg s ls t=((g,o),Ý,B,P))(Q:m<8)(F:gI B)(ua:0<=g)(uH:g<=1000)(LV:c.length<=1000) (p:∀a v jz Ty,Jo b m j O n cp (i+1) a->NX j h jz Ty (B.fu m<|wu<|(B m).fu+g) P (c++[(g,o)]) u v->K a v): Î À Jn (Exit.then K<|QN X H) (zO b m j O n cp i d) w:=by
 unfold zO;conv=>arg 2;whnf
 subst W Y;have C:=N_ (Tw _ _ _) (by show(147:Nat)≠200;decide) f.r f.C hr hs ht Mq hlen;rw[ho]at C;have e1:(0:Int)<=(k:Int):=Z
 have e2:(k:Int)<(n:Int):=Z
 have atP:=fh.M f.r;have l:=ff<|Á f C;go_wp2_with fail;go_at_call 154;apply l.out.2.mono;rintro e r ⟨rfl,zv,r1⟩;have D:=l.out.1.xM r1;have m1:=D.r.fu Q;have z1:=fh.C D.r<|m*18;have CK:=fh.M D.r;have b0:=(F.fu m).1;have b1:=(F.fu m).2;have hub:x.ownBlock≠Ã r.heap.size:=λq=>by have:=(D.I.lt _ q).2;omega
 have HX:=ff<|Á D F;generalize hb:(B m).fu=b at*;have hm0:(0:Int)<=(m:Int):=Z
 have hm1:(m:Int)<8:=Z
 go_wp2_with fail
 go_region
 have hx8:=(HX.out.1.fu Q<|wu<|b+g).fL ((fc.gE (λ_=>False) _ #[Â Æ g,Ò o] 246).fg<|fc.fR _ _);have hU:fh r.heap.size [Â Æ g,Ò o] 246 (đ<|Ċ (r.setCell ⟨j,m*18,Ä⟩<|Â Æ<|wu<|b+g)<|Ð #[Â Æ g,Ò o] 246):=by
  have:=fh.N (r.setCell ⟨j,m*18,Ä⟩<|Â Æ<|wu<|b+g) [Â Æ g,Ò o] 246;have z:fh r.heap.size [Â Æ g,Ò o] 246 (Ċ (r.setCell ⟨j,m*18,Ä⟩<|Â Æ<|wu<|b+g)<|Ð #[Â Æ g,Ò o] 246):=by simpa using this
  exact z
 go_wp2_with fail
 change Î À _ _ _ (đ<|Ċ (r.setCell ⟨j,m*18,Ä⟩<|Â Æ<|wu<|b+g)<|Ð #[Â Æ g,Ò o] 246);generalize đ (Ċ (r.setCell ⟨j,m*18,Ä⟩<|Â Æ<|wu<|b+g)<|Ð #[Â Æ g,Ò o] 246)=w8 at*;generalize r.heap.size=ub at*;have S:=hx8.fL (fc.fR (λ_=>False) w8);have G:=hU.I (fc.fR (λ_=>False) w8) id;let⟨i0,Ji,Jj,amq,amr⟩:=ò amk;have E:=ff<|Á Ji<|Á Jj<|Á amq amr;have y:=ff<|Á S.G<|Á (G.r 0 _ rfl)<|G.r 1 _ rfl;have T:=ff<|Á S G;refine mf (λv=>v.cell? ⟨j,146,Ä⟩=Ã x/\v.cell? ⟨ub,0,Ä⟩=Ã (Â Æ g)/\v.cell? ⟨ub,1,Ä⟩=Ã (Ò o)) [10] ft ?_;refine tk 0 y.out ?_;refine tk 1 y.out ?_;refine tk 2 y.out ?_;refine tk 3 y.out ?_;refine tk 4 y.out ?_;refine tk 5 y.out ?_;have I:=T.out.1.fL (fc.gE (λ_=>False) _ #[Â Æ g,Ò o] 246);have J:=T.out.2.I (fc.gE (λ_=>False) _ #[Â Æ g,Ò o] 246) id;refine gD 6 ?_;intro K p;go_simp;refine p.out _ _ (λ_=>⟨I.G,J.r 0 _ U,J.r 1 _ U⟩) ?_;refine gD 7 ?_;intro K p;refine MV (hfl:=Ü ⟨fj,λd z=>(ā.1 z).elim (R_ c d) (λq=>by simp at q;rcases q with rfl|rfl<;>rfl),by simp[kh,ī]⟩) fP _ _ 145 fP Tryz.underlying145 E.out.1 E.out.2.1 E.out.2.2.1 E.out.2.2.2 U fP I.I ⟨_,0,Ä⟩ [Â Æ g,Ò o] fP Z U (ž _ _ _ _) (λd z=>by simp at z;rcases z with rfl|rfl<;>rfl) (by unfold Č;omega) Z (å _) ?_;intro uv1 w9 L;obtain⟨a2,R',rfl⟩:=jh L.fq;let⟨M,n2⟩:=I.aml L;have z:=J.I L.r hub;refine p.out _ _ (λ_=>⟨M.G,z.r 0 _ U,z.r 1 _ U⟩) ?_;have V:=M.G;have fz:=fh.C M.r 146;refine gD 8 ?_;intro K p;go_simp;refine p.out _ _ (λ_=>⟨V,z.r 0 _ U,z.r 1 _ U⟩) ?_;refine gD 9 ?_;intro K p;go_simp;refine p.out _ _ (λ_=>⟨V,z.r 0 _ U,z.r 1 _ U⟩) ?_;refine gD 10 ?_;intro K p;go_simp;refine p.out _ _ (λq=>absurd fj q) ?_;refine lS ft ?_ _;go_wp2_with fail;subst hb;exact p _ _ _ _ (gi _) n2
end
def uL(m:Nat):St->List (Nat×Int)->List (Int×Bool)->List Tx->Option (St×List (Nat×Int)×List (Int×Bool))
 |s,ls,us,[]=>Ã (s,ls,us)
 |s,ls,us,t::r=>if(mg s ls t).2.1 then uL m ((mg s ls t).2.2.1.fu m<|wu<|((mg s ls t).2.2.1 m).fu+(mg s ls t).1.1) (mg s ls t).2.2.2 (us++[(mg s ls t).1]) r else Ä
def ams{s:St}(b:gI s)(x y:Nat)(c:0<=h):gI (xP s x y h).2:=by
 unfold xP;split
 .exact b
 .rename_i a;have:=(b.fu x).2;exact(b.r x ⟨Z,Z⟩).r y<|zI _
def amt{s:St}(a:gI s)(x:Nat)(e:B.size<=40/\∀c∈B.data.toList,xL c=Ý):gI (xR s x B).2:=by
 unfold xR;split
 .exact a
 .rename_i h;have:=(a.fu x).2;have d:=a.r x (b:=(s x).fu-20) ⟨Z,Z⟩;exact d.fZ (d.fu x) (d.C x) e
structure S_(C:List (Nat×Int))(o:(Int×Bool)×Bool×St×List (Nat×Int)):Prop where
 g0:0<=o.1.1
 r:o.1.1<=400
 s:gI o.2.2.1
 C:o.2.2.2.length<=C.length+400
def amu{s:St}(f:gI s){d:List (Nat×Int)}(g:i<8)(l:j<8)(m:fX c)(p:(d.length:Int)+400<=1000000):S_ d (zM s d i j h c):=by
 unfold zM;split
 .exact⟨Ø _,by show(0:Int)<=400;decide,f,ŋ _ _⟩
 .rename_i a;have q:=(f.fu i).2;have o:=f.r i (b:=(s i).fu-h) ⟨Z,Z⟩;have e:=M4 _ d i j (h-10) c o g l m Z Z Z;have r:=e.C;have t:=e.r;have u:=e.I;exact⟨by show 0<=_+10;omega,by show _+10<=400;omega,e.N.r i<|zI _,by show(gk _ _ _ _ _ _).M.length<=_;omega⟩
def S'{s:St}(b:gI s){ls:List (Nat×Int)}{t:Tx}(a:t.Ok)(c:(ls.length:Int)+400<=1000000):S_ ls (mg s ls t):=by
 unfold mg;split
 .exact⟨by show(0:Int)<=10;decide,by show(10:Int)<=400;decide,ams b _ _ a.I,ŋ _ _⟩
 .split
  .exact⟨by show(0:Int)<=20;decide,by show(20:Int)<=400;decide,amt b _ a.N,ŋ _ _⟩
  .exact amu b a.x a.y ⟨a.r,by have:=a.C;omega⟩ c
structure Dq(bp:Option ċ)(n:Nat)(lU:List (Nat×Tx))(w:É):Prop where
 r:n=lU.length
 C:∀(j a:Nat) (t:Tx),lU[j]?=Ã (a,t)->∃tb te,bp=Ã ⟨tb,te,Ä⟩/\w.cell? ⟨tb,te+j,Ä⟩=Ã (Å<|Ã ⟨a,0,Ä⟩)/\lT a t w/\t.Ok
def Dq.I{b:List (Nat×Tx)}(h:Dq O n b w)(k:fc (λ_=>False) w u):Dq O n b u:= ⟨h.r,λj a t q=>by let⟨tb,c,d,e,f,g⟩:=h.C j a t q;exact⟨tb,c,d,k.r e id,f.S k id,g⟩⟩
def lH(a:List (Nat×Tx)):List Tx:=a.map (·.2)
section
variable{bp:Option ċ}{cp:Nat}{lU:List (Nat×Tx)}{d:Option (St×List (Nat×Int)×List (Int×Bool))}
def Tz(n:Nat)(a:ë)(_:É):Nat:=match a.tmps.getD 27 Ĉ with
 |Â _ i=>n-i.toNat
 |_=>0
def NI(b m i:Nat)(bp:Option ċ)(n cp:Nat)(h:Int)(u:É)(lU:List (Nat×Tx))(d:Option (St×List (Nat×Int)×List (Int×Bool)))(a:ë)(w:É):Prop:=
 ∃(j:Nat) (s:St) (c:List (Nat×Int)) (e:List (Int×Bool)) (f g:Ç),Jo b m i bp n cp j a/\j<=n/\NX i h f g s c e u w/\gI s/\c.length<=400*j/\e.length=j/\uL m s c e ((lH lU).drop j)=d
def NE(b m i:Nat)(bp:Option ċ)(n cp:Nat)(h:Int)(u:É)(d:Option (St×List (Nat×Int)×List (Int×Bool)))(a:ë)(w:É):Prop:=
 ∃(s:St) (c:List (Nat×Int)) (e:List (Int×Bool)) (f g:Ç),Jo b m i bp n cp n a/\NX i h f g s c e u w/\gI s/\d=Ã (s,c,e)
def NR(u:É)(d:Option (St×List (Nat×Int)×List (Int×Bool)))(a:ë)(w:É):Prop:=
 a.tmps.getD 6 Ĉ=Å Ä/\a.defers=[]/\fc (λ_=>False) u w/\d=Ä
def amv(C:Dq bp n lU u)(L:iK u)(M:n<=1000)(W:m<8)(a:ë)(w:É)(X:NI b m i bp n cp h u lU d a w): Î À Jn (Exit.then (λo q=>NI b m i bp n cp h u lU d o q/\Tz n o q<Tz n a w)<|QN (NE b m i bp n cp h u d)<|NR u d) a w:=by
 let⟨j,s,r,N,Y,uv,hfr,hj,x,y,S8,LV,f⟩:=X;obtain⟨c,rfl⟩:=hfr;by_cases D:j=n
 .have E:(lH lU).drop j=[]:=ģ (by unfold lH;rw[ν,<-C.r];omega);rw[E]at f;refine amm c x j (by rw[D]) λa e=>⟨s,r,N,Y,uv,?_,x,y,f.symm⟩;rw[<-D];rw[D]at e|-;exact e
 .have F:j<n:=Z
  obtain⟨⟨a,t⟩,O⟩:∃p,lU[j]?=Ã p:=⟨_,Ñ<|by rwa[<-C.r]⟩;have E:(lH lU).drop j=t::(lH lU).drop (j+1):=by
   have g:(lH lU)[j]?=Ã t:=by unfold lH;rw[Ģ,O];rfl
   let⟨k,e⟩:=Ù.1 g;rw[Ę k,e]
  let⟨tb,P,Q,S,T,G⟩:=(C.I x.M).C j a t O;have H:(r.length:Int)+400<=1000000:=Z
  have k:=S' y G H;rw[E]at f;unfold uL at f;obtain⟨g,l,I,z,e,J⟩:∃g l I z e,mg s r t=((g,l),I,z,e):=⟨_,_,_,_,_,U⟩;rw[J]at f k;have g0:=k.g0;have g1:g<=400:=k.r;have V:=k.s;have CK:e.length<=r.length+400:=k.C;cases I with
  |false=>
   simp only[Ğ,if_false]at f;exact amn c x j j U F M tb P a Q S t T G (L.r x.M id) y H g l z e J λo q B K v=>⟨B,K,v,f.symm⟩
  |true=>
   simp only[if_true]at f;refine amo c x j j U F M tb P a Q S t T G (L.r x.M id) y H g l z e J W V g0 Z Z λo q jz Ty B K=>⟨⟨j+1,_,e,N++[(g,l)],jz,Ty,by simpa using B,Z,K,V.r m<|zI _,Z,by simp[LV],f⟩,?_⟩;obtain⟨v,rfl⟩:=B;show n-((j:Int)+1).toNat<n-((j:Int)).toNat;omega
def uM(m:Nat)(s:St)(lU:List Tx):Option (St×List (Nat×Int)×List (Int×Bool)):=
 (uL m s [] [] lU).map λr=>(r.1.fu m<|wu<|(r.1 m).fu+50,r.2)
def FO(h:Int)(w:É)(r:Option (St×List (Nat×Int)×List (Int×Bool)))(e:aN)(a:É):Prop:=
 (r=Ä/\e=È (Å Ä)/\fc (λ_=>False) w a)\/
 ∃s b c i d f,r=Ã (s,b,c)/\e=È (Å<|Ã ⟨i,0,Ä⟩)/\NX i (h+1) d f s b c w a/\gI s
def amw{s:St}(e:mh b s h w)(Y:0<=h)(hh1:h<=1000)(y:gI s)(z:Dq bp n lU w)(B:iK w)(J:n<=1000)(f:m<8): Ô À 115 #[Å<|Ã ⟨b,0,Ä⟩,Â Ë m,Ê bp n cp] w (FO h w<|uM m s<|lH lU):=by
 let⟨M,C,D⟩:=Ì.1 Tt;have E:(À.info? 140).map (·.size)=Ã (iq s).length:=by rw[rW];exact Q'
 have k:=ff<|Á C<|Á D E;have F:=(e.r (fc.fR (λ_=>False) w) id).C;have G:=(e.r (fc.fR (λ_=>False) w) id).h;have oG:Ë.wrap (h+1)=h+1:=Jb Z Z;have c:=ff<|Á F G;have gJ:=ä w _ e.h;have L:∀l a,NX w.heap.size (h+1) (Ê Ä 0 0) (Ê Ä 0 0) s [] [] w l->Jo b m w.heap.size bp n cp 0 a->Î À (ã Jn) (QN (NE b m w.heap.size bp n cp (h+1) w<|uL m s [] []<|lH lU)<|NR w<|uL m s [] []<|lH lU) a l:=λl a x N=>
  ď (NI b m w.heap.size bp n cp (h+1) w lU<|uL m s [] []<|lH lU) (Tz n) ⟨0,s,[],[],_,_,N,å _,x,y,fj,U,U⟩<|amv z B J f
 have H:=ff<|Á e L;have I:uM m s (lH lU)=(uL m s [] []<|lH lU).map λr=>(r.1.fu m<|wu<|(r.1 m).fu+50,r.2):=U;rw[I];clear C D F G e E L y z B I;generalize uL m s [] [] (lH lU)=d at*;go_enter Tryz.func115,Tryz.ntmps115;go_wp2_with fail;refine mf (λg=>g.rangeAt b 0 (iq s)/\g.cell? ⟨b,145,Ä⟩=Ã (Â Ë h)) [] ft ?_;refine tk 0 c.out ?_;refine tk 1 c.out ?_;refine tk 2 c.out ?_;refine tk 3 c.out ?_;refine Ja (i:=4) (oi:={dst:=Ã 16,op:=Go.Op.load 140<|ó 15,type:=140,pos:= "block.go:30",after:=#[{on:=3,ground:=ô}],guard:=Ä}) U ft ft ft ft (λ_ _ _ h=>h) c.out (yieldsIf_load_mid fP 140 _ U b 0 U (iq s) M (λw h=>h.1) k.out.1 k.out.2.1 k.out.2.2) ?_;refine Ja (i:=5) (oi:={dst:=Ã 17,op:=π 144 #[(0,ó 16)],type:=144,pos:= "block.go:30",after:=#[{on:=4,ground:=ô}],guard:=Ä}) U ft ft ft ft (λ_ _ _ h=>h) c.out (Û ⟨fP,λ_ _=>Ts U U<|rW s⟩) ?_;refine tk 6 c.out ?_;refine tk 7 c.out ?_;refine tk 8 c.out ?_;refine tk 9 c.out ?_;refine tk 10 c.out ?_;refine Ja (i:=11) U ft ft ft ft (λ_ _ _ h=>h) c.out (Û ⟨fP,λ_ _=>amj U U U (by simp[rW]) U⟩) ?_;have g:=ff ((H.out.1.r (fc.fR (λ_=>False) w) id).r (fc.gE (λ_=>False) _ ((iq s++[Ê Ä 0 0])++[Â Ë<|h+1,Ê Ä 0 0]).toArray 147) id);refine gD 12 ?_;intro K o;rw[if_pos fP];unfold Ŏ;rw[Q_ U U,İ];refine o.out _ _ (λ_=>⟨g.out.C,g.out.h⟩) ?_;refine gD 13 ?_;intro K o;go_simp;refine o.out _ _ (λ_=>⟨g.out.C,g.out.h⟩) ?_;refine lS ft ?_ _;go_wp2_with fail;have O:=NX.iW w s<|h+1;refine à ?_ (H.out.2 _ _ O (gi _));rintro(_|(_|_)|_|_|_|_) a v hq;all_goals first|exact absurd hq id|skip
 .let⟨p,P,Q,S,T,V,j,q,W⟩:=hq;subst W;have d1:=j.r.fu f;have f1:=fh.C j.r<|m*18;have CK:=fh.M j.r;have b0:=(q.fu m).1;have b1:=(q.fu m).2;have hm0:(0:Int)<=(m:Int):=Z
  have hm1:(m:Int)<8:=Z
  have t:=ff<|Á j q;generalize X:(p m).fu=b at*;obtain⟨u,rfl⟩:=V;unfold zO;go_wp2_with fail;go_region;go_wp2_with fail;go_ret;refine Ü ⟨p.fu m<|wu<|(p m).fu+50,P,Q,w.heap.size,S,T,U,U,?_,t.out.2.r m<|zI _⟩;rw[X];first
   |exact(t.out.1.fu f<|wu<|b+50).fL<|fc.fR _ _
   |exact(t.out.1.still<|Keep.drew _ _).fu f<|wu<|b+50
 .let⟨j,p,q,t⟩:=hq;simp only[Exit.inBlock,Exit.then];apply õ (results_tmp U _ _ _) p;exact Û ⟨by rw[t];rfl,by rw[j],q⟩
end
def om(i:Nat):ByteArray:=if i<10 then⟨#[(48+i).toUInt8]⟩else⟨#[(48+i/10).toUInt8,(48+i%10).toUInt8]⟩
def amx:∀k:Fin 10,(⟨#[48,49,50,51,52,53,54,55,56,57,97,98,99,100,101,102,103,104,105,106,107,108,109,110,111,112,113,114,115,116,117,118,119,120,121,122]⟩:ByteArray).extract k.val (k.val+1)=om k.val:=by decide+kernel
def amy:∀k:Fin 100,k.val<10\/(⟨#[48,48,48,49,48,50,48,51,48,52,48,53,48,54,48,55,48,56,48,57,49,48,49,49,49,50,49,51,49,52,49,53,49,54,49,55,49,56,49,57,50,48,50,49,50,50,50,51,50,52,50,53,50,54,50,55,50,56,50,57,51,48,51,49,51,50,51,51,51,52,51,53,51,54,51,55,51,56,51,57,52,48,52,49,52,50,52,51,52,52,52,53,52,54,52,55,52,56,52,57,53,48,53,49,53,50,53,51,53,52,53,53,53,54,53,55,53,56,53,57,54,48,54,49,54,50,54,51,54,52,54,53,54,54,54,55,54,56,54,57,55,48,55,49,55,50,55,51,55,52,55,53,55,54,55,55,55,56,55,57,56,48,56,49,56,50,56,51,56,52,56,53,56,54,56,55,56,56,56,57,57,48,57,49,57,50,57,51,57,52,57,53,57,54,57,55,57,56,57,57]⟩:ByteArray).extract (k.val*2) (k.val*2+2)=om k.val:=by decide+kernel
def amz(i:Nat)(h:i<10)(w:É):Ô À 187 #[Â Ë i] w λe a=>e=È (Í<|om i)/\a=w:=by
 go_enter Δ,ak;go_wp2;all_goals go_ret
 refine⟨i_<|amx ⟨i,h⟩,U⟩
def amA(i:Nat)(h:i<100)(b:10<=i)(w:É):Ô À 187 #[Â Ë i] w λe a=>e=È (Í<|om i)/\a=w:=by
 go_enter Δ,ak;go_wp2;all_goals go_ret
 refine⟨i_ ((amy ⟨i,h⟩).resolve_left<|by show¬i<10;omega),U⟩
def amB(i:Nat)(h:i<100)(w:É):Ô À 187 #[Â Ë i] w λe a=>e=È (Í<|om i)/\a=w:=by
 by_cases b:i<10
 .exact amz i b w
 .exact amA i h Z w
def amC(i:Nat)(h:i<100)(w:É):Ô À 171 #[Â Ë i,Â Ë 10] w λe a=>e=È (Í<|om i)/\a=w:=by go_enter Tryz.func171,Tryz.ntmps171;go_wp2_with (go_at_call 187;refine(amB i h _).mono ?_;rintro e a ⟨rfl,rfl⟩);go_ret;exact⟨U,U⟩
def T_(i:Nat)(h:i<100)(w:É):Ô À 117 #[Â Ë i] w λe a=>e=È (Í<|om i)/\a=w:=by
 go_enter Tryz.func117,Tryz.ntmps117;go_wp2_with (first
  |(go_at_call 171;refine(amC i h _).mono ?_;rintro e a ⟨rfl,rfl⟩)
  |go_in)
 go_ret;exact⟨U,U⟩
def n9(i:Nat):ByteArray:=⟨#[33]⟩++om i
def FP(i:Nat)(h:i<10)(w:É):Ô À 114 #[Â Ë i] w λe a=>e=È (Í<|n9 i)/\a=w:=by
 have b:(om i).size=1:=by unfold om;rw[if_pos h];rfl
 go_enter Tryz.func114,Tryz.ntmps114;go_wp2_with (go_at_call 117;refine(T_ i Z _).mono ?_;rintro e a ⟨rfl,rfl⟩);go_ret;exact⟨U,U⟩
def tb(n c:Nat):Nat:=(n^^^c)*1099511628211%18446744073709551616
def M7(n c:Nat):tb n c<18446744073709551616:=bj _ Z
def U_(n c:Nat)(a:n<18446744073709551616)(f:c<256)(w:É):Ô À 178 #[Â Æ n,Â br c] w λe b=>e=È (Â Æ<|tb n c)/\b=w:=by
 go_enter Tryz.func178,Tryz.ntmps178;go_wp2_with fail;go_ret;refine⟨?_,U⟩;have d:Æ.wrap (((n^^^c:Nat):Int)*1099511628211)=((tb n c:Nat):Int):=by rw[bB];unfold tb;omega
 rw[bits_xor_u64_nat n c a Z,d];rfl
def tn(m:Nat):Nat->Nat->Nat
 |n,0=>n
 |n,j+1=>tn m (tb n<|m/2^(8*j)%256) j
def U'(m:Nat):∀(j n:Nat),n<18446744073709551616->tn m n j<18446744073709551616
 |0,_,h=>h
 |j+1,_,_=>U' m j _<|M7 _ _
noncomputable def M8:Ş:=(Tryz.f177.body.bind ko).getD Ń
def FQ(m n:Nat)(i:Int)(u:Nat->Ç):ë:=⟨#[Â Æ n,Â Æ m,u 2,u 3,u 4,Â Ë i,u 6,u 7,u 8,u 9,u 10,u 11,u 12,u 13,u 14,u 15,u 16],[]⟩
def FR(m n:Nat)(i:Int)(a:ë):Prop:=∃u,a=FQ m n i u
section
variable{X:ë->É->Prop}
def amD(m n j:Nat)(f:j<8)(d:n<18446744073709551616)(g:m<18446744073709551616)(u:Nat->Ç)(b:∀a,FR m (tb n<|m/2^(8*j)%256) (((8*j:Nat):Int)-8) a->K a w): Î À M8 (Exit.then K<|QQ X) (FQ m n (8*j:Nat) u) w:=by
 unfold FQ;conv=>arg 2;whnf
 have h:(0:Int)<=((8*j:Nat):Int):=Z
 have i:((8*j:Nat):Int)<64:=Z
 have T:=U_ n (m/2^(8*j)%256) d Z w;generalize 8*j=j8 at*;have c:((m/2^j8%256:Nat):Int)=(m:Int)/2^j8%256:=fj
 rw[c]at T;have H:=ff<|Á T b;clear T b c;go_wp2_with (go_at_call 178;apply H.out.1.mono;rintro e k ⟨rfl,rfl⟩);exact H.out.2 _ (gi _)
def amE(m n:Nat)(u:Nat->Ç)(b:∀a,FR m n (-8) a->X a w): Î À M8 (Exit.then K<|QQ X) (FQ m n (-8) u) w:=by
 unfold FQ;conv=>arg 2;whnf
 go_wp2_with fail
 exact b _ (gi _)
def TI(m:Nat)(b:É)(c:Nat)(a:ë)(w:É):Prop:=∃n j:Nat,FR m n (((8*j:Nat):Int)-8) a/\j<=8/\n<18446744073709551616/\w=b/\tn m n j=c
def TE(m:Nat)(b:É)(c:Nat)(a:ë)(w:É):Prop:=FR m c (-8) a/\w=b
def xS(a:ë)(_:É):Nat:=match a.tmps.getD 5 Ĉ with
 |Â _ i=>(i+8).toNat
 |_=>0
def Jp(b:FR m n h y):xS y w=(h+8).toNat:=by obtain⟨u,rfl⟩:=b;rfl
def amF(f:m<18446744073709551616)(a:ë)(w:É)(g:TI m u i a w): Î À M8 (Exit.then (λb e=>TI m u i b e/\xS b e<xS a w)<|QQ<|TE m u i) a w:=by
 obtain⟨n,j,c,k,h,rfl,d⟩:=g;rw[Jp (w:=w) c];obtain⟨b,rfl⟩:=c;cases j with
 |zero=>
  subst d;exact amE m n b λa q=>⟨q,U⟩
 |succ j=>
  have e:(((8*(j+1):Nat):Int)-8)=((8*j:Nat):Int):=Z
  rw[e];refine amD m n j Z h f b λa q=>⟨⟨_,j,q,Z,M7 _ _,U,d⟩,?_⟩;rw[Jp q];omega
end
def ot(n m:Nat):Nat:=tn m n 8
def FT(n m:Nat)(a:n<18446744073709551616):ot n m<18446744073709551616:=U' m 8 n a
def Jq(n m:Nat)(b:n<18446744073709551616)(c:m<18446744073709551616)(w:É):Ô À 177 #[Â Æ n,Â Æ m] w λe d=>e=È (Â Æ<|ot n m)/\d=w:=by
 have L:∀a,FR m n 56 a->Î À (ã M8) (QQ<|TE m w<|ot n m) a w:=λa f=>
  ď (TI m w<|ot n m) xS ⟨n,8,f,ß _,b,U,U⟩<|amF c
 generalize ot n m=r at*;go_enter Tryz.func177,Tryz.ntmps177;go_wp2_with fail;refine à ?_ ((ff L).out _ (gi _));rintro(_|(_|_)|_|_|_|_) a v hq;all_goals first|exact absurd hq id|skip
 obtain⟨g,rfl⟩:=hq;obtain⟨u,rfl⟩:=g;unfold FQ;go_wp2_with fail;go_ret;exact⟨U,U⟩
def Jr(p q:Nat):Nat:=ot (ot 14695981039346656037 p) q
def amG(p q:Nat):Jr p q<18446744073709551616:=FT _ _<|FT _ _ Z
noncomputable def Js:Ş:=(Tryz.f162.body.bind ko).getD Ń
noncomputable def Jt:Ş:=(ko Js).getD Ń
def Q2(X:ë->É->Prop):bq->ë->É->Prop
 |.exit 2,a,w=>X a w
 |_,_,_=>False
def vG(b c d:Nat)(a:Nat)(i:Int)(u:Nat->Ç):ë:=⟨#[Ê (Ã ⟨b,0,Ä⟩) c d,u 1,u 2,Â Ë a,u 4,u 5,u 6,u 7,u 8,u 9,u 10,Â Ë a,Â Ë i,u 13,u 14,u 15,u 16,u 17,u 18,u 19,u 20,u 21,u 22,u 23,u 24,u 25,u 26,u 27,u 28,u 29,u 30,u 31,u 32,u 33,u 34,u 35,u 36,u 37],[]⟩
def Dr(b c d:Nat)(e:Nat)(i:Int)(a:ë):Prop:=∃u,a=vG b c d e i u
section
variable{X:ë->É->Prop}{cp:Nat}
def amH(u:Nat->Ç)(c:∀a,Dr b n cp i i a->X a w): Î À Jt (Exit.then K<|Q2 X) (vG b n cp i i u) w:=by
 unfold vG;conv=>arg 2;whnf
 go_wp2_with fail
 exact c _ (gi _)
def amI(c p q z:Nat)(k:Jr p q=z)(t:c<i)(x:2*i<=n)(y:n<=16)(l:p<18446744073709551616)(m:q<18446744073709551616)(u:Nat->Ç) (o:w.cell? ⟨b,2*c,Ä⟩=Ã (Â Æ p)) (r:w.cell? ⟨b,2*c+1,Ä⟩=Ã (Â Æ q)) (h:∃v,w.cell? ⟨b,c,Ä⟩=Ã v) (B:w.frozen? ⟨b,c,Ä⟩=Ï) (f:∀a,Dr b n cp i ((c+1:Nat):Int) a->K a (w.setCell ⟨b,c,Ä⟩<|Â Æ z).drew): Î À Jt (Exit.then K<|Q2 X) (vG b n cp i c u) w:=by
 unfold vG;conv=>arg 2;whnf
 subst k;unfold Jr at f;let⟨C,h⟩:=h;have D:(0:Int)<=(c:Int):=Z
 have E:(c:Int)<(i:Int):=Z
 have F:(2:Int)*(c:Int)+1<(n:Int):=Z
 have G:((2:Int)*(c:Int)).toNat=2*c:=Z
 have H:((2:Int)*(c:Int)+1).toNat=2*c+1:=Z
 have I:Ë.wrap (2*(c:Int))=2*(c:Int):=Jb Z Z;have j:Ë.wrap (2*(c:Int)+1)=2*(c:Int)+1:=Jb Z Z;have J:(0:Int)<=2*(c:Int):=Z
 have L:2*(c:Int)<(n:Int):=Z
 have M:(0:Int)<=2*(c:Int)+1:=Z
 have N:(c:Int)<(n:Int):=Z
 have s:=ff f;clear f;go_wp2_with fail;have d:=ff<|Á o r;refine mf (λe=>e.cell? ⟨b,2*c,Ä⟩=Ã (Â Æ p)/\e.cell? ⟨b,2*c+1,Ä⟩=Ã (Â Æ q)) [16] ft ?_;refine tk 0 d.out ?_;refine tk 1 d.out ?_;refine tk 2 d.out ?_;refine tk 3 d.out ?_;refine tk 4 d.out ?_;refine tk 5 d.out ?_;refine tk 6 d.out ?_;refine tk 8 d.out ?_;refine tk 9 d.out ?_;refine tk 10 d.out ?_;refine tk 11 d.out ?_;refine tk 12 d.out ?_;refine tk 13 d.out ?_;refine gD 7 ?_;intro K f;go_simp;go_at_call 177;refine(Jq 14695981039346656037 p Z l _).mono ?_;rintro e g ⟨rfl,j⟩;subst g;refine f.out _ _ (λ_=>d.out) ?_;refine gD 14 ?_;intro K f;go_simp;go_at_call 177;refine(Jq (ot 14695981039346656037 p) q (FT _ _ Z) m _).mono ?_;rintro e g ⟨rfl,j⟩;subst g;refine f.out _ _ (λ_=>d.out) ?_;refine gD 15 ?_;intro K f;go_simp;refine f.out _ _ (λ_=>d.out) ?_;refine gD 16 ?_;intro K f;go_simp;refine f.out _ _ (λq=>absurd fj q) ?_;refine lS ft ?_ _;go_wp2_with fail;exact s.out _ (gi _)
end
def pr(l:List Nat)(t:Nat):Nat:=Jr (l.getD (2*t) 0)<|l.getD (2*t+1) 0
def V_(l:List Nat)(t:Nat):Jr (l.getD (2*t) 0) (l.getD (2*t+1) 0)=pr l t:=by unfold pr;exact Eq.refl _
def jN(l:List Nat)(i:Nat):List Nat:=(Đ l.length).map λt=>if t<i then pr l t else l.getD t 0
def uN(l:List Nat):List Nat:=(Đ<|l.length/2).map<|pr l
def kq(l:List Nat):List Ç:=l.map λ(x:Nat)=>Â Æ x
def rX(l:List Nat):Prop:=∀t,l.getD t 0<18446744073709551616
def Ds(l:List Nat)(i:Nat):(jN l i).length=l.length:=by simp[jN]
def Ju(l:List Nat)(i t:Nat)(h:t<l.length):(jN l i)[t]?=Ã (if t<i then pr l t else l.getD t 0):=by simp[jN,ø h]
def amJ(l:List Nat):jN l 0=l:=by
 refine Ą λt=> ?_;by_cases h:t<l.length
 .rw[Ju l 0 t h,if_neg Z,ö,Ñ h];rfl
 .rw[Ö (by rw[Ds];omega),Ö Z]
def amK(l:List Nat)(i:Nat)(h:i<l.length):(jN l i).set i (pr l i)=jN l (i+1):=by
 refine Ą λt=> ?_;by_cases a:t<l.length
 .rw[Ju l (i+1) t a,ń];by_cases e:i=t
  .subst e;rw[if_pos U,if_pos (by rwa[Ds]),if_pos Z]
  .rw[if_neg e,Ju l i t a];by_cases q:t<i
   .rw[if_pos q,if_pos Z]
   .rw[if_neg q,if_neg Z]
 .rw[Ö (by rw[ě,Ds];omega),Ö (by rw[Ds];omega)]
def amL(l:List Nat):jN l (l.length/2)=uN l++l.drop (l.length/2):=by
 refine Ą λt=> ?_;have a:(uN l).length=l.length/2:=by simp[uN]
 by_cases b:t<l.length
 .rw[Ju _ _ t b];by_cases q:t<l.length/2
  .rw[if_pos q,â Z];simp[uN,ø q]
  .rw[if_neg q,Þ Z,List.getElem?_drop,a,show l.length/2+(t-l.length/2)=t by omega,ö,Ñ b];rfl
 .rw[Ö (by rw[Ds];omega),Ö (by rw[Ó,a,Μ];omega)]
def amM(l:List Nat)(t:Nat):pr l t<18446744073709551616:=by rw[<-V_];exact amG _ _
def M9{N:Nat}(a:0<N)(h:∀x∈jJ,x<N)(t:Nat):jJ.getD t 0<N:=by
 rw[ö];cases e:jJ[t]? with
 |none=>exact a
 |some x=>exact h x<|ü e
def W_(l:List Nat):rX (uN l):=M9 Z λx a=>by unfold uN at a;obtain⟨t,_,rfl⟩:=ķ.1 a;exact amM l t
def rY:Nat->List Nat->Nat
 |0,l=>l.getD 0 0
 |k+1,l=>rY k<|uN l
def TA(l:List Nat)(i x:Nat):kq (l.set i x)=(kq l).set i (Â Æ x):=by simp[kq,List.map_set]
def Jv(l:List Nat)(i x:Nat)(h:l[i]?=Ã x):(kq l)[i]?=Ã (Â Æ x):=by simp[kq,h]
section
variable{cp:Nat}{l:List Nat}{junk:List Ç}
def II(b n cp i:Nat)(T:ú)(l:List Nat)(junk:List Ç)(d:É)(a:ë)(w:É):Prop:=
 ∃c:Nat,Dr b n cp i c a/\c<=i/\fc (λk=>k=b) d w/\fh b (kq (jN l c)++junk) T w
def IE(b n cp i:Nat)(T:ú)(l:List Nat)(junk:List Ç)(c:É)(a:ë)(w:É):Prop:=
 Dr b n cp i i a/\fc (λk=>k=b) c w/\fh b (kq (jN l i)++junk) T w
def Na(i:Nat)(a:ë)(_:É):Nat:=match a.tmps.getD 12 Ĉ with
 |Â _ b=>i-b.toNat
 |_=>0
def X_(c:Dr b n cp i j y):Na i y w=i-j:=by obtain⟨u,rfl⟩:=c;show i-(j:Int).toNat=_;simp
def amN(g:rX l)(r:l.length=n)(s:2*i=n)(m:n<=16)(a:ë)(w:É)(o:II b n cp i T l junk u a w): Î À Jt (Exit.then (λc d=>II b n cp i T l junk u c d/\Na i c d<Na i a w)<|Q2<|IE b n cp i T l junk u) a w:=by
 let⟨c,h,v,j,e⟩:=o;rw[X_ h];obtain⟨d,rfl⟩:=h;by_cases p:c=i
 .subst p;exact amH d λa q=>⟨q,j,e⟩
 .have f:=λt x y=>
   e.r t _<|by rw[â (by simp[kq,Ds];omega)];exact Jv _ _ _<|by rw[Ju l c t Z,if_neg Z]
  refine amI c (l.getD (2*c) 0) (l.getD (2*c+1) 0) (pr l c) (V_ l c) Z Z m (g _) (g _) d (f _ Z Z) (f _ Z Z) ⟨_,f c Z Z⟩ (e.C c) λa q=>⟨⟨c+1,q,Z,(j.fg<|fc.I (X:=λk=>k=b) U _).fg<|fc.fR _ _,?_⟩,by rw[X_ q];omega⟩;rw[<-amK l c Z,TA,<-ĩ _ _ (by simp[kq,Ds];omega)];exact((e.fZ c<|Â Æ<|pr l c).I (fc.fR (λ_=>False) _) id)
def amO(c:rX l)(d:l.length=n)(e:2*i=n)(f:n<=16)(g:fh b (kq l++junk) T w)(h:Dr b n cp i (0:Nat) y): Î À (ã Jt) (Q2<|IE b n cp i T l junk w) y w:= ď (II b n cp i T l junk w) (Na i) ⟨0,h,å _,fc.fT _ _,by rwa[amJ]⟩<|amN c d e f
end
def FU(b a c:Nat)(u:Nat->Ç):ë:=⟨#[Ê (Ã ⟨b,0,Ä⟩) a c,u 1,u 2,u 3,u 4,u 5,u 6,u 7,u 8,u 9,u 10,u 11,u 12,u 13,u 14,u 15,u 16,u 17,u 18,u 19,u 20,u 21,u 22,u 23,u 24,u 25,u 26,u 27,u 28,u 29,u 30,u 31,u 32,u 33,u 34,u 35,u 36,u 37],[]⟩
def FV(b c d:Nat)(a:ë):Prop:=∃u,a=FU b c d u
section
variable{cp:Nat}{l:List Nat}{junk:List Ç}
def amP(c:n=1)(u:Nat->Ç)(d:∀a,FV b n cp a->H a w): Î À Js (Exit.then K<|QQ H) (FU b n cp u) w:=by
 unfold FU;conv=>arg 2;whnf
 subst c;go_wp2_with fail;exact d _ (gi _)
def amQ(u:Nat->Ç)(g:rX l)(h:l.length=n)(j:2*i=n)(s:0<i)(m:n<=16)(t:n<=cp)(d:fh b (kq l++junk) T w) (o:∀a e,FV b i cp a->fc (λk=>k=b) w e->fh b (kq (jN l i)++junk) T e->K a e): Î À Js (Exit.then K<|QQ H) (FU b n cp u) w:=by
 have L:∀a,Dr b n cp i (0:Nat) a->Î À (ã Jt) (Q2<|IE b n cp i T l junk w) a w:=λa p=>amO g h j m d p;unfold FU;conv=>arg 2;whnf
 have x:(n:Int).tdiv 2=(i:Int):=by rw[Int.tdiv_eq_ediv_of_nonneg Z];omega
 have y:(0:Int)<=(i:Int):=Z
 have z:(i:Int)<=(cp:Int):=Z
 have c:=ff<|Á L o;go_wp2_with fail;refine à ?_ (c.out.1 _ (gi _));rintro(_|(_|_|_|_)|_|_|_|_) a v hq;all_goals first|exact absurd hq id|skip
 let⟨q,r,d⟩:=hq;obtain⟨u,rfl⟩:=q;unfold vG;have f:=ff<|Á r d;go_wp2_with fail;exact c.out.2 _ _ (gi _) f.out.1 f.out.2
def OI(b cp:Nat)(T:ú)(c:É)(d:Nat)(a:ë)(w:É):Prop:=
 ∃(k:Nat) (l:List Nat) (junk:List Ç),FV b l.length cp a/\l.length=2^k/\l.length<=16/\l.length<=cp/\rX l/\fc (λk=>k=b) c w/\fh b (kq l++junk) T w/\rY k l=d
def OE(b cp:Nat)(c:É)(d:Nat)(a:ë)(w:É):Prop:=FV b 1 cp a/\1<=cp/\fc (λk=>k=b) c w/\w.cell? ⟨b,0,Ä⟩=Ã (Â Æ d)
def Nb(a:ë)(_:É):Nat:=match a.tmps.getD 0 Ĉ with
 |Ê _ n _=>n
 |_=>0
def X'(c:FV b n cp y):Nb y w=n:=by obtain⟨u,rfl⟩:=c;rfl
def amR(a:ë)(w:É)(r:OI b cp T u i a w): Î À Js (Exit.then (λc d=>OI b cp T u i c d/\Nb c d<Nb a w)<|QQ<|OE b cp u i) a w:=by
 let⟨k,l,junk,g,h,s,t,v,j,m,n⟩:=r;rw[X' g];obtain⟨c,rfl⟩:=g;cases k with
 |zero=>
  have e:=h;have f:w.cell? ⟨b,0,Ä⟩=Ã (Â Æ<|l.getD 0 0):=m.r 0 _ (by rw[â (by simp[kq];omega)];exact Jv _ _ _<|by rw[ö,Ñ Z];rfl);have o:l.getD 0 0=i:=n;rw[o]at f;refine amP e c λa q=>⟨by rwa[e]at q,Z,j,f⟩
 |succ k=>
  have x:2*2^k=l.length:=by rw[h,Nat.pow_succ];omega
  have y:0<2^k:=Nat.pow_pos Z;have f:l.length/2=2^k:=Z
  have o:(uN l).length=2^k:=by simp[uN,f]
  refine amQ c v U x y s t m λa d q z p=>⟨⟨k,uN l,kq (l.drop<|l.length/2)++junk,by rwa[o],o,Z,Z,W_ l,j.fg z,?_,n⟩,by rw[X' q];omega⟩;have e:=amL l;rw[f]at e;rw[e]at p;rw[f,<-þ];simpa[kq]using p
end
def Y_{cp:Nat}{l:List Nat}{junk:List Ç}(c:l.length=2^k)(d:l.length<=16)(f:l.length<=cp)(g:rX l)(h:fh b (kq l++junk) T w): Ô À 162 #[Ê (Ã ⟨b,0,Ä⟩) l.length cp] w λe a=>e=È (Â Æ<|rY k l)/\fc (λi=>i=b) w a:=by
 have L:∀a,FV b l.length cp a->Î À (ã Js) (QQ<|OE b cp w<|rY k l) a w:=λa e=>
  ď (OI b cp T w<|rY k l) Nb ⟨k,l,junk,e,c,d,f,g,fc.fT _ _,h,U⟩ amR
 generalize rY k l=r at*;generalize l.length=n at*;go_enter Tryz.func162,Tryz.ntmps162;go_wp2_with fail;refine à ?_ ((ff L).out _ (gi _));rintro(_|(_|_)|_|_|_|_) a v hq;all_goals first|exact absurd hq id|skip
 let⟨i,m,j,o⟩:=hq;obtain⟨u,rfl⟩:=i;unfold FU;go_wp2_with fail;go_ret;exact⟨U,(ff j).out⟩
def amS:À.underlying 118=Ã (.array 16 36):=ft
def amT(w:É)(c:i<16)(e:d[i]?=Ã (Â Æ h)):(ζ 118 (ė d)<|Â Ë (i:Int)).run À w=ay (Â Æ h) w:=by
 have a:(0:Int)<=(i:Int):=Z
 have b:(i:Int)<16:=Z
 simp[ζ,Ũ amS,asIntOf,go_sem,a,b];go_simp
noncomputable def Jw:Ş:=(bC.body.bind ko).getD Ń
def FW(c o b:Nat)(a:Array Ç)(i:Int)(u:Nat->Ç):ë:=⟨#[Å<|Ã ⟨c,o,Ä⟩,u 1,u 2,Å<|Ã ⟨b,0,Ä⟩,u 4,u 5,u 6,u 7,u 8,u 9,u 10,ė a,Â Ë i,u 13,u 14,u 15,u 16,u 17,u 18,u 19,u 20,u 21,u 22,u 23,u 24,u 25,u 26,u 27,u 28,u 29,u 30,u 31,u 32,u 33,u 34,u 35,u 36,u 37,u 38,u 39,u 40,u 41,u 42,u 43,u 44,u 45,u 46,u 47],[]⟩
def Dt(d o b:Nat)(c:Array Ç)(i:Int)(a:ë):Prop:=∃u,a=FW d o b c i u
section
variable{X:ë->É->Prop}
def amU(u:Nat->Ç)(c:∀a,Dt n i b d 16 a->X a w): Î À Jw (Exit.then K<|QQ X) (FW n i b d 16 u) w:=by
 unfold FW;conv=>arg 2;whnf
 go_wp2_with fail
 exact c _ (gi _)
def amV(c p z:Nat)(j:ot 14695981039346656037 p=z)(k:c<16)(l:p<18446744073709551616)(f:d[c]?=Ã (Â Æ p))(g:∃v,w.cell? ⟨b,c,Ä⟩=Ã v)(o:w.frozen? ⟨b,c,Ä⟩=Ï)(u:Nat->Ç) (h:∀a,Dt n i b d ((c+1:Nat):Int) a->K a (w.setCell ⟨b,c,Ä⟩<|Â Æ z)): Î À Jw (Exit.then K<|QQ X) (FW n i b d c u) w:=by
 unfold FW;conv=>arg 2;whnf
 let⟨q,g⟩:=g;have r:=λW=>amT W k f;have m:=ff h;clear h f;go_wp2_with (go_at_call 177;refine(Jq 14695981039346656037 p Z l _).mono ?_;rintro e s ⟨rfl,rfl⟩;rw[j]);exact m.out _ (gi _)
def lf(x:Nat):Nat:=ot 14695981039346656037 x
def Nc(x:Nat):lf x<18446744073709551616:=FT _ _ Z
def Z_(x:Nat):ot 14695981039346656037 x=lf x:=by unfold lf;exact Eq.refl _
def ou(l:List Nat)(i:Nat):List Nat:=(Đ 16).map λt=>if t<i then lf (l.getD t 0)else 0
def Du(l:List Nat)(i:Nat):(ou l i).length=16:=by simp[ou]
def TB(l:List Nat)(i t:Nat)(h:t<16):(ou l i)[t]?=Ã (if t<i then lf (l.getD t 0)else 0):=by simp[ou,ø h]
def amW(l:List Nat)(i:Nat)(h:i<16):(ou l i).set i (lf<|l.getD i 0)=ou l (i+1):=by
 refine Ą λt=> ?_;by_cases a:t<16
 .rw[TB l (i+1) t a,ń];by_cases e:i=t
  .subst e;rw[if_pos U,if_pos (by rwa[Du]),if_pos Z]
  .rw[if_neg e,TB l i t a];by_cases q:t<i
   .rw[if_pos q,if_pos Z]
   .rw[if_neg q,if_neg Z]
 .rw[Ö (by rw[ě,Du];omega),Ö (by rw[Du];omega)]
def Z'(l:List Nat):rX (ou l 16):=M9 Z λx a=>by
 unfold ou at a;obtain⟨t,_,rfl⟩:=ķ.1 a;split
 .exact Nc _
 .omega
def AI(n i b:Nat)(l:List Nat)(d:É)(a:ë)(w:É):Prop:=
 ∃c:Nat,Dt n i b (kq l).toArray c a/\c<=16/\fc (λk=>k=b) d w/\fh b (kq<|ou l c) 118 w
def AE(n i b:Nat)(l:List Nat)(c:É)(a:ë)(w:É):Prop:=
 Dt n i b (kq l).toArray 16 a/\fc (λk=>k=b) c w/\fh b (kq<|ou l 16) 118 w
def Nd(a:ë)(_:É):Nat:=match a.tmps.getD 12 Ĉ with
 |Â _ i=>16-i.toNat
 |_=>0
def aac(c:Dt n i b d j y):Nd y w=16-j:=by obtain⟨u,rfl⟩:=c;show 16-(j:Int).toNat=_;simp
def amX(h:rX jJ)(p:jJ.length=16)(a:ë)(w:É)(j:AI n i b jJ u a w): Î À Jw (Exit.then (λc d=>AI n i b jJ u c d/\Nd c d<Nd a w)<|QQ<|AE n i b jJ u) a w:=by
 let⟨c,f,r,g,e⟩:=j;rw[aac f];obtain⟨d,rfl⟩:=f;by_cases m:c=16
 .subst m;exact amU d λa q=>⟨q,g,e⟩
 .have o:(kq jJ).toArray[c]?=Ã (Â Æ<|jJ.getD c 0):=by
   rw[Ŝ];exact Jv _ _ _<|by rw[ö,Ñ Z];rfl
  refine amV c (jJ.getD c 0) (lf<|jJ.getD c 0) (Z_ _) Z (h _) o ⟨_,(e.r c _<|Jv _ _ _<|by rw[TB jJ c c Z,if_neg Z])⟩ (e.C c) d λa q=>⟨⟨c+1,q,Z,g.fg (fc.I (X:=λk=>k=b) U _),?_⟩,by rw[aac q];omega⟩;rw[<-amW jJ c Z,TA];exact e.fZ c<|Â Æ<|lf<|jJ.getD c 0
def amY{l:List Nat}(c:rX l)(d:l.length=16)(e:fh b (kq<|ou l 0) 118 w)(f:Dt n i b (kq l).toArray (0:Nat) y): Î À (ã Jw) (QQ<|AE n i b l w) y w:= ď (AI n i b l w) Nd ⟨0,f,å _,fc.fT _ _,e⟩<|amX c d
end
def Dv:Ş->List Ş
 |ã c=>[c]
 |.seq a b=>Dv a++Dv b
 |.block _ c=>Dv c
 |.scope c=>Dv c
 |.cond _ a b=>Dv a++Dv b
 |_=>[]
noncomputable def Jx:Ş:=((bC.body.map Dv).getD []).getD 1 Ń
def FX(a o:Nat)(P:ByteArray)(n:Nat)(i:Int)(u:Nat->Ç):ë:=⟨#[Å<|Ã ⟨a,o,Ä⟩,u 1,u 2,u 3,u 4,u 5,Â Æ n,u 7,u 8,u 9,u 10,u 11,u 12,u 13,u 14,u 15,u 16,u 17,u 18,u 19,u 20,u 21,u 22,u 23,u 24,u 25,u 26,u 27,u 28,u 29,u 30,u 31,u 32,u 33,Â Ë P.size,Â Ë i,u 36,u 37,u 38,u 39,u 40,u 41,u 42,u 43,u 44,u 45,u 46,u 47],[]⟩
def Dw(b o:Nat)(P:ByteArray)(n:Nat)(i:Int)(a:ë):Prop:=∃u,a=FX b o P n i u
def zP(n:Nat)(l:List UInt8):Nat:=l.foldl (λn c=>tb n c.toNat) n
def amZ(b:Nat)(c:Int)(d:c=B.size)(u:Nat->Ç)(e:∀a,Dw n i B b c a->H a w): Î À Jx (Exit.then K<|Q2 H) (FX n i B b c u) w:=by
 unfold FX;conv=>arg 2;whnf
 subst d;go_wp2_with fail;exact e _ (gi _)
def am0{B:ByteArray}{c:UInt8}(w:É)(a:B.data.toList[i]?=Ã c):(ζ 9 (Í B)<|Â Ë (i:Int)).run À w=ay (Â br (c.toNat:Nat)) w:=by
 have e:(0:Int)<=(i:Int):=Z
 let⟨b,d⟩:=Ù.1 a;have f:i<B.size:=by simpa using b
 have g:B[i]=c:=by rw[<-d];exact(Array.getElem_toList _).symm
 go_simp
def am1(b d z:Nat)(c:UInt8)(g:tb b c.toNat=z)(l:d<B.size)(m:B.size<=1000000)(k:b<18446744073709551616)(h:B.data.toList[d]?=Ã c)(o:w.cell? ⟨n,i+1,Ä⟩=Ã (Í B))(u:Nat->Ç) (j:∀a,Dw n i B z ((d+1:Nat):Int) a->K a w): Î À Jx (Exit.then K<|Q2 H) (FX n i B b d u) w:=by
 unfold FX;conv=>arg 2;whnf
 have p:(0:Int)<=(d:Int):=Z
 have q:(d:Int)<(B.size:Int):=Z
 have r:(B.size:Int)<=1000000:=Z
 have s:=λW=>am0 W h;have t:=c.toNat_lt;have T:=U_ b c.toNat k Z w;rw[g]at T;generalize c.toNat=cn at*;have f:=ff<|Á T j;clear j T h g;go_wp2_with (go_at_call 178;apply f.out.1.mono;rintro e v ⟨rfl,rfl⟩);exact f.out.2 _ (gi _)
def BI(n i:Nat)(B:ByteArray)(d:É)(e:Nat)(a:ë)(w:É):Prop:=
 ∃b c:Nat,Dw n i B b c a/\c<=B.size/\b<18446744073709551616/\w=d/\zP b (B.data.toList.drop c)=e
def BE(n i:Nat)(B:ByteArray)(b:É)(c:Nat)(a:ë)(w:É):Prop:=Dw n i B c B.size a/\w=b
def Nf(m:Nat)(a:ë)(_:É):Nat:=match a.tmps.getD 35 Ĉ with
 |Â _ i=>m-i.toNat
 |_=>0
def aad(c:Dw n i B j b y):Nf m y w=m-b:=by obtain⟨u,rfl⟩:=c;show m-(b:Int).toNat=_;simp
def am2(h:B.size<=1000000)(k:u.cell? ⟨n,i+1,Ä⟩=Ã (Í B))(a:ë)(w:É)(l:BI n i B u j a w): Î À Jx (Exit.then (λb c=>BI n i B u j b c/\Nf B.size b c<Nf B.size a w)<|Q2<|BE n i B u j) a w:=by
 obtain⟨b,c,f,p,m,rfl,e⟩:=l;rw[aad f];obtain⟨d,rfl⟩:=f;have r:B.data.toList.length=B.size:=fj
 by_cases o:c=B.size
 .rw[ģ Z]at e;subst e;exact amZ b c Z d λa q=>⟨by rwa[o]at q,U⟩
 .have g:c<B.data.toList.length:=Z
  rw[Ę g]at e;refine am1 b c (tb b (B.data.toList[c]).toNat) (B.data.toList[c]) (Eq.refl _) Z h m (Ñ g) k d λa q=>⟨⟨_,c+1,q,Z,M7 _ _,U,e⟩,by rw[aad q];omega⟩
def am3(b:B.size<=1000000)(c:j<18446744073709551616)(d:w.cell? ⟨n,i+1,Ä⟩=Ã (Í B))(e:Dw n i B j (0:Nat) y): Î À (ã Jx) (Q2<|BE n i B w<|zP j B.data.toList) y w:= ď (BI n i B w<|zP j B.data.toList) (Nf B.size) ⟨j,0,e,å _,c,U,U⟩<|am2 b d
abbrev zA:List Ç:=[Â Æ 0,Â Æ 0,Â Æ 0,Â Æ 0,Â Æ 0,Â Æ 0,Â Æ 0,Â Æ 0,Â Æ 0,Â Æ 0,Â Æ 0,Â Æ 0,Â Æ 0,Â Æ 0,Â Æ 0,Â Æ 0]
def Dx(B:Nat)(P:ByteArray)(a:List Nat):Nat:=zP (ot (lf B)<|rY 4<|ou a 16) P.data.toList
def TD:∀(k:Nat) (l:List Nat),rX l->rY k l<18446744073709551616
 |0,_,h=>h 0
 |k+1,l,_=>TD k (uN l)<|W_ l
def am4(l:List Nat):kq (ou l 0)=zA:=by rfl
def am5{P:ByteArray}(d f g p r s x y z C D E F G I J:Nat)(Y:(kq jJ).toArray=#[Â Æ d,Â Æ f,Â Æ g,Â Æ p,Â Æ r,Â Æ s,Â Æ x,Â Æ y,Â Æ z,Â Æ C,Â Æ D,Â Æ E,Â Æ F,Â Æ G,Â Æ I,Â Æ J])(hl:jJ.length=16)(hB:m<18446744073709551616)(hP:P.size<=1000000)(hs:rX jJ) (K:w.cell? ⟨n,j,Ä⟩=Ã (Â Æ m)) (c1:w.cell? ⟨n,j+1,Ä⟩=Ã (Í P)) (r0:w.cell? ⟨n,j+2,Ä⟩=Ã (Â Æ d)) (r1:w.cell? ⟨n,j+2+1,Ä⟩=Ã (Â Æ f)) (r2:w.cell? ⟨n,j+2+2,Ä⟩=Ã (Â Æ g)) (r3:w.cell? ⟨n,j+2+3,Ä⟩=Ã (Â Æ p)) (r4:w.cell? ⟨n,j+2+4,Ä⟩=Ã (Â Æ r)) (r5:w.cell? ⟨n,j+2+5,Ä⟩=Ã (Â Æ s)) (r6:w.cell? ⟨n,j+2+6,Ä⟩=Ã (Â Æ x)) (r7:w.cell? ⟨n,j+2+7,Ä⟩=Ã (Â Æ y)) (r8:w.cell? ⟨n,j+2+8,Ä⟩=Ã (Â Æ z)) (r9:w.cell? ⟨n,j+2+9,Ä⟩=Ã (Â Æ C)) (r10:w.cell? ⟨n,j+2+10,Ä⟩=Ã (Â Æ D)) (r11:w.cell? ⟨n,j+2+11,Ä⟩=Ã (Â Æ E)) (r12:w.cell? ⟨n,j+2+12,Ä⟩=Ã (Â Æ F)) (r13:w.cell? ⟨n,j+2+13,Ä⟩=Ã (Â Æ G)) (r14:w.cell? ⟨n,j+2+14,Ä⟩=Ã (Â Æ I)) (r15:w.cell? ⟨n,j+2+15,Ä⟩=Ã (Â Æ J)): Ô À 161 #[Å<|Ã ⟨n,j,Ä⟩] w λe c=>e=È (Â Æ<|Dx m P jJ)/\fc (λ_=>False) w c:=by
 have gJ:=ä w _ K;have L1:∀a,Dt n j w.heap.size #[Â Æ d,Â Æ f,Â Æ g,Â Æ p,Â Æ r,Â Æ s,Â Æ x,Â Æ y,Â Æ z,Â Æ C,Â Æ D,Â Æ E,Â Æ F,Â Æ G,Â Æ I,Â Æ J] (0:Nat) a->Î À (ã Jw) (QQ<|AE n j w.heap.size jJ<|w.alloc<|Ð zA.toArray 118) a (w.alloc<|Ð zA.toArray 118):=λa L=>
  amY hs hl (by rw[am4];exact fh.N w zA 118)<|by rwa[Y]
 have M:∀W,fh w.heap.size (kq<|ou jJ 16) 118 W->Ô À 162 #[Ê (Ã ⟨w.heap.size,0,Ä⟩) 16 16] W λe c=>e=È (Â Æ<|rY 4<|ou jJ 16)/\fc (λi=>i=w.heap.size) W c:=λW hW=>by have t:=Y_ (w:=W) (b:=w.heap.size) (cp:=16) (k:=4) (T:=118) (l:=ou jJ 16) (junk:=[]) (by rw[Du]) (by rw[Du];omega) (by rw[Du];omega) (Z' jJ) (by rwa[ù]);rwa[Du]at t
 have N:=TD 4 (ou jJ 16)<|Z' jJ;obtain⟨t,O⟩:∃t,rY 4 (ou jJ 16)=t:=⟨_,U⟩;have hac:Dx m P jJ=zP (ot (lf m) t) P.data.toList:=by unfold Dx;rw[O]
 rw[hac];rw[O]at M N;have L2:∀W a,W.cell? ⟨n,j+1,Ä⟩=Ã (Í P)->Dw n j P (ot (lf m) t) (0:Nat) a->Î À (ã Jx) (Q2<|BE n j P W<|zP (ot (lf m) t) P.data.toList) a W:=λW a h L=>
  am3 hP (FT _ _<|Nc m) h L
 have C1:∀W,Ô À 177 #[Â Æ 14695981039346656037,Â Æ m] W λe c=>e=È (Â Æ<|lf m)/\c=W:=λW=>by rw[<-Z_];exact Jq 14695981039346656037 m Z hB W
 have C2:∀W,Ô À 177 #[Â Æ<|lf m,Â Æ t] W λe c=>e=È (Â Æ<|ot (lf m) t)/\c=W:=λW=>Jq (lf m) t (Nc m) N W;have H:=ff<|Á K<|Á c1<|Á L1<|Á M<|Á L2<|Á C1 C2;clear L1 M L2 C1 C2 hac O N hs K c1 Y;generalize zP (ot (lf m) t) P.data.toList=res at*;generalize ot (lf m) t=n2 at*;generalize lf m=n1 at*;go_enter Tryz.func161,Tryz.ntmps161;go_wp2_with fail;refine à (Q:=QQ<|AE n j w.heap.size jJ<|w.alloc<|Ð zA.toArray 118) ?_ (H.out.2.2.1 _ (gi _));rintro(_|(_|_)|_|_|_|_) a v hq;all_goals first|exact absurd hq id|skip
 let⟨S,hk,hBv⟩:=hq;have V:fc (λ_=>False) w v:=(fc.gE (λ_=>False) w zA.toArray 118).C hk λi hi q=>by omega
 have g0:=V.r H.out.1 id;obtain⟨u,rfl⟩:=S;unfold FW;have HV:=ff<|Á V hBv;clear V hBv hk r0 r1 r2 r3 r4 r5 r6 r7 r8 r9 r10 r11 r12 r13 r14 r15;go_wp2_with (first
  |(go_at_call 162;refine(H.out.2.2.2.1 _ HV.out.2).mono ?_;rintro e w2 ⟨rfl,zd⟩;have X:=HV.out.1.C zd (λi hi q=>by omega);have g1:=X.r H.out.2.1 id;have HK:=ff X;clear zd X)
  |(go_at_call 177;with_reducible refine(H.out.2.2.2.2.2.2 _).mono ?_;rintro e X ⟨rfl,rfl⟩)
  |(go_at_call 177;refine(H.out.2.2.2.2.2.1 _).mono ?_;rintro e X ⟨rfl,rfl⟩))
 refine à (Q:=Q2<|BE n j P _ res) ?_ (H.out.2.2.2.2.1 _ _ g1 (gi _));rintro(_|(_|_|_|_)|_|_|_|_) a v2 hq;all_goals first|exact absurd hq id|skip
 obtain⟨S,rfl⟩:=hq;obtain⟨u,rfl⟩:=S;unfold FX;go_wp2_with fail;go_ret;exact⟨U,HK.out⟩
def am6{P:ByteArray}(c:j<18446744073709551616)(d:P.size<=1000000)(f:jJ.length=16)(g:rX jJ) (h:w.cell? ⟨i,n,Ä⟩=Ã (Â Æ j)) (k:w.cell? ⟨i,n+1,Ä⟩=Ã (Í P)) (b:∀(a x:Nat),jJ[a]?=Ã x->w.cell? ⟨i,n+2+a,Ä⟩=Ã (Â Æ x)): Ô À 161 #[Å<|Ã ⟨i,n,Ä⟩] w λe l=>e=È (Â Æ<|Dx j P jJ)/\fc (λ_=>False) w l:=by
 match jJ,f with
 |[a0,a1,a2,a3,a4,a5,a6,a7,a8,a9,a10,a11,a12,a13,a14,a15],_=>exact am5 a0 a1 a2 a3 a4 a5 a6 a7 a8 a9 a10 a11 a12 a13 a14 a15 fP fP c d g h k (b 0 a0 U) (b 1 a1 U) (b 2 a2 U) (b 3 a3 U) (b 4 a4 U) (b 5 a5 U) (b 6 a6 U) (b 7 a7 U) (b 8 a8 U) (b 9 a9 U) (b 10 a10 U) (b 11 a11 U) (b 12 a12 U) (b 13 a13 U) (b 14 a14 U)<|b 15 a15 U
abbrev zB:List Ç:=[Â Æ 0,Â Æ 0,Â Æ 0,Â Æ 0,Â Æ 0,Â Æ 0,Â Æ 0,Â Æ 0]
noncomputable def Ng:Ş:=(Tryz.f122.body.bind ko).getD Ń
def FY(a b:Nat)(i:Int)(u:Nat->Ç):ë:=⟨#[Å<|Ã ⟨a,0,Ä⟩,u 1,u 2,Å<|Ã ⟨b,0,Ä⟩,u 4,Â Ë i,u 6,u 7,u 8,u 9,u 10,u 11,u 12,u 13,u 14,u 15,u 16,u 17],[]⟩
def FZ(c b:Nat)(i:Int)(a:ë):Prop:=∃u,a=FY c b i u
section
variable{X:ë->É->Prop}
def am7(u:Nat->Ç)(c:∀a,FZ i b 8 a->X a w): Î À Ng (Exit.then K<|QQ X) (FY i b 8 u) w:=by
 unfold FY;conv=>arg 2;whnf
 go_wp2_with fail
 exact c _ (gi _)
def am8(c z:Nat)(o:c<8)(T:Ô À 161 #[Å<|Ã ⟨i,c*18,Ä⟩] w λe j=>e=È (Â Æ z)/\fc (λ_=>False) w j)(g:List Ç)(h:Ç)(k:g[c]?=Ã h)(l:fh b g 116 w)(u:Nat->Ç) (m:∀a f,FZ i b ((c+1:Nat):Int) a->fc (λ_=>False) w f->K a (f.setCell ⟨b,c,Ä⟩<|Â Æ z)): Î À Ng (Exit.then K<|QQ X) (FY i b c u) w:=by
 unfold FY;conv=>arg 2;whnf
 have H:=ff<|Á T<|Á m l;go_wp2_with (go_at_call 161;apply H.out.1.mono;rintro e f ⟨rfl,d⟩;have p:=(H.out.2.2.I d id).r c h k;have q:=(H.out.2.2.I d id).C c;have n:=ff d;clear d);exact H.out.2.1 _ _ (gi _) n.out
def qt(D:Nat->Nat)(i:Nat):List Nat:=(Đ 8).map λt=>if t<i then D t else 0
def Dy(D:Nat->Nat)(i:Nat):(qt D i).length=8:=by simp[qt]
def TG(D:Nat->Nat)(i t:Nat)(h:t<8):(qt D i)[t]?=Ã (if t<i then D t else 0):=by simp[qt,ø h]
def am9(D:Nat->Nat)(i:Nat)(h:i<8):(qt D i).set i (D i)=qt D (i+1):=by
 refine Ą λt=> ?_;by_cases a:t<8
 .rw[TG D (i+1) t a,ń];by_cases e:i=t
  .subst e;rw[if_pos U,if_pos (by rwa[Dy]),if_pos Z]
  .rw[if_neg e,TG D i t a];by_cases q:t<i
   .rw[if_pos q,if_pos Z]
   .rw[if_neg q,if_neg Z]
 .rw[Ö (by rw[ě,Dy];omega),Ö (by rw[Dy];omega)]
def aae(b:∀i,D i<18446744073709551616):rX (qt D 8):=M9 Z λx a=>by
 unfold qt at a;obtain⟨t,_,rfl⟩:=ķ.1 a;split
 .exact b _
 .omega
def ana(D:Nat->Nat):kq (qt D 0)=zB:=by rfl
def DI(i b:Nat)(D:Nat->Nat)(d:É)(a:ë)(w:É):Prop:=
 ∃c:Nat,FZ i b c a/\c<=8/\fc (λk=>k=b) d w/\fh b (kq<|qt D c) 116 w
def DE(i b:Nat)(D:Nat->Nat)(c:É)(a:ë)(w:É):Prop:=
 FZ i b 8 a/\fc (λk=>k=b) c w/\fh b (kq<|qt D 8) 116 w
def Nh(a:ë)(_:É):Nat:=match a.tmps.getD 5 Ĉ with
 |Â _ i=>8-i.toNat
 |_=>0
def aaf(c:FZ i b n y):Nh y w=8-n:=by obtain⟨u,rfl⟩:=c;show 8-(n:Int).toNat=_;simp
def anb(C:∀c,c<8->∀W,fc (λk=>k=b) u W->Ô À 161 #[Å<|Ã ⟨i,c*18,Ä⟩] W λe f=>e=È (Â Æ<|D c)/\fc (λ_=>False) W f)(a:ë)(w:É)(m:DI i b D u a w): Î À Ng (Exit.then (λd f=>DI i b D u d f/\Nh d f<Nh a w)<|QQ<|DE i b D u) a w:=by
 let⟨c,j,o,g,h⟩:=m;rw[aaf j];obtain⟨d,rfl⟩:=j;by_cases n:c=8
 .subst n;exact am7 d λa q=>⟨q,g,h⟩
 .refine am8 c (D c) Z (C c Z w g) _ _ (Jv _ _ _<|by rw[TG D c c Z,if_neg Z]) h d λa p q l=>⟨⟨c+1,q,Z,(g.fg<|l.S λ_ _=>Ĥ).fg (fc.I (X:=λk=>k=b) U _),?_⟩,by rw[aaf q];omega⟩;rw[<-am9 D c Z,TA];exact(h.I l id).fZ c<|Â Æ<|D c
end
def Ni(D:Nat->Nat):Nat:=rY 3<|qt D 8
def anc(h:∀b,D b<18446744073709551616)(C:∀b,b<8->∀W,fc (λk=>k=w.heap.size) (w.alloc<|Ð zB.toArray 116) W->Ô À 161 #[Å<|Ã ⟨i,b*18,Ä⟩] W λe c=>e=È (Â Æ<|D b)/\fc (λ_=>False) W c): Ô À 122 #[Å<|Ã ⟨i,0,Ä⟩] w λe c=>e=È (Â Æ<|Ni D)/\fc (λ_=>False) w c:=by
 have L:∀a,FZ i w.heap.size (0:Nat) a->Î À (ã Ng) (QQ<|DE i w.heap.size D<|w.alloc<|Ð zB.toArray 116) a (w.alloc<|Ð zB.toArray 116):=λa j=>
  ď (DI i w.heap.size D<|w.alloc<|Ð zB.toArray 116) Nh ⟨0,j,å _,fc.fT _ _,by rw[ana];exact fh.N w zB 116⟩<|anb C
 have T:∀W,fh w.heap.size (kq<|qt D 8) 116 W->Ô À 162 #[Ê (Ã ⟨w.heap.size,0,Ä⟩) 8 8] W λe c=>e=È (Â Æ<|rY 3<|qt D 8)/\fc (λb=>b=w.heap.size) W c:=λW l=>by have t:=Y_ (cp:=8) (k:=3) (by rw[Dy]) (by rw[Dy];omega) (by rw[Dy];omega) (aae h) (by rwa[ù]);rwa[Dy]at t
 unfold Ni;have H:=ff<|Á L T;generalize rY 3 (qt D 8)=t at*;go_enter Tryz.func122,Tryz.ntmps122;go_wp2_with fail;refine à (Q:=QQ<|DE i w.heap.size D<|w.alloc<|Ð zB.toArray 116) ?_ (H.out.1 _ (gi _));rintro(_|(_|_)|_|_|_|_) a v hq;all_goals first|exact absurd hq id|skip
 let⟨m,n,o⟩:=hq;have p:=(fc.gE (λ_=>False) w zB.toArray 116).C n λb r q=>by omega
 obtain⟨u,rfl⟩:=m;unfold FY;have d:=ff<|Á p o;go_wp2_with (go_at_call 162;refine(H.out.2 _ d.out.2).mono ?_;rintro e x ⟨rfl,f⟩;have g:=d.out.1.C f (λb r q=>by omega);have s:=ff g;clear f g);go_ret;exact⟨U,s.out⟩
def Jy(a:I3):List Nat:=(Đ 16).map λj=>(a.C j).toNat
def aag(a:I3):Nat:=Dx a.fu.toNat a.r<|Jy a
def xT(s:St):Nat:=Ni λi=>aag<|s i
def ane(l:List UInt8):∀n,n<18446744073709551616->zP n l<18446744073709551616:=by
 induction l with
 |nil=>exact λn h=>h
 |cons c r h=>exact λn _=>h _<|M7 _ _
def aah(B:Nat)(P:ByteArray)(a:List Nat):Dx B P a<18446744073709551616:=by unfold Dx;exact ane _ _<|FT _ _<|Nc B
def TH(s:St)(h:i<144):(iq s)[i]?=Ã (qn s i):=by simp[iq,ø h]
def mh.anf{s:St}(m:mh n s h W)(a:gI s)(i:Nat)(f:i<8): Ô À 161 #[Å<|Ã ⟨n,i*18,Ä⟩] W λe b=>e=È (Â Æ<|aag<|s i)/\fc (λ_=>False) W b:=by
 have g:=λj d=>by have:=m.C j _<|TH s d;simpa using this
 have b:=a.fu i;have k:=g (i*18) Z;have l:=g (i*18+1) Z;rw[<-qo s (Ê Ä 0 0) Z,I5 _ _ f]at k;rw[<-qo s (Ê Ä 0 0) Z,MP _ _ f]at l;refine am6 (by have e:=b.1;have c:=b.2;omega) (by have:=(a.I i).1;omega) (by simp[Jy]) ?_ ?_ l ?_
 .refine M9 Z λx e=> ?_;unfold Jy at e;obtain⟨t,_,rfl⟩:=ķ.1 e;have c:=(a.C i t).2;omega
 .rw[k];unfold qm;rw[ę b.1]
 .intro j x e;have d:j<16:=by have:=(Ù.1 e).1;simpa[Jy]using this
  have c:=g (i*18+2+j) Z;rw[<-qo s (Ê Ä 0 0) Z,MQ _ _ f d]at c;have t:((s i).C j).toNat=x:=by simpa[Jy,ø d]using e
  rw[c,<-t];unfold qm;rw[ę (a.C i j).1]
def ang{s:St}(b:mh i s h w)(c:gI s): Ô À 122 #[Å<|Ã ⟨i,0,Ä⟩] w λe d=>e=È (Â Æ<|xT s)/\fc (λ_=>False) w d:=anc (λa=>aah _ _ _) λa f W k=>((b.r (fc.gE (λ_=>False) w _ _) id).r k<|by show i≠w.heap.size;exact Nat.ne_of_lt<|ä w _ b.h).anf c a f
def j1(i:Nat):St:=λj=>⟨if j<i then 1000 else 0,⟨#[]⟩,λ_=>0⟩
def anh(i:Nat):j1 (i+1)=(j1 i).fu i 1000:=by
 funext j;unfold j1 St.fu St.fZ;by_cases e:j=i
 .subst e;simp
 .by_cases q:j<i
  .simp[e,q,Nat.lt_succ_of_lt q]
  .have:¬j<i+1:=Z
   simp[e,q,this]
def ani(s:St)(a:i<8)(x:Int):(iq s).set (i*18) (Â Æ x)=iq (s.fu i x):=by have h:=k_ s (Ê Ä 0 0) a x;rw[zN,zN,ĩ _ _ (by rw[rW];omega)]at h;exact List.append_cancel_right h
def anj(s:St)(a:i<8):(iq s)[i*18]?=Ã (Â Æ (s i).fu):=by rw[TH s Z,<-qo s (Ê Ä 0 0) Z,I5 _ _ a];rfl
noncomputable def Nj:Ş:=(Tryz.f60.body.bind ko).getD Ń
def F0(r b:Nat)(i:Int)(u:Nat->Ç):ë:=⟨#[Å<|Ã ⟨r,0,Ä⟩,Å<|Ã ⟨b,0,Ä⟩,u 2,Â Ë i,u 4,u 5,u 6,u 7,u 8,u 9,u 10],[]⟩
def F1(r b:Nat)(i:Int)(a:ë):Prop:=∃u,a=F0 r b i u
section
variable{X:ë->É->Prop}
def ank(u:Nat->Ç)(c:∀a,F1 i b 8 a->X a w): Î À Nj (Exit.then K<|QQ X) (F0 i b 8 u) w:=by
 unfold F0;conv=>arg 2;whnf
 go_wp2_with fail
 exact c _ (gi _)
def anl(c:Nat)(g:c<8)(e:Ç)(h:w.cell? ⟨b,c*18,Ä⟩=Ã e)(j:w.frozen? ⟨b,c*18,Ä⟩=Ï)(u:Nat->Ç) (d:∀a,F1 i b ((c+1:Nat):Int) a->K a (w.setCell ⟨b,c*18,Ä⟩<|Â Æ 1000)): Î À Nj (Exit.then K<|QQ X) (F0 i b c u) w:=by
 unfold F0;conv=>arg 2;whnf
 have f:=ff d;clear d;go_wp2_with fail;exact f.out _ (gi _)
def TJ(i b:Nat)(d:É)(a:ë)(w:É):Prop:=∃c:Nat,F1 i b c a/\c<=8/\fc (λk=>k=b) d w/\fh b (iq<|j1 c) 140 w
def FE0(i b:Nat)(c:É)(a:ë)(w:É):Prop:=F1 i b 8 a/\fc (λk=>k=b) c w/\fh b (iq<|j1 8) 140 w
def Nk(a:ë)(_:É):Nat:=match a.tmps.getD 3 Ĉ with
 |Â _ i=>8-i.toNat
 |_=>0
def aai(c:F1 i b n y):Nk y w=8-n:=by obtain⟨u,rfl⟩:=c;show 8-(n:Int).toNat=_;simp
def anm(a:ë)(w:É)(h:TJ i b u a w): Î À Nj (Exit.then (λc d=>TJ i b u c d/\Nk c d<Nk a w)<|QQ<|FE0 i b u) a w:=by
 let⟨c,f,l,g,e⟩:=h;rw[aai f];obtain⟨d,rfl⟩:=f;by_cases j:c=8
 .subst j;exact ank d λa q=>⟨q,g,e⟩
 .refine anl c Z _ (e.r _ _<|anj _ Z) (e.C _) d λa q=>⟨⟨c+1,q,Z,g.fg (fc.I (X:=λk=>k=b) U _),?_⟩,by rw[aai q];omega⟩;have k:=e.fZ (c*18)<|Â Æ 1000;rwa[ani _ Z,<-anh]at k
end
def ano:(À.info? 140).map (λi=>(i.size,i.zero.map λz=>z.cells.toList))=Ã (144,Ã<|iq<|j1 0):=ft
def anp(s:St):∀v∈iq s,v.oneCell'=Ý:=λv a=>Td s (lv:=Ê Ä 0 0) U v<|by rw[zN];exact Ţ _ a
def anq(w:É):Ô À 60 #[] w λe l=>e=È (ė (iq<|j1 8).toArray)/\fc (λ_=>False) w l:=by
 let⟨m,n,o⟩:=Ì.1 Tt;let⟨O,h,c⟩:=Ì.1 ano;simp only[Prod.mk.injEq]at c;let⟨p,r⟩:=c;let⟨t,x,y⟩:=Ì.1 r;have z:t.cells=(iq<|j1 0).toArray:=by rw[<-y]
 have B:∀s,(À.info? 140).map (·.size)=Ã (iq s).length:=λs=>by rw[h,rW];simp[p]
 have L:∀W a,fh (w.heap.size+1) (iq<|j1 0) 140 W->F1 w.heap.size (w.heap.size+1) (0:Nat) a->Î À (ã Nj) (QQ<|FE0 w.heap.size (w.heap.size+1) W) a W:=λW a f C=>
  ď (TJ w.heap.size (w.heap.size+1) W) Nk ⟨0,C,å _,fc.fT _ _,f⟩ anm
 have j:=fc.gE (λ_=>False) (w.alloc<|Ð (iq<|j1 0).toArray 140) (iq<|j1 0).toArray 140;have D:=(fh.N w (iq<|j1 0) 140).I j id;have E:fh (w.heap.size+1) (iq<|j1 0) 140 ((w.alloc<|Ð (iq<|j1 0).toArray 140).alloc<|Ð (iq<|j1 0).toArray 140):=by have:=fh.N (w.alloc<|Ð (iq<|j1 0).toArray 140) (iq<|j1 0) 140;simpa using this
 have b:=ff<|Á n<|Á o<|Á h<|Á x<|Á z B;have H:=ff (Á L<|Á ((fc.gE (λ_=>False) w (iq<|j1 0).toArray 140).fg j)<|Á D E);go_enter Tryz.func60,Tryz.ntmps60;go_wp2_with (first
  |(with_reducible refine Ď U (Ã 0) U _ _ (S9 U b.out.2.2.1 b.out.2.2.2.1) ?_;rw[b.out.2.2.2.2.1])
  |(with_reducible refine Ď U (Ã 1) U _ _ (S9 U b.out.2.2.1 b.out.2.2.2.1) ?_;rw[b.out.2.2.2.2.1]))
 refine à ?_ (H.out.1 _ _ H.out.2.2.2 (gi _));rintro(_|(_|_)|_|_|_|_) a v c;all_goals first|exact absurd c id|skip
 let⟨F,k,f⟩:=c;have g:=H.out.2.2.1.I k Z;obtain⟨u,rfl⟩:=F;unfold F0;have G:=fh.Y (by rw[ù];exact f);have I:v.there w.heap.size 0 (iq<|j1 8).toArray.size:=g.Ta (by simp[rW]);have J:=MZ (iq<|j1 8) [] [] v (iq<|j1 0) (by rw[rW,rW]) (by simpa using g);have K:=(H.out.2.1.C k λi M q=>by omega).C (Jg (iq<|j1 8) 0 v g.G) λi M q=>by omega
 have d:=ff<|Á K<|Á J<|Á G I;go_wp2_with (first
  |(with_reducible refine Ĝ U 140 _ U (w.heap.size+1) 0 U (iq<|j1 8) m d.out.2.2.1 b.out.1 b.out.2.1 (b.out.2.2.2.2.2 _) ?_)
  |(with_reducible refine Ŋ U 140 _ _ U w.heap.size 0 (iq (j1 8)).toArray U U d.out.2.2.2 (by rw[b.out.2.2.2.2.2 (j1 8)];simp) (Ķ (anp _)) ?_))
 have N:fh w.heap.size (iq (j1 8)++[]) 140 (v.setCells w.heap.size 0<|iq<|j1 8):=by simpa using d.out.2.1
 refine õ (Te U U (fh.Y N) b.out.1 b.out.2.1<|b.out.2.2.2.2.2 _) U<|⟨U,d.out.1⟩
structure fJ where
 s:St
 r:List (Nat×Int)
 C:List (Int×Bool)
 h:Int
def zR(a:ċ)(k:Nat)(d:List Ç)(w:É):Prop:=
 ∃p c,w.cell? a=Ã (Ê p k c)/\∀(j:Nat) (x:Ç),d[j]?=Ã x->∃b o,p=Ã ⟨b,o,Ä⟩/\w.cell? ⟨b,o+j,Ä⟩=Ã x
def zR.r(h:zR a k l w)(q:fc (λ_=>False) w u):zR a k l u:=by let⟨p,c,d,e⟩:=h;exact⟨p,c,q.r d id,λj x f=>by let⟨b,o,g,i⟩:=e j x f;exact⟨b,o,g,q.r i id⟩⟩
structure rZ(b:Nat)(v:fJ)(w:É):Prop where
 r:mh b v.s v.h w
 C:gI v.s
 I:0<=v.h
 M:v.h<=40
 N:zR ⟨b,144,Ä⟩ v.r.length (ki v.r) w
 S:zR ⟨b,146,Ä⟩ v.C.length (uK v.C) w
def rZ.Y{v:fJ}(h:rZ b v w)(q:fc (λ_=>False) w u):rZ b v u:= ⟨h.r.r q id,h.C,h.I,h.M,h.N.r q,h.S.r q⟩
structure qu(bp:Option ċ)(n:Nat)(vs:List (Nat×fJ))(w:É):Prop where
 r:n=vs.length
 C:∀(j b:Nat) (v:fJ),vs[j]?=Ã (b,v)->∃sb so,bp=Ã ⟨sb,so,Ä⟩/\w.cell? ⟨sb,so+j,Ä⟩=Ã (Å<|Ã ⟨b,0,Ä⟩)/\rZ b v w
def qu.I{a:List (Nat×fJ)}(h:qu O n a w)(q:fc (λ_=>False) w u):qu O n a u:= ⟨h.r,λj b v e=>by let⟨c,d,f,g,i⟩:=h.C j b v e;exact⟨c,d,f,q.r g id,i.Y q⟩⟩
def zS(a b:Nat×fJ):Nat×fJ:=if a.2.h<b.2.h then b else a
def uO(d:Nat×fJ)(a:List (Nat×fJ)):Nat×fJ:=a.foldl zS d
noncomputable def Nl:Ş:=(Tryz.f153.body.bind ko).getD Ń
def F2(a:Option ċ)(n b:Nat)(c:Nat)(i:Int)(u:Nat->Ç):ë:=⟨#[Ê a n b,Ĉ,Å Ä,Å<|Ã ⟨c,0,Ä⟩,u 4,u 5,u 6,u 7,u 8,Ê a n b,Â Ë n,Â Ë i,u 12,u 13,u 14,u 15,u 16,u 17,u 18,u 19,u 20,u 21,u 22,u 23,u 24,u 25,u 26],[]⟩
def Jz(b:Option ċ)(n c:Nat)(d:Nat)(i:Int)(a:ë):Prop:=∃u,a=F2 b n c d i u
section
variable{X:ë->É->Prop}{bp:Option ċ}{cp:Nat}
def anr(u:Nat->Ç)(b:Int)(c:b=n)(d:∀a,Jz bp n cp i b a->X a w): Î À Nl (Exit.then K<|QQ X) (F2 bp n cp i b u) w:=by
 unfold F2;conv=>arg 2;whnf
 subst c;go_wp2_with fail;exact d _ (gi _)
def ant(u:Nat->Ç)(c:Int)(j:Nat)(o:c=j)(q:j<n)(r:n<=1000)(h k b:Nat)(p:bp=Ã ⟨h,k,Ä⟩)(s:w.cell? ⟨h,k+j,Ä⟩=Ã (Å<|Ã ⟨b,0,Ä⟩))(e f:Int)(t:w.cell? ⟨b,145,Ä⟩=Ã (Â Ë e))(v:w.cell? ⟨i,145,Ä⟩=Ã (Â Ë f)) (d:∀a m,Jz bp n cp (if f<e then b else i) (c+1) a->K a (w.drewN m)): Î À Nl (Exit.then K<|QQ X) (F2 bp n cp i c u) w:=by
 unfold F2;conv=>arg 2;whnf
 subst o p;by_cases l:f<e
 .rw[if_pos l]at d;have g:=ff d;clear d;go_wp2_with fail;go_quiet (fail);go_wp2_with fail;exact g.out _ _ (gi _)
 .rw[if_neg l]at d;have g:=ff d;clear d;go_wp2_with fail;go_quiet (fail);go_wp2_with fail;exact g.out _ _ (gi _)
def HI(bp:Option ċ)(n cp:Nat)(vs:List (Nat×fJ))(b:É)(c:Nat×fJ)(a:ë)(w:É):Prop:=
 ∃(j:Nat) (d:Nat×fJ),Jz bp n cp d.1 j a/\j<=n/\fc (λ_=>False) b w/\rZ d.1 d.2 b/\uO d (vs.drop j)=c
def HE(bp:Option ċ)(n cp:Nat)(b:É)(c:Nat×fJ)(a:ë)(w:É):Prop:=Jz bp n cp c.1 n a/\fc (λ_=>False) b w
def TK(n:Nat)(a:ë)(_:É):Nat:=match a.tmps.getD 11 Ĉ with
 |Â _ i=>n-i.toNat
 |_=>0
def anu{f:List (Nat×fJ)}{i:Nat×fJ}(k:qu bp n f W)(z:n<=1000)(a:ë)(w:É)(B:HI bp n cp f W i a w): Î À Nl (Exit.then (λl b=>HI bp n cp f W i l b/\TK n l b<TK n a w)<|QQ<|HE bp n cp W i) a w:=by
 let⟨j,d,C,I,c,o,g⟩:=B;obtain⟨u,rfl⟩:=C;by_cases r:j=n
 .rw[(ģ<|by rw[<-k.r];omega)]at g;subst g;refine anr u j (by rw[r]) λa b=>⟨?_,c⟩;rwa[r]at b
 .have s:j<n:=Z
  obtain⟨⟨b,v⟩,t⟩:∃p,f[j]?=Ã p:=⟨_,Ñ<|by rwa[<-k.r]⟩;let⟨D,E,F,G,x⟩:=k.C j b v t;let⟨H,e⟩:=Ù.1 t;rw[Ę H,e]at g;refine ant u j j U s z D E b F (c.r G id) v.h d.2.h (c.r x.r.h id) (c.r o.r.h id) λl m q=> ?_;have y:zS d (b,v)=(if d.2.h<v.h then b else d.1,if d.2.h<v.h then v else d.2):=by unfold zS;split<;>rfl
  refine⟨⟨j+1,zS d (b,v),?_,Z,c.fg<|fc.iN _ _ _,?_,g⟩,?_⟩
  .rw[y];simpa using q
  .rw[y];simp only;split
   .exact x
   .exact o
  .obtain⟨v,rfl⟩:=q;show n-((j:Int)+1).toNat<n-((j:Int)).toNat;omega
def anv{b:List (Nat×fJ)}{d:Nat×fJ}(c:qu bp n b w)(g:n<=1000)(f:b[0]?=Ã d): Ô À 153 #[Ê bp n cp] w λe a=>e=È (Å<|Ã ⟨(uO d b).1,0,Ä⟩)/\fc (λ_=>False) w a:=by
 let⟨m,o,e,h,i⟩:=c.C 0 d.1 d.2 f;have p:0<n:=by rw[c.r];exact(Ù.1 f).1
 have L:∀a,Jz bp n cp d.1 0 a->Î À (ã Nl) (QQ<|HE bp n cp w<|uO d b) a w:=λa j=>
  ď (HI bp n cp b w<|uO d b) (TK n) ⟨0,d,j,å _,fc.fT _ _,i,U⟩<|anu c g
 subst e;generalize uO d b=r at*;simp only[Nat.add_zero]at h;go_enter Tryz.func153,Tryz.ntmps153;go_wp2_with fail;refine à ?_ ((ff L).out _ (gi _));rintro(_|(_|_)|_|_|_|_) a v hq;all_goals first|exact absurd hq id|skip
 let⟨k,l⟩:=hq;obtain⟨u,rfl⟩:=k;unfold F2;go_wp2_with fail;go_ret;exact⟨U,(ff l).out⟩
end
def kr(a:List (Nat×fJ))(b:Int):Option (Nat×fJ):=
 if b=-1 then(a[0]?).map λd=>uO d a else a[b.toNat]?
def jT(b:Option Nat):Ç:=Å<|b.map λb=>⟨b,0,Ä⟩
section
variable{cp:Nat}{a:List (Nat×fJ)}
def Nn(f:qu O n a w)(i:n<=1000)(j:0<n)(c:Int)(m:-1<=c): Ô À 113 #[Ê O n cp,Â Ë c] w λe b=>e=È (jT ((kr a c).map (·.1)))/\fc (λ_=>False) w b:=by
 by_cases h:c=-1
 .subst h;obtain⟨d,b⟩:∃d,a[0]?=Ã d:=⟨_,Ñ<|by rwa[<-f.r]⟩;have e:kr a (-1)=Ã (uO d a):=by unfold kr;rw[if_pos U,b];rfl
  rw[e];go_enter Ε,Ų;go_wp2_with (go_at_call 153;refine(ff<|anv (cp:=cp) f i b).out.mono ?_;rintro e k ⟨rfl,g⟩);go_ret;exact⟨U,g⟩
 .obtain⟨k,rfl⟩:∃k:Nat,c=k:=⟨c.toNat,Z⟩;have e:kr a (k:Int)=a[k]?:=by unfold kr;rw[if_neg h,ſ]
  rw[e];by_cases g:k<n
  .obtain⟨⟨b,v⟩,d⟩:∃p,a[k]?=Ã p:=⟨_,Ñ<|by rwa[<-f.r]⟩;let⟨o,q,l,r,s⟩:=f.C k b v d;rw[d];subst l;go_enter Ε,Ų;go_wp2_with fail;go_ret;exact⟨U,fc.fT _ _⟩
  .rw[(Ö<|by rw[<-f.r];omega)];go_enter Ε,Ų;go_wp2_with fail;go_ret;exact⟨U,fc.fT _ _⟩
end
def aaj(a:List (Nat×fJ)):∀(l:List (Nat×fJ)) (d:Nat×fJ),d∈a->(∀x∈l,x∈a)->uO d l∈a
 |[],d,hd,_=>hd
 |x::l,d,hd,hl=>by
  show uO (zS d x) l∈a;refine aaj a l _ ?_ λy b=>hl y<|ũ _ b;unfold zS;split
  .exact hl x List.mem_cons_self
  .exact hd
def JA{a:List (Nat×fJ)}{p:Nat×fJ}(h:kr a c=Ã p):p∈a:=by
 unfold kr at h;split at h
 .obtain⟨d,b,rfl⟩:=Ì.1 h;exact aaj a a d (ü b) λx e=>e
 .exact ü h
def qu.M{a:List (Nat×fJ)}(h:qu O n a w){p:Nat×fJ}(b:p∈a):rZ p.1 p.2 w:=by let⟨j,c⟩:=List.getElem?_of_mem b;let⟨_,_,_,_,d⟩:=h.C j p.1 p.2 c;exact d
def aak(c:w.cell? ⟨b,i,Ä⟩=Ã v)(h:w.ownsRow 0 e j v n l):zR ⟨b,i,Ä⟩ n l w:=by
 rcases h.2 with⟨rfl,rfl⟩|⟨g,f,k,rfl,_,m,_,_,_,o⟩
 .have d:=á (by simpa using h.1);subst d;exact⟨Ä,0,c,λa x q=>by simp at q⟩
 .refine⟨_,_,c,λa x q=>⟨g,0,U,?_⟩⟩;have:=h.cells U a x q;rwa[Addr.add_mid]at this
def NX.anw{s:St}{b:List (Nat×Int)}{c:List (Int×Bool)}(x:NX i h v z s b c u w)(d:gI s)(e:0<=h)(f:h<=40):rZ i ⟨s,b,c,h⟩ w:=by have a:fh i (iZ s v++[Â Ë h,z]) 147 w:=x.r;refine⟨⟨?_,a.r 145 _<|by rw[Þ (by rw[mG];omega),mG];rfl⟩,d,e,f,aak x.r.Di x.C,aak x.G x.I⟩;rw[zN,þ]at a;exact a.Y
def anx:(À.info? 136).map (λi=>(i.zero,i.size,i.bytes))=Ã (Ã<|Å Ä,1,8):=ft
def anz{p:Array Ů}{r:List Ů}(C:o.guard=Ä)(s x:Ź)(t:ú) (D:o.op=aU {callee:=.builtin .append,args:=#[s,x],argTypes:=#[t,t]}) (E:P.underlying t=Ã (bJ e)) (F:P.info? e=Ã zJ) (G:zJ.zero=Ã z) (B:zJ.size=1) (H:zJ.bytes=8) (g k n:Nat) (b:List Ç) (I:b.length=n) (J:∀j v,b[j]?=Ã v->w.cell? ((⟨g,k,Ä⟩:ċ).add j)=Ã v) (L:y.eval s=Ê (Ã ⟨g,k,Ä⟩) n n) (l:Nat) (v:Ç) (M:y.eval x=Ê (Ã ⟨l,0,Ä⟩) 1 1) (N:∀j u,[v][j]?=Ã u->w.cell? ((⟨l,0,Ä⟩:ċ).add j)=Ã u) (X:n<=1000) (O:mb e=Ï) (h:∀c f,n+1<=c->fc (λ_=>False) w f->(∃m:Array Ç,f.heap[w.heap.size]?=Ã (Ð m e (0,0))/\0<m.size/\∀u∈m.toList,u∈b\/u=v\/u∈z.cells.toList)->(∀j u,(b++[v])[j]?=Ã u->f.cell? ⟨w.heap.size,0+j,Ä⟩=Ã u)->bm P p vJ r (y.put o.dst<|Ê (Ã ⟨w.heap.size,0,Ä⟩) (n+1) c) f):bm P p vJ (o::r) y w:=by refine Ż C λK S=> ?_;have T:=θ w t o.type e zJ z E F G ⟨g,k,Ä⟩ n n b (by rw[I,B];omega) J ⟨l,0,Ä⟩ 1 1 [v] (by rw[B];rfl) N Z Z (Ť Z<|by rw[H];omega);unfold Ŏ į;simp only[D,aC,bk,aD,ż,Ž,Ł,ĉ,Ě,ġ,L,M,T];refine S _ _ (h _ _ (Ω w (n+1) n e) ((fc.fR _ _).fg<|fc.gE _ _ _ _<|Û O) ⟨_,ð w.drew _,by simp;omega,λu d=>by simp only[Ĵ,ā]at d;rcases d with(q|q)|q;exact Û q;exact Ü (Û<|by simpa using q);exact Ü<|Ü<|SC q⟩ λj u d=> ?_);have V:(w.drew.alloc<|Ð (b.toArray++[v].toArray++ý z.cells (š w (n+1) n e-(n+1))) e).heap[w.heap.size]?=_:=ð w.drew _;simp only[Χ,V,Ļ,Ğ,if_false,ĸ];have W:=(Ù.1 d).1;rw[Array.getElem?_append_left (by simpa using W)];simpa using d
def tq(v:Ç)(T:ú)(w:É):Prop:=v=Ê Ä 0 0\/∃g n c a,v=Ê (Ã ⟨g,0,Ä⟩) n c/\w.heap[g]?=Ã (Ð a T (0,0))
def tq.I(h:w.ownsRow 0 T i v n l):tq v T w:=by
 rcases h.2 with⟨q,_⟩|⟨g,a,b,c,_,d,_⟩
 .exact Û q
 .exact Ü ⟨g,_,a,b,c,d⟩
def tq.C(h:tq v T w)(k:fc (λ_=>False) w u):tq v T u:=by
 rcases h with q|⟨g,n,c,b,d,a⟩
 .exact Û q
 .refine Ü ⟨g,n,c,b,d,?_⟩;rwa[k.N g (Array.getElem?_eq_some_iff.1 a).1 id]
def sd(a:List (Nat×fJ)):List Ç:=a.map λp=>Å<|Ã ⟨p.1,0,Ä⟩
structure TL(vs:List (Nat×fJ))(B:Nat)(w w':É)(g:Nat):Prop where
 C:w.heap.size<=g
 r:∃cur:Array Ç,w'.heap[g]?=Ã (Ð cur 136 (0,0))/\0<cur.size/\∀u∈cur.toList,u∈sd vs\/u=Å (Ã ⟨B,0,Ä⟩)\/u=Å Ä
structure TM(B:Nat)(s:St)(h:Int)(w w':É):Prop where
 C:w.heap.size<=B
 r:∃lv uv,fh B (iZ s lv++[Â Ë h,uv]) 147 w'/\tq lv 257 w'/\tq uv 246 w'/\(∀j,lv.ownBlock=Ã j->w.heap.size<=j)/\∀j,uv.ownBlock=Ã j->w.heap.size<=j
section
variable{bp:Option ċ}{cp:Nat}{vs:List (Nat×fJ)}
def anB(a b:Nat)(d:n<=1000)(f:n<=cp):Ô À 155 #[Ê (Ã ⟨a,b,Ä⟩) n cp] w λe c=>e=È (Ê (Ã ⟨a,b,Ä⟩) n n)/\c=w:=by go_enter Tryz.func155,Tryz.ntmps155;go_wp2;go_ret;exact⟨U,U⟩
def anC(b:qu bp n vs w)(h:n<=1000)(l:0<n)(m:n<=cp)(B:Nat): Ô À 116 #[Ê bp n cp,Å<|Ã ⟨B,0,Ä⟩] w λe a=>∃g c,e=È (Ê (Ã ⟨g,0,Ä⟩) (n+1) c)/\n+1<=c/\fc (λ_=>False) w a/\TL vs B w a g/\∀j u,(sd vs++[Å<|Ã ⟨B,0,Ä⟩])[j]?=Ã u->a.cell? ⟨g,0+j,Ä⟩=Ã u:=by
 let⟨G,r,s,t,x⟩:=ò anx;obtain⟨d,y⟩:∃d,vs[0]?=Ã d:=⟨_,Ñ<|by rwa[<-b.r]⟩;let⟨g,f,i,_,_⟩:=b.C 0 d.1 d.2 y;have z:∀(o:Obj) (j:Nat) (v:Ç),(sd vs)[j]?=Ã v->(w.alloc o).cell? ((⟨g,f,Ä⟩:ċ).add j)=Ã v:=λo j v q=>by unfold sd at q;rw[Ģ]at q;obtain⟨p,C,rfl⟩:=Ì.1 q;let⟨D,E,H,k,_⟩:=b.C j p.1 p.2 C;rw[i]at H;cases H;rwa[Addr.add_mid,World.cell?_alloc_lt _ _ _<|ä w _ k]
 have H:=ff (Á z<|Á r<|Á s<|Á t<|Á x<|show(sd vs).length=n by unfold sd;rw[ν];exact b.r.symm);subst i;go_enter Tryz.func116,Tryz.ntmps116;go_wp2_with (first
  |(go_at_call 155;refine(anB g f h m).mono ?_;rintro e a ⟨rfl,k⟩;subst a)
  |(at_builtin;refine anz U _ _ 65 U Tryz.underlying65 H.out.2.1 H.out.2.2.1 H.out.2.2.2.1 H.out.2.2.2.2.1 g f n (sd vs) H.out.2.2.2.2.2 (H.out.1 _) U w.heap.size (Å (Ã ⟨B,0,Ä⟩)) U (ą _ _ _) h A ?_;intro c C a e k p))
 go_ret;refine⟨_,_,U,a,(fc.gE _ _ _ _).fg e,⟨fj,by let⟨c,C,D,E⟩:=k;exact⟨c,by simpa using C,D,λu F=>(E u F).elim Û λq=>q.elim (λq=>Ü<|Û q) λq=>Ü<|Ü<|by simpa[ī]using q⟩⟩,λj u q=>by have:=p j u q;simpa using this⟩
end
structure Dz(r:Nat)(v:Int)(x:Nat)(bp:Option ċ)(n cp:Nat)(w:É):Prop where
 M:w.cell? ⟨r,0,Ä⟩=Ã (Â Ë x)
 N:w.cell? ⟨r,5,Ä⟩=Ã (Â Ë v)
 I:w.cell? ⟨r,8,Ä⟩=Ã (Ê bp n cp)
def Dz.C{r:Nat}(h:Dz r c i O n j w)(k:fc (λ_=>False) w u):Dz r c i O n j u:=⟨k.r h.M id,k.r h.N id,k.r h.I id⟩
def rh(a:List (Nat×fJ))(v:Int)(x:Nat)(b:List Tx):Option fJ×ByteArray:=
 match kr a v with
 |none=>(Ä,n9 3)
 |some p=>if a.length=40 then(Ä,n9 4)else match uM x p.2.s b with
  |none=>(Ä,n9 5)
  |some r=>(Ã ⟨r.1,r.2.1,r.2.2,p.2.h+1⟩,om a.length)
def Np(c:Ç)(d:List (Nat×fJ))(w:É):Prop:=∃a n b,c=Ê a n b/\n<=b/\qu a n d w
def TN(f:List (Nat×fJ))(i:Ç)(w:É)(o:Option fJ×ByteArray)(e:aN)(a:É):Prop:=
 fc (λ_=>False) w a/\((o.1=Ä/\e=È (é #[i,Í o.2]))\/∃v b d,o.1=Ã v/\e=È (é #[d,Í o.2])/\Np d (f++[(b,v)]) a/\TM b v.s v.h w a/\∃g n c,d=Ê (Ã ⟨g,0,Ä⟩) n c/\TL f b w a g)
def anD{c:List (Nat×fJ)}{v:fJ}(e:qu O n c w)(f:rZ j v w)(h:∀a u,(sd c++[Å<|Ã ⟨j,0,Ä⟩])[a]?=Ã u->w.cell? ⟨i,0+a,Ä⟩=Ã u):qu (Ã ⟨i,0,Ä⟩) (n+1) (c++[(j,v)]) w:=by
 refine⟨by rw[e.r];simp,λa b u q=>⟨i,0,U,?_,?_⟩⟩
 .apply h a _;have:sd c++[Å<|Ã ⟨j,0,Ä⟩]=sd (c++[(j,v)]):=by simp[sd]
  rw[this];unfold sd;rw[Ģ,q];rfl
 .rcases ğ a c.length with d|d
  .rw[â d]at q;let⟨_,_,_,_,k⟩:=e.C a b u q;exact k
  .rw[Þ d]at q;have k:a-c.length=0:=by
    have:=(Ù.1 q).1;simp at this;omega
   rw[k]at q;cases q;exact f
def anE{e:aN}(a:FO h W Ä e u)(k:fc (λ_=>False) w W):e=È (Å Ä)/\fc (λ_=>False) w u:=by
 rcases a with⟨_,b,c⟩|⟨_,_,_,_,_,_,q,_⟩
 .exact⟨b,k.fg c⟩
 .cases q
def anF{e:aN}{s:St}{a:List (Nat×Int)}{b:List (Int×Bool)}(c:FO h W (Ã (s,a,b)) e u)(l:0<=h)(m:h<40)(k:fc (λ_=>False) w W):∃B,e=È (Å<|Ã ⟨B,0,Ä⟩)/\fc (λ_=>False) w u/\rZ B ⟨s,a,b,h+1⟩ u/\TM B s (h+1) w u:=by
 rcases c with⟨q,_⟩|⟨n,o,p,B,d,f,q,g,x,i⟩
 .cases q
 .cases q;exact⟨B,g,k.fg x.M,x.anw i Z Z,ï k.M x.N,d,f,x.r,tq.I x.C,tq.I x.I,λj q=>ï k.M<|x.S j q,λj q=>ï k.M<|x.Y j q⟩
section
variable{bp:Option ċ}{cp r x:Nat}{v:Int}{vs:List (Nat×fJ)}{f:List (Nat×Tx)}
def anG{p:Nat×fJ}(F:Ô À 113 #[Ê bp n cp,Â Ë v] w λe a=>e=È (jT<|Ã p.1)/\fc (λ_=>False) w a)(f:Dz r v x O b i w)(m:((n:Int)==40)=Ï)(N:∀W,fc (λ_=>False) w W->Ô À 115 #[Å<|Ã ⟨p.1,0,Ä⟩,Â Ë x,Ê O b i] W (FO p.2.h W Ä)): Ô À 66 #[Ê bp n cp,Å<|Ã ⟨r,0,Ä⟩] w (TN vs (Ê bp n cp) w (Ä,n9 5)):=by
 have o:=f.N;have H:=ff<|Á F<|Á N f;go_enter Ū,Œ;go_wp2_with (go_at_call 113;refine H.out.1.mono ?_;rintro e d ⟨rfl,c⟩;dsimp only[jT,Ŷ]);have g:=ff (Á ((H.out.2.2.C c).C<|fc.fR (λ_=>False) _).M ((H.out.2.2.C c).C<|fc.fR (λ_=>False) _).I);go_region_held3 (λa=>a.cell? ⟨r,0,Ä⟩=Ã (Â Ë x)/\a.cell? ⟨r,8,Ä⟩=Ã (Ê O b i)) (first|exact g.out|exact j.out) (first
   |(go_at_call 115;refine(H.out.2.1 _ (c.fg kp)).mono ?_;rintro e k l;obtain⟨rfl,d⟩:e=È (Å Ä)/\fc (λ_=>False) w k:=anE l (c.fg kp);dsimp only;have j:=ff (Á (H.out.2.2.C d).M (H.out.2.2.C d).I)))
 go_wp2_with (first
  |(go_at_call 114;refine(FP 5 A _).mono ?_;rintro e a ⟨rfl,c⟩;subst a))
 go_ret2;exact⟨d,Û ⟨U,U⟩⟩
def anH{p:Nat×fJ}{f:St}{g:List (Nat×Int)}{j:List (Int×Bool)}(k:qu bp n vs w)(Q:n<=40)(q:0<n)(s:n<=cp)(t:0<=p.2.h)(u:p.2.h<40)(F:Ô À 113 #[Ê bp n cp,Â Ë v] w λe a=>e=È (jT<|Ã p.1)/\fc (λ_=>False) w a)(l:Dz r v x O b i w)(S:((n:Int)==40)=Ï)(N:∀W,fc (λ_=>False) w W->Ô À 115 #[Å<|Ã ⟨p.1,0,Ä⟩,Â Ë x,Ê O b i] W (FO p.2.h W<|Ã (f,g,j))): Ô À 66 #[Ê bp n cp,Å<|Ã ⟨r,0,Ä⟩] w (TN vs (Ê bp n cp) w (Ã ⟨f,g,j,p.2.h+1⟩,om vs.length)):=by
 have T:=l.N;rw[<-k.r];have H:=ff<|Á F<|Á N<|Á l k;go_enter Ū,Œ;go_wp2_with (go_at_call 113;refine H.out.1.mono ?_;rintro e o ⟨rfl,d⟩;dsimp only[jT,Ŷ]);have y:=ff (Á ((H.out.2.2.1.C d).C<|fc.fR (λ_=>False) _).M ((H.out.2.2.1.C d).C<|fc.fR (λ_=>False) _).I);go_region_held3 (λa=>a.cell? ⟨r,0,Ä⟩=Ã (Â Ë x)/\a.cell? ⟨r,8,Ä⟩=Ã (Ê O b i)) (first|exact y.out|exact o.out) (first
   |(go_at_call 115;refine(H.out.2.1 _ (d.fg kp)).mono ?_;rintro e D z;obtain⟨B,rfl,c,C,m⟩:=anF (w:=w) z t u (d.fg kp);dsimp only;have o:=ff (Á (H.out.2.2.1.C c).M (H.out.2.2.1.C c).I)))
 have W:=anC (H.out.2.2.2.I c) Z q s B;have z:=ff W;go_wp2_with (first
  |(go_at_call 116;refine z.out.mono ?_;rintro e G ⟨I,J,rfl,D,d,o,E⟩)
  |(go_at_call 117;refine(T_ n Z _).mono ?_;rintro e a ⟨rfl,G⟩;subst a))
 go_ret2;refine⟨c.fg d,Ü ⟨_,B,_,U,U,⟨_,_,_,U,D,?_⟩,⟨m.C,by let⟨G,I,J,K,L,M,P⟩:=m.r;exact⟨G,I,J.I d id,K.C d,L.C d,M,P⟩⟩,_,_,_,U,ï c.M o.C,o.r⟩⟩;exact anD ((H.out.2.2.2.I c).I d) (C.Y d) E
def anI(a:qu bp n vs w)(C:n<=40)(j:0<n)(D:n<=cp)(t:∀p∈vs,p.2.h<40)(d:Dz r v x O b i w)(u:Dq O b f w)(E:b<=1000)(y:iK w)(G:x<8)(z:-1<=v): Ô À 66 #[Ê bp n cp,Å<|Ã ⟨r,0,Ä⟩] w (TN vs (Ê bp n cp) w<|rh vs v x<|lH f):=by
 have L:=d.N;unfold rh;cases g:kr vs v with
 |none=>
  have F:=Nn (cp:=cp) a Z j v z;rw[g]at F;have H:=ff F;go_enter Ū,Œ;go_wp2_with (first
   |(go_at_call 113;refine H.out.mono ?_;rintro e I ⟨rfl,q⟩;dsimp only[jT,Ŷ])
   |(go_at_call 114;refine(FP 3 A _).mono ?_;rintro e l ⟨rfl,J⟩;subst l))
  go_ret2;exact⟨q,Û ⟨U,U⟩⟩
 |some p=>
  have m:=JA g;have c:=a.M m;have F:=Nn (cp:=cp) a Z j v z;rw[g]at F;have N:∀W,fc (λ_=>False) w W->Ô À 115 #[Å<|Ã ⟨p.1,0,Ä⟩,Â Ë x,Ê O b i] W (FO p.2.h W<|uM x p.2.s<|lH f):=λW k=>
   amw (c.r.r k id) c.I (by have:=c.M;omega) c.C (u.I k) (y.r k id) E G
  have K:=a.r;by_cases B:n=40
  .simp only;rw[if_pos Z];have H:=ff F;clear F N a d u y t c g m K;have o:((n:Int)==40)=Ý:=by rw[B];rfl
   clear B;go_enter Ū,Œ;go_wp2_with (first
    |(go_at_call 113;refine H.out.mono ?_;rintro e I ⟨rfl,q⟩;dsimp only[jT,Ŷ])
    |(go_at_call 114;refine(FP 4 A _).mono ?_;rintro e l ⟨rfl,J⟩;subst l))
   go_ret2;exact⟨q,Û ⟨U,U⟩⟩
  .simp only;rw[if_neg Z];have o:((n:Int)==40)=Ï:=by rw[beq_eq_false_iff_ne];omega
   have l:=t p m;have H:=c.I;cases e:uM x p.2.s (lH f)with
   |none=>
    rw[e]at N;exact anG F d o N
   |some q=>
    let⟨I,J,M⟩:=q;rw[e]at N;exact anH a C j D H l F d o N
end
def anJ(h:l.length=145):À.built 147 [(0,ė l.toArray)]=Ã (l++[Â Ë 0,Ê Ä 0 0]).toArray:=by let⟨z,d,a,b,c⟩:=Tp O_ P_ A;rw[To P' a,c];have:=M5 (place:=λi=>[(0,145),(145,1),(146,1)].toArray[i]?) (pre:=[]) (suf:=[Â Ë 0,Ê Ä 0 0]) (i:=0) (v:=ė l.toArray) (rest:=[]) U (by show l.toArray.size=145;simp[h]) b;simpa[Ŀ,ī]using this
def anK(a:o.op=π 147 #[(0,qQ)])(b:xX qQ=ė l.toArray)(c:l.length=145):(į xX o).run À w=ay (.value<|ė (l++[Â Ë 0,Ê Ä 0 0]).toArray) w:=by apply Tq a;simp only[ĉ,Ě,ġ,b];exact anJ c
def k9:fJ:=⟨j1 8,[],[],0⟩
def aal:gI (j1 8):=by refine⟨λi=> ?_,λi j=>⟨Ø _,show(0:Int)<18446744073709551616 by decide⟩,λi=>⟨show(0:Nat)<=40 by decide,λc a=>by cases a⟩⟩;show fX (if i<8 then 1000 else 0);split<;>exact⟨A,A⟩
def anL{s:St}(d:gI s)(h:fh i (iq s++[Ê Ä 0 0]++[Â Ë 0,Ê Ä 0 0]) 147 w):rZ i ⟨s,[],[],0⟩ w:=by
 have a:=rW s;refine⟨⟨λj v c=> ?_,?_⟩,d,Ø _,show(0:Int)<=40 by decide,?_,?_⟩
 .rw[ĸ];apply h.r j v;rwa[þ,â (Ù.1 c).1]
 .apply h.r 145 _;rw[Þ (by simp[a])];simp[a]
 .refine⟨Ä,0,h.r 144 _ ?_,λj x b=>by cases b⟩;rw[þ,Þ (by simp[a])];simp[a]
 .refine⟨Ä,0,h.r 146 _ ?_,λj x b=>by cases b⟩;rw[Þ (by simp[a])];simp[a]
def nF(ls:List (Nat×Int)):Prop:=∀e∈ls,e.1<8/\fX e.2
def JB(F:me):Prop:=∀s a x y g k,gI s->x<8->y<8->fX k->0<=g->g<=100000->(a.length:Int)+g<=1000000->nF a->nF (F s a x y g k).M
section
variable{c:RC}{F:me}
def nF.Hi{ls:List (Nat×Int)}(h:nF ls){p:Int}(a:i<8)(b:fX p):nF (ls++[(i,p)]):=λe c=>by
 rcases ā.1 c with q|q
 .exact h e q
 .simp at q;subst q;exact⟨a,b⟩
def anM{t:RT}(h:JB F)(d:c.y<8)(l:k<=20)(a:nD t)(b:nF t.C):nF (re F c k t).C:=by
 by_cases f:k=19
 .subst f;exact b.Hi d<|rf a.r
 by_cases g:k=20
 .subst g;show nF (iY F c t _ _ _).2.2.C;unfold iY;split
  .exact b
  .have e:=rf a.r;have i:=rf<|oe a.r;have j:=rf<|oe<|oe a.r;have m:=a.g0;have n:=a.C;have o:=a.M;have p:=e.1;have q:=i.1;exact h _ _ _ _ _ _ a.s d Z j Z Z Z b
 have e:(re F c k t).C=t.C:=by
  unfold re;rw[if_neg f,if_neg g];repeat' (split;·rfl)
  rfl
 rwa[e]
def JC(q:B.size<=40)(h:∀n,n<B.size->1<=kK B (n:Int))(i:oO F)(j:c.x<8)(d:c.y<8)(m:fX c.k)(o:JB F):∀(p:Nat) (b:Int) (t:RT),fX b->nD t->nF t.C->nF (tg F c B p b t).2.2.C
 |0,_,t,_,ht,D=>D
 |f+1,b,t,rC,ht,hlo=>by
  have g0:=ht.g0;have g1:=ht.C;have D:=ht.I;have K:=ht.M;unfold tg;by_cases E:b=B.size
  .rwa[if_pos E]
  rw[if_neg E];by_cases G:(B.size:Int)<b
  .rwa[if_pos G]
  rw[if_neg G];have SU:=rC.1;obtain⟨n,rfl⟩:∃n:Nat,b=n:=⟨b.toNat,Z⟩;have L:n<B.size:=Z
  have k1:=h n L;have M:kK B (n:Int)<=22:=SY _;have r:=SZ M;let⟨N,O,P,Q,S,T⟩:=I9 _ _ r;have V:kK B (n:Int)=1->48<=zH B (n:Int)/\zH B (n:Int)<=57:=S6;generalize kK B (n:Int)=k at*;generalize B':pB k=ro at*;let⟨a,u,v⟩:=ro;simp only at r N O P Q S T|-;by_cases w:lu t.g t.r.length a u v=Ï
  .rwa[if_pos w]
  rw[if_neg w];have W:lu t.g t.r.length a u v=Ý:=by cases e:lu t.g t.r.length a u v with
   |true=>rfl
   |false=>exact absurd e w
  let⟨MX,X,Y⟩:=S5 W;have z:fX ((n:Int)+1):=⟨Z,Z⟩;have H:∀{l:List Int},(∀p∈l,fX p)->l.length<=32->nD {t with r:=l,g:=t.g-a}:=λq1 q2=>⟨q1,q2,ht.s,by show 0<=t.g-a;omega,by show t.g-a<=100000;omega,by show(t.C.length:Int)+(t.g-a)<=1000000;omega⟩;by_cases p:k=1
  .rw[if_pos p];have:=V p;subst p;refine JC q h i j d m o f _ _ z (H (rV ht.r<|vU ⟨Z,Z⟩) ?_) hlo;simp[iO]at r;simp;omega
  rw[if_neg p];by_cases C:k=17
  .rw[if_pos C];have I:=H (oe<|oe ht.r) (by rw[oQ,oQ];omega);split
   .exact JC q h i j d m o f _ _ z I hlo
   .exact JC q h i j d m o f _ _ (rf ht.r) I hlo
  rw[if_neg C];by_cases I:k=21
  .rwa[if_pos I]
  rw[if_neg I];by_cases J:k=22
  .rwa[if_pos J]
  rw[if_neg J];let⟨d1,_,_⟩:=S2 (t:={t with g:=t.g-a}) i j d m Z Z C r U ⟨ht.r,ht.I,ht.s,by show 0<=t.g-a;omega,by show t.g-a<=100000;omega,by show(t.C.length:Int)+(t.g-a)<=1000000;omega⟩ K X Y;exact JC q h i j d m o f _ _ z d1<|anM o d Z ⟨ht.r,ht.I,ht.s,by show 0<=t.g-a;omega,by show t.g-a<=100000;omega,by show(t.C.length:Int)+(t.g-a)<=1000000;omega⟩ hlo
def anN(e:oO F)(f:JB F){s:St}{a:List (Nat×Int)}(b:gI s)(h:c.x<8)(i:c.y<8)(j:fX c.k)(l:0<=c.g)(m:c.g<=100000)(o:(a.length:Int)+c.g<=1000000)(d:nF a):nF (tj F c s a).M:=by
 unfold tj;simp only;split
 .exact JC (b.I c.y).1 (λn p=>S4 b c.y p) e h i j f _ _ _ uJ ⟨fj,fj,b,l,m,o⟩ d
 .exact d
end
def aam:∀n,JB<|FM n
 |0=>λ_ _ _ _ _ _ _ _ _ _ _ _ _ h=>h
 |n+1=>λ_ _ x y g k a b d e f i j h=>anN (c:=⟨x,y,k,4-(n:Int),g⟩) (Jk n) (aam n) a b d e f i j h
def TO:JB gk:=aam 4
def anO{s:St}(b:gI s){ls:List (Nat×Int)}{t:Tx}(a:t.Ok)(c:(ls.length:Int)+400<=1000000)(h:nF ls):nF (mg s ls t).2.2.2:=by
 unfold mg;split
 .exact h
 .split
  .exact h
  .unfold zM;split
   .exact h
   .rename_i d;have e:=(b.fu t.x).2;exact TO _ ls t.x t.y (t.n-10) t.k (b.r t.x ⟨Z,Z⟩) a.x a.y ⟨a.r,by have:=a.C;omega⟩ Z Z Z h
def zU(a:List (Int×Bool)):Prop:=∀e∈a,0<=e.1/\e.1<=400
def zU.Hi{a:List (Int×Bool)}(h:zU a){e:Int×Bool}(b:0<=e.1)(c:e.1<=400):zU (a++[e]):=λx d=>by
 rcases ā.1 d with q|q
 .exact h x q
 .simp at q;subst q;exact⟨b,c⟩
structure TP(v:fJ):Prop where
 C:nF v.r
 r:zU v.C
 I:v.r.length<=400000
 M:v.C.length<=1000
def TQ:∀(b:List Tx) {s:St} {ls:List (Nat×Int)} {a:List (Int×Bool)} {r:St×List (Nat×Int)×List (Int×Bool)},(∀t∈b,t.Ok)->gI s->nF ls->zU a->ls.length+400*b.length<=400000->a.length+b.length<=1000->uL m s ls a b=Ã r->gI r.1/\nF r.2.1/\zU r.2.2/\r.2.1.length<=400000/\r.2.2.length<=1000
 |[],s,ls,a,r,_,hs,hl,hu,n1,n2,h=>by cases h;exact⟨hs,hl,hu,by simpa using n1,by simpa using n2⟩
 |t::q,s,ls,a,r,ht,hs,hl,hu,n1,n2,h=>by
  unfold uL at h;simp only[ŉ]at n1 n2;split at h
  .have d:=S' (ls:=ls) hs (ht t fj) Z;have f:=d.C;exact TQ q (λc e=>ht c<|ũ _ e) (d.s.r m<|zI _) (anO hs (ht t fj) Z hl) (hu.Hi d.g0 d.r) Z (by simp;omega) h
  .cases h
def anP{s:St}{a:List Tx}{r:St×List (Nat×Int)×List (Int×Bool)}(b:∀t∈a,t.Ok)(c:gI s)(k:a.length<=1000)(e:uM m s a=Ã r):TP ⟨r.1,r.2.1,r.2.2,h⟩:=by unfold uM at e;obtain⟨l,d,rfl⟩:=Ì.1 e;let⟨_,f,g,i,j⟩:=TQ a b c (λ_ q=>by cases q) (λ_ q=>by cases q) (by simp;omega) (by simp;omega) d;exact⟨f,g,i,j⟩
end Go.Proofs.Y.gR
namespace Go.Proofs
open Go.Shelf
def Tryz.lays283_ren:ĺ:=⟨fun|283=>187|n=>n,fun|3=>3|9=>9|4=>4|n=>n,fun|n=>n⟩
def Tryz.lays283:bb À Tryz.lays283_ren:={
 mixed:=ft
 f283:=Δ.trans<|congrArg Ã ft
 t3:=ĥ
 a3:=ū
 z3:=œ
 v3:=ı
 t4:=Ħ
 a4:=Ŭ
 z4:=Ŕ
 v4:=Ĳ
 t9:=Ė
 a9:=ŭ
 z9:=ŕ
 v9:=ĳ}
open Go.Lib in
def Tryz.internal_strconv_small(i:Nat)(h:i<100)(w:É):
 Ô À 187 #[Â Ë i] w λe a=>e=È (Í ⟨(ň i).toArray⟩)/\a=w:=Any.internal_strconv_small Tryz.lays283 i h w
def Tryz.laysM284_ren:ĺ:=⟨fun|284=>188|129=>198|317=>197|318=>199|n=>n,fun|53=>36|3=>3|212=>291|0=>0|4=>4|46=>168|5=>5|9=>9|n=>n,fun|17=>1|n=>n⟩
def Tryz.laysM284:Go.Proofs.LaysM.n284 À Tryz.laysM284_ren:={
 mixed:=ft
 f129:=Tryz.func198.trans<|congrArg Ã ft
 f284:=Tryz.func188.trans<|congrArg Ã ft
 f317:=Tryz.func197.trans<|congrArg Ã ft
 f318:=Tryz.func199.trans<|congrArg Ã ft
 t0:=Ο
 a0:=aX
 z0:=aO
 v0:=ξ
 t3:=ĥ
 a3:=ū
 z3:=œ
 v3:=ı
 t4:=Ħ
 a4:=Ŭ
 z4:=Ŕ
 v4:=Ĳ
 t5:=Ρ
 a5:=aY
 z5:=aP
 v5:=ο
 t9:=Ė
 a9:=ŭ
 z9:=ŕ
 v9:=ĳ
 t46:=ŷ
 a46:=ar
 z46:=υ
 v46:=Η
 t53:=Ņ
 a53:=Θ
 z53:=ų
 v53:=Ō
 t212:=Tryz.underlying291
 a212:=Tryz.isAgg291
 z212:=Tryz.sizeOf291
 v212:=Tryz.zeroValue291
 g17:=ft
 i0:=ft
 i3:=ft
 i4:=ft
 i5:=ft
 i9:=ft
 i46:=ft
 i53:=ft
 i212:=ft
 m17:=by kernel_rfl}
open Go.Lib in
def Tryz.internal_strconv_numDigits(u:Nat)(a:1<=u)(b:u<18446744073709551616)(w:É)(c:aB À w "internal/strconv.uint64pow10" Æ aQ):
 Ô À 188 #[Â Æ u] w λe d=>e=È (Â Ë<|Ē u)/\d=w:=Any.internal_strconv_numDigits Tryz.laysM284 u a b w c
def Tryz.lays285_ren:ĺ:=⟨fun|285=>189|n=>n,fun|37=>107|53=>36|3=>3|4=>4|51=>95|9=>9|5=>5|0=>0|n=>n,fun|n=>n⟩
def Tryz.lays285:bg À Tryz.lays285_ren:={
 mixed:=ft
 f285:=Tryz.func189.trans<|congrArg Ã ft
 t0:=Ο
 a0:=aX
 z0:=aO
 v0:=ξ
 t3:=ĥ
 a3:=ū
 z3:=œ
 v3:=ı
 t4:=Ħ
 a4:=Ŭ
 z4:=Ŕ
 v4:=Ĳ
 t5:=Ρ
 a5:=aY
 z5:=aP
 v5:=ο
 t9:=Ė
 a9:=ŭ
 z9:=ŕ
 v9:=ĳ
 t37:=Ă
 a37:=Tryz.isAgg107
 z37:=Tryz.sizeOf107
 v37:=Tryz.zeroValue107
 t51:=Ι
 a51:=aR
 z51:=au
 v51:=Τ
 t53:=Ņ
 a53:=Θ
 z53:=ų
 v53:=Ō}
open Go.RowKit Go.Sort Go.Lib in
def Tryz.internal_strconv_formatBase10(a c f:Nat)(u:Nat)(d:Array UInt8)(w:É)(h:Holds (λ(b:UInt8)=>Â br (b.toNat:Int)) w a c d)(i:u<10^d.size)(j:u<18446744073709551616)(k:d.size<4611686018427387904):
 Ô À 189 #[Ê (Ã ⟨a,c,Ä⟩) d.size f,Â Æ u] w λe l=>
  e=È (é #[])/\∃(n m:Nat) (g:Array UInt8),l=(φ (λ(b:UInt8)=>Â br (b.toNat:Int)) w a c g).drewN n/\FmtInv d.size u 0 m g:=Any.internal_strconv_formatBase10 Tryz.lays285 a c f u d w h i j k
def Tryz.lays99_ren:ĺ:=⟨fun|99=>175|206=>194|n=>n,fun|9=>9|4=>4|3=>3|n=>n,fun|n=>n⟩
def Tryz.lays99:bn À Tryz.lays99_ren:={
 mixed:=ft
 f99:=Tryz.func175.trans<|congrArg Ã ft
 f206:=Tryz.func194.trans<|congrArg Ã ft
 t3:=ĥ
 a3:=ū
 z3:=œ
 v3:=ı
 t4:=Ħ
 a4:=Ŭ
 z4:=Ŕ
 v4:=Ĳ
 t9:=Ė
 a9:=ŭ
 z9:=ŕ
 v9:=ĳ}
open Go.RowKit Go.Lib in
def Tryz.strings_HasPrefix(s p:ByteArray)(w:É):
 Ô À 175 #[Í s,Í p] w λe a=>e=È (Ò<|Lib.hasPrefix s.data.toList p.data.toList)/\a=w:=Any.strings_HasPrefix Tryz.lays99 s p w
def Tryz.lays212_ren:ĺ:=⟨fun|212=>174|263=>192|264=>193|n=>n,fun|46=>168|51=>95|146=>285|53=>36|148=>287|n=>n,fun|n=>n⟩
def Tryz.lays212:bh À Tryz.lays212_ren:={
 mixed:=ft
 f212:=Tryz.func174.trans<|congrArg Ã ft
 f263:=Tryz.func192.trans<|congrArg Ã ft
 f264:=Tryz.func193.trans<|congrArg Ã ft
 t46:=ŷ
 a46:=ar
 z46:=υ
 v46:=Η
 t51:=Ι
 a51:=aR
 z51:=au
 v51:=Τ
 t53:=Ņ
 a53:=Θ
 z53:=ų
 v53:=Ō
 t146:=Tryz.underlying285
 a146:=Tryz.isAgg285
 z146:=Tryz.sizeOf285
 v146:=Tryz.zeroValue285
 t148:=Tryz.underlying287
 a148:=Tryz.isAgg287
 z148:=Tryz.sizeOf287
 v148:=Tryz.zeroValue287}
open Go.RowKit Go.Lib in
def Tryz.bits_Mul(x y:Nat)(a:x<18446744073709551616)(b:y<18446744073709551616)(w:É):
 Ô À 174 #[Â Æ x,Â Æ y] w λe c=>e=È (é #[Â Æ ((x*y/18446744073709551616:Nat):Int),Â Æ ((x*y%18446744073709551616:Nat):Int)])/\c=w:=Any.bits_Mul Tryz.lays212 x y a b w
end Go.Proofs
namespace Go.Proofs.Y.gR
open Go Go.Proofs Go.RowKit Go.Sort Go.Proofs.Y.Lift
def zV:UInt8->Ç:=λb=>Â br (b.toNat:Int)
def lI(w:É):Prop:=aB À w "internal/strconv.uint64pow10" Æ aQ
def anQ(a:j5 w)(b:Nat)(f:Array Ç->Array Ç):j5 (ō w b f):=by
 intro i o h;unfold ō at h;simp only[Ú]at h;split at h
 .cases d:w.heap[i]? with
  |none=>rw[d]at h;cases h
  |some e=>
   have:=a _ _ d;rw[d]at h;cases e with
   |cells c t z=>simp only[ì,ê]at h;subst h;exact λx=>x
   |_=>exact absurd trivial this
 .exact a i o h
def anR(a:rR m w)(b:Nat)(f:Array Ç->Array Ç)(j:NF b w):rR m (ō w b f):=by
 intro i c T k l h g;unfold ō at h;simp only[Ú]at h;split at h
 .rename_i e;subst e;cases d:w.heap[b]? with
  |none=>rw[d]at h;cases h
  |some n=>
   rw[d]at h;cases n with
   |cells o t z=>
    simp only[ì,ê,onCells,Į]at h;have:=j _ _ _ d;rw[h.2.1,g]at this;cases this
   |_=>simp only[ì,ê,onCells]at h;cases h
 .exact a i c T k l h g
def fc.fZ(w:World)(T:TypeId)(cs:Array Value)(off:Nat)(d:Array UInt8)(n:Nat)(hT:mb T=false:=by decide):fc (λ_=>False) w ((putRow zV (w.alloc<|.cells cs T) w.heap.size off d).drewN n):= ⟨by simp[φ,ō,World.drewN],λk hk _=>by show(ō (w.alloc<|Ð cs T) w.heap.size _).heap[k]?=_;unfold ō;simp only[Ú];rw[if_neg Z];exact Ĕ _ _ _ hk,λa=>anQ (IZ a cs T (0,0)) _ _,λ_ a=>anR (I1 a cs T (0,0)<|Û hT) _ _<|fh.G (fh.N w cs.toList T) hT⟩
def anS(w:É)(T:ú)(a:Nat)(c:a<=24):Holds zV (w.alloc<|Ð Ĭ T) w.heap.size 0 (ř a (0:UInt8)):=λj b=>by
 have d:j<a:=by simpa using b
 refine⟨?_,World.frozen?_alloc_new _ _ _ _⟩;rw[World.cell?_alloc_new,Lib.zeros24_at _ Z,getElem!_pos _ j b];simp[zV]
def gH(u:Nat):ByteArray:=⟨(ň u).toArray⟩
def anT(u:Nat)(h:u<100)(w:É):Ô À 172 #[Â Æ u,Â Ë 10] w λe a=>e=È (Í<|gH u)/\a=w:=by go_enter aS,av;go_wp2_with (go_at_call 187;refine(Tryz.internal_strconv_small u h _).mono ?_;rintro e a ⟨rfl,rfl⟩);go_ret;exact⟨U,U⟩
def anU(u:Nat)(h:¬u<100)(c:u<18446744073709551616)(w:É)(m:lI w):Ô À 172 #[Â Æ u,Â Ë 10] w λe b=>e=È (Í<|gH u)/\fc (λ_=>False) w b:=by
 have g:1<=u:=Z
 have o:Ē u<=20:=by have:=Lib.numDigits_eq u g c;split at this<;>omega
 have n:À.arrayLen 276=24:=ft
 have p:∀W,(Instr.sliceAt 276 (Å<|Ã ⟨w.heap.size,0,Ä⟩) Ä (Ã<|Â Ë (Ē u:Int)) Ä).run À W=ay (Ê (Ã ⟨w.heap.size,0,Ä⟩) (Ē u) 24) W:=λW=>by rw[run_sliceAt_array_h W 276 ⟨w.heap.size,0,Ä⟩ (by simp[Program.arrayLen,Program.elem,Tryz.type276]) Ë (Ē u:Int) Z (by rw[n];omega)];go_simp
 have i:=anS w 276 (Ē u) Z;have l:=Tryz.internal_strconv_formatBase10 w.heap.size 0 24 u (ř (Ē u) 0) (w.alloc<|Ð Ĭ 276) i (by rw[ē];exact Lib.lt_pow_nDigits u) c (by rw[ē];omega);rw[ē]at l;go_enter aS,av;go_wp2_with (go_at_call 188;refine(Tryz.internal_strconv_numDigits u g c _<|Lib.tabIs_alloc m _).mono ?_;rintro e b ⟨rfl,rfl⟩);go_at_call 189;apply l.mono;rintro e b ⟨rfl,k,q,a,d,hF⟩;replace d:b=(φ zV (w.alloc<|Ð Ĭ 276) w.heap.size 0 a).drewN k:=d;subst d;have r:(convert 107 9<|Ê (Ã ⟨w.heap.size,0,Ä⟩) (Ē u) 24).run À ((φ zV (w.alloc<|Ð Ĭ 276) w.heap.size 0 a).drewN k)=ay (Í<|gH u) ((φ zV (w.alloc<|Ð Ĭ 276) w.heap.size 0 a).drewN k):=by have h:=run_convert_bytes_back (P:=À) ((φ zV (w.alloc<|Ð Ĭ 276) w.heap.size 0 a).drewN k) 107 9 5 ⟨w.heap.size,0,Ä⟩ 24 (ň u) ft ft ft (λj f=>by rw[Lib.row_is_numeral hF j f,Lib.add_plain,World.cell?_drewN];exact cell?_putRow zV _ w.heap.size 0 _ a (Lib.hid i).out (by rw[hF.size,ē]) j<|by rw[hF.size];rwa[ĭ]at f);rwa[ĭ]at h
 go_wp2;go_ret;exact⟨U,fc.fZ w 276 _ _ a k⟩
def anV(u:Nat)(d:u<18446744073709551616)(w:É)(f:lI w):Ô À 172 #[Â Æ u,Â Ë 10] w λe c=>e=È (Í<|gH u)/\fc (λ_=>False) w c:=by
 by_cases h:u<100
 .exact(anT u h w).mono λe c ⟨a,b⟩=>⟨a,b▸fc.fT _ _⟩
 .exact anU u h d w f
def anW(u:Nat)(b:u<18446744073709551616)(w:É)(c:lI w):Ô À 157 #[Â Æ u,Â Ë 10] w λe a=>e=È (Í<|gH u)/\fc (λ_=>False) w a:=by go_enter Tryz.func157,Tryz.ntmps157;go_wp2_with (go_at_call 172;refine(anV u b _ c).mono ?_;rintro e a ⟨rfl,d⟩);go_ret;exact⟨U,d⟩
def xU(u:Nat)(b:u<18446744073709551616)(w:É)(c:lI w):Ô À 118 #[Â Æ u] w λe a=>e=È (Í<|gH u)/\fc (λ_=>False) w a:=by go_enter Tryz.func118,Tryz.ntmps118;go_wp2_with (go_at_call 157;refine(anW u b _ c).mono ?_;rintro e a ⟨rfl,d⟩);go_ret;exact⟨U,d⟩
end Go.Proofs.Y.gR
namespace Go.Proofs.Y.gR
open Go Go.Proofs Go.RowKit Go.Proofs.Y.Lift
def TR(B:Nat):iU:=⟨B,144,[]⟩
def anX(B:Nat):(TR B).Ok:=⟨show(144:Nat)≠36 by decide,show(144:Nat)≠257 by decide,show(144:Nat)≠282 by decide,show(144:Nat)≠300 by decide,show(144:Nat)≠252 by decide,show(144:Nat)≠246 by decide⟩
def aan{s:St}(l:mh n s h w)(z:gI s)(B:iK w)(x y:Nat)(g k:Int)(T:x<8)(V:y<8)(Y:0<=g)(uH:g<=100000)(hk:fX k)(r:Dk)(D:r=gk s [] x y g k): Ô À 158 #[Å<|Ã ⟨n,0,Ä⟩,Â Ë x,Â Ë y,Â Æ g,Â Æ k] w λe f=>
  ∃lv,e=È (é #[ė #[Â Æ r.r,Ò r.C,Â Æ r.I],lv])/\f.ownsRow 0 257 2 lv r.M.length (ki r.M)/\fc (λ_=>False) w f:=by
 let⟨dd,E,F⟩:=Ì.1 Tt;have G:(À.info? 140).map (·.size)=Ã (iq s).length:=by rw[rW];exact Q'
 let⟨i0,z0,I,J,K,L⟩:=E_ D';have m:=Td s (lv:=Ê Ä 0 0) U;rw[zN]at m;have o:(iq s++[Ê Ä 0 0]).length=145:=by rw[Ó,rW];rfl
 have M:=fc.gE (λ_=>False) w #[Â Æ 0,Ò Ï,Â Æ 0] 252;have N:=(l.r M id).C;have gJ:=ä w _ l.h;have C:∀W,iB (w.heap.size+1) 144 [] s (Ê Ä 0 0) W->iK W->Ô À 173 #[Å<|Ã ⟨w.heap.size+1,0,Ä⟩,Â Ë x,Â Ë y,Â Æ g,Â Æ k,Â Ë 1] W λe f=>e=È (ė #[Â Æ r.r,Ò r.C,Â Æ r.I])/\∃jz,im (TR<|w.heap.size+1) (Ê Ä 0 0) 0 W r.s r.M f jz:=λW hW hrW=>by rw[D];exact K_ (TR<|w.heap.size+1) (anX _) s _ [] x y g k W hW (ć _ _ _ _) hrW z T V Y uH hk<|by simp;omega
 have a:=ff<|Á E<|Á F<|Á G<|Á N<|Á I<|Á K<|Á (J.trans o.symm)<|Á (L.trans o.symm) m;have H:=ff<|Á B C;clear E F G I J K L m o N l C B z M D;go_enter Tryz.func158,Tryz.ntmps158;go_wp2_with (first
  |(with_reducible refine Ĝ U 140 _ U n 0 U (iq s) dd a.out.2.2.2.1 a.out.1 a.out.2.1 a.out.2.2.1 ?_)
  |(with_reducible refine Ď U (Ã 19) U _ _ (Ts U U<|rW s) ?_)
  |(with_reducible refine Tb U U 144 U 12 U _ _ U U a.out.2.2.2.2.1 a.out.2.2.2.2.2.1 (iq s++[Ê Ä 0 0]) a.out.2.2.2.2.2.2.1 a.out.2.2.2.2.2.2.2.1 U U a.out.2.2.2.2.2.2.2.2 ?_;intro t hB1 O Sw))
 have C4:t.heap.size=w.heap.size+1+1:=by simpa using Sw
 have P:iB (w.heap.size+1) 144 [] s (Ê Ä 0 0) t:=by unfold iB;rw[ù,zN];simpa using hB1
 have Q:=(fc.gE _ _ _ _).fg O;have Li:=(fh.N w [Â Æ 0,Ò Ï,Â Æ 0] 252).I O id;go_at_call 173;refine(H.out.2 t P<|H.out.1.r Q id).mono ?_;rintro e u ⟨rfl,lv,d⟩;have b:=Li.I d.C (λq=>q.elim (λq=>absurd q<|by show w.heap.size≠w.heap.size+1;omega) λq=>by cases q);have sR:=d.C.M;have hlv:u.cell? ⟨w.heap.size+1,144,Ä⟩=Ã lv:=d.r.I7 Z;obtain⟨la,lc,rfl⟩:=jh d.I;have l0:=b.M;have y0:=b.C 0;have y1:=b.C 1;have y2:=b.C 2;have c0:=b.r 0 _ U;have c1:=b.r 1 _ U;have c2:=b.r 2 _ U;have hl2:w.heap.size+1<u.heap.size:=Z
 have c:=ff<|Á d<|Á b<|Á Q P;go_wp2_with fail;go_region;go_wp2_with fail;let⟨d2,mV,rN⟩:=Ì.1 Tf;have S:=((fc.I (X:=λk=>k=w.heap.size) (w:=u) (p:=⟨w.heap.size,0,Ä⟩) U<|Â Æ r.r).fg<|fc.I (X:=λk=>k=w.heap.size) (p:=⟨w.heap.size,1,Ä⟩) U<|Ò r.C).fg (fc.I (X:=λk=>k=w.heap.size) (p:=⟨w.heap.size,2,Ä⟩) U<|Â Æ r.I);have v:=λW=>(fc.gE (λ_=>False) W #[Â Æ r.r,Ò r.C,Â Æ r.I] 252).fg<|fc.fR _ _;apply õ (zL U U (fh.Y (vs:=[Â Æ r.r,Ò r.C,Â Æ r.I])<|(((c.out.2.1.fZ 0<|Â Æ r.r).fZ 1<|Ò r.C).fZ 2<|Â Æ r.I).I (v _) id) mV rN Tg) U;refine⟨_,U,ic (ic c.out.1.I S λj hj y=> ?_) (v _) λ_ _=>id,?_⟩
 .let⟨j,i⟩:=lF c.out.1.I hj;rw[y,c.out.2.1]at i;cases i
 .refine((c.out.2.2.1.C c.out.1.C λi j q=> ?_).C S λi j q=> ?_).fg<|v _
  .rcases q with q|q
   .exact absurd q<|by show i≠w.heap.size+1;omega
   .cases q
  .omega
def tu(s:St)(x y:Nat)(k:Int):Nat->Nat->ByteArray
 |_,0=>⟨#[45]⟩
 |i,n+1=>if(gk s [] x y i k).C then gH i else tu s x y k (i+1) n
noncomputable def Nq:Ş:=(Tryz.f120.body.bind ko).getD Ń
def DC(a x y:Nat)(k:Int)(r:Ç)(i:Int)(u:Nat->Ç):ë:=⟨#[Å<|Ã ⟨a,0,Ä⟩,Â Ë x,Â Ë y,Â Æ k,u 4,u 5,u 6,u 7,r,u 9,u 10,u 11,Â Æ i,u 13,u 14,u 15,u 16,u 17,u 18,u 19,u 20,u 21,u 22,u 23,u 24,u 25,u 26,u 27,u 28,u 29],[]⟩
def zW(b x y:Nat)(k:Int)(r:Ç)(i:Int)(a:ë):Prop:=∃u,a=DC b x y k r i u
def lI.r(h:lI w)(q:fc (λ_=>False) w u):lI u:=by
 unfold lI aB World.var? at*;cases a:À.globalNamed "internal/strconv.uint64pow10" with
 |none=>rw[a]at h;cases h
 |some g=>
  rw[a]at h;simp only[Option.bind_some]at h|-;have b:g<w.heap.size:=by
   rcases ğ g w.heap.size with e|e
   .exact e
   .rw[ñ e]at h;simp at h
  rwa[q.N g b id]
section
variable{Y:ë->É->Prop}{s:St}
def anY(b:Ç)(u:Nat->Ç)(d:∀a,zW j i n c b 401 a->H a w): Î À Nq (Exit.then K<|QN H Y) (DC j i n c b 401 u) w:=by
 unfold DC;conv=>arg 2;whnf
 go_wp2_with fail
 exact d _ (gi _)
def anZ(p:Ç)(u:Nat->Ç)(b:Nat)(P:b<401)(B:mh j s h w)(C:gI s)(D:iK w)(E:lI w)(F:i<8)(G:n<8)(I:fX c) (q:(gk s [] i n b c).C=Ï->∀a g,zW j i n c p ((b+1:Nat):Int) a->fc (λ_=>False) w g->K a g) (r:(gk s [] i n b c).C=Ý->∀a g,zW j i n c (Í<|gH b) b a->fc (λ_=>False) w g->Y a g): Î À Nq (Exit.then K<|QN H Y) (DC j i n c p b u) w:=by
 unfold DC;conv=>arg 2;whnf
 have T:=aan B C D i n b c F G Z Z I _ U;obtain⟨t,o,v,x,y,J⟩:∃t o v x y,gk s [] i n b c=⟨t,o,v,x,y⟩:=⟨_,_,_,_,_,U⟩;rw[J]at T q r;have d:=ff<|Á T<|Á q<|Á r E;cases o with
 |true=>
  go_wp2_with (first
   |(go_at_call 158;refine d.out.1.mono ?_;rintro e l ⟨L,rfl,f,k⟩;obtain⟨M,N,rfl⟩:=jh f;have m:=ff<|Á k f;clear k f)
   |(go_at_call 118;refine(xU b Z _ (d.out.2.2.2.r (m.out.1.fg (fc.gE (λ_=>False) l _ _)))).mono ?_;rintro e Q ⟨rfl,z⟩;have O:=ff z;clear z))
  exact d.out.2.2.1 trivial _ _ (gi _)<|(m.out.1.fg<|fc.gE (λ_=>False) l _ _).fg O.out
 |false=>
  go_wp2_with (first
   |(go_at_call 158;refine d.out.1.mono ?_;rintro e l ⟨L,rfl,f,k⟩;obtain⟨M,N,rfl⟩:=jh f;have m:=ff (Á k f);clear k f))
  exact d.out.2.1 trivial _ _ (gi _)<|m.out.1.fg<|fc.gE (λ_=>False) l _ _
def LI(j i n:Nat)(c:Int)(d:Ç)(s:St)(e:É)(f:ByteArray)(a:ë)(w:É):Prop:=
 ∃b:Nat,zW j i n c d b a/\b<=401/\fc (λ_=>False) e w/\tu s i n c b (401-b)=f
def LE(j i n:Nat)(c:Int)(b:Ç)(d:É)(e:ByteArray)(a:ë)(w:É):Prop:=zW j i n c b 401 a/\fc (λ_=>False) d w/\e=⟨#[45]⟩
def LR(j i n:Nat)(c:Int)(d:É)(e:ByteArray)(a:ë)(w:É):Prop:=∃b,zW j i n c (Í e) b a/\fc (λ_=>False) d w
def Nr(a:ë)(_:É):Nat:=match a.tmps.getD 12 Ĉ with
 |Â _ i=>401-i.toNat
 |_=>0
def aao(d:zW j i n c v b y):Nr y w=401-b:=by obtain⟨u,rfl⟩:=d;show 401-(b:Int).toNat=_;simp
def an0(p:mh j s h u)(r:gI s)(t:iK u)(x:lI u)(y:i<8)(z:n<8)(C:fX c)(a:ë)(w:É)(D:LI j i n c v s u B a w): Î À Nq (Exit.then (λg k=>LI j i n c v s u B g k/\Nr g k<Nr a w)<|QN (LE j i n c v u B)<|LR j i n c u B) a w:=by
 let⟨b,o,H,e,f⟩:=D;rw[aao (w:=w) o];obtain⟨d,rfl⟩:=o;by_cases E:b=401
 .subst E;exact anY v d λa q=>⟨q,e,f.symm⟩
 .have F:401-b=(401-(b+1))+1:=Z
  rw[F,tu]at f;refine anZ v d b Z (p.r e id) r (t.r e id) (x.r e) y z C ?_ ?_
  .intro l g k q m;rw[l]at f;exact⟨⟨b+1,q,Z,e.fg m,f⟩,by rw[aao q];omega⟩
  .intro l g k q m;rw[l]at f;have G:gH b=B:=f;rw[G]at q;exact⟨b,q,e.fg m⟩
def an1(f:mh j s h w)(g:gI s)(k:iK w)(l:lI w)(m:i<8)(o:n<8)(p:fX c): Ô À 120 #[Å<|Ã ⟨j,0,Ä⟩,Â Ë i,Â Ë n,Â Æ c] w λe a=>e=È (Í<|tu s i n c 0 401)/\fc (λ_=>False) w a:=by
 have L:∀a,zW j i n c (Í ⟨#[]⟩) 0 a->Î À (ã Nq) (QN (LE j i n c (Í ⟨#[]⟩) w<|tu s i n c 0 401)<|LR j i n c w<|tu s i n c 0 401) a w:=λa q=>
  ď (LI j i n c (Í ⟨#[]⟩) s w<|tu s i n c 0 401) Nr ⟨0,q,å _,fc.fT _ _,U⟩<|an0 f g k l m o p
 generalize tu s i n c 0 401=r at*;go_enter Tryz.func120,Tryz.ntmps120;go_wp2_with fail;refine à ?_ ((ff L).out _ (gi _));rintro(_|(_|_)|_|_|_|_) a v hq;all_goals first|exact absurd hq id|skip
 .obtain⟨b,d,rfl⟩:=hq;obtain⟨u,rfl⟩:=b;unfold DC;go_wp2_with fail;go_ret;exact⟨U,(ff d).out⟩
 .let⟨e,b,d⟩:=hq;obtain⟨u,rfl⟩:=b;unfold DC;go_wp2_with fail;go_ret;exact⟨U,(ff d).out⟩
end
def zY:(À.info? 9).map (λi=>(i.zero,i.size,i.bytes))=Ã (Ã<|Í ⟨#[]⟩,1,16):=ft
def ji(xs:List ByteArray):List Ç:=xs.map Í
structure ie(w0:É)(tv:Ç)(xs:List ByteArray)(w:É):Prop where
 fq:w.ownsRow w0.heap.size 9 1 tv xs.length (ji xs)
 r:fc (λ_=>False) w0 w
section
variable{w0:É}{tv:Ç}{xs:List ByteArray}
def ie.M(w0:É){w:É}(k:fc (λ_=>False) w0 w):ie w0 (Ê Ä 0 0) [] w:=⟨ć _ _ _ _,k⟩
def ie.fL(h:ie w0 tv xs w)(k:fc (λ_=>False) w u):ie w0 tv xs u:=⟨ic h.fq k λ_ _=>id,h.r.fg k⟩
def ie.C(h:ie w0 tv xs w)(a:qk w w0.heap.size 9 1 tv xs.length (ji xs) 1 [Í B] v u):ie w0 v (xs++[B]) u:=by
 refine⟨?_,h.r.C a.r λi b q=> ?_⟩
 .have:=a.fq;rwa[show ji xs++[Í B]=ji (xs++[B]) by simp[ji],show xs.length+1=(xs++[B]).length by simp]at this
 .have:=(h.fq.lt i q).1;omega
end
def ri(u:Nat)(h:u<18446744073709551616):(gH u).size<=20:=by have:=Lib.nDigits_le20 u h;unfold gH;show(ň u).toArray.size<=20;simp[ĭ];omega
def nG(p:Option ċ)(a:List Ç)(w:É):Prop:=∀(j:Nat) (x:Ç),a[j]?=Ã x->∃b o,p=Ã ⟨b,o,Ä⟩/\w.cell? ⟨b,o+j,Ä⟩=Ã x
def nG.C(h:nG O l w)(q:fc (λ_=>False) w u):nG O l u:=λj x a=>by let⟨b,o,c,d⟩:=h j x a;exact⟨b,o,c,q.r d id⟩
def nG.r{base:Nat}(h:w.ownsRow base e i (Ê O n j) n l):nG O l w:=λb x d=>by
 rcases h.2 with⟨f,k⟩|⟨g,m,o,f,_⟩
 .have:=h.1;rw[k,Nat.zero_mul]at this;rw[á this]at d;cases d
 .cases f;refine⟨g,0,U,?_⟩;have:=h.cells (g:=g) U b x d;rwa[Addr.add_mid]at this
def TS{α:Type}(f g:α->Ç):∀(l:List α) (j:Nat) (x:α),l[j]?=Ã x->(l.flatMap λp=>[f p,g p])[j*2]?=Ã (f x)/\(l.flatMap λp=>[f p,g p])[j*2+1]?=Ã (g x)
 |[],j,x,h=>by cases h
 |a::l,0,x,h=>by cases h;exact⟨U,U⟩
 |a::l,j+1,x,h=>by rw[show(j+1)*2=j*2+1+1 by omega];exact TS f g l j x h
def iE(y:Nat):ByteArray:=ÿ ⟨#[97,98,99,100,101,102,103,104]⟩ y<|y+1
def oR(e:Nat×Int):ByteArray:=iE e.1++gH e.2.toNat
noncomputable def Ns:Ş:=(Tryz.f124.body.bind ko).getD Ń
def F3(a:Option ċ)(n b:Nat)(c:Ç)(i:Int)(u:Nat->Ç):ë:=⟨#[Ê a n b,u 1,u 2,c,u 4,u 5,Ê a n b,Â Ë n,Â Ë i,u 9,u 10,u 11,u 12,u 13,u 14,u 15,u 16,u 17,u 18,u 19,u 20,u 21,u 22,u 23,u 24,u 25,u 26],[]⟩
def F4(b:Option ċ)(n c:Nat)(d:Ç)(i:Int)(a:ë):Prop:=∃u,a=F3 b n c d i u
section
variable{X:ë->É->Prop}{w0:É}{cp:Nat}{tv:Ç}{xs:List ByteArray}
def an2(u:Nat->Ç)(i:Int)(b:i=n)(c:∀a,F4 O n cp tv n a->X a w): Î À Ns (Exit.then K<|QQ X) (F3 O n cp tv i u) w:=by
 unfold F3;conv=>arg 2;whnf
 subst b;go_wp2_with fail;exact c _ (gi _)
def an3(u:Nat->Ç)(r:ie w0 tv xs w)(j:Nat)(N:j<n)(P:n<=400000)(Q:xs.length<=400000)(y p:Nat)(S:y<8)(s:p<18446744073709551616)(B:lI w)(l m:Nat)(C:O=Ã ⟨l,m,Ä⟩)(T:w.cell? ⟨l,m+j*2,Ä⟩=Ã (Â Ë y))(V:w.cell? ⟨l,m+j*2+1,Ä⟩=Ã (Â Æ p)) (b:∀a d t,F4 O n cp t ((j+1:Nat):Int) a->ie w0 t (xs++[iE y++gH p]) d->K a d): Î À Ns (Exit.then K<|QQ X) (F3 O n cp tv j u) w:=by
 unfold F3;conv=>arg 2;whnf
 subst C;have W:(0:Int)<=(j:Int):=Z
 have Y:(j:Int)<(n:Int):=Z
 have y0:(0:Int)<=(y:Int):=Z
 have y1:(y:Int)<8:=Z
 have jH:=ri p s;have oG:Ë.wrap ((y:Int)+1)=(y:Int)+1:=by rw[î];omega
 have Fs:(0:Int)<=(y:Int)+1:=Z
 have zf:(y:Int)+1<=8:=Z
 have qT:(y:Int)<=(y:Int)+1:=Z
 have uB:((y:Int)+1).toNat=y+1:=Z
 have xO:¬9223372036854775807<min (y+1) 8-y+(gH p).size:=Z
 obtain⟨ta,tc,rfl⟩:=jh r.fq;have H:=ff<|Á r<|Á B b;go_wp2_with fail;change Î À _ _ _ (w.alloc<|Ð #[Â Ë y,Â Æ p] 257);have v:=fc.gE (λ_=>False) w #[Â Ë y,Â Æ p] 257;have D:=(H.out.1.fL v).fL<|fc.fR _ _;have E:=(H.out.2.1.r v).r<|fc.fR _ _;have o:=(fh.N w [Â Ë y,Â Æ p] 257).I (fc.fR (λ_=>False) _) id;let⟨i0,F,G,I,J⟩:=ò zY;have g:=ff<|Á F<|Á G<|Á I J;refine mf (λd=>d.cell? ⟨w.heap.size,0,Ä⟩=Ã (Â Ë y)/\d.cell? ⟨w.heap.size,1,Ä⟩=Ã (Â Æ p)) [] ft ?_;have c:=ff<|Á (o.r 0 _ rfl)<|o.r 1 _ rfl;generalize w.heap.size=ub at*;generalize đ (w.alloc<|Ð #[Â Ë y,Â Æ p] 257)=w1 at*;apply tk 0 c.out;apply tk 1 c.out;apply tk 2 c.out;apply tk 3 c.out;apply tk 4 c.out;apply tk 5 c.out;apply tk 6 c.out;apply tk 7 c.out;apply tk 8 c.out;apply gD 9;intro K b;go_simp;go_at_call 118;refine(xU p s _ E).mono ?_;rintro e L ⟨rfl,x⟩;have M:=D.fL x;have f:=o.I x id;apply b.out _ _ λ_=>⟨f.r 0 _ U,f.r 1 _ U⟩;apply gD 10;intro K b;go_simp;apply b.out _ _ λ_=>⟨f.r 0 _ U,f.r 1 _ U⟩;have z:=fc.gE (λ_=>False) L #[Í<|iE y++gH p] 9;have h:=M.fL z;have i:=f.I z id;apply gD 11;intro K b;go_simp;apply b.out _ _ λ_=>⟨i.r 0 _ U,i.r 1 _ U⟩;apply gD 12;intro K b;refine MV fP _ _ 25 fP Ā g.out.1 g.out.2.1 g.out.2.2.1 g.out.2.2.2 U fP h.fq ⟨_,0,Ä⟩ [Í<|iE y++gH p] fP Z U (ą _ _ _) (λu k=>by simp at k;subst k;rfl) (by unfold Č;omega) Z h.r.M ?_;intro tv1 w9 q;obtain⟨a2,R',rfl⟩:=jh q.fq;have k:=i.I q.r<|jA h.fq i A;apply b.out _ _ λ_=>⟨k.r 0 _ U,k.r 1 _ U⟩;apply gD 13;intro K b;go_simp;apply b.out _ _ λ_=>⟨k.r 0 _ U,k.r 1 _ U⟩;refine lS ft ?_ _;go_wp2_with fail;exact H.out.2.2 _ _ _ (gi _)<|h.C q
def TT(O:Option ċ)(n cp:Nat)(w0:É)(l:List (Nat×Int))(a:ë)(w:É):Prop:=
 ∃(j:Nat) (tv:Ç),F4 O n cp tv j a/\j<=n/\ie w0 tv ((l.take j).map oR) w
def ltE(O:Option ċ)(n cp:Nat)(w0:É)(l:List (Nat×Int))(a:ë)(w:É):Prop:=
 ∃tv,F4 O n cp tv n a/\ie w0 tv (l.map oR) w
def Nt(n:Nat)(a:ë)(_:É):Nat:=match a.tmps.getD 8 Ĉ with
 |Â _ i=>n-i.toNat
 |_=>0
def aap(b:F4 O n cp tv i y):Nt n y w=n-i:=by obtain⟨u,rfl⟩:=b;show n-(i:Int).toNat=_;simp
def an4{l:List (Nat×Int)}(k:n=l.length)(m:n<=400000)(o:nF l)(p:lI w0)(f:nG O (ki l) w0)(a:ë)(w:É)(r:TT O n cp w0 l a w): Î À Ns (Exit.then (λb d=>TT O n cp w0 l b d/\Nt n b d<Nt n a w)<|QQ<|ltE O n cp w0 l) a w:=by
 let⟨j,tv,g,E,b⟩:=r;rw[aap g];obtain⟨u,rfl⟩:=g;by_cases s:j=n
 .subst s;refine an2 u _ U λa q=>⟨tv,q,?_⟩;rwa[k,Υ]at b
 .obtain⟨x,e⟩:∃x,l[j]?=Ã x:=⟨_,Ñ Z⟩;obtain⟨g0,t⟩:=TS _ _ l j x e;let⟨v,y,h,z⟩:=f (j*2) _ g0;let⟨F,G,i,B⟩:=f (j*2+1) _ t;rw[h]at i;cases i;have c:=o x<|ü e;refine an3 u b j Z m (by simp;omega) x.1 x.2.toNat c.1 (by have:=c.2.1;have:=c.2.2;omega) (p.r b.r) v y h (b.r.r z id) (by rw[ę c.2.1];exact b.r.r B id) λa d C q D=>⟨⟨j+1,C,q,Z,?_⟩,by rw[aap q];omega⟩;rwa[Κ,e,ś]
def aaq{l:List (Nat×Int)}(b:n=l.length)(g:n<=400000)(c:nF l)(d:lI w)(f:nG O (ki l) w): Ô À 124 #[Ê O n cp] w λe a=>∃tv,e=È tv/\ie w tv (l.map oR) a:=by
 have L:∀a,F4 O n cp (Ê Ä 0 0) (0:Nat) a->Î À (ã Ns) (QQ<|ltE O n cp w l) a w:=λa e=>
  ď (TT O n cp w l) (Nt n) ⟨0,_,e,å _,ie.M w<|fc.fT _ _⟩<|an4 b g c d f
 have H:=ff L;clear L c d f b;go_enter Tryz.func124,Tryz.ntmps124;go_wp2_with fail;refine à ?_ (H.out _ (gi _));rintro(_|(_|_)|_|_|_|_) a v hq;all_goals first|exact absurd hq id|skip
 let⟨tv,h,i⟩:=hq;obtain⟨u,rfl⟩:=h;unfold F3;go_wp2_with fail;go_ret;exact⟨_,U,(ff i).out⟩
end
def aar(b:Bool):xI b=((b.toNat:Nat):Int):=by cases b<;>rfl
def xV(e:Int×Bool):ByteArray:=gH e.2.toNat++⟨#[58]⟩++gH e.1.toNat
noncomputable def Nu:Ş:=(Tryz.f125.body.bind ko).getD Ń
def F5(a:Option ċ)(n b:Nat)(c:Ç)(i:Int)(u:Nat->Ç):ë:=⟨#[Ê a n b,u 1,u 2,c,u 4,u 5,Ê a n b,Â Ë n,Â Ë i,u 9,u 10,u 11,u 12,u 13,u 14,u 15,u 16,u 17,u 18,u 19,u 20,u 21,u 22,u 23,u 24,u 25],[]⟩
def F6(b:Option ċ)(n c:Nat)(d:Ç)(i:Int)(a:ë):Prop:=∃u,a=F5 b n c d i u
section
variable{cp:Nat}{xs:List ByteArray}
def an5(u:Nat->Ç)(i:Int)(b:i=n)(c:∀a,F6 O n cp v n a->H a w): Î À Nu (Exit.then K<|QQ H) (F5 O n cp v i u) w:=by
 unfold F5;conv=>arg 2;whnf
 subst b;go_wp2_with fail;exact c _ (gi _)
def an6(c:Nat->Ç)(r:ie u v xs w)(j:Nat)(hj:j<n)(hn:n<=1000)(tY:xs.length<=1000)(p:Nat)(b:Bool)(C:p<18446744073709551616)(D:lI w)(s t:Nat)(V:O=Ã ⟨s,t,Ä⟩)(W:w.cell? ⟨s,t+j*2,Ä⟩=Ã (Â Æ p))(X:w.cell? ⟨s,t+j*2+1,Ä⟩=Ã (Ò b)) (f:∀a h E,F6 O n cp E ((j+1:Nat):Int) a->ie u E (xs++[gH b.toNat++⟨#[58]⟩++gH p]) h->K a h): Î À Nu (Exit.then K<|QQ H) (F5 O n cp v j c) w:=by
 unfold F5;conv=>arg 2;whnf
 subst V;have jH:=ri p C;have F:b.toNat<18446744073709551616:=by cases b<;>decide
 have hsb:=ri b.toNat F;have xO:¬9223372036854775807<(gH b.toNat).size+1:=Z
 have hw5:¬9223372036854775807<(gH b.toNat).size+1+(gH p).size:=Z
 obtain⟨ta,tc,rfl⟩:=jh r.fq;have d:=ff<|Á r<|Á D f;clear r D f;go_wp2_with fail;change Î À _ _ _ (w.alloc<|Ð #[Â Æ p,Ò b] 246);have G:=fc.gE (λ_=>False) w #[Â Æ p,Ò b] 246;have Y:=(d.out.1.fL G).fL<|fc.fR _ _;have I:=(d.out.2.1.r G).r<|fc.fR _ _;have x:fh w.heap.size [Â Æ p,Ò b] 246 (đ<|w.alloc<|Ð #[Â Æ p,Ò b] 246):=(fh.N w [Â Æ p,Ò b] 246).I (fc.fR (λ_=>False) _) id;let⟨i0,J,L,M,N⟩:=ò zY;have k:=ff<|Á J<|Á L<|Á M N;clear J L M N W X;refine mf (λh=>h.cell? ⟨w.heap.size,0,Ä⟩=Ã (Â Æ p)/\h.cell? ⟨w.heap.size,1,Ä⟩=Ã (Ò b)) [] ft ?_;have g:=ff<|Á (x.r 0 _ rfl)<|x.r 1 _ rfl;generalize w.heap.size=ub at*;generalize đ (w.alloc<|Ð #[Â Æ p,Ò b] 246)=w1 at*;apply tk 0 g.out;apply tk 1 g.out;apply tk 2 g.out;apply tk 6 g.out;apply tk 7 g.out;apply gD 3;intro K f;go_simp;go_at_call 159;refine(I8 _ _).mono ?_;rintro e P ⟨rfl,qT⟩;subst P;dsimp only;rw[aar];apply f.out _ _ λ_=>g.out;clear f K;apply gD 4;intro K f;go_simp;go_at_call 118;refine(xU b.toNat F _ I).mono ?_;rintro e P ⟨rfl,y⟩;have T2:=Y.fL y;have z:=x.I y id;have P2:=I.r y;have Q:=ff<|Á (z.r 0 _ rfl)<|z.r 1 _ rfl;dsimp only;apply f.out _ _ λ_=>Q.out;clear f K;apply tk 5 Q.out;apply gD 8;intro K f;go_simp;go_at_call 118;refine(xU p C _ P2).mono ?_;rintro e w3 ⟨rfl,S⟩;have i:=z.I S id;dsimp only;apply f.out _ _ λ_=>⟨i.r 0 _ U,i.r 1 _ U⟩;clear f K;apply gD 9;intro K f;go_simp;apply f.out _ _ λ_=>⟨i.r 0 _ U,i.r 1 _ U⟩;clear f K;have T:=fc.gE (λ_=>False) w3 #[Í<|gH b.toNat++⟨#[58]⟩++gH p] 9;have l:=(T2.fL S).fL T;have o:=i.I T id;apply gD 10;intro K f;go_simp;apply f.out _ _ λ_=>⟨o.r 0 _ U,o.r 1 _ U⟩;clear f K;apply gD 11;intro K f;refine MV (base:=u.heap.size) (n:=xs.length) (xs:=ji xs) (m:=1) fP _ _ 25 fP Ā k.out.1 k.out.2.1 k.out.2.2.1 k.out.2.2.2 U fP l.fq ⟨_,0,Ä⟩ [Í<|gH b.toNat++⟨#[58]⟩++gH p] fP Z U (ą _ _ _) (λc q=>by simp at q;subst q;rfl) (by unfold Č;omega) Z l.r.M ?_;intro tv1 w9 B;obtain⟨a2,R',rfl⟩:=jh B.fq;have q:=o.I B.r<|jA l.fq o A;apply f.out _ _ λ_=>⟨q.r 0 _ U,q.r 1 _ U⟩;clear f K;apply gD 12;intro K f;go_simp;apply f.out _ _ λ_=>⟨q.r 0 _ U,q.r 1 _ U⟩;clear f K;try simp only[ł,Õ,æ,ç]
 refine lS ft ?_ _;go_wp2_with fail;exact d.out.2.2 _ _ _ (gi _)<|l.C B
def TU(O:Option ċ)(n cp:Nat)(u:É)(l:List (Int×Bool))(a:ë)(w:É):Prop:=
 ∃(j:Nat) (v:Ç),F6 O n cp v j a/\j<=n/\ie u v ((l.take j).map xV) w
def TV(O:Option ċ)(n cp:Nat)(u:É)(l:List (Int×Bool))(a:ë)(w:É):Prop:=
 ∃v,F6 O n cp v n a/\ie u v (l.map xV) w
def Nv(n:Nat)(a:ë)(_:É):Nat:=match a.tmps.getD 8 Ĉ with
 |Â _ i=>n-i.toNat
 |_=>0
def aas(b:F6 O n cp v i y):Nv n y w=n-i:=by obtain⟨u,rfl⟩:=b;show n-(i:Int).toNat=_;simp
def an7{l:List (Int×Bool)}(m:n=l.length)(o:n<=1000)(p:zU l)(r:lI u)(g:nG O (uK l) u)(a:ë)(w:É)(s:TU O n cp u l a w): Î À Nu (Exit.then (λb d=>TU O n cp u l b d/\Nv n b d<Nv n a w)<|QQ<|TV O n cp u l) a w:=by
 let⟨j,v,h,G,c⟩:=s;rw[aas h];obtain⟨b,rfl⟩:=h;by_cases t:j=n
 .subst t;refine an5 b _ U λa q=>⟨v,q,?_⟩;rwa[m,Υ]at c
 .obtain⟨x,e⟩:∃x,l[j]?=Ã x:=⟨_,Ñ Z⟩;obtain⟨g0,y⟩:=TS _ _ l j x e;let⟨z,B,i,C⟩:=g (j*2) _ g0;let⟨H,I,k,D⟩:=g (j*2+1) _ y;rw[i]at k;cases k;have f:=p x<|ü e;refine an6 b c j Z o (by simp;omega) x.1.toNat x.2 (by have:=f.1;have:=f.2;omega) (r.r c.r) z B i (by rw[ę f.1];exact c.r.r C id) (c.r.r D id) λa d E q F=>⟨⟨j+1,E,q,Z,?_⟩,by rw[aas q];omega⟩;rwa[Κ,e,ś]
def an8{l:List (Int×Bool)}(b:n=l.length)(g:n<=1000)(c:zU l)(d:lI w)(f:nG O (uK l) w): Ô À 125 #[Ê O n cp] w λe a=>∃v,e=È v/\ie w v (l.map xV) a:=by
 have L:∀a,F6 O n cp (Ê Ä 0 0) (0:Nat) a->Î À (ã Nu) (QQ<|TV O n cp w l) a w:=λa h=>
  ď (TU O n cp w l) (Nv n) ⟨0,_,h,å _,ie.M w<|fc.fT _ _⟩<|an7 b g c d f
 have H:=ff L;clear L c d f b;go_enter Tryz.func125,Tryz.ntmps125;go_wp2_with fail;refine à (Q:=QQ<|TV O n cp w l) ?_ (H.out _ (gi _));rintro(_|(_|_)|_|_|_|_) a v hq;all_goals first|exact absurd hq id|skip
 let⟨v,i,e⟩:=hq;obtain⟨u,rfl⟩:=i;unfold F5;have j:=ff e;clear e;go_wp2_with fail;go_ret;exact⟨_,U,j.out⟩
end
def DF(j:Nat):ByteArray:=ÿ ⟨#[48,49,50,51,52,53,54,55,56,57,97,98,99,100,101,102]⟩ j<|j+1
def DG(s t:St)(i j:Nat):List ByteArray:=if(s i).C j=(t i).C j then[]else[iE i++DF j]
def qw(s t:St)(i j:Nat):List ByteArray:=(Đ j).flatMap<|DG s t i
def vV(b a:Int)(p c:ByteArray)(i:Nat):List ByteArray:=(if b=a then[]else[iE i++⟨#[36]⟩])++(if p.toList=c.toList then[]else[iE i++⟨#[123]⟩])
def xW(s t:St)(i:Nat):List ByteArray:=vV (s i).fu (t i).fu (s i).r (t i).r i++qw s t i 16
def pC(s t:St)(n:Nat):List ByteArray:=(Đ n).flatMap<|xW s t
def an9(s t:St)(i j:Nat):(DG s t i j).length<=1:=by unfold DG;split<;>simp
def TW(s t:St)(i j:Nat):qw s t i (j+1)=qw s t i j++DG s t i j:=by unfold qw;rw[Ś,ů];simp
def Nw(s t:St)(i:Nat):∀j,(qw s t i j).length<=j
 |0=>by simp[qw]
 |j+1=>by rw[TW,Ó];have:=Nw s t i j;have:=an9 s t i j;omega
def aat(b a:Int)(p c:ByteArray)(i:Nat):(vV b a p c i).length<=2:=by unfold vV;rw[Ó];split<;>split<;>simp
def aau(s t:St)(n:Nat):pC s t (n+1)=pC s t n++xW s t n:=by unfold pC;rw[Ś,ů];simp
def TX(s t:St):∀n,(pC s t n).length<=18*n
 |0=>by simp[pC]
 |n+1=>by rw[aau,Ó];have:=TX s t n;unfold xW;rw[Ó];have:=Nw s t n 16;have:=aat (s n).fu (t n).fu (s n).r (t n).r n;omega
def xY(i:Nat):(iE i).size<=1:=by unfold iE;rw[Ŗ];omega
def aav(i:Nat):(DF i).size<=1:=by unfold DF;rw[Ŗ];omega
def mh.gS{s:St}(c:mh n s h W)(a:i<8):W.cell? ⟨n,i*18,Ä⟩=Ã (Â Æ (s i).fu)/\W.cell? ⟨n,i*18+1,Ä⟩=Ã (Í (s i).r)/\∀j,j<16->W.cell? ⟨n,i*18+2+j,Ä⟩=Ã (Â Æ<|(s i).C j):=by
 have g:∀j,j<144->W.cell? ⟨n,j,Ä⟩=Ã (qn s j):=λj b=>by have:=c.C j _<|TH s b;simpa using this
 refine⟨?_,?_,λj b=> ?_⟩
 .rw[g _ Z,<-qo s (Ê Ä 0 0) Z,I5 _ _ a];rfl
 .rw[g _ Z,<-qo s (Ê Ä 0 0) Z,MP _ _ a]
 .rw[g _ Z,<-qo s (Ê Ä 0 0) Z,MQ _ _ a b];rfl
noncomputable def zZ:Ş:=(Tryz.f126.body.bind ko).getD Ń
noncomputable def xZ:Ş:=(ko zZ).getD Ń
def uP(a b i:Nat)(c:Ç)(j:Int)(u:Nat->Ç):ë:=⟨#[Å<|Ã ⟨a,0,Ä⟩,Å<|Ã ⟨b,0,Ä⟩,u 2,u 3,u 4,c,Â Ë i,Í<|iE i,Å<|Ã ⟨a,i*18,Ä⟩,Å<|Ã ⟨b,i*18,Ä⟩,u 10,Â Ë i,u 12,u 13,u 14,u 15,u 16,u 17,u 18,u 19,u 20,u 21,u 22,u 23,u 24,u 25,u 26,u 27,u 28,u 29,u 30,u 31,u 32,u 33,u 34,u 35,u 36,u 37,u 38,u 39,u 40,u 41,u 42,u 43,u 44,u 45,u 46,u 47,u 48,u 49,u 50,u 51,u 52,u 53,Â Ë j,u 55,u 56,u 57,u 58,u 59,u 60,u 61,u 62,u 63,u 64,u 65,u 66,u 67,u 68,u 69,u 70,u 71,u 72,u 73,u 74,u 75,u 76,u 77,u 78,u 79,u 80,u 81],[]⟩
def uQ(b c i:Nat)(d:Ç)(j:Int)(a:ë):Prop:=∃u,a=uP b c i d j u
def tw(a b:Nat)(c:Ç)(i:Int)(u:Nat->Ç):ë:=⟨#[Å<|Ã ⟨a,0,Ä⟩,Å<|Ã ⟨b,0,Ä⟩,u 2,u 3,u 4,c,u 6,u 7,u 8,u 9,u 10,Â Ë i,u 12,u 13,u 14,u 15,u 16,u 17,u 18,u 19,u 20,u 21,u 22,u 23,u 24,u 25,u 26,u 27,u 28,u 29,u 30,u 31,u 32,u 33,u 34,u 35,u 36,u 37,u 38,u 39,u 40,u 41,u 42,u 43,u 44,u 45,u 46,u 47,u 48,u 49,u 50,u 51,u 52,u 53,u 54,u 55,u 56,u 57,u 58,u 59,u 60,u 61,u 62,u 63,u 64,u 65,u 66,u 67,u 68,u 69,u 70,u 71,u 72,u 73,u 74,u 75,u 76,u 77,u 78,u 79,u 80,u 81],[]⟩
def vW(b c:Nat)(d:Ç)(i:Int)(a:ë):Prop:=∃u,a=tw b c d i u
section
variable{X:ë->É->Prop}{w0:É}{xs:List ByteArray}{s t:St}
def aoa(u:Nat->Ç)(b:∀a,uQ n j i v (16:Nat) a->X a w): Î À xZ (Exit.then K<|Q2 X) (uP n j i v (16:Nat) u) w:=by
 unfold uP;conv=>arg 2;whnf
 go_wp2_with fail
 exact b _ (gi _)
def aob(u:Nat->Ç)(b:Nat)(d:i<8)(e:b<16)(p:Int)(f:w.cell? ⟨n,i*18+2+b,Ä⟩=Ã (Â Æ p))(g:w.cell? ⟨j,i*18+2+b,Ä⟩=Ã (Â Æ p)) (c:∀a,uQ n j i v ((b+1:Nat):Int) a->K a w.drew): Î À xZ (Exit.then K<|Q2 X) (uP n j i v b u) w:=by
 unfold uP;conv=>arg 2;whnf
 have h:(0:Int)<=(b:Int):=Z
 have k:(b:Int)<16:=Z
 have H:=ff c;clear c;go_wp2_with fail;go_region;go_wp2_with fail;exact H.out _ (gi _)
def aoc(u:Nat->Ç)(d:ie w0 v xs w)(t:xs.length<=1000)(b:Nat)(x:i<8)(y:b<16)(p q:Int)(z:(p==q)=Ï)(B:w.cell? ⟨n,i*18+2+b,Ä⟩=Ã (Â Æ p))(C:w.cell? ⟨j,i*18+2+b,Ä⟩=Ã (Â Æ q)) (f:∀a g h,uQ n j i g ((b+1:Nat):Int) a->ie w0 g (xs++[iE i++DF b]) h->K a h): Î À xZ (Exit.then K<|Q2 X) (uP n j i v b u) w:=by
 unfold uP;conv=>arg 2;whnf
 have D:(0:Int)<=(b:Int):=Z
 have E:(b:Int)<16:=Z
 have F:Ë.wrap ((b:Int)+1)=(b:Int)+1:=by rw[î];omega
 have G:(0:Int)<=(b:Int)+1:=Z
 have I:(b:Int)+1<=16:=Z
 have J:(b:Int)<=(b:Int)+1:=Z
 have L:((b:Int)+1).toNat=b+1:=Z
 have M:¬9223372036854775807<(iE i).size+(DF b).size:=by have:=xY i;have:=aav b;omega
 have N:ÿ ⟨#[48,49,50,51,52,53,54,55,56,57,97,98,99,100,101,102]⟩ b (b+1)=DF b:=U;obtain⟨O,P,rfl⟩:=jh d.fq;let⟨Q,k,l,o,r⟩:=ò zY;have c:=ff<|Á k<|Á l<|Á o r;have H:=ff<|Á d f;clear d f k l o r;go_wp2_with fail;go_region;go_wp2_with (at_builtin;refine Df (base:=w0.heap.size) (n:=xs.length) (xs:=ji xs) (m:=1) U _ _ 25 U Ā c.out.1 c.out.2.1 c.out.2.2.1 c.out.2.2.2 U U ((H.out.1).fL kp).fq ⟨_,0,Ä⟩ [Í<|iE i++DF b] U Z U (ą _ _ _) (λu e=>by simp at e;subst e;rfl) (by unfold Č;omega) Z ((H.out.1).fL kp).r.M ?_;intro S T e;obtain⟨V,W,rfl⟩:=jh e.fq;have s:=ff<|((H.out.1).fL kp).C e;clear e);exact H.out.2 _ _ _ (gi _) s.out
def DJ(n j i:Nat)(w0:É)(xs:List ByteArray)(s t:St)(a:ë)(w:É):Prop:=
 ∃(b:Nat) (v:Ç),uQ n j i v b a/\b<=16/\ie w0 v (xs++qw s t i b) w
def vY(n j i:Nat)(w0:É)(xs:List ByteArray)(s t:St)(a:ë)(w:É):Prop:=
 ∃(v:Ç),uQ n j i v (16:Nat) a/\ie w0 v (xs++qw s t i 16) w
def Nx(a:ë)(_:É):Nat:=match a.tmps.getD 54 Ĉ with
 |Â _ i=>16-i.toNat
 |_=>0
def TY(c:uQ n j i v b y):Nx y w=16-b:=by obtain⟨u,rfl⟩:=c;show 16-(b:Int).toNat=_;simp
def aod(o:mh n s h w0)(p:mh j t c w0)(e:i<8)(B:xs.length<=900)(a:ë)(w:É)(r:DJ n j i w0 xs s t a w): Î À xZ (Exit.then (λb g=>DJ n j i w0 xs s t b g/\Nx b g<Nx a w)<|Q2<|vY n j i w0 xs s t) a w:=by
 let⟨b,v,l,C,d⟩:=r;rw[TY l];obtain⟨u,rfl⟩:=l;by_cases x:b=16
 .subst x;exact aoa u λa q=>⟨v,q,d⟩
 .have m:=d.r.r ((o.gS e).2.2 b Z) id;have k:=d.r.r ((p.gS e).2.2 b Z) id;by_cases q:(s i).C b=(t i).C b
  .rw[<-q]at k;refine aob u b e Z _ m k λa f=>⟨⟨b+1,v,f,Z,?_⟩,by rw[TY f];omega⟩;rw[TW,DG,if_pos q,ù];exact d.fL<|fc.fR _ _
  .refine aoc u d (by rw[Ó];have:=Nw s t i b;omega) b e Z _ _ (by simpa using q) m k λa y g f z=>⟨⟨b+1,y,f,Z,?_⟩,by rw[TY f];omega⟩;rwa[TW,DG,if_neg q,<-þ]
def aoe(u:Nat->Ç)(b:∀a,vW n j v (8:Nat) a->X a w): Î À zZ (Exit.then K<|QQ X) (tw n j v (8:Nat) u) w:=by
 unfold tw;conv=>arg 2;whnf
 go_wp2_with fail
 exact b _ (gi _)
def aof(u:Nat->Ç)(d:ie w0 v xs w)(E:xs.length<=800)(F:i<8)(b h:Int)(p k:ByteArray)(G:(b==h)=Ý)(I:(p.toList==k.toList)=Ý)(l:w0.cell? ⟨n,i*18,Ä⟩=Ã (Â Æ b))(m:w0.cell? ⟨j,i*18,Ä⟩=Ã (Â Æ h))(f:w0.cell? ⟨n,i*18+1,Ä⟩=Ã (Í p))(g:w0.cell? ⟨j,i*18+1,Ä⟩=Ã (Í k)) (L:∀a e W,uQ n j i e (0:Nat) a->ie w0 e xs W->Î À (ã xZ) (Q2<|vY n j i w0 xs s t) a W) (o:∀a e q,vW n j e ((i+1:Nat):Int) a->ie w0 e (xs++qw s t i 16) q->K a q): Î À zZ (Exit.then K<|QQ X) (tw n j v i u) w:=by
 unfold tw;conv=>arg 2;whnf
 have J:=d.r.r l id;have M:=d.r.r m id;have N:=d.r.r f id;have O:=d.r.r g id;have P:(0:Int)<=(i:Int):=Z
 have S:(i:Int)<8:=Z
 have T:Ë.wrap ((i:Int)+1)=(i:Int)+1:=by rw[î];omega
 have V:(0:Int)<=(i:Int)+1:=Z
 have Y:(i:Int)+1<=8:=Z
 have qT:(i:Int)<=(i:Int)+1:=Z
 have uB:((i:Int)+1).toNat=i+1:=Z
 have xO:¬9223372036854775807<(iE i).size+1:=by have:=xY i;omega
 have T0:ÿ ⟨#[97,98,99,100,101,102,103,104]⟩ i (i+1)=iE i:=U;obtain⟨ta,tc,rfl⟩:=jh d.fq;let⟨i0,r,x,y,z⟩:=ò zY;have HI:=ff<|Á r<|Á x<|Á y z;have H:=ff<|Á d<|Á f<|Á g<|Á L o;clear d r x y z L o l m f g;go_wp2_with fail;go_region;go_wp2_with fail;go_region;go_wp2_with fail;go_region;go_wp2_with fail;refine à (Q:=Q2<|vY n j i w0 xs s t) ?_ (H.out.2.2.2.1 _ _ _ (gi _)<|(H.out.1).fL kp);rintro(_|(_|_|_|_)|_|_|_|_) a c hq;all_goals first|exact absurd hq id|skip
 let⟨T1,C,B⟩:=hq;obtain⟨c,rfl⟩:=C;unfold uP;have D:=ff B;clear B;go_wp2_with fail;exact H.out.2.2.2.2 _ _ _ (gi _) D.out
def aog(u:Nat->Ç)(d:ie w0 v xs w)(G:xs.length<=800)(I:i<8)(b l:Int)(p o:ByteArray)(J:(b==l)=Ý)(M:(p.toList==o.toList)=Ï)(q:w0.cell? ⟨n,i*18,Ä⟩=Ã (Â Æ b))(r:w0.cell? ⟨j,i*18,Ä⟩=Ã (Â Æ l))(h:w0.cell? ⟨n,i*18+1,Ä⟩=Ã (Í p))(k:w0.cell? ⟨j,i*18+1,Ä⟩=Ã (Í o)) (L:∀a e W,uQ n j i e (0:Nat) a->ie w0 e (xs++[iE i++⟨#[123]⟩]) W->Î À (ã xZ) (Q2<|vY n j i w0 (xs++[iE i++⟨#[123]⟩]) s t) a W) (x:∀a e y,vW n j e ((i+1:Nat):Int) a->ie w0 e ((xs++[iE i++⟨#[123]⟩])++qw s t i 16) y->K a y): Î À zZ (Exit.then K<|QQ X) (tw n j v i u) w:=by
 unfold tw;conv=>arg 2;whnf
 have N:=d.r.r q id;have O:=d.r.r r id;have P:=d.r.r h id;have S:=d.r.r k id;have T:(0:Int)<=(i:Int):=Z
 have V:(i:Int)<8:=Z
 have Y:Ë.wrap ((i:Int)+1)=(i:Int)+1:=by rw[î];omega
 have Fs:(0:Int)<=(i:Int)+1:=Z
 have zf:(i:Int)+1<=8:=Z
 have qT:(i:Int)<=(i:Int)+1:=Z
 have uB:((i:Int)+1).toNat=i+1:=Z
 have xO:¬9223372036854775807<(iE i).size+1:=by have:=xY i;omega
 have T0:ÿ ⟨#[97,98,99,100,101,102,103,104]⟩ i (i+1)=iE i:=U;obtain⟨ta,tc,rfl⟩:=jh d.fq;let⟨i0,z,B,C,D⟩:=ò zY;have f:=ff<|Á z<|Á B<|Á C D;have H:=ff<|Á d<|Á h<|Á k<|Á L x;clear d z B C D L x q r h k;go_wp2_with fail;go_region;go_wp2_with fail;go_region;go_wp2_with fail;go_region;go_wp2_with (at_builtin;refine Df (base:=w0.heap.size) (n:=xs.length) (xs:=ji xs) (m:=1) U _ _ 25 U Ā f.out.1 f.out.2.1 f.out.2.2.1 f.out.2.2.2 U U ((H.out.1).fL kp).fq ⟨_,0,Ä⟩ [Í<|iE i++⟨#[123]⟩] U Z U (λc u g=>fc.r (X:=λ_=>False) kp (ą w (Í<|iE i++⟨#[123]⟩) 9 c u g) id) (λu g=>by simp at g;subst g;rfl) (by unfold Č;omega) Z ((H.out.1).fL kp).r.M ?_;intro E F c;obtain⟨ta2,tc2,rfl⟩:=jh c.fq;have g:=ff<|((H.out.1).fL kp).C c;clear c);refine à (Q:=Q2<|vY n j i w0 (xs++[iE i++⟨#[123]⟩]) s t) ?_ (H.out.2.2.2.1 _ _ _ (gi _)<|(g.out).fL kp);rintro(_|(_|_|_|_)|_|_|_|_) a c hq;all_goals first|exact absurd hq id|skip
 let⟨T1,E,g⟩:=hq;obtain⟨c,rfl⟩:=E;unfold uP;have F:=ff g;clear g;go_wp2_with fail;exact H.out.2.2.2.2 _ _ _ (gi _) F.out
def aoh(u:Nat->Ç)(d:ie w0 v xs w)(I:xs.length<=800)(J:i<8)(b l:Int)(p o:ByteArray)(M:(b==l)=Ï)(N:(p.toList==o.toList)=Ý)(q:w0.cell? ⟨n,i*18,Ä⟩=Ã (Â Æ b))(r:w0.cell? ⟨j,i*18,Ä⟩=Ã (Â Æ l))(h:w0.cell? ⟨n,i*18+1,Ä⟩=Ã (Í p))(k:w0.cell? ⟨j,i*18+1,Ä⟩=Ã (Í o)) (L:∀a e W,uQ n j i e (0:Nat) a->ie w0 e (xs++[iE i++⟨#[36]⟩]) W->Î À (ã xZ) (Q2<|vY n j i w0 (xs++[iE i++⟨#[36]⟩]) s t) a W) (x:∀a e y,vW n j e ((i+1:Nat):Int) a->ie w0 e ((xs++[iE i++⟨#[36]⟩])++qw s t i 16) y->K a y): Î À zZ (Exit.then K<|QQ X) (tw n j v i u) w:=by
 unfold tw;conv=>arg 2;whnf
 have O:=d.r.r q id;have P:=d.r.r r id;have S:=d.r.r h id;have T:=d.r.r k id;have V:(0:Int)<=(i:Int):=Z
 have Y:(i:Int)<8:=Z
 have oG:Ë.wrap ((i:Int)+1)=(i:Int)+1:=by rw[î];omega
 have Fs:(0:Int)<=(i:Int)+1:=Z
 have zf:(i:Int)+1<=8:=Z
 have qT:(i:Int)<=(i:Int)+1:=Z
 have uB:((i:Int)+1).toNat=i+1:=Z
 have xO:¬9223372036854775807<(iE i).size+1:=by have:=xY i;omega
 have T0:ÿ ⟨#[97,98,99,100,101,102,103,104]⟩ i (i+1)=iE i:=U;have CK:(xs++[iE i++⟨#[36]⟩]).length=xs.length+1:=fj
 obtain⟨ta,tc,rfl⟩:=jh d.fq;let⟨i0,z,B,C,D⟩:=ò zY;have f:=ff<|Á z<|Á B<|Á C D;have H:=ff<|Á d<|Á h<|Á k<|Á L x;clear d z B C D L x q r h k;go_wp2_with fail;go_region;go_wp2_with fail;go_region;go_wp2_with (at_builtin;refine Df (base:=w0.heap.size) (n:=xs.length) (xs:=ji xs) (m:=1) U _ _ 25 U Ā f.out.1 f.out.2.1 f.out.2.2.1 f.out.2.2.2 U U ((H.out.1).fL kp).fq ⟨_,0,Ä⟩ [Í<|iE i++⟨#[36]⟩] U Z U (λc u g=>fc.r (X:=λ_=>False) kp (ą w (Í<|iE i++⟨#[36]⟩) 9 c u g) id) (λu g=>by simp at g;subst g;rfl) (by unfold Č;omega) Z ((H.out.1).fL kp).r.M ?_;intro E F c;obtain⟨G,tc1,rfl⟩:=jh c.fq;have g:=ff<|((H.out.1).fL kp).C c;clear c);have d3:=g.out.r.r H.out.2.1 id;have d4:=g.out.r.r H.out.2.2.1 id;go_region;go_wp2_with fail;refine à (Q:=Q2<|vY n j i w0 (xs++[iE i++⟨#[36]⟩]) s t) ?_ (H.out.2.2.2.1 _ _ _ (gi _)<|(g.out).fL kp);rintro(_|(_|_|_|_)|_|_|_|_) a c hq;all_goals first|exact absurd hq id|skip
 let⟨T1,F,E⟩:=hq;obtain⟨c,rfl⟩:=F;unfold uP;have G:=ff E;clear E;go_wp2_with fail;exact H.out.2.2.2.2 _ _ _ (gi _) G.out
def aoi(u:Nat->Ç)(f:ie w0 v xs w)(N:xs.length<=800)(O:i<8)(b q:Int)(p r:ByteArray)(P:(b==q)=Ï)(S:(p.toList==r.toList)=Ï)(x:w0.cell? ⟨n,i*18,Ä⟩=Ã (Â Æ b))(y:w0.cell? ⟨j,i*18,Ä⟩=Ã (Â Æ q))(k:w0.cell? ⟨n,i*18+1,Ä⟩=Ã (Í p))(l:w0.cell? ⟨j,i*18+1,Ä⟩=Ã (Í r)) (L:∀a g W,uQ n j i g (0:Nat) a->ie w0 g ((xs++[iE i++⟨#[36]⟩])++[iE i++⟨#[123]⟩]) W->Î À (ã xZ) (Q2<|vY n j i w0 ((xs++[iE i++⟨#[36]⟩])++[iE i++⟨#[123]⟩]) s t) a W) (z:∀a g B,vW n j g ((i+1:Nat):Int) a->ie w0 g (((xs++[iE i++⟨#[36]⟩])++[iE i++⟨#[123]⟩])++qw s t i 16) B->K a B): Î À zZ (Exit.then K<|QQ X) (tw n j v i u) w:=by
 unfold tw;conv=>arg 2;whnf
 have T:=f.r.r x id;have V:=f.r.r y id;have Y:=f.r.r k id;have c4:=f.r.r l id;have e0:(0:Int)<=(i:Int):=Z
 have e1:(i:Int)<8:=Z
 have oG:Ë.wrap ((i:Int)+1)=(i:Int)+1:=by rw[î];omega
 have Fs:(0:Int)<=(i:Int)+1:=Z
 have zf:(i:Int)+1<=8:=Z
 have qT:(i:Int)<=(i:Int)+1:=Z
 have uB:((i:Int)+1).toNat=i+1:=Z
 have xO:¬9223372036854775807<(iE i).size+1:=by have:=xY i;omega
 have T0:ÿ ⟨#[97,98,99,100,101,102,103,104]⟩ i (i+1)=iE i:=U;have G:(xs++[iE i++⟨#[36]⟩]).length=xs.length+1:=fj
 obtain⟨ta,tc,rfl⟩:=jh f.fq;let⟨i0,C,D,E,F⟩:=ò zY;have e:=ff<|Á C<|Á D<|Á E F;have H:=ff<|Á f<|Á k<|Á l<|Á L z;clear f C D E F L z x y k l;go_wp2_with fail;go_region;go_wp2_with fail;go_region;go_wp2_with (at_builtin;refine Df (base:=w0.heap.size) (n:=xs.length) (xs:=ji xs) (m:=1) U _ _ 25 U Ā e.out.1 e.out.2.1 e.out.2.2.1 e.out.2.2.2 U U ((H.out.1).fL kp).fq ⟨_,0,Ä⟩ [Í<|iE i++⟨#[36]⟩] U Z U (λc u d=>fc.r (X:=λ_=>False) kp (ą w (Í<|iE i++⟨#[36]⟩) 9 c u d) id) (λu d=>by simp at d;subst d;rfl) (by unfold Č;omega) Z ((H.out.1).fL kp).r.M ?_;intro J I o;obtain⟨M,tc1,rfl⟩:=jh o.fq;have h:=ff<|((H.out.1).fL kp).C o;clear o);have d3:=h.out.r.r H.out.2.1 id;have d4:=h.out.r.r H.out.2.2.1 id;go_region;go_wp2_with (at_builtin;refine Df (base:=w0.heap.size) (n:=(xs++[iE i++⟨#[36]⟩]).length) (xs:=ji<|xs++[iE i++⟨#[36]⟩]) (m:=1) U _ _ 25 U Ā e.out.1 e.out.2.1 e.out.2.2.1 e.out.2.2.2 U U ((h.out).fL kp).fq ⟨_,0,Ä⟩ [Í<|iE i++⟨#[123]⟩] U Z U (λc u d=>fc.r (X:=λ_=>False) kp (ą I (Í<|iE i++⟨#[123]⟩) 9 c u d) id) (λu d=>by simp at d;subst d;rfl) (by unfold Č;omega) Z ((h.out).fL kp).r.M ?_;intro d o c;obtain⟨J,M,rfl⟩:=jh c.fq;have I:=ff<|((h.out).fL kp).C c;clear c);have d:=I.out;rw[G]at d;refine à (Q:=Q2<|vY n j i w0 ((xs++[iE i++⟨#[36]⟩])++[iE i++⟨#[123]⟩]) s t) ?_ (H.out.2.2.2.1 _ _ _ (gi _)<|(d).fL kp);rintro(_|(_|_|_|_)|_|_|_|_) a c hq;all_goals first|exact absurd hq id|skip
 let⟨T1,J,o⟩:=hq;obtain⟨c,rfl⟩:=J;unfold uP;have M:=ff o;clear o;go_wp2_with fail;exact H.out.2.2.2.2 _ _ _ (gi _) M.out
def DO(n j:Nat)(w0:É)(s t:St)(a:ë)(w:É):Prop:=
 ∃(i:Nat) (v:Ç),vW n j v i a/\i<=8/\ie w0 v (pC s t i) w
def T3(n j:Nat)(w0:É)(s t:St)(a:ë)(w:É):Prop:=
 ∃(v:Ç),vW n j v (8:Nat) a/\ie w0 v (pC s t 8) w
def JD(a:ë)(_:É):Nat:=match a.tmps.getD 11 Ĉ with
 |Â _ i=>8-i.toNat
 |_=>0
def aaw(b:vW n j v i y):JD y w=8-i:=by obtain⟨u,rfl⟩:=b;show 8-(i:Int).toNat=_;simp
def aoj(B:mh n s h w0)(C:mh j t c w0)(a:ë)(w:É)(E:DO n j w0 s t a w): Î À zZ (Exit.then (λq g=>DO n j w0 s t q g/\JD q g<JD a w)<|QQ<|T3 n j w0 s t) a w:=by
 let⟨i,v,D,H,l⟩:=E;rw[aaw D];obtain⟨u,rfl⟩:=D;by_cases F:i=8
 .subst F;exact aoe u λa q=>⟨v,q,l⟩
 have k:i<8:=Z
 have I:=TX s t i;let⟨m,o,_⟩:=B.gS k;let⟨p,r,_⟩:=C.gS k;have L:∀q:List ByteArray,q.length<=900->∀a b W,uQ n j i b (0:Nat) a->ie w0 b q W->Î À (ã xZ) (Q2<|vY n j i w0 q s t) a W:=λq y a b W G z=>
  ď (DJ n j i w0 q s t) Nx ⟨0,b,G,Z,by show ie w0 b (q++[]) W;rwa[ù]⟩<|aod B C k y
 have x:∀q:List ByteArray,pC s t i++vV (s i).fu (t i).fu (s i).r (t i).r i=q->∀a b g,vW n j b ((i+1:Nat):Int) a->ie w0 b (q++qw s t i 16) g->DO n j w0 s t a g/\JD a g<8-i:=λq y a b g f z=>⟨⟨i+1,b,f,Z,by rwa[aau,xW,<-þ,y]⟩,by rw[aaw f];omega⟩;by_cases d:(s i).fu=(t i).fu<;>by_cases e:(s i).r.toList=(t i).r.toList
 .exact aof u l Z k _ _ _ _ (by simpa using d) (by simpa using e) m p o r (L _ Z)<|x _<|by unfold vV;rw[if_pos d,if_pos e,ù,ù]
 .exact aog u l Z k _ _ _ _ (by simpa using d) (by simpa using e) m p o r (L _<|by rw[Ó];simp;omega)<|x _<|by unfold vV;rw[if_pos d,if_neg e,Ř]
 .exact aoh u l Z k _ _ _ _ (by simpa using d) (by simpa using e) m p o r (L _<|by rw[Ó];simp;omega)<|x _<|by unfold vV;rw[if_neg d,if_pos e,ù]
 .exact aoi u l Z k _ _ _ _ (by simpa using d) (by simpa using e) m p o r (L _<|by rw[Ó,Ó];simp;omega)<|x _<|by unfold vV;rw[if_neg d,if_neg e,þ]
def aol(b:mh n s h w)(d:mh j t c w): Ô À 126 #[Å<|Ã ⟨n,0,Ä⟩,Å<|Ã ⟨j,0,Ä⟩] w λe a=>∃v,e=È v/\ie w v (pC s t 8) a:=by
 have L:∀a,vW n j (Ê Ä 0 0) (0:Nat) a->Î À (ã zZ) (QQ<|T3 n j w s t) a w:=λa f=>
  ď (DO n j w s t) JD ⟨0,_,f,å _,ie.M w<|fc.fT _ _⟩<|aoj b d
 have H:=ff L;clear L b d;go_enter Tryz.func126,Tryz.ntmps126;go_wp2_with fail;refine à (Q:=QQ<|T3 n j w s t) ?_ (H.out _ (gi _));rintro(_|(_|_)|_|_|_|_) a v hq;all_goals first|exact absurd hq id|skip
 let⟨k,g,e⟩:=hq;obtain⟨u,rfl⟩:=g;unfold tw;have i:=ff e;clear e;go_wp2_with fail;go_ret;exact⟨_,U,i.out⟩
end
def aom:(À.info? 5).map (λi=>(i.zero,i.size,i.bytes))=Ã (Ã<|Â br 0,1,1):=ft
def fc.G(d:X p.block)(n:Nat):fc X w (w.freeze p n):=by
 by_cases b:n=0
 .rw[ĕ,if_pos b];exact fc.fT _ _
 rw[ĕ,if_neg b];refine⟨fj,λk _ f=> ?_,λa i o h=> ?_,λ_ a=>by have:=L_ a p n;rwa[ĕ,if_neg b]at this⟩
 .simp only[Ú];rw[if_neg λ(e:p.block=k)=>f<|e▸d]
 .simp only[Ú]at h;split at h
  .cases e:w.heap[i]? with
   |none=>rw[e]at h;cases h
   |some g=>
    have:=a _ _ e;rw[e]at h;cases g with
    |cells c t z=>simp only[ì,ê]at h;subst h;exact λx=>x
    |_=>exact absurd trivial this
  .exact a i o h
def aax:(À.info? 109).map (·.size)=Ã 2:=ft
def aon:liesAt À À.depth 109 (2/À.cellsOf 109) 0 109 1=Ý:=ft
def aoo(b:Nat)(w:É)(d:w.cell? ⟨b,0,Ä⟩=Ã (Å<|Ã ⟨b,0,Ä⟩)):Ô À 78 #[Å<|Ã ⟨b,0,Ä⟩] w λe a=>e=È (é #[])/\a=w:=by let⟨j,c,_⟩:=Ì.1 aax;go_enter aZ,aT;go_wp2;rw[Lib.run_neq_ptr_same w _ ŀ c];go_wp2;go_end0;exact⟨U,U⟩
def aop(b:Nat)(w:É)(g:w.cell? ⟨b,0,Ä⟩=Ã (Å Ä))(a:w.shape? b=Ã (109,2))(h:w.frozen? ⟨b,0,Ä⟩=Ï):Ô À 78 #[Å<|Ã ⟨b,0,Ä⟩] w λe d=>e=È (é #[])/\d=w.setCell ⟨b,0,Ä⟩ (Å<|Ã ⟨b,0,Ä⟩):=by let⟨j,c,f⟩:=Ì.1 aax;go_enter aZ,aT;go_wp2;rw[Lib.run_to_unsafe w ⟨b,0,Ä⟩ ŀ Ÿ c (by rw[f];decide) a<|Nat.zero_lt_succ 1];simp only[Ľ];rw[İ];go_wp2;rw[Ű Tryz.func129 ft ft ft ft];rw[Lib.run_noEscape];simp only[Ľ];rw[İ];go_wp2;rw[Lib.run_from_unsafe w ⟨b,0,Ä⟩ Ÿ ŀ c a aon];simp only[Ľ];rw[İ];go_wp2;go_end0;exact⟨U,U⟩
def aay{base:Nat}{u j:ú}(k:P.underlying t=Ã (bJ e))(p:P.underlying u=Ã .string)(r:P.info? e=Ã zJ)(I:zJ.zero=Ã (Â br 0)) (D:zJ.size=1) (J:zJ.bytes=1) (E:w.ownsRow base e 1 v n l) (s:ByteArray) (K:n+s.size<=Č) (Q:n+s.size<=140737488355328) (f:(ŗ #[t,u] j #[v,Í s]).run P w=ay z W) (F:mb e=Ï):(j5 w->j5 W)/\(∀m,rR m w->rR m W):=by
 have S:n+s.size<=9223372036854775807:=by simp only[Č]at K;omega
 have L:l.length=n:=by simpa using E.1
 rcases E.2 with⟨rfl,rfl⟩|⟨g,y,B,rfl,V,G,X,Y,M,htake⟩
 .by_cases C:s.size=0
  .have a:=Lib.run_firstCells_string (P:=P) w 1 s;rw[C]at a;simp[ŗ,Ũ k,Ũ p,sizeOf,typeInfo,r,D,bN,C,a]at f;rw[<-f.2];exact⟨id,λ_=>id⟩
  .have d:=run_append_nil_string w t u j e zJ (Â br 0) k p r I s Z Z (by rw[J];omega);rw[f]at d;cases d;exact⟨λa=>IZ a _ _ _,λ_ a=>I1 a _ _ _<|Û F⟩
 .by_cases N:n+s.size<=y
  .have atQ:B.size=y:=by simpa using M
   have d:=Lib.run_append_room_string w t u j e zJ k p r D g n y B G s N Z;rw[f]at d;cases d;refine⟨λa q o b=> ?_,λm a q c T O C b H=> ?_⟩
   .by_cases h:q=g
    .subst h;rw[Ĩ w q B _ e _ G]at b;cases b;exact λx=>x
    .rw[Ġ w g q _ h]at b;exact a q o b
   .by_cases h:q=g
    .subst h;rw[Ĩ w q B _ e _ G]at b;cases b;rw[F]at H;cases H
    .rw[Ġ w g q _ h]at b;exact a q c T O C b H
  .have b:=E.cells U;have d:=Lib.run_append_grow_string w t u j e zJ (Â br 0) k p r I ⟨g,0,Ä⟩ n y l (by rw[D];simpa using L) b s Z Z (by rw[J];exact Ť Z Z);rw[f]at d;cases d;exact⟨λa=>IZ a _ _ _,λ_ a=>I1 a _ _ _<|Û F⟩
def aoq{P:Program}{ops:Array Oper}{rest:List Oper}{o:Oper}{a:Act}{Q:Exit->Act->World->Prop}{w:World}(SH:o.guard=none)(sl x:Operand)(t u:TypeId) (ho:o.op=.call {callee:=.builtin .append,args:=#[sl,x],argTypes:=#[t,u]}) {base:Nat} {e:TypeId} {i:TypeInfo} (ht:P.underlying t=some (.slice e)) (hu:P.underlying u=some .string) (hi:P.info? e=some i) (hz:i.zero=some (.int .u8 0)) (xF:i.size=1) (xG:i.bytes=1) {v:Value} {n:Nat} {xs:List Value} (hs:a.eval sl=v) (lD:w.ownsRow base e 1 v n xs) (s:ByteArray) (hx:a.eval x=.string s) (Dg:n+s.size<=maxLen) (Dh:n+s.size<=140737488355328) (xH:base<=w.heap.size) (h:∀v' w',w'.ownsRow base e 1 v' (n+s.size) (xs++Lib.strCells s)->fc (λk=>v.ownBlock=some k) w w'->wpList P ops Q rest (a.put o.dst v') w') (hT:mb e=false:=by decide):wpList P ops Q (o::rest) a w:=by refine Ż SH λK hK=> ?_;let⟨v',w',hr,h2,h3,_⟩:=Lib.run_append_own_string w base t u o.type e i ht hu hi hz xF xG v n xs lD s Dg Dh xH;have kp:fc (λk=>v.ownBlock=Ã k) w w':=⟨h3.size,λk hk q=>h3.block k hk λe=>q e.symm,(aay ht hu hi hz xF xG lD s Dg Dh hr hT).1,(aay ht hu hi hz xF xG lD s Dg Dh hr hT).2⟩;unfold Ŏ į;simp only[ho,aC,bk,aD,ż,Ž,Ł,ĉ,Ě,ġ,hs,hx,hr];exact hK _ _<|h v' w' h2 kp
structure oS(w0:É)(b:Nat)(bs:List Ç)(w:É):Prop where
 I:w0.heap.size<=b
 r:fc (λ_=>False) w0 w
 C:∃v,fh b [Å<|Ã ⟨b,0,Ä⟩,v] 109 w/\w.ownsRow w0.heap.size 5 1 v bs.length bs
def oS.fL(h:oS u b l w)(k:fc (λ_=>False) w W):oS u b l W:=by let⟨v,a,c⟩:=h.C;exact⟨h.I,h.r.fg k,v,a.I k id,ic c k λ_ _=>id⟩
def T4(h:oS u b l w)(s:ByteArray)(m:l.length+s.size<=140737488355328): Ô À 55 #[Å<|Ã ⟨b,0,Ä⟩,Í s] w λe i=>e=È (é #[Â Ë s.size,.nilIface])/\oS u b (l++Lib.strCells s) i:=by
 let⟨B,c,n,o,p⟩:=ò aom;let⟨v,a,d⟩:=h.C;obtain⟨C,D,rfl⟩:=jh d;have t:=a.r 0 _ U;have E:=a.r 1 _ U;have x:=h.r.M;have y:=jA d a A;have H:=ff<|Á h<|Á c<|Á n<|Á o<|Á p<|Á a d;go_enter Tryz.func55,Tryz.ntmps55;go_wp2_with (first
  |(go_at_call 78;refine(aoo b _ t).mono ?_;rintro e i ⟨rfl,j⟩;subst i)
  |(at_builtin;refine aoq U _ _ 107 9 U Ă Ė H.out.2.1 H.out.2.2.1 H.out.2.2.2.1 H.out.2.2.2.2.1 U H.out.2.2.2.2.2.2 s U (by unfold Č;omega) m x ?_;intro g f j k;obtain⟨q,r,rfl⟩:=jh j;have i:=H.out.2.2.2.2.2.1.I k y;have z:=i.r 0 _ U;have F:=i.r 1 _ U;have G:=i.C 1;have e:=ff (Á k (Á i j));clear k i j))
 go_ret2;have z:=e.out.2.1.fZ 1<|Ê q (l.length+s.size) r;have g:fc (λk=>k=b) f (f.setCell ⟨b,1,Ä⟩<|Ê q (l.length+s.size) r):=fc.I (X:=λk=>k=b) U _<|Ü e.out.2.1.G;refine⟨U,H.out.1.I,(H.out.1.r.C e.out.1 λi c q=> ?_).C g λi c q=> ?_,_,z,?_⟩
 .have:=(H.out.2.2.2.2.2.2.lt i q).1;omega
 .have:=H.out.1.I;omega
 .have:=ic e.out.2.2 g λj q r=>jA e.out.2.2 e.out.2.1 A (by rw[q,r]);rw[Ó,Lib.strCells_length];exact this
def aor:(À.info? 5).map (·.size)=Ã 1:=ft
def aos:À.cellsOf 5=1:=ft
structure JF(w0:É)(b:Nat)(p:Ç)(w:É):Prop where
 C:w0.heap.size<=b
 I:fc (λ_=>False) w0 w
 r:fh b [p,Ê Ä 0 0] 109 w
section
variable{w0:É}{p:Ç}
def JF.EO(h:JF w0 b (Å<|Ã ⟨b,0,Ä⟩) w)(f:d.size<=Č):oS w0 b [] ((w.alloc<|Ð d 5).setCell ⟨b,1,Ä⟩<|Ê (Ã ⟨w.heap.size,0,Ä⟩) 0 d.size).drew.drew.drew:=by have a:=fc.gE (λ_=>False) w d 5;have c:fc (λk=>k=b) (w.alloc<|Ð d 5) ((w.alloc<|Ð d 5).setCell ⟨b,1,Ä⟩<|Ê (Ã ⟨w.heap.size,0,Ä⟩) 0 d.size):=fc.I (X:=λk=>k=b) U _<|Ü (h.r.I a id).G;have k:=(h.r.I a id).fZ 1<|Ê (Ã ⟨w.heap.size,0,Ä⟩) 0 d.size;have m:=h.r.M;have g:(w.alloc<|Ð d 5).ownsRow w0.heap.size 5 1 (Ê (Ã ⟨w.heap.size,0,Ä⟩) 0 d.size) 0 []:= ⟨U,Ü ⟨w.heap.size,d.size,d,U,h.I.M,ð w _,å _,f,fj,fj⟩⟩;have l:oS w0 b [] ((w.alloc<|Ð d 5).setCell ⟨b,1,Ä⟩<|Ê (Ã ⟨w.heap.size,0,Ä⟩) 0 d.size):= ⟨h.C,(h.I.fg a).C c λi n q=>by have:=h.C;omega,_,k,ic g c λj q r=>by cases q;have e:w.heap.size=b:=r;omega⟩;exact((l.fL<|fc.fR _ _).fL<|fc.fR _ _).fL<|fc.fR _ _
def aot(h:JF w0 b (Å<|Ã ⟨b,0,Ä⟩) w)(n:Nat)(j:n<=281474976710656): Ô À 79 #[Å<|Ã ⟨b,0,Ä⟩,Â Ë n] w λe c=>e=È (é #[])/\oS w0 b [] c:=by
 let⟨a,g,o,k⟩:=Lib.run_makeNoZero w.drew #[3] 107 5 Ă n j;have i:Ë.wrap (Ë.wrap 0+(n:Int))=n:=by rw[î,î];omega
 have p:(callFunc 130 #[Â Ë<|Ë.wrap<|Ë.wrap 0+(n:Int)]).run À w.drew=ay (.value<|Ê (Ã ⟨w.drew.heap.size,0,Ä⟩) n a.size) (w.drew.drew.drew.alloc<|Ð a 5):=by rw[i,Ű Tryz.func130 ft ft ft ft,g];rfl
 have e:=ff (Á (show w.drew.cell? ⟨b,1,Ä⟩=Ã (Ê Ä 0 0)from h.r.r 1 _ rfl) trivial);have d:=h.r.I (fc.gE (λ_=>False) w a 5) id;have l:=d.r 1 _ U;have f:=l;have q:=d.C 1;have r:∀W:É,(ah #[107,107] 3 #[Ê (Ã ⟨w.heap.size,0,Ä⟩) 0 a.size,Ê Ä 0 0]).run À W=ay (goInt 0) W:= λW=>run_copy_none W 107 107 3 5 _ _ 0 a.size 0 0 Ă aor U;have m:=ff (h.EO<|k<|by unfold Č;omega);clear i h d g;go_enter Tryz.func79,Tryz.ntmps79;go_wp2;refine mf (λc=>c.cell? ⟨b,1,Ä⟩=Ã (Ê Ä 0 0)/\True) [] ft ?_;refine tk 0 e.out ?_;refine tk 1 e.out ?_;refine tk 2 e.out ?_;refine tk 3 e.out ?_;refine tk 4 e.out ?_;refine tk 5 e.out ?_;refine tk 6 e.out ?_;refine tk 7 e.out ?_;refine tk 9 e.out ?_;refine tk 10 e.out ?_;refine tk 11 e.out ?_;refine tk 12 e.out ?_;refine tk 13 e.out ?_;refine gD 8 ?_;intro K c;go_simp;refine c.out _ _ (λ_=>⟨f,trivial⟩) ?_;refine gD 14 ?_;intro K c;go_simp;refine c.out _ _ (λ_=>⟨f,trivial⟩) ?_;refine gD 15 ?_;intro K c;go_simp;refine c.out _ _ (λ_=>⟨f,trivial⟩) ?_;refine lS ft ?_ _;go_wp2;go_end0;exact⟨U,m.out⟩
def aou(h:JF w0 b (Å Ä) w)(n:Nat)(l:0<n)(d:n<=281474976710656): Ô À 54 #[Å<|Ã ⟨b,0,Ä⟩,Â Ë n] w λe a=>e=È (é #[])/\oS w0 b [] a:=by
 have f:w.shape? b=Ã (109,2):=by have i:w.heap[b]?=_:=h.r;simp[Β,i]
 have c:=ff (show JF w0 b (Å<|Ã ⟨b,0,Ä⟩) (w.setCell ⟨b,0,Ä⟩<|Å<|Ã ⟨b,0,Ä⟩).drew from⟨h.C,(h.I.C (fc.I (X:=λk=>k=b) U _<|Ü h.r.G) λi k q=>by have:=h.C;omega).fg<|fc.fR _ _,(h.r.fZ 0 _).I (fc.fR (λ_=>False) _) id⟩);have i:=ff<|Á (c.out.r.r 1 _ rfl) trivial;have q:=h.r.r 0 _ U;have g:=h.r.C 0;have m:¬((n:Int)<0):=Z
 have o:(0:Int)<(n:Int):=Z
 have p:Ë.wrap 0<(n:Int):=by rw[î];omega
 go_enter Tryz.func54,Tryz.ntmps54;go_wp2_with (go_at_call 78;refine(aop b w q f g).mono ?_;rintro e a ⟨rfl,k⟩;subst a);refine mf (λa=>a.cell? ⟨b,1,Ä⟩=Ã (Ê Ä 0 0)/\True) [] ft ?_;apply tk 0 i.out;apply tk 1 i.out;apply tk 2 i.out;apply tk 3 i.out;apply tk 4 i.out;apply tk 5 i.out;apply tk 6 i.out;apply tk 7 i.out;apply tk 8 i.out;apply tk 9 i.out;apply tk 10 i.out;apply tk 11 i.out;apply tk 12 i.out;refine lS ft ?_ _;go_wp2_with (go_at_call 79;refine(aot c.out n d).mono ?_;rintro e a ⟨rfl,k⟩;have j:=ff k;clear k);go_end0;exact⟨U,j.out⟩
def aov{l:List UInt8}(h:oS w0 b (û l) w)(f:l≠[]): Ô À 56 #[Å<|Ã ⟨b,0,Ä⟩] w λe K=>e=È (Í ⟨l.toArray⟩)/\fc (λ_=>False) w0 K:=by
 let⟨v,m,d⟩:=h.C;have n:l.length≠0:=by simpa using f
 rw[ŧ]at d;obtain⟨g,a,c,rfl,t,o,u,s,y,z⟩:∃g a c,v=Ê (Ã ⟨g,0,Ä⟩) l.length a/\w0.heap.size<=g/\w.heap[g]?=Ã (Ð c 5 (0,0))/\l.length<=a/\a<=Č/\c.size=a*1/\c.toList.take (l.length*1)=û l:=by
  rcases d.2 with⟨_,e⟩|⟨g,a,c,i,r⟩
  .exact absurd e n
  .exact⟨g,a,c,i,r⟩
 have e:=ff (Á (show w.drew.cell? ⟨b,1,Ä⟩=Ã (Ê (Ã ⟨g,0,Ä⟩) l.length a)from m.r 1 _ rfl) trivial);have B:∀W:É,(ax #[107] 177 #[Ê (Ã ⟨g,0,Ä⟩) l.length a]).run À W=ay (Å<|Ã ⟨g,0,Ä⟩) W:=λW=>
  Lib.run_unsafeSliceData_row _ _ _ _ _ _ Z
 have C:(ş #[177,3] 9 #[Å<|Ã ⟨g,0,Ä⟩,Â Ë l.length]).run À w.drew=ay (Í ⟨l.toArray⟩) (w.drew.freeze ⟨g,0,Ä⟩ l.length):=by refine ņ w.drew 177 3 9 5 ŵ aos g c.size (by have i:w.drew.heap[g]?=Ã (Ð c 5 (0,0)):=o;simp[Β,i]) l f Z (by unfold Č at s;omega) ?_;intro j x i;have:=d.cells U j (Â br x.toNat) (by simp[û,i]);exact this
 have x:=ff ((h.r.fg<|fc.fR _ _).C (fc.G (X:=λk=>k=g) (p:=⟨g,0,Ä⟩) U l.length) λi j q=>by omega);have j:=ff (Á ((fc.G (X:=λk=>k=g) (p:=⟨g,0,Ä⟩) rfl l.length).r e.out.1 λq=>jA d m A<|by show Ã g=Ã b;rw[show g=b from(show b=g from q).symm]) trivial);go_enter Tryz.func56,Tryz.ntmps56;go_wp2;refine mf (λK=>K.cell? ⟨b,1,Ä⟩=Ã (Ê (Ã ⟨g,0,Ä⟩) l.length a)/\True) [] ft ?_;apply tk 0 e.out;apply tk 1 e.out;apply tk 2 e.out;apply tk 3 e.out;apply tk 4 e.out;apply tk 5 e.out;apply tk 6 e.out;apply tk 7 e.out;apply tk 8 e.out;apply tk 9 e.out;apply gD 10;intro K i;go_simp;apply i.out _ _ λ_=>j.out;apply gD 11;intro K i;go_simp;apply i.out _ _ λ_=>j.out;refine lS ft ?_ _;go_wp2;go_ret;exact⟨U,x.out⟩
end
end Go.Proofs.Y.gR
