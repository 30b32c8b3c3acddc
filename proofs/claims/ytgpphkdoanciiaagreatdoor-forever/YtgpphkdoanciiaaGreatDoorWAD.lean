import Derived.Test.YtgpphkdoanciiaaGreatDoorWAC
import Derived.Test.YtgpphkdoanciiaaGreatDoorChecked
import Derived.WalkKit
import Derived.WalkSpells
import Derived.WalkLawsBesides
import Derived.Deep.Light
import Derived.Maps.AppendAt
import Derived.RegionTactic
import Derived.Deep.RegionWith
import Derived.Deep.QuietTactic
import Derived.BigQuiet
import Derived.Deep.RegionHeld3
import Derived.WalkMore
import Derived.Deep.MidRow
import Derived.Great.Walk
import Derived.Lib.UnsafeStr
import Derived.Lib.BufferWrite
import Derived.Laws.Tables
import Derived.Laws.Bits64
import Derived.Shelf.Strconv.Itoa0
import Derived.Shelf.Strconv.Itoa1
import Derived.Shelf.LaysM
import Derived.Shelf.Strconv.Itoa2
import Derived.Shelf.Strconv.Itoa3
import Derived.Shelf.Strings.Repeat
import Derived.Shelf.Strings.OnBuilder
import Derived.Shelf.Strconv.Clone
import Derived.Shelf.Strings.Prefix
import Derived.Shelf.Bits.Mul64
import Derived.Test.YtgpphkdoanciiaaGreatDoorProg
import Derived.Lib.ItoaLen
set_option linter.all false
set_option maxRecDepth 1000000
set_option maxHeartbeats 8000000
open Go.Proofs.Tryz renaming prog->À,ntmps205->å,func205->ê,underlying25->ù,underlying107->ý,underlying9->đ,underlying3->Ě,underlying4->ě,zeroValue3->ħ,zeroValue4->Ĩ,zeroValue9->ĩ,underlying106->ĳ,underlying36->ĸ,ntmps170->ĺ,zeroValue36->ŀ,func170->Ņ,ntmps66->Ň,sizeOf3->ň,sizeOf4->ŉ,sizeOf9->Ŋ,func66->ś,isAgg3->Ŝ,isAgg4->ŝ,isAgg9->Ş,ntmps154->ť,ntmps113->Ŧ,sizeOf36->ŧ,underlying177->Ū,underlying168->Ŭ,underlying170->ŭ,func154->Ź,func187->ź,func113->Ż,zeroValue168->Ž,isAgg36->ž,underlying95->ſ,underlying0->Δ,underlying5->Ε,zeroValue95->Ζ,zeroValue0->Ρ,zeroValue5->Τ,sizeOf168->ε,ntmps209->η,ntmps210->θ,ntmps168->κ,ntmps196->ξ,ntmps169->ο,ntmps187->π,isAgg168->ρ,sizeOf95->ς,ntmps172->σ,func209->ag,func210->ai,func168->ak,func196->ar,func169->au,sizeOf0->ax,sizeOf5->ay,isAgg95->aA,func172->aB,ntmps78->aC,isAgg0->aG,isAgg5->aH,func78->aI,f161->aY
open And renaming intro->Á
open Go.Value renaming int->Â,pointer->Å,slice->Ê,string->Í,bool->Ñ,tuple->æ,agg->Ē,cells->ğ,ownBlock->Į
open Option renaming some->Ã,none->Ä,map_eq_some_iff->Ì,map_some->ñ,isSome_none->ũ,map->ū
open Go.IntKind renaming u64->Æ,i64->Ë,wrap_i64->ó,u8->aT,wrap_u64->aX
open Go.Ending renaming returned->Ç
open Go renaming Value->È,World->É,Calls->Ò,Act->é,heap_alloc_new->ì,info_parts->í,bodyPost_ret->ð,TypeId->õ,cell_one_new->ÿ,undef->ā,Addr->ă,maxLen->Ą,wp_loop->Ĉ,setRow_other->ė,setRow_heap->ĝ,execOp->Ĥ,wpList_load_mid->ĥ,all_oneCell_toArray->Ī,wpList_store_mid->ľ,Code->ŏ,grownCap->Œ,growslice_fits->ŕ,run_underlying->ř,Oper->ş,run_callFunc_extern->ţ,Operand->Ů,wpList_plain->ű,cell_two_new->ŵ,grownCap_ge->Θ,run_append_grow->Λ,run_loadVar_mid->Ν,ready_mono->Ω,wpOp_step->χ,resolve->ae,builtin->af,yielded->ah,results->aj,Ending->av,Program->aE,invoke->aO,wpList->aQ,Exit->aS
open Go.Code renaming wp->Î,wp_mono->Ý,loop->à,skip->Ķ
open Bool renaming false->Ï,true->Ú,false_eq_true->ĭ
open Go.Obj renaming cells->Ð
open List renaming length_append->Ó,getElem?_eq_getElem->Ô,setIfInBounds_toArray->Õ,getElem?_eq_some_iff->Ü,eq_nil_of_length_eq_zero->ß,set_cons_zero->ã,set_cons_succ->ä,getElem?_append_left->ç,append_nil->ò,mem_append->ú,getElem?_range->û,getElem?_append_right->ü,ext_getElem?->þ,size_toArray->ć,append_assoc->Ċ,range->ċ,drop_eq_getElem_cons->ē,length_set->ĕ,drop_eq_nil_of_le->Ę,set_append_left->Ğ,mem_of_getElem?->Ġ,getD_eq_getElem?_getD->Ĳ,getElem?_map->ķ,map_toArray->ļ,length_cons->Ľ,mem_map->ņ,range_succ->Ŏ,mem_append_left->œ,getElem?_set_ne->Ŗ,mem_cons_of_mem->Ś,flatMap_append->Ţ,map_cons->Ť,map_nil->Ŵ,take_add_one->Α,mem_flatMap->Β,length_nil->Μ,nil_append->Ξ,length_map->Ο,map_append->Υ
open Int renaming le_refl->Ö,toNat_of_nonneg->Ĕ,toNat_natCast->Ŷ,le_trans->ŷ
open Or renaming inl->Ø,inr->Ù
open Array renaming getElem?_modify->Û,size_replicate->Ď,getD_eq_getD_getElem?->ī,replicate->ō,toList_append->Š,length_toList->š,size_append->Ű
open Nat renaming le_refl->Þ,zero_le->â,le_trans->ë,le_add_right->Ŀ,zero_add->ł,add_mul->ő,mul_le_mul_right->Ŕ,mul_one->ŗ,lt_of_lt_of_le->Ũ,lt_or_ge->ů,mod_lt->aN
open Go.World renaming block_lt_of_cell?->á,alloc->Ă,setCell->ą,ownsRow_nil->ĉ,drew->Č,freeze->Đ,shape?->Ÿ,cell?->Η
open Option.some renaming injEq->è
open Go.Operand renaming tmp->î,func->bg
open Go.Ground renaming data->ï
open Go.Lib renaming byteCells->ô,nDigits->č,zeros24->ġ,decDigits_length->Ģ,run_unsafeString_row->Ĺ,decDigits->Ļ,byteCells_length->Ř,TabIs->ω,pow10Tab->az
open Go.Builtin renaming zeroCells->ö,append_->Ō,unsafeString_->Ő,copy_->ν,unsafeSliceData_->υ,min->bm,lenOf->br
open ByteArray renaming extract->ø,size_extract->ŋ,ext->bn
open Go.Region renaming ready->Ā,wanted->Ĝ,binds->ń,Mode->Ι
open Go.Great renaming wpList_runTo->Ć
open Go.RowKit.Below renaming heap_alloc->ď,heap_setCell->Ė
open False renaming elim->ę
open Go.Obj.cells renaming injEq->ģ
open Go.Oper renaming upon_value->Ħ,wp->Ń
open Go.Shelf renaming Ren->Ĭ
open Go.Result renaming andThen->į,andThen_ok->Ĵ,ok->φ
open Go.TypeDesc renaming isRow->İ,slice->bl
open Go.Instr renaming fill->ı,index->Κ
open Go.Act renaming put->ĵ
open Go.Sort renaming mapBlock->Ł,putRow->ζ
open Go.Sem renaming run_bind->Ų,run_pure->ų
open Go.Op renaming build->Χ,call->aD,alloc->bh
open Go.Proofs.Lays renaming n283->aJ,n285->aK,n212->aL,n99->aR
variable{i n j b k m J j9 j7 j6:Nat}{w u W jX:É}{v x z jQ:È}{a p:ă}{h c:Int}{e t T:õ}{d q:Array È}{P:aE}{y:é}{B:ByteArray}{X:Nat->Prop}{O:Option ă}{l:List È}{yQ:Bool}{K H:é->É->Prop}{o:ş}{D:Nat->Nat}{jJ:List Nat}{qQ:Ů}{zQ:List Int}{zJ:Go.TypeInfo}{xX:Ů->È}{xJ:Nat×Nat}{vX:List ByteArray}{vJ:aS->é->É->Prop}{s:Go.Func}
namespace Go.Proofs.Y.iw
open Go Go.Proofs Go.RowKit Go.Proofs.Y.Lift
def ff{p:Prop}(h:p):Hid p:=h
def Zg{b:Bool}(h:yQ=b):Ç (Ñ yQ)=Ç (Ñ b):=by rw[h]
def DL{k:IntKind}{b:Int}(h:c=b):Ç (Â k c)=Ç (Â k b):=by rw[h]
def Zh{b:ByteArray}(h:B=b):Ç (Í B)=Ç (Í b):=by rw[h]
def j4:È->Bool
 |Â aT _=>Ï
 |Â _ _=>Ú
 |Ñ _=>Ú
 |_=>Ï
def lW(T:õ):Bool:=T==257||T==246
def rm(m:Nat)(w:É):Prop:=∀(b:Nat) (c:Array È) (T:õ) (v:Nat×Nat),m<=b->w.heap[b]?=Ã (Ð c T v)->lW T=Ú->0<c.size/\∀v∈c.toList,j4 v=Ú
def NF(b:Nat)(w:É):Prop:=∀(c:Array È) (T:õ) (a:Nat×Nat),w.heap[b]?=Ã (Ð c T a)->lW T=Ï
structure fc(X:Nat->Prop)(w w':É):Prop where
 M:w.heap.size<=w'.heap.size
 N:∀k,k<w.heap.size->¬X k->w'.heap[k]?=w.heap[k]?
 gR:j0 w->j0 w'
 Y:∀m,rm m w->rm m w'
section
variable{Y:Nat->Prop}{w' d:É}
theorem fc.fT(X:Nat->Prop)(w:É):fc X w w:=⟨Þ _,λ_ _ _=>rfl,id,λ_=>id⟩
def fc.fh(h:fc X W jX)(k:fc X jX d):fc X W d:= ⟨ë h.M k.M,λi b c=>(k.N i (Ũ b h.M) c).trans<|h.N i b c,λa=>k.gR<|h.gR a,λm a=>k.Y m<|h.Y m a⟩
def fc.S(h:fc X w w')(b:∀k,k<w.heap.size->X k->Y k):fc Y w w':= ⟨h.M,λk a c=>h.N k a λx=>c<|b k a x,h.gR,h.Y⟩
def fc.C(h:fc X W jX)(k:fc Y jX d)(e:∀i,i<W.heap.size->Y i->X i):fc X W d:= ⟨ë h.M k.M,λi b c=>(k.N i (Ũ b h.M) λy=>c<|e i b y).trans<|h.N i b c,λa=>k.gR<|h.gR a,λm a=>k.Y m<|h.Y m a⟩
def ajY(a:j0 w)(p:ă)(v:È):j0 (w.setCell p v):=by
 intro i o h;by_cases e:i=p.block
 .subst e;unfold ą at h;simp only[Û,if_true]at h;cases b:w.heap[p.block]? with
  |none=>rw[b]at h;cases h
  |some d=>
   have:=a _ _ b;rw[b]at h;cases d with
   |cells c t z=>simp only[ñ,è]at h;subst h;exact λx=>x
   |_=>exact absurd trivial this
 .rw[Ė _ _ _ _ (by simpa using e)]at h;exact a i o h
theorem G3(a:j0 w)(b:Array È)(t:õ)(z:Nat×Nat):j0 (w.alloc<|Ð b t z):=by
 intro i o h;by_cases e:i<w.heap.size
 .rw[ď _ _ _ e]at h;exact a i o h
 .by_cases c:i=w.heap.size
  .subst c;rw[ì]at h;cases h;exact λx=>x
  .have:(w.alloc<|Ð b t z).heap.size<=i:=by simp;omega
   grind
def ajZ(a:rm m w)(p:ă)(v:È)(f:j4 v=Ú\/NF p.block w):rm m (w.setCell p v):=by
 intro i c T k g h b;by_cases e:i=p.block
 .subst e;unfold ą at h;simp only[Û,if_true]at h;cases d:w.heap[p.block]? with
  |none=>rw[d]at h;cases h
  |some l=>
   rw[d]at h;cases l with
   |cells o t z=>
    simp only[ñ,è,ģ]at h;obtain⟨n,rfl,rfl⟩:=h;rcases f with f|f
    .subst n;split
     .exact a _ _ _ _ g d b
     .refine⟨by rw[Array.size_setIfInBounds];exact(a _ _ _ _ g d b).1,λu j=> ?_⟩;rw[Array.toList_setIfInBounds]at j;rcases List.mem_or_eq_of_mem_set j with q|q
      .exact(a _ _ _ _ g d b).2 u q
      .rwa[q]
    .rw[f _ _ _ d]at b;cases b
   |_=>cases h
 .rw[Ė _ _ _ _ (by simpa using e)]at h;exact a i c T k g h b
theorem G4(a:rm m w)(b:Array È)(t:õ)(z:Nat×Nat)(j:lW t=Ï\/0<b.size/\∀v∈b.toList,j4 v=Ú):rm m (w.alloc<|Ð b t z):=by
 intro i c T d f h g;by_cases e:i<w.heap.size
 .rw[ď _ _ _ e]at h;exact a i c T d f h g
 .by_cases k:i=w.heap.size
  .grind [ì]
  .have:(w.alloc<|Ð b t z).heap.size<=i:=by simp;omega
   grind
def fc.I{p:Addr}(hx:X p.block)(v:Value)(hv:j4 v=true\/NF p.block w:=by first|exact Or.inl (by rfl)|exact Or.inr<|by assumption):fc X w (w.setCell p v):= ⟨fp,λk _ hk=>Ė _ _ _ _ (by intro e;subst e;exact hk hx),λa=>ajY a p v,λ_ a=>ajZ a p v hv⟩
def fc.gI(X:Nat->Prop)(w:World)(cs:Array Value)(t:TypeId)(hf:lW t=false\/0<cs.size/\∀v∈cs.toList,j4 v=true:=by first|exact Or.inl (by decide)|exact Or.inr ⟨by simp,by simp[j4]⟩):fc X w (w.alloc<|.cells cs t):= ⟨fp,λk hk _=>ď _ _ _ hk,λa=>G3 a cs t (0,0),λ_ a=>G4 a cs t (0,0) hf⟩
def fc.iO(X:Nat->Prop)(w:É)(n:Nat):fc X w (w.drewN n):=⟨Þ _,λ_ _ _=>rfl,id,λ_=>id⟩
def fc.fR(X:Nat->Prop)(w:É):fc X w w.drew:=⟨Þ _,λ_ _ _=>rfl,id,λ_=>id⟩
def kp{X:Nat->Prop}{w w':World}(h:fc X w w':=by repeat' (first|(with_reducible exact fc.fT _ _)|(with_reducible refine fc.fh ?_<|fc.iO _ _ _)|(with_reducible refine fc.fh ?_<|fc.fR _ _)|(with_reducible refine fc.fh ?_<|fc.gI _ _ _ _))):fc X w w':=h
def fc.r(h:fc X w w')(b:w.cell? a=Ã v)(c:¬X a.block):w'.cell? a=Ã v:=by rwa[World.cell?_of_block<|h.N _ (á w a b) c]
end
def G5{u:È}(h:j≠b):(w.setCell ⟨j,i,Ä⟩ u).cell? ⟨b,n,Ä⟩=w.cell? ⟨b,n,Ä⟩:= World.cell?_setCell_other _ _ _ _<|by intro e;injection e with e1 e2;exact h e1
def fi(j:Nat)(vs:List È)(T:õ)(w:É):Prop:=w.heap[j]?=Ã (Ð vs.toArray T (0,0))
section
variable{vs:List È}{w':É}
def fi.N(w:É)(vs:List È)(T:õ):fi w.heap.size vs T (w.alloc<|Ð vs.toArray T):=ì w _
def fi.M(h:fi j vs T w):j<w.heap.size:=by
 rcases ů j w.heap.size with a|a
 .exact a
 .unfold fi at h;rw[Array.getElem?_eq_none a]at h;cases h
def fi.r(h:fi j vs T w)(i:Nat)(v:È)(a:vs[i]?=Ã v):w.cell? ⟨j,i,Ä⟩=Ã v:=by unfold fi at h;simp only[Η,h,ũ,ĭ,if_false,List.getElem?_toArray];exact a
def fi.C(h:fi j vs T w)(i:Nat):w.frozen? ⟨j,i,Ä⟩=Ï:=by unfold fi at h;simp[World.frozen?,h]
def fi.zM(h:fi j vs T w)(e:w'.heap[j]?=w.heap[j]?):fi j vs T w':=by unfold fi;rwa[e]
def fi.I(h:fi j vs T w)(k:fc X w w')(a:¬X j):fi j vs T w':=h.zM<|k.N j h.M a
theorem fi.gf(h:fi j vs T w)(i:Nat)(u:È):fi j (vs.set i u) T (w.setCell ⟨j,i,Ä⟩ u):=by unfold fi at h|-;unfold ą;grind
def fi.G(h:fi j vs T w)(hT:lW T=false:=by decide):NF j w:=λc T' fr q=>by unfold fi at h;rw[h]at q;cases q;exact hT
theorem fi.S(h:fi j vs T w)(k:fi i l e w)(a:T≠e):j≠i:=by rintro rfl;unfold fi at h k;grind
end
section
variable{w':É}{base:Nat}{size:Nat}{xs:List È}
def aj0(h:w.ownsRow base e size v n xs)(k:∀j,v.ownBlock=Ã j->w'.heap[j]?=w.heap[j]?):w'.ownsRow base e size v n xs:=by
 let⟨c,a⟩:=h;refine⟨c,?_⟩;rcases a with a|⟨g,d,f,b,i,l,r⟩
 .exact Ø a
 .refine Ù ⟨g,d,f,b,i,?_,r⟩;rw[k g (by rw[b];rfl)];exact l
def ia(h:w.ownsRow base e size v n xs)(k:fc X w w')(b:∀j,v.ownBlock=Ã j->¬X j):w'.ownsRow base e size v n xs:= aj0 h λj a=>k.N j (h.lt j a).2<|b j a
theorem jo(h:w.ownsRow base e size v n xs):∃a c,v=Ê a n c:=by rcases h.2 with⟨b,d⟩|⟨g,f,i,b,_⟩;all_goals grind
theorem lG(h:w.ownsRow base e size v n xs)(a:v.ownBlock=Ã j):∃b,w.heap[j]?=Ã (Ð b e (0,0)):=by
 rcases h.2 with⟨c,_⟩|⟨g,f,b,c,_,d,_⟩
 .rw[c]at a;cases a
 .rw[c]at a;cases a;exact⟨b,d⟩
theorem jw(h:w.ownsRow base e size v n xs)(k:fi j l T w)(a:e≠T):v.ownBlock≠Ã j:=by intro q;let⟨b,c⟩:=lG h q;unfold fi at k;grind
theorem aj1(h:w.ownsRow base e size v n xs)(k:w.ownsRow i t b x m l)(a:e≠t)(c:v.ownBlock=Ã j):x.ownBlock≠Ã j:=by grind [lG]
theorem RF{n:Nat}(h:v∈(ö d n).toList):v∈d.toList:=by unfold ö at h;grind [Array.toList_map,getElem,aN]
structure pL(w:É)(base:Nat)(e:õ)(size:Nat)(v:È)(n:Nat)(xs:List È)(m:Nat)(news:List È)(v':È)(w':É):Prop where
 fq:w'.ownsRow base e size v' (n+m) (xs++news)
 r:fc (λk=>v.ownBlock=Ã k) w w'
 C:v'.ownBlock=v.ownBlock\/v'.ownBlock=Ã w.heap.size
 I:∀v0 n0 wZ,w.ownsRow base e size v0 n0 wZ->(v0.ownBlock=v.ownBlock->n0<=n)->w'.ownsRow base e size v0 n0 wZ
def pL.aj2(c:w.ownsRow base e size v n xs)(f:l.length=m*size)(g:base<=w.heap.size)(j:n+m<=i)(o:i<=Ą)(p:d.size=i*size)(q:d.toList.take ((n+m)*size)=xs++l)(r:lW e=Ï\/0<d.size/\∀v∈d.toList,j4 v=Ú): pL w base e size v n xs m l (Ê (Ã ⟨w.heap.size,0,Ä⟩) (n+m) i) (w.drew.alloc<|Ð d e):=by have b:∀X,fc X w (w.drew.alloc<|Ð d e):=λX=>⟨fp,λk s _=>ď _ _ _ s,λa=>G3 a d e (0,0),λ_ a=>G4 a d e (0,0) r⟩;refine⟨⟨by rw[Ó,c.1,f,ő],Ù ⟨w.heap.size,i,d,U,g,ì w.drew _,j,o,p,q⟩⟩,b _,Ù U,λt u x h _=>ia h (b λ_=>False) λ_ _=>id⟩
theorem RG{ty:õ}{bytes:Nat}(F:P.underlying t=Ã (bl e))(G:P.info? e=Ã zJ)(Q:zJ.zero=Ã z) (w7:zJ.size=size) (xa:zJ.bytes=bytes) (rf:z.cells.size=size) (p:w.ownsRow base e size v n xs) (a:ă) (c:Nat) (b:List È) (hm:0<m) (r:b.length=m*size) (H:∀j u,b[j]?=Ã u->w.cell? (a.add j)=Ã u) (h1:∀u∈b,u.oneCell'=Ú) (S:n+m<=Ą) (V:(n+m)*bytes<=140737488355328) (Bt:base<=w.heap.size) (W:lW e=Ï\/(0<b.length/\(∀u∈xs++b,j4 u=Ú)/\∀u∈z.cells.toList,j4 u=Ú)): ∃x w',(Ō #[t,t] ty #[v,Ê (Ã a) m c]).run P w=φ x w'/\pL w base e size v n xs m b x w':=by
 subst w7;subst xa;have aj3:n+m<=9223372036854775807:=by simp only[Ą]at S;omega
 have hlen:(xs++b).length=(n+m)*zJ.size:=by rw[Ó,p.1,r,ő]
 have asZ:=p;have tk:∀d,((xs.toArray++b.toArray++ö z.cells (Œ w (n+m) d e-(n+m))).toList.take ((n+m)*zJ.size)=xs++b):=λd=>by grind
 have sz:∀d,(xs.toArray++b.toArray++ö z.cells (Œ w (n+m) d e-(n+m))).size=Œ w (n+m) d e*zJ.size:=λd=>by have x:=Θ w (n+m) d e;simp only[Ű,ć,size_zeroCells,rf,p.1,r,<-ő];congr 1;omega
 have aj4:∀d,lW e=Ï\/0<(xs.toArray++b.toArray++ö z.cells (Œ w (n+m) d e-(n+m))).size/\∀v∈(xs.toArray++b.toArray++ö z.cells (Œ w (n+m) d e-(n+m))).toList,j4 v=Ú:=λd=>by
  cases s:lW e with
  |false=>exact Ø U
  |true=>
   rcases W with q|⟨x,B,I⟩
   .rw[q]at s;cases s
   .refine Ù ⟨by simp only[Ű,ć];omega,λv f=> ?_⟩;simp only[Š,ú]at f;rcases f with(f|f)|f
    .exact B v<|œ _ f
    .exact B v<|List.mem_append_right _ f
    .exact I v<|RF f
 have gr:=λd=>pL.aj2 p r Bt (Θ w (n+m) d e) (grownCap_le_maxLen w (n+m) d e S) (sz d) (tk d)<|aj4 d;rcases p.2 with⟨rfl,rfl⟩|⟨g,y,h,rfl,hbg,C,hnc,hcm,X,htake⟩
 .have J:=ß (by simpa using p.1);subst J;have Y:=run_append_nil w t ty e zJ z F G Q a m c b r H hm Z (by have x:=V;simp only[ł]at x;omega);grind
 .by_cases K:n+m<=y
  .have RH:n*zJ.size+b.length<=h.size:=by rw[r,X,<-ő];exact Ŕ _ K
   have Y:=run_append_room w t ty e zJ F G g n y h C a m c b r H h1 K RH;have E:=ĝ w g h (h.toList.take (n*zJ.size)++b++h.toList.drop (n*zJ.size+b.length)).toArray e _ C;have L:=λk (M:k≠g)=>ė w g k (h.toList.take (n*zJ.size)++b++h.toList.drop (n*zJ.size+b.length)).toArray M;have N:(h.toList.take (n*zJ.size)++b++h.toList.drop (n*zJ.size+b.length)).toArray.size=h.size:=by grind
   have kp:fc (λk=>Į (Ê (Ã ⟨g,0,Ä⟩) n y)=Ã k) w (w.setRow g (h.toList.take (n*zJ.size)++b++h.toList.drop (n*zJ.size+b.length)).toArray):=by
    refine⟨fp,λk _ M=>L k λe=>M (by simp[Į,e]),λal q o l=> ?_,λm' hF q c T fr O l s=> ?_⟩;rotate_left
    .by_cases D:q=g
     .subst D;rw[E]at l;cases l;rcases W with qq|⟨_,B,_⟩
      .grind
      .refine⟨by rw[N];exact(hF _ _ _ _ O C s).1,λu x=> ?_⟩;simp only[ú]at x;rcases x with(x|x)|x
       .grind
       .grind
       .exact(hF _ _ _ _ O C s).2 u<|List.mem_of_mem_drop x
     .rw[L q D]at l;exact hF q c T fr O l s
    by_cases D:q=g
    .subst D;rw[E]at l;cases l;exact λx=>x
    .rw[L q D]at l;exact al q o l
   refine⟨_,_,Y,⟨hlen,Ù ⟨g,y,_,U,hbg,E,K,hcm,by rw[N,X],?_⟩⟩,kp,Ø U,λo q wZ x s=> ?_⟩
   .grind
   .by_cases f:o.ownBlock=Ã g
    .let⟨B,I⟩:=x;refine⟨B,?_⟩;rcases I with⟨rfl,_⟩|⟨g0,D,as0,rfl,O,l,T,b4,b5,b6⟩
     .cases f
     .have:g0=g:=by simpa[Į]using f
      subst this;rw[C]at l;cases l;refine Ù ⟨g0,D,_,U,O,E,T,b4,by rw[N,b5],?_⟩;rw[htake];have as1:q*zJ.size<=n*zJ.size:=Ŕ _<|s f;grind
    .exact ia x kp λj l J=>f<|by rw[l];simpa[Į]using J.symm
  .exact⟨_,_,(Λ w t ty e zJ z F G Q ⟨g,0,Ä⟩ n y xs p.1 (p.cells U) a m c b r H Z Z<|ŕ Z V),gr y⟩
def Bu{P:Program}{ops:Array Oper}{rest:List Oper}{o:Oper}{a:Act}{Q:Exit->Act->World->Prop}(RJ:o.guard=none)(s x:Operand)(t:TypeId) (ho:o.op=.call {callee:=.builtin .append,args:=#[s,x],argTypes:=#[t,t]}) {i:TypeInfo} {z:Value} {bytes:Nat} (ht:P.underlying t=some (.slice e)) (hi:P.info? e=some i) (hz:i.zero=some z) (w7:i.size=size) (xa:i.bytes=bytes) (rf:z.cells.size=size) (hs:a.eval s=v) (ll:w.ownsRow base e size v n xs) (ad:Addr) {m c:Nat} (news:List Value) (hx:a.eval x=.slice (some ad) m c) (hm:0<m) (hl:news.length=m*size) (RL:∀j u,news[j]?=some u->w.cell? (ad.add j)=some u) (h1:∀u∈news,u.oneCell'=true) (Bv:n+m<=maxLen) (Bw:(n+m)*bytes<=140737488355328) (Bt:base<=w.heap.size) (h:∀v' w',pL w base e size v n xs m news v' w'->wpList P ops Q rest (a.put o.dst v') w') (hfl:lW e=false\/(0<news.length/\(∀u∈xs++news,j4 u=true)/\∀u∈z.cells.toList,j4 u=true):=by first|exact Or.inl (by decide)|exact Or.inr ⟨by simp,by simp[j4],by simp[j4,Value.cells]⟩): wpList P ops Q (o::rest) a w:=by refine ű RJ λK hK=> ?_;let⟨v',w',hr,h2⟩:=RG (ty:=o.type) ht hi hz w7 xa rf ll ad c news hm hl RL h1 Bv Bw Bt hfl;unfold Ń Ĥ;simp only[ho,ae,aO,af,Ų,ų,Ĵ,ļ,Ť,Ŵ,hs,hx,hr];exact hK _ _<|h v' w' h2
end
structure G6 where
 fw:Int
 r:ByteArray
 C:Nat->Int
abbrev St:=Nat->G6
def St.gf(s:St)(i:Nat)(a:G6):St:=λj=>if j=i then a else s j
def St.fw(s:St)(i:Nat)(b:Int):St:=s.gf i {s i with fw:=b}
def St.C(s:St)(i:Nat)(p:ByteArray):St:=s.gf i {s i with r:=p}
def St.r(s:St)(i j:Nat)(v:Int):St:=s.gf i {s i with C:=λk=>if k=j then v else(s i).C k}
def pM(n:Int):È:=Â Æ n
def RN(n:Int):È:=Â Ë n
def pN(s:St)(i:Nat):È:=if i%18=0 then pM (s<|i/18).fw else if i%18=1 then Í (s<|i/18).r else pM ((s<|i/18).C<|i%18-2)
def rn(s:St)(a:È)(i:Nat):È:=if 144<=i then a else pN s i
theorem qw(s:St)(a:È)(h:i<144):rn s a i=pN s i:=by unfold rn;rw[if_neg Z]
def jg(s:St)(lv:È):List È:=(ċ 145).map<|rn s lv
theorem mA(s:St)(lv:È):(jg s lv).length=145:=by simp[jg]
theorem G7(s:St)(a:È)(h:i<145):(jg s a)[i]?=Ã (rn s a i):=by unfold jg;grind
theorem Zi{s:St}(h:l.length=145)(a:∀i,i<145->l[i]?=Ã (rn s v i)):l=jg s v:=by apply þ;grind [G7,mA]
section
variable(s:St)(lv:È)
def G8(h:i<8):rn s lv (i*18)=pM (s i).fw:=by rw[qw _ _ Z,pN,if_pos Z,show i*18/18=i from by omega]
def KX(h:i<8):rn s lv (i*18+1)=Í (s i).r:=by rw[qw _ _ Z,pN,if_neg Z,if_pos Z,show(i*18+1)/18=i from by omega]
def KY(h:i<8)(a:j<16):rn s lv (i*18+2+j)=pM ((s i).C j):=by rw[qw _ _ Z,pN,if_neg Z,if_neg Z,show(i*18+2+j)/18=i from by omega,show(i*18+2+j)%18-2=j from by omega]
theorem KZ:rn s lv 144=lv:=by unfold rn;grind
theorem aj5(v:È):(jg s lv).set 144 v=jg s v:=by
 refine Zi (by rw[ĕ,mA]) λi a=> ?_;by_cases e:i=144
 .grind [mA,KZ]
 .rw[Ŗ<|Ne.symm e,G7 _ _ a,qw _ _ Z,qw _ _ Z]
theorem RO(f:i<144){c:St}(g:rn c lv i=v)(h:∀b,b<144->b≠i->pN c b=pN s b):(jg s lv).set i v=jg c lv:=by
 refine Zi (by rw[ĕ,mA]) λb d=> ?_;by_cases e:b=i
 .grind [mA]
 .rw[Ŗ<|Ne.symm e,G7 _ _ d];grind [qw,KZ]
def Zj(h:i<8)(b:Int):(jg s lv).set (i*18) (pM b)=jg (s.fw i b) lv:=by
 refine RO s lv Z ?_ λk a c=> ?_
 .rw[G8 _ _ h];simp[St.fw,St.gf]
 .unfold pN;by_cases e:k/18=i
  .have:k%18≠0:=Z
   simp[St.fw,St.gf,e,this]
  .simp[St.fw,St.gf,e]
def aj6(h:i<8)(p:ByteArray):(jg s lv).set (i*18+1) (Í p)=jg (s.C i p) lv:=by
 refine RO s lv Z ?_ λk a b=> ?_
 .rw[KX _ _ h];simp[St.C,St.gf]
 .unfold pN;by_cases e:k/18=i
  .have:k%18≠1:=Z
   simp[St.C,St.gf,e,this]
  .simp[St.C,St.gf,e]
def aj7(h:i<8)(c:j<16)(v:Int):(jg s lv).set (i*18+2+j) (pM v)=jg (s.r i j v) lv:=by
 refine RO s lv Z ?_ λk d f=> ?_
 .rw[KY _ _ h c];simp[St.r,St.gf]
 .unfold pN;by_cases e:k/18=i
  .by_cases a:k%18=0
   .simp[St.r,St.gf,e,a]
   .by_cases b:k%18=1
    .simp[St.r,St.gf,e,b]
    .have:k%18-2≠j:=Z
     simp[St.r,St.gf,e,a,b,this]
  .simp[St.r,St.gf,e]
end
def iA(b:Nat)(T:õ)(tl:List È)(s:St)(lv:È)(w:É):Prop:=fi b (jg s lv++tl) T w
section
variable{tl:List È}{s:St}{lv:È}
def iA.G9(h:iA b T tl s lv w)(a:i<145):w.cell? ⟨b,i,Ä⟩=Ã (rn s lv i):= fi.r h i _<|by rw[ç (by rwa[mA]),G7 _ _ a]
def iA.p7(h:iA b T tl s lv w)(c:i<145){a:St}(e:(jg s lv).set i v=jg a x):iA b T tl a x (w.setCell ⟨b,i,Ä⟩ v):=by have:=fi.gf h i v;rw[Ğ _ _ (show i<(jg s lv).length by rwa[mA]),e]at this;exact this
def iA.fw(h:iA b T tl s lv w)(a:i<8):w.cell? ⟨b,i*18,Ä⟩=Ã (Â Æ (s i).fw):=by rw[h.G9 Z,G8 _ _ a];rfl
def iA.K0(h:iA b T tl s lv w)(a:i<8):w.cell? ⟨b,i*18+1,Ä⟩=Ã (Í (s i).r):=by rw[h.G9 Z,KX _ _ a]
def iA.Zk(h:iA b T tl s lv w)(a:i<8)(c:j<16):w.cell? ⟨b,i*18+2+j,Ä⟩=Ã (Â Æ<|(s i).C j):=by rw[h.G9 Z,KY _ _ a c];rfl
def iA.Bx(h:iA b T tl s lv w):w.cell? ⟨b,144,Ä⟩=Ã lv:=by rw[h.G9 Z,KZ]
def iA.yO(h:iA b T tl s lv w)(a:i<8)(x:Int):iA b T tl (s.fw i x) lv (w.setCell ⟨b,i*18,Ä⟩<|Â Æ x):=h.p7 Z<|Zj s lv a x
def iA.aj8(h:iA b T tl s lv w)(a:i<8)(x:ByteArray):iA b T tl (s.C i x) lv (w.setCell ⟨b,i*18+1,Ä⟩<|Í x):=h.p7 Z<|aj6 s lv a x
def iA.RP(h:iA b T tl s lv w)(a:i<8)(c:j<16)(x:Int):iA b T tl (s.r i j x) lv (w.setCell ⟨b,i*18+2+j,Ä⟩<|Â Æ x):=h.p7 Z<|aj7 s lv a c x
def iA.aj9(h:iA b T tl s lv w)(v:È):iA b T tl s v (w.setCell ⟨b,144,Ä⟩ v):=h.p7 Z<|aj5 s lv v
end
def xb(b:Bool):Int:=if b then 1 else 0
def Ha(b:Bool)(w:É):Ò À 159 #[Ñ b] w λe a=>e=Ç (Â Æ<|xb b)/\a=w:=by
 go_enter Tryz.func159,Tryz.ntmps159;go_wp2;all_goals go_ret
 all_goals refine⟨DL ?_,U⟩
 all_goals simp[xb, *]
def Zl(b o:Nat)(s:Int)(c:0<=s)(d:s<18446744073709551616)(w:É):Ò À 208 #[Å<|Ã ⟨b,o,Ä⟩,Â Æ s] w λe a=>e=Ç (Å<|Ã ⟨b,o+2+(s%16).toNat,Ä⟩)/\a=w:=by
 go_enter Tryz.func208,Tryz.ntmps208;go_wp2;all_goals go_ret
 exact⟨U,U⟩
def wu(n:Int):Int:=Æ.wrap n
theorem akb(a:0<=h)(b:h<18446744073709551616):wu h=h:=by show h%18446744073709551616=h;omega
def Zm(n:Int):wu n=n%18446744073709551616:=rfl
def akc(n:Int):0<=wu n:=by rw[Zm];omega
def akd(n:Int):wu n<18446744073709551616:=by rw[Zm];omega
def xc(k p q:Int):Int:=
 if k=2 then wu (p+q)else if k=3 then wu (p-q)else if k=4 then wu (p*q)
 else if k=5 then(if q=0 then 0 else p/q)else if k=6 then xb (decide<|p<q)else xb (decide<|p=q)
def ake(k p q:Int)(b:0<=p)(c:p<18446744073709551616)(d:0<=q)(f:q<18446744073709551616)(w:É):Ò À 211 #[Â Ë k,Â Æ p,Â Æ q] w λe a=>e=Ç (Â Æ<|xc k p q)/\a=w:=by
 go_enter Tryz.func211,Tryz.ntmps211;go_wp2_with (go_at_call 159;refine(Ha _ _).mono ?_;rintro e a ⟨rfl,rfl⟩);all_goals simp only[beq_iff_eq,beq_eq_false_iff_ne,ne_eq]at*
 all_goals first
  |(exfalso;simp_all;done)
  |(go_ret;refine⟨DL ?_,U⟩;unfold xc;simp[wu, *];done)
  |(go_ret;refine⟨DL ?_,U⟩;unfold xc;simp[wu, *];rfl)
structure RC where
 x:Nat
 y:Nat
 k:Int
 d:Int
 g:Int
def DN(a:Nat)(c:RC)(b:È):List È:=[Å<|Ã ⟨a,0,Ä⟩,Â Ë c.x,Â Ë c.y,Â Æ c.k,Â Ë c.d,Â Æ c.g,b]
def oV(l:List Int):List È:=l.map pM
theorem akf{base:Nat}(h:w.ownsRow base e 1 (Ê O (n+1) i) (n+1) (l++[x])):w.ownsRow base e 1 (Ê O n i) n l:=by
 let⟨d,b⟩:=h;simp only[Ó,Ľ,Μ,ŗ]at d;refine⟨Z,?_⟩;rcases b with⟨b,_⟩|⟨g,q,f,b,j,k,r,m,o,p⟩
 .cases b
 .cases b;refine Ù ⟨g,i,f,U,j,k,Z,m,o,?_⟩;have:=congrArg (List.take n) p;grind
def K1{base:Nat}(h:w.ownsRow base e 1 (Ê O (n+1) i) (n+1) (l++[x])):∃g,O=Ã ⟨g,0,Ä⟩/\w.cell? ⟨g,n,Ä⟩=Ã x/\n+1<=i:=by
 let⟨f,d⟩:=h;simp only[Ó,Ľ,Μ,ŗ]at f;rcases d with⟨d,_⟩|⟨g,o,p,d,q,j,k,r,s,m⟩
 .cases d
 .cases d;refine⟨g,U,?_,k⟩;have:=congrArg (λb=>b[n]?) m;simp only[ŗ]at this;rw[List.getElem?_take_of_lt Z,ü Z,show n-l.length=0 by omega]at this;simp only[Η,j];simpa using this
def K2(j d:Nat)(c:RC)(f:È)(base:Nat)(b:List Int)(p:Int)(w:É)(i:fi d (DN j c f) 282 w)(h:w.ownsRow base 36 1 f (b.length+1) (oV b++[pM p]))(k:b.length<=1000): Ò À 204 #[Å<|Ã ⟨d,0,Ä⟩] w λe g=>e=Ç (Â Æ p)/\∃a,g=w.setCell ⟨d,6,Ä⟩ a/\w.ownsRow base 36 1 a b.length (oV b)/\a.ownBlock=f.ownBlock:=by obtain⟨a,l,rfl⟩:=jo h;obtain⟨g,rfl,m,o⟩:=K1 h;have e:=akf h;have q:=i.r 6 _ U;have r:=i.C 6;have H:=ff e;generalize b.length=n at*;go_enter Tryz.func204,Tryz.ntmps204;go_wp2;go_ret;refine⟨U,_,U,?_,U⟩;simpa using H.out
def akg:(À.info? 36).map (λi=>(i.zero,i.size,i.bytes))=Ã (Ã<|Â Æ 0,1,8):=fu
def Zn(p b:Nat)(c:RC)(d:È)(base:Nat)(k:List È)(n:Nat)(f m:Nat)(q:Nat)(a:List È)(w:É)(g:fi b (DN p c d) 282 w)(l:w.ownsRow base 36 1 d n k)(E:n+m<=1000) (r:0<m) (s:a.length=m) (t:∀j u,a[j]?=Ã u->w.cell? ((⟨f,0,Ä⟩:ă).add j)=Ã u) (v:∀u∈a,u.oneCell'=Ú) (x:base<=w.heap.size): Ò À 203 #[Å<|Ã ⟨b,0,Ä⟩,Ê (Ã ⟨f,0,Ä⟩) m q] w λe o=>e=Ç (æ #[])/\∃h i,pL w base 36 1 d n k m a h i/\o=i.setCell ⟨b,6,Ä⟩ h:=by let⟨F,y,z,B,C⟩:=í akg;have D:=g.r 6 _ U;have o:=jw l g A;have H:=ff g;go_enter Tryz.func203,Tryz.ntmps203;go_wp2_with (at_builtin;refine Bu U _ _ 231 U Tryz.underlying231 y z B C U U l ⟨f,0,Ä⟩ a U r (by rw[s,ŗ]) t v (by unfold Ą;omega) Z x ?_;intro h i e;obtain⟨G,I,rfl⟩:=jo e.fq;have J:=e.r.r D o;have K:=(H.out.I e.r o).C 6);go_end0;exact⟨U,_,_,e,U⟩
def j5(l:List (Nat×Int)):List È:=l.flatMap λp=>[RN p.1,pM p.2]
structure iT where
 r:Nat
 T:õ
 C:List È
structure iT.Ok(E:iT):Prop where
 M:E.T≠36
 r:E.T≠257
 I:E.T≠282
 N:E.T≠300
 akh:E.T≠252
 aki:E.T≠246
def iT.Ok.C{E:iT}(h:E.Ok):lW E.T=Ï:=by unfold lW;rw[beq_eq_false_iff_ne.2 h.r,beq_eq_false_iff_ne.2 h.aki];rfl
structure R(E:iT)(rb:Nat)(c:RC)(sv lv:È)(ss:List Int)(s:St)(ls:List (Nat×Int))(w:É):Prop where
 r:fi rb (DN E.r c sv) 282 w
 I:w.ownsRow 0 36 1 sv ss.length (oV ss)
 C:iA E.r E.T E.C s lv w
 M:w.ownsRow 0 257 2 lv ls.length (j5 ls)
structure Tr(E:iT)(rb:Nat)(sv lv:È)(n:Nat)(w:É)(jU jv:È)(n':Nat)(w':É):Prop where
 r:fc (λk=>k=E.r\/k=rb\/sv.ownBlock=Ã k\/lv.ownBlock=Ã k) w w'
 s:∀j,jU.ownBlock=Ã j->sv.ownBlock=Ã j\/w.heap.size<=j
 l:∀j,jv.ownBlock=Ã j->lv.ownBlock=Ã j\/w.heap.size<=j
 C:∀v0 n0 wZ,w.ownsRow 0 257 2 v0 n0 wZ->(v0.ownBlock=lv.ownBlock->n0<=n)->w'.ownsRow 0 257 2 v0 n0 wZ/\(v0.ownBlock=jv.ownBlock->n0<=n')
section
variable{E:iT}{rb:Nat}{c:RC}{sv lv f o:È}{ss:List Int}{s:St}{ls:List (Nat×Int)}
theorem Tr.fT(E:iT)(rb:Nat)(sv lv:È)(n:Nat)(w:É):Tr E rb sv lv n w sv lv n w:= ⟨fc.fT _ _,λ_ h=>Ø h,λ_ h=>Ø h,λ_ _ _ h k=>⟨h,k⟩⟩
theorem Tr.fh(h:Tr E rb sv lv n w f z b u)(k:Tr E rb f z b u o jQ m W):Tr E rb sv lv n w o jQ m W:=by
 refine⟨h.r.C k.r ?_,λj a=> ?_,λj a=> ?_,λc d g p q=> ?_⟩
 .rintro i r (e|e|e|e)
  .exact Ø e
  .grind
  .exact Ù<|Ù<|Ø<|(h.s i e).resolve_right Z
  .exact Ù<|Ù<|Ù<|(h.l i e).resolve_right Z
 .rcases k.s j a with e|e
  .exact h.s j e
  .exact Ù<|ë h.r.M e
 .rcases k.l j a with e|e
  .exact h.l j e
  .exact Ù<|ë h.r.M e
 .let⟨e,i⟩:=h.C c d g p q;exact k.C c d g e i
def Tr.I(k:fc X w u)(c:∀i,i<w.heap.size->X i->i=E.r\/i=rb\/sv.ownBlock=Ã i)(d:∀j,f.ownBlock=Ã j->sv.ownBlock=Ã j\/w.heap.size<=j)(g:∀i a,X i->w.heap[i]?≠Ã (Ð a 257 (0,0))):Tr E rb sv lv n w f lv n u:= ⟨k.S λi h q=>(c i h q).elim Ø λe=>Ù (e.elim Ø λe=>Ù<|Ø e),d,λj q=>Ø q,λp r s b l=>⟨ia b k λj m q=>by let⟨a,o⟩:=lG b m;exact g j a q o,l⟩⟩
def Tr.akj{Y:Nat->Prop}(t:Tr E rb sv lv n w f z b u)(k:fc Y u W)(m:∀i,Y i->w.heap.size<=i)(o:∀i a,Y i->u.heap[i]?≠Ã (Ð a 257 (0,0))):Tr E rb sv lv n w f z b W:= ⟨t.r.C k λi v q=>absurd (m i q) Z,t.s,t.l,λc d e g h=>⟨ia (t.C c d e g h).1 k λj p q=>by let⟨a,r⟩:=lG (t.C c d e g h).1 p;exact o j a q r,(t.C c d e g h).2⟩⟩
def R.akk(ok:E.Ok)(h:R E rb c sv lv ss s ls w)(a:fi j l 252 w)(k:fc (λi=>i=j) w u):R E rb c sv lv ss s ls u:= ⟨h.r.I k<|fi.S h.r a A,ia h.I k λi q r=>jw h.I a A (by rw[q,r]),h.C.I k<|fi.S h.C a ok.akh,ia h.M k λi q r=>jw h.M a A<|by rw[q,r]⟩
theorem R.N(ok:E.Ok)(h:R E rb c sv lv ss s ls w)(i:Nat){c':RC}{jU:È}{ss':List Int}(e:(DN E.r c sv).set i v=DN E.r c' jU)(b:w.ownsRow 0 36 1 jU ss'.length (oV ss'))(d:∀j,jU.ownBlock=Ã j->sv.ownBlock=Ã j): R E rb c' jU lv ss' s ls (w.setCell ⟨rb,i,Ä⟩ v)/\Tr E rb sv lv ls.length w jU lv ls.length (w.setCell ⟨rb,i,Ä⟩ v):=by have a:=fc.I (X:=λk=>k=rb) (p:=⟨rb,i,Ä⟩) U v<|Ù h.r.G;refine⟨⟨by have:=h.r.gf i v;rwa[e]at this,ia b a λj q r=>jw b h.r A (by rw[q,r]),h.C.I a<|fi.S h.C h.r ok.I,ia h.M a λj q r=>jw h.M h.r A<|by rw[q,r]⟩,Tr.I a (λi _ q=>Ù<|Ø q) (λj q=>Ø<|d j q) λi f q g=> ?_⟩;have k:=h.r;unfold fi at k;grind
def R.S(ok:E.Ok)(h:R E rb c sv lv ss s ls w)(i:Nat){d:St}(k:iA E.r E.T E.C d lv (w.setCell ⟨E.r,i,Ä⟩ v)): R E rb c sv lv ss d ls (w.setCell ⟨E.r,i,Ä⟩ v)/\Tr E rb sv lv ls.length w sv lv ls.length (w.setCell ⟨E.r,i,Ä⟩ v):=by have b:=fc.I (X:=λk=>k=E.r) (p:=⟨E.r,i,Ä⟩) U v<|Ù<|fi.G h.C ok.C;refine⟨⟨h.r.I b (fi.S h.C h.r ok.I).symm,ia h.I b λj q r=>jw h.I h.C ok.M.symm (by rw[q,r]),k,ia h.M b λj q r=>jw h.M h.C ok.r.symm<|by rw[q,r]⟩,Tr.I b (λi _ q=>Ø q) (λj q=>Ø q) λi e q a=> ?_⟩;rw[q,h.C]at a;injection a with a;injection a with _ a;exact ok.r a
theorem R.Y(ok:E.Ok)(h:R E rb c sv lv ss s ls w){ns:List Int}{u:É}(o:ns.length=m)(a:pL w 0 36 1 sv ss.length (oV ss) m (oV ns) v u): R E rb c v lv (ss++ns) s ls (u.setCell ⟨rb,6,Ä⟩ v)/\Tr E rb sv lv ls.length w v lv ls.length (u.setCell ⟨rb,6,Ä⟩ v):=by
 subst o;have d:∀{i:Nat} {f:Array È} {T:õ},sv.ownBlock=Ã i->w.heap[i]?=Ã (Ð f T (0,0))->T=36:=λ{i f T} q l=>by let⟨g,e⟩:=lG h.I q;grind
 have b:R E rb c sv lv ss s ls u:=⟨h.r.I a.r λq=>absurd (d q h.r) A,a.I _ _ _ h.I λ_=>Þ _,h.C.I a.r λq=>ok.M<|d q h.C,ia h.M a.r λj q r=>by let⟨g,e⟩:=lG h.M q;exact absurd (d r e) A⟩;have n:u.ownsRow 0 36 1 v (ss++ns).length (oV<|ss++ns):=by have:=a.fq;rwa[show oV ss++oV ns=oV (ss++ns) by simp[oV],show ss.length+ns.length=(ss++ns).length by simp]at this
 have g:=fc.I (X:=λk=>k=rb) (p:=⟨rb,6,Ä⟩) U v<|Ù b.r.G;refine⟨⟨b.r.gf 6 v,ia n g λj q r=>jw n b.r A (by rw[q,r]),b.C.I g<|fi.S b.C b.r ok.I,ia b.M g λj q r=>jw b.M b.r A<|by rw[q,r]⟩,(Tr.I a.r (λi _ q=>Ù<|Ù q) (λj q=>a.C.elim (λe=>Ø<|by rwa[<-e]) λe=>Ù<|by rw[e]at q;cases q;exact Þ _) λi f q l=>absurd (d q l) A).fh<|Tr.I g (λi _ q=>Ù<|Ø q) (λj q=>Ø q) λi f q l=> ?_⟩;have e:=b.r;unfold fi at e;grind
end
section
variable{E:iT}{rb:Nat}{c:RC}{sv lv:È}{s:St}{ls:List (Nat×Int)}
def R.fL(h:R E rb c sv lv zQ s ls w)(k:fc fg w W):R E rb c sv lv zQ s ls W:= ⟨h.r.I k id,ia h.I k λ_ _=>id,h.C.I k id,ia h.M k λ_ _=>id⟩
def Tr.fL(k:fc fg w W):Tr E rb sv lv n w sv lv n W:=Tr.I k (λ_ _=>ę) (λ_ q=>Ø q) λ_ _=>ę
end
def iX:List (Int×Int×Int):=[(0,0,0),(1,0,1),(1,2,1),(1,2,1),(2,2,1),(2,2,1),(1,2,1),(1,2,1),(1,1,2),(1,2,2),(1,1,0),(1,0,1),(1,0,1),(1,0,1),(1,0,1),(3,1,1),(6,2,0),(2,2,0),(8,2,1),(4,1,0),(8,3,2),(1,1,0),(1,0,0)]
structure iK(w:É):Prop where
 M:∃cs fz,w.heap[2]?=Ã (Ð cs 300 fz)
 I:∀(k:Nat) (r:Int×Int×Int),iX[k]?=Ã r->w.cell? ⟨2,k*3,Ä⟩=Ã (Â Æ r.1)/\w.cell? ⟨2,k*3+1,Ä⟩=Ã (Â Ë r.2.1)/\w.cell? ⟨2,k*3+2,Ä⟩=Ã (Â Ë r.2.2)
theorem iK.r(h:iK w)(k:fc X w u)(a:¬X 2):iK u:=by
 let⟨b,c,d⟩:=h.M;have e:2<w.heap.size:=by grind
 refine⟨⟨b,c,by rwa[k.N 2 e a]⟩,λi r f=> ?_⟩;let⟨g,j,l⟩:=h.I i r f;exact⟨k.r g a,k.r j a,k.r l a⟩
theorem iK.C(h:iK w)(a:w.heap[j]?=Ã (Ð d T xJ))(b:T≠300):j≠2:=by rintro rfl;let⟨c,e,f⟩:=h.M;grind
def iK.N{E:iT}(ok:E.Ok){rb:Nat}{c:RC}{sv lv:È}{s:St}{a:List (Nat×Int)}(h:iK w)(r:R E rb c sv lv zQ s a w)(t:Tr E rb sv lv n w v x i u):iK u:=by
 refine h.r t.r ?_;rintro(e|e|e|e)
 .exact h.C r.C ok.N e.symm
 .exact h.C r.r A e.symm
 .let⟨b,q⟩:=lG r.I e;exact h.C q A U
 .let⟨b,q⟩:=lG r.M e;exact h.C q A U
theorem K3:∀(k:Nat) (r:Int×Int×Int),iX[k]?=Ã r->0<=r.1/\r.1<=8/\0<=r.2.1/\r.2.1<=3/\0<=r.2.2/\r.2.2<=2:=by
 have h:∀r∈iX,0<=r.1/\r.1<=8/\0<=r.2.1/\r.2.1<=3/\0<=r.2.2/\r.2.2<=2:=A
 grind
def lX(g:Int)(n:Nat)(b a c:Int):Bool:= !(decide (g<b)||(decide ((n:Int)-a<0)||decide (32<(n:Int)-a+c)))
def RR(E:iT)(f:Nat)(c:RC)(a d:È)(i:List Int)(s:St)(e:List (Nat×Int))(w:É)(j:Int)(b:Bool)(h:É):Prop:=
 R E f (if b then{c with g:=c.g-j}else c) a d i s e h/\Tr E f a d e.length w a d e.length h
section
variable{E:iT}{rb:Nat}{c:RC}{sv lv:È}{s:St}{ls:List (Nat×Int)}
def RU(a:R E rb c sv lv zQ s ls w)(k:fc fg w u):RR E rb c sv lv zQ s ls w h Ï u:=⟨a.fL k,Tr.fL k⟩
def akl(ok:E.Ok)(a:R E rb c sv lv zQ s ls w){g:Int}(d:c.g=g)(e:u=W.setCell ⟨rb,5,Ä⟩ (Â Æ<|g-h))(k:fc fg w W):RR E rb c sv lv zQ s ls w h Ú u:=by subst d e;have b:=a.fL k;let⟨f,i⟩:=b.N ok 5 (c':={c with g:=c.g-h}) U b.I λ_ q=>q;exact⟨f,(Tr.fL k).fh i⟩
end
def By(E:iT)(ok:E.Ok)(m:Nat)(c:RC)(q r:È)(d:List Int)(s:St)(t:List (Nat×Int))(w:É)(h:R E m c q r d s t w)(u:iK w)(k:Nat)(f b i:Int)(o:iX[k]?=Ã (f,b,i))(y:d.length<=1000)(P:0<=c.g)(Q:c.g<18446744073709551616): Ò À 202 #[Å<|Ã ⟨m,0,Ä⟩,Â Ë k] w λe a=>e=Ç (Ñ<|lX c.g d.length f b i)/\RR E m c q r d s t w f (lX c.g d.length f b i) a:=by
 let⟨z,B,C⟩:=u.I k _ o;obtain⟨a,S,rfl⟩:=jo h.I;have D:=h.r.r 6 _ U;have T:=h.r.r 5 _ U;have V:=h.r.C 5;have W:=h.r.M;have X:k<23:=(Ü.1 o).1;let⟨F,G,I,J,K,L⟩:=K3 k _ o;simp only at F G I J K L z B C;obtain⟨n,j⟩:∃n,d.length=n:=⟨_,U⟩;rw[j]at D y;have e:lX c.g d.length f b i= !(decide (c.g<f)||(decide ((n:Int)-b<0)||decide (32<(n:Int)-b+i))):=by rw[j];rfl
 have H:=ff<|Á h<|Á j e;clear u h j e;generalize M:c.g=g at*;go_enter Tryz.func202,Tryz.ntmps202;go_wp2;go_quiet (fail);go_wp2;by_cases v:g<f
 .go_quiet (fail)
  go_wp2;let⟨h,j,e⟩:=H.out;have l:lX g d.length f b i=Ï:=by rw[e];simp[v]
  go_ret;rw[l];refine⟨U,RU h ?_⟩;exact kp
 .have N:=decide_eq_false v;by_cases x:(n:Int)-b<0
  .go_quiet (fail)
   go_wp2;let⟨h,j,e⟩:=H.out;have l:lX g d.length f b i=Ï:=by rw[e];simp[x]
   go_ret;rw[l];refine⟨U,RU h ?_⟩;exact kp
  .have O:=decide_eq_false x;go_quiet (fail);go_wp2
   .have p:32<(n:Int)-b+i:=by assumption
    let⟨h,j,e⟩:=H.out;have l:lX g d.length f b i=Ï:=by rw[e];simp[p]
    go_ret;rw[l];refine⟨U,RU h ?_⟩;exact kp
   .go_region
    go_wp2;have p:(n:Int)-b+i<=32:=by assumption
    let⟨h,j,e⟩:=H.out;have l:lX g d.length f b i=Ú:=by rw[e];simp[N,O,p]
    go_ret;rw[l];refine⟨U,akl ok h M U ?_⟩;exact kp
def qx(s:St)(y:Nat)(q p:Int):Int×St:=
 if(s y).fw<p then(0,s)else(1,(s.fw y<|(s y).fw-p).fw (q%8).toNat<|wu<|(s.fw y ((s y).fw-p) (q%8).toNat).fw+p)
def yP(E:iT)(e:Nat)(c:RC)(a b:È)(g:List Int)(s:St)(d:List (Nat×Int))(w:É)(h:St)(f:É):Prop:=
 R E e c a b g h d f/\Tr E e a b d.length w a b d.length f
section
variable{E:iT}{rb:Nat}{c:RC}{sv lv:È}{s d f:St}{a:List (Nat×Int)}
def yP.fL(h:R E rb c sv lv zQ s a w)(k:fc fg w u):yP E rb c sv lv zQ s a w s u:=⟨h.fL k,Tr.fL k⟩
def yP.fw(ok:E.Ok)(h:yP E rb c sv lv zQ s a w d W)(e:i<8)(x:Int):yP E rb c sv lv zQ s a w (d.fw i x) (W.setCell ⟨E.r,i*18,Ä⟩<|Â Æ x):=by let⟨b,f⟩:=h;let⟨g,j⟩:=b.S ok (i*18)<|b.C.yO e x;exact⟨g,f.fh j⟩
end
def akm(E:iT)(ok:E.Ok)(d:Nat)(c:RC)(f g:È)(i:List Int)(s:St)(j:List (Nat×Int))(w:É)(h:R E d c f g i s j w)(q p:Int)(n:0<=q)(o:q<18446744073709551616)(r:0<=p)(t:p<18446744073709551616)(a:c.y<8)(u:0<=(s c.y).fw)(v:(s c.y).fw<18446744073709551616): Ò À 209 #[Å<|Ã ⟨d,0,Ä⟩,Â Æ q,Â Æ p] w λe k=>e=Ç (Â Æ (qx s c.y q p).1)/\yP E d c f g i s j w (qx s c.y q p).2 k:=by
 have x:=h.r.r 0 _ U;have z:=h.r.r 2 _ U;have B:=h.r.M;have C:=fi.M h.C;have D:=h.C.fw a;have F:=fi.C h.C<|c.y*18;have k:(q%8).toNat<8:=Z
 have H:=ff h;by_cases l:(s c.y).fw<p
 .have e:qx s c.y q p=(0,s):=by unfold qx;rw[if_pos l]
  rw[e];generalize(s c.y).fw=b at*;generalize c.y=y at*;go_enter ag,η;go_wp2;go_quiet (fail);go_wp2;go_ret;refine⟨U,yP.fL H.out ?_⟩;exact kp
 .have e:qx s c.y q p=(1,(s.fw c.y<|(s c.y).fw-p).fw (q%8).toNat<|wu<|(s.fw c.y ((s c.y).fw-p) (q%8).toNat).fw+p):=by unfold qx;rw[if_neg l]
  rw[e];have G:=λm=>((h.fL<|fc.iO _ w m).C.yO a<|(s c.y).fw-p).fw k;have I:∀m,((w.drewN m).setCell ⟨E.r,c.y*18,Ä⟩<|Â Æ<|(s c.y).fw-p).frozen? ⟨E.r,(q%8).toNat*18,Ä⟩=Ï:=λm=>fi.C ((h.fL<|fc.iO _ w m).C.yO a<|(s c.y).fw-p) _;generalize(s.fw c.y ((s c.y).fw-p) (q%8).toNat).fw=b2 at*;generalize(s c.y).fw=b at*;go_enter ag,η;go_wp2;go_quiet (fail);go_wp2;go_ret;refine⟨U,((yP.fL H.out ?_).fw ok a _).fw ok k _⟩;exact kp
def kH(E:iT)(rb:Nat)(sv lv:È)(n:Nat)(w:É)(c:RC)(f:List Int)(s:St)(a:List (Nat×Int))(b:É):Prop:=
 ∃d e,R E rb c d e f s a b/\Tr E rb sv lv n w d e a.length b
section
variable{E:iT}{rb:Nat}{c a:RC}{sv lv:È}{w':É}{b:List Int}{s d:St}{ls f:List (Nat×Int)}{p:Int}
def R.jL(h:R E rb c sv lv zQ s ls w):kH E rb sv lv ls.length w c zQ s ls w:=⟨sv,lv,h,Tr.fT _ _ _ _ _ _⟩
def nk(ok:E.Ok)(h:R E rb c sv lv (zQ++[p]) s ls w)(g:zQ.length<=900):Ò À 204 #[Å<|Ã ⟨rb,0,Ä⟩] w λe w'=>e=Ç (Â Æ p)/\ ∃a,R E rb c a lv zQ s ls w'/\Tr E rb sv lv ls.length w a lv ls.length w':=by have b:=h.I;rw[show oV (zQ++[p])=oV zQ++[pM p] by simp[oV],show(zQ++[p]).length=zQ.length+1 by simp]at b;refine(K2 E.r rb c sv 0 zQ p w h.r b Z).mono ?_;rintro e w' ⟨rfl,a,rfl,d,f⟩;exact⟨U,a,h.N ok 6 U d λj q=>by rwa[<-f]⟩
def yR(ok:E.Ok)(h:R E rb c sv lv zQ s ls w)(i:zQ.length<=900)(x:Int):Ò À 203 #[Å<|Ã ⟨rb,0,Ä⟩,Ê (Ã ⟨w.heap.size,0,Ä⟩) 1 1] (w.alloc<|Ð #[Â Æ x] 36) λe w'=>e=Ç (æ #[])/\ ∃b,R E rb c b lv (zQ++[x]) s ls w'/\Tr E rb sv lv ls.length w b lv ls.length w':=by have k:=fc.gI fg w #[Â Æ x] 36;have d:=h.fL k;refine(Zn E.r rb c sv 0 (oV zQ) zQ.length w.heap.size 1 1 [Â Æ x] _ d.r d.I Z Z U (ÿ _ _ _) (λa f=>by simp at f;subst f;rfl)<|â _).mono ?_;rintro e w' ⟨rfl,b,u,a,rfl⟩;let⟨f,g⟩:=d.Y ok (ns:=[x]) U a;exact⟨U,b,f,(Tr.fL k).fh g⟩
def RV(ok:E.Ok)(h:R E rb c sv lv zQ s ls w)(i:zQ.length<=900)(x y:Int):Ò À 203 #[Å<|Ã ⟨rb,0,Ä⟩,Ê (Ã ⟨w.heap.size,0,Ä⟩) 2 2] (w.alloc<|Ð #[Â Æ x,Â Æ y] 36) λe w'=>e=Ç (æ #[])/\ ∃b,R E rb c b lv (zQ++[x,y]) s ls w'/\Tr E rb sv lv ls.length w b lv ls.length w':=by have k:=fc.gI fg w #[Â Æ x,Â Æ y] 36;have d:=h.fL k;refine(Zn E.r rb c sv 0 (oV zQ) zQ.length w.heap.size 2 2 [Â Æ x,Â Æ y] _ d.r d.I Z Z U (ŵ _ _ _ _) (λa f=>by simp at f;rcases f with rfl|rfl<;>rfl)<|â _).mono ?_;rintro e w' ⟨rfl,b,u,a,rfl⟩;let⟨f,g⟩:=d.Y ok (ns:=[x,y]) U a;exact⟨U,b,f,(Tr.fL k).fh g⟩
end
structure ik(E:iT)(lv:È)(n:Nat)(w:É)(s:St)(ls:List (Nat×Int))(w':É)(jv:È):Prop where
 r:iA E.r E.T E.C s jv w'
 I:w'.ownsRow 0 257 2 jv ls.length (j5 ls)
 C:fc (λk=>k=E.r\/lv.ownBlock=Ã k) w w'
 l:∀j,jv.ownBlock=Ã j->lv.ownBlock=Ã j\/w.heap.size<=j
 M:∀v0 n0 wZ,w.ownsRow 0 257 2 v0 n0 wZ->(v0.ownBlock=lv.ownBlock->n0<=n)->w'.ownsRow 0 257 2 v0 n0 wZ/\(v0.ownBlock=jv.ownBlock->n0<=ls.length)
structure Bz where
 r:Int
 C:Bool
 M:Int
 s:St
 I:List (Nat×Int)
abbrev lY:=St->List (Nat×Int)->Nat->Nat->Int->Int->Bz
def gd(n:Int):Prop:=0<=n/\n<18446744073709551616
def lH(c:Int):Nat:=
 if 48<=c/\c<=57 then 1 else if c=43 then 2 else if c=45 then 3 else if c=42 then 4 else if c=47 then 5 else if c=60 then 6 else if c=61 then 7
 else if c=100 then 8 else if c=120 then 9 else if c=112 then 10 else if c=107 then 11 else if c=99 then 12 else if c=121 then 13 else if c=98 then 14
 else if c=108 then 15 else if c=116 then 16 else if c=106 then 17 else if c=118 then 18 else if c=101 then 19 else if c=111 then 20 else if c=114 then 21 else if c=102 then 22 else 0
def xd(c:UInt8):Bool:=decide<|lH (c.toNat:Int)≠0
structure gJ(s:St):Prop where
 fw:∀i,gd (s i).fw
 C:∀i j,gd<|(s i).C j
 I:∀i,(s i).r.size<=40/\∀c∈(s i).r.data.toList,xd c=Ú
def fY(l:List Int):Int:=l.getLastD 0
theorem Zo(l:List Int)(h:0<l.length):l=l.dropLast++[fY l]:=by
 have a:l≠[]:=by intro e;subst e;simp at h
 unfold fY;grind [List.dropLast_concat_getLast]
section
variable{E:iT}{c:RC}{s:St}{a:List (Nat×Int)}{q r:Int}
def akn(ok:E.Ok)(b:R E i c x v (zQ++[h]) s a w)(k:zQ.length<=800)(l:c.y<8): Ò À 205 #[Å<|Ã ⟨i,0,Ä⟩,Â Ë 8] w λe H=>e=Ç (æ #[])/\kH E i x v a.length w c (zQ++[h,h]) s a H:=by have m:=b.r.r 0 _ U;have n:=b.r.r 2 _ U;have o:=b.r.M;have p:=fi.M b.C;have H:=ff b;go_enter ê,å;go_wp2_with fail;go_quiet (fail);go_wp2_with fail;go_at_call 204;refine(nk ok (H.out.fL<|fc.iO _ _ _) (by first|omega|(simp;omega))).mono ?_;rintro e q ⟨rfl,r,d,f⟩;go_wp2_with fail;go_at_call 203;refine(RV ok d (by first|omega|(simp;omega)) _ _).mono ?_;rintro e t ⟨rfl,u,g,j⟩;go_wp2_with fail;go_end0;exact⟨U,_,_,g,(((Tr.fL<|fc.iO _ _ _).fh f).fh j)⟩
def ako(ok:E.Ok)(b:R E i c x v ((zQ++[h])++[q]) s a w)(m:zQ.length<=800)(n:c.y<8): Ò À 205 #[Å<|Ã ⟨i,0,Ä⟩,Â Ë 9] w λe H=>e=Ç (æ #[])/\kH E i x v a.length w c (zQ++[q,h]) s a H:=by have o:=b.r.r 0 _ U;have p:=b.r.r 2 _ U;have r:=b.r.M;have t:=fi.M b.C;have H:=ff b;go_enter ê,å;go_wp2_with fail;go_quiet (fail);go_wp2_with fail;go_at_call 204;refine(nk ok (H.out.fL<|fc.iO _ _ _) (by first|omega|(simp;omega))).mono ?_;rintro e u ⟨rfl,z,d,f⟩;go_wp2_with fail;go_at_call 204;refine(nk ok d (by first|omega|(simp;omega))).mono ?_;rintro e B ⟨rfl,C,g,j⟩;go_wp2_with fail;go_at_call 203;refine(RV ok g (by first|omega|(simp;omega)) _ _).mono ?_;rintro e D ⟨rfl,F,k,l⟩;go_wp2_with fail;go_end0;exact⟨U,_,_,k,((((Tr.fL<|fc.iO _ _ _).fh f).fh j).fh l)⟩
def akp(ok:E.Ok)(b:R E i c x v (zQ++[h]) s a w)(g:zQ.length<=800)(j:c.y<8): Ò À 205 #[Å<|Ã ⟨i,0,Ä⟩,Â Ë 10] w λe H=>e=Ç (æ #[])/\kH E i x v a.length w c zQ s a H:=by have k:=b.r.r 0 _ U;have l:=b.r.r 2 _ U;have m:=b.r.M;have n:=fi.M b.C;have H:=ff b;go_enter ê,å;go_wp2_with fail;go_quiet (fail);go_wp2_with fail;go_at_call 204;refine(nk ok (H.out.fL<|fc.iO _ _ _) (by first|omega|(simp;omega))).mono ?_;rintro e o ⟨rfl,p,d,f⟩;go_wp2_with fail;go_end0;exact⟨U,_,_,d,((Tr.fL<|fc.iO _ _ _).fh f)⟩
def akq(ok:E.Ok)(h:R E i c x v zQ s a w)(f:zQ.length<=800)(g:c.y<8): Ò À 205 #[Å<|Ã ⟨i,0,Ä⟩,Â Ë 11] w λe H=>e=Ç (æ #[])/\kH E i x v a.length w c (zQ++[c.k]) s a H:=by have j:=h.r.r 0 _ U;have l:=h.r.r 2 _ U;have m:=h.r.M;have n:=fi.M h.C;have o:=h.r.r 3 _ U;have H:=ff h;go_enter ê,å;go_wp2_with fail;go_quiet (fail);go_wp2_with fail;go_at_call 203;refine(yR ok (H.out.fL<|fc.iO _ _ _) (by first|omega|(simp;omega)) _).mono ?_;rintro e p ⟨rfl,q,b,d⟩;go_wp2_with fail;go_end0;exact⟨U,_,_,b,((Tr.fL<|fc.iO _ _ _).fh d)⟩
def akr(ok:E.Ok)(h:R E i c x v zQ s a w)(f:zQ.length<=800)(g:c.y<8)(j:c.x<8): Ò À 205 #[Å<|Ã ⟨i,0,Ä⟩,Â Ë 12] w λe H=>e=Ç (æ #[])/\kH E i x v a.length w c (zQ++[(c.x:Int)]) s a H:=by have k:=h.r.r 0 _ U;have l:=h.r.r 2 _ U;have m:=h.r.M;have n:=fi.M h.C;have o:=h.r.r 1 _ U;have H:=ff h;go_enter ê,å;go_wp2_with fail;go_quiet (fail);go_wp2_with fail;go_at_call 203;refine(yR ok (H.out.fL<|fc.iO _ _ _) (by first|omega|(simp;omega)) _).mono ?_;rintro e p ⟨rfl,q,b,d⟩;go_wp2_with fail;go_end0;exact⟨U,_,_,b,((Tr.fL<|fc.iO _ _ _).fh d)⟩
def aks(ok:E.Ok)(h:R E i c x v zQ s a w)(f:zQ.length<=800)(g:c.y<8): Ò À 205 #[Å<|Ã ⟨i,0,Ä⟩,Â Ë 13] w λe H=>e=Ç (æ #[])/\kH E i x v a.length w c (zQ++[(c.y:Int)]) s a H:=by have j:=h.r.r 0 _ U;have k:=h.r.r 2 _ U;have l:=h.r.M;have m:=fi.M h.C;have H:=ff h;go_enter ê,å;go_wp2_with fail;go_quiet (fail);go_wp2_with fail;go_at_call 203;refine(yR ok (H.out.fL<|fc.iO _ _ _) (by first|omega|(simp;omega)) _).mono ?_;rintro e n ⟨rfl,o,b,d⟩;go_wp2_with fail;go_end0;exact⟨U,_,_,b,((Tr.fL<|fc.iO _ _ _).fh d)⟩
def akt(ok:E.Ok)(h:R E i c x v zQ s a w)(g:zQ.length<=800)(b:c.y<8): Ò À 205 #[Å<|Ã ⟨i,0,Ä⟩,Â Ë 14] w λe H=>e=Ç (æ #[])/\kH E i x v a.length w c (zQ++[(s c.y).fw]) s a H:=by have j:=h.r.r 0 _ U;have k:=h.r.r 2 _ U;have l:=h.r.M;have m:=fi.M h.C;have n:=h.C.fw b;have H:=ff h;go_enter ê,å;go_wp2_with fail;go_quiet (fail);go_wp2_with fail;go_at_call 203;refine(yR ok (H.out.fL<|fc.iO _ _ _) (by first|omega|(simp;omega)) _).mono ?_;rintro e o ⟨rfl,p,d,f⟩;go_wp2_with fail;go_end0;exact⟨U,_,_,d,((Tr.fL<|fc.iO _ _ _).fh f)⟩
def aku(ok:E.Ok)(b:R E i c x v (zQ++[h]) s a w)(o:zQ.length<=800)(g:c.y<8)(d:gd h): Ò À 205 #[Å<|Ã ⟨i,0,Ä⟩,Â Ë 15] w λe f=>e=Ç (æ #[])/\kH E i x v a.length w c (zQ++[(s c.y).C (h%16).toNat]) s a f:=by have p:=b.r.r 0 _ U;have q:=b.r.r 2 _ U;have r:=b.r.M;have t:=fi.M b.C;have H:=ff b;go_enter ê,å;go_wp2_with fail;go_quiet (fail);go_wp2_with fail;go_at_call 204;refine(nk ok (H.out.fL<|fc.iO _ _ _) (by first|omega|(simp;omega))).mono ?_;rintro e u ⟨rfl,z,f,k⟩;have B:=f.C.Zk g (j:=(h%16).toNat) Z;have C:=d.1;have D:=d.2;go_wp2_with fail;go_at_call 208;refine(Zl E.r (c.y*18) h d.1 d.2 _).mono ?_;rintro e l ⟨rfl,F⟩;subst l;go_wp2_with fail;go_at_call 203;refine(yR ok f (by first|omega|(simp;omega)) _).mono ?_;rintro e G ⟨rfl,I,m,n⟩;go_wp2_with fail;go_end0;exact⟨U,_,_,m,(((Tr.fL<|fc.iO _ _ _).fh k).fh n)⟩
def akv(ok:E.Ok)(b:R E i c x v ((zQ++[h])++[q]) s a w)(r:zQ.length<=800)(g:c.y<8)(d:gd q): Ò À 205 #[Å<|Ã ⟨i,0,Ä⟩,Â Ë 16] w λe f=>e=Ç (æ #[])/\kH E i x v a.length w c zQ (s.r c.y (q%16).toNat h) a f:=by have t:=b.r.r 0 _ U;have u:=b.r.r 2 _ U;have z:=b.r.M;have B:=fi.M b.C;have H:=ff b;go_enter ê,å;go_wp2_with fail;go_quiet (fail);go_wp2_with fail;go_at_call 204;refine(nk ok (H.out.fL<|fc.iO _ _ _) (by first|omega|(simp;omega))).mono ?_;rintro e C ⟨rfl,D,k,l⟩;go_wp2_with fail;go_at_call 204;refine(nk ok k (by first|omega|(simp;omega))).mono ?_;rintro e F ⟨rfl,G,f,m⟩;have I:=f.C.Zk g (j:=(q%16).toNat) (by have:=d.1;omega);have J:=fi.C f.C<|c.y*18+2+(q%16).toNat;go_wp2_with fail;go_at_call 208;refine(Zl E.r (c.y*18) q d.1 d.2 _).mono ?_;rintro e n ⟨rfl,K⟩;subst n;go_wp2_with fail;go_end0;let⟨o,p⟩:=f.S ok (c.y*18+2+(q%16).toNat) (f.C.RP g (by have:=d.1;omega) h);exact⟨U,_,_,o,(((Tr.fL<|fc.iO _ _ _).fh l).fh m).fh p⟩
def akw(ok:E.Ok)(b:R E i c x v ((zQ++[h])++[q]) s a w)(u:zQ.length<=800)(j:c.y<8)(d:gd h)(f:gd q)(g:gJ s): Ò À 205 #[Å<|Ã ⟨i,0,Ä⟩,Â Ë 18] w λe H=>e=Ç (æ #[])/\kH E i x v a.length w c (zQ++[(qx s c.y q h).1]) (qx s c.y q h).2 a H:=by have z:=b.r.r 0 _ U;have B:=b.r.r 2 _ U;have C:=b.r.M;have D:=fi.M b.C;have H:=ff b;go_enter ê,å;go_wp2_with fail;go_quiet (fail);go_wp2_with fail;go_at_call 204;refine(nk ok (H.out.fL<|fc.iO _ _ _) (by first|omega|(simp;omega))).mono ?_;rintro e F ⟨rfl,G,k,l⟩;go_wp2_with fail;go_at_call 204;refine(nk ok k (by first|omega|(simp;omega))).mono ?_;rintro e I ⟨rfl,J,m,n⟩;go_wp2_with fail;go_at_call 209;refine(akm E ok i c _ v _ s a _ m q h f.1 f.2 d.1 d.2 j (g.fw _).1 (g.fw _).2).mono ?_;rintro e K ⟨rfl,o,p⟩;go_wp2_with fail;go_at_call 203;refine(yR ok o (by first|omega|(simp;omega)) _).mono ?_;rintro e L ⟨rfl,M,r,t⟩;go_wp2_with fail;go_end0;exact⟨U,_,_,r,(((((Tr.fL<|fc.iO _ _ _).fh l).fh n).fh p).fh t)⟩
def akx{k:Int}(ok:E.Ok)(b:R E i c x v ((zQ++[h])++[q]) s a w)(r:zQ.length<=800)(t:c.y<8)(d:gd h)(f:gd q)(u:2<=k)(z:k<=7): Ò À 205 #[Å<|Ã ⟨i,0,Ä⟩,Â Ë k] w λe H=>e=Ç (æ #[])/\kH E i x v a.length w c (zQ++[xc k h q]) s a H:=by
 have B:=b.r.r 0 _ U;have C:=b.r.r 2 _ U;have D:=b.r.M;have F:=fi.M b.C;have G:(k==8)=Ï:=by rw[beq_eq_false_iff_ne];omega
 have I:(k==9)=Ï:=by rw[beq_eq_false_iff_ne];omega
 have J:(k==10)=Ï:=by rw[beq_eq_false_iff_ne];omega
 have K:(k==11)=Ï:=by rw[beq_eq_false_iff_ne];omega
 have L:(k==12)=Ï:=by rw[beq_eq_false_iff_ne];omega
 have M:(k==13)=Ï:=by rw[beq_eq_false_iff_ne];omega
 have N:(k==14)=Ï:=by rw[beq_eq_false_iff_ne];omega
 have O:(k==15)=Ï:=by rw[beq_eq_false_iff_ne];omega
 have P:(k==16)=Ï:=by rw[beq_eq_false_iff_ne];omega
 have Q:(k==18)=Ï:=by rw[beq_eq_false_iff_ne];omega
 have S:(k==19)=Ï:=by rw[beq_eq_false_iff_ne];omega
 have T:(k==20)=Ï:=by rw[beq_eq_false_iff_ne];omega
 have H:=ff b;go_enter ê,å;go_wp2_with fail;go_quiet (fail);go_wp2_with fail;go_at_call 204;refine(nk ok (H.out.fL<|fc.iO _ _ _) (by first|omega|(simp;omega))).mono ?_;rintro e V ⟨rfl,W,g,j⟩;go_wp2_with fail;go_at_call 204;refine(nk ok g (by first|omega|(simp;omega))).mono ?_;rintro e X ⟨rfl,Y,l,m⟩;go_wp2_with fail;go_at_call 211;refine(ake k h q d.1 d.2 f.1 f.2 _).mono ?_;rintro e n ⟨rfl,tR⟩;subst n;go_wp2_with fail;go_at_call 203;refine(yR ok l (by first|omega|(simp;omega)) _).mono ?_;rintro e w4 ⟨rfl,sv4,o,p⟩;go_wp2_with fail;go_end0;exact⟨U,_,_,o,((((Tr.fL<|fc.iO _ _ _).fh j).fh m).fh p)⟩
end
def K4{P:Program}{ops:Array Oper}{o:Oper}{a:Act}{w:World}{K:Act->World->Prop}{Q:Exit->Act->World->Prop}{E:Prop}{base:Nat}{e:TypeId}{size n:Nat}{v:Value}{xs:List Value} (hg:o.guard=none) (s x:Operand) (t:TypeId) (Ff:o.op=Op.call {callee:=Callee.builtin Builtin.append,args:=#[s,x],argTypes:=#[t,t]}) {i:TypeInfo} {z:Value} {bytes:Nat} (ht:P.underlying t=some (.slice e)) (hi:P.info? e=some i) (hz:i.zero=some z) (w7:i.size=size) (xa:i.bytes=bytes) (rf:z.cells.size=size) (hs:a.eval s=v) (ll:w.ownsRow base e size v n xs) (ad:Addr) {m c:Nat} (news:List Value) (hx:a.eval x=.slice (some ad) m c) (hm:0<m) (hl:news.length=m*size) (RL:∀j u,news[j]?=some u->w.cell? (ad.add j)=some u) (h1:∀u∈news,u.oneCell'=true) (Bv:n+m<=maxLen) (Bw:(n+m)*bytes<=140737488355328) (Bt:base<=w.heap.size) (h:∀v' w',pL w base e size v n xs m news v' w'->K (a.put o.dst v') w') (hfl:lW e=false\/(0<news.length/\(∀u∈xs++news,j4 u=true)/\∀u∈z.cells.toList,j4 u=true):=by first|exact Or.inl (by decide)|exact Or.inr ⟨by simp,by simp[j4],by simp[j4,Value.cells]⟩): if Region.wanted o (yielded ops a.tmps)=true then Oper.wp P o a w K Q else E:=by
 have hw:Ĝ o (ah ops a.tmps)=Ú:=by simp[Ĝ,hg]
 rw[if_pos hw];let⟨v',w',hr,h2⟩:=RG (ty:=o.type) ht hi hz w7 xa rf ll ad c news hm hl RL h1 Bv Bw Bt hfl;unfold Ń;simp[Ĥ,Ff,ae,aO,af,hs,hx,hr,į];exact h v' w' h2
def aky:(À.info? 257).map (λi=>(i.zero,i.size,i.bytes))=Ã (Ã<|Ē #[Â Ë 0,Â Æ 0],2,16):=fu
def Zp(b:List (Nat×Int)):∀u∈j5 b,j4 u=Ú:=λu a=>by unfold j5 at a;let⟨e,_,h⟩:=Β.1 a;simp[RN,pM]at h;rcases h with rfl|rfl<;>rfl
section
variable{E:iT}{c:RC}{g d:È}{s:St}{ls:List (Nat×Int)}{p:Int}
theorem R.akz(ok:E.Ok)(h:R E k c g jQ zQ s ls w)(a:pL w 0 257 2 jQ ls.length (j5 ls) 1 [Â Ë b,Â Æ p] d W): (R E k c g jQ zQ s ls W/\W.ownsRow 0 257 2 d (ls++[(b,p)]).length (j5<|ls++[(b,p)]))/\ R E k c g d zQ s (ls++[(b,p)]) (W.setCell ⟨E.r,144,Ä⟩ d)/\Tr E k g jQ ls.length w g d (ls++[(b,p)]).length (W.setCell ⟨E.r,144,Ä⟩ d):=by
 have m:∀{i:Nat} {o:Array È} {T:õ},jQ.ownBlock=Ã i->w.heap[i]?=Ã (Ð o T (0,0))->T=257:=λ{i o T} q hc=>by let⟨l,e⟩:=lG h.M q;grind
 have f:R E k c g jQ zQ s ls W:=⟨h.r.I a.r λq=>absurd (m q h.r) A,ia h.I a.r (λj q r=>by let⟨l,e⟩:=lG h.I q;exact absurd (m r e) A),h.C.I a.r λq=>ok.r<|m q h.C,a.I _ _ _ h.M λ_=>Þ _⟩;have n:W.ownsRow 0 257 2 d (ls++[(b,p)]).length (j5<|ls++[(b,p)]):=by have:=a.fq;rwa[show j5 ls++[Â Ë b,Â Æ p]=j5 (ls++[(b,p)]) by simp[j5,RN,pM],show ls.length+1=(ls++[(b,p)]).length by simp]at this
 have l:=fc.I (X:=λe=>e=E.r) (p:=⟨E.r,144,Ä⟩) U d<|Ù<|fi.G f.C ok.C;refine⟨⟨f,n⟩,⟨f.r.I l (fi.S f.C f.r ok.I).symm,ia f.I l λj q r=>jw f.I f.C ok.M.symm (by rw[q,r]),f.C.aj9 d,ia n l λj q r=>jw n f.C ok.r.symm<|by rw[q,r]⟩,?_,λj q=>Ø q,λj q=> ?_,λv x y t z=> ?_⟩
 .refine(a.r.S λe _ q=>Ù<|Ù<|Ù q).C l λi _ q=>Ø q
 .rcases a.C with e|e;all_goals grind
 .have u:=a.I v x y t z;refine⟨ia u l λj q r=>jw u f.C ok.r.symm (by rw[q,r]),λq=> ?_⟩;rcases a.C with e|e
  .grind
  .rw[e]at q;have:=(t.lt _ q).2;omega
end
def gl{f:(Nat->Value)->Act}(a:Act)(h:a=f (λn=>a.tmps.getD n undef):=by rfl):∃u,a=f u:=⟨_,h⟩
section
variable{md:Ι}{ops:Array ş}{Q:aS->é->É->Prop}{S:É->Prop}{X:List Nat}
def oz(P:aE)(md:Ι)(ops:Array ş)(Q:aS->é->É->Prop)(S:É->Prop)(X:List Nat):Nat->Array Bool->é->É->Prop
 |0,listed,a,w=>Ā md ops listed=[]/\Q .normal a w
 |fuel+1,listed,a,w=>(Ā md ops listed=[]->Q .normal a w)/\
  ∀i∈Ā md ops listed,wpOp P ops Q i (λc b=>(i∉X->S b)/\oz P md ops Q S X fuel (listed.setIfInBounds i Ú) c b) a w
def Zq:∀(b:Nat) (listed:Array Bool) (a:é) (w:É),oz P md ops Q S X b listed a w->wpAny P md ops Q b listed a w
 |0,_,_,_,h=>h
 |b+1,_,_,_,h=>⟨h.1,λi c=>wpOp_mono (λd e q=>Zq b _ d e q.2)<|h.2 i c⟩
def rS(md:Ι)(ops:Array ş)(X:List Nat)(i:Nat):Bool:=X.all λx=>match ops[x]? with
 |some o=>o.after.toList.any λe=>ń md e&&e.on==i
 |none=>Ú
theorem akA{listed:Array Bool}(a:rS md ops X i=Ú)(c:ops[j]?=Ã o)(d:listed.getD i Ï=Ï)(f:∀e∈o.after,ń md e=Ú->listed.getD e.on Ï=Ú):j∉X:=by intro b;have g:=List.all_eq_true.1 a j b;grind
theorem akB{m:ş}(x:ops[i]?=Ã m)(y:∀(j:Nat) (o:ş) n b,ops[j]?=Ã o->o.op≠.select n b)(E:rS md ops X i=Ú) (F:∀c a w,Q (.panic c) (a.put m.dst v) w->Q (.panic c) a w): ∀(p:Nat) (d:Array Bool) (a:é) (w:É),(∀j g,ops[j]?=Ã g->j≠i->d.getD j Ú=Ï->(∀e∈g.after,ń md e=Ú->e.on≠i)->m.apart ops g=Ú)-> i∈Ā md ops d->YieldsIf P ops S m v a->S w->oz P md ops Q S X p (d.setIfInBounds i Ú) (a.put m.dst v) w->oz P md ops Q S X (p+1) d a w:=by
 have G:∀{d:Array Bool},i∈Ā md ops d->d.getD i Ï=Ï:=λ{d} l=>by have D:=(mem_ready.1 l).1;grind
 intro p
 induction p with
 |zero=>
  intro d a w _ l s r H;refine⟨λh=>absurd (h▸l) fp,λj t=> ?_⟩;by_cases f:j=i
  .subst f;exact s.wpOp x r ⟨λ_=>r,H⟩
  .exact absurd (H.1▸Ω t f) fp
 |succ p I=>
  intro d a w z l s r H;refine⟨λh=>absurd (h▸l) fp,λj t=> ?_⟩;by_cases f:j=i
  .subst f;exact s.wpOp x r ⟨λ_=>r,H⟩
  .let⟨B,g,u,J⟩:=mem_ready.1 t;have K:∀e∈g.after,ń md e=Ú->e.on≠i:=λe V W Y=>by
    grind
   refine wpOp_mono (λD L q=>⟨q.2.1,I (d.setIfInBounds j Ú) D L (λk M N O C T=>z k M N O ?_ T) (Ω l<|Ne.symm f) q.1 (q.2.1<|akA E u (G l) J) ?_⟩)<|wpOp_putIf u (z j g u f B K) (λn b=>y i m n b x) (λn b=>y j g n b u) F s<|H.2 j<|Ω t f
   .by_cases D:j=k
    .subst D;exact B
    .rwa[getD_set_ne Ú D]at C
   .rw[Array.setIfInBounds_comm _ _ f];exact q.2.2
def Hb{oi:ş}{listed:Array Bool}(b:ops[i]?=Ã oi) (d:Region.noSelect ops=Ú) (e:Region.free md ops listed i=Ú) (f:(Ā md ops listed).contains i=Ú) (g:rS md ops X i=Ú) (j:∀c y w,Q (.panic c) (y.put oi.dst v) w->Q (.panic c) y w) (k:S w) (l:YieldsIf P ops S oi v y) (h:oz P md ops Q S X n (listed.setIfInBounds i Ú) (y.put oi.dst v) w):oz P md ops Q S X (n+1) listed y w:= akB b (Region.noSelect_spec d) g j n listed y w (Region.free_spec b e) (by simpa using f) l k h
def akC{listed:Array Bool}(c:Ā md ops listed=[i])(e:ops[i]?=Ã o) (h:∀b:é->É->Prop,Shut (∀y w,(i∉X->S w)->oz P md ops Q S X n (listed.setIfInBounds i Ú) y w->b y w)->if Ĝ o (ah ops y.tmps)=Ú then Ń P o y w b Q else b (y.put o.dst ā) w):oz P md ops Q S X (n+1) listed y w:=by
 refine⟨λq=>absurd (c▸q) fp,λj d=> ?_⟩;rw[c]at d;have:j=i:=by simpa using d
 subst this;exact χ e λb f=>h b λy w g k=>f y w ⟨g,k⟩
def ix:List ş->Nat->Option ş
 |[],_=>Ä
 |o::_,0=>Ã o
 |_::l,n+1=>ix l n
def Zr:∀{l:List ş} {i:Nat} {o:ş},ix l i=Ã o->l.toArray[i]?=Ã o
 |[],_,_,h=>by cases h
 |o::l,0,_,h=>by simpa[ix]using h
 |o::l,n+1,_,h=>by simpa using Zr (l:=l) h
def Zs(h:ix ops.toList i=Ã o):ops[i]?=Ã o:=by simpa using Zr h
def tk{oi:Oper}{v:Value}{fuel:Nat}{listed:Array Bool}{a0 a a':Act}{w:World}(hS:S w)(i:Nat:=ops.size-1-fuel)(h:oz P md ops Q S X fuel (listed.setIfInBounds i true) a' w) (h0:a0=a:=by(try simp only[Act.put,List.setIfInBounds_toArray,List.set_cons_zero,List.set_cons_succ]);rfl) (hi:ix ops.toList i=some oi:=by rfl) (hs:Region.noSelect ops=true:=by kernel_rfl) (hf:Region.free md ops listed i=true:=by kernel_rfl) (hr:(Region.ready md ops listed).contains i=true:=by kernel_rfl) (hw:rS md ops X i=true:=by kernel_rfl) (hQ:∀v c a w,Q (.panic c) (a.put oi.dst v) w->Q (.panic c) a w:=by exact λ_ _ _ _ h=>h) (hn:Region.wanted oi (yielded ops a.tmps)=true:=by rfl) (hy:∀w,S w->(execOp a.eval oi).run P w=.ok (.value v) w:=by intro w h;revert h;simp only[and_imp];intros;go_simp;try(with_reducible rfl)) (ha:a.put oi.dst v=a':=by(try simp only[Act.put,List.setIfInBounds_toArray,List.set_cons_zero,List.set_cons_succ]);rfl):oz P md ops Q S X (fuel+1) listed a0 w:= h0▸Hb (Zs hi) hs hf hr hw (hQ v) hS (Ø ⟨hn,hy⟩) (ha▸h)
def gC(i:Nat){o:Oper}{fuel:Nat}{listed:Array Bool}{a0 a:Act}{w:World} (h:∀K':Act->World->Prop,Shut (∀a w,(i∉X->S w)->oz P md ops Q S X fuel (listed.setIfInBounds i true) a w->K' a w)->if Region.wanted o (yielded ops a.tmps)=true then Oper.wp P o a w K' Q else K' (a.put o.dst undef) w) (h0:a0=a:=by(try simp only[Act.put,List.setIfInBounds_toArray,List.set_cons_zero,List.set_cons_succ]);rfl) (hr:Region.ready md ops listed=[i]:=by kernel_rfl) (ho:ix ops.toList i=some o:=by rfl):oz P md ops Q S X (fuel+1) listed a0 w:=h0▸akC hr (Zs ho) h
def akD{oi oj:ş}{listed:Array Bool}(g:Ā md ops listed=[i,j])(h:ops[i]?=Ã oi)(l:ops[j]?=Ã oj) (m:∀b:é->É->Prop,Shut (∀y w,(i∉X->S w)->oz P md ops Q S X n (listed.setIfInBounds i Ú) y w->b y w)->if Ĝ oi (ah ops y.tmps)=Ú then Ń P oi y w b Q else b (y.put oi.dst ā) w) (o:∀b:é->É->Prop,Shut (∀y w,(j∉X->S w)->oz P md ops Q S X n (listed.setIfInBounds j Ú) y w->b y w)->if Ĝ oj (ah ops y.tmps)=Ú then Ń P oj y w b Q else b (y.put oj.dst ā) w):oz P md ops Q S X (n+1) listed y w:=by
 refine⟨λq=>absurd (g▸q) fp,λk c=> ?_⟩;rw[g]at c;rcases List.mem_cons.1 c with rfl|c
 .exact χ h λb d=>m b λy w e f=>d y w ⟨e,f⟩
 .have:k=j:=by simpa using c
  subst this;exact χ l λb d=>o b λy w e f=>d y w ⟨e,f⟩
def lI{listed:Array Bool}(b:Ā md ops listed=[])(h:Q .normal y w):∀c,oz P md ops Q S X c listed y w
 |0=>⟨b,h⟩
 |_+1=>⟨λ_=>h,by rw[b];simp⟩
def lZ{id:Nat}(S:É->Prop)(X:List Nat)(b:P.follows .mixedOrders=Ú) (h:oz P .any ops Q S X ops.size (ō ops.size Ï) y w.drew):(Code.region id ops Ú).wp P Q y w:= wp_region_any b<|Zq _ _ _ _ h
end
section
variable{E:iT}{c:RC}{s:St}{a:List (Nat×Int)}
def akE(ok:E.Ok)(b:R E i c x v (zQ++[h]) s a w)(G:zQ.length<=800)(I:c.y<8)(J:a.length<=1000000): Ò À 205 #[Å<|Ã ⟨i,0,Ä⟩,Â Ë 19] w λe u=>e=Ç (æ #[])/\kH E i x v a.length w c zQ s (a++[(c.y,h)]) u:=by
 have L:w.cell? ⟨i,0,Ä⟩=Ã (Å<|Ã ⟨E.r,0,Ä⟩):=b.r.r 0 _ U;have M:w.cell? ⟨i,2,Ä⟩=Ã (Â Ë c.y):=b.r.r 2 _ U;have N:=b.r.M;have O:=fi.M b.C;let⟨P,l,o,p,r⟩:=í aky;have j:=ff<|Á l<|Á o<|Á p r;have H:=ff b;clear b l o p r;go_enter ê,å;go_wp2_with fail;go_quiet (fail);go_wp2_with fail;have B:=ff<|Á ((H.out.fL<|(fc.iO _ _ nq).fh<|fc.fR _ _).r.r 0 _ rfl)<|Á ((H.out.fL<|(fc.iO _ _ nq).fh<|fc.fR _ _).r.r 2 _ rfl) (H.out.fL<|(fc.iO _ _ nq).fh<|fc.fR _ _).C.Bx;refine lZ (λu=>u.cell? ⟨i,0,Ä⟩=Ã (Å<|Ã ⟨E.r,0,Ä⟩)/\u.cell? ⟨i,2,Ä⟩=Ã (Â Ë c.y)/\u.cell? ⟨E.r,144,Ä⟩=Ã v) [22] fu ?_;iterate 16 apply tk B.out
 refine gC 16 ?_;intro K d;go_simp;go_at_call 204;refine(nk ok (H.out.fL<|fc.iO _ _ _) Z).mono ?_;rintro e t ⟨rfl,Q,f,C⟩;dsimp only;refine d.out _ _ (λ_=>⟨f.r.r 0 _ U,f.r.r 2 _ U,f.C.Bx⟩) ?_;clear d K;refine gC 17 ?_;intro K d;go_simp;refine d.out _ _ (λ_=>⟨f.r.r 0 _ U,f.r.r 2 _ U,f.C.Bx⟩) ?_;clear d K;have g:=f.fL<|fc.gI fg t #[Â Ë c.y,Â Æ h] 257;refine gC 18 ?_;intro K d;go_simp;refine d.out _ _ (λ_=>⟨g.r.r 0 _ U,g.r.r 2 _ U,g.C.Bx⟩) ?_;clear d K;refine gC 19 ?_;intro K d;refine K4 (hfl:=Ù ⟨fp,λu k=>(ú.1 k).elim (Zp a u) (λq=>by simp at q;rcases q with rfl|rfl<;>rfl),by simp[j4,ğ]⟩) (base:=0) (n:=a.length) (xs:=j5 a) (m:=1) fW _ _ 142 fW Tryz.underlying142 j.out.1 j.out.2.1 j.out.2.2.1 j.out.2.2.2 U fW g.M ⟨t.heap.size,0,Ä⟩ [Â Ë c.y,Â Æ h] fW Z U (ŵ _ _ _ _) (λu k=>by simp at k;rcases k with rfl|rfl<;>rfl) (by unfold Ą;omega) Z (â _) ?_;intro S T k;obtain⟨V,W,rfl⟩:=jo k.fq;let⟨⟨u,_⟩,D,F⟩:=g.akz ok k;refine d.out _ _ (λ_=>⟨u.r.r 0 _ U,u.r.r 2 _ U,u.C.Bx⟩) ?_;clear d K;have z:=u.C.Bx;have X:=fi.C u.C 144;refine gC 20 ?_;intro K d;go_simp;refine d.out _ _ (λ_=>⟨u.r.r 0 _ U,u.r.r 2 _ U,z⟩) ?_;clear d K;refine gC 21 ?_;intro K d;go_simp;refine d.out _ _ (λ_=>⟨u.r.r 0 _ U,u.r.r 2 _ U,z⟩) ?_;clear d K;refine gC 22 ?_;intro K d;go_simp;refine d.out _ _ (λq=>absurd fp q) ?_;clear d K;try simp only[ĵ,Õ,ã,ä]
 refine lI fu ?_ _;go_wp2_with fail;go_end0;exact⟨U,_,_,D,(((Tr.fL<|(fc.iO _ _ _).fh<|fc.fR _ _).fh C).fh<|Tr.fL<|fc.gI _ _ _ _).fh F⟩
end
structure RT where
 r:List Int
 s:St
 C:List (Nat×Int)
 g:Int
def iU(F:lY)(c:RC)(t:RT)(q p k:Int):Int×Int×RT:=
 if c.d=4 then(0,0,t)else
  ((F t.s t.C c.y (q%8).toNat (min p t.g) k).M,xb (F t.s t.C c.y (q%8).toNat (min p t.g) k).C,
    {t with s:=(F t.s t.C c.y (q%8).toNat (min p t.g) k).s,C:=(F t.s t.C c.y (q%8).toNat (min p t.g) k).I,g:=t.g-(F t.s t.C c.y (q%8).toNat (min p t.g) k).r})
def fV(l:List Int):List Int:=l.dropLast
def nX(F:lY)(c:RC)(a:Nat)(t:RT):RT:=
 if a=8 then{t with r:=fV t.r++[fY t.r,fY t.r]}
 else if a=9 then{t with r:=fV (fV t.r)++[fY t.r,fY<|fV t.r]}
 else if a=10 then{t with r:=fV t.r}
 else if a=11 then{t with r:=t.r++[c.k]}
 else if a=12 then{t with r:=t.r++[(c.x:Int)]}
 else if a=13 then{t with r:=t.r++[(c.y:Int)]}
 else if a=14 then{t with r:=t.r++[(t.s c.y).fw]}
 else if a=15 then{t with r:=fV t.r++[(t.s c.y).C (fY t.r%16).toNat]}
 else if a=16 then{t with r:=fV<|fV t.r,s:=t.s.r c.y (fY t.r%16).toNat (fY<|fV t.r)}
 else if a=18 then{t with r:=fV (fV t.r)++[(qx t.s c.y (fY t.r)<|fY<|fV t.r).1],s:=(qx t.s c.y (fY t.r)<|fY<|fV t.r).2}
 else if a=19 then{t with r:=fV t.r,C:=t.C++[(c.y,fY t.r)]}
 else if a=20 then
  {(iU F c t (fY t.r) (fY<|fV t.r)<|fY<|fV<|fV t.r).2.2 with r:=fV (fV<|fV t.r)++[(iU F c t (fY t.r) (fY<|fV t.r)<|fY<|fV<|fV t.r).1,(iU F c t (fY t.r) (fY<|fV t.r)<|fY<|fV<|fV t.r).2.1]}
 else{t with r:=fV (fV t.r)++[xc a (fY<|fV t.r)<|fY t.r]}
structure Zt(ls:List (Nat×Int))(g:Int)(e:Bz):Prop where
 C:0<=e.r
 r:e.r<=g
 N:gJ e.s
 M:gd e.M
 I:(e.I.length:Int)<=ls.length+e.r
def pO(F:lY):Prop:=∀s a x y g k,gJ s->x<8->y<8->gd k->0<=g->g<=100000->(a.length:Int)+g<=1000000->Zt a g (F s a x y g k)
def sw(F:lY)(d:Int):Prop:=∀(E:iT),E.Ok->∀(s:St) (b:È) (a:List (Nat×Int)) (x y:Nat) (g k:Int) (w:É),iA E.r E.T E.C s b w->w.ownsRow 0 257 2 b a.length (j5 a)->iK w->gJ s->x<8->y<8->0<=g->g<=100000->gd k->(a.length:Int)+g<=1000000->
 Ò À 173 #[Å<|Ã ⟨E.r,0,Ä⟩,Â Ë x,Â Ë y,Â Æ g,Â Æ k,Â Ë d] w λe c=>
  e=Ç (Ē #[Â Æ (F s a x y g k).r,Ñ (F s a x y g k).C,Â Æ (F s a x y g k).M])/\∃f,ik E b a.length w (F s a x y g k).s (F s a x y g k).I c f
section
variable{E:iT}{rb:Nat}{c:RC}{sv lv:È}{s b:St}{ls a:List (Nat×Int)}{q p:Int}
theorem R.xe(ok:E.Ok)(d:R E rb c sv lv zQ s ls w)(r:ik E lv ls.length w b a u v):R E rb c sv v zQ b a u/\Tr E rb sv lv ls.length w sv v a.length u:=by
 have g:∀{j:Nat} {i:Array È} {T:õ},w.heap[j]?=Ã (Ð i T (0,0))->T≠E.T->T≠257->¬(j=E.r\/lv.ownBlock=Ã j):=λ{j i T} f h1 h2=>by
  rintro(e|e)
  .rw[e,d.C]at f;grind
  .let⟨m,k⟩:=lG d.M e;grind
 refine⟨⟨d.r.I r.C<|g d.r ok.I.symm A,ia d.I r.C λj f=> ?_,r.r,r.I⟩,r.C.S λh _ q=>q.elim Ø λq=>Ù<|Ù<|Ù q,λj q=>Ø q,r.l,r.M⟩;let⟨m,k⟩:=lG d.I f;exact g k ok.M.symm A
def akF(ok:E.Ok)(a:R E rb c sv lv zQ s ls w)(b:c.d=4): Ò À 210 #[Å<|Ã ⟨rb,0,Ä⟩,Â Æ q,Â Æ p,Â Æ h] w λe u=>e=Ç (æ #[Â Æ 0,Â Æ 0])/\u=w:=by
 have e:w.cell? ⟨rb,4,Ä⟩=Ã (Â Ë 4):=by have:=a.r.r 4 (Â Ë c.d) U;rwa[b]at this
 go_enter ai,θ;go_wp2_with fail;go_ret2;exact⟨U,U⟩
end
section
variable{E:iT}{c:RC}{w':É}{s f:St}{a l:List (Nat×Int)}{q p:Int}{F:lY}
def akG(E:iT)(n:Nat)(c:RC)(jQ x:È)(zQ:List Int)(a:List (Nat×Int))(w W:É)(r:Bz)(w':É):Prop:=
 ∃z,ik E x a.length W r.s r.I w' z/\R E n c jQ z zQ r.s r.I w'/\Tr E n jQ x a.length w jQ z r.I.length w'
def akH(p g:Int):(if g<p then g else p)=min p g:=by rw[Int.min_def];split<;>split<;>omega
def Hc(a:0<=h)(b:h<9223372036854775808):Ë.wrap h=h:=by show(if(Ë.signed&&decide (h%(2^64:Int)≥(2^63:Int)))=Ú then h%(2^64:Int)-2^64 else h%(2^64:Int))=h;rw[(Int.emod_eq_of_lt a Z),if_neg];simp;omega
def akI{q:Int}(h:gd q):Ë.wrap (q.tmod 8)=((q%8).toNat:Int):=by
 rw[Int.tmod_eq_emod_of_nonneg h.1];have:Ë.wrap (q%8)=q%8:=by exact Hc Z Z
 rw[this];omega
def akJ(a:0<=h)(b:h<4):Ë.wrap (h+1)=h+1:=by exact Hc Z Z
def u5(ok:E.Ok)(b:R E n c jQ x zQ s a w)(j:0<=c.d)(k:c.d<4)(hF:sw F (c.d+1))(l:iK w)(m:gJ s)(o:c.y<8)(i:gd q)(t:gd p)(u:gd h)(C:0<=c.g)(D:c.g<=100000)(G:(a.length:Int)+c.g<=1000000)(W:É)(kW:fc fg w W): Ò À 173 #[Å<|Ã ⟨E.r,0,Ä⟩,Â Ë c.y,Â Ë<|Ë.wrap<|q.tmod 8,Â Æ<|min p c.g,Â Æ h,Â Ë<|Ë.wrap<|c.d+1] W λe w'=>
  e=Ç (Ē #[Â Æ (F s a c.y (q%8).toNat (min p c.g) h).r,Ñ (F s a c.y (q%8).toNat (min p c.g) h).C,Â Æ (F s a c.y (q%8).toNat (min p c.g) h).M])/\akG E n c jQ x zQ a w W (F s a c.y (q%8).toNat (min p c.g) h) w':=by
 have f:=b.fL kW;rw[akI i,akJ j k];have H:=t.1;have I:=i.1;refine(hF E ok s x a c.y (q%8).toNat (min p c.g) h W f.C f.M (l.r kW id) m o Z Z Z u Z).mono ?_;rintro e w' ⟨rfl,z,r⟩;let⟨v,B⟩:=f.xe ok r;exact⟨U,z,r,v,(Tr.fL kW).fh B⟩
def akK{b:List È}(h:R E n c jQ x zQ s a w)(r:ik E x i (Č<|Ă w<|Ð b.toArray T) f l u z):fi w.heap.size b T u:=by
 refine fi.I (w:=Č<|Ă w<|Ð b.toArray T) (fi.N w b T) r.C ?_;rintro(e|e)
 .have:=fi.M h.C;omega
 .have:=(h.M.lt _ e).2;omega
def RY{f:List È}{jU:È}(ok:E.Ok)(d:R E n c jQ x zQ s a u)(t:Tr E n jU z b w jQ x k u)(m:w.heap.size<=j)(e:fi j f 252 u)(i:Nat)(v:È): R E n c jQ x zQ s a (u.setCell ⟨j,i,Ä⟩ v)/\Tr E n jU z b w jQ x k (u.setCell ⟨j,i,Ä⟩ v)/\fi j (f.set i v) 252 (u.setCell ⟨j,i,Ä⟩ v):=by have g:fc (λh=>h=j) u (u.setCell ⟨j,i,Ä⟩ v):=fc.I (X:=λh=>h=j) (p:=⟨j,i,Ä⟩) U v<|Ù e.G;refine⟨d.akk ok e g,t.akj g (λi q=>by omega) λi o q l=> ?_,e.gf i v⟩;unfold fi at e;rw[q,e]at l;cases l
def akL(ok:E.Ok)(f:R E n c jQ x zQ s a w)(oQ:0<=c.d)(hd:c.d<4)(hF:sw F (c.d+1))(hI:pO F)(hr:iK w)(P:gJ s)(hx:c.x<8)(hy:c.y<8)(Q:gd q)(S:gd p)(hk:gd h)(wv:0<=c.g)(vm:c.g<=100000)(hlen:(a.length:Int)+c.g<=1000000): Ò À 210 #[Å<|Ã ⟨n,0,Ä⟩,Â Æ q,Â Æ p,Â Æ h] w λe w'=>e=Ç (æ #[Â Æ (F s a c.y (q%8).toNat (min p c.g) h).M,Â Æ<|xb (F s a c.y (q%8).toNat (min p c.g) h).C])/\kH E n jQ x a.length w {c with g:=c.g-(F s a c.y (q%8).toNat (min p c.g) h).r} zQ (F s a c.y (q%8).toNat (min p c.g) h).s (F s a c.y (q%8).toNat (min p c.g) h).I w':=by
 have c0:w.cell? ⟨n,0,Ä⟩=Ã (Å<|Ã ⟨E.r,0,Ä⟩):=f.r.r 0 _ U;have c2:w.cell? ⟨n,2,Ä⟩=Ã (Â Ë c.y):=f.r.r 2 _ U;have c4:w.cell? ⟨n,4,Ä⟩=Ã (Â Ë c.d):=f.r.r 4 _ U;have c5:w.cell? ⟨n,5,Ä⟩=Ã (Â Æ c.g):=f.r.r 5 _ U;have gN:=f.r.M;have Ko:=fi.M f.C;have hq0:=Q.1;have A2:=Q.2;have Zu:=S.1;have hp1:=S.2;have call:=u5 ok f oQ hd hF hr P hy Q S hk wv vm hlen;have T:=hI s a c.y (q%8).toNat (min p c.g) h P hy Z hk Z Z Z;have M:=T.C;have N:=T.r;clear T;generalize F s a c.y (q%8).toNat (min p c.g) h=r at*;have H:=ff<|Á f<|Á call<|Á M N;have RZ:(c.d==4)=Ï:=by rw[beq_eq_false_iff_ne];omega
 clear f hr P hlen call M N;go_enter ai,θ;go_wp2_with fail;have l:=ff<|Á ((H.out.1.fL<|fc.fR _ _).r.r 0 _ rfl)<|Á ((H.out.1.fL<|fc.fR _ _).r.r 2 _ rfl)<|Á ((H.out.1.fL<|fc.fR _ _).r.r 4 _ rfl)<|(H.out.1.fL<|fc.fR _ _).r.r 5 _ rfl;refine lZ (λw'=>w'.cell? ⟨n,0,Ä⟩=Ã (Å<|Ã ⟨E.r,0,Ä⟩)/\w'.cell? ⟨n,2,Ä⟩=Ã (Â Ë c.y)/\w'.cell? ⟨n,4,Ä⟩=Ã (Â Ë c.d)/\w'.cell? ⟨n,5,Ä⟩=Ã (Â Æ c.g)) [25] fu ?_;iterate 16 apply tk l.out
 refine Hb (i:=16) (oi:={dst:=Ã 32,op:=aD {callee:=Go.Callee.builtin bm,args:=#[î 27,î 31],argTypes:=#[36,36]},type:=36,pos:= "run.go:186",after:=#[{on:=11,ground:=ï},{on:=15,ground:=ï}],guard:=Ä}) (v:=Â Æ<|min p c.g) U fu fu fu fu (λ_ _ _ f=>f) l.out (Ø ⟨fW,?akM⟩) ?as2
 case akM=>(intro w hSw;let⟨q0,q2,q4,q5⟩:=hSw;go_simp<;>rw[akH])
 apply tk l.out 17;apply tk l.out 18;apply tk l.out 19;apply tk l.out 20;apply tk l.out 21;apply tk l.out 22;refine akD (i:=23) (j:=24) (oi:={dst:=Ã 39,op:=aD {callee:=Go.Callee.value<|bg 173,args:=#[î 19,î 23,î 26,î 32,î 33,î 38],argTypes:=#[267,3,3,36,36,3]},type:=252,pos:= "run.go:186",after:=#[{on:=3,ground:=ï},{on:=7,ground:=ï},{on:=10,ground:=ï},{on:=16,ground:=ï},{on:=17,ground:=ï},{on:=22,ground:=ï}],guard:=Ä}) (oj:={dst:=Ã 10,op:=bh 252,type:=0,pos:= "run.go:186",after:=#[],guard:=Ä}) fu U U ?_ ?_
 .intro K k;go_simp;go_at_call 173;refine(H.out.2.1 _ kp).mono ?_;rintro e z ⟨rfl,yJ,O,o,D⟩;dsimp only;refine k.out _ _ (λ_=>⟨o.r.r 0 _ U,o.r.r 2 _ U,o.r.r 4 _ U,o.r.r 5 _ U⟩) ?_;clear k K;have G:=o.fL<|fc.gI fg z #[Â Æ 0,Ñ Ï,Â Æ 0] 252;refine gC 24 ?_;intro K k;go_simp;refine k.out _ _ (λ_=>⟨G.r.r 0 _ U,G.r.r 2 _ U,G.r.r 4 _ U,G.r.r 5 _ U⟩) ?_;clear k K;refine gC 25 ?_;intro K k;go_simp;refine k.out _ _ (λq=>absurd fp q) ?_;clear k K;try simp only[ĵ,Õ,ã,ä]
  refine lI fu ?_ _;have V:=fc.gI fg z #[Â Æ r.r,Ñ r.C,Â Æ r.M] 252;have t:=o.fL V;have I:=D.fh<|Tr.fL V;have m:fi z.heap.size [Â Æ r.r,Ñ r.C,Â Æ r.M] 252 _:=fi.N z _ 252;generalize Ă z (Ð #[Â Æ r.r,Ñ r.C,Â Æ r.M] 252)=W at*;generalize z.heap.size=b at*;clear G V o D O;have v0:=m.r 0 _ U;have X:=m.r 1 _ U;have Y:=m.r 2 _ U;have z5:W.cell? ⟨n,5,Ä⟩=Ã (Â Æ c.g):=t.r.r 5 _ U;have y5:=t.r.C 5;have zl:=t.r.M;have zb:=m.M;have M:=H.out.2.2.1;have N:=H.out.2.2.2;have J:=fi.S t.r m A;have y1:=(G5 (w:=W) (i:=5) (u:=Â Æ<|c.g-r.r) J).trans X;have y2:=(G5 (w:=W) (i:=5) (u:=Â Æ<|c.g-r.r) J).trans Y;have C:=ff<|Á t I;clear t I m l;go_wp2_with fail;go_region;go_wp2_with fail;have l:=ff<|Á y1 y2;refine lZ (λw'=>w'.cell? ⟨b,1,Ä⟩=Ã (Ñ r.C)/\w'.cell? ⟨b,2,Ä⟩=Ã (Â Æ r.M)) [] fu ?_;iterate 5 apply tk l.out
  refine gC 5 ?_;intro K k;go_simp;go_at_call 159;refine(Ha _ _).mono ?_;rintro e w2 ⟨rfl,qn⟩;subst w2;dsimp only;refine k.out _ _ (λ_=>l.out) ?_;clear k K;refine gC 6 ?_;intro K k;go_simp;refine k.out _ _ (λ_=>l.out) ?_;clear k K;refine gC 7 ?_;intro K k;go_simp;refine k.out _ _ (λ_=>l.out) ?_;clear k K;try simp only[ĵ,Õ,ã,ä]
  refine lI fu ?_ _;go_wp2_with fail;go_ret2;let⟨n1,n2⟩:=C.out.1.N ok 5 (v:=Â Æ<|c.g-r.r) (c':={c with g:=c.g-r.r}) (jU:=jQ) (ss':=zQ) U C.out.1.I λ_ q=>q;have L:=(fc.fR fg<|W.setCell ⟨n,5,Ä⟩<|Â Æ<|c.g-r.r).fh<|fc.fR fg _;exact⟨U,_,_,n1.fL L,(C.out.2.fh n2).fh<|Tr.fL L⟩
 .intro K k;go_simp;refine k.out _ _ (λ_=>⟨(H.out.1.fL<|((fc.fR _ _).fh<|fc.gI _ _ _ _)).r.r 0 _ U,(H.out.1.fL<|((fc.fR _ _).fh<|fc.gI _ _ _ _)).r.r 2 _ U,(H.out.1.fL<|((fc.fR _ _).fh<|fc.gI _ _ _ _)).r.r 4 _ U,(H.out.1.fL<|((fc.fR _ _).fh<|fc.gI _ _ _ _)).r.r 5 _ U⟩) ?_;clear k K;refine gC 23 ?_;intro K k;go_simp;go_at_call 173;refine(H.out.2.1 (Č<|Ă w<|Ð #[Â Æ 0,Ñ Ï,Â Æ 0] 252) kp).mono ?_;rintro e z ⟨rfl,yJ,O,o,D⟩;dsimp only;refine k.out _ _ (λ_=>⟨o.r.r 0 _ U,o.r.r 2 _ U,o.r.r 4 _ U,o.r.r 5 _ U⟩) ?_;clear k K;have B:=akK H.out.1 O;have k0:=B.r 0 _ U;have k1:=B.r 1 _ U;have k2:=B.r 2 _ U;have f0:=B.C 0;have f1:=B.C 1;have f2:=B.C 2;refine gC 25 ?_;intro K k;go_simp;refine k.out _ _ (λq=>absurd fp q) ?_;clear k K;try simp only[ĵ,Õ,ã,ä]
  refine lI fu ?_ _;let⟨a1,a2,a3⟩:=RY ok o D (Þ _) B 0<|Â Æ r.r;let⟨b1,b2,b3⟩:=RY ok a1 a2 (Þ _) a3 1<|Ñ r.C;let⟨t,I,m⟩:=RY ok b1 b2 (Þ _) b3 2<|Â Æ r.M;generalize ą (ą (ą z ⟨w.heap.size,0,Ä⟩<|Â Æ r.r) ⟨w.heap.size,1,Ä⟩<|Ñ r.C) ⟨w.heap.size,2,Ä⟩ (Â Æ r.M)=W at*;replace m:fi w.heap.size [Â Æ r.r,Ñ r.C,Â Æ r.M] 252 W:=m;clear a1 a2 a3 b1 b2 b3 B k0 k1 k2 f0 f1 f2 o D O;have v0:=m.r 0 _ U;have X:=m.r 1 _ U;have Y:=m.r 2 _ U;have z5:W.cell? ⟨n,5,Ä⟩=Ã (Â Æ c.g):=t.r.r 5 _ U;have y5:=t.r.C 5;have zl:=t.r.M;have zb:=m.M;have M:=H.out.2.2.1;have N:=H.out.2.2.2;have J:=fi.S t.r m A;have y1:=(G5 (w:=W) (i:=5) (u:=Â Æ<|c.g-r.r) J).trans X;have y2:=(G5 (w:=W) (i:=5) (u:=Â Æ<|c.g-r.r) J).trans Y;have C:=ff<|Á t I;clear t I m l;go_wp2_with fail;go_region;go_wp2_with fail;have l:=ff<|Á y1 y2;refine lZ (λw'=>w'.cell? ⟨w.heap.size,1,Ä⟩=Ã (Ñ r.C)/\w'.cell? ⟨w.heap.size,2,Ä⟩=Ã (Â Æ r.M)) [] fu ?_;iterate 5 apply tk l.out
  refine gC 5 ?_;intro K k;go_simp;go_at_call 159;refine(Ha _ _).mono ?_;rintro e w2 ⟨rfl,qn⟩;subst w2;dsimp only;refine k.out _ _ (λ_=>l.out) ?_;clear k K;refine gC 6 ?_;intro K k;go_simp;refine k.out _ _ (λ_=>l.out) ?_;clear k K;refine gC 7 ?_;intro K k;go_simp;refine k.out _ _ (λ_=>l.out) ?_;clear k K;try simp only[ĵ,Õ,ã,ä]
  refine lI fu ?_ _;go_wp2_with fail;go_ret2;let⟨n1,n2⟩:=C.out.1.N ok 5 (v:=Â Æ<|c.g-r.r) (c':={c with g:=c.g-r.r}) (jU:=jQ) (ss':=zQ) U C.out.1.I λ_ q=>q;have L:=(fc.fR fg<|W.setCell ⟨n,5,Ä⟩<|Â Æ<|c.g-r.r).fh<|fc.fR fg _;exact⟨U,_,_,n1.fL L,(C.out.2.fh n2).fh<|Tr.fL L⟩
end
section
variable{E:iT}{rb:Nat}{c:RC}{sv lv:È}{s i:St}{f j:List (Nat×Int)}{q p:Int}{F:lY}
def oA(c:RC)(g:Int):RC:={c with g:=g}
def akN(ok:E.Ok)(a:R E rb c sv lv zQ s f w)(i:0<=c.d)(G:c.d<=4)(hF:c.d<4->sw F (c.d+1))(j:pO F)(k:iK w)(l:gJ s)(m:c.x<8)(n:c.y<8)(o:gd q)(r:gd p)(v:gd h)(z:0<=c.g)(B:c.g<=100000)(C:(f.length:Int)+c.g<=1000000)(t:RT)(D:t=(iU F c ⟨zQ,s,f,c.g⟩ q p h).2.2): Ò À 210 #[Å<|Ã ⟨rb,0,Ä⟩,Â Æ q,Â Æ p,Â Æ h] w λe u=>e=Ç (æ #[Â Æ (iU F c ⟨zQ,s,f,c.g⟩ q p h).1,Â Æ (iU F c ⟨zQ,s,f,c.g⟩ q p h).2.1])/\kH E rb sv lv f.length w (oA c t.g) zQ t.s t.C u:=by
 subst D;by_cases b:c.d=4
 .have e:iU F c ⟨zQ,s,f,c.g⟩ q p h=(0,0,⟨zQ,s,f,c.g⟩):=by unfold iU;rw[if_pos b]
  rw[e];refine(akF ok a b).mono ?_;rintro e u ⟨rfl,rfl⟩;exact⟨U,a.jL⟩
 .have e:iU F c ⟨zQ,s,f,c.g⟩ q p h=((F s f c.y (q%8).toNat (min p c.g) h).M,xb (F s f c.y (q%8).toNat (min p c.g) h).C,⟨zQ,(F s f c.y (q%8).toNat (min p c.g) h).s,(F s f c.y (q%8).toNat (min p c.g) h).I,c.g-(F s f c.y (q%8).toNat (min p c.g) h).r⟩):=by unfold iU;rw[if_neg b]
  rw[e];exact akL ok a i Z (hF Z) j k l m n o r v z B C
def akO(ok:E.Ok)(i:R E rb c sv lv (((zQ++[h])++[p])++[q]) s f w)(hn:zQ.length<=800)(o:0<=c.d)(r:c.d<=4)(hF:c.d<4->sw F (c.d+1))(v:pO F)(z:iK w)(B:gJ s)(C:c.x<8)(D:c.y<8)(G:gd q)(I:gd p)(J:gd h)(K:0<=c.g)(L:c.g<=100000)(M:(f.length:Int)+c.g<=1000000)(t:RT)(N:t=(iU F c ⟨zQ,s,f,c.g⟩ q p h).2.2)(a b:Int)(j:a=(iU F c ⟨zQ,s,f,c.g⟩ q p h).1)(k:b=(iU F c ⟨zQ,s,f,c.g⟩ q p h).2.1): Ò À 205 #[Å<|Ã ⟨rb,0,Ä⟩,Â Ë 20] w λe u=>e=Ç (æ #[])/\kH E rb sv lv f.length w (oA c t.g) (zQ++[a,b]) t.s t.C u:=by have c0:=i.r.r 0 _ U;have c2:=i.r.r 2 _ U;have gN:=i.r.M;have Ko:=fi.M i.C;have H:=ff<|Á i<|Á z<|Á hF v;go_enter ê,å;go_wp2_with fail;go_quiet (fail);go_wp2_with fail;have O:=Tr.fL (E:=E) (rb:=rb) (sv:=sv) (lv:=lv) (n:=f.length)<|fc.iO fg w nq;have P:=H.out.1.fL<|fc.iO fg w nq;go_at_call 204;refine(nk ok P (by first|omega|(simp;omega))).mono ?_;rintro e w1 ⟨rfl,sv1,Q,S⟩;go_wp2_with fail;go_at_call 204;refine(nk ok Q (by first|omega|(simp;omega))).mono ?_;rintro e w2 ⟨rfl,Hd,T,V⟩;go_wp2_with fail;go_at_call 204;refine(nk ok T (by first|omega|(simp;omega))).mono ?_;rintro e w3 ⟨rfl,R0,W,X⟩;have l:=((O.fh S).fh V).fh X;go_wp2_with fail;go_at_call 210;refine(akN ok W o r H.out.2.2.1 H.out.2.2.2 (H.out.2.1.N ok H.out.1 l) B C D G I J K L M t N).mono ?_;rintro e w4 ⟨rfl,sv4,lv4,Y,t4⟩;rw[<-j,<-k];go_wp2_with fail;go_at_call 203;refine(RV ok Y (by first|omega|(simp;omega)) _ _).mono ?_;rintro e w5 ⟨rfl,sv5,m,t5⟩;go_wp2_with fail;go_end0;rw[<-j,<-k]at m;exact⟨U,_,_,m,(l.fh t4).fh t5⟩
end
def sx(h:∀p∈zQ,gd p):gd (fY zQ):=by
 by_cases a:0<zQ.length
 .apply h _;rw[Zo zQ a];simp[fY]
 .have:zQ=[]:=ß Z;subst this;exact⟨A,A⟩
def oW(h:∀p∈zQ,gd p):∀p∈fV zQ,gd p:=λp a=>h p<|List.dropLast_subset zQ a
def pP(l:List Int):(fV l).length=l.length-1:=by simp[fV]
def xf(h:0<zQ.length):fV zQ++[fY zQ]=zQ:=(Zo zQ h).symm
theorem akP(F:lY)(c:RC)(l b:List Int)(s:St)(a:List (Nat×Int))(g q p k:Int): (iU F c ⟨l,s,a,g⟩ q p k).1=(iU F c ⟨b,s,a,g⟩ q p k).1/\(iU F c ⟨l,s,a,g⟩ q p k).2.1=(iU F c ⟨b,s,a,g⟩ q p k).2.1/\(iU F c ⟨l,s,a,g⟩ q p k).2.2.s=(iU F c ⟨b,s,a,g⟩ q p k).2.2.s/\ (iU F c ⟨l,s,a,g⟩ q p k).2.2.C=(iU F c ⟨b,s,a,g⟩ q p k).2.2.C/\(iU F c ⟨l,s,a,g⟩ q p k).2.2.g=(iU F c ⟨b,s,a,g⟩ q p k).2.2.g:=by unfold iU;grind
section
variable{E:iT}{rb:Nat}{c:RC}{sv lv:È}{s:St}{f:List (Nat×Int)}{F:lY}
def akQ(ok:E.Ok)(h:R E rb c sv lv zQ s f w)(Y:zQ.length<=700)(C:0<=c.d)(D:c.d<=4)(hF:c.d<4->sw F (c.d+1))(G:pO F)(H:iK w)(v:gJ s)(z:c.x<8)(a:c.y<8)(r:∀p∈zQ,gd p)(I:0<=c.g)(J:c.g<=100000)(K:(f.length:Int)+c.g<=1000000) (k:Nat) (tW:2<=k) (td:k<=20) (Zv:k≠17) (L B M:Int) (b:iX[k]?=Ã (L,B,M)) (BA:B<=zQ.length) (t:RT) (N:t=nX F c k ⟨zQ,s,f,c.g⟩): Ò À 205 #[Å<|Ã ⟨rb,0,Ä⟩,Â Ë k] w λe i=>e=Ç (æ #[])/\kH E rb sv lv f.length w (oA c t.g) t.r t.s t.C i:=by
 subst N;have i:=sx r;have u:=sx<|oW r;have O:=sx<|oW<|oW r;have j:1<=zQ.length->R E rb c sv lv (fV zQ++[fY zQ]) s f w:=λq=>by rwa[xf Z]
 have l:2<=zQ.length->R E rb c sv lv ((fV (fV zQ)++[fY<|fV zQ])++[fY zQ]) s f w:=λq=>by rw[xf (by rw[pP];omega),xf Z];exact h
 have P:3<=zQ.length->R E rb c sv lv (((fV (fV<|fV zQ)++[fY<|fV<|fV zQ])++[fY<|fV zQ])++[fY zQ]) s f w:=λq=>by rw[xf (by rw[pP,pP];omega),xf (by rw[pP];omega),xf Z];exact h
 have m:zQ.length<=800:=Z
 have n:(fV zQ).length<=800:=by rw[pP];omega
 have o:(fV<|fV zQ).length<=800:=by rw[pP];omega
 have Q:(fV<|fV<|fV zQ).length<=800:=by rw[pP];omega
 have cases:(k=2\/k=3\/k=4\/k=5\/k=6\/k=7)\/k=8\/k=9\/k=10\/k=11\/k=12\/k=13\/k=14\/k=15\/k=16\/k=18\/k=19\/k=20:=Z
 rcases cases with hq|rfl|rfl|rfl|rfl|rfl|rfl|rfl|rfl|rfl|rfl|rfl|rfl
 .have S:2<=zQ.length:=by
   rcases hq with rfl|rfl|rfl|rfl|rfl|rfl<;>(simp[iX]at b;omega)
  have e:nX F c k ⟨zQ,s,f,c.g⟩=⟨fV (fV zQ)++[xc k (fY<|fV zQ)<|fY zQ],s,f,c.g⟩:=by rcases hq with rfl|rfl|rfl|rfl|rfl|rfl<;>rfl
  rw[e];exact akx ok (l S) o a u i Z Z
 .exact akn ok (j<|by simp[iX]at b;omega) n a
 .exact ako ok (l<|by simp[iX]at b;omega) o a
 .exact akp ok (j<|by simp[iX]at b;omega) n a
 .exact akq ok h m a
 .exact akr ok h m a z
 .exact aks ok h m a
 .exact akt ok h m a
 .exact aku ok (j<|by simp[iX]at b;omega) n a i
 .exact akv ok (l<|by simp[iX]at b;omega) o a i
 .exact akw ok (l<|by simp[iX]at b;omega) o a u i v
 .exact akE ok (j<|by simp[iX]at b;omega) n a Z
 .let⟨S,T,V,W,X⟩:=akP F c zQ (fV<|fV<|fV zQ) s f c.g (fY zQ) (fY<|fV zQ)<|fY<|fV<|fV zQ;have e:nX F c 20 ⟨zQ,s,f,c.g⟩=⟨fV (fV<|fV zQ)++[(iU F c ⟨zQ,s,f,c.g⟩ (fY zQ) (fY<|fV zQ)<|fY<|fV<|fV zQ).1,(iU F c ⟨zQ,s,f,c.g⟩ (fY zQ) (fY<|fV zQ)<|fY<|fV<|fV zQ).2.1],(iU F c ⟨zQ,s,f,c.g⟩ (fY zQ) (fY<|fV zQ)<|fY<|fV<|fV zQ).2.2.s,(iU F c ⟨zQ,s,f,c.g⟩ (fY zQ) (fY<|fV zQ)<|fY<|fV<|fV zQ).2.2.C,(iU F c ⟨zQ,s,f,c.g⟩ (fY zQ) (fY<|fV zQ)<|fY<|fV<|fV zQ).2.2.g⟩:=U;rw[e,S,T,V,W,X];exact akO ok (P<|by simp[iX]at b;omega) Q C D hF G H v z a i u O I J K _ U _ _ U U
end
def pQ(c:Int)(w:É):Ò À 103 #[Â aT c] w λe a=>e=Ç (Â Ë<|lH c)/\a=w:=by
 go_enter Tryz.func103,Tryz.ntmps103;go_wp2;all_goals go_ret
 all_goals refine⟨DL ?_,U⟩
 all_goals simp only[beq_iff_eq,beq_eq_false_iff_ne,ne_eq]at*
 all_goals(try subst c)
 all_goals first|rfl|(unfold lH;simp[*];done)|(unfold lH;rw[if_neg Z];simp[*])
def km:ŏ->Option ŏ
 |à c=>Ã c
 |.seq a b=>match km a with
  |some c=>Ã c
  |none=>km b
 |.block _ c=>km c
 |.scope c=>km c
 |.cond _ a b=>match km a with
  |some c=>Ã c
  |none=>km b
 |_=>Ä
noncomputable def tX:ŏ:=(Tryz.f191.body.bind km).getD Ķ
def nN(a:Nat)(P:ByteArray)(b:Int)(u:Nat->È):é:=⟨#[Å<|Ã ⟨a,0,Ä⟩,ā,Â Æ 0,Ñ Ï,Í P,Â Æ P.size,Â Æ b,u 7,u 8,u 9,u 10,u 11,u 12,u 13,u 14,u 15,u 16,u 17,u 18,u 19,u 20,u 21,u 22,u 23,u 24,u 25,u 26,u 27,u 28,u 29,u 30,u 31,u 32,u 33,u 34,u 35,u 36,u 37,u 38,u 39,u 40,u 41,u 42,u 43,u 44,u 45,u 46,u 47,u 48,u 49,u 50,u 51,u 52,u 53,u 54,u 55,u 56,u 57,u 58,u 59,u 60,u 61,u 62,u 63,u 64,u 65,u 66,u 67,u 68,u 69,u 70,u 71,u 72,u 73,u 74,u 75,u 76,u 77,u 78,u 79,u 80],[]⟩
def BB(b:Nat)(P:ByteArray)(c:Int)(a:é):Prop:=∃u,a=nN b P c u
def Zw(a:Nat)(P:ByteArray)(v:Int)(b:Bool)(u:Nat->È):é:=⟨#[Å<|Ã ⟨a,0,Ä⟩,ā,Â Æ v,Ñ b,Í P,Â Æ P.size,u 6,u 7,u 8,u 9,u 10,u 11,u 12,u 13,u 14,u 15,u 16,u 17,u 18,u 19,u 20,u 21,u 22,u 23,u 24,u 25,u 26,u 27,u 28,u 29,u 30,u 31,u 32,u 33,u 34,u 35,u 36,u 37,u 38,u 39,u 40,u 41,u 42,u 43,u 44,u 45,u 46,u 47,u 48,u 49,u 50,u 51,u 52,u 53,u 54,u 55,u 56,u 57,u 58,u 59,u 60,u 61,u 62,u 63,u 64,u 65,u 66,u 67,u 68,u 69,u 70,u 71,u 72,u 73,u 74,u 75,u 76,u 77,u 78,u 79,u 80],[]⟩
def DR(c:Nat)(P:ByteArray)(v:Int)(b:Bool)(a:é):Prop:=∃u,a=Zw c P v b u
def QQ(X:é->É->Prop):aS->é->É->Prop
 |.exit 0,a,w=>X a w
 |_,_,_=>False
section
variable{X:é->É->Prop}{E:iT}{c:RC}{s:St}{f:List (Nat×Int)}{F:lY}
def akR(ok:E.Ok)(u:Nat->È)(b:R E i c z x zQ s f w)(j:B.size<=40)(e:h=B.size) (g:∀a d,DR i B 0 Ú a->kH E i z x f.length w c zQ s f d->X a d): Î À tX (Exit.then K<|QQ X) (nN i B h u) w:=by
 unfold nN;conv=>arg 2;whnf
 subst e;go_wp2_with fail;exact g _ _ (gl _) b.jL
def akS(ok:E.Ok)(u:Nat->È)(b:R E i c z x zQ s f w)(l:B.size<=40)(m:(B.size:Int)<h) (e:∀a d,DR i B 0 Ï a->kH E i z x f.length w (oA c 0) zQ s f d->X a d): Î À tX (Exit.then K<|QQ X) (nN i B h u) w:=by
 unfold nN;conv=>arg 2;whnf
 have n:w.cell? ⟨i,5,Ä⟩=Ã (Â Æ c.g):=b.r.r 5 _ U;have o:=b.r.C 5;have p:(h==(B.size:Int))=Ï:=by rw[beq_eq_false_iff_ne];omega
 have H:=ff b;clear b;go_wp2_with fail;let⟨j,k⟩:=H.out.N ok 5 (v:=Â Æ 0) (c':=oA c 0) (jU:=z) (ss':=zQ) U H.out.I λ_ q=>q;exact e _ _ (gl _) ⟨_,_,j,k⟩
def akT(ok:E.Ok)(u:Nat->È)(b:R E i c z x zQ s f w)(P:B.size<=40)(n:Nat)(G:h=n)(I:n<B.size)(y:iK w)(m o p:Int)(Q:zQ.length<=700)(J:0<=c.g)(S:c.g<=100000)(k:Nat)(C:lH ((B[n]'I).toNat:Int)=k)(r:iX[k]?=Ã (m,o,p))(D:lX c.g zQ.length m o p=Ï) (L:∀a j,DR i B 0 Ï a->kH E i z x f.length w (oA c 0) zQ s f j->X a j): Î À tX (Exit.then K<|QQ X) (nN i B h u) w:=by
 unfold nN;conv=>arg 2;whnf
 subst G;have T:((n:Int)==(B.size:Int))=Ï:=by rw[beq_eq_false_iff_ne];omega
 have V:decide ((B.size:Int)<(n:Int))=Ï:=decide_eq_false Z;have W:(0:Int)<=(n:Int):=Z
 have Y:(n:Int)<(B.size:Int):=Z
 have d:=By E ok i c z x zQ s f w b y k m o p r Z J Z;rw[D]at d;have H:=ff<|Á b<|Á d<|Á r C;clear b d y r D C;go_wp2_with (go_at_call 103;refine(pQ _ _).mono ?_;rintro e j ⟨rfl,l⟩;subst j;rw[H.out.2.2.2]);go_at_call 202;apply H.out.2.1.mono;rintro e M ⟨rfl,l,F⟩;have k5:M.cell? ⟨i,5,Ä⟩=Ã (Â Æ c.g):=l.r.r 5 _ U;have g5:=l.r.C 5;have t:=ff<|Á l F;clear l F;go_wp2_with fail;let⟨N,O⟩:=R.N ok t.out.1 5 (v:=Â Æ 0) (c':=oA c 0) (jU:=z) (ss':=zQ) U t.out.1.I λ_ q=>q;exact L _ _ (gl _) ⟨_,_,N,t.out.2.fh O⟩
def akU(ok:E.Ok)(u:Nat->È)(b:R E i c z x zQ s f w)(J:B.size<=40)(n:Nat)(C:h=n)(D:n<B.size)(q:iK w)(k l m:Int)(L:zQ.length<=700)(F:0<=c.g)(M:c.g<=100000)(r:lH ((B[n]'D).toNat:Int)=22)(o:iX[(22:Nat)]?=Ã (k,l,m))(t:lX c.g zQ.length k l m=Ú) (G:∀a j,DR i B 0 Ï a->kH E i z x f.length w (oA c<|c.g-k) zQ s f j->X a j): Î À tX (Exit.then K<|QQ X) (nN i B h u) w:=by
 unfold nN;conv=>arg 2;whnf
 subst C;have N:((n:Int)==(B.size:Int))=Ï:=by rw[beq_eq_false_iff_ne];omega
 have O:decide ((B.size:Int)<(n:Int))=Ï:=decide_eq_false Z;have P:(0:Int)<=(n:Int):=Z
 have Q:(n:Int)<(B.size:Int):=Z
 have d:=By E ok i c z x zQ s f w b q 22 k l m o Z F Z;rw[t]at d;have H:=ff<|Á b<|Á d<|Á o r;clear b d q o t r;go_wp2_with (go_at_call 103;refine(pQ _ _).mono ?_;rintro e j ⟨rfl,I⟩;subst j;rw[H.out.2.2.2]);go_at_call 202;apply H.out.2.1.mono;rintro e S ⟨rfl,p,v⟩;rw[if_pos U]at p;have y:=ff<|Á p v;clear p v;go_wp2_with (go_at_call 103;refine(pQ _ _).mono ?_;rintro e j ⟨rfl,I⟩;subst j;rw[H.out.2.2.2]);exact G _ _ (gl _) ⟨_,_,y.out.1,y.out.2⟩
def akV(ok:E.Ok)(u:Nat->È)(b:R E i c z x zQ s f w)(P:B.size<=40)(n:Nat)(F:h=n)(G:n<B.size)(r:iK w)(k l m:Int)(I:zQ.length<=700)(J:0<=c.g)(Q:c.g<=100000)(p:Int)(t:List Int)(L:zQ=t++[p])(v:lH ((B[n]'G).toNat:Int)=21)(o:iX[(21:Nat)]?=Ã (k,l,m))(y:lX c.g zQ.length k l m=Ú) (M:∀a j,DR i B p Ú a->kH E i z x f.length w (oA c<|c.g-k) t s f j->X a j): Î À tX (Exit.then K<|QQ X) (nN i B h u) w:=by
 unfold nN;conv=>arg 2;whnf
 subst F;have S:((n:Int)==(B.size:Int))=Ï:=by rw[beq_eq_false_iff_ne];omega
 have T:decide ((B.size:Int)<(n:Int))=Ï:=decide_eq_false Z;have V:(0:Int)<=(n:Int):=Z
 have W:(n:Int)<(B.size:Int):=Z
 have d:=By E ok i c z x zQ s f w b r 21 k l m o Z J Z;rw[y]at d;have H:=ff<|Á b<|Á d<|Á o v;clear b d r o y v;go_wp2_with (go_at_call 103;refine(pQ _ _).mono ?_;rintro e j ⟨rfl,N⟩;subst j;rw[H.out.2.2.2]);go_at_call 202;apply H.out.2.1.mono;rintro e Y ⟨rfl,q,C⟩;rw[if_pos U]at q;have D:=ff<|Á q C;clear q C;subst L;go_wp2_with (go_at_call 103;refine(pQ _ _).mono ?_;rintro e j ⟨rfl,N⟩;subst j;rw[H.out.2.2.2]);go_at_call 204;refine(nk ok D.out.1<|by simp at I;omega).mono ?_;rintro e w2 ⟨rfl,Hd,N,O⟩;go_wp2_with fail;exact M _ _ (gl _) ⟨_,_,N,D.out.2.fh O⟩
def akW(ok:E.Ok)(u:Nat->È)(b:R E i c z x zQ s f w)(L:B.size<=40)(n:Nat)(D:h=n)(k:n<B.size)(r:iK w)(l m o:Int)(M:zQ.length<=700)(F:0<=c.g)(N:c.g<=100000)(O:(48:Int)<=((B[n]'k).toNat:Int))(P:((B[n]'k).toNat:Int)<=57)(t:lH ((B[n]'k).toNat:Int)=1)(p:iX[(1:Nat)]?=Ã (l,m,o))(v:lX c.g zQ.length l m o=Ú) (G:∀a j,BB i B ((n:Int)+1) a->kH E i z x f.length w (oA c<|c.g-l) (zQ++[((B[n]'k).toNat:Int)-48]) s f j->K a j): Î À tX (Exit.then K<|QQ X) (nN i B h u) w:=by
 unfold nN;conv=>arg 2;whnf
 subst D;have Q:((n:Int)==(B.size:Int))=Ï:=by rw[beq_eq_false_iff_ne];omega
 have S:decide ((B.size:Int)<(n:Int))=Ï:=decide_eq_false Z;have T:(0:Int)<=(n:Int):=Z
 have V:(n:Int)<(B.size:Int):=Z
 have d:=By E ok i c z x zQ s f w b r 1 l m o p Z F Z;rw[v]at d;have H:=ff<|Á b<|Á d<|Á p t;clear b d r p v t;go_wp2_with (go_at_call 103;refine(pQ _ _).mono ?_;rintro e j ⟨rfl,I⟩;subst j;rw[H.out.2.2.2]);go_at_call 202;apply H.out.2.1.mono;rintro e W ⟨rfl,q,y⟩;rw[if_pos U]at q;have C:=ff<|Á q y;clear q y;go_wp2_with (go_at_call 103;refine(pQ _ _).mono ?_;rintro e j ⟨rfl,I⟩;subst j;rw[H.out.2.2.2]);go_at_call 203;refine(yR ok C.out.1 Z _).mono ?_;rintro e Y ⟨rfl,Hd,I,J⟩;go_wp2_with fail;exact G _ _ (gl _) ⟨_,_,I,C.out.2.fh J⟩
def akX(ok:E.Ok)(u:Nat->È)(b:R E i c z x zQ s f w)(W:B.size<=40)(n:Nat)(M:h=n)(N:n<B.size)(t:iK w)(k l m:Int)(v:zQ.length<=700)(O:0<=c.g)(Y:c.g<=100000)(p q:Int)(y:List Int)(P:zQ=(y++[p])++[q])(Q:¬p=0)(C:lH ((B[n]'N).toNat:Int)=17)(o:iX[(17:Nat)]?=Ã (k,l,m))(D:lX c.g zQ.length k l m=Ú) (S:∀a j,BB i B q a->kH E i z x f.length w (oA c<|c.g-k) y s f j->K a j): Î À tX (Exit.then K<|QQ X) (nN i B h u) w:=by
 unfold nN;conv=>arg 2;whnf
 subst M;have e1:((n:Int)==(B.size:Int))=Ï:=by rw[beq_eq_false_iff_ne];omega
 have e2:decide ((B.size:Int)<(n:Int))=Ï:=decide_eq_false Z;have GO:(0:Int)<=(n:Int):=Z
 have vh:(n:Int)<(B.size:Int):=Z
 have d:=By E ok i c z x zQ s f w b t 17 k l m o Z O Z;rw[D]at d;have H:=ff<|Á b<|Á d<|Á o C;clear b d t o D C;go_wp2_with (go_at_call 103;refine(pQ _ _).mono ?_;rintro e j ⟨rfl,I⟩;subst j;rw[H.out.2.2.2]);go_at_call 202;apply H.out.2.1.mono;rintro e w1 ⟨rfl,r,F⟩;rw[if_pos U]at r;have G:=ff<|Á r F;clear r F;subst P;have e3:(p !=0)=Ú:=by rwa[bne_iff_ne]
 go_wp2_with (go_at_call 103;refine(pQ _ _).mono ?_;rintro e j ⟨rfl,I⟩;subst j;rw[H.out.2.2.2])
 go_at_call 204;refine(nk ok G.out.1<|by simp at v|-;omega).mono ?_;rintro e w2 ⟨rfl,Hd,I,J⟩;go_wp2_with fail;go_at_call 204;refine(nk ok I<|by simp at v;omega).mono ?_;rintro e w3 ⟨rfl,R0,V,L⟩;have T:=(G.out.2.fh J).fh L;clear I J L;go_wp2_with fail;exact S _ _ (gl _) ⟨_,_,V,T⟩
def akY(ok:E.Ok)(u:Nat->È)(b:R E i c z x zQ s f w)(W:B.size<=40)(n:Nat)(M:h=n)(N:n<B.size)(t:iK w)(k l m:Int)(v:zQ.length<=700)(O:0<=c.g)(Y:c.g<=100000)(p q:Int)(y:List Int)(P:zQ=(y++[p])++[q])(Q:p=0)(C:lH ((B[n]'N).toNat:Int)=17)(o:iX[(17:Nat)]?=Ã (k,l,m))(D:lX c.g zQ.length k l m=Ú) (S:∀a j,BB i B ((n:Int)+1) a->kH E i z x f.length w (oA c<|c.g-k) y s f j->K a j): Î À tX (Exit.then K<|QQ X) (nN i B h u) w:=by
 unfold nN;conv=>arg 2;whnf
 subst M;have e1:((n:Int)==(B.size:Int))=Ï:=by rw[beq_eq_false_iff_ne];omega
 have e2:decide ((B.size:Int)<(n:Int))=Ï:=decide_eq_false Z;have GO:(0:Int)<=(n:Int):=Z
 have vh:(n:Int)<(B.size:Int):=Z
 have d:=By E ok i c z x zQ s f w b t 17 k l m o Z O Z;rw[D]at d;have H:=ff<|Á b<|Á d<|Á o C;clear b d t o D C;go_wp2_with (go_at_call 103;refine(pQ _ _).mono ?_;rintro e j ⟨rfl,I⟩;subst j;rw[H.out.2.2.2]);go_at_call 202;apply H.out.2.1.mono;rintro e w1 ⟨rfl,r,F⟩;rw[if_pos U]at r;have G:=ff<|Á r F;clear r F;subst P;subst Q;go_wp2_with (go_at_call 103;refine(pQ _ _).mono ?_;rintro e j ⟨rfl,I⟩;subst j;rw[H.out.2.2.2]);go_at_call 204;refine(nk ok G.out.1<|by simp at v|-;omega).mono ?_;rintro e w2 ⟨rfl,Hd,I,J⟩;go_wp2_with fail;go_at_call 204;refine(nk ok I<|by simp at v;omega).mono ?_;rintro e w3 ⟨rfl,R0,V,L⟩;have T:=(G.out.2.fh J).fh L;clear I J L;go_wp2_with fail;exact S _ _ (gl _) ⟨_,_,V,T⟩
def akZ(ok:E.Ok)(u:Nat->È)(b:R E i c z x zQ s f w)(hP:B.size<=40)(n:Nat)(Q:h=n)(S:n<B.size)(r:iK w)(l o q:Int)(T:zQ.length<=700)(V:0<=c.g)(vm:c.g<=100000)(k:Nat)(W:2<=k)(Y:k<=20)(Zv:k≠17)(BA:o<=zQ.length)(oQ:0<=c.d)(hd:c.d<=4)(hF:c.d<4->sw F (c.d+1))(I:pO F)(J:gJ s)(hx:c.x<8)(hy:c.y<8)(L:∀p∈zQ,gd p)(hlen:(f.length:Int)+c.g<=1000000)(t:RT)(M:t=nX F c k ⟨zQ,s,f,c.g-l⟩)(Zx:0<=l)(R1:l<=c.g)(N:lH ((B[n]'S).toNat:Int)=k)(v:iX[(k:Nat)]?=Ã (l,o,q))(O:lX c.g zQ.length l o q=Ú) (hK:∀a m,BB i B ((n:Int)+1) a->kH E i z x f.length w (oA c t.g) t.r t.s t.C m->K a m): Î À tX (Exit.then K<|QQ X) (nN i B h u) w:=by
 unfold nN;conv=>arg 2;whnf
 subst Q;have e1:((n:Int)==(B.size:Int))=Ï:=by rw[beq_eq_false_iff_ne];omega
 have e2:decide ((B.size:Int)<(n:Int))=Ï:=decide_eq_false Z;have GO:(0:Int)<=(n:Int):=Z
 have vh:(n:Int)<(B.size:Int):=Z
 have j:=By E ok i c z x zQ s f w b r k l o q v Z V Z;rw[O]at j;have H:=ff<|Á b<|Á j<|Á r<|Á v N;clear b j r v O N;go_wp2_with (go_at_call 103;refine(pQ _ _).mono ?_;rintro e m ⟨rfl,hw⟩;subst m;rw[H.out.2.2.2.2]);go_at_call 202;apply H.out.2.1.mono;rintro e w1 ⟨rfl,C,P⟩;rw[if_pos U]at C;have G:=ff<|Á C P;clear C P;have e11:((k:Int)==1)=Ï:=by rw[beq_eq_false_iff_ne];omega
 have e27:((k:Int)==17)=Ï:=by rw[beq_eq_false_iff_ne];omega
 have e31:((k:Int)==21)=Ï:=by rw[beq_eq_false_iff_ne];omega
 have e32:((k:Int)==22)=Ï:=by rw[beq_eq_false_iff_ne];omega
 have D:=akQ (t:=t) ok G.out.1 T oQ hd hF I (H.out.2.2.1.N ok H.out.1 G.out.2) J hx hy L (by show 0<=c.g-l;omega) (by show c.g-l<=100000;omega) (by show(f.length:Int)+(c.g-l)<=1000000;omega) k W Y Zv l o q H.out.2.2.2.1 BA M;have HD:=ff D;clear D hF I J L hlen M;go_wp2_with (go_at_call 103;refine(pQ _ _).mono ?_;rintro e m ⟨rfl,hw⟩;subst m;rw[H.out.2.2.2.2]);go_at_call 205;apply HD.out.mono;rintro e w2 ⟨rfl,Hd,KJ,h2,t2⟩;go_wp2_with fail;exact hK _ _ (gl _) ⟨_,_,h2,G.out.2.fh t2⟩
end
def pR(k:Nat):Int×Int×Int:=(iX[k]?).getD (0,0,0)
def DU(P:ByteArray)(a:Int):Int:=((P.data.getD a.toNat 0).toNat:Int)
def lq(P:ByteArray)(a:Int):Nat:=lH<|DU P a
def sy(F:lY)(c:RC)(P:ByteArray):Nat->Int->RT->Int×Bool×RT
 |0,_,t=>(0,Ï,t)
 |f+1,pl,t=>
  if pl=P.size then(0,Ú,t)
  else if(P.size:Int)<pl then(0,Ï,{t with g:=0})
  else if lX t.g t.r.length (pR<|lq P pl).1 (pR<|lq P pl).2.1 (pR<|lq P pl).2.2=Ï then(0,Ï,{t with g:=0})
  else if lq P pl=1 then sy F c P f (pl+1) {t with r:=t.r++[DU P pl-48],g:=t.g-(pR<|lq P pl).1}
  else if lq P pl=17 then
   if fY (fV t.r)=0 then sy F c P f (pl+1) {t with r:=fV<|fV t.r,g:=t.g-(pR<|lq P pl).1}else sy F c P f (fY t.r) {t with r:=fV<|fV t.r,g:=t.g-(pR<|lq P pl).1}
  else if lq P pl=21 then(fY t.r,Ú,{t with r:=fV t.r,g:=t.g-(pR<|lq P pl).1})
  else if lq P pl=22 then(0,Ï,{t with g:=t.g-(pR<|lq P pl).1})
  else sy F c P f (pl+1) (nX F c (lq P pl) {t with g:=t.g-(pR<|lq P pl).1})
structure nO(t:RT):Prop where
 r:∀p∈t.r,gd p
 M:t.r.length<=32
 s:gJ t.s
 g0:0<=t.g
 C:t.g<=100000
 I:(t.C.length:Int)+t.g<=1000000
def ak0{p:Prop}[Decidable p](c:i<=m)(d:b<=m):(if p then i else b)<=m:=by split;exact c;exact d
def Zy(c:Int):lH c<=22:=by unfold lH;repeat' (first|refine ak0 A ?_|decide)
def tY:gd 0:=⟨A,A⟩
def ak1:gd 1:=⟨A,A⟩
theorem Zz(h:k<=22):iX[k]?=Ã (pR k):=by
 unfold pR;have:k<iX.length:=by show k<23;omega
 grind
def yS(n:Int):gd (wu n):=⟨akc n,akd n⟩
def ZA(b:Bool):gd (xb b):=by cases b<;>exact⟨A,A⟩
def ak2{q:Int}(a:gd c)(d:gd q):gd (xc h c q):=by
 unfold xc;repeat' split
 all_goals first|exact yS _|exact ZA _|exact⟨A,A⟩|skip
 rename_i e;have b:=a.1;exact⟨Int.ediv_nonneg b d.1,Int.lt_of_le_of_lt (Int.ediv_le_self _ b) a.2⟩
def gJ.gf{s:St}(h:gJ s){a:G6}(b:gd a.fw)(d:∀j,gd<|a.C j)(e:a.r.size<=40/\∀c∈a.r.data.toList,xd c=Ú):gJ (s.gf i a):=by
 refine⟨λj=> ?_,λj k=> ?_,λj=> ?_⟩<;>unfold St.gf<;>split
 .exact b
 .exact h.fw j
 .exact d k
 .exact h.C j k
 .exact e
 .exact h.I j
def gJ.r{s:St}(h:gJ s)(i:Nat){b:Int}(a:gd b):gJ (s.fw i b):=h.gf a (h.C i)<|h.I i
def gJ.RP{s:St}(h:gJ s)(i j:Nat)(a:gd c):gJ (s.r i j c):=by
 refine h.gf (h.fw i) (λk=> ?_)<|h.I i;show gd (if k=j then c else(s i).C k);split
 .exact a
 .exact h.C i k
def ak3{s:St}(h:gJ s)(y:Nat){p:Int}(a:gd p):gd (qx s y c p).1/\gJ (qx s y c p).2:=by
 unfold qx;split
 .exact⟨tY,h⟩
 .rename_i d;have b:=h.fw y;have e:=a.1;refine⟨ak1,gJ.r (gJ.r h y ⟨Z,by have:=b.2;omega⟩) _<|yS _⟩
def ZB(h:n<8):gd (n:Int):=⟨Z,Z⟩
section
variable{F:lY}{c:RC}{t:RT}
def sB{m:List Int}(h:∀p∈zQ,gd p)(k:∀p∈m,gd p):∀p∈zQ++m,gd p:=λp a=>(ú.1 a).elim (h p)<|k p
def xg{a:Int}(h:gd a):∀p∈[a],gd p:=λp b=>by simp at b;subst b;exact h
def R2{a b:Int}(h:gd a)(k:gd b):∀p∈[a,b],gd p:=λp c=>by simp at c;rcases c with rfl|rfl;exact h;exact k
def ak4(b:pO F)(a:nO t)(d:c.y<8){p k:Int}(f:gd h)(i:gd p)(j:gd k): gd (iU F c t h p k).1/\gd (iU F c t h p k).2.1/\gJ (iU F c t h p k).2.2.s/\0<=(iU F c t h p k).2.2.g/\(iU F c t h p k).2.2.g<=t.g/\((iU F c t h p k).2.2.C.length:Int)+(iU F c t h p k).2.2.g<=(t.C.length:Int)+t.g:=by
 unfold iU;split
 .exact⟨tY,tY,a.s,a.g0,Ö _,Ö _⟩
 .have l:0<=min p t.g:=by have:=i.1;have:=a.g0;omega
  have m:=a.C;have n:=a.I;have o:=f.1;have e:=b t.s t.C c.y (h%8).toNat (min p t.g) k a.s d Z j l Z Z;have r:=e.C;have u:=e.r;have v:=e.I;refine⟨e.M,ZA _,e.N,?_,?_,?_⟩;all_goals simp only
  all_goals have:=a.g0
  all_goals omega
theorem ZC(v:pO F)(w:c.x<8)(r:c.y<8)(z:gd c.k)(P:2<=k)(Q:k<=20)(S:k≠17){o u:Int}(d:iX[k]?=Ã (h,o,u)){g:Int}(T:t.g=g-h)(a:nO t)(V:(t.C.length:Int)+g<=1000000)(W:o<=t.r.length)(X:(t.r.length:Int)-o+u<=32): nO (nX F c k t)/\(nX F c k t).g<=t.g/\((nX F c k t).C.length:Int)+(nX F c k t).g<=t.C.length+g:=by
 have i:=sx a.r;have j:=sx<|oW a.r;have B:=sx<|oW<|oW a.r;have m:=oW a.r;have n:=oW m;have C:=oW n;have f:=pP t.r;have q:=pP<|fV t.r;have Y:=pP<|fV<|fV t.r;have g1:=a.C;obtain⟨D,E,G,H,I,J⟩:=K3 k _ d;simp only at D E G H I J;have len:=a.M;have b:∀{l:List Int},(∀p∈l,gd p)->l.length<=32->nO {t with r:=l}:=λp K=>⟨p,K,a.s,a.g0,a.C,a.I⟩;have cases:(k=2\/k=3\/k=4\/k=5\/k=6\/k=7)\/k=8\/k=9\/k=10\/k=11\/k=12\/k=13\/k=14\/k=15\/k=16\/k=18\/k=19\/k=20:=Z
 rcases cases with hq|rfl|rfl|rfl|rfl|rfl|rfl|rfl|rfl|rfl|rfl|rfl|rfl
 .have e:nX F c k t={t with r:=fV (fV t.r)++[xc k (fY<|fV t.r)<|fY t.r]}:=by
   rcases hq with rfl|rfl|rfl|rfl|rfl|rfl<;>rfl
  rw[e];exact⟨b (sB n<|xg<|ak2 j i) (by simp[f,q];omega),Ö _,by simp only;omega⟩
 .exact⟨b (sB m<|R2 i i) (by simp[f];simp[iX]at d;omega),Ö _,by show(t.C.length:Int)+t.g<=_;omega⟩
 .exact⟨b (sB n<|R2 i j) (by simp[f,q];omega),Ö _,by show(t.C.length:Int)+t.g<=_;omega⟩
 .exact⟨b m (by rw[f];omega),Ö _,by show(t.C.length:Int)+t.g<=_;omega⟩
 .exact⟨b (sB a.r<|xg z) (by simp;simp[iX]at d;omega),Ö _,by show(t.C.length:Int)+t.g<=_;omega⟩
 .exact⟨b (sB a.r<|xg<|ZB w) (by simp;simp[iX]at d;omega),Ö _,by show(t.C.length:Int)+t.g<=_;omega⟩
 .exact⟨b (sB a.r<|xg<|ZB r) (by simp;simp[iX]at d;omega),Ö _,by show(t.C.length:Int)+t.g<=_;omega⟩
 .exact⟨b (sB a.r<|xg<|a.s.fw _) (by simp;simp[iX]at d;omega),Ö _,by show(t.C.length:Int)+t.g<=_;omega⟩
 .exact⟨b (sB m<|xg<|a.s.C _ _) (by simp[f];omega),Ö _,by show(t.C.length:Int)+t.g<=_;omega⟩
 .exact⟨⟨n,by show(fV<|fV t.r).length<=32;omega,a.s.RP _ _ j,a.g0,a.C,a.I⟩,Ö _,by show(t.C.length:Int)+t.g<=_;omega⟩
 .obtain⟨e,L⟩:=ak3 a.s c.y j;exact⟨⟨sB n<|xg e,by show(fV (fV t.r)++[_]).length<=32;simp[f,q];omega,L,a.g0,a.C,a.I⟩,Ö _,by show(t.C.length:Int)+t.g<=_;omega⟩
 .have e:h=4:=by simp[iX]at d;omega
  refine⟨⟨m,by show(fV t.r).length<=32;omega,a.s,a.g0,a.C,?_⟩,Ö _,?_⟩
  .show((t.C++[_]).length:Int)+t.g<=_;simp;omega
  .show((t.C++[_]).length:Int)+t.g<=_;simp;omega
 .obtain⟨e,L,M,N,O,w6⟩:=ak4 v a r i j B;refine⟨⟨sB C<|R2 e L,?_,M,N,?_,?_⟩,O,?_⟩
  .show(fV (fV<|fV t.r)++[_,_]).length<=32;grind
  .show(iU F c t _ _ _).2.2.g<=_;omega
  .show((iU F c t _ _ _).2.2.C.length:Int)+(iU F c t _ _ _).2.2.g<=_;omega
  .show((iU F c t _ _ _).2.2.C.length:Int)+(iU F c t _ _ _).2.2.g<=_;omega
end
def BD(a:Nat)(w:É):Nat:=match w.cell? ⟨a,5,Ä⟩with
 |some (Â _ n)=>n.toNat
 |_=>0
def R.G{E:iT}{c:RC}{s:St}{a:List (Nat×Int)}(h:R E i c v x zQ s a w):BD i w=c.g.toNat:=by unfold BD;rw[h.r.r 5 _ U]
def SI(E:iT)(d:Nat)(c:RC)(P:ByteArray)(F:lY)(f h:È)(i:Nat)(j:É)(k:Int×Bool×RT)(a:é)(w:É):Prop:=
 ∃(b:Int) (t:RT) (e:Nat),BB d P b a/\gd b/\kH E d f h i j (oA c t.g) t.r t.s t.C w/\nO t/\iK w/\t.g.toNat<e/\sy F c P e b t=k
def SX(E:iT)(d:Nat)(c:RC)(P:ByteArray)(e f:È)(h:Nat)(i:É)(b:Int×Bool×RT)(a:é)(w:É):Prop:=
 DR d P b.1 b.2.1 a/\kH E d e f h i (oA c b.2.2.g) b.2.2.r b.2.2.s b.2.2.C w
def R3(a:n<B.size):DU B (n:Int)=((B[n]'a).toNat:Int):=by unfold DU;rw[Ŷ];have b:n<B.data.size:=a;simp only[Array.getD,b,dif_pos];rfl
theorem R4{s:St}(b:gJ s)(y:Nat)(a:n<(s y).r.size):1<=lq (s y).r (n:Int):=by
 unfold lq;rw[R3 a];have c:((s y).r[n]'a)∈(s y).r.data.toList:=by have:(s y).r[n]'a=(s y).r.data[n]'a:=U;grind [Array.getElem_mem]
 have:=(b.I y).2 _ c;unfold xd at this;have:=of_decide_eq_true this;omega
def ZD{b a d:Int}(h:lX c n b a d=Ú):b<=c/\a<=n/\(n:Int)-a+d<=32:=by unfold lX at h;simp at h;omega
def ak5{p:Prop}[Decidable p](c:i≠m)(d:b≠m):(if p then i else b)≠m:=by split;exact c;exact d
def ZE(h:lH c=1):48<=c/\c<=57:=by
 by_cases a:48<=c/\c<=57
 .exact a
 .exfalso;revert h;unfold lH;rw[if_neg a];repeat' (first|refine ak5 A ?_|decide)
def ak6(a:1<=k)(b:k<=22):1<=(pR k).1:=by
 have h:∀k:Fin 23,1<=k.val->1<=(pR k.val).1:=A
 exact h ⟨k,Z⟩ a
section
variable{E:iT}{c:RC}{F:lY}{l:Int×Bool×RT}
def ak7(ok:E.Ok)(hP:B.size<=40)(ak8:∀n,n<B.size->1<=lq B (n:Int))(oQ:0<=c.d)(hd:c.d<=4)(hF:c.d<4->sw F (c.d+1))(hI:pO F)(hx:c.x<8)(hy:c.y<8)(K5:gd c.k)(a:é)(w:É)(h:SI E j c B F z v i W l a w): Î À tX (Exit.then (λa' w'=>SI E j c B F z v i W l a' w'/\BD j w'<BD j w)<|QQ<|SX E j c B z v i W l) a w:=by
 let⟨pl,t,fuel,hfr,sW,⟨sv,lv,hR,hT⟩,ht,hr,hfu,hres⟩:=h;have g0:=ht.g0;have g1:=ht.C;have hl:=ht.M;have ak9:=hR.G;obtain⟨f,rfl⟩:∃f,fuel=f+1:=⟨fuel-1,Z⟩;unfold sy at hres;obtain⟨u,rfl⟩:=hfr;by_cases h1:pl=B.size
 .rw[if_pos h1]at hres;subst hres;apply akR ok u hR hP h1;rintro a' w' q1 ⟨jU,jv,r1,r2⟩;exact⟨q1,jU,jv,r1,hT.fh r2⟩
 rw[if_neg h1]at hres;by_cases h2:(B.size:Int)<pl
 .rw[if_pos h2]at hres;subst hres;apply akS ok u hR hP h2;rintro a' w' q1 ⟨jU,jv,r1,r2⟩;exact⟨q1,jU,jv,r1,hT.fh r2⟩
 rw[if_neg h2]at hres;have Zu:=sW.1;obtain⟨n,rfl⟩:∃n:Nat,pl=n:=⟨pl.toNat,Z⟩;have hn:n<B.size:=Z
 have k1:=ak8 n hn;have tW:lH ((B[n]'hn).toNat:Int)=lq B (n:Int):=by unfold lq;rw[R3 hn]
 have k2:lq B (n:Int)<=22:=Zy _;have hk:=Zz k2;have Zx:=ak6 k1 k2;let⟨b1,b2,b3,b4,b5,b6⟩:=K3 _ _ hk;have ala:=R3 hn;generalize lq B (n:Int)=k at*;generalize hro:pR k=ro at*;let⟨co,ta,pu⟩:=ro;simp only at hres hk Zx b1 b2 b3 b4 b5 b6;by_cases h3:lX t.g t.r.length co ta pu=Ï
 .rw[if_pos h3]at hres;subst hres;apply akT ok u hR hP n U hn hr co ta pu Z g0 g1 k tW hk h3;rintro a' w' q1 ⟨jU,jv,r1,r2⟩;exact⟨q1,jU,jv,r1,hT.fh r2⟩
 rw[if_neg h3]at hres;have ow:lX t.g t.r.length co ta pu=Ú:=by cases e:lX t.g t.r.length co ta pu with
  |true=>rfl
  |false=>exact absurd e h3
 let⟨R1,BA,R5⟩:=ZD ow;have R6:=ht.I;have vh:gd ((n:Int)+1):=⟨Z,Z⟩;have K6:∀{a':é} {w':É} {He:Int} {t':RT} {jU jv:È},BB j B He a'->gd He->R E j (oA c t'.g) jU jv t'.r t'.s t'.C w'->Tr E j sv lv t.C.length w jU jv t'.C.length w'->nO t'->t'.g<=t.g-co->sy F c B f He t'=l->SI E j c B F z v i W l a' w'/\BD j w'<BD j w:=by intro a' w' He t' jU jv q1 q2 q3 q4 q5 q6 q7;refine⟨⟨He,t',f,q1,q2,⟨jU,jv,q3,hT.fh q4⟩,q5,hr.N ok hR q4,Z,q7⟩,?_⟩;rw[q3.G,ak9];show t'.g.toNat<t.g.toNat;omega
 by_cases h4:k=1
 .rw[if_pos h4]at hres;subst h4;have ZF:=ZE tW;apply akW ok u hR hP n U hn hr co ta pu Z g0 g1 ZF.1 ZF.2 tW hk ow;rintro a' w' q1 ⟨jU,jv,r1,r2⟩;rw[ala]at hres;refine K6 (t':={t with r:=t.r++[((B[n]'hn).toNat:Int)-48],g:=t.g-co}) q1 vh r1 r2 ⟨sB ht.r<|xg ⟨Z,Z⟩,?_,ht.s,by show 0<=t.g-co;omega,by show t.g-co<=100000;omega,by show(t.C.length:Int)+(t.g-co)<=1000000;omega⟩ (Ö _) hres;simp[iX]at hk;simp;omega
 rw[if_neg h4]at hres;by_cases h5:k=17
 .rw[if_pos h5]at hres;subst h5;have alb:ta=2:=by simp[iX]at hk;omega
  have e2:t.r=(fV (fV t.r)++[fY<|fV t.r])++[fY t.r]:=by rw[xf (by rw[pP];omega),xf Z]
  have tok:nO {t with r:=fV<|fV t.r,g:=t.g-co}:=⟨oW<|oW ht.r,by show(fV<|fV t.r).length<=32;rw[pP,pP];omega,ht.s,by show 0<=t.g-co;omega,by show t.g-co<=100000;omega,by show(t.C.length:Int)+(t.g-co)<=1000000;omega⟩;by_cases h6:fY (fV t.r)=0
  .rw[if_pos h6]at hres;apply akY ok u hR hP n U hn hr co ta pu Z g0 g1 _ _ _ e2 h6 tW hk ow;rintro a' w' q1 ⟨jU,jv,r1,r2⟩;exact K6 (t':={t with r:=fV<|fV t.r,g:=t.g-co}) q1 vh r1 r2 tok (Ö _) hres
  .rw[if_neg h6]at hres;apply akX ok u hR hP n U hn hr co ta pu Z g0 g1 _ _ _ e2 h6 tW hk ow;rintro a' w' q1 ⟨jU,jv,r1,r2⟩;exact K6 (t':={t with r:=fV<|fV t.r,g:=t.g-co}) q1 (sx ht.r) r1 r2 tok (Ö _) hres
 rw[if_neg h5]at hres;by_cases h6:k=21
 .rw[if_pos h6]at hres;subst h6 hres;have alb:ta=1:=by simp[iX]at hk;omega
  apply akV ok u hR hP n U hn hr co ta pu Z g0 g1 _ _ (xf Z).symm tW hk ow;rintro a' w' q1 ⟨jU,jv,r1,r2⟩;exact⟨q1,jU,jv,r1,hT.fh r2⟩
 rw[if_neg h6]at hres;by_cases h7:k=22
 .rw[if_pos h7]at hres;subst h7 hres;apply akU ok u hR hP n U hn hr co ta pu Z g0 g1 tW hk ow;rintro a' w' q1 ⟨jU,jv,r1,r2⟩;exact⟨q1,jU,jv,r1,hT.fh r2⟩
 rw[if_neg h7]at hres;let⟨d1,d2,d3⟩:=ZC (t:={t with g:=t.g-co}) hI hx hy K5 Z Z h5 hk U ⟨ht.r,ht.M,ht.s,by show 0<=t.g-co;omega,by show t.g-co<=100000;omega,by show(t.C.length:Int)+(t.g-co)<=1000000;omega⟩ R6 BA R5;apply akZ ok u hR hP n U hn hr co ta pu Z g0 g1 k Z Z h5 BA oQ hd hF hI ht.s hx hy ht.r R6 (nX F c k {t with g:=t.g-co}) U b1 R1 tW hk ow;rintro a' w' q1 ⟨jU,jv,r1,r2⟩;exact K6 q1 vh r1 r2 d1 d2 hres
end
section
variable{E:iT}{c:RC}{F:lY}{lv:È}{s:St}{b:List (Nat×Int)}
def nY(F:lY)(c:RC)(s:St)(b:List (Nat×Int)):Int×Bool×RT:=sy F c (s c.y).r (c.g.toNat+1) 0 ⟨[],s,b,c.g⟩
def alc(ok:E.Ok)(h:R E i c v lv [] s b w)(l:0<=c.d)(o:c.d<=4)(hF:c.d<4->sw F (c.d+1))(p:pO F)(q:iK w)(f:gJ s)(r:c.x<8)(j:c.y<8)(t:gd c.k)(z:0<=c.g)(B:c.g<=100000)(C:(b.length:Int)+c.g<=1000000): Ò À 191 #[Å<|Ã ⟨i,0,Ä⟩] w λe a=>e=Ç (æ #[Â Æ (nY F c s b).1,Ñ (nY F c s b).2.1])/\kH E i v lv b.length w (oA c (nY F c s b).2.2.g) (nY F c s b).2.2.r (nY F c s b).2.2.s (nY F c s b).2.2.C a:=by
 have G:=h.r.r 0 _ U;have I:=h.r.r 2 _ U;have J:=h.C.K0 j;have K:=h.r.M;have M:=fi.M h.C;have e:=(f.I c.y).1;have L:∀m,∀a,BB i (s c.y).r 0 a->Î À (à tX) (QQ<|SX E i c (s c.y).r v lv b.length w<|nY F c s b) a (w.drewN m):=λm a D=>by refine Ĉ (SI E i c (s c.y).r F v lv b.length w<|nY F c s b) (λ_ w=>BD i w) ?_ (ak7 ok e (λn u=>R4 f c.y u) l o hF p r j t);have k:=fc.iO fg w m;exact⟨0,⟨[],s,b,c.g⟩,c.g.toNat+1,D,tY,⟨v,lv,h.fL k,Tr.fL k⟩,⟨fp,fp,f,z,B,C⟩,q.r k id,fp,U⟩
 have H:=ff L;generalize nY F c s b=res at*;generalize N:(s c.y).r=P at*;go_enter Tryz.func191,Tryz.ntmps191;go_wp2_with fail;go_step3;go_wp2_with fail;go_quiet (fail);go_wp2_with fail;go_step3;go_wp2_with fail;refine Ý ?_ (H.out _ _ (gl _));rintro(_|(_|_)|_|_|_|_) a v hq;all_goals first|exact absurd hq id|skip
 let⟨n,O⟩:=hq;obtain⟨u,rfl⟩:=n;unfold Zw;go_wp2_with fail;(try rw[Exit.noGoto_ret]);go_ret2;simp_all
end
def R7(a:o.op=bh T)(b:P.info? T=Ã zJ)(c:zJ.zero=Ã z): (Ĥ xX o).run P w=φ (.value<|Å<|Ã ⟨w.heap.size,0,Ä⟩) (w.alloc<|Ð z.cells T):=by unfold Ĥ;simp[a,Instr.alloc,zeroValue,typeInfo,b,c,newVar,newRow]
def K7:∀(e a d:List È) (w:É) (c:List È),c.length=e.length->fi b (a++c++d) T w->fi b (a++e++d) T (w.setCells b a.length e)
 |[],a,d,w,c,hl,h=>by have:c=[]:=ß (by simpa using hl);subst this;exact h
 |v::r,a,d,w,c,hl,h=>by
  match c,hl,h with
  |x::c,hl,h=>
   have f:=h.gf a.length v;rw[show(a++x::c++d).set a.length v=(a++[v])++c++d by simp]at f;have:=K7 r (a++[v]) d _ c (by simpa using hl) f;rw[show(a++[v]).length=a.length+1 by simp]at this;rw[show a++v::r++d=a++[v]++r++d by simp];exact this
def NF.p7(h:NF b w)(p:ă)(v:È):NF b (w.setCell p v):=λc T d q=>by
 by_cases e:b=p.block
 .subst e;unfold ą at q;simp only[Û,if_true]at q;cases a:w.heap[p.block]? with
  |none=>rw[a]at q;cases q
  |some f=>
   rw[a]at q;cases f with
   |cells g t z=>
    simp only[ñ,è,ģ]at q;rw[<-q.2.1];exact h _ _ _ a
   |_=>cases q
 .rw[Ė _ _ _ _ (by simpa using e)]at q;exact h c T d q
def Hf:∀(vs:List È) (o:Nat) (w:É),NF b w->fc (λk=>k=b) w (w.setCells b o vs)
 |[],_,w,_=>fc.fT _ w
 |v::r,o,w,h=>(fc.I (X:=λk=>k=b) (p:=⟨b,o,Ä⟩) U v<|Ù h).fh<|Hf r (o+1) _<|h.p7 _ _
def fi.R8{vs:List È}(h:fi j vs T w)(a:n<=vs.length):w.there j 0 n:=λi b=>by refine⟨?_,h.C _⟩;rw[h.r (0+i) (vs[0+i]'Z)<|Ô Z];rfl
def fi.Y{vs tl:List È}(h:fi j (vs++tl) T w):w.rangeAt j 0 vs:=λi v a=>by apply h.r (0+i) v;rwa[ł,ç (Ü.1 a).1]
def ZG{P:Program}{ops:Array Oper}{rest:List Oper}{o1 o2:Oper}{a:Act}{w:World}{Q:Exit->Act->World->Prop}(g1:o1.guard=none)(g2:o2.guard=none)(T:TypeId)(h1:o1.op=.alloc T)(d:Tmp)(hd:o1.dst=some d)(x y:Operand)(h2:o2.op=.store T x y)(oy:o2.dst=none) {i:TypeInfo} {z:Value} (hi:P.info? T=some i) (hz:i.zero=some z) (cs:List Value) (j1:i.size=cs.length) (rf:z.cells.size=cs.length) (hx:(a.put (some d)<|.pointer<|some ⟨w.heap.size,0,none⟩).eval x=.pointer (some ⟨w.heap.size,0,none⟩)) (hy:(a.put (some d)<|.pointer<|some ⟨w.heap.size,0,none⟩).eval y=.agg cs.toArray) (K8:∀v∈cs,v.oneCell'=true) (h:∀w',fi w.heap.size cs T w'->fc fg w w'->w'.heap.size=w.heap.size+1->wpList P ops Q rest (a.put (some d)<|.pointer<|some ⟨w.heap.size,0,none⟩) w') (hT:lW T=false:=by decide):wpList P ops Q (o1::o2::rest) a w:=by
 apply Ć g1 (Ã d) hd _ _ (R7 h1 hi hz);have hB:fi w.heap.size z.cells.toList T (w.alloc<|Ð z.cells T):=by have:=fi.N w z.cells.toList T;simpa using this
 refine ľ g2 T x y h2 w.heap.size 0 cs.toArray hx hy (hB.R8<|by simp[rf]) (by rw[hi];simp[j1]) (Ī K8) ?_;rw[oy];have hB2:=K7 cs [] [] (w.alloc<|Ð z.cells T) z.cells.toList (by simpa using rf) (by simpa using hB);refine h _ (by simpa using hB2) ?_ ?_
 .refine(fc.gI fg w _ _<|Ø hT).C (Hf _ _ _<|hB.G hT) λk hk e=> ?_;omega
 .have:∀(vs:List È) (o:Nat) (w:É) (b:Nat),(w.setCells b o vs).heap.size=w.heap.size:=by
   intro vs
   induction vs with
   |nil=>intro o w b;rfl
   |cons v r ih=>intro o w b;rw[World.setCells,ih];simp
  simp[this]
section
variable{c:RC}{F:lY}
structure yT(t:RT)(r:Int×Bool×RT):Prop where
 M:gd r.1
 s:gJ r.2.2.s
 g0:0<=r.2.2.g
 C:r.2.2.g<=t.g
 I:(r.2.2.C.length:Int)+r.2.2.g<=t.C.length+t.g
def yT.r{t a:RT}{r:Int×Bool×RT}(h:yT a r)(b:a.g<=t.g)(c:(a.C.length:Int)+a.g<=t.C.length+t.g):yT t r:= ⟨h.M,h.s,h.g0,ŷ h.C b,ŷ h.I c⟩
def DV{J:St->List (Nat×Int)->Prop}(u:B.size<=40)(d:∀n,n<B.size->1<=lq B (n:Int))(h:pO F)(i:c.x<8)(j:c.y<8)(m:gd c.k)(o:∀(k:Nat) (t:RT),k<=20->nO t->J t.s t.C->J (nX F c k t).s (nX F c k t).C):∀(p:Nat) (b:Int) (t:RT),gd b->nO t->J t.s t.C->yT t (sy F c B p b t)/\J (sy F c B p b t).2.2.s (sy F c B p b t).2.2.C
 |0,_,t,_,ht,hj=>⟨⟨tY,ht.s,ht.g0,Ö _,Ö _⟩,hj⟩
 |f+1,b,t,sW,ht,hj=>by
  have S:=ht.g0;have g1:=ht.C;have T:=ht.M;have V:=ht.I;have L:yT t (0,Ï,{t with g:=0})/\J t.s t.C:=⟨⟨tY,ht.s,Ö _,S,by show(t.C.length:Int)+0<=_;omega⟩,hj⟩;unfold sy;by_cases M:b=B.size
  .rw[if_pos M];exact⟨⟨tY,ht.s,ht.g0,Ö _,Ö _⟩,hj⟩
  rw[if_neg M];by_cases N:(B.size:Int)<b
  .rwa[if_pos N]
  rw[if_neg N];have Zu:=sW.1;obtain⟨n,rfl⟩:∃n:Nat,b=n:=⟨b.toNat,Z⟩;have W:n<B.size:=Z
  have k1:=d n W;have X:lq B (n:Int)<=22:=Zy _;have v:=Zz X;let⟨Y,b2,b3,b4,b5,b6⟩:=K3 _ _ v;have ald:lq B (n:Int)=1->48<=DU B (n:Int)/\DU B (n:Int)<=57:=ZE;generalize lq B (n:Int)=k at*;generalize hro:pR k=ro at*;let⟨a,w,z⟩:=ro;simp only at v Y b2 b3 b4 b5 b6|-;by_cases C:lX t.g t.r.length a w z=Ï
  .rwa[if_pos C]
  rw[if_neg C];have ow:lX t.g t.r.length a w z=Ú:=by cases e:lX t.g t.r.length a w z with
   |true=>rfl
   |false=>exact absurd e C
  let⟨R1,BA,R5⟩:=ZD ow;have D:gd ((n:Int)+1):=⟨Z,Z⟩;have E:∀{l:List Int},(∀p∈l,gd p)->l.length<=32->nO {t with r:=l,g:=t.g-a}:=λG H=>⟨G,H,ht.s,by show 0<=t.g-a;omega,by show t.g-a<=100000;omega,by show(t.C.length:Int)+(t.g-a)<=1000000;omega⟩;have I:∀{l:List Int} {r:Int×Bool×RT},yT {t with r:=l,g:=t.g-a} r/\J r.2.2.s r.2.2.C->yT t r/\J r.2.2.s r.2.2.C:=λq=>⟨q.1.r (by show t.g-a<=t.g;omega) (by show(t.C.length:Int)+(t.g-a)<=_;omega),q.2⟩;by_cases p:k=1
  .rw[if_pos p];have:=ald p;subst p;refine I<|DV u d h i j m o f _ _ D (E (sB ht.r<|xg ⟨Z,Z⟩) ?_) hj;simp[iX]at v;simp;omega
  rw[if_neg p];by_cases K:k=17
  .rw[if_pos K];have O:=E (oW<|oW ht.r) (by rw[pP,pP];omega);split
   .exact I<|DV u d h i j m o f _ _ D O hj
   .exact I<|DV u d h i j m o f _ _ (sx ht.r) O hj
  rw[if_neg K];by_cases O:k=21
  .rw[if_pos O];exact⟨⟨sx ht.r,ht.s,by show 0<=t.g-a;omega,by show t.g-a<=t.g;omega,by show(t.C.length:Int)+(t.g-a)<=_;omega⟩,hj⟩
  rw[if_neg O];by_cases P:k=22
  .rw[if_pos P];exact⟨⟨tY,ht.s,by show 0<=t.g-a;omega,by show t.g-a<=t.g;omega,by show(t.C.length:Int)+(t.g-a)<=_;omega⟩,hj⟩
  rw[if_neg P];have Q:=E ht.r T;let⟨d1,d2,d3⟩:=ZC (t:={t with g:=t.g-a}) h i j m Z Z K v U Q V BA R5;let⟨G,H⟩:=DV u d h i j m o f _ _ D d1<|o k _ Z Q hj;exact⟨G.r (ŷ d2<|by show t.g-a<=t.g;omega) d3,H⟩
def ZH{s:St}{a:List (Nat×Int)}(d:pO F)(b:gJ s)(e:c.x<8)(f:c.y<8)(h:gd c.k)(i:0<=c.g)(j:c.g<=100000)(l:(a.length:Int)+c.g<=1000000):yT ⟨[],s,a,c.g⟩ (nY F c s a):= (DV (J:=λ_ _=>True) (b.I c.y).1 (λn m=>R4 b c.y m) d e f h (λ_ _ _ _ _=>trivial) _ _ _ tY ⟨fp,fp,b,i,j,l⟩ trivial).1
end
def ale:(À.underlying 144).map İ=Ã Ú:=fu
def ZI:(À.info? 144).map (λi=>(i.size,i.zero.map (·.cells.size)))=Ã (145,Ã 145):=fu
def ZJ(h:(P.info? e).map (λi=>(i.size,i.zero.map (·.cells.size)))=Ã (n,Ã m)):∃i z,P.info? e=Ã i/\i.size=n/\i.zero=Ã z/\z.cells.size=m:=by let⟨i,a,h⟩:=Ì.1 h;simp only[Prod.mk.injEq,Ì]at h;let⟨b,z,c,d⟩:=h;exact⟨i,z,a,b,c,d⟩
def R9(s:St){lv:È}(b:lv.oneCell'=Ú):∀v∈jg s lv,v.oneCell'=Ú:=λv c=>by
 obtain⟨i,a,rfl⟩:=List.getElem_of_mem c;rw[mA]at a;have:=G7 s lv a;rw[Ô (by rwa[mA])]at this;injection this with this;rw[this];unfold rn pN;repeat' split
 all_goals first|exact b|rfl
def Sb{t:Tmp}{d:TypeDesc}(h:s.results=#[.cell t T])(a:q.getD t ā=Å (Ã ⟨b,0,Ä⟩))(c:w.rangeAt b 0 l)(e:P.underlying T=Ã d)(f:d.isRow=Ú)(g:(P.info? T).map (·.size)=Ã l.length): (aj s q).run P w=φ (Ē l.toArray) w:=by rw[ī]at a;simp only[aj,h];simp[a,asAddr,Ν w b 0 T l d c e f g]
def Sc:(À.underlying 252).map İ=Ã Ú:=fu
def Sd:(À.info? 252).map (·.size)=Ã 3:=fu
def alf{e:Array ş}{f:List ş}{a:é}(i:o.guard=Ä)(d:õ)(x y:Ů)(j:o.op=.store d x y) (b:Nat) (c:List È) (k:a.eval x=Å (Ã ⟨b,0,Ä⟩)) (l:a.eval y=Ē c.toArray) (m:w.there b 0 c.toArray.size) (n:(P.info? d).map (·.size)=Ã c.toArray.size) (p:c.toArray.all (·.oneCell')=Ú) (h:∀g,g=w.setCells b 0 c->aQ P e vJ f (a.put o.dst ā) g):aQ P e vJ (o::f) a w:= ľ i d x y j b 0 c.toArray k l m n p<|h _ U
def rp(F:lY)(c:RC)(s:St)(a:List (Nat×Int)):Bz:=
 ⟨c.g-(nY F c s a).2.2.g,(nY F c s a).2.1,(nY F c s a).1,if(nY F c s a).2.1 then(nY F c s a).2.2.s else s,if(nY F c s a).2.1 then(nY F c s a).2.2.C else a⟩
section
variable{E:iT}{c:RC}{lv:È}{s:St}{f:List (Nat×Int)}{F:lY}
def alg(k:fc fg w u)(t:Tr E i (Ê Ä 0 0) lv n u x v f.length W)(o:w.heap.size<=i)(r:R E i c x v zQ s f W):ik E lv n w s f W v:=by
 refine⟨r.C,r.M,?_,λj q=>(t.l j q).imp id λe=>ë k.M e,λb d g h m=>t.C b d g (ia h k λ_ _=>id) m⟩;refine(k.S λ_ _=>ę).C t.r ?_;rintro a p (e|e|e|e)
 .exact Ø e
 .omega
 .cases e
 .exact Ù e
def ik.N{Y:Nat->Prop}(r:ik E lv n w s f W v)(k:fc Y W jX)(m:∀i,Y i->w.heap.size<=i)(o:∀i d,Y i->W.heap[i]?≠Ã (Ð d 257 (0,0)))(p:¬Y E.r):ik E lv n w s f jX v:=by
 have e:∀{a b c},W.ownsRow 0 257 2 a b c->jX.ownsRow 0 257 2 a b c:=λ{a b c} q=>ia q k λj t y=>by let⟨d,u⟩:=lG q t;exact o j d y u
 exact⟨r.r.I k p,e r.I,r.C.C k λi x y=>absurd (m i y) Z,r.l,λa b c g h=>⟨e (r.M a b c g h).1,(r.M a b c g h).2⟩⟩
def ik.qi{a:St}{c:List (Nat×Int)}(ok:E.Ok)(m:w.ownsRow 0 257 2 lv c.length (j5 c))(r:ik E lv c.length w s f W v):ik E lv c.length w a c (W.setCells E.r 0<|jg a lv) lv:=by have k:=Hf (b:=E.r) (jg a lv) 0 W<|fi.G r.r ok.C;have l:∀{d e g},W.ownsRow 0 257 2 d e g->(W.setCells E.r 0<|jg a lv).ownsRow 0 257 2 d e g:=λ{d e g} q=>ia q k λj n y=>jw q r.r ok.r.symm (by rw[n,y]);have o:=K7 (T:=E.T) (b:=E.r) (jg a lv) [] E.C W (jg s v) (by rw[mA,mA]) (by have h:=r.r;unfold iA at h;simpa using h);refine⟨by unfold iA;simpa using o,l (r.M _ _ _ m λ_=>Þ _).1,r.C.C k λi _ q=>Ø q,λj q=>Ø q,λd e g p h=>⟨l (r.M d e g p h).1,h⟩⟩
def ZK(ok:E.Ok)(oQ:0<=c.d)(hd:c.d<=4)(hF:c.d<4->sw F (c.d+1))(hI:pO F)(B:iA E.r E.T E.C s lv w)(G:w.ownsRow 0 257 2 lv f.length (j5 f))(hr:iK w)(hs:gJ s)(hx:c.x<8)(hy:c.y<8)(K5:gd c.k)(wv:0<=c.g)(vm:c.g<=100000)(hlen:(f.length:Int)+c.g<=1000000): Ò À 173 #[Å<|Ã ⟨E.r,0,Ä⟩,Â Ë c.x,Â Ë c.y,Â Æ c.g,Â Æ c.k,Â Ë c.d] w λe a=>
  e=Ç (Ē #[Â Æ (rp F c s f).r,Ñ (rp F c s f).C,Â Æ (rp F c s f).M])/\∃v,ik E lv f.length w (rp F c s f).s (rp F c s f).I a v:=by
 let⟨dd,ZL,ZM⟩:=Ì.1 ale;let⟨i0,z0,I,J,Hg,rf⟩:=ZJ ZI;have K8:=R9 s (lv:=lv) (by obtain⟨a,o,rfl⟩:=jo G;rfl);have gN:=fi.M B;have ZN:(À.info? 144).map (·.size)=Ã (jg s lv).length:=by rw[I,mA];simp[J]
 have k0:=fc.gI fg w #[Â Æ 0,Ñ Ï,Â Æ 0] 252;have OM:(w.alloc<|Ð #[Â Æ 0,Ñ Ï,Â Æ 0] 252).rangeAt E.r 0 (jg s lv):=fi.Y<|B.I k0 id;have h:=ff<|Á ZL<|Á ZM<|Á ZN<|Á OM<|Á I<|Á Hg<|Á (J.trans (mA s lv).symm)<|Á (rf.trans (mA s lv).symm) K8;have H:=ff<|Á B<|Á G<|Á hr<|Á hF<|Á hI hs;clear ZL ZM I J Hg rf K8 ZN OM B G hr hF hI hs k0;obtain⟨a,b,t,K⟩:∃a b t,nY F c s f=(a,b,t):=⟨_,_,_,U⟩;have iI:rp F c s f=⟨c.g-t.g,b,a,if b then t.s else s,if b then t.C else f⟩:=by unfold rp;rw[K]
 rw[iI];have C:=ZH H.out.2.2.2.2.1 H.out.2.2.2.2.2 hx hy K5 wv vm hlen;rw[K]at C;have tg0:0<=t.g:=C.g0;have tg1:t.g<=c.g:=C.C;clear C;go_enter Tryz.func173,Tryz.ntmps173;go_wp2_with (first
  |(with_reducible refine ĥ U 144 _ U E.r 0 U (jg s lv) dd h.out.2.2.2.1 h.out.1 h.out.2.1 h.out.2.2.1 ?_)
  |(with_reducible refine ZG U U 144 U 13 U _ _ U U h.out.2.2.2.2.1 h.out.2.2.2.2.2.1 (jg s lv) h.out.2.2.2.2.2.2.1 h.out.2.2.2.2.2.2.2.1 U U h.out.2.2.2.2.2.2.2.2 ?_;intro m K9 L Dv))
 have vg:m.heap.size=w.heap.size+1+1:=by simpa using Dv
 have nh:fi (w.heap.size+1) (jg s lv) 144 m:=by simpa using K9
 have r:fc fg w (m.alloc<|Ð #[Å<|Ã ⟨E.r,0,Ä⟩,Â Ë c.x,Â Ë c.y,Â Æ c.k,Â Ë c.d,Â Æ c.g,Ê Ä 0 0] 282):=((fc.gI _ _ _ _).fh L).fh<|fc.gI _ _ _ _;have k1:=fc.gI fg m #[Å<|Ã ⟨E.r,0,Ä⟩,Â Ë c.x,Â Ë c.y,Â Æ c.k,Â Ë c.d,Â Æ c.g,Ê Ä 0 0] 282;have hR:R E (w.heap.size+1+1) c (Ê Ä 0 0) lv [] s f (m.alloc<|Ð #[Å<|Ã ⟨E.r,0,Ä⟩,Â Ë c.x,Â Ë c.y,Â Æ c.k,Â Ë c.d,Â Æ c.g,Ê Ä 0 0] 282):= ⟨by rw[<-vg];exact fi.N m (DN E.r c<|Ê Ä 0 0) 282,ĉ _ _ _ _,H.out.1.I r id,ia H.out.2.1 r λ_ _=>id⟩;have Am:fi w.heap.size [Â Æ 0,Ñ Ï,Â Æ 0] 252 m:=(fi.N w [Â Æ 0,Ñ Ï,Â Æ 0] 252).I L id;have S:=alc (F:=F) ok hR oQ hd H.out.2.2.2.1 H.out.2.2.2.2.1 (H.out.2.2.1.r r id) H.out.2.2.2.2.2 hx hy K5 wv vm hlen;rw[K]at S;go_at_call 191;apply S.mono;clear S;rintro e W ⟨rfl,R0,Se,u,M⟩;have ZO:=alg r M Z u;have N:∀{j:Nat} {O:List È} {T:õ},fi j O T m->w.heap.size<=j->fi j O T W:=λ{j O T} hB hj=>by
  refine(hB.I k1 id).I M.r ?_;have:=hB.M;rintro(q|q|q|q)
  .omega
  .omega
  .cases q
  .have:=(H.out.2.1.lt j q).2;omega
 have n:=N Am<|Þ _;have ZQ:=N nh Z;have e0:=n.r 0 _ U;have e1:=n.r 1 _ U;have e2:=n.r 2 _ U;have f0:=n.C 0;have f1:=n.C 1;have f2:=n.C 2;have g5:W.cell? ⟨w.heap.size+1+1,5,Ä⟩=Ã (Â Æ t.g):=u.r.r 5 _ U;have ah4:=u.r.M;have l:=ff<|Á ZO<|Á u<|Á n ZQ;clear ZO u M n ZQ N hR Am nh r k1 K9 L Dv vg;cases b with
 |true=>
  go_wp2_with fail
  let⟨d2,P,Q⟩:=Ì.1 Sc;have o:=((l.out.2.2.1.gf 0<|Â Æ<|c.g-t.g).gf 1<|Ñ Ú).gf 2<|Â Æ a;apply ð (Sb U U (fi.Y (tl:=[]) (vs:=[Â Æ<|c.g-t.g,Ñ Ú,Â Æ a]) o) P Q Sd) U;refine⟨U,Se,l.out.1.N (Y:=λk=>k=w.heap.size) (((fc.I (X:=λk=>k=w.heap.size) (p:=⟨w.heap.size,0,Ä⟩) U _).fh<|fc.I (X:=λk=>k=w.heap.size) (p:=⟨w.heap.size,1,Ä⟩) U _).fh<|fc.I (X:=λk=>k=w.heap.size) (p:=⟨w.heap.size,2,Ä⟩) U _) (λi q=>by omega) (λi cur q z=> ?_) Z⟩;have D:W.heap[w.heap.size]?=_:=l.out.2.2.1;rw[q,D]at z;cases z
 |false=>
  have rg:W.rangeAt (w.heap.size+1) 0 (jg s lv):=fi.Y (tl:=[]) (by simpa using l.out.2.2.2);have th:W.there E.r 0 (jg s lv).toArray.size:=by have:=l.out.1.r;unfold iA at this;exact this.R8<|by simp only[ć,Ó,mA];omega
  have ZR:(À.info? 144).map (·.size)=Ã (jg s lv).toArray.size:=by rw[h.out.2.2.1];simp
  have pI:=Ī h.out.2.2.2.2.2.2.2.2;have HNF:=ff<|fi.G l.out.2.1.C ok.C;have D:=ff<|Á rg<|Á th<|Á ZR pI;clear rg th ZR pI;go_wp2_with (first
   |(with_reducible refine ĥ U 144 _ U (w.heap.size+1) 0 U (jg s lv) dd D.out.1 h.out.1 h.out.2.1 h.out.2.2.1 ?_)
   |(with_reducible refine alf U 144 _ _ U E.r (jg s lv) U U D.out.2.1 D.out.2.2.1 D.out.2.2.2 ?_;intro jX V;have kb:fc (λk=>k=E.r) W jX:=(by rw[V];exact Hf _ _ _ HNF.out);have o:=l.out.2.2.1.I kb Z;have p0:=o.r 0 _ U;have p1:=o.r 1 _ U;have p2:=o.r 2 _ U;have y0:=o.C 0;have y1:=o.C 1;have y2:=o.C 2;have Sf:=l.out.2.1.r.I kb Z;have p5:jX.cell? ⟨w.heap.size+1+1,5,Ä⟩=Ã (Â Æ t.g):=Sf.r 5 _ U;have hl4:=Sf.M;have ZS:=ff o;clear kb o Sf;have HW:=ff V;clear V))
  let⟨d2,P,Q⟩:=Ì.1 Sc;apply ð (Sb U U (fi.Y (tl:=[]) (vs:=[Â Æ<|c.g-t.g,Ñ Ï,Â Æ a])<|((ZS.out.gf 0<|Â Æ<|c.g-t.g).gf 1<|Ñ Ï).gf 2<|Â Æ a) P Q Sd) U;have o:ik E lv f.length w s f jX lv:=by rw[HW.out];exact l.out.1.qi ok H.out.2.1
  refine⟨U,lv,o.N (Y:=λk=>k=w.heap.size) (((fc.I (X:=λk=>k=w.heap.size) (p:=⟨w.heap.size,0,Ä⟩) U _).fh<|fc.I (X:=λk=>k=w.heap.size) (p:=⟨w.heap.size,1,Ä⟩) U _).fh<|fc.I (X:=λk=>k=w.heap.size) (p:=⟨w.heap.size,2,Ä⟩) U _) (λi q=>by omega) (λi cur q z=> ?_) Z⟩;rw[q,ZS.out]at z;cases z
end
def yU:Nat->lY
 |0=>λs a _ _ _ _=>⟨0,Ï,0,s,a⟩
 |n+1=>λs a x y g k=>rp (yU n) ⟨x,y,k,4-(n:Int),g⟩ s a
theorem alh{F:lY}(d:pO F){c:RC}{s:St}{a:List (Nat×Int)}(b:gJ s)(e:c.x<8)(f:c.y<8)(i:gd c.k)(j:0<=c.g)(l:c.g<=100000)(m:(a.length:Int)+c.g<=1000000):Zt a c.g (rp F c s a):=by
 have h:=ZH d b e f i j l m;have p:=h.g0;have n:=h.C;have o:=h.I;simp only at n o;unfold rp;refine⟨by simp only;omega,by simp only;omega,?_,h.M,?_⟩
 .simp only;split
  .exact h.s
  .exact b
 .grind
def Hh:∀n,pO<|yU n
 |0=>λs a x y g k b _ _ _ d _ _=>⟨Ö _,d,b,tY,by show(a.length:Int)<=a.length+0;omega⟩
 |n+1=>λs a x y g k b d e f h i j=>alh (c:=⟨x,y,k,4-(n:Int),g⟩) (Hh n) b d e f h i j
def ZT:∀n,n<=3->sw (yU<|n+1) (4-(n:Int))
 |0,_=>λE a s t u x y g k w b d f i j l m o p r=>ZK (c:=⟨x,y,k,4-((0:Nat):Int),g⟩) (F:=yU 0) a (show(0:Int)<=4-((0:Nat):Int) by decide) (show(4:Int)-((0:Nat):Int)<=4 by decide) (λq=>absurd q<|show¬(4:Int)-((0:Nat):Int)<4 by decide) (Hh 0) b d f i j l p m o r
 |n+1,h=>λE a s t u x y g k w b d f i j l m o p r=>by
  have e:(4:Int)-((n+1:Nat):Int)+1=4-(n:Int):=Z
  exact ZK a (by show 0<=4-((n+1:Nat):Int);omega) (by show 4-((n+1:Nat):Int)<=4;omega) (λ_=>by show sw _ (4-((n+1:Nat):Int)+1);rw[e];exact(ZT n Z)) (Hh<|n+1) b d f i j l p m o r
def gi:lY:=yU 4
def La:pO gi:=Hh 4
def ZU:sw gi 1:=ZT 3 A
def iA.nG{tl:List È}{s:St}(h:iA b T tl s v w)(k:fc X w u)(a:¬X b):iA b T tl s v u:=fi.I h k a
section
variable{E:iT}{lv:È}{w1:É}{s B d:St}{ls f r:List (Nat×Int)}
theorem ik.fT(a:iA E.r E.T E.C s lv w)(b:w.ownsRow 0 257 2 lv ls.length (j5 ls)):ik E lv ls.length w s ls w lv:= ⟨a,b,fc.fT _ _,λ_ q=>Ø q,λ_ _ _ c d=>⟨c,d⟩⟩
def ik.fh(h:ik E lv n w B f w1 v)(k:ik E v f.length w1 d r u jQ):ik E lv n w d r u jQ:=by
 refine⟨k.r,k.I,h.C.C k.C ?_,λj q=> ?_,λa b c g m=> ?_⟩
 .rintro i o (e|e)
  .exact Ø e
  .exact Ù<|(h.l i e).resolve_right Z
 .rcases k.l j q with e|e
  .exact h.l j e
  .exact Ù<|ë h.C.M e
 .let⟨e,i⟩:=h.M a b c g m;exact k.M a b c e i
def ik.fL(h:ik E lv n w s ls w1 v)(k:fc fg w1 u):ik E lv n w s ls u v:= h.N k (λ_=>ę) (λ_ _=>ę) id
def ik.Y(ok:E.Ok)(h:ik E lv n w s ls w1 v)(i:Nat)(k:iA E.r E.T E.C d v (w1.setCell ⟨E.r,i,Ä⟩ x)):ik E lv n w d ls (w1.setCell ⟨E.r,i,Ä⟩ x) v:=by have e:=fc.I (X:=λk=>k=E.r) (p:=⟨E.r,i,Ä⟩) U x<|Ù<|fi.G h.r ok.C;have f:∀{a b c},w1.ownsRow 0 257 2 a b c->(w1.setCell ⟨E.r,i,Ä⟩ x).ownsRow 0 257 2 a b c:=λ{a b c} q=>ia q e λj o y=>jw q h.r ok.r.symm (by rw[o,y]);exact⟨k,f h.I,h.C.C e λi _ q=>Ø q,h.l,λa b c g m=>⟨f (h.M a b c g m).1,(h.M a b c g m).2⟩⟩
def ik.fw(ok:E.Ok)(h:ik E lv n w s ls w1 v)(a:i<8)(x:Int):ik E lv n w (s.fw i x) ls (w1.setCell ⟨E.r,i*18,Ä⟩<|Â Æ x) v:=h.Y ok _<|h.r.yO a x
def ik.K0(ok:E.Ok)(h:ik E lv n w s ls w1 v)(a:i<8)(x:ByteArray):ik E lv n w (s.C i x) ls (w1.setCell ⟨E.r,i*18+1,Ä⟩<|Í x) v:=h.Y ok _<|h.r.aj8 a x
end
def xh(s:St)(x y:Nat)(n:Int):Bool×St:=
 if(s x).fw<n+10 then(Ï,s)else(Ú,(s.fw x<|(s x).fw-(n+10)).fw y<|wu<|(s.fw x ((s x).fw-(n+10)) y).fw+n)
section
variable{E:iT}{lv:È}{s:St}{ls:List (Nat×Int)}
def ali(ok:E.Ok)(c:iA E.r E.T E.C s lv w)(g:w.ownsRow 0 257 2 lv ls.length (j5 ls))(f:gJ s)(x y:Nat)(n:Int)(a:x<8)(d:y<8)(h:0<=n)(i:n<=1000000): Ò À 168 #[Å<|Ã ⟨E.r,0,Ä⟩,Â Ë x,Â Ë y,Â Æ n] w λe m=>e=Ç (Ñ (xh s x y n).1)/\ik E lv ls.length w (xh s x y n).2 ls m lv:=by
 have j:=c.fw a;have k:=fi.C c<|x*18;have l:=(f.fw x).1;have o:=(f.fw x).2;have p:∀m,((w.drewN m).setCell ⟨E.r,x*18,Ä⟩<|Â Æ<|(s x).fw-(n+10)).cell? ⟨E.r,y*18,Ä⟩=Ã (Â Æ (s.fw x ((s x).fw-(n+10)) y).fw):=λm=>((c.nG (fc.iO fg w m) id).yO a _).fw d;have q:∀m,((w.drewN m).setCell ⟨E.r,x*18,Ä⟩<|Â Æ<|(s x).fw-(n+10)).frozen? ⟨E.r,y*18,Ä⟩=Ï:=λm=>fi.C ((c.nG (fc.iO fg w m) id).yO a _) _;have r:=(c.yO a<|(s x).fw-(n+10)).fw d;have t:=fi.C (c.yO a<|(s x).fw-(n+10))<|y*18;have H:=ff<|ik.fT c g;unfold xh;by_cases e:(s x).fw<n+10
 .rw[if_pos e];generalize(s x).fw=b at*;go_enter ak,κ;go_wp2_with fail;go_ret;exact⟨U,H.out⟩
 .rw[if_neg e];generalize(s.fw x ((s x).fw-(n+10)) y).fw=b2 at*;generalize(s x).fw=b at*;go_enter ak,κ;go_wp2_with fail;go_region;go_wp2_with fail;go_region;go_wp2_with fail;go_ret;refine⟨U,?_⟩;first
   |exact((H.out.fw ok a _).fw ok d _).fL<|fc.iO _ _ _
   |exact(((H.out.fL<|fc.iO _ _ _).fw ok a _).fw ok d _)
   |exact(((H.out.fL<|fc.fR _ _).fw ok a _).fL<|fc.fR _ _).fw ok d _
   |exact((H.out.fw ok a _).fw ok d _).still<|(Keep.drew _ _).trans<|Keep.drew _ _
end
def alj(a:j0 w)(p:ă)(n:Nat):j0 (w.freeze p n):=by
 unfold Đ;split
 .exact a
 .intro i o h;simp only[Û]at h;split at h
  .cases b:w.heap[i]? with
   |none=>rw[b]at h;cases h
   |some d=>
    have:=a _ _ b;rw[b]at h;cases d with
    |cells c t z=>simp only[ñ,è]at h;subst h;exact λx=>x
    |_=>exact absurd trivial this
  .exact a i o h
def ZV(a:rm m w)(p:ă)(n:Nat):rm m (w.freeze p n):=by
 unfold Đ;split
 .exact a
 .intro i c T f e h b;simp only[Û]at h;split at h
  .cases d:w.heap[i]? with
   |none=>rw[d]at h;cases h
   |some g=>
    rw[d]at h;cases g with
    |cells j t z=>
     simp only[ñ,è,ģ]at h;rw[<-h.1];rw[<-h.2.1]at b;exact a _ _ _ _ e d b
    |_=>cases h
  .exact a i c T f e h b
theorem alk{w w1:World}{g:Nat}{cur Y:Array Value}{e:TypeId}{z:Nat×Nat}(hw:fc fg w w1)(hg:w1.heap[g]?=some (.cells cur e z))(as3:w.heap.size<=g)(he:lW e=false:=by decide):fc fg w (w1.setRow g Y):=by
 refine⟨by simpa using hw.M,λk hk _=>(ė w1 g k Y Z).trans<|hw.N k hk id,λal i o ho=> ?_,λm a i c T fr hm h hT=> ?_⟩;rotate_left
 .by_cases hi:i=g
  .subst hi;rw[ĝ w1 i cur Y e z hg]at h;grind
  .rw[ė w1 g i Y hi]at h;exact hw.Y m a i c T fr hm h hT
 by_cases hi:i=g
 .subst hi;rw[ĝ w1 i cur Y e z hg]at ho;cases ho;exact λx=>x
 .rw[ė w1 g i Y hi]at ho;exact hw.gR al i o ho
def alm(b:fc fg w u)(e:w.heap.size<=p.block):fc fg w (u.freeze p n):=by
 refine⟨?_,λk c _=> ?_,λd=>alj (b.gR d) p n,λm a=>ZV (b.Y m a) p n⟩
 .unfold Đ;split
  .exact b.M
  .simpa using b.M
 .unfold Đ;split
  .exact b.N k c id
  .simp only[Û];rw[if_neg Z];exact b.N k c id
def Sg:(À.info? 5).map (λi=>(i.zero,i.size,i.bytes))=Ã (Ã<|Â aT 0,1,1):=fu
def aln(n:Nat)(e:n<=1000000):∃M:Array È,M.size=n/\∀W:É,(Instr.makeSlice 107 (Â Ë (n:Int))<|Â Ë (n:Int)).run À W=φ (Ê (Ã ⟨W.heap.size,0,Ä⟩) n n) (W.alloc<|Ð M 5):=by let⟨i,a,b,c,d⟩:=í Sg;refine⟨madeCells (Â aT 0).cells<|(n:Int).toNat*i.size,by rw[size_madeCells,c];simp,λW=> ?_⟩;simpa using run_make W 107 5 i (Â aT 0) ý a b Ë Ë n n Z Z (by rw[d];omega) Z
theorem alo{M:Array È}(e:M.size=B.size)(b:W.heap[i]?=Ã (Ð M 5 (0,0))): (ν #[107,9] 3 #[Ê (Ã ⟨i,0,Ä⟩) B.size B.size,Í B]).run À W=φ (goInt B.size) (W.setRow i (ô B.data.toList).toArray):=by let⟨a,c,_,d,_⟩:=í Sg;have h:=Lib.run_copy_row_string W 107 9 3 5 i 0 B.size B.size B M 5 ý (by rw[c];simp[d]) b (Þ _) Z;grind [List.drop_of_length_le]
def alp(d:B.size≠0)(m:B.size<=1000000)(c:W.heap[i]?=Ã (Ð (ô B.data.toList).toArray 5 (0,0))): (Ő #[177,3] 9 #[Å<|Ã ⟨i,0,Ä⟩,Â Ë (B.size:Int)]).run À W=φ (Í B) (W.freeze ⟨i,0,Ä⟩ B.size):=by
 let⟨a,f,_,k,_⟩:=í Sg;have b:=Lib.size_eq B;have l:(ô B.data.toList).toArray.size=B.size:=by rw[ć,Ř,<-b]
 have h:=Ĺ W 177 3 9 5 Ū (by simp[Program.cellsOf,f,k]) i B.size (by unfold Ÿ;rw[c];simp only[l]) B.data.toList (by intro e;rw[e]at b;exact d b) Z Z (λj x e=>Lib.cells_of_row c _ j _<|by rw[List.take_of_length_le<|Þ _];simp[ô,e]);rwa[<-b]at h
def alq(s:ByteArray)(a:s.size<=1000000)(w:É):Ò À 196 #[Í s] w λe c=>e=Ç (Í s)/\fc fg w c:=by
 by_cases b:s.size=0
 .have d:=bn<|Array.eq_empty_of_size_eq_zero b;subst d;go_enter ar,ξ;go_wp2;go_ret;exact⟨U,fc.fT _ _⟩
 .let⟨M,d,mk⟩:=aln s.size a;have g:=alo d<|ì w<|Ð M 5;have h:=alp b a<|ĝ (w.alloc<|Ð M 5) w.heap.size M (ô s.data.toList).toArray 5 (0,0)<|ì w _;have f:=ff<|alm (p:=⟨w.heap.size,0,Ä⟩) (n:=s.size) (alk (Y:=(ô s.data.toList).toArray) (fc.gI fg w M 5) (ì w _)<|Þ _)<|Þ _;generalize(ô s.data.toList).toArray=Y at*;go_enter ar,ξ;go_wp2;go_ret;exact⟨U,f.out⟩
def alr(s:ByteArray)(a:s.size<=1000000)(w:É):Ò À 186 #[Í s] w λe b=>e=Ç (Í s)/\fc fg w b:=by go_enter Tryz.func186,Tryz.ntmps186;go_wp2_with (go_at_call 196;refine(alq s a _).mono ?_;rintro e d ⟨rfl,c⟩);go_ret;exact⟨U,c⟩
def xi(s:St)(x:Nat)(p:ByteArray):Bool×St:=
 if(s x).fw<20 then(Ï,s)else(Ú,(s.fw x<|(s x).fw-20).C x p)
def yV{t u:Tmp}{cs:List È}{d:TypeDesc}(h:s.results=#[.cell t T,.tmp u])(a:q.getD t ā=Å (Ã ⟨b,0,Ä⟩))(c:w.rangeAt b 0 cs)(e:P.underlying T=Ã d)(f:d.isRow=Ú)(g:(P.info? T).map (·.size)=Ã cs.length): (aj s q).run P w=φ (æ #[Ē cs.toArray,q.getD u ā]) w:=by have i:=Ν w b 0 T cs d c e f g;rw[ī]at a;simp only[aj,h];simp[a,asAddr,i]
def Hi:(À.underlying 246).map İ=Ã Ú:=fu
def BF:(À.info? 246).map (·.size)=Ã 2:=fu
section
variable{E:iT}{lv:È}{s:St}{ls:List (Nat×Int)}
def als(ok:E.Ok)(a:iA E.r E.T E.C s lv w)(h:w.ownsRow 0 257 2 lv ls.length (j5 ls))(f:gJ s)(x:Nat)(p:ByteArray)(c:x<8)(i:p.size<=1000000): Ò À 169 #[Å<|Ã ⟨E.r,0,Ä⟩,Â Ë x,Í p] w λe d=>e=Ç (Ñ (xi s x p).1)/\ik E lv ls.length w (xi s x p).2 ls d lv:=by
 have k:=fi.M a;have l:=a.fw c;have m:=fi.C a<|x*18;have n:=(f.fw x).1;have o:=(f.fw x).2;have q:(0:Int)<=(x:Int):=Z
 have r:(x:Int)<8:=Z
 have H:=ff<|ik.fT a h;unfold xi;by_cases g:(s x).fw<20
 .rw[if_pos g];generalize(s x).fw=b at*;go_enter au,ο;go_wp2_with fail;go_ret;exact⟨U,H.out⟩
 .rw[if_neg g];generalize(s x).fw=b at*;go_enter au,ο;go_wp2_with fail;go_region;go_wp2_with fail;go_region_held3 (λ_=>True) (trivial) (first
    |(go_at_call 186;refine(alr p i _).mono ?_;rintro e t ⟨rfl,j⟩;dsimp only;have d:=((H.out.fw ok c (b-20)).fL (fc.iO fg _ 2)).fL j;have u:=d.r.K0 c;have v:=fi.C d.r (x*18+1)))
  go_wp2_with fail
  go_ret;exact⟨U,d.K0 ok c p⟩
def yW(s:St)(ls:List (Nat×Int))(x y:Nat)(n k:Int):(Int×Bool)×Bool×St×List (Nat×Int):=
 if n<10\/400<n\/(s x).fw<n then((0,Ï),Ï,s,ls)
 else(((gi (s.fw x<|(s x).fw-n) ls x y (n-10) k).r+10,(gi (s.fw x<|(s x).fw-n) ls x y (n-10) k).C),Ú,
  (gi (s.fw x ((s x).fw-n)) ls x y (n-10) k).s.fw x (wu (((gi (s.fw x ((s x).fw-n)) ls x y (n-10) k).s x).fw+(n-((gi (s.fw x ((s x).fw-n)) ls x y (n-10) k).r+10)))),(gi (s.fw x ((s x).fw-n)) ls x y (n-10) k).I)
def alu(a:iA E.r E.T E.C s lv w)(c:w.ownsRow 0 257 2 lv ls.length (j5 ls))(x y:Nat)(n k:Int)(d:x<8)(j:0<=n)(l:n<10\/400<n\/(s x).fw<n): Ò À 170 #[Å<|Ã ⟨E.r,0,Ä⟩,Â Ë x,Â Ë y,Â Æ n,Â Æ k] w λe H=>e=Ç (æ #[Ē #[Â Æ 0,Ñ Ï],Ñ Ï])/\ik E lv ls.length w s ls H lv:=by
 have m:=fi.M a;have o:=a.fw d;have p:(0:Int)<=(x:Int):=Z
 have q:(x:Int)<8:=Z
 let⟨r,f,g⟩:=Ì.1 Hi;have H:=ff<|Á (ik.fT a c)<|Á f g;generalize(s x).fw=b at*;by_cases h:n<10
 .go_enter Ņ,ĺ;go_wp2_with fail;have e:=fc.gI fg w #[Â Æ 0,Ñ Ï] 246;apply ð (yV U U (fi.Y (vs:=[Â Æ 0,Ñ Ï])<|fi.N w [Â Æ 0,Ñ Ï] 246) H.out.2.1 H.out.2.2 BF) U;exact⟨U,H.out.1.fL e⟩
 .have t:=decide_eq_false h;by_cases i:400<n
  .go_enter Ņ,ĺ;go_wp2_with fail;have e:=fc.gI fg w #[Â Æ 0,Ñ Ï] 246;apply ð (yV U U (fi.Y (vs:=[Â Æ 0,Ñ Ï])<|fi.N w [Â Æ 0,Ñ Ï] 246) H.out.2.1 H.out.2.2 BF) U;exact⟨U,H.out.1.fL e⟩
  .have u:=decide_eq_false i;have v:b<n:=Z
   go_enter Ņ,ĺ;go_wp2_with fail;have e:=fc.gI fg w #[Â Æ 0,Ñ Ï] 246;apply ð (yV U U (fi.Y (vs:=[Â Æ 0,Ñ Ï])<|fi.N w [Â Æ 0,Ñ Ï] 246) H.out.2.1 H.out.2.2 BF) U;exact⟨U,H.out.1.fL e⟩
def alv(ok:E.Ok)(a:iA E.r E.T E.C s lv w)(l:w.ownsRow 0 257 2 lv ls.length (j5 ls))(m:iK w)(g:gJ s)(x y:Nat)(n k:Int)(c:x<8)(B:y<8)(D:gd k)(GO:10<=n)(vh:n<=400)(as4:n<=(s x).fw)(hlen:(ls.length:Int)+n<=1000000)(r:Bz)(o:r=gi (s.fw x<|(s x).fw-n) ls x y (n-10) k): Ò À 170 #[Å<|Ã ⟨E.r,0,Ä⟩,Â Ë x,Â Ë y,Â Æ n,Â Æ k] w λe t=>e=Ç (æ #[Ē #[Â Æ<|r.r+10,Ñ r.C],Ñ Ú])/\∃u,ik E lv ls.length w (r.s.fw x<|wu<|(r.s x).fw+(n-(r.r+10))) r.I t u:=by
 have gN:=fi.M a;have d1:=a.fw c;have f1:=fi.C a<|x*18;have WV:(0:Int)<=(x:Int):=Z
 have Ai:(x:Int)<8:=Z
 have b0:=(g.fw x).1;have b1:=(g.fw x).2;have v:gJ (s.fw x<|(s x).fw-n):=g.r x ⟨Z,Z⟩;have h:=La _ ls x y (n-10) k v c B D Z Z Z;have F:=ik.fT a l;have C:∀W j,ik E lv ls.length w (s.fw x<|(s x).fw-n) ls W j->iK W->Ò À 173 #[Å<|Ã ⟨E.r,0,Ä⟩,Â Ë x,Â Ë y,Â Æ<|n-10,Â Æ k,Â Ë 1] W λe t=>e=Ç (Ē #[Â Æ r.r,Ñ r.C,Â Æ r.M])/\∃u,ik E j ls.length W r.s r.I t u:=λW j G P=>by rw[o];exact ZU E ok _ j ls x y (n-10) k W G.r G.I P v c B Z Z D Z
 rw[<-o]at h;have u0:=h.C;have u1:=h.r;let⟨d2,I,J⟩:=Ì.1 Hi;have K:∀i,iK (w.setCell ⟨E.r,i,Ä⟩<|Â Æ<|(s x).fw-n):=λi=>m.r (fc.I (X:=λk=>k=E.r) U _) λq=>m.C a ok.N q.symm;have H:=ff<|Á F<|Á C<|Á K<|Á I<|Á J l;clear a l m g v h F C K I J o;generalize(s x).fw=b at*;have e1:decide (n<10)=Ï:=decide_eq_false Z;have e2:decide (400<n)=Ï:=decide_eq_false Z;have e3:decide (b<n)=Ï:=decide_eq_false Z;generalize Q:(r.s x).fw=b2;go_enter Ņ,ĺ;go_wp2_with fail;have L:=(H.out.1.fw ok c<|b-n).fL<|fc.gI fg _ #[Â Æ 0,Ñ Ï] 246;go_at_call 173;refine(H.out.2.1 _ _ L<|(H.out.2.2.1 _).r (fc.gI fg _ _ _) id).mono ?_;rintro e S ⟨rfl,V,f⟩;have d:fi w.heap.size [Â Æ 0,Ñ Ï] 246 S:=by
  have z:fi w.heap.size [Â Æ 0,Ñ Ï] 246 ((w.setCell ⟨E.r,x*18,Ä⟩<|Â Æ<|b-n).alloc<|Ð #[Â Æ 0,Ñ Ï] 246):=by have:=fi.N (w.setCell ⟨E.r,x*18,Ä⟩<|Â Æ<|b-n) [Â Æ 0,Ñ Ï] 246;simpa using this
  refine z.I f.C ?_;rintro(q|q)
  .omega
  .have:=(H.out.2.2.2.2.2.lt _ q).2;omega
 have Y:=f.r.fw c;have z1:=fi.C f.r<|x*18;have Lb:=fi.M f.r;have hl2:=d.M;have c0:=d.r 0 _ U;have c1:=d.r 1 _ U;have y0:=d.C 0;have y1:=d.C 1;have M:=ff<|Á (L.fh f) d;rw[Q]at Y;go_wp2_with fail;go_region;go_wp2_with fail;have q1:=M.out.1.fw ok c<|wu<|b2+(n-(r.r+10));have N:=M.out.2.I (fc.I (X:=λk=>k=E.r) (p:=⟨E.r,x*18,Ä⟩) U<|Â Æ<|wu<|b2+(n-(r.r+10))) Z;have q2:=q1.N ((fc.I (X:=λk=>k=w.heap.size) (p:=⟨w.heap.size,0,Ä⟩) U<|Â Æ<|r.r+10).fh<|fc.I (X:=λk=>k=w.heap.size) (p:=⟨w.heap.size,1,Ä⟩) U<|Ñ r.C) (λi q=>by omega) (λi cur q O=>by have z:=N;rw[q,z]at O;cases O) Z;have z:∀W:É,∀O,fc fg W ((W.alloc<|Ð O 252).drew):=λW O=>(fc.gI _ _ _ _).fh<|fc.fR _ _;have hb:=(((N.gf 0<|Â Æ<|r.r+10).gf 1<|Ñ r.C)).I (z _ #[Â Æ<|r.r+10,Ñ r.C,Â Æ r.M]) id;apply ð (yV U U (fi.Y (vs:=[Â Æ<|r.r+10,Ñ r.C]) hb) H.out.2.2.2.1 H.out.2.2.2.2.1 BF) U;exact⟨U,V,q2.fL<|z _ _⟩
end
structure Tx where
 x:Nat
 y:Nat
 n:Int
 k:Int
 r:Int
 C:ByteArray
structure lJ(a:Nat)(t:Tx)(w:É):Prop where
 b:∃cs fz,w.heap[a]?=Ã (Ð cs 200 fz)
 r:w.cell? ⟨a,0,Ä⟩=Ã (Â Ë t.x)
 C:w.cell? ⟨a,1,Ä⟩=Ã (Â Ë t.y)
 I:w.cell? ⟨a,2,Ä⟩=Ã (Â Ë t.n)
 M:w.cell? ⟨a,3,Ä⟩=Ã (Â Ë t.k)
 Y:w.cell? ⟨a,4,Ä⟩=Ã (Â Ë t.r)
 N:w.cell? ⟨a,5,Ä⟩=Ã (Í t.C)
structure Tx.Ok(t:Tx):Prop where
 x:t.x<8
 y:t.y<8
 I:0<=t.n
 M:t.n<1000000
 r:0<=t.k
 C:t.k<1000000
 N:t.C.size<=40/\∀c∈t.C.data.toList,xd c=Ú
def lJ.G{t:Tx}(h:lJ i t w):i<w.heap.size:=á w _ h.r
def lJ.S{t:Tx}(h:lJ i t w)(k:fc X w u)(b:¬X i):lJ i t u:=by let⟨c,d,e⟩:=h.b;exact⟨⟨c,d,by rwa[k.N i h.G b]⟩,k.r h.r b,k.r h.C b,k.r h.I b,k.r h.M b,k.r h.Y b,k.r h.N b⟩
def lJ.iQ{t:Tx}(h:lJ i t w)(c:w.heap[j]?=Ã (Ð d T xJ))(e:T≠200):i≠j:=by rintro rfl;let⟨f,g,b⟩:=h.b;rw[c]at b;cases b;exact e U
def lJ.xe{E:iT}{t:Tx}{s c:St}{ls b:List (Nat×Int)}(d:E.T≠200)(h:lJ i t w)(e:iA E.r E.T E.C c v w)(f:w.ownsRow 0 257 2 v b.length (j5 b))(r:ik E v n w s ls u x):lJ i t u:=by
 refine h.S r.C ?_;rintro(q|q)
 .exact h.iQ e d q
 .let⟨j,g⟩:=lG f q;exact h.iQ g A U
def ma(s:St)(ls:List (Nat×Int))(t:Tx):(Int×Bool)×Bool×St×List (Nat×Int):=
 if t.r=1 then((10,Ú),(xh s t.x t.y t.n).1,(xh s t.x t.y t.n).2,ls)
 else if t.r=2 then((20,Ú),(xi s t.x t.C).1,(xi s t.x t.C).2,ls)
 else yW s ls t.x t.y t.n t.k
def DW(a:0<=h)(b:h<1000000):Æ.wrap h=h:=by show wu h=h;exact akb a Z
def Hj(E:iT)(a:È)(n:Nat)(w:É)(o:(Int×Bool)×Bool×St×List (Nat×Int))(e:av)(b:É):Prop:=
 e=Ç (æ #[Ē #[Â Æ o.1.1,Ñ o.1.2],Ñ o.2.1])/\∃c,ik E a n w o.2.2.1 o.2.2.2 b c
def alx{E:iT}{s:St}{ls:List (Nat×Int)}(ok:E.Ok)(b:iA E.r E.T E.C s v w)(c:w.ownsRow 0 257 2 v ls.length (j5 ls))(f:iK w)(g:gJ s)(x y:Nat)(n k:Int)(d:x<8)(i:y<8)(j:gd k)(l:0<=n)(m:(ls.length:Int)+400<=1000000): Ò À 170 #[Å<|Ã ⟨E.r,0,Ä⟩,Â Ë x,Â Ë y,Â Æ n,Â Æ k] w (Hj E v ls.length w<|yW s ls x y n k):=by
 unfold yW;by_cases a:n<10\/400<n\/(s x).fw<n
 .rw[if_pos a];exact(alu b c x y n k d l a).mono λe o h=>⟨h.1,v,h.2⟩
 .rw[if_neg a];exact alv ok b c f g x y n k d i j Z Z Z Z _ U
def ik.S{E:iT}{s:St}{ls:List (Nat×Int)}(k:fc fg w W)(r:ik E v n W s ls u x):ik E v n w s ls u x:= ⟨r.r,r.I,(k.S λ_ _=>ę).C r.C λ_ _ q=>q,λj q=>(r.l j q).imp id λe=>ë k.M e,λa b c d f=>r.M a b c (ia d k λ_ _=>id) f⟩
section
variable{E:iT}{lv:È}{s:St}{ls:List (Nat×Int)}{a:Nat}{t:Tx}
def Si{yJ:Value}{w1:World}{n:Nat}{s1:St}{ZW:List (Nat×Int)}(r:ik E lv n w s1 ZW w1 yJ)(hB:fi w.heap.size [.int .u64 0,.bool false] 246 w1)(hlb:E.r<w.heap.size)(v0 v1:Value)(hf0:j4 v0=true:=by rfl)(hf1:j4 v1=true:=by rfl): ik E lv n w s1 ZW ((w1.setCell ⟨w.heap.size,0,none⟩ v0).setCell ⟨w.heap.size,1,none⟩ v1) yJ/\fi w.heap.size [v0,v1] 246 ((w1.setCell ⟨w.heap.size,0,none⟩ v0).setCell ⟨w.heap.size,1,none⟩ v1):=by refine⟨r.N (Y:=λk=>k=w.heap.size) ((fc.I (X:=λk=>k=w.heap.size) (p:=⟨w.heap.size,0,Ä⟩) U v0<|Ø hf0).fh<|fc.I (X:=λk=>k=w.heap.size) (p:=⟨w.heap.size,1,Ä⟩) U v1<|Ø hf1) (λi q=>by omega) (λi cur q hc=> ?_) Z,(hB.gf 0 v0).gf 1 v1⟩;rw[q,hB]at hc;cases hc
def Sj{W:É}{a:St}{b:List (Nat×Int)}{cs:List È}(c:jX=(w.alloc<|Ð cs.toArray T).drewN 1\/jX=w.alloc (Ð cs.toArray T))(d:w.ownsRow 0 257 2 lv ls.length (j5 ls))(f:E.r<w.heap.size)(r:ik E lv n jX a b u v):fi w.heap.size cs T u:=by
 have e:fi w.heap.size cs T jX:=by
  rcases c with rfl|rfl
  .exact fi.N w cs T
  .exact fi.N w cs T
 refine e.I r.C ?_;rintro(q|q)
 .omega
 .have:=(d.lt _ q).2;omega
def aly(ok:E.Ok)(Q:E.T≠200)(l:iA E.r E.T E.C s lv w)(m:w.ownsRow 0 257 2 lv ls.length (j5 ls))(z:iK w)(B:gJ s)(c:lJ a t w)(d:t.Ok)(hlen:(ls.length:Int)+400<=1000000)(D:t.r=1): Ò À 154 #[Å<|Ã ⟨E.r,0,Ä⟩,Å<|Ã ⟨a,0,Ä⟩] w (Hj E lv ls.length w<|ma s ls t):=by
 have F:=fi.M l;have ZX:=c.G;have S:=c.r;have V:=c.C;have Y:=c.I;have c3:=c.M;have c4:=c.Y;have c5:=c.N;have hn:=DW d.I d.M;have hk:=DW d.r d.C;let⟨d2,G,I⟩:=Ì.1 Hi;have J:=ff<|Á G I;clear G I;have g:=(fc.gI fg w #[Â Æ 0,Ñ Ï] 246).fh<|fc.fR _ _;have o:=l.nG g id;have u:=ia m g λ_ _=>id;have b:=c.S g id;have RA:=z.r g id;rw[D]at c4;have L:ma s ls t=((10,Ú),(xh s t.x t.y t.n).1,(xh s t.x t.y t.n).2,ls):=by unfold ma;rw[if_pos D]
 rw[L];have C:=ali (ls:=ls) ok o u B t.x t.y t.n d.x d.y d.I (by have:=d.M;omega);have M:∀(j:É) (N:St) (O:List (Nat×Int)) (P:È),ik E lv ls.length _ N O j P->lJ a t j:=λj N O P r=>lJ.xe Q b o u r;have H:=ff<|Á C<|Á m M;clear C M l m z B c d o u RA L;go_enter Ź,ť;go_wp2_with fail;have HS:=ff<|Á b.r<|Á b.C<|Á b.I<|Á b.M b.N;clear S V Y c3 c5 b;refine lZ (λe=>e.cell? ⟨a,0,Ä⟩=Ã (Â Ë t.x)/\e.cell? ⟨a,1,Ä⟩=Ã (Â Ë t.y)/\e.cell? ⟨a,2,Ä⟩=Ã (Â Ë t.n)/\e.cell? ⟨a,3,Ä⟩=Ã (Â Ë t.k)/\e.cell? ⟨a,5,Ä⟩=Ã (Í t.C)) [22] fu ?_;iterate 20 apply tk HS.out
 apply gC 20;intro K f;go_simp;go_at_call 168;apply H.out.1.mono;rintro e j ⟨rfl,v⟩;dsimp only;have b:=H.out.2.2 _ _ _ _ v;apply f.out _ _ λ_=>⟨b.r,b.C,b.I,b.M,b.N⟩;clear f K;have h:=Sj (W:=w) (cs:=[Â Æ 0,Ñ Ï]) (Ø U) H.out.2.1 F v;have e0:=h.r 0 _ U;have e1:=h.r 1 _ U;have y0:=h.C 0;have y1:=h.C 1;have i:=b.S ((fc.I (X:=λk=>k=w.heap.size) (p:=⟨w.heap.size,0,Ä⟩) U<|Â Æ 10).fh<|fc.I (X:=λk=>k=w.heap.size) (p:=⟨w.heap.size,1,Ä⟩) U<|Ñ Ú) Z;apply gC 21;intro K f;go_simp;apply f.out _ _ λ_=>⟨i.r,i.C,i.I,i.M,i.N⟩;clear f K;apply gC 22;intro K f;go_simp;apply f.out _ _ λq=>absurd fp q;clear f K;try simp only[ĵ,Õ,ã,ä]
 refine lI fu ?_ _;go_wp2_with fail;let⟨q,q2⟩:=Si (ik.S g v) h F (Â Æ 10)<|Ñ Ú;apply ð (yV U U (fi.Y (tl:=[]) (vs:=[Â Æ 10,Ñ Ú]) q2) J.out.1 J.out.2 BF) U;exact⟨U,lv,q⟩
def alz(ok:E.Ok)(Q:E.T≠200)(l:iA E.r E.T E.C s lv w)(m:w.ownsRow 0 257 2 lv ls.length (j5 ls))(z:iK w)(B:gJ s)(c:lJ a t w)(f:t.Ok)(hlen:(ls.length:Int)+400<=1000000)(D:t.r=2): Ò À 154 #[Å<|Ã ⟨E.r,0,Ä⟩,Å<|Ã ⟨a,0,Ä⟩] w (Hj E lv ls.length w<|ma s ls t):=by
 have F:=fi.M l;have ZX:=c.G;have S:=c.r;have V:=c.C;have Y:=c.I;have c3:=c.M;have c4:=c.Y;have c5:=c.N;have hn:=DW f.I f.M;have hk:=DW f.r f.C;let⟨d2,G,I⟩:=Ì.1 Hi;have J:=ff<|Á G I;clear G I;have g:=(fc.gI fg w #[Â Æ 0,Ñ Ï] 246).fh<|fc.fR _ _;have o:=l.nG g id;have u:=ia m g λ_ _=>id;have b:=c.S g id;have RA:=z.r g id;rw[D]at c4;have L:ma s ls t=((20,Ú),(xi s t.x t.C).1,(xi s t.x t.C).2,ls):=by unfold ma;rw[if_neg Z,if_pos D]
 rw[L];have C:=als (ls:=ls) ok o u B t.x t.C f.x (by have:=f.N.1;omega);have M:∀(j:É) (N:St) (O:List (Nat×Int)) (P:È),ik E lv ls.length _ N O j P->lJ a t j:=λj N O P r=>lJ.xe Q b o u r;have H:=ff<|Á C<|Á m M;clear C M l m z B c f o u RA L;go_enter Ź,ť;go_wp2_with fail;have HS:=ff<|Á b.r<|Á b.C<|Á b.I<|Á b.M b.N;clear S V Y c3 c5 b;refine lZ (λd=>d.cell? ⟨a,0,Ä⟩=Ã (Â Ë t.x)/\d.cell? ⟨a,1,Ä⟩=Ã (Â Ë t.y)/\d.cell? ⟨a,2,Ä⟩=Ã (Â Ë t.n)/\d.cell? ⟨a,3,Ä⟩=Ã (Â Ë t.k)/\d.cell? ⟨a,5,Ä⟩=Ã (Í t.C)) [15] fu ?_;iterate 13 apply tk HS.out
 apply gC 13;intro K d;go_simp;go_at_call 169;apply H.out.1.mono;rintro e j ⟨rfl,v⟩;dsimp only;have b:=H.out.2.2 _ _ _ _ v;apply d.out _ _ λ_=>⟨b.r,b.C,b.I,b.M,b.N⟩;clear d K;have h:=Sj (W:=w) (cs:=[Â Æ 0,Ñ Ï]) (Ø U) H.out.2.1 F v;have e0:=h.r 0 _ U;have e1:=h.r 1 _ U;have y0:=h.C 0;have y1:=h.C 1;have i:=b.S ((fc.I (X:=λk=>k=w.heap.size) (p:=⟨w.heap.size,0,Ä⟩) U<|Â Æ 20).fh<|fc.I (X:=λk=>k=w.heap.size) (p:=⟨w.heap.size,1,Ä⟩) U<|Ñ Ú) Z;apply gC 14;intro K d;go_simp;apply d.out _ _ λ_=>⟨i.r,i.C,i.I,i.M,i.N⟩;clear d K;apply gC 15;intro K d;go_simp;apply d.out _ _ λq=>absurd fp q;clear d K;try simp only[ĵ,Õ,ã,ä]
 refine lI fu ?_ _;go_wp2_with fail;let⟨q,q2⟩:=Si (ik.S g v) h F (Â Æ 20)<|Ñ Ú;apply ð (yV U U (fi.Y (tl:=[]) (vs:=[Â Æ 20,Ñ Ú]) q2) J.out.1 J.out.2 BF) U;exact⟨U,lv,q⟩
def alA(ok:E.Ok)(X:E.T≠200)(l:iA E.r E.T E.C s lv w)(m:w.ownsRow 0 257 2 lv ls.length (j5 ls))(B:iK w)(D:gJ s)(d:lJ a t w)(c:t.Ok)(Y:(ls.length:Int)+400<=1000000)(F:t.r≠1)(G:t.r≠2): Ò À 154 #[Å<|Ã ⟨E.r,0,Ä⟩,Å<|Ã ⟨a,0,Ä⟩] w (Hj E lv ls.length w<|ma s ls t):=by
 have I:=fi.M l;have ZX:=d.G;have c0:=d.r;have c1:=d.C;have c2:=d.I;have c3:=d.M;have c4:=d.Y;have c5:=d.N;have hn:=DW c.I c.M;have hk:=DW c.r c.C;let⟨d2,J,L⟩:=Ì.1 Hi;have M:=ff<|Á J L;clear J L;have g:=(fc.gI fg w #[Â Æ 0,Ñ Ï] 246).fh<|fc.fR _ _;have p:=l.nG g id;have u:=ia m g λ_ _=>id;have b:=d.S g id;have N:=B.r g id;have z1:(t.r==1)=Ï:=by rwa[beq_eq_false_iff_ne]
 have z2:(t.r==2)=Ï:=by rwa[beq_eq_false_iff_ne]
 have O:ma s ls t=yW s ls t.x t.y t.n t.k:=by unfold ma;rw[if_neg F,if_neg G]
 rw[O];have C:=alx (ls:=ls) ok p u N D t.x t.y t.n t.k c.x c.y ⟨c.r,by have:=c.C;omega⟩ c.I Y;have P:∀(i:É) (Q:St) (S:List (Nat×Int)) (j:È),ik E lv ls.length _ Q S i j->lJ a t i:=λi Q S j r=>lJ.xe X b p u r;have H:=ff<|Á C<|Á m P;clear C P l m B D d c p u N O;generalize yW s ls t.x t.y t.n t.k=o at*;go_enter Ź,ť;go_wp2_with fail;have v:=ff<|Á b.r<|Á b.C<|Á b.I<|Á b.M b.N;clear c0 c1 c2 c3 c5 b;refine lZ (λe=>e.cell? ⟨a,0,Ä⟩=Ã (Â Ë t.x)/\e.cell? ⟨a,1,Ä⟩=Ã (Â Ë t.y)/\e.cell? ⟨a,2,Ä⟩=Ã (Â Ë t.n)/\e.cell? ⟨a,3,Ä⟩=Ã (Â Ë t.k)/\e.cell? ⟨a,5,Ä⟩=Ã (Í t.C)) [26,27] fu ?_;iterate 23 apply tk v.out
 apply gC 23;intro K f;go_simp;go_at_call 170;apply H.out.1.mono;rintro e i ⟨rfl,j,z⟩;dsimp only;have b:=H.out.2.2 _ _ _ _ z;apply f.out _ _ λ_=>⟨b.r,b.C,b.I,b.M,b.N⟩;clear f K;have h:=Sj (W:=w) (cs:=[Â Æ 0,Ñ Ï]) (Ø U) H.out.2.1 I z;have e0:=h.r 0 _ U;have e1:=h.r 1 _ U;have y0:=h.C 0;have y1:=h.C 1;have V:=Á b.r<|Á b.C<|Á b.I<|Á b.M b.N;have v:=ff V;clear V b;iterate 2 apply tk v.out
 apply gC 26;intro K f;go_simp;apply f.out _ _ λq=>absurd fp q;clear f K;apply gC 27;intro K f;go_simp;apply f.out _ _ λq=>absurd fp q;clear f K;try simp only[ĵ,Õ,ã,ä]
 refine lI fu ?_ _;go_wp2_with fail;let⟨q,q2⟩:=Si (ik.S g z) h I (Â Æ o.1.1)<|Ñ o.1.2;apply ð (yV U U (fi.Y (tl:=[]) (vs:=[Â Æ o.1.1,Ñ o.1.2]) q2) M.out.1 M.out.2 BF) U;exact⟨U,j,q⟩
def ZY(ok:E.Ok)(b:E.T≠200)(c:iA E.r E.T E.C s lv w)(d:w.ownsRow 0 257 2 lv ls.length (j5 ls))(e:iK w)(f:gJ s)(g:lJ a t w)(h:t.Ok)(i:(ls.length:Int)+400<=1000000): Ò À 154 #[Å<|Ã ⟨E.r,0,Ä⟩,Å<|Ã ⟨a,0,Ä⟩] w (Hj E lv ls.length w<|ma s ls t):=by
 by_cases j:t.r=1
 .exact aly ok b c d e f g h i j
 .by_cases k:t.r=2
  .exact alz ok b c d e f g h i k
  .exact alA ok b c d e f g h i j k
end
def ZZ:∀(d a b c:List È) (k:Nat),b.length=d.length->(d.zipIdx k).foldl (λ(q:Array È) (p:Value×Nat)=>q.setIfInBounds (a.length-k+p.2) p.1) (a++b++c).toArray=(a++d++c).toArray\/a.length<k
 |[],a,b,c,k,h=>by have:b=[]:=ß (by simpa using h);subst this;exact Ø U
 |v::r,a,b,c,k,h=>by
  rcases ů a.length k with q|q
  .exact Ù q
  .match b,h with
   |x::b,h=>
    apply Ø;have p:=(ZZ r (a++[v]) b c (k+1)<|by simpa using h).resolve_right (by simp;omega);simp only[List.zipIdx_cons,List.foldl_cons];rw[show a.length-k+k=a.length by omega,Õ,show(a++x::b++c).set a.length v=a++[v]++b++c by simp];rw[show(a++[v]).length-(k+1)=a.length-k by simp]at p;rw[p];simp
theorem Lc{place:Nat->Option (Nat×Nat)}{pre old suf:List È}{rest:List (Nat×Value)}(a:place i=Ã (pre.length,n))(b:v.cells.size=n)(c:old.length=n): ı place (pre++old++suf).toArray ((i,v)::rest)=ı place (pre++v.cells.toList++suf).toArray rest:=by rw[Instr.fill.eq_2];simp only[a];rw[if_neg (by simp only[ć,Ó,Bool.or_eq_true,decide_eq_true_eq,not_or];omega)];have:=(ZZ v.cells.toList pre old suf 0<|by rw[c,š,b]).resolve_right Z;simp only[Nat.sub_zero]at this;grind [Array.toList_zipIdx]
def alB:((À.info? 144).bind (·.zero)).map (λz=>z.cells.toList.drop 144)=Ã [Ê Ä 0 0]:=fu
def alC:((À.info? 144).bind (·.zero)).map (λz=>z.cells.size)=Ã 145:=fu
def Z0:((À.info? 147).bind (·.zero)).map (λz=>z.cells.toList.drop 145)=Ã [Â Ë 0,Ê Ä 0 0]:=fu
def Z1:((À.info? 147).bind (·.zero)).map (λz=>z.cells.size)=Ã 147:=fu
def Ld(P:aE)(t:õ):Option (List<|Nat×Nat):=match P.underlying t with
 |some (.struct fs)=>fs.toList.mapM λf=>(P.info? f.type).map λi=>(f.offset,i.size)
 |_=>Ä
def alD:Ld À 144=Ã [(0,144),(144,1)]:=fu
def Z2:Ld À 147=Ã [(0,145),(145,1),(146,1)]:=fu
def Sk{c:List (Nat×Nat)}(a:Ld P t=Ã c)(b:(P.info? t).bind (·.zero)=Ã z)(e:List (Nat×Value)):P.built t e=ı (c.toArray[·]?) z.cells e:=by
 unfold Ld at a;unfold Program.built;cases f:P.info? t with
 |none=>rw[f]at b;cases b
 |some h=>
  rw[f]at b;have b:h.zero=Ã z:=b;cases g:P.underlying t with
  |none=>rw[g]at a;cases a
  |some d=>
   rw[g]at a;cases d<;>first|(cases a;done)|skip
   simp only at a;simp only[b,a]
theorem Sl{suf:List È}(h:((P.info? t).bind (·.zero)).map (λz=>z.cells.toList.drop n)=Ã suf)(a:((P.info? t).bind (·.zero)).map (λz=>z.cells.size)=Ã m)(c:n<=m):∃z old,(P.info? t).bind (·.zero)=Ã z/\old.length=n/\z.cells=(old++suf).toArray:=by
 let⟨z,b,d⟩:=Ì.1 h;rw[b]at a;have a:z.cells.size=m:=by injection a
 refine⟨z,z.cells.toList.take n,b,by rw[List.length_take,š,a];omega,?_⟩;grind
theorem alE(h:l.length=144):À.built 144 [(0,Ē l.toArray)]=Ã (l++[Ê Ä 0 0]).toArray:=by let⟨z,d,a,b,c⟩:=Sl alB alC A;rw[Sk alD a,c];have:=Lc (place:=λi=>[(0,144),(144,1)].toArray[i]?) (pre:=[]) (suf:=[Ê Ä 0 0]) (i:=0) (v:=Ē l.toArray) (rest:=[]) U (by show l.toArray.size=144;simp[h]) b;simpa[ı,ğ]using this
theorem alF(h:l.length=145)(a:v.cells=#[v]):À.built 147 [(0,Ē l.toArray),(1,v)]=Ã (l++[v,Ê Ä 0 0]).toArray:=by let⟨z,g,c,d,f⟩:=Sl Z0 Z1 A;rw[Sk Z2 c,f];have b:=Lc (place:=λi=>[(0,145),(145,1),(146,1)].toArray[i]?) (pre:=[]) (suf:=[Â Ë 0,Ê Ä 0 0]) (i:=0) (v:=Ē l.toArray) (rest:=[(1,v)]) U (by show l.toArray.size=145;simp[h]) d;simp only[Ξ]at b;rw[b];have e:(Ē l.toArray).cells.toList=l:=rfl;rw[e];rw[show(l++[Â Ë 0,Ê Ä 0 0])=l++[Â Ë 0]++[Ê Ä 0 0] by simp,(Lc (place:=λi=>[(0,145),(145,1),(146,1)].toArray[i]?) (old:=[Â Ë 0]) (suf:=[Ê Ä 0 0]) (i:=1) (rest:=[]) (by show Ã (145,1)=Ã (l.length,1);rw[h]) (by rw[a];rfl) U)];simp[ı,a]
def im(s:St):List È:=(ċ 144).map<|pN s
def ru(s:St):(im s).length=144:=by simp[im]
theorem yY(s:St)(lv:È):jg s lv=im s++[lv]:=by unfold jg im;grind [Ŏ,List.map_congr_left,qw,KZ]
def Z3(a:o.op=.box T qQ)(b:xX qQ=Ē d):(Ĥ xX o).run P w=φ (.value<|Å<|Ã ⟨w.heap.size,0,Ä⟩) (w.alloc<|Ð d T):=by unfold Ĥ;simp[a,b,Instr.box,newVar,newRow,ğ]
theorem Sm{a:Array (Nat×Operand)}(b:o.op=Χ T a)(h:P.built T (a.map λ(i,x)=>(i,xX x)).toList=Ã d):(Ĥ xX o).run P w=φ (.value<|Ē d) w:=by have:=run_build w T (a.map λ(i,x)=>(i,xX x)) d h;unfold Ĥ;simp_all
theorem Sn(a:o.op=Χ 144 #[(0,qQ)])(b:xX qQ=Ē l.toArray)(c:l.length=144):(Ĥ xX o).run À w=φ (.value<|Ē (l++[Ê Ä 0 0]).toArray) w:=by grind [Sm,alE]
theorem alG{y:Ů}(a:o.op=Χ 147 #[(0,qQ),(1,y)])(b:xX qQ=Ē l.toArray)(c:xX y=v)(d:l.length=145)(e:v.cells=#[v]):(Ĥ xX o).run À w=φ (.value<|Ē (l++[v,Ê Ä 0 0]).toArray) w:=by apply Sm a;grind [alF]
def So:(À.underlying 140).map İ=Ã Ú:=fu
def Z4:(À.info? 140).map (·.size)=Ã 144:=fu
structure mb(vb:Nat)(s:St)(h:Int)(w:É):Prop where
 C:w.rangeAt vb 0 (im s)
 h:w.cell? ⟨vb,145,Ä⟩=Ã (Â Ë h)
def mb.r{s:St}(a:mb i s h w)(k:fc X w u)(b:¬X i):mb i s h u:= ⟨λj v c=>k.r (a.C j v c) b,k.r a.h b⟩
def tZ(l:List (Int×Bool)):List È:=l.flatMap λp=>[Â Æ p.1,Ñ p.2]
structure NX(B:Nat)(h:Int)(lv uv:È)(s:St)(ls:List (Nat×Int))(us:List (Int×Bool))(w0 w:É):Prop where
 r:iA B 147 [Â Ë h,uv] s lv w
 C:w.ownsRow 0 257 2 lv ls.length (j5 ls)
 I:w.ownsRow 0 246 2 uv us.length (tZ us)
 M:fc fg w0 w
 N:w0.heap.size<=B
 S:∀j,lv.ownBlock=Ã j->w0.heap.size<=j
 Y:∀j,uv.ownBlock=Ã j->w0.heap.size<=j
def NX.iW(w:É)(s:St)(h:Int):NX w.heap.size h (Ê Ä 0 0) (Ê Ä 0 0) s [] [] w ((Ă w<|Ð (im s++[Ê Ä 0 0,Â Ë h,Ê Ä 0 0]).toArray 147).drew):=by refine⟨?_,ĉ _ _ _ _,ĉ _ _ _ _,(fc.gI _ _ _ _).fh<|fc.fR _ _,Þ _,(λj q=>nomatch q),(λj q=>nomatch q)⟩;unfold iA;rw[yY,show im s++[Ê Ä 0 0]++[Â Ë h,Ê Ä 0 0]=im s++[Ê Ä 0 0,Â Ë h,Ê Ä 0 0] by simp];exact fi.N w _ 147
noncomputable def Hk:ŏ:=(Tryz.f115.body.bind km).getD Ķ
def yZ(c m B:Nat)(a:Option ă)(n b:Nat)(i:Int)(u:Nat->È):é:=⟨#[Å<|Ã ⟨c,0,Ä⟩,Â Ë m,Ê a n b,ā,ā,ā,Å Ä,Å<|Ã ⟨B,0,Ä⟩,u 8,u 9,u 10,u 11,u 12,u 13,u 14,u 15,u 16,u 17,u 18,u 19,u 20,u 21,u 22,u 23,u 24,Ê a n b,Â Ë n,Â Ë i,u 28,u 29,u 30,u 31,u 32,u 33,u 34,u 35,u 36,u 37,u 38,u 39,u 40,u 41,u 42,u 43,u 44,u 45,u 46,u 47,u 48,u 49,u 50,u 51,u 52,u 53,u 54,u 55,u 56,u 57,u 58,u 59,u 60,u 61,u 62,u 63,u 64,u 65,u 66,u 67,u 68,u 69,u 70,u 71,u 72,u 73,u 74,u 75,u 76,u 77,u 78,u 79,u 80,u 81,u 82],[]⟩
def Hl(b m B:Nat)(c:Option ă)(n d:Nat)(i:Int)(a:é):Prop:=∃u,a=yZ b m B c n d i u
def QN(X Y:é->É->Prop):aS->é->É->Prop
 |.exit 0,a,w=>X a w
 |.ret,a,w=>Y a w
 |_,_,_=>False
section
variable{lv:È}{s d:St}{ls f:List (Nat×Int)}{c:List (Int×Bool)}
def Sp(j:Nat)(h:Int)(x:È):iT:=⟨j,147,[Â Ë h,x]⟩
def Sq(j:Nat)(h:Int)(x:È):(Sp j h x).Ok:=⟨by show(147:Nat)≠36;decide,by show(147:Nat)≠257;decide,by show(147:Nat)≠282;decide,by show(147:Nat)≠300;decide,by show(147:Nat)≠252;decide,by show(147:Nat)≠246;decide⟩
def NX.fL(a:NX j h lv x s ls c u w)(k:fc fg w W):NX j h lv x s ls c u W:= ⟨a.r.nG k id,ia a.C k λ_ _=>id,ia a.I k λ_ _=>id,a.M.fh k,a.N,a.S,a.Y⟩
def NX.xe(a:NX j h lv x s ls c u w)(r:ik (Sp j h x) lv ls.length w d f W v):NX j h v x d f c u W:=by
 have k:=a.r;refine⟨r.r,r.I,ia a.I r.C ?_,a.M.C r.C ?_,a.N,λb q=> ?_,a.Y⟩
 .rintro b i (q|q)
  .let⟨m,g⟩:=lG a.I i;have e:b=j:=q;rw[e,k]at g;cases g
  .exact aj1 a.I a.C A i q
 .rintro i g (q|q)
  .have:=a.N;have e:i=j:=q;omega
  .have:=a.S i q;omega
 .rcases r.l b q with e|e
  .exact a.S b e
  .exact ë a.M.M e
def NX.fw(a:NX j h lv x s ls c u w)(b:i<8)(v:Int):NX j h lv x (s.fw i v) ls c u (w.setCell ⟨j,i*18,Ä⟩<|Â Æ v):= a.xe<|(ik.fT (E:=Sp j h x) a.r a.C).fw (Sq _ _ _) b v
def Z5(c:List (Int×Bool)):∀u∈tZ c,j4 u=Ú:=λu a=>by unfold tZ at a;let⟨e,_,h⟩:=Β.1 a;simp at h;rcases h with rfl|rfl<;>rfl
def alH:(À.info? 246).map (λi=>(i.zero,i.size,i.bytes))=Ã (Ã<|Ē #[Â Æ 0,Ñ Ï],2,16):=fu
def NX.G(a:NX j h lv x s ls c u w):w.cell? ⟨j,146,Ä⟩=Ã x:= fi.r a.r 146 _<|by rw[ü (by rw[mA];omega),mA];rfl
def NX.alI{g:Int}(b:NX j h lv x s ls c u w)(a:pL w 0 246 2 x c.length (tZ c) 1 [Â Æ g,Ñ yQ] v W): NX j h lv x s ls c u W/\NX j h lv v s ls (c++[(g,yQ)]) u (W.setCell ⟨j,146,Ä⟩ v):=by
 have m:∀{i:Nat} {n:Array È} {T:õ},x.ownBlock=Ã i->w.heap[i]?=Ã (Ð n T (0,0))->T=246:=λ{i n T} q hc=>by let⟨k,e⟩:=lG b.I q;rw[hc]at e;cases e;rfl
 have o:=b.M.C a.r λi y q=>by have:=b.Y i q;omega
 have f:NX j h lv x s ls c u W:=⟨b.r.nG a.r λq=>absurd (m q b.r) A,ia b.C a.r (λd q r=>by let⟨k,e⟩:=lG b.C q;exact absurd (m r e) A),a.I _ _ _ b.I λ_=>Þ _,o,b.N,b.S,b.Y⟩;have t:W.ownsRow 0 246 2 v (c++[(g,yQ)]).length (tZ<|c++[(g,yQ)]):=by have:=a.fq;rwa[show tZ c++[Â Æ g,Ñ yQ]=tZ (c++[(g,yQ)]) by simp[tZ],show c.length+1=(c++[(g,yQ)]).length by simp]at this
 have l:fc (λk=>k=j) W (W.setCell ⟨j,146,Ä⟩ v):=fc.I (X:=λk=>k=j) (p:=⟨j,146,Ä⟩) U v<|Ù<|fi.G f.r;have k:=fi.gf f.r 146 v;rw[List.set_append_right _ _ (by rw[mA];omega),mA]at k;refine⟨f,k,ia f.C l λd q r=>jw f.C f.r A (by rw[q,r]),ia t l λd q r=>jw t f.r A (by rw[q,r]),o.C l λi y q=>by have:=b.N;omega,b.N,b.S,λd q=> ?_⟩;rcases a.C with e|e
 .exact b.Y d<|by rwa[<-e]
 .rw[e]at q;cases q;exact b.M.M
end
section
variable{X:é->É->Prop}{cp:Nat}{lv:È}{s:St}{ls:List (Nat×Int)}{c:List (Int×Bool)}
def alJ(d:Nat->È)(e:NX j h lv x s ls c u w)(i:Int)(f:i=n) (g:∀a,Hl b m j O n cp i a->X a w): Î À Hk (Exit.then K<|QN X H) (yZ b m j O n cp i d) w:=by
 unfold yZ;conv=>arg 2;whnf
 subst f;go_wp2_with fail;exact g _ (gl _)
def alK(d:Nat->È)(f:NX j h lv x s ls c u w)(i:Int)(k:Nat)(q:i=k)(P:k<n)(Q:n<=1000)(tb o a:Nat)(r:O=Ã ⟨tb,o,Ä⟩)(S:w.cell? ⟨tb,o+k,Ä⟩=Ã (Å<|Ã ⟨a,0,Ä⟩))(t:Tx)(v:lJ a t w)(y:t.Ok)(z:iK w)(B:gJ s)(D:(ls.length:Int)+400<=1000000)(g:Int)(E:Bool)(F:St)(G:List (Nat×Int))(I:ma s ls t=((g,E),Ï,F,G)) (J:∀a p,a.tmps.getD 6 ā=Å Ä->a.defers=[]->fc fg u p->H a p): Î À Hk (Exit.then K<|QN X H) (yZ b m j O n cp i d) w:=by
 unfold yZ;conv=>arg 2;whnf
 subst q r;have C:=ZY (Sq _ _ _) (by show(147:Nat)≠200;decide) f.r f.C z B v y D;rw[I]at C;have T:(0:Int)<=(k:Int):=Z
 have V:(k:Int)<(n:Int):=Z
 have W:=fi.M f.r;have l:=ff<|Á f C;go_wp2_with fail;go_at_call 154;apply l.out.2.mono;rintro e Y ⟨rfl,yJ,L⟩;have M:=l.out.1.xe L;have N:=ff M;go_wp2_with fail;exact J _ _ U U<|N.out.M.fh<|fc.gI _ _ _ _
def alL(d:Nat->È)(f:NX j h lv x s ls c u w)(i:Int)(k:Nat)(V:i=k)(hj:k<n)(hn:n<=1000)(tb M a:Nat)(W:O=Ã ⟨tb,M,Ä⟩)(hc:w.cell? ⟨tb,M+k,Ä⟩=Ã (Å<|Ã ⟨a,0,Ä⟩))(t:Tx)(Y:lJ a t w)(KA:t.Ok)(hr:iK w)(hs:gJ s)(hlen:(ls.length:Int)+400<=1000000)(g:Int)(o:Bool)(z:St)(N:List (Nat×Int))(ho:ma s ls t=((g,o),Ú,z,N))(P:m<8)(E:gJ z)(wv:0<=g)(vm:g<=1000)(J8:c.length<=1000) (p:∀a v jv Sr,Hl b m j O n cp (i+1) a->NX j h jv Sr (z.fw m<|wu<|(z m).fw+g) N (c++[(g,o)]) u v->K a v): Î À Hk (Exit.then K<|QN X H) (yZ b m j O n cp i d) w:=by
 unfold yZ;conv=>arg 2;whnf
 subst V W;have C:=ZY (Sq _ _ _) (by show(147:Nat)≠200;decide) f.r f.C hr hs Y KA hlen;rw[ho]at C;have e1:(0:Int)<=(k:Int):=Z
 have e2:(k:Int)<(n:Int):=Z
 have as5:=fi.M f.r;have l:=ff<|Á f C;go_wp2_with fail;go_at_call 154;apply l.out.2.mono;rintro e r ⟨rfl,yJ,r1⟩;have B:=l.out.1.xe r1;have m1:=B.r.fw P;have z1:=fi.C B.r<|m*18;have Lb:=fi.M B.r;have b0:=(E.fw m).1;have b1:=(E.fw m).2;have hub:x.ownBlock≠Ã r.heap.size:=λq=>by have:=(B.I.lt _ q).2;omega
 have HX:=ff<|Á B E;generalize hb:(z m).fw=b at*;have hm0:(0:Int)<=(m:Int):=Z
 have hm1:(m:Int)<8:=Z
 go_wp2_with fail
 go_region
 have hx8:=(HX.out.1.fw P<|wu<|b+g).fL<|(fc.gI fg _ #[Â Æ g,Ñ o] 246).fh<|fc.fR _ _;have hU:fi r.heap.size [Â Æ g,Ñ o] 246 (Č<|Ă (r.setCell ⟨j,m*18,Ä⟩<|Â Æ<|wu<|b+g)<|Ð #[Â Æ g,Ñ o] 246):=by
  have:=fi.N (r.setCell ⟨j,m*18,Ä⟩<|Â Æ<|wu<|b+g) [Â Æ g,Ñ o] 246;have y:fi r.heap.size [Â Æ g,Ñ o] 246 (Ă (r.setCell ⟨j,m*18,Ä⟩<|Â Æ<|wu<|b+g)<|Ð #[Â Æ g,Ñ o] 246):=by simpa using this
  exact y
 go_wp2_with fail
 change Î À _ _ _ (Č<|Ă (r.setCell ⟨j,m*18,Ä⟩<|Â Æ<|wu<|b+g)<|Ð #[Â Æ g,Ñ o] 246);generalize Č (Ă (r.setCell ⟨j,m*18,Ä⟩<|Â Æ<|wu<|b+g)<|Ð #[Â Æ g,Ñ o] 246)=w8 at*;generalize r.heap.size=ub at*;have Q:=hx8.fL<|fc.fR fg w8;have F:=hU.I (fc.fR fg w8) id;let⟨i0,hi0,Hg,alM,alN⟩:=í alH;have D:=ff<|Á hi0<|Á Hg<|Á alM alN;have HS:=ff<|Á Q.G<|Á (F.r 0 _ rfl)<|F.r 1 _ rfl;have S:=ff<|Á Q F;refine lZ (λv=>v.cell? ⟨j,146,Ä⟩=Ã x/\v.cell? ⟨ub,0,Ä⟩=Ã (Â Æ g)/\v.cell? ⟨ub,1,Ä⟩=Ã (Ñ o)) [10] fu ?_;iterate 6 apply tk HS.out
 have G:=S.out.1.fL<|fc.gI fg _ #[Â Æ g,Ñ o] 246;have I:=S.out.2.I (fc.gI fg _ #[Â Æ g,Ñ o] 246) id;refine gC 6 ?_;intro K p;go_simp;refine p.out _ _ (λ_=>⟨G.G,I.r 0 _ U,I.r 1 _ U⟩) ?_;refine gC 7 ?_;intro K p;refine K4 (hfl:=Ù ⟨fp,λd y=>(ú.1 y).elim (Z5 c d) (λq=>by simp at q;rcases q with rfl|rfl<;>rfl),by simp[j4,ğ]⟩) fW _ _ 145 fW Tryz.underlying145 D.out.1 D.out.2.1 D.out.2.2.1 D.out.2.2.2 U fW G.I ⟨_,0,Ä⟩ [Â Æ g,Ñ o] fW Z U (ŵ _ _ _ _) (λd y=>by simp at y;rcases y with rfl|rfl<;>rfl) (by unfold Ą;omega) Z (â _) ?_;intro uv1 w9 J;obtain⟨a2,Z6,rfl⟩:=jo J.fq;let⟨L,n2⟩:=G.alI J;have y:=I.I J.r hub;refine p.out _ _ (λ_=>⟨L.G,y.r 0 _ U,y.r 1 _ U⟩) ?_;have T:=L.G;have fz:=fi.C L.r 146;refine gC 8 ?_;intro K p;go_simp;refine p.out _ _ (λ_=>⟨T,y.r 0 _ U,y.r 1 _ U⟩) ?_;refine gC 9 ?_;intro K p;go_simp;refine p.out _ _ (λ_=>⟨T,y.r 0 _ U,y.r 1 _ U⟩) ?_;refine gC 10 ?_;intro K p;go_simp;refine p.out _ _ (λq=>absurd fp q) ?_;refine lI fu ?_ _;go_wp2_with fail;subst hb;exact p _ _ _ _ (gl _) n2
end
def ua(m:Nat):St->List (Nat×Int)->List (Int×Bool)->List Tx->Option (St×List (Nat×Int)×List (Int×Bool))
 |s,ls,us,[]=>Ã (s,ls,us)
 |s,ls,us,t::r=>if(ma s ls t).2.1 then ua m ((ma s ls t).2.2.1.fw m<|wu<|((ma s ls t).2.2.1 m).fw+(ma s ls t).1.1) (ma s ls t).2.2.2 (us++[(ma s ls t).1]) r else Ä
def alO{s:St}(b:gJ s)(x y:Nat)(c:0<=h):gJ (xh s x y h).2:=by
 unfold xh;split
 .exact b
 .rename_i a;have:=(b.fw x).2;exact(b.r x ⟨Z,Z⟩).r y<|yS _
def alP{s:St}(a:gJ s)(x:Nat)(e:B.size<=40/\∀c∈B.data.toList,xd c=Ú):gJ (xi s x B).2:=by
 unfold xi;split
 .exact a
 .rename_i h;have:=(a.fw x).2;have d:=a.r x (b:=(s x).fw-20) ⟨Z,Z⟩;exact d.gf (d.fw x) (d.C x) e
structure Z7(r:List (Nat×Int))(o:(Int×Bool)×Bool×St×List (Nat×Int)):Prop where
 g0:0<=o.1.1
 C:o.1.1<=400
 s:gJ o.2.2.1
 r:o.2.2.2.length<=r.length+400
def alQ{s:St}(f:gJ s){d:List (Nat×Int)}(g:i<8)(l:j<8)(m:gd c)(p:(d.length:Int)+400<=1000000):Z7 d (yW s d i j h c):=by
 unfold yW;split
 .exact⟨Ö _,by show(0:Int)<=400;decide,f,Ŀ _ _⟩
 .rename_i a;have q:=(f.fw i).2;have o:=f.r i (b:=(s i).fw-h) ⟨Z,Z⟩;have e:=La _ d i j (h-10) c o g l m Z Z Z;have r:=e.C;have t:=e.r;have u:=e.I;exact⟨by show 0<=_+10;omega,by show _+10<=400;omega,e.N.r i<|yS _,by show(gi _ _ _ _ _ _).I.length<=_;omega⟩
def Z8{s:St}(b:gJ s){ls:List (Nat×Int)}{t:Tx}(a:t.Ok)(c:(ls.length:Int)+400<=1000000):Z7 ls (ma s ls t):=by
 unfold ma;split
 .exact⟨by show(0:Int)<=10;decide,by show(10:Int)<=400;decide,alO b _ _ a.I,Ŀ _ _⟩
 .split
  .exact⟨by show(0:Int)<=20;decide,by show(20:Int)<=400;decide,alP b _ a.N,Ŀ _ _⟩
  .exact alQ b a.x a.y ⟨a.r,by have:=a.C;omega⟩ c
structure BG(bp:Option ă)(n:Nat)(lL:List (Nat×Tx))(w:É):Prop where
 r:n=lL.length
 C:∀(j a:Nat) (t:Tx),lL[j]?=Ã (a,t)->∃tb te,bp=Ã ⟨tb,te,Ä⟩/\w.cell? ⟨tb,te+j,Ä⟩=Ã (Å<|Ã ⟨a,0,Ä⟩)/\lJ a t w/\t.Ok
def BG.I{b:List (Nat×Tx)}(h:BG O n b w)(k:fc fg w u):BG O n b u:= ⟨h.r,λj a t q=>by let⟨tb,c,d,e,f,g⟩:=h.C j a t q;exact⟨tb,c,d,k.r e id,f.S k id,g⟩⟩
def lr(a:List (Nat×Tx)):List Tx:=a.map (·.2)
section
variable{bp:Option ă}{cp:Nat}{lL:List (Nat×Tx)}{d:Option (St×List (Nat×Int)×List (Int×Bool))}
def Ss(n:Nat)(a:é)(_:É):Nat:=match a.tmps.getD 27 ā with
 |Â _ i=>n-i.toNat
 |_=>0
def NI(b m i:Nat)(bp:Option ă)(n cp:Nat)(h:Int)(u:É)(lL:List (Nat×Tx))(d:Option (St×List (Nat×Int)×List (Int×Bool)))(a:é)(w:É):Prop:=
 ∃(j:Nat) (s:St) (c:List (Nat×Int)) (e:List (Int×Bool)) (f g:È),Hl b m i bp n cp j a/\j<=n/\NX i h f g s c e u w/\gJ s/\c.length<=400*j/\e.length=j/\ua m s c e ((lr lL).drop j)=d
def NE(b m i:Nat)(bp:Option ă)(n cp:Nat)(h:Int)(u:É)(d:Option (St×List (Nat×Int)×List (Int×Bool)))(a:é)(w:É):Prop:=
 ∃(s:St) (c:List (Nat×Int)) (e:List (Int×Bool)) (f g:È),Hl b m i bp n cp n a/\NX i h f g s c e u w/\gJ s/\d=Ã (s,c,e)
def NR(u:É)(d:Option (St×List (Nat×Int)×List (Int×Bool)))(a:é)(w:É):Prop:=
 a.tmps.getD 6 ā=Å Ä/\a.defers=[]/\fc fg u w/\d=Ä
theorem alR(C:BG bp n lL u)(K:iK u)(L:n<=1000)(V:m<8)(a:é)(w:É)(W:NI b m i bp n cp h u lL d a w): Î À Hk (Exit.then (λo q=>NI b m i bp n cp h u lL d o q/\Ss n o q<Ss n a w)<|QN (NE b m i bp n cp h u d)<|NR u d) a w:=by
 let⟨j,s,r,M,X,Y,hfr,hj,x,y,R6,J8,e⟩:=W;obtain⟨c,rfl⟩:=hfr;by_cases uV:j=n
 .have D:(lr lL).drop j=[]:=Ę (by unfold lr;rw[Ο,<-C.r];omega);rw[D]at e;refine alJ c x j (by rw[uV]) λa v=>⟨s,r,M,X,Y,?_,x,y,e.symm⟩;grind
 .have E:j<n:=Z
  obtain⟨⟨a,t⟩,N⟩:∃p,lL[j]?=Ã p:=⟨_,Ô<|by rwa[<-C.r]⟩;have D:(lr lL).drop j=t::(lr lL).drop (j+1):=by
   have v:(lr lL)[j]?=Ã t:=by unfold lr;rw[ķ,N];rfl
   grind [ē]
  let⟨tb,O,P,Q,S,F⟩:=(C.I x.M).C j a t N;have G:(r.length:Int)+400<=1000000:=Z
  have k:=Z8 y F G;rw[D]at e;unfold ua at e;obtain⟨g,l,H,z,f,I⟩:∃g l H z f,ma s r t=((g,l),H,z,f):=⟨_,_,_,_,_,U⟩;rw[I]at e k;have g0:=k.g0;have g1:g<=400:=k.C;have T:=k.s;have Lb:f.length<=r.length+400:=k.r;cases H with
  |false=>
   simp only[ĭ,if_false]at e;exact alK c x j j U E L tb O a P Q t S F (K.r x.M id) y G g l z f I λo q B J v=>⟨B,J,v,e.symm⟩
  |true=>
   simp only[if_true]at e;refine alL c x j j U E L tb O a P Q t S F (K.r x.M id) y G g l z f I V T g0 Z Z λo q jv Sr B J=>⟨⟨j+1,_,f,M++[(g,l)],jv,Sr,by simpa using B,Z,J,T.r m<|yS _,Z,by simp[J8],e⟩,?_⟩;obtain⟨v,rfl⟩:=B;show n-((j:Int)+1).toNat<n-((j:Int)).toNat;omega
def xj(m:Nat)(s:St)(lL:List Tx):Option (St×List (Nat×Int)×List (Int×Bool)):=
 (ua m s [] [] lL).map λr=>(r.1.fw m<|wu<|(r.1 m).fw+50,r.2)
def DX(h:Int)(w:É)(r:Option (St×List (Nat×Int)×List (Int×Bool)))(e:av)(a:É):Prop:=
 (r=Ä/\e=Ç (Å Ä)/\fc fg w a)\/
 ∃s b c i d f,r=Ã (s,b,c)/\e=Ç (Å<|Ã ⟨i,0,Ä⟩)/\NX i (h+1) d f s b c w a/\gJ s
def alS{s:St}(e:mb b s h w)(Y:0<=h)(hh1:h<=1000)(y:gJ s)(z:BG bp n lL w)(B:iK w)(J:n<=1000)(f:m<8): Ò À 115 #[Å<|Ã ⟨b,0,Ä⟩,Â Ë m,Ê bp n cp] w (DX h w<|xj m s<|lr lL):=by
 let⟨M,C,D⟩:=Ì.1 So;have E:(À.info? 140).map (·.size)=Ã (im s).length:=by rw[ru];exact Z4
 have k:=ff<|Á C<|Á D E;have F:=(e.r (fc.fR fg w) id).C;have G:=(e.r (fc.fR fg w) id).h;have ov:Ë.wrap (h+1)=h+1:=Hc Z Z;have c:=ff<|Á F G;have gN:=á w _ e.h;have L:∀l a,NX w.heap.size (h+1) (Ê Ä 0 0) (Ê Ä 0 0) s [] [] w l->Hl b m w.heap.size bp n cp 0 a->Î À (à Hk) (QN (NE b m w.heap.size bp n cp (h+1) w<|ua m s [] []<|lr lL)<|NR w<|ua m s [] []<|lr lL) a l:=λl a x N=>
  Ĉ (NI b m w.heap.size bp n cp (h+1) w lL<|ua m s [] []<|lr lL) (Ss n) ⟨0,s,[],[],_,_,N,â _,x,y,fp,U,U⟩<|alR z B J f
 have H:=ff<|Á e L;have I:xj m s (lr lL)=(ua m s [] []<|lr lL).map λr=>(r.1.fw m<|wu<|(r.1 m).fw+50,r.2):=U;rw[I];clear C D F G e E L y z B I;generalize ua m s [] [] (lr lL)=d at*;go_enter Tryz.func115,Tryz.ntmps115;go_wp2_with fail;refine lZ (λg=>g.rangeAt b 0 (im s)/\g.cell? ⟨b,145,Ä⟩=Ã (Â Ë h)) [] fu ?_;iterate 4 apply tk c.out
 refine Hb (i:=4) (oi:={dst:=Ã 16,op:=Go.Op.load 140<|î 15,type:=140,pos:= "block.go:30",after:=#[{on:=3,ground:=ï}],guard:=Ä}) U fu fu fu fu (λ_ _ _ h=>h) c.out (yieldsIf_load_mid fW 140 _ U b 0 U (im s) M (λw h=>h.1) k.out.1 k.out.2.1 k.out.2.2) ?_;refine Hb (i:=5) (oi:={dst:=Ã 17,op:=Χ 144 #[(0,î 16)],type:=144,pos:= "block.go:30",after:=#[{on:=4,ground:=ï}],guard:=Ä}) U fu fu fu fu (λ_ _ _ h=>h) c.out (Ø ⟨fW,λ_ _=>Sn U U<|ru s⟩) ?_;apply tk c.out 6;apply tk c.out 7;apply tk c.out 8;apply tk c.out 9;apply tk c.out 10;refine Hb (i:=11) U fu fu fu fu (λ_ _ _ h=>h) c.out (Ø ⟨fW,λ_ _=>alG U U U (by simp[ru]) U⟩) ?_;have g:=ff<|(H.out.1.r (fc.fR fg w) id).r (fc.gI fg _ ((im s++[Ê Ä 0 0])++[Â Ë<|h+1,Ê Ä 0 0]).toArray 147) id;refine gC 12 ?_;intro K o;rw[if_pos fW];unfold Ń;rw[Z3 U U,Ħ];refine o.out _ _ (λ_=>⟨g.out.C,g.out.h⟩) ?_;refine gC 13 ?_;intro K o;go_simp;refine o.out _ _ (λ_=>⟨g.out.C,g.out.h⟩) ?_;refine lI fu ?_ _;go_wp2_with fail;have O:=NX.iW w s<|h+1;refine Ý ?_ (H.out.2 _ _ O (gl _));rintro(_|(_|_)|_|_|_|_) a v hq;all_goals first|exact absurd hq id|skip
 .let⟨p,P,Q,S,T,V,j,q,W⟩:=hq;subst W;have d1:=j.r.fw f;have f1:=fi.C j.r<|m*18;have Lb:=fi.M j.r;have b0:=(q.fw m).1;have b1:=(q.fw m).2;have hm0:(0:Int)<=(m:Int):=Z
  have hm1:(m:Int)<8:=Z
  have t:=ff<|Á j q;generalize X:(p m).fw=b at*;obtain⟨u,rfl⟩:=V;unfold yZ;go_wp2_with fail;go_region;go_wp2_with fail;go_ret;refine Ù ⟨p.fw m<|wu<|(p m).fw+50,P,Q,w.heap.size,S,T,U,U,?_,t.out.2.r m<|yS _⟩;rw[X];first
   |exact(t.out.1.fw f<|wu<|b+50).fL<|fc.fR _ _
   |exact(t.out.1.still<|Keep.drew _ _).fw f<|wu<|b+50
 .let⟨j,p,q,t⟩:=hq;simp only[Exit.inBlock,Exit.then];apply ð (results_tmp U _ _ _) p;exact Ø ⟨by rw[t];rfl,by rw[j],q⟩
end
def pS(i:Nat):ByteArray:=if i<10 then⟨#[(48+i).toUInt8]⟩else⟨#[(48+i/10).toUInt8,(48+i%10).toUInt8]⟩
def alT:∀k:Fin 10,(⟨#[48,49,50,51,52,53,54,55,56,57,97,98,99,100,101,102,103,104,105,106,107,108,109,110,111,112,113,114,115,116,117,118,119,120,121,122]⟩:ByteArray).extract k.val (k.val+1)=pS k.val:=by decide+kernel
def alU:∀k:Fin 100,k.val<10\/(⟨#[48,48,48,49,48,50,48,51,48,52,48,53,48,54,48,55,48,56,48,57,49,48,49,49,49,50,49,51,49,52,49,53,49,54,49,55,49,56,49,57,50,48,50,49,50,50,50,51,50,52,50,53,50,54,50,55,50,56,50,57,51,48,51,49,51,50,51,51,51,52,51,53,51,54,51,55,51,56,51,57,52,48,52,49,52,50,52,51,52,52,52,53,52,54,52,55,52,56,52,57,53,48,53,49,53,50,53,51,53,52,53,53,53,54,53,55,53,56,53,57,54,48,54,49,54,50,54,51,54,52,54,53,54,54,54,55,54,56,54,57,55,48,55,49,55,50,55,51,55,52,55,53,55,54,55,55,55,56,55,57,56,48,56,49,56,50,56,51,56,52,56,53,56,54,56,55,56,56,56,57,57,48,57,49,57,50,57,51,57,52,57,53,57,54,57,55,57,56,57,57]⟩:ByteArray).extract (k.val*2) (k.val*2+2)=pS k.val:=by decide+kernel
theorem alV(i:Nat)(h:i<10)(w:É):Ò À 187 #[Â Ë i] w λe a=>e=Ç (Í<|pS i)/\a=w:=by
 go_enter ź,π;go_wp2;all_goals go_ret
 refine⟨Zh<|alT ⟨i,h⟩,U⟩
theorem alW(i:Nat)(h:i<100)(b:10<=i)(w:É):Ò À 187 #[Â Ë i] w λe a=>e=Ç (Í<|pS i)/\a=w:=by
 go_enter ź,π;go_wp2;all_goals go_ret
 refine⟨Zh ((alU ⟨i,h⟩).resolve_left<|by show¬i<10;omega),U⟩
theorem alX(i:Nat)(h:i<100)(w:É):Ò À 187 #[Â Ë i] w λe a=>e=Ç (Í<|pS i)/\a=w:=by grind [alV,alW]
def alY(i:Nat)(h:i<100)(w:É):Ò À 171 #[Â Ë i,Â Ë 10] w λe a=>e=Ç (Í<|pS i)/\a=w:=by go_enter Tryz.func171,Tryz.ntmps171;go_wp2_with (go_at_call 187;refine(alX i h _).mono ?_;rintro e a ⟨rfl,rfl⟩);go_ret;exact⟨U,U⟩
def Z9(i:Nat)(h:i<100)(w:É):Ò À 117 #[Â Ë i] w λe a=>e=Ç (Í<|pS i)/\a=w:=by
 go_enter Tryz.func117,Tryz.ntmps117;go_wp2_with (first
  |(go_at_call 171;refine(alY i h _).mono ?_;rintro e a ⟨rfl,rfl⟩)
  |go_in)
 go_ret;exact⟨U,U⟩
def oK(i:Nat):ByteArray:=⟨#[33]⟩++pS i
def DY(i:Nat)(h:i<10)(w:É):Ò À 114 #[Â Ë i] w λe a=>e=Ç (Í<|oK i)/\a=w:=by
 have b:(pS i).size=1:=by unfold pS;rw[if_pos h];rfl
 go_enter Tryz.func114,Tryz.ntmps114;go_wp2_with (go_at_call 117;refine(Z9 i Z _).mono ?_;rintro e a ⟨rfl,rfl⟩);go_ret;exact⟨U,U⟩
def tb(n c:Nat):Nat:=(n^^^c)*1099511628211%18446744073709551616
def Le(n c:Nat):tb n c<18446744073709551616:=aN _ Z
def a_(n c:Nat)(a:n<18446744073709551616)(f:c<256)(w:É):Ò À 178 #[Â Æ n,Â aT c] w λe b=>e=Ç (Â Æ<|tb n c)/\b=w:=by
 go_enter Tryz.func178,Tryz.ntmps178;go_wp2_with fail;go_ret;refine⟨?_,U⟩;have d:Æ.wrap (((n^^^c:Nat):Int)*1099511628211)=((tb n c:Nat):Int):=by rw[aX];unfold tb;omega
 rw[bits_xor_u64_nat n c a Z,d];rfl
def tn(m:Nat):Nat->Nat->Nat
 |n,0=>n
 |n,j+1=>tn m (tb n<|m/2^(8*j)%256) j
def b_(m:Nat):∀(j n:Nat),n<18446744073709551616->tn m n j<18446744073709551616
 |0,_,h=>h
 |j+1,_,_=>b_ m j _<|Le _ _
noncomputable def Lf:ŏ:=(Tryz.f177.body.bind km).getD Ķ
def DZ(m n:Nat)(i:Int)(u:Nat->È):é:=⟨#[Â Æ n,Â Æ m,u 2,u 3,u 4,Â Ë i,u 6,u 7,u 8,u 9,u 10,u 11,u 12,u 13,u 14,u 15,u 16],[]⟩
def D1(m n:Nat)(i:Int)(a:é):Prop:=∃u,a=DZ m n i u
section
variable{X:é->É->Prop}
def alZ(m n j:Nat)(f:j<8)(d:n<18446744073709551616)(g:m<18446744073709551616)(u:Nat->È)(b:∀a,D1 m (tb n<|m/2^(8*j)%256) (((8*j:Nat):Int)-8) a->K a w): Î À Lf (Exit.then K<|QQ X) (DZ m n (8*j:Nat) u) w:=by
 unfold DZ;conv=>arg 2;whnf
 have h:(0:Int)<=((8*j:Nat):Int):=Z
 have i:((8*j:Nat):Int)<64:=Z
 have T:=a_ n (m/2^(8*j)%256) d Z w;generalize 8*j=j8 at*;have c:((m/2^j8%256:Nat):Int)=(m:Int)/2^j8%256:=fp
 rw[c]at T;have H:=ff<|Á T b;clear T b c;go_wp2_with (go_at_call 178;apply H.out.1.mono;rintro e k ⟨rfl,rfl⟩);exact H.out.2 _ (gl _)
def al0(m n:Nat)(u:Nat->È)(b:∀a,D1 m n (-8) a->X a w): Î À Lf (Exit.then K<|QQ X) (DZ m n (-8) u) w:=by
 unfold DZ;conv=>arg 2;whnf
 go_wp2_with fail
 exact b _ (gl _)
def TI(m:Nat)(b:É)(c:Nat)(a:é)(w:É):Prop:=∃n j:Nat,D1 m n (((8*j:Nat):Int)-8) a/\j<=8/\n<18446744073709551616/\w=b/\tn m n j=c
def TE(m:Nat)(b:É)(c:Nat)(a:é)(w:É):Prop:=D1 m c (-8) a/\w=b
def Lg(a:é)(_:É):Nat:=match a.tmps.getD 5 ā with
 |Â _ i=>(i+8).toNat
 |_=>0
def c_(b:D1 m n h y):Lg y w=(h+8).toNat:=by obtain⟨u,rfl⟩:=b;rfl
def al1(f:m<18446744073709551616)(a:é)(w:É)(g:TI m u i a w): Î À Lf (Exit.then (λb e=>TI m u i b e/\Lg b e<Lg a w)<|QQ<|TE m u i) a w:=by
 obtain⟨n,j,c,k,h,rfl,d⟩:=g;rw[c_ (w:=w) c];obtain⟨b,rfl⟩:=c;cases j with
 |zero=>
  subst d;exact al0 m n b λa q=>⟨q,U⟩
 |succ j=>
  have e:(((8*(j+1):Nat):Int)-8)=((8*j:Nat):Int):=Z
  rw[e];refine alZ m n j Z h f b λa q=>⟨⟨_,j,q,Z,Le _ _,U,d⟩,?_⟩;rw[c_ q];omega
end
def nZ(n m:Nat):Nat:=tn m n 8
theorem D2(n m:Nat)(a:n<18446744073709551616):nZ n m<18446744073709551616:=b_ m 8 n a
def Hm(n m:Nat)(b:n<18446744073709551616)(c:m<18446744073709551616)(w:É):Ò À 177 #[Â Æ n,Â Æ m] w λe d=>e=Ç (Â Æ<|nZ n m)/\d=w:=by
 have L:∀a,D1 m n 56 a->Î À (à Lf) (QQ<|TE m w<|nZ n m) a w:=λa f=>
  Ĉ (TI m w<|nZ n m) Lg ⟨n,8,f,Þ _,b,U,U⟩<|al1 c
 generalize nZ n m=r at*;go_enter Tryz.func177,Tryz.ntmps177;go_wp2_with fail;refine Ý ?_ ((ff L).out _ (gl _));rintro(_|(_|_)|_|_|_|_) a v hq;all_goals first|exact absurd hq id|skip
 obtain⟨g,rfl⟩:=hq;obtain⟨u,rfl⟩:=g;unfold DZ;go_wp2_with fail;go_ret;exact⟨U,U⟩
def Hn(p q:Nat):Nat:=nZ (nZ 14695981039346656037 p) q
def al2(p q:Nat):Hn p q<18446744073709551616:=D2 _ _<|D2 _ _ Z
noncomputable def Ho:ŏ:=(Tryz.f162.body.bind km).getD Ķ
noncomputable def Hp:ŏ:=(km Ho).getD Ķ
def Q2(X:é->É->Prop):aS->é->É->Prop
 |.exit 2,a,w=>X a w
 |_,_,_=>False
def va(b c d:Nat)(a:Nat)(i:Int)(u:Nat->È):é:=⟨#[Ê (Ã ⟨b,0,Ä⟩) c d,u 1,u 2,Â Ë a,u 4,u 5,u 6,u 7,u 8,u 9,u 10,Â Ë a,Â Ë i,u 13,u 14,u 15,u 16,u 17,u 18,u 19,u 20,u 21,u 22,u 23,u 24,u 25,u 26,u 27,u 28,u 29,u 30,u 31,u 32,u 33,u 34,u 35,u 36,u 37],[]⟩
def BH(b c d:Nat)(e:Nat)(i:Int)(a:é):Prop:=∃u,a=va b c d e i u
section
variable{X:é->É->Prop}{cp:Nat}
def al3(u:Nat->È)(c:∀a,BH b n cp i i a->X a w): Î À Hp (Exit.then K<|Q2 X) (va b n cp i i u) w:=by
 unfold va;conv=>arg 2;whnf
 go_wp2_with fail
 exact c _ (gl _)
def al4(c p q z:Nat)(k:Hn p q=z)(t:c<i)(x:2*i<=n)(y:n<=16)(l:p<18446744073709551616)(m:q<18446744073709551616)(u:Nat->È) (o:w.cell? ⟨b,2*c,Ä⟩=Ã (Â Æ p)) (r:w.cell? ⟨b,2*c+1,Ä⟩=Ã (Â Æ q)) (h:∃v,w.cell? ⟨b,c,Ä⟩=Ã v) (B:w.frozen? ⟨b,c,Ä⟩=Ï) (d:∀a,BH b n cp i ((c+1:Nat):Int) a->K a (w.setCell ⟨b,c,Ä⟩<|Â Æ z).drew): Î À Hp (Exit.then K<|Q2 X) (va b n cp i c u) w:=by
 unfold va;conv=>arg 2;whnf
 subst k;unfold Hn at d;let⟨C,h⟩:=h;have D:(0:Int)<=(c:Int):=Z
 have E:(c:Int)<(i:Int):=Z
 have F:(2:Int)*(c:Int)+1<(n:Int):=Z
 have G:((2:Int)*(c:Int)).toNat=2*c:=Z
 have H:((2:Int)*(c:Int)+1).toNat=2*c+1:=Z
 have I:Ë.wrap (2*(c:Int))=2*(c:Int):=Hc Z Z;have j:Ë.wrap (2*(c:Int)+1)=2*(c:Int)+1:=Hc Z Z;have J:(0:Int)<=2*(c:Int):=Z
 have L:2*(c:Int)<(n:Int):=Z
 have M:(0:Int)<=2*(c:Int)+1:=Z
 have N:(c:Int)<(n:Int):=Z
 have s:=ff d;clear d;go_wp2_with fail;have f:=ff<|Á o r;refine lZ (λe=>e.cell? ⟨b,2*c,Ä⟩=Ã (Â Æ p)/\e.cell? ⟨b,2*c+1,Ä⟩=Ã (Â Æ q)) [16] fu ?_;iterate 7 apply tk f.out
 apply tk f.out 8;apply tk f.out 9;apply tk f.out 10;apply tk f.out 11;apply tk f.out 12;apply tk f.out 13;refine gC 7 ?_;intro K d;go_simp;go_at_call 177;refine(Hm 14695981039346656037 p Z l _).mono ?_;rintro e g ⟨rfl,j⟩;subst g;refine d.out _ _ (λ_=>f.out) ?_;refine gC 14 ?_;intro K d;go_simp;go_at_call 177;refine(Hm (nZ 14695981039346656037 p) q (D2 _ _ Z) m _).mono ?_;rintro e g ⟨rfl,j⟩;subst g;refine d.out _ _ (λ_=>f.out) ?_;refine gC 15 ?_;intro K d;go_simp;refine d.out _ _ (λ_=>f.out) ?_;refine gC 16 ?_;intro K d;go_simp;refine d.out _ _ (λq=>absurd fp q) ?_;refine lI fu ?_ _;go_wp2_with fail;exact s.out _ (gl _)
end
def pr(l:List Nat)(t:Nat):Nat:=Hn (l.getD (2*t) 0)<|l.getD (2*t+1) 0
def d_(l:List Nat)(t:Nat):Hn (l.getD (2*t) 0) (l.getD (2*t+1) 0)=pr l t:=by unfold pr;exact Eq.refl _
def jH(l:List Nat)(i:Nat):List Nat:=(ċ l.length).map λt=>if t<i then pr l t else l.getD t 0
def uf(l:List Nat):List Nat:=(ċ<|l.length/2).map<|pr l
def kn(l:List Nat):List È:=l.map λ(x:Nat)=>Â Æ x
def rv(l:List Nat):Prop:=∀t,l.getD t 0<18446744073709551616
theorem Hq(l:List Nat)(i:Nat):(jH l i).length=l.length:=by simp[jH]
theorem Lh(l:List Nat)(i t:Nat)(h:t<l.length):(jH l i)[t]?=Ã (if t<i then pr l t else l.getD t 0):=by simp[jH,û h]
theorem al5(l:List Nat):jH l 0=l:=by refine þ λt=> ?_;grind [Lh,Hq]
theorem al6(l:List Nat)(i:Nat)(h:i<l.length):(jH l i).set i (pr l i)=jH l (i+1):=by refine þ λt=> ?_;grind [Lh,Hq,ĕ]
theorem al7(l:List Nat):jH l (l.length/2)=uf l++l.drop (l.length/2):=by
 refine þ λt=> ?_;have b:(uf l).length=l.length/2:=by simp[uf]
 by_cases a:t<l.length
 .rw[Lh _ _ t a];by_cases q:t<l.length/2
  .rw[if_pos q,ç Z];simp[uf,û q]
  .grind
 .grind [Hq,Ó,List.length_drop]
def al8(l:List Nat)(t:Nat):pr l t<18446744073709551616:=by rw[<-d_];exact al2 _ _
def Li{N:Nat}(a:0<N)(h:∀x∈jJ,x<N)(t:Nat):jJ.getD t 0<N:=by
 rw[Ĳ];cases e:jJ[t]? with
 |none=>exact a
 |some x=>exact h x<|Ġ e
def f_(l:List Nat):rv (uf l):=Li Z λx a=>by unfold uf at a;obtain⟨t,_,rfl⟩:=ņ.1 a;exact al8 l t
def ry:Nat->List Nat->Nat
 |0,l=>l.getD 0 0
 |k+1,l=>ry k<|uf l
def Sv(l:List Nat)(i x:Nat):kn (l.set i x)=(kn l).set i (Â Æ x):=by simp[kn,List.map_set]
theorem Hr(l:List Nat)(i x:Nat)(h:l[i]?=Ã x):(kn l)[i]?=Ã (Â Æ x):=by simp[kn,h]
section
variable{cp:Nat}{l:List Nat}{junk:List È}
def II(b n cp i:Nat)(T:õ)(l:List Nat)(junk:List È)(d:É)(a:é)(w:É):Prop:=
 ∃c:Nat,BH b n cp i c a/\c<=i/\fc (λk=>k=b) d w/\fi b (kn (jH l c)++junk) T w
def IE(b n cp i:Nat)(T:õ)(l:List Nat)(junk:List È)(c:É)(a:é)(w:É):Prop:=
 BH b n cp i i a/\fc (λk=>k=b) c w/\fi b (kn (jH l i)++junk) T w
def Lj(i:Nat)(a:é)(_:É):Nat:=match a.tmps.getD 12 ā with
 |Â _ b=>i-b.toNat
 |_=>0
def g_(c:BH b n cp i j y):Lj i y w=i-j:=by obtain⟨u,rfl⟩:=c;show i-(j:Int).toNat=_;simp
def al9(g:rv l)(r:l.length=n)(s:2*i=n)(m:n<=16)(a:é)(w:É)(o:II b n cp i T l junk u a w): Î À Hp (Exit.then (λc d=>II b n cp i T l junk u c d/\Lj i c d<Lj i a w)<|Q2<|IE b n cp i T l junk u) a w:=by
 let⟨c,h,v,j,e⟩:=o;rw[g_ h];obtain⟨d,rfl⟩:=h;by_cases p:c=i
 .subst p;exact al3 d λa q=>⟨q,j,e⟩
 .have f:=λt x y=>
   e.r t _<|by rw[ç (by simp[kn,Hq];omega)];exact Hr _ _ _<|by rw[Lh l c t Z,if_neg Z]
  refine al4 c (l.getD (2*c) 0) (l.getD (2*c+1) 0) (pr l c) (d_ l c) Z Z m (g _) (g _) d (f _ Z Z) (f _ Z Z) ⟨_,f c Z Z⟩ (e.C c) λa q=>⟨⟨c+1,q,Z,(j.fh<|fc.I (X:=λk=>k=b) U _).fh<|fc.fR _ _,?_⟩,by rw[g_ q];omega⟩;rw[<-al6 l c Z,Sv,<-Ğ _ _ (by simp[kn,Hq];omega)];exact((e.gf c<|Â Æ<|pr l c).I (fc.fR fg _) id)
def ama(c:rv l)(d:l.length=n)(e:2*i=n)(f:n<=16)(g:fi b (kn l++junk) T w)(h:BH b n cp i (0:Nat) y): Î À (à Hp) (Q2<|IE b n cp i T l junk w) y w:= Ĉ (II b n cp i T l junk w) (Lj i) ⟨0,h,â _,fc.fT _ _,by rwa[al5]⟩<|al9 c d e f
end
def D3(b a c:Nat)(u:Nat->È):é:=⟨#[Ê (Ã ⟨b,0,Ä⟩) a c,u 1,u 2,u 3,u 4,u 5,u 6,u 7,u 8,u 9,u 10,u 11,u 12,u 13,u 14,u 15,u 16,u 17,u 18,u 19,u 20,u 21,u 22,u 23,u 24,u 25,u 26,u 27,u 28,u 29,u 30,u 31,u 32,u 33,u 34,u 35,u 36,u 37],[]⟩
def D4(b c d:Nat)(a:é):Prop:=∃u,a=D3 b c d u
section
variable{cp:Nat}{l:List Nat}{junk:List È}
def amb(c:n=1)(u:Nat->È)(d:∀a,D4 b n cp a->H a w): Î À Ho (Exit.then K<|QQ H) (D3 b n cp u) w:=by
 unfold D3;conv=>arg 2;whnf
 subst c;go_wp2_with fail;exact d _ (gl _)
def amc(u:Nat->È)(g:rv l)(h:l.length=n)(j:2*i=n)(s:0<i)(m:n<=16)(t:n<=cp)(d:fi b (kn l++junk) T w) (o:∀a e,D4 b i cp a->fc (λk=>k=b) w e->fi b (kn (jH l i)++junk) T e->K a e): Î À Ho (Exit.then K<|QQ H) (D3 b n cp u) w:=by
 have L:∀a,BH b n cp i (0:Nat) a->Î À (à Hp) (Q2<|IE b n cp i T l junk w) a w:=λa p=>ama g h j m d p;unfold D3;conv=>arg 2;whnf
 have x:(n:Int).tdiv 2=(i:Int):=by rw[Int.tdiv_eq_ediv_of_nonneg Z];omega
 have y:(0:Int)<=(i:Int):=Z
 have z:(i:Int)<=(cp:Int):=Z
 have c:=ff<|Á L o;go_wp2_with fail;refine Ý ?_ (c.out.1 _ (gl _));rintro(_|(_|_|_|_)|_|_|_|_) a v hq;all_goals first|exact absurd hq id|skip
 let⟨q,r,d⟩:=hq;obtain⟨u,rfl⟩:=q;unfold va;have f:=ff<|Á r d;go_wp2_with fail;exact c.out.2 _ _ (gl _) f.out.1 f.out.2
def OI(b cp:Nat)(T:õ)(c:É)(d:Nat)(a:é)(w:É):Prop:=
 ∃(k:Nat) (l:List Nat) (junk:List È),D4 b l.length cp a/\l.length=2^k/\l.length<=16/\l.length<=cp/\rv l/\fc (λk=>k=b) c w/\fi b (kn l++junk) T w/\ry k l=d
def OE(b cp:Nat)(c:É)(d:Nat)(a:é)(w:É):Prop:=D4 b 1 cp a/\1<=cp/\fc (λk=>k=b) c w/\w.cell? ⟨b,0,Ä⟩=Ã (Â Æ d)
def xk(a:é)(_:É):Nat:=match a.tmps.getD 0 ā with
 |Ê _ n _=>n
 |_=>0
def Hs(c:D4 b n cp y):xk y w=n:=by obtain⟨u,rfl⟩:=c;rfl
def amd(a:é)(w:É)(r:OI b cp T u i a w): Î À Ho (Exit.then (λc d=>OI b cp T u i c d/\xk c d<xk a w)<|QQ<|OE b cp u i) a w:=by
 let⟨k,l,junk,g,h,s,t,v,j,m,n⟩:=r;rw[Hs g];obtain⟨c,rfl⟩:=g;cases k with
 |zero=>
  have e:=h;have f:w.cell? ⟨b,0,Ä⟩=Ã (Â Æ<|l.getD 0 0):=m.r 0 _ (by rw[ç (by simp[kn];omega)];exact Hr _ _ _<|by rw[Ĳ,Ô Z];rfl);have o:l.getD 0 0=i:=n;rw[o]at f;refine amb e c λa q=>⟨by rwa[e]at q,Z,j,f⟩
 |succ k=>
  have x:2*2^k=l.length:=by rw[h,Nat.pow_succ];omega
  have y:0<2^k:=Nat.pow_pos Z;have f:l.length/2=2^k:=Z
  have o:(uf l).length=2^k:=by simp[uf,f]
  refine amc c v U x y s t m λa d q z p=>⟨⟨k,uf l,kn (l.drop<|l.length/2)++junk,by rwa[o],o,Z,Z,f_ l,j.fh z,?_,n⟩,by rw[Hs q];omega⟩;have e:=al7 l;rw[f]at e;rw[e]at p;rw[f,<-Ċ];simpa[kn]using p
end
def h_{cp:Nat}{l:List Nat}{junk:List È}(c:l.length=2^k)(d:l.length<=16)(f:l.length<=cp)(g:rv l)(h:fi b (kn l++junk) T w): Ò À 162 #[Ê (Ã ⟨b,0,Ä⟩) l.length cp] w λe a=>e=Ç (Â Æ<|ry k l)/\fc (λi=>i=b) w a:=by
 have L:∀a,D4 b l.length cp a->Î À (à Ho) (QQ<|OE b cp w<|ry k l) a w:=λa e=>
  Ĉ (OI b cp T w<|ry k l) xk ⟨k,l,junk,e,c,d,f,g,fc.fT _ _,h,U⟩ amd
 generalize ry k l=r at*;generalize l.length=n at*;go_enter Tryz.func162,Tryz.ntmps162;go_wp2_with fail;refine Ý ?_ ((ff L).out _ (gl _));rintro(_|(_|_)|_|_|_|_) a v hq;all_goals first|exact absurd hq id|skip
 let⟨i,j,m,o⟩:=hq;obtain⟨u,rfl⟩:=i;unfold D3;go_wp2_with fail;go_ret;simp_all
def ame:À.underlying 118=Ã (.array 16 36):=fu
def amf(w:É)(c:i<16)(e:d[i]?=Ã (Â Æ h)):(Κ 118 (Ē d)<|Â Ë (i:Int)).run À w=φ (Â Æ h) w:=by
 have a:(0:Int)<=(i:Int):=Z
 have b:(i:Int)<16:=Z
 simp[Κ,ř ame,asIntOf,go_sem,a,b];go_simp
noncomputable def Ht:ŏ:=(aY.body.bind km).getD Ķ
def D5(c o b:Nat)(a:Array È)(i:Int)(u:Nat->È):é:=⟨#[Å<|Ã ⟨c,o,Ä⟩,u 1,u 2,Å<|Ã ⟨b,0,Ä⟩,u 4,u 5,u 6,u 7,u 8,u 9,u 10,Ē a,Â Ë i,u 13,u 14,u 15,u 16,u 17,u 18,u 19,u 20,u 21,u 22,u 23,u 24,u 25,u 26,u 27,u 28,u 29,u 30,u 31,u 32,u 33,u 34,u 35,u 36,u 37,u 38,u 39,u 40,u 41,u 42,u 43,u 44,u 45,u 46,u 47],[]⟩
def BJ(d o b:Nat)(c:Array È)(i:Int)(a:é):Prop:=∃u,a=D5 d o b c i u
section
variable{X:é->É->Prop}
def amg(u:Nat->È)(c:∀a,BJ n i b d 16 a->X a w): Î À Ht (Exit.then K<|QQ X) (D5 n i b d 16 u) w:=by
 unfold D5;conv=>arg 2;whnf
 go_wp2_with fail
 exact c _ (gl _)
def amh(c p z:Nat)(j:nZ 14695981039346656037 p=z)(k:c<16)(l:p<18446744073709551616)(f:d[c]?=Ã (Â Æ p))(g:∃v,w.cell? ⟨b,c,Ä⟩=Ã v)(o:w.frozen? ⟨b,c,Ä⟩=Ï)(u:Nat->È) (h:∀a,BJ n i b d ((c+1:Nat):Int) a->K a (w.setCell ⟨b,c,Ä⟩<|Â Æ z)): Î À Ht (Exit.then K<|QQ X) (D5 n i b d c u) w:=by
 unfold D5;conv=>arg 2;whnf
 let⟨q,g⟩:=g;have r:=λW=>amf W k f;have m:=ff h;clear h f;go_wp2_with (go_at_call 177;refine(Hm 14695981039346656037 p Z l _).mono ?_;rintro e s ⟨rfl,rfl⟩;rw[j]);exact m.out _ (gl _)
def lf(x:Nat):Nat:=nZ 14695981039346656037 x
theorem Ll(x:Nat):lf x<18446744073709551616:=D2 _ _ Z
def h'(x:Nat):nZ 14695981039346656037 x=lf x:=by unfold lf;exact Eq.refl _
def n5(l:List Nat)(i:Nat):List Nat:=(ċ 16).map λt=>if t<i then lf (l.getD t 0)else 0
theorem Hu(l:List Nat)(i:Nat):(n5 l i).length=16:=by simp[n5]
theorem i_(l:List Nat)(i t:Nat)(h:t<16):(n5 l i)[t]?=Ã (if t<i then lf (l.getD t 0)else 0):=by simp[n5,û h]
theorem ami(l:List Nat)(i:Nat)(h:i<16):(n5 l i).set i (lf<|l.getD i 0)=n5 l (i+1):=by refine þ λt=> ?_;grind [i_,Hu,ĕ]
def j_(l:List Nat):rv (n5 l 16):=Li Z λx a=>by
 unfold n5 at a;obtain⟨t,_,rfl⟩:=ņ.1 a;split
 .exact Ll _
 .omega
def AI(n i b:Nat)(l:List Nat)(d:É)(a:é)(w:É):Prop:=
 ∃c:Nat,BJ n i b (kn l).toArray c a/\c<=16/\fc (λk=>k=b) d w/\fi b (kn<|n5 l c) 118 w
def AE(n i b:Nat)(l:List Nat)(c:É)(a:é)(w:É):Prop:=
 BJ n i b (kn l).toArray 16 a/\fc (λk=>k=b) c w/\fi b (kn<|n5 l 16) 118 w
def Lm(a:é)(_:É):Nat:=match a.tmps.getD 12 ā with
 |Â _ i=>16-i.toNat
 |_=>0
def k_(c:BJ n i b d j y):Lm y w=16-j:=by obtain⟨u,rfl⟩:=c;show 16-(j:Int).toNat=_;simp
theorem amj(h:rv jJ)(p:jJ.length=16)(a:é)(w:É)(j:AI n i b jJ u a w): Î À Ht (Exit.then (λc d=>AI n i b jJ u c d/\Lm c d<Lm a w)<|QQ<|AE n i b jJ u) a w:=by
 let⟨c,f,r,g,e⟩:=j;rw[k_ f];obtain⟨d,rfl⟩:=f;by_cases m:c=16
 .subst m;exact amg d λa q=>⟨q,g,e⟩
 .have o:(kn jJ).toArray[c]?=Ã (Â Æ<|jJ.getD c 0):=by
   grind [Hr]
  refine amh c (jJ.getD c 0) (lf<|jJ.getD c 0) (h' _) Z (h _) o ⟨_,(e.r c _<|Hr _ _ _<|by rw[i_ jJ c c Z,if_neg Z])⟩ (e.C c) d λa q=>⟨⟨c+1,q,Z,g.fh (fc.I (X:=λk=>k=b) U _),?_⟩,by rw[k_ q];omega⟩;rw[<-ami jJ c Z,Sv];exact e.gf c<|Â Æ<|lf<|jJ.getD c 0
def amk{l:List Nat}(c:rv l)(d:l.length=16)(e:fi b (kn<|n5 l 0) 118 w)(f:BJ n i b (kn l).toArray (0:Nat) y): Î À (à Ht) (QQ<|AE n i b l w) y w:= Ĉ (AI n i b l w) Lm ⟨0,f,â _,fc.fT _ _,e⟩<|amj c d
end
def BK:ŏ->List ŏ
 |à c=>[c]
 |.seq a b=>BK a++BK b
 |.block _ c=>BK c
 |.scope c=>BK c
 |.cond _ a b=>BK a++BK b
 |_=>[]
noncomputable def Hv:ŏ:=((aY.body.map BK).getD []).getD 1 Ķ
def D6(a o:Nat)(P:ByteArray)(n:Nat)(i:Int)(u:Nat->È):é:=⟨#[Å<|Ã ⟨a,o,Ä⟩,u 1,u 2,u 3,u 4,u 5,Â Æ n,u 7,u 8,u 9,u 10,u 11,u 12,u 13,u 14,u 15,u 16,u 17,u 18,u 19,u 20,u 21,u 22,u 23,u 24,u 25,u 26,u 27,u 28,u 29,u 30,u 31,u 32,u 33,Â Ë P.size,Â Ë i,u 36,u 37,u 38,u 39,u 40,u 41,u 42,u 43,u 44,u 45,u 46,u 47],[]⟩
def BL(b o:Nat)(P:ByteArray)(n:Nat)(i:Int)(a:é):Prop:=∃u,a=D6 b o P n i u
def za(n:Nat)(l:List UInt8):Nat:=l.foldl (λn c=>tb n c.toNat) n
def aml(b:Nat)(c:Int)(d:c=B.size)(u:Nat->È)(e:∀a,BL n i B b c a->H a w): Î À Hv (Exit.then K<|Q2 H) (D6 n i B b c u) w:=by
 unfold D6;conv=>arg 2;whnf
 subst d;go_wp2_with fail;exact e _ (gl _)
def amm{B:ByteArray}{c:UInt8}(w:É)(a:B.data.toList[i]?=Ã c):(Κ 9 (Í B)<|Â Ë (i:Int)).run À w=φ (Â aT (c.toNat:Nat)) w:=by
 have e:(0:Int)<=(i:Int):=Z
 let⟨b,d⟩:=Ü.1 a;have f:i<B.size:=by simpa using b
 have g:B[i]=c:=by rw[<-d];exact(Array.getElem_toList _).symm
 go_simp
def amn(b d z:Nat)(c:UInt8)(g:tb b c.toNat=z)(l:d<B.size)(m:B.size<=1000000)(k:b<18446744073709551616)(h:B.data.toList[d]?=Ã c)(o:w.cell? ⟨n,i+1,Ä⟩=Ã (Í B))(u:Nat->È) (j:∀a,BL n i B z ((d+1:Nat):Int) a->K a w): Î À Hv (Exit.then K<|Q2 H) (D6 n i B b d u) w:=by
 unfold D6;conv=>arg 2;whnf
 have p:(0:Int)<=(d:Int):=Z
 have q:(d:Int)<(B.size:Int):=Z
 have r:(B.size:Int)<=1000000:=Z
 have s:=λW=>amm W h;have t:=c.toNat_lt;have T:=a_ b c.toNat k Z w;rw[g]at T;generalize c.toNat=cn at*;have f:=ff<|Á T j;clear j T h g;go_wp2_with (go_at_call 178;apply f.out.1.mono;rintro e v ⟨rfl,rfl⟩);exact f.out.2 _ (gl _)
def BI(n i:Nat)(B:ByteArray)(d:É)(e:Nat)(a:é)(w:É):Prop:=
 ∃b c:Nat,BL n i B b c a/\c<=B.size/\b<18446744073709551616/\w=d/\za b (B.data.toList.drop c)=e
def BE(n i:Nat)(B:ByteArray)(b:É)(c:Nat)(a:é)(w:É):Prop:=BL n i B c B.size a/\w=b
def Ln(m:Nat)(a:é)(_:É):Nat:=match a.tmps.getD 35 ā with
 |Â _ i=>m-i.toNat
 |_=>0
def m_(c:BL n i B j b y):Ln m y w=m-b:=by obtain⟨u,rfl⟩:=c;show m-(b:Int).toNat=_;simp
def amo(h:B.size<=1000000)(k:u.cell? ⟨n,i+1,Ä⟩=Ã (Í B))(a:é)(w:É)(l:BI n i B u j a w): Î À Hv (Exit.then (λb c=>BI n i B u j b c/\Ln B.size b c<Ln B.size a w)<|Q2<|BE n i B u j) a w:=by
 obtain⟨b,c,f,p,m,rfl,e⟩:=l;rw[m_ f];obtain⟨d,rfl⟩:=f;have r:B.data.toList.length=B.size:=fp
 by_cases o:c=B.size
 .rw[Ę Z]at e;subst e;exact aml b c Z d λa q=>⟨by rwa[o]at q,U⟩
 .have g:c<B.data.toList.length:=Z
  rw[ē g]at e;refine amn b c (tb b (B.data.toList[c]).toNat) (B.data.toList[c]) (Eq.refl _) Z h m (Ô g) k d λa q=>⟨⟨_,c+1,q,Z,Le _ _,U,e⟩,by rw[m_ q];omega⟩
def amq(b:B.size<=1000000)(c:j<18446744073709551616)(d:w.cell? ⟨n,i+1,Ä⟩=Ã (Í B))(e:BL n i B j (0:Nat) y): Î À (à Hv) (Q2<|BE n i B w<|za j B.data.toList) y w:= Ĉ (BI n i B w<|za j B.data.toList) (Ln B.size) ⟨j,0,e,â _,c,U,U⟩<|amo b d
abbrev zA:List È:=[Â Æ 0,Â Æ 0,Â Æ 0,Â Æ 0,Â Æ 0,Â Æ 0,Â Æ 0,Â Æ 0,Â Æ 0,Â Æ 0,Â Æ 0,Â Æ 0,Â Æ 0,Â Æ 0,Â Æ 0,Â Æ 0]
def BM(B:Nat)(P:ByteArray)(a:List Nat):Nat:=za (nZ (lf B)<|ry 4<|n5 a 16) P.data.toList
def Sw:∀(k:Nat) (l:List Nat),rv l->ry k l<18446744073709551616
 |0,_,h=>h 0
 |k+1,l,_=>Sw k (uf l)<|f_ l
def amr(l:List Nat):kn (n5 l 0)=zA:=by rfl
def ams{P:ByteArray}(d f g p r s x y z C D E F G I J:Nat)(Y:(kn jJ).toArray=#[Â Æ d,Â Æ f,Â Æ g,Â Æ p,Â Æ r,Â Æ s,Â Æ x,Â Æ y,Â Æ z,Â Æ C,Â Æ D,Â Æ E,Â Æ F,Â Æ G,Â Æ I,Â Æ J])(hl:jJ.length=16)(hB:m<18446744073709551616)(hP:P.size<=1000000)(hs:rv jJ) (K:w.cell? ⟨n,j,Ä⟩=Ã (Â Æ m)) (c1:w.cell? ⟨n,j+1,Ä⟩=Ã (Í P)) (r0:w.cell? ⟨n,j+2,Ä⟩=Ã (Â Æ d)) (r1:w.cell? ⟨n,j+2+1,Ä⟩=Ã (Â Æ f)) (r2:w.cell? ⟨n,j+2+2,Ä⟩=Ã (Â Æ g)) (r3:w.cell? ⟨n,j+2+3,Ä⟩=Ã (Â Æ p)) (r4:w.cell? ⟨n,j+2+4,Ä⟩=Ã (Â Æ r)) (r5:w.cell? ⟨n,j+2+5,Ä⟩=Ã (Â Æ s)) (r6:w.cell? ⟨n,j+2+6,Ä⟩=Ã (Â Æ x)) (r7:w.cell? ⟨n,j+2+7,Ä⟩=Ã (Â Æ y)) (r8:w.cell? ⟨n,j+2+8,Ä⟩=Ã (Â Æ z)) (r9:w.cell? ⟨n,j+2+9,Ä⟩=Ã (Â Æ C)) (r10:w.cell? ⟨n,j+2+10,Ä⟩=Ã (Â Æ D)) (r11:w.cell? ⟨n,j+2+11,Ä⟩=Ã (Â Æ E)) (r12:w.cell? ⟨n,j+2+12,Ä⟩=Ã (Â Æ F)) (r13:w.cell? ⟨n,j+2+13,Ä⟩=Ã (Â Æ G)) (r14:w.cell? ⟨n,j+2+14,Ä⟩=Ã (Â Æ I)) (r15:w.cell? ⟨n,j+2+15,Ä⟩=Ã (Â Æ J)): Ò À 161 #[Å<|Ã ⟨n,j,Ä⟩] w λe c=>e=Ç (Â Æ<|BM m P jJ)/\fc fg w c:=by
 have gN:=á w _ K;have L1:∀a,BJ n j w.heap.size #[Â Æ d,Â Æ f,Â Æ g,Â Æ p,Â Æ r,Â Æ s,Â Æ x,Â Æ y,Â Æ z,Â Æ C,Â Æ D,Â Æ E,Â Æ F,Â Æ G,Â Æ I,Â Æ J] (0:Nat) a->Î À (à Ht) (QQ<|AE n j w.heap.size jJ<|w.alloc<|Ð zA.toArray 118) a (w.alloc<|Ð zA.toArray 118):=λa L=>
  amk hs hl (by rw[amr];exact fi.N w zA 118)<|by rwa[Y]
 have M:∀W,fi w.heap.size (kn<|n5 jJ 16) 118 W->Ò À 162 #[Ê (Ã ⟨w.heap.size,0,Ä⟩) 16 16] W λe c=>e=Ç (Â Æ<|ry 4<|n5 jJ 16)/\fc (λi=>i=w.heap.size) W c:=λW hW=>by have t:=h_ (w:=W) (b:=w.heap.size) (cp:=16) (k:=4) (T:=118) (l:=n5 jJ 16) (junk:=[]) (by rw[Hu]) (by rw[Hu];omega) (by rw[Hu];omega) (j_ jJ) (by rwa[ò]);rwa[Hu]at t
 have N:=Sw 4 (n5 jJ 16)<|j_ jJ;obtain⟨t,O⟩:∃t,ry 4 (n5 jJ 16)=t:=⟨_,U⟩;have n_:BM m P jJ=za (nZ (lf m) t) P.data.toList:=by unfold BM;rw[O]
 rw[n_];rw[O]at M N;have L2:∀W a,W.cell? ⟨n,j+1,Ä⟩=Ã (Í P)->BL n j P (nZ (lf m) t) (0:Nat) a->Î À (à Hv) (Q2<|BE n j P W<|za (nZ (lf m) t) P.data.toList) a W:=λW a h L=>
  amq hP (D2 _ _<|Ll m) h L
 have C1:∀W,Ò À 177 #[Â Æ 14695981039346656037,Â Æ m] W λe c=>e=Ç (Â Æ<|lf m)/\c=W:=λW=>by rw[<-h'];exact Hm 14695981039346656037 m Z hB W
 have C2:∀W,Ò À 177 #[Â Æ<|lf m,Â Æ t] W λe c=>e=Ç (Â Æ<|nZ (lf m) t)/\c=W:=λW=>Hm (lf m) t (Ll m) N W;have H:=ff<|Á K<|Á c1<|Á L1<|Á M<|Á L2<|Á C1 C2;clear L1 M L2 C1 C2 n_ O N hs K c1 Y;generalize za (nZ (lf m) t) P.data.toList=res at*;generalize nZ (lf m) t=n2 at*;generalize lf m=n1 at*;go_enter Tryz.func161,Tryz.ntmps161;go_wp2_with fail;refine Ý (Q:=QQ<|AE n j w.heap.size jJ<|w.alloc<|Ð zA.toArray 118) ?_ (H.out.2.2.1 _ (gl _));rintro(_|(_|_)|_|_|_|_) a v hq;all_goals first|exact absurd hq id|skip
 let⟨S,hk,o_⟩:=hq;have V:fc fg w v:=(fc.gI fg w zA.toArray 118).C hk λi hi q=>by omega
 have g0:=V.r H.out.1 id;obtain⟨u,rfl⟩:=S;unfold D5;have HV:=ff<|Á V o_;clear V o_ hk r0 r1 r2 r3 r4 r5 r6 r7 r8 r9 r10 r11 r12 r13 r14 r15;go_wp2_with (first
  |(go_at_call 162;refine(H.out.2.2.2.1 _ HV.out.2).mono ?_;rintro e w2 ⟨rfl,yp⟩;have X:=HV.out.1.C yp (λi hi q=>by omega);have g1:=X.r H.out.2.1 id;have HK:=ff X;clear yp X)
  |(go_at_call 177;with_reducible refine(H.out.2.2.2.2.2.2 _).mono ?_;rintro e X ⟨rfl,rfl⟩)
  |(go_at_call 177;refine(H.out.2.2.2.2.2.1 _).mono ?_;rintro e X ⟨rfl,rfl⟩))
 refine Ý (Q:=Q2<|BE n j P _ res) ?_ (H.out.2.2.2.2.1 _ _ g1 (gl _));rintro(_|(_|_|_|_)|_|_|_|_) a v2 hq;all_goals first|exact absurd hq id|skip
 obtain⟨S,rfl⟩:=hq;obtain⟨u,rfl⟩:=S;unfold D6;go_wp2_with fail;go_ret;exact⟨U,HK.out⟩
def amt{P:ByteArray}(c:j<18446744073709551616)(d:P.size<=1000000)(f:jJ.length=16)(g:rv jJ) (h:w.cell? ⟨i,n,Ä⟩=Ã (Â Æ j)) (k:w.cell? ⟨i,n+1,Ä⟩=Ã (Í P)) (b:∀(a x:Nat),jJ[a]?=Ã x->w.cell? ⟨i,n+2+a,Ä⟩=Ã (Â Æ x)): Ò À 161 #[Å<|Ã ⟨i,n,Ä⟩] w λe l=>e=Ç (Â Æ<|BM j P jJ)/\fc fg w l:=by
 match jJ,f with
 |[a0,a1,a2,a3,a4,a5,a6,a7,a8,a9,p_,q_,a12,q',r_,t_],_=>exact ams a0 a1 a2 a3 a4 a5 a6 a7 a8 a9 p_ q_ a12 q' r_ t_ fW fW c d g h k (b 0 a0 U) (b 1 a1 U) (b 2 a2 U) (b 3 a3 U) (b 4 a4 U) (b 5 a5 U) (b 6 a6 U) (b 7 a7 U) (b 8 a8 U) (b 9 a9 U) (b 10 p_ U) (b 11 q_ U) (b 12 a12 U) (b 13 q' U) (b 14 r_ U)<|b 15 t_ U
abbrev zB:List È:=[Â Æ 0,Â Æ 0,Â Æ 0,Â Æ 0,Â Æ 0,Â Æ 0,Â Æ 0,Â Æ 0]
noncomputable def Lp:ŏ:=(Tryz.f122.body.bind km).getD Ķ
def D7(a b:Nat)(i:Int)(u:Nat->È):é:=⟨#[Å<|Ã ⟨a,0,Ä⟩,u 1,u 2,Å<|Ã ⟨b,0,Ä⟩,u 4,Â Ë i,u 6,u 7,u 8,u 9,u 10,u 11,u 12,u 13,u 14,u 15,u 16,u 17],[]⟩
def D8(c b:Nat)(i:Int)(a:é):Prop:=∃u,a=D7 c b i u
section
variable{X:é->É->Prop}
def amu(u:Nat->È)(c:∀a,D8 i b 8 a->X a w): Î À Lp (Exit.then K<|QQ X) (D7 i b 8 u) w:=by
 unfold D7;conv=>arg 2;whnf
 go_wp2_with fail
 exact c _ (gl _)
def amv(c z:Nat)(o:c<8)(T:Ò À 161 #[Å<|Ã ⟨i,c*18,Ä⟩] w λe j=>e=Ç (Â Æ z)/\fc fg w j)(g:List È)(h:È)(k:g[c]?=Ã h)(l:fi b g 116 w)(u:Nat->È) (m:∀a f,D8 i b ((c+1:Nat):Int) a->fc fg w f->K a (f.setCell ⟨b,c,Ä⟩<|Â Æ z)): Î À Lp (Exit.then K<|QQ X) (D7 i b c u) w:=by
 unfold D7;conv=>arg 2;whnf
 have H:=ff<|Á T<|Á m l;go_wp2_with (go_at_call 161;apply H.out.1.mono;rintro e f ⟨rfl,d⟩;have p:=(H.out.2.2.I d id).r c h k;have q:=(H.out.2.2.I d id).C c;have n:=ff d;clear d);exact H.out.2.1 _ _ (gl _) n.out
def pT(D:Nat->Nat)(i:Nat):List Nat:=(ċ 8).map λt=>if t<i then D t else 0
theorem Hw(D:Nat->Nat)(i:Nat):(pT D i).length=8:=by simp[pT]
theorem u_(D:Nat->Nat)(i t:Nat)(h:t<8):(pT D i)[t]?=Ã (if t<i then D t else 0):=by simp[pT,û h]
theorem amw(D:Nat->Nat)(i:Nat)(h:i<8):(pT D i).set i (D i)=pT D (i+1):=by refine þ λt=> ?_;grind [u_,Hw,ĕ]
def w_(b:∀i,D i<18446744073709551616):rv (pT D 8):=Li Z λx a=>by
 unfold pT at a;obtain⟨t,_,rfl⟩:=ņ.1 a;split
 .exact b _
 .omega
def amx(D:Nat->Nat):kn (pT D 0)=zB:=by rfl
def DI(i b:Nat)(D:Nat->Nat)(d:É)(a:é)(w:É):Prop:=
 ∃c:Nat,D8 i b c a/\c<=8/\fc (λk=>k=b) d w/\fi b (kn<|pT D c) 116 w
def DE(i b:Nat)(D:Nat->Nat)(c:É)(a:é)(w:É):Prop:=
 D8 i b 8 a/\fc (λk=>k=b) c w/\fi b (kn<|pT D 8) 116 w
def Lq(a:é)(_:É):Nat:=match a.tmps.getD 5 ā with
 |Â _ i=>8-i.toNat
 |_=>0
def y_(c:D8 i b n y):Lq y w=8-n:=by obtain⟨u,rfl⟩:=c;show 8-(n:Int).toNat=_;simp
def amy(C:∀c,c<8->∀W,fc (λk=>k=b) u W->Ò À 161 #[Å<|Ã ⟨i,c*18,Ä⟩] W λe f=>e=Ç (Â Æ<|D c)/\fc fg W f)(a:é)(w:É)(m:DI i b D u a w): Î À Lp (Exit.then (λd f=>DI i b D u d f/\Lq d f<Lq a w)<|QQ<|DE i b D u) a w:=by
 let⟨c,j,o,g,h⟩:=m;rw[y_ j];obtain⟨d,rfl⟩:=j;by_cases n:c=8
 .subst n;exact amu d λa q=>⟨q,g,h⟩
 .refine amv c (D c) Z (C c Z w g) _ _ (Hr _ _ _<|by rw[u_ D c c Z,if_neg Z]) h d λa p q l=>⟨⟨c+1,q,Z,(g.fh<|l.S λ_ _=>ę).fh (fc.I (X:=λk=>k=b) U _),?_⟩,by rw[y_ q];omega⟩;rw[<-amw D c Z,Sv];exact(h.I l id).gf c<|Â Æ<|D c
end
def Lr(D:Nat->Nat):Nat:=ry 3<|pT D 8
def amz(h:∀b,D b<18446744073709551616)(C:∀b,b<8->∀W,fc (λk=>k=w.heap.size) (w.alloc<|Ð zB.toArray 116) W->Ò À 161 #[Å<|Ã ⟨i,b*18,Ä⟩] W λe c=>e=Ç (Â Æ<|D b)/\fc fg W c): Ò À 122 #[Å<|Ã ⟨i,0,Ä⟩] w λe c=>e=Ç (Â Æ<|Lr D)/\fc fg w c:=by
 have L:∀a,D8 i w.heap.size (0:Nat) a->Î À (à Lp) (QQ<|DE i w.heap.size D<|w.alloc<|Ð zB.toArray 116) a (w.alloc<|Ð zB.toArray 116):=λa j=>
  Ĉ (DI i w.heap.size D<|w.alloc<|Ð zB.toArray 116) Lq ⟨0,j,â _,fc.fT _ _,by rw[amx];exact fi.N w zB 116⟩<|amy C
 have T:∀W,fi w.heap.size (kn<|pT D 8) 116 W->Ò À 162 #[Ê (Ã ⟨w.heap.size,0,Ä⟩) 8 8] W λe c=>e=Ç (Â Æ<|ry 3<|pT D 8)/\fc (λb=>b=w.heap.size) W c:=λW l=>by have t:=h_ (cp:=8) (k:=3) (by rw[Hw]) (by rw[Hw];omega) (by rw[Hw];omega) (w_ h) (by rwa[ò]);rwa[Hw]at t
 unfold Lr;have H:=ff<|Á L T;generalize ry 3 (pT D 8)=t at*;go_enter Tryz.func122,Tryz.ntmps122;go_wp2_with fail;refine Ý (Q:=QQ<|DE i w.heap.size D<|w.alloc<|Ð zB.toArray 116) ?_ (H.out.1 _ (gl _));rintro(_|(_|_)|_|_|_|_) a v hq;all_goals first|exact absurd hq id|skip
 let⟨m,n,o⟩:=hq;have p:=(fc.gI fg w zB.toArray 116).C n λb r q=>by omega
 obtain⟨u,rfl⟩:=m;unfold D7;have d:=ff<|Á p o;go_wp2_with (go_at_call 162;refine(H.out.2 _ d.out.2).mono ?_;rintro e x ⟨rfl,f⟩;have g:=d.out.1.C f (λb r q=>by omega);have s:=ff g;clear f g);go_ret;exact⟨U,s.out⟩
def Hx(a:G6):List Nat:=(ċ 16).map λj=>(a.C j).toNat
def z_(a:G6):Nat:=BM a.fw.toNat a.r<|Hx a
def D9(s:St):Nat:=Lr λi=>z_<|s i
theorem amA(l:List UInt8):∀n,n<18446744073709551616->za n l<18446744073709551616:=by
 induction l with
 |nil=>exact λn h=>h
 |cons c r h=>exact λn _=>h _<|Le _ _
theorem A_(B:Nat)(P:ByteArray)(a:List Nat):BM B P a<18446744073709551616:=by unfold BM;grind [amA,D2,Ll]
def Sx(s:St)(h:i<144):(im s)[i]?=Ã (pN s i):=by simp[im,û h]
def mb.amB{s:St}(m:mb n s h W)(a:gJ s)(i:Nat)(f:i<8): Ò À 161 #[Å<|Ã ⟨n,i*18,Ä⟩] W λe b=>e=Ç (Â Æ<|z_<|s i)/\fc fg W b:=by
 have g:=λj d=>by have:=m.C j _<|Sx s d;simpa using this
 have b:=a.fw i;have k:=g (i*18) Z;have l:=g (i*18+1) Z;rw[<-qw s (Ê Ä 0 0) Z,G8 _ _ f]at k;rw[<-qw s (Ê Ä 0 0) Z,KX _ _ f]at l;refine amt (by have e:=b.1;have c:=b.2;omega) (by have:=(a.I i).1;omega) (by simp[Hx]) ?_ ?_ l ?_
 .refine Li Z λx e=> ?_;unfold Hx at e;obtain⟨t,_,rfl⟩:=ņ.1 e;have c:=(a.C i t).2;omega
 .rw[k];unfold pM;rw[Ĕ b.1]
 .intro j x e;have d:j<16:=by have:=(Ü.1 e).1;simpa[Hx]using this
  have c:=g (i*18+2+j) Z;rw[<-qw s (Ê Ä 0 0) Z,KY _ _ f d]at c;have t:((s i).C j).toNat=x:=by simpa[Hx,û d]using e
  rw[c,<-t];unfold pM;rw[Ĕ (a.C i j).1]
def amC{s:St}(b:mb i s h w)(c:gJ s): Ò À 122 #[Å<|Ã ⟨i,0,Ä⟩] w λe d=>e=Ç (Â Æ<|D9 s)/\fc fg w d:=amz (λa=>A_ _ _ _) λa f W k=>((b.r (fc.gI fg w _ _) id).r k<|by show i≠w.heap.size;exact Nat.ne_of_lt<|á w _ b.h).amB c a f
def jV(i:Nat):St:=λj=>⟨if j<i then 1000 else 0,⟨#[]⟩,λ_=>0⟩
theorem amD(i:Nat):jV (i+1)=(jV i).fw i 1000:=by funext j;unfold jV St.fw St.gf;grind
theorem amE(s:St)(a:i<8)(x:Int):(im s).set (i*18) (Â Æ x)=im (s.fw i x):=by have h:=Zj s (Ê Ä 0 0) a x;rw[yY,yY,Ğ _ _ (by rw[ru];omega)]at h;exact List.append_cancel_right h
def amF(s:St)(a:i<8):(im s)[i*18]?=Ã (Â Æ (s i).fw):=by rw[Sx s Z,<-qw s (Ê Ä 0 0) Z,G8 _ _ a];rfl
noncomputable def Ls:ŏ:=(Tryz.f60.body.bind km).getD Ķ
def Ea(r b:Nat)(i:Int)(u:Nat->È):é:=⟨#[Å<|Ã ⟨r,0,Ä⟩,Å<|Ã ⟨b,0,Ä⟩,u 2,Â Ë i,u 4,u 5,u 6,u 7,u 8,u 9,u 10],[]⟩
def Eb(r b:Nat)(i:Int)(a:é):Prop:=∃u,a=Ea r b i u
section
variable{X:é->É->Prop}
def amG(u:Nat->È)(c:∀a,Eb i b 8 a->X a w): Î À Ls (Exit.then K<|QQ X) (Ea i b 8 u) w:=by
 unfold Ea;conv=>arg 2;whnf
 go_wp2_with fail
 exact c _ (gl _)
def amH(c:Nat)(g:c<8)(e:È)(h:w.cell? ⟨b,c*18,Ä⟩=Ã e)(j:w.frozen? ⟨b,c*18,Ä⟩=Ï)(u:Nat->È) (d:∀a,Eb i b ((c+1:Nat):Int) a->K a (w.setCell ⟨b,c*18,Ä⟩<|Â Æ 1000)): Î À Ls (Exit.then K<|QQ X) (Ea i b c u) w:=by
 unfold Ea;conv=>arg 2;whnf
 have f:=ff d;clear d;go_wp2_with fail;exact f.out _ (gl _)
def Sy(i b:Nat)(d:É)(a:é)(w:É):Prop:=∃c:Nat,Eb i b c a/\c<=8/\fc (λk=>k=b) d w/\fi b (im<|jV c) 140 w
def A'(i b:Nat)(c:É)(a:é)(w:É):Prop:=Eb i b 8 a/\fc (λk=>k=b) c w/\fi b (im<|jV 8) 140 w
def Lt(a:é)(_:É):Nat:=match a.tmps.getD 3 ā with
 |Â _ i=>8-i.toNat
 |_=>0
def B_(c:Eb i b n y):Lt y w=8-n:=by obtain⟨u,rfl⟩:=c;show 8-(n:Int).toNat=_;simp
theorem amI(a:é)(w:É)(h:Sy i b u a w): Î À Ls (Exit.then (λc d=>Sy i b u c d/\Lt c d<Lt a w)<|QQ<|A' i b u) a w:=by
 let⟨c,f,l,g,e⟩:=h;rw[B_ f];obtain⟨d,rfl⟩:=f;by_cases j:c=8
 .subst j;exact amG d λa q=>⟨q,g,e⟩
 .refine amH c Z _ (e.r _ _<|amF _ Z) (e.C _) d λa q=>⟨⟨c+1,q,Z,g.fh (fc.I (X:=λk=>k=b) U _),?_⟩,by rw[B_ q];omega⟩;have k:=e.gf (c*18)<|Â Æ 1000;grind [amE,amD]
end
def amJ:(À.info? 140).map (λi=>(i.size,i.zero.map λz=>z.cells.toList))=Ã (144,Ã<|im<|jV 0):=fu
def amK(s:St):∀v∈im s,v.oneCell'=Ú:=λv a=>R9 s (lv:=Ê Ä 0 0) U v<|by rw[yY];exact œ _ a
def amL(w:É):Ò À 60 #[] w λe l=>e=Ç (Ē (im<|jV 8).toArray)/\fc fg w l:=by
 let⟨m,n,o⟩:=Ì.1 So;let⟨O,h,c⟩:=Ì.1 amJ;simp only[Prod.mk.injEq]at c;let⟨p,r⟩:=c;let⟨t,x,y⟩:=Ì.1 r;have z:t.cells=(im<|jV 0).toArray:=by rw[<-y]
 have B:∀s,(À.info? 140).map (·.size)=Ã (im s).length:=λs=>by rw[h,ru];simp[p]
 have L:∀W a,fi (w.heap.size+1) (im<|jV 0) 140 W->Eb w.heap.size (w.heap.size+1) (0:Nat) a->Î À (à Ls) (QQ<|A' w.heap.size (w.heap.size+1) W) a W:=λW a f C=>
  Ĉ (Sy w.heap.size (w.heap.size+1) W) Lt ⟨0,C,â _,fc.fT _ _,f⟩ amI
 have j:=fc.gI fg (w.alloc<|Ð (im<|jV 0).toArray 140) (im<|jV 0).toArray 140;have D:=(fi.N w (im<|jV 0) 140).I j id;have E:fi (w.heap.size+1) (im<|jV 0) 140 ((w.alloc<|Ð (im<|jV 0).toArray 140).alloc<|Ð (im<|jV 0).toArray 140):=by have:=fi.N (w.alloc<|Ð (im<|jV 0).toArray 140) (im<|jV 0) 140;simpa using this
 have b:=ff<|Á n<|Á o<|Á h<|Á x<|Á z B;have H:=ff<|Á L<|Á ((fc.gI fg w (im<|jV 0).toArray 140).fh j)<|Á D E;go_enter Tryz.func60,Tryz.ntmps60;go_wp2_with (first
  |(with_reducible refine Ć U (Ã 0) U _ _ (R7 U b.out.2.2.1 b.out.2.2.2.1) ?_;rw[b.out.2.2.2.2.1])
  |(with_reducible refine Ć U (Ã 1) U _ _ (R7 U b.out.2.2.1 b.out.2.2.2.1) ?_;rw[b.out.2.2.2.2.1]))
 refine Ý ?_ (H.out.1 _ _ H.out.2.2.2 (gl _));rintro(_|(_|_)|_|_|_|_) a v c;all_goals first|exact absurd c id|skip
 let⟨F,k,f⟩:=c;have g:=H.out.2.2.1.I k Z;obtain⟨u,rfl⟩:=F;unfold Ea;have G:=fi.Y (by rw[ò];exact f);have I:v.there w.heap.size 0 (im<|jV 8).toArray.size:=g.R8 (by simp[ru]);have J:=K7 (im<|jV 8) [] [] v (im<|jV 0) (by rw[ru,ru]) (by simpa using g);have K:=(H.out.2.1.C k λi M q=>by omega).C (Hf (im<|jV 8) 0 v g.G) λi M q=>by omega
 have d:=ff<|Á K<|Á J<|Á G I;go_wp2_with (first
  |(with_reducible refine ĥ U 140 _ U (w.heap.size+1) 0 U (im<|jV 8) m d.out.2.2.1 b.out.1 b.out.2.1 (b.out.2.2.2.2.2 _) ?_)
  |(with_reducible refine ľ U 140 _ _ U w.heap.size 0 (im (jV 8)).toArray U U d.out.2.2.2 (by rw[b.out.2.2.2.2.2 (jV 8)];simp) (Ī (amK _)) ?_))
 have N:fi w.heap.size (im (jV 8)++[]) 140 (v.setCells w.heap.size 0<|im<|jV 8):=by simpa using d.out.2.1
 refine ð (Sb U U (fi.Y N) b.out.1 b.out.2.1<|b.out.2.2.2.2.2 _) U<|⟨U,d.out.1⟩
structure fK where
 s:St
 r:List (Nat×Int)
 C:List (Int×Bool)
 h:Int
def zd(a:ă)(k:Nat)(d:List È)(w:É):Prop:=
 ∃p c,w.cell? a=Ã (Ê p k c)/\∀(j:Nat) (x:È),d[j]?=Ã x->∃b o,p=Ã ⟨b,o,Ä⟩/\w.cell? ⟨b,o+j,Ä⟩=Ã x
def zd.r(h:zd a k l w)(q:fc fg w u):zd a k l u:=by let⟨p,c,d,e⟩:=h;exact⟨p,c,q.r d id,λj x f=>by let⟨b,o,g,i⟩:=e j x f;exact⟨b,o,g,q.r i id⟩⟩
structure rz(b:Nat)(v:fK)(w:É):Prop where
 r:mb b v.s v.h w
 C:gJ v.s
 I:0<=v.h
 M:v.h<=40
 N:zd ⟨b,144,Ä⟩ v.r.length (j5 v.r) w
 S:zd ⟨b,146,Ä⟩ v.C.length (tZ v.C) w
def rz.Y{v:fK}(h:rz b v w)(q:fc fg w u):rz b v u:= ⟨h.r.r q id,h.C,h.I,h.M,h.N.r q,h.S.r q⟩
structure pU(bp:Option ă)(n:Nat)(vs:List (Nat×fK))(w:É):Prop where
 r:n=vs.length
 C:∀(j b:Nat) (v:fK),vs[j]?=Ã (b,v)->∃sb so,bp=Ã ⟨sb,so,Ä⟩/\w.cell? ⟨sb,so+j,Ä⟩=Ã (Å<|Ã ⟨b,0,Ä⟩)/\rz b v w
def pU.I{a:List (Nat×fK)}(h:pU O n a w)(q:fc fg w u):pU O n a u:= ⟨h.r,λj b v e=>by let⟨c,d,f,g,i⟩:=h.C j b v e;exact⟨c,d,f,q.r g id,i.Y q⟩⟩
def ze(a b:Nat×fK):Nat×fK:=if a.2.h<b.2.h then b else a
def ug(d:Nat×fK)(a:List (Nat×fK)):Nat×fK:=a.foldl ze d
noncomputable def Lu:ŏ:=(Tryz.f153.body.bind km).getD Ķ
def Ec(a:Option ă)(n b:Nat)(c:Nat)(i:Int)(u:Nat->È):é:=⟨#[Ê a n b,ā,Å Ä,Å<|Ã ⟨c,0,Ä⟩,u 4,u 5,u 6,u 7,u 8,Ê a n b,Â Ë n,Â Ë i,u 12,u 13,u 14,u 15,u 16,u 17,u 18,u 19,u 20,u 21,u 22,u 23,u 24,u 25,u 26],[]⟩
def Hz(b:Option ă)(n c:Nat)(d:Nat)(i:Int)(a:é):Prop:=∃u,a=Ec b n c d i u
section
variable{X:é->É->Prop}{bp:Option ă}{cp:Nat}
def amM(u:Nat->È)(b:Int)(c:b=n)(d:∀a,Hz bp n cp i b a->X a w): Î À Lu (Exit.then K<|QQ X) (Ec bp n cp i b u) w:=by
 unfold Ec;conv=>arg 2;whnf
 subst c;go_wp2_with fail;exact d _ (gl _)
def amN(u:Nat->È)(c:Int)(j:Nat)(o:c=j)(q:j<n)(r:n<=1000)(h k b:Nat)(p:bp=Ã ⟨h,k,Ä⟩)(s:w.cell? ⟨h,k+j,Ä⟩=Ã (Å<|Ã ⟨b,0,Ä⟩))(e f:Int)(t:w.cell? ⟨b,145,Ä⟩=Ã (Â Ë e))(v:w.cell? ⟨i,145,Ä⟩=Ã (Â Ë f)) (d:∀a m,Hz bp n cp (if f<e then b else i) (c+1) a->K a (w.drewN m)): Î À Lu (Exit.then K<|QQ X) (Ec bp n cp i c u) w:=by
 unfold Ec;conv=>arg 2;whnf
 subst o p;by_cases l:f<e
 .rw[if_pos l]at d;have g:=ff d;clear d;go_wp2_with fail;go_quiet (fail);go_wp2_with fail;exact g.out _ _ (gl _)
 .rw[if_neg l]at d;have g:=ff d;clear d;go_wp2_with fail;go_quiet (fail);go_wp2_with fail;exact g.out _ _ (gl _)
def HI(bp:Option ă)(n cp:Nat)(vs:List (Nat×fK))(b:É)(c:Nat×fK)(a:é)(w:É):Prop:=
 ∃(j:Nat) (d:Nat×fK),Hz bp n cp d.1 j a/\j<=n/\fc fg b w/\rz d.1 d.2 b/\ug d (vs.drop j)=c
def HE(bp:Option ă)(n cp:Nat)(b:É)(c:Nat×fK)(a:é)(w:É):Prop:=Hz bp n cp c.1 n a/\fc fg b w
def Sz(n:Nat)(a:é)(_:É):Nat:=match a.tmps.getD 11 ā with
 |Â _ i=>n-i.toNat
 |_=>0
theorem amO{f:List (Nat×fK)}{i:Nat×fK}(k:pU bp n f W)(t:n<=1000)(a:é)(w:É)(x:HI bp n cp f W i a w): Î À Lu (Exit.then (λl b=>HI bp n cp f W i l b/\Sz n l b<Sz n a w)<|QQ<|HE bp n cp W i) a w:=by
 let⟨j,d,y,H,c,z,g⟩:=x;obtain⟨u,rfl⟩:=y;by_cases o:j=n
 .rw[(Ę<|by rw[<-k.r];omega)]at g;subst g;refine amM u j (by rw[o]) λa b=>⟨?_,c⟩;rwa[o]at b
 .have r:j<n:=Z
  obtain⟨⟨b,v⟩,s⟩:∃p,f[j]?=Ã p:=⟨_,Ô<|by rwa[<-k.r]⟩;let⟨B,C,D,E,F⟩:=k.C j b v s;let⟨G,e⟩:=Ü.1 s;rw[ē G,e]at g;refine amN u j j U r t B C b D (c.r E id) v.h d.2.h (c.r F.r.h id) (c.r z.r.h id) λl m q=> ?_;have I:ze d (b,v)=(if d.2.h<v.h then b else d.1,if d.2.h<v.h then v else d.2):=by unfold ze;split<;>rfl
  refine⟨⟨j+1,ze d (b,v),?_,Z,c.fh<|fc.iO _ _ _,?_,g⟩,?_⟩
  .grind
  .grind
  .obtain⟨v,rfl⟩:=q;show n-((j:Int)+1).toNat<n-((j:Int)).toNat;omega
def amP{b:List (Nat×fK)}{d:Nat×fK}(c:pU bp n b w)(g:n<=1000)(f:b[0]?=Ã d): Ò À 153 #[Ê bp n cp] w λe a=>e=Ç (Å<|Ã ⟨(ug d b).1,0,Ä⟩)/\fc fg w a:=by
 let⟨l,m,e,h,i⟩:=c.C 0 d.1 d.2 f;have o:0<n:=by rw[c.r];exact(Ü.1 f).1
 have L:∀a,Hz bp n cp d.1 0 a->Î À (à Lu) (QQ<|HE bp n cp w<|ug d b) a w:=λa j=>
  Ĉ (HI bp n cp b w<|ug d b) (Sz n) ⟨0,d,j,â _,fc.fT _ _,i,U⟩<|amO c g
 subst e;generalize ug d b=r at*;simp only[Nat.add_zero]at h;go_enter Tryz.func153,Tryz.ntmps153;go_wp2_with fail;refine Ý ?_ ((ff L).out _ (gl _));rintro(_|(_|_)|_|_|_|_) a v hq;all_goals first|exact absurd hq id|skip
 let⟨k,p⟩:=hq;obtain⟨u,rfl⟩:=k;unfold Ec;go_wp2_with fail;go_ret;simp_all
end
def lM(a:List (Nat×fK))(b:Int):Option (Nat×fK):=
 if b=-1 then(a[0]?).map λd=>ug d a else a[b.toNat]?
def jN(b:Option Nat):È:=Å<|b.map λb=>⟨b,0,Ä⟩
section
variable{cp:Nat}{a:List (Nat×fK)}
def Lv(f:pU O n a w)(i:n<=1000)(j:0<n)(c:Int)(m:-1<=c): Ò À 113 #[Ê O n cp,Â Ë c] w λe b=>e=Ç (jN ((lM a c).map (·.1)))/\fc fg w b:=by
 by_cases h:c=-1
 .subst h;obtain⟨d,b⟩:∃d,a[0]?=Ã d:=⟨_,Ô<|by rwa[<-f.r]⟩;have e:lM a (-1)=Ã (ug d a):=by unfold lM;rw[if_pos U,b];rfl
  rw[e];go_enter Ż,Ŧ;go_wp2_with (go_at_call 153;refine(ff<|amP (cp:=cp) f i b).out.mono ?_;rintro e k ⟨rfl,g⟩);go_ret;exact⟨U,g⟩
 .obtain⟨k,rfl⟩:∃k:Nat,c=k:=⟨c.toNat,Z⟩;have e:lM a (k:Int)=a[k]?:=by unfold lM;rw[if_neg h,Ŷ]
  rw[e];by_cases g:k<n
  .obtain⟨⟨b,v⟩,d⟩:∃p,a[k]?=Ã p:=⟨_,Ô<|by rwa[<-f.r]⟩;let⟨o,q,l,r,s⟩:=f.C k b v d;rw[d];subst l;go_enter Ż,Ŧ;go_wp2_with fail;go_ret;exact⟨U,fc.fT _ _⟩
  .rw[(List.getElem?_eq_none<|by rw[<-f.r];omega)];go_enter Ż,Ŧ;go_wp2_with fail;go_ret;exact⟨U,fc.fT _ _⟩
end
theorem B'(a:List (Nat×fK)):∀(l:List (Nat×fK)) (d:Nat×fK),d∈a->(∀x∈l,x∈a)->ug d l∈a
 |[],d,hd,_=>hd
 |x::l,d,hd,hl=>by
  show ug (ze d x) l∈a;refine B' a l _ ?_ λy b=>hl y<|Ś _ b;unfold ze;split
  .exact hl x List.mem_cons_self
  .exact hd
theorem HA{a:List (Nat×fK)}{p:Nat×fK}(h:lM a c=Ã p):p∈a:=by unfold lM at h;grind [Ì,B',List.mem_of_getElem]
def pU.M{a:List (Nat×fK)}(h:pU O n a w){p:Nat×fK}(b:p∈a):rz p.1 p.2 w:=by let⟨j,c⟩:=List.getElem?_of_mem b;let⟨_,_,_,_,d⟩:=h.C j p.1 p.2 c;exact d
theorem C_(c:w.cell? ⟨b,i,Ä⟩=Ã v)(h:w.ownsRow 0 e j v n l):zd ⟨b,i,Ä⟩ n l w:=by
 rcases h.2 with⟨rfl,rfl⟩|⟨g,f,k,rfl,_,m,_,_,_,o⟩
 .have d:=ß (by simpa using h.1);subst d;exact⟨Ä,0,c,λa x q=>by simp at q⟩
 .refine⟨_,_,c,λa x q=>⟨g,0,U,?_⟩⟩;have:=h.cells U a x q;grind [Addr.add_mid]
def NX.amQ{s:St}{b:List (Nat×Int)}{c:List (Int×Bool)}(x:NX i h v z s b c u w)(d:gJ s)(e:0<=h)(f:h<=40):rz i ⟨s,b,c,h⟩ w:=by have a:fi i (jg s v++[Â Ë h,z]) 147 w:=x.r;refine⟨⟨?_,a.r 145 _<|by rw[ü (by rw[mA];omega),mA];rfl⟩,d,e,f,C_ x.r.Bx x.C,C_ x.G x.I⟩;rw[yY,Ċ]at a;exact a.Y
def amR:(À.info? 136).map (λi=>(i.zero,i.size,i.bytes))=Ã (Ã<|Å Ä,1,8):=fu
def amS{p:Array ş}{r:List ş}(C:o.guard=Ä)(s x:Ů)(t:õ) (D:o.op=aD {callee:=.builtin .append,args:=#[s,x],argTypes:=#[t,t]}) (E:P.underlying t=Ã (bl e)) (F:P.info? e=Ã zJ) (G:zJ.zero=Ã z) (B:zJ.size=1) (H:zJ.bytes=8) (g k n:Nat) (b:List È) (I:b.length=n) (J:∀j v,b[j]?=Ã v->w.cell? ((⟨g,k,Ä⟩:ă).add j)=Ã v) (L:y.eval s=Ê (Ã ⟨g,k,Ä⟩) n n) (l:Nat) (v:È) (M:y.eval x=Ê (Ã ⟨l,0,Ä⟩) 1 1) (N:∀j u,[v][j]?=Ã u->w.cell? ((⟨l,0,Ä⟩:ă).add j)=Ã u) (X:n<=1000) (O:lW e=Ï) (h:∀c f,n+1<=c->fc fg w f->(∃m:Array È,f.heap[w.heap.size]?=Ã (Ð m e (0,0))/\0<m.size/\∀u∈m.toList,u∈b\/u=v\/u∈z.cells.toList)->(∀j u,(b++[v])[j]?=Ã u->f.cell? ⟨w.heap.size,0+j,Ä⟩=Ã u)->aQ P p vJ r (y.put o.dst<|Ê (Ã ⟨w.heap.size,0,Ä⟩) (n+1) c) f):aQ P p vJ (o::r) y w:=by refine ű C λK S=> ?_;have T:=Λ w t o.type e zJ z E F G ⟨g,k,Ä⟩ n n b (by rw[I,B];omega) J ⟨l,0,Ä⟩ 1 1 [v] (by rw[B];rfl) N Z Z (ŕ Z<|by rw[H];omega);unfold Ń Ĥ;simp only[D,ae,aO,af,Ų,ų,Ĵ,ļ,Ť,Ŵ,L,M,T];refine S _ _ (h _ _ (Θ w (n+1) n e) ((fc.fR _ _).fh<|fc.gI _ _ _ _<|Ø O) ⟨_,ì w.drew _,by simp;omega,λu d=>by simp only[Š,ú]at d;rcases d with(q|q)|q;exact Ø q;exact Ù (Ø<|by simpa using q);exact Ù<|Ù<|RF q⟩ λj u d=> ?_);have V:(w.drew.alloc<|Ð (b.toArray++[v].toArray++ö z.cells (Œ w (n+1) n e-(n+1))) e).heap[w.heap.size]?=_:=ì w.drew _;simp only[Η,V,ũ,ĭ,if_false,ł];have W:=(Ü.1 d).1;rw[Array.getElem?_append_left (by simpa using W)];simpa using d
def sC(v:È)(T:õ)(w:É):Prop:=v=Ê Ä 0 0\/∃g n c a,v=Ê (Ã ⟨g,0,Ä⟩) n c/\w.heap[g]?=Ã (Ð a T (0,0))
def sC.I(h:w.ownsRow 0 T i v n l):sC v T w:=by
 rcases h.2 with⟨q,_⟩|⟨g,a,b,c,_,d,_⟩
 .exact Ø q
 .exact Ù ⟨g,_,a,b,c,d⟩
def sC.C(h:sC v T w)(k:fc fg w u):sC v T u:=by
 rcases h with q|⟨g,n,c,b,d,a⟩
 .exact Ø q
 .refine Ù ⟨g,n,c,b,d,?_⟩;rwa[k.N g (Array.getElem?_eq_some_iff.1 a).1 id]
def rA(a:List (Nat×fK)):List È:=a.map λp=>Å<|Ã ⟨p.1,0,Ä⟩
structure SA(vs:List (Nat×fK))(B:Nat)(w w':É)(g:Nat):Prop where
 C:w.heap.size<=g
 r:∃cur:Array È,w'.heap[g]?=Ã (Ð cur 136 (0,0))/\0<cur.size/\∀u∈cur.toList,u∈rA vs\/u=Å (Ã ⟨B,0,Ä⟩)\/u=Å Ä
structure SB(B:Nat)(s:St)(h:Int)(w w':É):Prop where
 C:w.heap.size<=B
 r:∃lv uv,fi B (jg s lv++[Â Ë h,uv]) 147 w'/\sC lv 257 w'/\sC uv 246 w'/\(∀j,lv.ownBlock=Ã j->w.heap.size<=j)/\∀j,uv.ownBlock=Ã j->w.heap.size<=j
section
variable{bp:Option ă}{cp:Nat}{vs:List (Nat×fK)}
def amT(a b:Nat)(d:n<=1000)(f:n<=cp):Ò À 155 #[Ê (Ã ⟨a,b,Ä⟩) n cp] w λe c=>e=Ç (Ê (Ã ⟨a,b,Ä⟩) n n)/\c=w:=by go_enter Tryz.func155,Tryz.ntmps155;go_wp2;go_ret;exact⟨U,U⟩
def amU(b:pU bp n vs w)(h:n<=1000)(l:0<n)(m:n<=cp)(B:Nat): Ò À 116 #[Ê bp n cp,Å<|Ã ⟨B,0,Ä⟩] w λe a=>∃g c,e=Ç (Ê (Ã ⟨g,0,Ä⟩) (n+1) c)/\n+1<=c/\fc fg w a/\SA vs B w a g/\∀j u,(rA vs++[Å<|Ã ⟨B,0,Ä⟩])[j]?=Ã u->a.cell? ⟨g,0+j,Ä⟩=Ã u:=by
 let⟨G,r,s,t,x⟩:=í amR;obtain⟨d,y⟩:∃d,vs[0]?=Ã d:=⟨_,Ô<|by rwa[<-b.r]⟩;let⟨g,f,i,_,_⟩:=b.C 0 d.1 d.2 y;have z:∀(o:Obj) (j:Nat) (v:È),(rA vs)[j]?=Ã v->(w.alloc o).cell? ((⟨g,f,Ä⟩:ă).add j)=Ã v:=λo j v q=>by unfold rA at q;rw[ķ]at q;obtain⟨p,C,rfl⟩:=Ì.1 q;let⟨D,E,H,k,_⟩:=b.C j p.1 p.2 C;rw[i]at H;cases H;rwa[Addr.add_mid,World.cell?_alloc_lt _ _ _<|á w _ k]
 have H:=ff (Á z<|Á r<|Á s<|Á t<|Á x<|show(rA vs).length=n by unfold rA;rw[Ο];exact b.r.symm);subst i;go_enter Tryz.func116,Tryz.ntmps116;go_wp2_with (first
  |(go_at_call 155;refine(amT g f h m).mono ?_;rintro e a ⟨rfl,k⟩;subst a)
  |(at_builtin;refine amS U _ _ 65 U Tryz.underlying65 H.out.2.1 H.out.2.2.1 H.out.2.2.2.1 H.out.2.2.2.2.1 g f n (rA vs) H.out.2.2.2.2.2 (H.out.1 _) U w.heap.size (Å (Ã ⟨B,0,Ä⟩)) U (ÿ _ _ _) h A ?_;intro c C a e k p))
 go_ret;refine⟨_,_,U,a,(fc.gI _ _ _ _).fh e,⟨fp,by let⟨c,C,D,E⟩:=k;exact⟨c,by simpa using C,D,λu F=>(E u F).elim Ø λq=>q.elim (λq=>Ù<|Ø q) λq=>Ù<|Ù<|by simpa[ğ]using q⟩⟩,λj u q=>by have:=p j u q;simpa using this⟩
end
structure BN(r:Nat)(v:Int)(x:Nat)(bp:Option ă)(n cp:Nat)(w:É):Prop where
 M:w.cell? ⟨r,0,Ä⟩=Ã (Â Ë x)
 N:w.cell? ⟨r,5,Ä⟩=Ã (Â Ë v)
 I:w.cell? ⟨r,8,Ä⟩=Ã (Ê bp n cp)
def BN.C{r:Nat}(h:BN r c i O n j w)(k:fc fg w u):BN r c i O n j u:=⟨k.r h.M id,k.r h.N id,k.r h.I id⟩
def uh(a:List (Nat×fK))(v:Int)(x:Nat)(b:List Tx):Option fK×ByteArray:=
 match lM a v with
 |none=>(Ä,oK 3)
 |some p=>if a.length=40 then(Ä,oK 4)else match xj x p.2.s b with
  |none=>(Ä,oK 5)
  |some r=>(Ã ⟨r.1,r.2.1,r.2.2,p.2.h+1⟩,pS a.length)
def Lw(c:È)(d:List (Nat×fK))(w:É):Prop:=∃a n b,c=Ê a n b/\n<=b/\pU a n d w
def SC(f:List (Nat×fK))(i:È)(w:É)(o:Option fK×ByteArray)(e:av)(a:É):Prop:=
 fc fg w a/\((o.1=Ä/\e=Ç (æ #[i,Í o.2]))\/∃v b d,o.1=Ã v/\e=Ç (æ #[d,Í o.2])/\Lw d (f++[(b,v)]) a/\SB b v.s v.h w a/\∃g n c,d=Ê (Ã ⟨g,0,Ä⟩) n c/\SA f b w a g)
def amV{c:List (Nat×fK)}{v:fK}(e:pU O n c w)(f:rz j v w)(h:∀a u,(rA c++[Å<|Ã ⟨j,0,Ä⟩])[a]?=Ã u->w.cell? ⟨i,0+a,Ä⟩=Ã u):pU (Ã ⟨i,0,Ä⟩) (n+1) (c++[(j,v)]) w:=by
 refine⟨by rw[e.r];simp,λa b u q=>⟨i,0,U,?_,?_⟩⟩
 .apply h a _;have:rA c++[Å<|Ã ⟨j,0,Ä⟩]=rA (c++[(j,v)]):=by simp[rA]
  rw[this];unfold rA;rw[ķ,q];rfl
 .rcases ů a c.length with d|d
  .rw[ç d]at q;let⟨_,_,_,_,k⟩:=e.C a b u q;exact k
  .rw[ü d]at q;have k:a-c.length=0:=by
    have:=(Ü.1 q).1;simp at this;omega
   rw[k]at q;cases q;exact f
def amW{e:av}(a:DX h W Ä e u)(k:fc fg w W):e=Ç (Å Ä)/\fc fg w u:=by
 rcases a with⟨_,b,c⟩|⟨_,_,_,_,_,_,q,_⟩
 .exact⟨b,k.fh c⟩
 .cases q
def amX{e:av}{s:St}{a:List (Nat×Int)}{b:List (Int×Bool)}(c:DX h W (Ã (s,a,b)) e u)(l:0<=h)(m:h<40)(k:fc fg w W):∃B,e=Ç (Å<|Ã ⟨B,0,Ä⟩)/\fc fg w u/\rz B ⟨s,a,b,h+1⟩ u/\SB B s (h+1) w u:=by
 rcases c with⟨q,_⟩|⟨n,o,p,B,d,f,q,g,x,i⟩
 .cases q
 .cases q;exact⟨B,g,k.fh x.M,x.amQ i Z Z,ë k.M x.N,d,f,x.r,sC.I x.C,sC.I x.I,λj q=>ë k.M<|x.S j q,λj q=>ë k.M<|x.Y j q⟩
section
variable{bp:Option ă}{cp r x:Nat}{v:Int}{vs:List (Nat×fK)}{f:List (Nat×Tx)}
def amY{p:Nat×fK}(F:Ò À 113 #[Ê bp n cp,Â Ë v] w λe a=>e=Ç (jN<|Ã p.1)/\fc fg w a)(f:BN r v x O b i w)(m:((n:Int)==40)=Ï)(N:∀W,fc fg w W->Ò À 115 #[Å<|Ã ⟨p.1,0,Ä⟩,Â Ë x,Ê O b i] W (DX p.2.h W Ä)): Ò À 66 #[Ê bp n cp,Å<|Ã ⟨r,0,Ä⟩] w (SC vs (Ê bp n cp) w (Ä,oK 5)):=by
 have o:=f.N;have H:=ff<|Á F<|Á N f;go_enter ś,Ň;go_wp2_with (go_at_call 113;refine H.out.1.mono ?_;rintro e d ⟨rfl,c⟩;dsimp only[jN,ū]);have g:=ff<|Á ((H.out.2.2.C c).C<|fc.fR fg _).M ((H.out.2.2.C c).C<|fc.fR fg _).I;go_region_held3 (λa=>a.cell? ⟨r,0,Ä⟩=Ã (Â Ë x)/\a.cell? ⟨r,8,Ä⟩=Ã (Ê O b i)) (first|exact g.out|exact j.out) (first
   |(go_at_call 115;refine(H.out.2.1 _ (c.fh kp)).mono ?_;rintro e k l;obtain⟨rfl,d⟩:e=Ç (Å Ä)/\fc fg w k:=amW l (c.fh kp);dsimp only;have j:=ff (Á (H.out.2.2.C d).M (H.out.2.2.C d).I)))
 go_wp2_with (first
  |(go_at_call 114;refine(DY 5 A _).mono ?_;rintro e a ⟨rfl,c⟩;subst a))
 go_ret2;exact⟨d,Ø ⟨U,U⟩⟩
def amZ{p:Nat×fK}{f:St}{g:List (Nat×Int)}{j:List (Int×Bool)}(k:pU bp n vs w)(Q:n<=40)(q:0<n)(s:n<=cp)(t:0<=p.2.h)(u:p.2.h<40)(F:Ò À 113 #[Ê bp n cp,Â Ë v] w λe a=>e=Ç (jN<|Ã p.1)/\fc fg w a)(l:BN r v x O b i w)(S:((n:Int)==40)=Ï)(N:∀W,fc fg w W->Ò À 115 #[Å<|Ã ⟨p.1,0,Ä⟩,Â Ë x,Ê O b i] W (DX p.2.h W<|Ã (f,g,j))): Ò À 66 #[Ê bp n cp,Å<|Ã ⟨r,0,Ä⟩] w (SC vs (Ê bp n cp) w (Ã ⟨f,g,j,p.2.h+1⟩,pS vs.length)):=by
 have T:=l.N;rw[<-k.r];have H:=ff<|Á F<|Á N<|Á l k;go_enter ś,Ň;go_wp2_with (go_at_call 113;refine H.out.1.mono ?_;rintro e o ⟨rfl,d⟩;dsimp only[jN,ū]);have y:=ff<|Á ((H.out.2.2.1.C d).C<|fc.fR fg _).M ((H.out.2.2.1.C d).C<|fc.fR fg _).I;go_region_held3 (λa=>a.cell? ⟨r,0,Ä⟩=Ã (Â Ë x)/\a.cell? ⟨r,8,Ä⟩=Ã (Ê O b i)) (first|exact y.out|exact o.out) (first
   |(go_at_call 115;refine(H.out.2.1 _ (d.fh kp)).mono ?_;rintro e D z;obtain⟨B,rfl,c,C,m⟩:=amX (w:=w) z t u (d.fh kp);dsimp only;have o:=ff (Á (H.out.2.2.1.C c).M (H.out.2.2.1.C c).I)))
 have W:=amU (H.out.2.2.2.I c) Z q s B;have z:=ff W;go_wp2_with (first
  |(go_at_call 116;refine z.out.mono ?_;rintro e G ⟨I,J,rfl,D,d,o,E⟩)
  |(go_at_call 117;refine(Z9 n Z _).mono ?_;rintro e a ⟨rfl,G⟩;subst a))
 go_ret2;refine⟨c.fh d,Ù ⟨_,B,_,U,U,⟨_,_,_,U,D,?_⟩,⟨m.C,by let⟨G,I,J,K,L,M,P⟩:=m.r;exact⟨G,I,J.I d id,K.C d,L.C d,M,P⟩⟩,_,_,_,U,ë c.M o.C,o.r⟩⟩;exact amV ((H.out.2.2.2.I c).I d) (C.Y d) E
def am0(a:pU bp n vs w)(C:n<=40)(j:0<n)(D:n<=cp)(t:∀p∈vs,p.2.h<40)(d:BN r v x O b i w)(u:BG O b f w)(E:b<=1000)(y:iK w)(G:x<8)(z:-1<=v): Ò À 66 #[Ê bp n cp,Å<|Ã ⟨r,0,Ä⟩] w (SC vs (Ê bp n cp) w<|uh vs v x<|lr f):=by
 have L:=d.N;unfold uh;cases g:lM vs v with
 |none=>
  have F:=Lv (cp:=cp) a Z j v z;rw[g]at F;have H:=ff F;go_enter ś,Ň;go_wp2_with (first
   |(go_at_call 113;refine H.out.mono ?_;rintro e I ⟨rfl,q⟩;dsimp only[jN,ū])
   |(go_at_call 114;refine(DY 3 A _).mono ?_;rintro e l ⟨rfl,J⟩;subst l))
  go_ret2;exact⟨q,Ø ⟨U,U⟩⟩
 |some p=>
  have m:=HA g;have c:=a.M m;have F:=Lv (cp:=cp) a Z j v z;rw[g]at F;have N:∀W,fc fg w W->Ò À 115 #[Å<|Ã ⟨p.1,0,Ä⟩,Â Ë x,Ê O b i] W (DX p.2.h W<|xj x p.2.s<|lr f):=λW k=>
   alS (c.r.r k id) c.I (by have:=c.M;omega) c.C (u.I k) (y.r k id) E G
  have K:=a.r;by_cases B:n=40
  .simp only;rw[if_pos Z];have H:=ff F;clear F N a d u y t c g m K;have o:((n:Int)==40)=Ú:=by rw[B];rfl
   clear B;go_enter ś,Ň;go_wp2_with (first
    |(go_at_call 113;refine H.out.mono ?_;rintro e I ⟨rfl,q⟩;dsimp only[jN,ū])
    |(go_at_call 114;refine(DY 4 A _).mono ?_;rintro e l ⟨rfl,J⟩;subst l))
   go_ret2;exact⟨q,Ø ⟨U,U⟩⟩
  .simp only;rw[if_neg Z];have o:((n:Int)==40)=Ï:=by rw[beq_eq_false_iff_ne];omega
   have l:=t p m;have H:=c.I;cases e:xj x p.2.s (lr f)with
   |none=>
    rw[e]at N;exact amY F d o N
   |some q=>
    let⟨I,J,M⟩:=q;rw[e]at N;exact amZ a C j D H l F d o N
end
theorem am1(h:l.length=145):À.built 147 [(0,Ē l.toArray)]=Ã (l++[Â Ë 0,Ê Ä 0 0]).toArray:=by let⟨z,d,a,b,c⟩:=Sl Z0 Z1 A;rw[Sk Z2 a,c];have:=Lc (place:=λi=>[(0,145),(145,1),(146,1)].toArray[i]?) (pre:=[]) (suf:=[Â Ë 0,Ê Ä 0 0]) (i:=0) (v:=Ē l.toArray) (rest:=[]) U (by show l.toArray.size=145;simp[h]) b;simpa[ı,ğ]using this
theorem am2(a:o.op=Χ 147 #[(0,qQ)])(b:xX qQ=Ē l.toArray)(c:l.length=145):(Ĥ xX o).run À w=φ (.value<|Ē (l++[Â Ë 0,Ê Ä 0 0]).toArray) w:=by grind [Sm,am1]
def mM:fK:=⟨jV 8,[],[],0⟩
def C':gJ (jV 8):=by refine⟨λi=> ?_,λi j=>⟨Ö _,show(0:Int)<18446744073709551616 by decide⟩,λi=>⟨show(0:Nat)<=40 by decide,λc a=>by cases a⟩⟩;show gd (if i<8 then 1000 else 0);split<;>exact⟨A,A⟩
theorem am3{s:St}(b:gJ s)(h:fi i (im s++[Ê Ä 0 0]++[Â Ë 0,Ê Ä 0 0]) 147 w):rz i ⟨s,[],[],0⟩ w:=by
 have c:=ru s;refine⟨⟨λj v d=> ?_,?_⟩,b,Ö _,show(0:Int)<=40 by decide,?_,?_⟩
 .rw[ł];apply h.r j v;grind
 .apply h.r 145 _;simp_all
 .refine⟨Ä,0,h.r 144 _ ?_,λj x a=>by cases a⟩;grind
 .refine⟨Ä,0,h.r 146 _ ?_,λj x a=>by cases a⟩;simp_all
def xl(ls:List (Nat×Int)):Prop:=∀e∈ls,e.1<8/\gd e.2
def SF(J:St->List (Nat×Int)->Prop)(F:lY):Prop:=∀s a x y g k,gJ s->x<8->y<8->gd k->0<=g->g<=100000->(a.length:Int)+g<=1000000->J s a->J (F s a x y g k).s (F s a x y g k).I
structure D_(J:St->List (Nat×Int)->Prop):Prop where
 st:∀{s ls} (y j:Nat) (v:Int),J s ls->J (s.r y j v) ls
 mv:∀{s ls y} (q:Int) {p:Int},gJ s->y<8->gd p->J s ls->J (qx s y q p).2 ls
 lg:∀{s ls y p},y<8->gd p->J s ls->J s (ls++[(y,p)])
section
variable{c:RC}{F:lY}{J:St->List (Nat×Int)->Prop}
theorem am4(b:D_ J)(i:SF J F)(d:c.y<8)(k:Nat)(t:RT)(o:k<=20)(a:nO t)(h:J t.s t.C):J (nX F c k t).s (nX F c k t).C:=by
 have f:=sx a.r;have g:=sx<|oW a.r;by_cases j:k=16
 .subst j;exact b.st _ _ _ h
 by_cases l:k=18
 .subst l;exact b.mv _ a.s d g h
 by_cases m:k=19
 .subst m;exact b.lg d f h
 by_cases n:k=20
 .subst n;show J (iU F c t _ _ _).2.2.s (iU F c t _ _ _).2.2.C;unfold iU;split
  .exact h
  .have e:=sx<|oW<|oW a.r;have p:=a.g0;have q:=a.C;have r:=a.I;have u:=f.1;have v:=g.1;exact i _ _ _ _ _ _ a.s d Z e Z Z Z h
 have e:(nX F c k t).s=t.s/\(nX F c k t).C=t.C:=by unfold nX;grind
 grind
def D'(b:D_ J):∀n,SF J<|yU n
 |0=>λ_ _ _ _ _ _ _ _ _ _ _ _ _ h=>h
 |n+1=>λs d x y g k a f e i j l m h=>by
  show J (rp (yU n) ⟨x,y,k,4-(n:Int),g⟩ s d).s (rp (yU n) ⟨x,y,k,4-(n:Int),g⟩ s d).I;unfold rp;simp only;split
  .exact(DV (c:=⟨x,y,k,4-(n:Int),g⟩) (a.I y).1 (λn o=>R4 a y o) (Hh n) f e i (am4 b (D' b n) e) _ _ _ tY ⟨fp,fp,a,j,l,m⟩ h).2
  .exact h
end
def SG:SF (λ_ e=>xl e) gi:=D' ⟨λ_ _ _ h=>h,λ_ _ _ _ _ h=>h,λa b h e c=>by
 rcases ú.1 c with q|q
 .exact h e q
 .simp at q;subst q;exact⟨a,b⟩⟩ 4
def am5{s:St}(b:gJ s){ls:List (Nat×Int)}{t:Tx}(a:t.Ok)(c:(ls.length:Int)+400<=1000000)(h:xl ls):xl (ma s ls t).2.2.2:=by
 unfold ma;split
 .exact h
 .split
  .exact h
  .unfold yW;split
   .exact h
   .rename_i d;have e:=(b.fw t.x).2;exact SG _ ls t.x t.y (t.n-10) t.k (b.r t.x ⟨Z,Z⟩) a.x a.y ⟨a.r,by have:=a.C;omega⟩ Z Z Z h
def zf(a:List (Int×Bool)):Prop:=∀e∈a,0<=e.1/\e.1<=400
def zf.NQ{a:List (Int×Bool)}(h:zf a){e:Int×Bool}(b:0<=e.1)(c:e.1<=400):zf (a++[e]):=λx d=>by
 rcases ú.1 d with q|q
 .exact h x q
 .simp at q;subst q;exact⟨b,c⟩
structure SH(v:fK):Prop where
 C:xl v.r
 r:zf v.C
 I:v.r.length<=400000
 M:v.C.length<=1000
def SJ:∀(b:List Tx) {s:St} {ls:List (Nat×Int)} {a:List (Int×Bool)} {r:St×List (Nat×Int)×List (Int×Bool)},(∀t∈b,t.Ok)->gJ s->xl ls->zf a->ls.length+400*b.length<=400000->a.length+b.length<=1000->ua m s ls a b=Ã r->gJ r.1/\xl r.2.1/\zf r.2.2/\r.2.1.length<=400000/\r.2.2.length<=1000
 |[],s,ls,a,r,_,hs,hl,hu,n1,n2,h=>by cases h;exact⟨hs,hl,hu,by simpa using n1,by simpa using n2⟩
 |t::q,s,ls,a,r,ht,hs,hl,hu,n1,n2,h=>by
  unfold ua at h;simp only[Ľ]at n1 n2;split at h
  .have d:=Z8 (ls:=ls) hs (ht t fp) Z;have f:=d.r;exact SJ q (λc e=>ht c<|Ś _ e) (d.s.r m<|yS _) (am5 hs (ht t fp) Z hl) (hu.NQ d.g0 d.C) Z (by simp;omega) h
  .cases h
def am6{s:St}{a:List Tx}{r:St×List (Nat×Int)×List (Int×Bool)}(b:∀t∈a,t.Ok)(c:gJ s)(k:a.length<=1000)(e:xj m s a=Ã r):SH ⟨r.1,r.2.1,r.2.2,h⟩:=by unfold xj at e;obtain⟨l,d,rfl⟩:=Ì.1 e;let⟨_,f,g,i,j⟩:=SJ a b c (λ_ q=>by cases q) (λ_ q=>by cases q) (by simp;omega) (by simp;omega) d;exact⟨f,g,i,j⟩
end Go.Proofs.Y.iw
namespace Go.Proofs
open Go.Shelf
def Tryz.lays283_ren:Ĭ:=⟨fun|283=>187|n=>n,fun|3=>3|9=>9|4=>4|n=>n,fun|n=>n⟩
def Tryz.lays283:aJ À Tryz.lays283_ren:={
 mixed:=fu
 f283:=ź.trans<|congrArg Ã fu
 t3:=Ě
 a3:=Ŝ
 z3:=ň
 v3:=ħ
 t4:=ě
 a4:=ŝ
 z4:=ŉ
 v4:=Ĩ
 t9:=đ
 a9:=Ş
 z9:=Ŋ
 v9:=ĩ}
open Go.Lib in
def Tryz.internal_strconv_small(i:Nat)(h:i<100)(w:É):
 Ò À 187 #[Â Ë i] w λe a=>e=Ç (Í ⟨(Ļ i).toArray⟩)/\a=w:=Any.internal_strconv_small Tryz.lays283 i h w
def Tryz.laysM284_ren:Ĭ:=⟨fun|284=>188|129=>198|317=>197|318=>199|n=>n,fun|53=>36|3=>3|212=>291|0=>0|4=>4|46=>168|5=>5|9=>9|n=>n,fun|17=>1|n=>n⟩
def Tryz.laysM284:Go.Proofs.LaysM.n284 À Tryz.laysM284_ren:={
 mixed:=fu
 f129:=Tryz.func198.trans<|congrArg Ã fu
 f284:=Tryz.func188.trans<|congrArg Ã fu
 f317:=Tryz.func197.trans<|congrArg Ã fu
 f318:=Tryz.func199.trans<|congrArg Ã fu
 t0:=Δ
 a0:=aG
 z0:=ax
 v0:=Ρ
 t3:=Ě
 a3:=Ŝ
 z3:=ň
 v3:=ħ
 t4:=ě
 a4:=ŝ
 z4:=ŉ
 v4:=Ĩ
 t5:=Ε
 a5:=aH
 z5:=ay
 v5:=Τ
 t9:=đ
 a9:=Ş
 z9:=Ŋ
 v9:=ĩ
 t46:=Ŭ
 a46:=ρ
 z46:=ε
 v46:=Ž
 t53:=ĸ
 a53:=ž
 z53:=ŧ
 v53:=ŀ
 t212:=Tryz.underlying291
 a212:=Tryz.isAgg291
 z212:=Tryz.sizeOf291
 v212:=Tryz.zeroValue291
 g17:=fu
 i0:=fu
 i3:=fu
 i4:=fu
 i5:=fu
 i9:=fu
 i46:=fu
 i53:=fu
 i212:=fu
 m17:=by kernel_rfl}
open Go.Lib in
def Tryz.internal_strconv_numDigits(u:Nat)(a:1<=u)(b:u<18446744073709551616)(w:É)(c:ω À w "internal/strconv.uint64pow10" Æ az):
 Ò À 188 #[Â Æ u] w λe d=>e=Ç (Â Ë<|č u)/\d=w:=Any.internal_strconv_numDigits Tryz.laysM284 u a b w c
def Tryz.lays285_ren:Ĭ:=⟨fun|285=>189|n=>n,fun|37=>107|53=>36|3=>3|4=>4|51=>95|9=>9|5=>5|0=>0|n=>n,fun|n=>n⟩
def Tryz.lays285:aK À Tryz.lays285_ren:={
 mixed:=fu
 f285:=Tryz.func189.trans<|congrArg Ã fu
 t0:=Δ
 a0:=aG
 z0:=ax
 v0:=Ρ
 t3:=Ě
 a3:=Ŝ
 z3:=ň
 v3:=ħ
 t4:=ě
 a4:=ŝ
 z4:=ŉ
 v4:=Ĩ
 t5:=Ε
 a5:=aH
 z5:=ay
 v5:=Τ
 t9:=đ
 a9:=Ş
 z9:=Ŋ
 v9:=ĩ
 t37:=ý
 a37:=Tryz.isAgg107
 z37:=Tryz.sizeOf107
 v37:=Tryz.zeroValue107
 t51:=ſ
 a51:=aA
 z51:=ς
 v51:=Ζ
 t53:=ĸ
 a53:=ž
 z53:=ŧ
 v53:=ŀ}
open Go.RowKit Go.Sort Go.Lib in
def Tryz.internal_strconv_formatBase10(a c f:Nat)(u:Nat)(d:Array UInt8)(w:É)(h:Holds (λ(b:UInt8)=>Â aT (b.toNat:Int)) w a c d)(i:u<10^d.size)(j:u<18446744073709551616)(k:d.size<4611686018427387904):
 Ò À 189 #[Ê (Ã ⟨a,c,Ä⟩) d.size f,Â Æ u] w λe l=>
  e=Ç (æ #[])/\∃(n m:Nat) (g:Array UInt8),l=(ζ (λ(b:UInt8)=>Â aT (b.toNat:Int)) w a c g).drewN n/\FmtInv d.size u 0 m g:=Any.internal_strconv_formatBase10 Tryz.lays285 a c f u d w h i j k
def Tryz.lays99_ren:Ĭ:=⟨fun|99=>175|206=>194|n=>n,fun|9=>9|4=>4|3=>3|n=>n,fun|n=>n⟩
def Tryz.lays99:aR À Tryz.lays99_ren:={
 mixed:=fu
 f99:=Tryz.func175.trans<|congrArg Ã fu
 f206:=Tryz.func194.trans<|congrArg Ã fu
 t3:=Ě
 a3:=Ŝ
 z3:=ň
 v3:=ħ
 t4:=ě
 a4:=ŝ
 z4:=ŉ
 v4:=Ĩ
 t9:=đ
 a9:=Ş
 z9:=Ŋ
 v9:=ĩ}
open Go.RowKit Go.Lib in
def Tryz.strings_HasPrefix(s p:ByteArray)(w:É):
 Ò À 175 #[Í s,Í p] w λe a=>e=Ç (Ñ<|Lib.hasPrefix s.data.toList p.data.toList)/\a=w:=Any.strings_HasPrefix Tryz.lays99 s p w
def Tryz.lays212_ren:Ĭ:=⟨fun|212=>174|263=>192|264=>193|n=>n,fun|46=>168|51=>95|146=>285|53=>36|148=>287|n=>n,fun|n=>n⟩
def Tryz.lays212:aL À Tryz.lays212_ren:={
 mixed:=fu
 f212:=Tryz.func174.trans<|congrArg Ã fu
 f263:=Tryz.func192.trans<|congrArg Ã fu
 f264:=Tryz.func193.trans<|congrArg Ã fu
 t46:=Ŭ
 a46:=ρ
 z46:=ε
 v46:=Ž
 t51:=ſ
 a51:=aA
 z51:=ς
 v51:=Ζ
 t53:=ĸ
 a53:=ž
 z53:=ŧ
 v53:=ŀ
 t146:=Tryz.underlying285
 a146:=Tryz.isAgg285
 z146:=Tryz.sizeOf285
 v146:=Tryz.zeroValue285
 t148:=Tryz.underlying287
 a148:=Tryz.isAgg287
 z148:=Tryz.sizeOf287
 v148:=Tryz.zeroValue287}
open Go.RowKit Go.Lib in
def Tryz.bits_Mul(x y:Nat)(a:x<18446744073709551616)(b:y<18446744073709551616)(w:É):
 Ò À 174 #[Â Æ x,Â Æ y] w λe c=>e=Ç (æ #[Â Æ ((x*y/18446744073709551616:Nat):Int),Â Æ ((x*y%18446744073709551616:Nat):Int)])/\c=w:=Any.bits_Mul Tryz.lays212 x y a b w
end Go.Proofs
namespace Go.Proofs.Y.iw
open Go Go.Proofs Go.RowKit Go.Sort Go.Proofs.Y.Lift
def zg:UInt8->È:=λb=>Â aT (b.toNat:Int)
def lu(w:É):Prop:=ω À w "internal/strconv.uint64pow10" Æ az
def am7(a:j0 w)(b:Nat)(f:Array È->Array È):j0 (Ł w b f):=by
 intro i o h;unfold Ł at h;simp only[Û]at h;split at h
 .cases d:w.heap[i]? with
  |none=>rw[d]at h;cases h
  |some e=>
   have:=a _ _ d;rw[d]at h;cases e with
   |cells c t z=>simp only[ñ,è]at h;subst h;exact λx=>x
   |_=>exact absurd trivial this
 .exact a i o h
def am8(a:rm m w)(b:Nat)(f:Array È->Array È)(j:NF b w):rm m (Ł w b f):=by
 intro i c T k l h g;unfold Ł at h;simp only[Û]at h;split at h
 .rename_i e;subst e;cases d:w.heap[b]? with
  |none=>rw[d]at h;cases h
  |some n=>
   rw[d]at h;cases n with
   |cells o t z=>
    simp only[ñ,è,onCells,ģ]at h;have:=j _ _ _ d;rw[h.2.1,g]at this;cases this
   |_=>simp only[ñ,è,onCells]at h;cases h
 .exact a i c T k l h g
def fc.gf(w:World)(T:TypeId)(cs:Array Value)(off:Nat)(d:Array UInt8)(n:Nat)(hT:lW T=false:=by decide):fc fg w ((putRow zg (w.alloc<|.cells cs T) w.heap.size off d).drewN n):= ⟨by simp[ζ,Ł,World.drewN],λk hk _=>by show(Ł (w.alloc<|Ð cs T) w.heap.size _).heap[k]?=_;unfold Ł;simp only[Û];rw[if_neg Z];exact ď _ _ _ hk,λa=>am7 (G3 a cs T (0,0)) _ _,λ_ a=>am8 (G4 a cs T (0,0)<|Ø hT) _ _<|fi.G (fi.N w cs.toList T) hT⟩
def am9(w:É)(T:õ)(a:Nat)(c:a<=24):Holds zg (w.alloc<|Ð ġ T) w.heap.size 0 (ō a (0:UInt8)):=λj b=>by
 have d:j<a:=by simpa using b
 refine⟨?_,World.frozen?_alloc_new _ _ _ _⟩;rw[World.cell?_alloc_new,Lib.zeros24_at _ Z,getElem!_pos _ j b];simp[zg]
def gA(u:Nat):ByteArray:=⟨(Ļ u).toArray⟩
def ana(u:Nat)(h:u<100)(w:É):Ò À 172 #[Â Æ u,Â Ë 10] w λe a=>e=Ç (Í<|gA u)/\a=w:=by go_enter aB,σ;go_wp2_with (go_at_call 187;refine(Tryz.internal_strconv_small u h _).mono ?_;rintro e a ⟨rfl,rfl⟩);go_ret;exact⟨U,U⟩
def anb(u:Nat)(h:¬u<100)(c:u<18446744073709551616)(w:É)(m:lu w):Ò À 172 #[Â Æ u,Â Ë 10] w λe b=>e=Ç (Í<|gA u)/\fc fg w b:=by
 have g:1<=u:=Z
 have o:č u<=20:=by have:=Lib.numDigits_eq u g c;split at this<;>omega
 have n:À.arrayLen 276=24:=fu
 have p:∀W,(Instr.sliceAt 276 (Å<|Ã ⟨w.heap.size,0,Ä⟩) Ä (Ã<|Â Ë (č u:Int)) Ä).run À W=φ (Ê (Ã ⟨w.heap.size,0,Ä⟩) (č u) 24) W:=λW=>by rw[run_sliceAt_array_h W 276 ⟨w.heap.size,0,Ä⟩ (by simp[Program.arrayLen,Program.elem,Tryz.type276]) Ë (č u:Int) Z (by rw[n];omega)];go_simp
 have i:=am9 w 276 (č u) Z;have l:=Tryz.internal_strconv_formatBase10 w.heap.size 0 24 u (ō (č u) 0) (w.alloc<|Ð ġ 276) i (by rw[Ď];exact Lib.lt_pow_nDigits u) c (by rw[Ď];omega);rw[Ď]at l;go_enter aB,σ;go_wp2_with (go_at_call 188;refine(Tryz.internal_strconv_numDigits u g c _<|Lib.tabIs_alloc m _).mono ?_;rintro e b ⟨rfl,rfl⟩);go_at_call 189;apply l.mono;rintro e b ⟨rfl,k,q,a,d,hF⟩;replace d:b=(ζ zg (w.alloc<|Ð ġ 276) w.heap.size 0 a).drewN k:=d;subst d;have r:(convert 107 9<|Ê (Ã ⟨w.heap.size,0,Ä⟩) (č u) 24).run À ((ζ zg (w.alloc<|Ð ġ 276) w.heap.size 0 a).drewN k)=φ (Í<|gA u) ((ζ zg (w.alloc<|Ð ġ 276) w.heap.size 0 a).drewN k):=by have h:=run_convert_bytes_back (P:=À) ((ζ zg (w.alloc<|Ð ġ 276) w.heap.size 0 a).drewN k) 107 9 5 ⟨w.heap.size,0,Ä⟩ 24 (Ļ u) fu fu fu (λj f=>by rw[Lib.row_is_numeral hF j f,Lib.add_plain,World.cell?_drewN];exact cell?_putRow zg _ w.heap.size 0 _ a (Lib.hid i).out (by rw[hF.size,Ď]) j<|by rw[hF.size];rwa[Ģ]at f);rwa[Ģ]at h
 go_wp2;go_ret;exact⟨U,fc.gf w 276 _ _ a k⟩
def anc(u:Nat)(d:u<18446744073709551616)(w:É)(f:lu w):Ò À 172 #[Â Æ u,Â Ë 10] w λe c=>e=Ç (Í<|gA u)/\fc fg w c:=by
 by_cases h:u<100
 .exact(ana u h w).mono λe c ⟨a,b⟩=>⟨a,b▸fc.fT _ _⟩
 .exact anb u h d w f
def ane(u:Nat)(b:u<18446744073709551616)(w:É)(c:lu w):Ò À 157 #[Â Æ u,Â Ë 10] w λe a=>e=Ç (Í<|gA u)/\fc fg w a:=by go_enter Tryz.func157,Tryz.ntmps157;go_wp2_with (go_at_call 172;refine(anc u b _ c).mono ?_;rintro e a ⟨rfl,d⟩);go_ret;exact⟨U,d⟩
def xm(u:Nat)(b:u<18446744073709551616)(w:É)(c:lu w):Ò À 118 #[Â Æ u] w λe a=>e=Ç (Í<|gA u)/\fc fg w a:=by go_enter Tryz.func118,Tryz.ntmps118;go_wp2_with (go_at_call 157;refine(ane u b _ c).mono ?_;rintro e a ⟨rfl,d⟩);go_ret;exact⟨U,d⟩
end Go.Proofs.Y.iw
namespace Go.Proofs.Y.iw
open Go Go.Proofs Go.RowKit Go.Proofs.Y.Lift
def SK(B:Nat):iT:=⟨B,144,[]⟩
def anf(B:Nat):(SK B).Ok:=⟨show(144:Nat)≠36 by decide,show(144:Nat)≠257 by decide,show(144:Nat)≠282 by decide,show(144:Nat)≠300 by decide,show(144:Nat)≠252 by decide,show(144:Nat)≠246 by decide⟩
def E_{s:St}(l:mb n s h w)(z:gJ s)(B:iK w)(x y:Nat)(g k:Int)(T:x<8)(V:y<8)(Y:0<=g)(vm:g<=100000)(hk:gd k)(r:Bz)(D:r=gi s [] x y g k): Ò À 158 #[Å<|Ã ⟨n,0,Ä⟩,Â Ë x,Â Ë y,Â Æ g,Â Æ k] w λe f=>
  ∃lv,e=Ç (æ #[Ē #[Â Æ r.r,Ñ r.C,Â Æ r.M],lv])/\f.ownsRow 0 257 2 lv r.I.length (j5 r.I)/\fc fg w f:=by
 let⟨dd,E,F⟩:=Ì.1 So;have G:(À.info? 140).map (·.size)=Ã (im s).length:=by rw[ru];exact Z4
 let⟨i0,z0,I,J,K,L⟩:=ZJ ZI;have m:=R9 s (lv:=Ê Ä 0 0) U;rw[yY]at m;have o:(im s++[Ê Ä 0 0]).length=145:=by rw[Ó,ru];rfl
 have M:=fc.gI fg w #[Â Æ 0,Ñ Ï,Â Æ 0] 252;have N:=(l.r M id).C;have gN:=á w _ l.h;have C:∀W,iA (w.heap.size+1) 144 [] s (Ê Ä 0 0) W->iK W->Ò À 173 #[Å<|Ã ⟨w.heap.size+1,0,Ä⟩,Â Ë x,Â Ë y,Â Æ g,Â Æ k,Â Ë 1] W λe f=>e=Ç (Ē #[Â Æ r.r,Ñ r.C,Â Æ r.M])/\∃jv,ik (SK<|w.heap.size+1) (Ê Ä 0 0) 0 W r.s r.I f jv:=λW hW hrW=>by rw[D];exact ZU (SK<|w.heap.size+1) (anf _) s _ [] x y g k W hW (ĉ _ _ _ _) hrW z T V Y vm hk<|by simp;omega
 have a:=ff<|Á E<|Á F<|Á G<|Á N<|Á I<|Á K<|Á (J.trans o.symm)<|Á (L.trans o.symm) m;have H:=ff<|Á B C;clear E F G I J K L m o N l C B z M D;go_enter Tryz.func158,Tryz.ntmps158;go_wp2_with (first
  |(with_reducible refine ĥ U 140 _ U n 0 U (im s) dd a.out.2.2.2.1 a.out.1 a.out.2.1 a.out.2.2.1 ?_)
  |(with_reducible refine Ć U (Ã 19) U _ _ (Sn U U<|ru s) ?_)
  |(with_reducible refine ZG U U 144 U 12 U _ _ U U a.out.2.2.2.2.1 a.out.2.2.2.2.2.1 (im s++[Ê Ä 0 0]) a.out.2.2.2.2.2.2.1 a.out.2.2.2.2.2.2.2.1 U U a.out.2.2.2.2.2.2.2.2 ?_;intro t K9 O Dv))
 have vg:t.heap.size=w.heap.size+1+1:=by simpa using Dv
 have P:iA (w.heap.size+1) 144 [] s (Ê Ä 0 0) t:=by unfold iA;rw[ò,yY];simpa using K9
 have Q:=(fc.gI _ _ _ _).fh O;have Am:=(fi.N w [Â Æ 0,Ñ Ï,Â Æ 0] 252).I O id;go_at_call 173;refine(H.out.2 t P<|H.out.1.r Q id).mono ?_;rintro e u ⟨rfl,lv,d⟩;have b:=Am.I d.C (λq=>q.elim (λq=>absurd q<|by show w.heap.size≠w.heap.size+1;omega) λq=>by cases q);have rU:=d.C.M;have hlv:u.cell? ⟨w.heap.size+1,144,Ä⟩=Ã lv:=d.r.G9 Z;obtain⟨la,lc,rfl⟩:=jo d.I;have l0:=b.M;have y0:=b.C 0;have y1:=b.C 1;have y2:=b.C 2;have c0:=b.r 0 _ U;have c1:=b.r 1 _ U;have c2:=b.r 2 _ U;have hl2:w.heap.size+1<u.heap.size:=Z
 have c:=ff<|Á d<|Á b<|Á Q P;go_wp2_with fail;go_region;go_wp2_with fail;let⟨d2,oy,wF⟩:=Ì.1 Sc;have S:=((fc.I (X:=λk=>k=w.heap.size) (w:=u) (p:=⟨w.heap.size,0,Ä⟩) U<|Â Æ r.r).fh<|fc.I (X:=λk=>k=w.heap.size) (p:=⟨w.heap.size,1,Ä⟩) U<|Ñ r.C).fh (fc.I (X:=λk=>k=w.heap.size) (p:=⟨w.heap.size,2,Ä⟩) U<|Â Æ r.M);have v:=λW=>(fc.gI fg W #[Â Æ r.r,Ñ r.C,Â Æ r.M] 252).fh<|fc.fR _ _;apply ð (yV U U (fi.Y (vs:=[Â Æ r.r,Ñ r.C,Â Æ r.M])<|(((c.out.2.1.gf 0<|Â Æ r.r).gf 1<|Ñ r.C).gf 2<|Â Æ r.M).I (v _) id) oy wF Sd) U;refine⟨_,U,ia (ia c.out.1.I S λj hj y=> ?_) (v _) λ_ _=>id,?_⟩
 .let⟨j,i⟩:=lG c.out.1.I hj;rw[y,c.out.2.1]at i;cases i
 .refine((c.out.2.2.1.C c.out.1.C λi j q=> ?_).C S λi j q=> ?_).fh<|v _
  .rcases q with q|q
   .exact absurd q<|by show i≠w.heap.size+1;omega
   .cases q
  .omega
def sD(s:St)(x y:Nat)(k:Int):Nat->Nat->ByteArray
 |_,0=>⟨#[45]⟩
 |i,n+1=>if(gi s [] x y i k).C then gA i else sD s x y k (i+1) n
noncomputable def Lx:ŏ:=(Tryz.f120.body.bind km).getD Ķ
def BO(a x y:Nat)(k:Int)(r:È)(i:Int)(u:Nat->È):é:=⟨#[Å<|Ã ⟨a,0,Ä⟩,Â Ë x,Â Ë y,Â Æ k,u 4,u 5,u 6,u 7,r,u 9,u 10,u 11,Â Æ i,u 13,u 14,u 15,u 16,u 17,u 18,u 19,u 20,u 21,u 22,u 23,u 24,u 25,u 26,u 27,u 28,u 29],[]⟩
def zh(b x y:Nat)(k:Int)(r:È)(i:Int)(a:é):Prop:=∃u,a=BO b x y k r i u
theorem lu.r(h:lu w)(q:fc fg w u):lu u:=by
 unfold lu ω World.var? at*;cases a:À.globalNamed "internal/strconv.uint64pow10" with
 |none=>rw[a]at h;cases h
 |some g=>
  rw[a]at h;simp only[Option.bind_some]at h|-;have b:g<w.heap.size:=by grind
  rwa[q.N g b id]
section
variable{Y:é->É->Prop}{s:St}
def ang(b:È)(u:Nat->È)(d:∀a,zh j i n c b 401 a->H a w): Î À Lx (Exit.then K<|QN H Y) (BO j i n c b 401 u) w:=by
 unfold BO;conv=>arg 2;whnf
 go_wp2_with fail
 exact d _ (gl _)
def anh(p:È)(u:Nat->È)(b:Nat)(P:b<401)(B:mb j s h w)(C:gJ s)(D:iK w)(E:lu w)(F:i<8)(G:n<8)(I:gd c) (q:(gi s [] i n b c).C=Ï->∀a g,zh j i n c p ((b+1:Nat):Int) a->fc fg w g->K a g) (r:(gi s [] i n b c).C=Ú->∀a g,zh j i n c (Í<|gA b) b a->fc fg w g->Y a g): Î À Lx (Exit.then K<|QN H Y) (BO j i n c p b u) w:=by
 unfold BO;conv=>arg 2;whnf
 have T:=E_ B C D i n b c F G Z Z I _ U;obtain⟨t,o,v,x,y,J⟩:∃t o v x y,gi s [] i n b c=⟨t,o,v,x,y⟩:=⟨_,_,_,_,_,U⟩;rw[J]at T q r;have d:=ff<|Á T<|Á q<|Á r E;cases o with
 |true=>
  go_wp2_with (first
   |(go_at_call 158;refine d.out.1.mono ?_;rintro e l ⟨L,rfl,f,k⟩;obtain⟨M,N,rfl⟩:=jo f;have m:=ff<|Á k f;clear k f)
   |(go_at_call 118;refine(xm b Z _ (d.out.2.2.2.r (m.out.1.fh (fc.gI fg l _ _)))).mono ?_;rintro e Q ⟨rfl,z⟩;have O:=ff z;clear z))
  exact d.out.2.2.1 trivial _ _ (gl _)<|(m.out.1.fh<|fc.gI fg l _ _).fh O.out
 |false=>
  go_wp2_with (first
   |(go_at_call 158;refine d.out.1.mono ?_;rintro e l ⟨L,rfl,f,k⟩;obtain⟨M,N,rfl⟩:=jo f;have m:=ff (Á k f);clear k f))
  exact d.out.2.1 trivial _ _ (gl _)<|m.out.1.fh<|fc.gI fg l _ _
def LI(j i n:Nat)(c:Int)(d:È)(s:St)(e:É)(f:ByteArray)(a:é)(w:É):Prop:=
 ∃b:Nat,zh j i n c d b a/\b<=401/\fc fg e w/\sD s i n c b (401-b)=f
def LE(j i n:Nat)(c:Int)(b:È)(d:É)(e:ByteArray)(a:é)(w:É):Prop:=zh j i n c b 401 a/\fc fg d w/\e=⟨#[45]⟩
def LR(j i n:Nat)(c:Int)(d:É)(e:ByteArray)(a:é)(w:É):Prop:=∃b,zh j i n c (Í e) b a/\fc fg d w
def Ly(a:é)(_:É):Nat:=match a.tmps.getD 12 ā with
 |Â _ i=>401-i.toNat
 |_=>0
def F_(d:zh j i n c v b y):Ly y w=401-b:=by obtain⟨u,rfl⟩:=d;show 401-(b:Int).toNat=_;simp
def ani(p:mb j s h u)(r:gJ s)(t:iK u)(x:lu u)(y:i<8)(z:n<8)(C:gd c)(a:é)(w:É)(D:LI j i n c v s u B a w): Î À Lx (Exit.then (λg k=>LI j i n c v s u B g k/\Ly g k<Ly a w)<|QN (LE j i n c v u B)<|LR j i n c u B) a w:=by
 let⟨b,o,H,e,f⟩:=D;rw[F_ (w:=w) o];obtain⟨d,rfl⟩:=o;by_cases E:b=401
 .subst E;exact ang v d λa q=>⟨q,e,f.symm⟩
 .have F:401-b=(401-(b+1))+1:=Z
  rw[F,sD]at f;refine anh v d b Z (p.r e id) r (t.r e id) (x.r e) y z C ?_ ?_
  .intro l g k q m;rw[l]at f;exact⟨⟨b+1,q,Z,e.fh m,f⟩,by rw[F_ q];omega⟩
  .intro l g k q m;rw[l]at f;have G:gA b=B:=f;rw[G]at q;exact⟨b,q,e.fh m⟩
def anj(d:mb j s h w)(f:gJ s)(g:iK w)(k:lu w)(l:i<8)(m:n<8)(o:gd c): Ò À 120 #[Å<|Ã ⟨j,0,Ä⟩,Â Ë i,Â Ë n,Â Æ c] w λe a=>e=Ç (Í<|sD s i n c 0 401)/\fc fg w a:=by
 have L:∀a,zh j i n c (Í ⟨#[]⟩) 0 a->Î À (à Lx) (QN (LE j i n c (Í ⟨#[]⟩) w<|sD s i n c 0 401)<|LR j i n c w<|sD s i n c 0 401) a w:=λa p=>
  Ĉ (LI j i n c (Í ⟨#[]⟩) s w<|sD s i n c 0 401) Ly ⟨0,p,â _,fc.fT _ _,U⟩<|ani d f g k l m o
 generalize sD s i n c 0 401=r at*;go_enter Tryz.func120,Tryz.ntmps120;go_wp2_with fail;refine Ý ?_ ((ff L).out _ (gl _));rintro(_|(_|_)|_|_|_|_) a v hq;all_goals first|exact absurd hq id|skip
 .obtain⟨b,q,rfl⟩:=hq;obtain⟨u,rfl⟩:=b;unfold BO;go_wp2_with fail;go_ret;simp_all
 .let⟨e,b,q⟩:=hq;obtain⟨u,rfl⟩:=b;unfold BO;go_wp2_with fail;go_ret;simp_all
end
def zi:(À.info? 9).map (λi=>(i.zero,i.size,i.bytes))=Ã (Ã<|Í ⟨#[]⟩,1,16):=fu
def kz(xs:List ByteArray):List È:=xs.map Í
structure ic(w0:É)(tv:È)(xs:List ByteArray)(w:É):Prop where
 fq:w.ownsRow w0.heap.size 9 1 tv xs.length (kz xs)
 r:fc fg w0 w
section
variable{w0:É}{tv:È}{xs:List ByteArray}
def ic.M(w0:É){w:É}(k:fc fg w0 w):ic w0 (Ê Ä 0 0) [] w:=⟨ĉ _ _ _ _,k⟩
def ic.fL(h:ic w0 tv xs w)(k:fc fg w u):ic w0 tv xs u:=⟨ia h.fq k λ_ _=>id,h.r.fh k⟩
def ic.C(h:ic w0 tv xs w)(a:pL w w0.heap.size 9 1 tv xs.length (kz xs) 1 [Í B] v u):ic w0 v (xs++[B]) u:=by
 refine⟨?_,h.r.C a.r λi b q=> ?_⟩
 .have:=a.fq;rwa[show kz xs++[Í B]=kz (xs++[B]) by simp[kz],show xs.length+1=(xs++[B]).length by simp]at this
 .have:=(h.fq.lt i q).1;omega
end
theorem oX(u:Nat)(h:u<18446744073709551616):(gA u).size<=20:=by have:=Lib.nDigits_le20 u h;unfold gA;show(Ļ u).toArray.size<=20;grind [Ģ]
def nn(p:Option ă)(a:List È)(w:É):Prop:=∀(j:Nat) (x:È),a[j]?=Ã x->∃b o,p=Ã ⟨b,o,Ä⟩/\w.cell? ⟨b,o+j,Ä⟩=Ã x
def nn.C(h:nn O l w)(q:fc fg w u):nn O l u:=λj x a=>by let⟨b,o,c,d⟩:=h j x a;exact⟨b,o,c,q.r d id⟩
def nn.r{base:Nat}(h:w.ownsRow base e i (Ê O n j) n l):nn O l w:=λb x d=>by
 rcases h.2 with⟨f,k⟩|⟨g,m,o,f,_⟩
 .have:=h.1;rw[k,Nat.zero_mul]at this;rw[ß this]at d;cases d
 .cases f;refine⟨g,0,U,?_⟩;have:=h.cells (g:=g) U b x d;rwa[Addr.add_mid]at this
def SL{α:Type}(f g:α->È):∀(l:List α) (j:Nat) (x:α),l[j]?=Ã x->(l.flatMap λp=>[f p,g p])[j*2]?=Ã (f x)/\(l.flatMap λp=>[f p,g p])[j*2+1]?=Ã (g x)
 |[],j,x,h=>by cases h
 |a::l,0,x,h=>by cases h;exact⟨U,U⟩
 |a::l,j+1,x,h=>by rw[show(j+1)*2=j*2+1+1 by omega];exact SL f g l j x h
def iH(y:Nat):ByteArray:=ø ⟨#[97,98,99,100,101,102,103,104]⟩ y<|y+1
def qy(e:Nat×Int):ByteArray:=iH e.1++gA e.2.toNat
noncomputable def Lz:ŏ:=(Tryz.f124.body.bind km).getD Ķ
def Ed(a:Option ă)(n b:Nat)(c:È)(i:Int)(u:Nat->È):é:=⟨#[Ê a n b,u 1,u 2,c,u 4,u 5,Ê a n b,Â Ë n,Â Ë i,u 9,u 10,u 11,u 12,u 13,u 14,u 15,u 16,u 17,u 18,u 19,u 20,u 21,u 22,u 23,u 24,u 25,u 26],[]⟩
def Ee(b:Option ă)(n c:Nat)(d:È)(i:Int)(a:é):Prop:=∃u,a=Ed b n c d i u
section
variable{X:é->É->Prop}{w0:É}{cp:Nat}{tv:È}{xs:List ByteArray}
def ank(u:Nat->È)(i:Int)(b:i=n)(c:∀a,Ee O n cp tv n a->X a w): Î À Lz (Exit.then K<|QQ X) (Ed O n cp tv i u) w:=by
 unfold Ed;conv=>arg 2;whnf
 subst b;go_wp2_with fail;exact c _ (gl _)
def anl(u:Nat->È)(q:ic w0 tv xs w)(j:Nat)(N:j<n)(P:n<=400000)(Q:xs.length<=400000)(y p:Nat)(S:y<8)(r:p<18446744073709551616)(z:lu w)(k l:Nat)(B:O=Ã ⟨k,l,Ä⟩)(T:w.cell? ⟨k,l+j*2,Ä⟩=Ã (Â Ë y))(V:w.cell? ⟨k,l+j*2+1,Ä⟩=Ã (Â Æ p)) (b:∀a c s,Ee O n cp s ((j+1:Nat):Int) a->ic w0 s (xs++[iH y++gA p]) c->K a c): Î À Lz (Exit.then K<|QQ X) (Ed O n cp tv j u) w:=by
 unfold Ed;conv=>arg 2;whnf
 subst B;have W:(0:Int)<=(j:Int):=Z
 have Y:(j:Int)<(n:Int):=Z
 have y0:(0:Int)<=(y:Int):=Z
 have y1:(y:Int)<8:=Z
 have j1:=oX p r;have ov:Ë.wrap ((y:Int)+1)=(y:Int)+1:=by rw[ó];omega
 have Dk:(0:Int)<=(y:Int)+1:=Z
 have yr:(y:Int)+1<=8:=Z
 have qn:(y:Int)<=(y:Int)+1:=Z
 have tR:((y:Int)+1).toNat=y+1:=Z
 have HB:¬9223372036854775807<min (y+1) 8-y+(gA p).size:=Z
 obtain⟨ta,tc,rfl⟩:=jo q.fq;have H:=ff<|Á q<|Á z b;go_wp2_with fail;change Î À _ _ _ (w.alloc<|Ð #[Â Ë y,Â Æ p] 257);have t:=fc.gI fg w #[Â Ë y,Â Æ p] 257;have C:=(H.out.1.fL t).fL<|fc.fR _ _;have D:=(H.out.2.1.r t).r<|fc.fR _ _;have m:=(fi.N w [Â Ë y,Â Æ p] 257).I (fc.fR fg _) id;let⟨i0,E,F,G,I⟩:=í zi;have f:=ff<|Á E<|Á F<|Á G I;refine lZ (λc=>c.cell? ⟨w.heap.size,0,Ä⟩=Ã (Â Ë y)/\c.cell? ⟨w.heap.size,1,Ä⟩=Ã (Â Æ p)) [] fu ?_;have J:=ff<|Á (m.r 0 _ rfl)<|m.r 1 _ rfl;generalize w.heap.size=ub at*;generalize Č (w.alloc<|Ð #[Â Ë y,Â Æ p] 257)=w1 at*;iterate 9 apply tk J.out
 apply gC 9;intro K b;go_simp;go_at_call 118;refine(xm p r _ D).mono ?_;rintro e L ⟨rfl,v⟩;have M:=C.fL v;have d:=m.I v id;apply b.out _ _ λ_=>⟨d.r 0 _ U,d.r 1 _ U⟩;apply gC 10;intro K b;go_simp;apply b.out _ _ λ_=>⟨d.r 0 _ U,d.r 1 _ U⟩;have x:=fc.gI fg L #[Í<|iH y++gA p] 9;have g:=M.fL x;have h:=d.I x id;apply gC 11;intro K b;go_simp;apply b.out _ _ λ_=>⟨h.r 0 _ U,h.r 1 _ U⟩;apply gC 12;intro K b;refine K4 fW _ _ 25 fW ù f.out.1 f.out.2.1 f.out.2.2.1 f.out.2.2.2 U fW g.fq ⟨_,0,Ä⟩ [Í<|iH y++gA p] fW Z U (ÿ _ _ _) (λu i=>by simp at i;subst i;rfl) (by unfold Ą;omega) Z g.r.M ?_;intro tv1 w9 o;obtain⟨a2,Z6,rfl⟩:=jo o.fq;have i:=h.I o.r<|jw g.fq h A;apply b.out _ _ λ_=>⟨i.r 0 _ U,i.r 1 _ U⟩;apply gC 13;intro K b;go_simp;apply b.out _ _ λ_=>⟨i.r 0 _ U,i.r 1 _ U⟩;refine lI fu ?_ _;go_wp2_with fail;exact H.out.2.2 _ _ _ (gl _)<|g.C o
def SN(O:Option ă)(n cp:Nat)(w0:É)(l:List (Nat×Int))(a:é)(w:É):Prop:=
 ∃(j:Nat) (tv:È),Ee O n cp tv j a/\j<=n/\ic w0 tv ((l.take j).map qy) w
def F'(O:Option ă)(n cp:Nat)(w0:É)(l:List (Nat×Int))(a:é)(w:É):Prop:=
 ∃tv,Ee O n cp tv n a/\ic w0 tv (l.map qy) w
def LA(n:Nat)(a:é)(_:É):Nat:=match a.tmps.getD 8 ā with
 |Â _ i=>n-i.toNat
 |_=>0
def G_(b:Ee O n cp tv i y):LA n y w=n-i:=by obtain⟨u,rfl⟩:=b;show n-(i:Int).toNat=_;simp
theorem anm{l:List (Nat×Int)}(D:n=l.length)(k:n<=400000)(m:xl l)(o:lu w0)(f:nn O (j5 l) w0)(a:é)(w:É)(p:SN O n cp w0 l a w): Î À Lz (Exit.then (λb d=>SN O n cp w0 l b d/\LA n b d<LA n a w)<|QQ<|F' O n cp w0 l) a w:=by
 let⟨j,tv,g,E,b⟩:=p;rw[G_ g];obtain⟨u,rfl⟩:=g;by_cases r:j=n
 .subst r;refine ank u _ U λa q=>⟨tv,q,?_⟩;grind
 .obtain⟨x,e⟩:∃x,l[j]?=Ã x:=⟨_,Ô Z⟩;obtain⟨g0,s⟩:=SL _ _ l j x e;let⟨t,v,h,y⟩:=f (j*2) _ g0;let⟨F,G,i,z⟩:=f (j*2+1) _ s;rw[h]at i;cases i;have c:=m x<|Ġ e;refine anl u b j Z k (by simp;omega) x.1 x.2.toNat c.1 (by have:=c.2.1;have:=c.2.2;omega) (o.r b.r) t v h (b.r.r y id) (by rw[Ĕ c.2.1];exact b.r.r z id) λa d B q C=>⟨⟨j+1,B,q,Z,?_⟩,by rw[G_ q];omega⟩;rwa[Α,e,Υ]
def H_{l:List (Nat×Int)}(b:n=l.length)(g:n<=400000)(c:xl l)(d:lu w)(f:nn O (j5 l) w): Ò À 124 #[Ê O n cp] w λe a=>∃tv,e=Ç tv/\ic w tv (l.map qy) a:=by
 have L:∀a,Ee O n cp (Ê Ä 0 0) (0:Nat) a->Î À (à Lz) (QQ<|F' O n cp w l) a w:=λa e=>
  Ĉ (SN O n cp w l) (LA n) ⟨0,_,e,â _,ic.M w<|fc.fT _ _⟩<|anm b g c d f
 have H:=ff L;clear L c d f b;go_enter Tryz.func124,Tryz.ntmps124;go_wp2_with fail;refine Ý ?_ (H.out _ (gl _));rintro(_|(_|_)|_|_|_|_) a v hq;all_goals first|exact absurd hq id|skip
 let⟨tv,h,i⟩:=hq;obtain⟨u,rfl⟩:=h;unfold Ed;go_wp2_with fail;go_ret;simp_all
end
def I_(b:Bool):xb b=((b.toNat:Nat):Int):=by cases b<;>rfl
def Ef(e:Int×Bool):ByteArray:=gA e.2.toNat++⟨#[58]⟩++gA e.1.toNat
noncomputable def LB:ŏ:=(Tryz.f125.body.bind km).getD Ķ
def Eg(a:Option ă)(n b:Nat)(c:È)(i:Int)(u:Nat->È):é:=⟨#[Ê a n b,u 1,u 2,c,u 4,u 5,Ê a n b,Â Ë n,Â Ë i,u 9,u 10,u 11,u 12,u 13,u 14,u 15,u 16,u 17,u 18,u 19,u 20,u 21,u 22,u 23,u 24,u 25],[]⟩
def Eh(b:Option ă)(n c:Nat)(d:È)(i:Int)(a:é):Prop:=∃u,a=Eg b n c d i u
section
variable{cp:Nat}{xs:List ByteArray}
def ano(u:Nat->È)(i:Int)(b:i=n)(c:∀a,Eh O n cp v n a->H a w): Î À LB (Exit.then K<|QQ H) (Eg O n cp v i u) w:=by
 unfold Eg;conv=>arg 2;whnf
 subst b;go_wp2_with fail;exact c _ (gl _)
def anp(c:Nat->È)(r:ic u v xs w)(j:Nat)(hj:j<n)(hn:n<=1000)(FW:xs.length<=1000)(p:Nat)(b:Bool)(C:p<18446744073709551616)(D:lu w)(s t:Nat)(V:O=Ã ⟨s,t,Ä⟩)(W:w.cell? ⟨s,t+j*2,Ä⟩=Ã (Â Æ p))(X:w.cell? ⟨s,t+j*2+1,Ä⟩=Ã (Ñ b)) (f:∀a g E,Eh O n cp E ((j+1:Nat):Int) a->ic u E (xs++[gA b.toNat++⟨#[58]⟩++gA p]) g->K a g): Î À LB (Exit.then K<|QQ H) (Eg O n cp v j c) w:=by
 unfold Eg;conv=>arg 2;whnf
 subst V;have j1:=oX p C;have F:b.toNat<18446744073709551616:=by cases b<;>decide
 have hsb:=oX b.toNat F;have HB:¬9223372036854775807<(gA b.toNat).size+1:=Z
 have hw5:¬9223372036854775807<(gA b.toNat).size+1+(gA p).size:=Z
 obtain⟨ta,tc,rfl⟩:=jo r.fq;have d:=ff<|Á r<|Á D f;clear r D f;go_wp2_with fail;change Î À _ _ _ (w.alloc<|Ð #[Â Æ p,Ñ b] 246);have G:=fc.gI fg w #[Â Æ p,Ñ b] 246;have Y:=(d.out.1.fL G).fL<|fc.fR _ _;have I:=(d.out.2.1.r G).r<|fc.fR _ _;have x:fi w.heap.size [Â Æ p,Ñ b] 246 (Č<|w.alloc<|Ð #[Â Æ p,Ñ b] 246):=(fi.N w [Â Æ p,Ñ b] 246).I (fc.fR fg _) id;let⟨i0,J,L,M,N⟩:=í zi;have i:=ff<|Á J<|Á L<|Á M N;clear J L M N W X;refine lZ (λg=>g.cell? ⟨w.heap.size,0,Ä⟩=Ã (Â Æ p)/\g.cell? ⟨w.heap.size,1,Ä⟩=Ã (Ñ b)) [] fu ?_;have k:=ff<|Á (x.r 0 _ rfl)<|x.r 1 _ rfl;generalize w.heap.size=ub at*;generalize Č (w.alloc<|Ð #[Â Æ p,Ñ b] 246)=w1 at*;iterate 3 apply tk k.out
 apply tk k.out 6;apply tk k.out 7;apply gC 3;intro K f;go_simp;go_at_call 159;refine(Ha _ _).mono ?_;rintro e P ⟨rfl,qn⟩;subst P;dsimp only;rw[I_];apply f.out _ _ λ_=>k.out;clear f K;apply gC 4;intro K f;go_simp;go_at_call 118;refine(xm b.toNat F _ I).mono ?_;rintro e P ⟨rfl,y⟩;have T2:=Y.fL y;have z:=x.I y id;have P2:=I.r y;have Q:=ff<|Á (z.r 0 _ rfl)<|z.r 1 _ rfl;dsimp only;apply f.out _ _ λ_=>Q.out;clear f K;apply tk Q.out 5;apply gC 8;intro K f;go_simp;go_at_call 118;refine(xm p C _ P2).mono ?_;rintro e w3 ⟨rfl,S⟩;have h:=z.I S id;dsimp only;apply f.out _ _ λ_=>⟨h.r 0 _ U,h.r 1 _ U⟩;clear f K;apply gC 9;intro K f;go_simp;apply f.out _ _ λ_=>⟨h.r 0 _ U,h.r 1 _ U⟩;clear f K;have T:=fc.gI fg w3 #[Í<|gA b.toNat++⟨#[58]⟩++gA p] 9;have l:=(T2.fL S).fL T;have o:=h.I T id;apply gC 10;intro K f;go_simp;apply f.out _ _ λ_=>⟨o.r 0 _ U,o.r 1 _ U⟩;clear f K;apply gC 11;intro K f;refine K4 (base:=u.heap.size) (n:=xs.length) (xs:=kz xs) (m:=1) fW _ _ 25 fW ù i.out.1 i.out.2.1 i.out.2.2.1 i.out.2.2.2 U fW l.fq ⟨_,0,Ä⟩ [Í<|gA b.toNat++⟨#[58]⟩++gA p] fW Z U (ÿ _ _ _) (λc q=>by simp at q;subst q;rfl) (by unfold Ą;omega) Z l.r.M ?_;intro tv1 w9 B;obtain⟨a2,Z6,rfl⟩:=jo B.fq;have q:=o.I B.r<|jw l.fq o A;apply f.out _ _ λ_=>⟨q.r 0 _ U,q.r 1 _ U⟩;clear f K;apply gC 12;intro K f;go_simp;apply f.out _ _ λ_=>⟨q.r 0 _ U,q.r 1 _ U⟩;clear f K;try simp only[ĵ,Õ,ã,ä]
 refine lI fu ?_ _;go_wp2_with fail;exact d.out.2.2 _ _ _ (gl _)<|l.C B
def SO(O:Option ă)(n cp:Nat)(u:É)(l:List (Int×Bool))(a:é)(w:É):Prop:=
 ∃(j:Nat) (v:È),Eh O n cp v j a/\j<=n/\ic u v ((l.take j).map Ef) w
def SQ(O:Option ă)(n cp:Nat)(u:É)(l:List (Int×Bool))(a:é)(w:É):Prop:=
 ∃v,Eh O n cp v n a/\ic u v (l.map Ef) w
def LC(n:Nat)(a:é)(_:É):Nat:=match a.tmps.getD 8 ā with
 |Â _ i=>n-i.toNat
 |_=>0
def I'(b:Eh O n cp v i y):LC n y w=n-i:=by obtain⟨u,rfl⟩:=b;show n-(i:Int).toNat=_;simp
def anq{l:List (Int×Bool)}(m:n=l.length)(o:n<=1000)(p:zf l)(r:lu u)(g:nn O (tZ l) u)(a:é)(w:É)(s:SO O n cp u l a w): Î À LB (Exit.then (λb d=>SO O n cp u l b d/\LC n b d<LC n a w)<|QQ<|SQ O n cp u l) a w:=by
 let⟨j,v,h,G,c⟩:=s;rw[I' h];obtain⟨b,rfl⟩:=h;by_cases t:j=n
 .subst t;refine ano b _ U λa q=>⟨v,q,?_⟩;rwa[m,List.take_length]at c
 .obtain⟨x,e⟩:∃x,l[j]?=Ã x:=⟨_,Ô Z⟩;obtain⟨g0,y⟩:=SL _ _ l j x e;let⟨z,B,i,C⟩:=g (j*2) _ g0;let⟨H,I,k,D⟩:=g (j*2+1) _ y;rw[i]at k;cases k;have f:=p x<|Ġ e;refine anp b c j Z o (by simp;omega) x.1.toNat x.2 (by have:=f.1;have:=f.2;omega) (r.r c.r) z B i (by rw[Ĕ f.1];exact c.r.r C id) (c.r.r D id) λa d E q F=>⟨⟨j+1,E,q,Z,?_⟩,by rw[I' q];omega⟩;rwa[Α,e,Υ]
def anr{l:List (Int×Bool)}(b:n=l.length)(g:n<=1000)(c:zf l)(d:lu w)(f:nn O (tZ l) w): Ò À 125 #[Ê O n cp] w λe a=>∃v,e=Ç v/\ic w v (l.map Ef) a:=by
 have L:∀a,Eh O n cp (Ê Ä 0 0) (0:Nat) a->Î À (à LB) (QQ<|SQ O n cp w l) a w:=λa h=>
  Ĉ (SO O n cp w l) (LC n) ⟨0,_,h,â _,ic.M w<|fc.fT _ _⟩<|anq b g c d f
 have H:=ff L;clear L c d f b;go_enter Tryz.func125,Tryz.ntmps125;go_wp2_with fail;refine Ý (Q:=QQ<|SQ O n cp w l) ?_ (H.out _ (gl _));rintro(_|(_|_)|_|_|_|_) a v hq;all_goals first|exact absurd hq id|skip
 let⟨v,i,e⟩:=hq;obtain⟨u,rfl⟩:=i;unfold Eg;have j:=ff e;clear e;go_wp2_with fail;go_ret;exact⟨_,U,j.out⟩
end
def BP(j:Nat):ByteArray:=ø ⟨#[48,49,50,51,52,53,54,55,56,57,97,98,99,100,101,102]⟩ j<|j+1
def BQ(s t:St)(i j:Nat):List ByteArray:=if(s i).C j=(t i).C j then[]else[iH i++BP j]
def qz(s t:St)(i j:Nat):List ByteArray:=(ċ j).flatMap<|BQ s t i
def xn(b a:Int)(p c:ByteArray)(i:Nat):List ByteArray:=(if b=a then[]else[iH i++⟨#[36]⟩])++(if p.toList=c.toList then[]else[iH i++⟨#[123]⟩])
def zj(s t:St)(i:Nat):List ByteArray:=xn (s i).fw (t i).fw (s i).r (t i).r i++qz s t i 16
def qA(s t:St)(n:Nat):List ByteArray:=(ċ n).flatMap<|zj s t
def ant(s t:St)(i j:Nat):(BQ s t i j).length<=1:=by unfold BQ;split<;>simp
def SR(s t:St)(i j:Nat):qz s t i (j+1)=qz s t i j++BQ s t i j:=by unfold qz;rw[Ŏ,Ţ];simp
theorem LD(s t:St)(i:Nat):∀j,(qz s t i j).length<=j
 |0=>by simp[qz]
 |j+1=>by rw[SR,Ó];have:=LD s t i j;have:=ant s t i j;omega
theorem J_(b a:Int)(p c:ByteArray)(i:Nat):(xn b a p c i).length<=2:=by unfold xn;rw[Ó];split<;>split<;>simp
def J'(s t:St)(n:Nat):qA s t (n+1)=qA s t n++zj s t n:=by unfold qA;rw[Ŏ,Ţ];simp
def SS(s t:St):∀n,(qA s t n).length<=18*n
 |0=>by simp[qA]
 |n+1=>by rw[J',Ó];have:=SS s t n;unfold zj;rw[Ó];have:=LD s t n 16;have:=J_ (s n).fw (t n).fw (s n).r (t n).r n;omega
def xo(i:Nat):(iH i).size<=1:=by unfold iH;rw[ŋ];omega
def K_(i:Nat):(BP i).size<=1:=by unfold BP;rw[ŋ];omega
def mb.gR{s:St}(c:mb n s h W)(a:i<8):W.cell? ⟨n,i*18,Ä⟩=Ã (Â Æ (s i).fw)/\W.cell? ⟨n,i*18+1,Ä⟩=Ã (Í (s i).r)/\∀j,j<16->W.cell? ⟨n,i*18+2+j,Ä⟩=Ã (Â Æ<|(s i).C j):=by
 have g:∀j,j<144->W.cell? ⟨n,j,Ä⟩=Ã (pN s j):=λj b=>by have:=c.C j _<|Sx s b;simpa using this
 refine⟨?_,?_,λj b=> ?_⟩
 .rw[g _ Z,<-qw s (Ê Ä 0 0) Z,G8 _ _ a];rfl
 .rw[g _ Z,<-qw s (Ê Ä 0 0) Z,KX _ _ a]
 .rw[g _ Z,<-qw s (Ê Ä 0 0) Z,KY _ _ a b];rfl
noncomputable def zk:ŏ:=(Tryz.f126.body.bind km).getD Ķ
noncomputable def xp:ŏ:=(km zk).getD Ķ
def ui(a b i:Nat)(c:È)(j:Int)(u:Nat->È):é:=⟨#[Å<|Ã ⟨a,0,Ä⟩,Å<|Ã ⟨b,0,Ä⟩,u 2,u 3,u 4,c,Â Ë i,Í<|iH i,Å<|Ã ⟨a,i*18,Ä⟩,Å<|Ã ⟨b,i*18,Ä⟩,u 10,Â Ë i,u 12,u 13,u 14,u 15,u 16,u 17,u 18,u 19,u 20,u 21,u 22,u 23,u 24,u 25,u 26,u 27,u 28,u 29,u 30,u 31,u 32,u 33,u 34,u 35,u 36,u 37,u 38,u 39,u 40,u 41,u 42,u 43,u 44,u 45,u 46,u 47,u 48,u 49,u 50,u 51,u 52,u 53,Â Ë j,u 55,u 56,u 57,u 58,u 59,u 60,u 61,u 62,u 63,u 64,u 65,u 66,u 67,u 68,u 69,u 70,u 71,u 72,u 73,u 74,u 75,u 76,u 77,u 78,u 79,u 80,u 81],[]⟩
def uj(b c i:Nat)(d:È)(j:Int)(a:é):Prop:=∃u,a=ui b c i d j u
def sE(a b:Nat)(c:È)(i:Int)(u:Nat->È):é:=⟨#[Å<|Ã ⟨a,0,Ä⟩,Å<|Ã ⟨b,0,Ä⟩,u 2,u 3,u 4,c,u 6,u 7,u 8,u 9,u 10,Â Ë i,u 12,u 13,u 14,u 15,u 16,u 17,u 18,u 19,u 20,u 21,u 22,u 23,u 24,u 25,u 26,u 27,u 28,u 29,u 30,u 31,u 32,u 33,u 34,u 35,u 36,u 37,u 38,u 39,u 40,u 41,u 42,u 43,u 44,u 45,u 46,u 47,u 48,u 49,u 50,u 51,u 52,u 53,u 54,u 55,u 56,u 57,u 58,u 59,u 60,u 61,u 62,u 63,u 64,u 65,u 66,u 67,u 68,u 69,u 70,u 71,u 72,u 73,u 74,u 75,u 76,u 77,u 78,u 79,u 80,u 81],[]⟩
def vn(b c:Nat)(d:È)(i:Int)(a:é):Prop:=∃u,a=sE b c d i u
section
variable{X:é->É->Prop}{w0:É}{xs:List ByteArray}{s t:St}
def anu(u:Nat->È)(b:∀a,uj n j i v (16:Nat) a->X a w): Î À xp (Exit.then K<|Q2 X) (ui n j i v (16:Nat) u) w:=by
 unfold ui;conv=>arg 2;whnf
 go_wp2_with fail
 exact b _ (gl _)
def anv(u:Nat->È)(b:Nat)(d:i<8)(e:b<16)(p:Int)(f:w.cell? ⟨n,i*18+2+b,Ä⟩=Ã (Â Æ p))(g:w.cell? ⟨j,i*18+2+b,Ä⟩=Ã (Â Æ p)) (c:∀a,uj n j i v ((b+1:Nat):Int) a->K a w.drew): Î À xp (Exit.then K<|Q2 X) (ui n j i v b u) w:=by
 unfold ui;conv=>arg 2;whnf
 have h:(0:Int)<=(b:Int):=Z
 have k:(b:Int)<16:=Z
 have H:=ff c;clear c;go_wp2_with fail;go_region;go_wp2_with fail;exact H.out _ (gl _)
def anw(u:Nat->È)(d:ic w0 v xs w)(t:xs.length<=1000)(b:Nat)(x:i<8)(y:b<16)(p q:Int)(z:(p==q)=Ï)(B:w.cell? ⟨n,i*18+2+b,Ä⟩=Ã (Â Æ p))(C:w.cell? ⟨j,i*18+2+b,Ä⟩=Ã (Â Æ q)) (f:∀a g h,uj n j i g ((b+1:Nat):Int) a->ic w0 g (xs++[iH i++BP b]) h->K a h): Î À xp (Exit.then K<|Q2 X) (ui n j i v b u) w:=by
 unfold ui;conv=>arg 2;whnf
 have D:(0:Int)<=(b:Int):=Z
 have E:(b:Int)<16:=Z
 have F:Ë.wrap ((b:Int)+1)=(b:Int)+1:=by rw[ó];omega
 have G:(0:Int)<=(b:Int)+1:=Z
 have I:(b:Int)+1<=16:=Z
 have J:(b:Int)<=(b:Int)+1:=Z
 have L:((b:Int)+1).toNat=b+1:=Z
 have M:¬9223372036854775807<(iH i).size+(BP b).size:=by have:=xo i;have:=K_ b;omega
 have N:ø ⟨#[48,49,50,51,52,53,54,55,56,57,97,98,99,100,101,102]⟩ b (b+1)=BP b:=U;obtain⟨O,P,rfl⟩:=jo d.fq;let⟨Q,k,l,o,r⟩:=í zi;have c:=ff<|Á k<|Á l<|Á o r;have H:=ff<|Á d f;clear d f k l o r;go_wp2_with fail;go_region;go_wp2_with (at_builtin;refine Bu (base:=w0.heap.size) (n:=xs.length) (xs:=kz xs) (m:=1) U _ _ 25 U ù c.out.1 c.out.2.1 c.out.2.2.1 c.out.2.2.2 U U ((H.out.1).fL kp).fq ⟨_,0,Ä⟩ [Í<|iH i++BP b] U Z U (ÿ _ _ _) (λu e=>by simp at e;subst e;rfl) (by unfold Ą;omega) Z ((H.out.1).fL kp).r.M ?_;intro S T e;obtain⟨V,W,rfl⟩:=jo e.fq;have s:=ff<|((H.out.1).fL kp).C e;clear e);exact H.out.2 _ _ _ (gl _) s.out
def DJ(n j i:Nat)(w0:É)(xs:List ByteArray)(s t:St)(a:é)(w:É):Prop:=
 ∃(b:Nat) (v:È),uj n j i v b a/\b<=16/\ic w0 v (xs++qz s t i b) w
def vo(n j i:Nat)(w0:É)(xs:List ByteArray)(s t:St)(a:é)(w:É):Prop:=
 ∃(v:È),uj n j i v (16:Nat) a/\ic w0 v (xs++qz s t i 16) w
def LF(a:é)(_:É):Nat:=match a.tmps.getD 54 ā with
 |Â _ i=>16-i.toNat
 |_=>0
def SU(c:uj n j i v b y):LF y w=16-b:=by obtain⟨u,rfl⟩:=c;show 16-(b:Int).toNat=_;simp
def anx(o:mb n s h w0)(p:mb j t c w0)(e:i<8)(B:xs.length<=900)(a:é)(w:É)(r:DJ n j i w0 xs s t a w): Î À xp (Exit.then (λb g=>DJ n j i w0 xs s t b g/\LF b g<LF a w)<|Q2<|vo n j i w0 xs s t) a w:=by
 let⟨b,v,l,C,d⟩:=r;rw[SU l];obtain⟨u,rfl⟩:=l;by_cases x:b=16
 .subst x;exact anu u λa q=>⟨v,q,d⟩
 .have m:=d.r.r ((o.gR e).2.2 b Z) id;have k:=d.r.r ((p.gR e).2.2 b Z) id;by_cases q:(s i).C b=(t i).C b
  .rw[<-q]at k;refine anv u b e Z _ m k λa f=>⟨⟨b+1,v,f,Z,?_⟩,by rw[SU f];omega⟩;rw[SR,BQ,if_pos q,ò];exact d.fL<|fc.fR _ _
  .refine anw u d (by rw[Ó];have:=LD s t i b;omega) b e Z _ _ (by simpa using q) m k λa y g f z=>⟨⟨b+1,y,f,Z,?_⟩,by rw[SU f];omega⟩;rwa[SR,BQ,if_neg q,<-Ċ]
def anz(u:Nat->È)(b:∀a,vn n j v (8:Nat) a->X a w): Î À zk (Exit.then K<|QQ X) (sE n j v (8:Nat) u) w:=by
 unfold sE;conv=>arg 2;whnf
 go_wp2_with fail
 exact b _ (gl _)
def anB(u:Nat->È)(d:ic w0 v xs w)(E:xs.length<=800)(F:i<8)(b h:Int)(p k:ByteArray)(G:(b==h)=Ú)(I:(p.toList==k.toList)=Ú)(l:w0.cell? ⟨n,i*18,Ä⟩=Ã (Â Æ b))(m:w0.cell? ⟨j,i*18,Ä⟩=Ã (Â Æ h))(f:w0.cell? ⟨n,i*18+1,Ä⟩=Ã (Í p))(g:w0.cell? ⟨j,i*18+1,Ä⟩=Ã (Í k)) (L:∀a e W,uj n j i e (0:Nat) a->ic w0 e xs W->Î À (à xp) (Q2<|vo n j i w0 xs s t) a W) (o:∀a e q,vn n j e ((i+1:Nat):Int) a->ic w0 e (xs++qz s t i 16) q->K a q): Î À zk (Exit.then K<|QQ X) (sE n j v i u) w:=by
 unfold sE;conv=>arg 2;whnf
 have J:=d.r.r l id;have M:=d.r.r m id;have N:=d.r.r f id;have O:=d.r.r g id;have P:(0:Int)<=(i:Int):=Z
 have S:(i:Int)<8:=Z
 have T:Ë.wrap ((i:Int)+1)=(i:Int)+1:=by rw[ó];omega
 have V:(0:Int)<=(i:Int)+1:=Z
 have Y:(i:Int)+1<=8:=Z
 have qn:(i:Int)<=(i:Int)+1:=Z
 have tR:((i:Int)+1).toNat=i+1:=Z
 have HB:¬9223372036854775807<(iH i).size+1:=by have:=xo i;omega
 have SV:ø ⟨#[97,98,99,100,101,102,103,104]⟩ i (i+1)=iH i:=U;obtain⟨ta,tc,rfl⟩:=jo d.fq;let⟨i0,r,x,y,z⟩:=í zi;have HI:=ff<|Á r<|Á x<|Á y z;have H:=ff<|Á d<|Á f<|Á g<|Á L o;clear d r x y z L o l m f g;go_wp2_with fail;go_region;go_wp2_with fail;go_region;go_wp2_with fail;go_region;go_wp2_with fail;refine Ý (Q:=Q2<|vo n j i w0 xs s t) ?_ (H.out.2.2.2.1 _ _ _ (gl _)<|(H.out.1).fL kp);rintro(_|(_|_|_|_)|_|_|_|_) a c hq;all_goals first|exact absurd hq id|skip
 let⟨SY,C,B⟩:=hq;obtain⟨c,rfl⟩:=C;unfold ui;have D:=ff B;clear B;go_wp2_with fail;exact H.out.2.2.2.2 _ _ _ (gl _) D.out
def anC(u:Nat->È)(d:ic w0 v xs w)(G:xs.length<=800)(I:i<8)(b l:Int)(p o:ByteArray)(J:(b==l)=Ú)(M:(p.toList==o.toList)=Ï)(q:w0.cell? ⟨n,i*18,Ä⟩=Ã (Â Æ b))(r:w0.cell? ⟨j,i*18,Ä⟩=Ã (Â Æ l))(h:w0.cell? ⟨n,i*18+1,Ä⟩=Ã (Í p))(k:w0.cell? ⟨j,i*18+1,Ä⟩=Ã (Í o)) (L:∀a e W,uj n j i e (0:Nat) a->ic w0 e (xs++[iH i++⟨#[123]⟩]) W->Î À (à xp) (Q2<|vo n j i w0 (xs++[iH i++⟨#[123]⟩]) s t) a W) (x:∀a e y,vn n j e ((i+1:Nat):Int) a->ic w0 e ((xs++[iH i++⟨#[123]⟩])++qz s t i 16) y->K a y): Î À zk (Exit.then K<|QQ X) (sE n j v i u) w:=by
 unfold sE;conv=>arg 2;whnf
 have N:=d.r.r q id;have O:=d.r.r r id;have P:=d.r.r h id;have S:=d.r.r k id;have T:(0:Int)<=(i:Int):=Z
 have V:(i:Int)<8:=Z
 have Y:Ë.wrap ((i:Int)+1)=(i:Int)+1:=by rw[ó];omega
 have Dk:(0:Int)<=(i:Int)+1:=Z
 have yr:(i:Int)+1<=8:=Z
 have qn:(i:Int)<=(i:Int)+1:=Z
 have tR:((i:Int)+1).toNat=i+1:=Z
 have HB:¬9223372036854775807<(iH i).size+1:=by have:=xo i;omega
 have SV:ø ⟨#[97,98,99,100,101,102,103,104]⟩ i (i+1)=iH i:=U;obtain⟨ta,tc,rfl⟩:=jo d.fq;let⟨i0,z,B,C,D⟩:=í zi;have f:=ff<|Á z<|Á B<|Á C D;have H:=ff<|Á d<|Á h<|Á k<|Á L x;clear d z B C D L x q r h k;go_wp2_with fail;go_region;go_wp2_with fail;go_region;go_wp2_with fail;go_region;go_wp2_with (at_builtin;refine Bu (base:=w0.heap.size) (n:=xs.length) (xs:=kz xs) (m:=1) U _ _ 25 U ù f.out.1 f.out.2.1 f.out.2.2.1 f.out.2.2.2 U U ((H.out.1).fL kp).fq ⟨_,0,Ä⟩ [Í<|iH i++⟨#[123]⟩] U Z U (λc u g=>fc.r (X:=fg) kp (ÿ w (Í<|iH i++⟨#[123]⟩) 9 c u g) id) (λu g=>by simp at g;subst g;rfl) (by unfold Ą;omega) Z ((H.out.1).fL kp).r.M ?_;intro E F c;obtain⟨ta2,tc2,rfl⟩:=jo c.fq;have g:=ff<|((H.out.1).fL kp).C c;clear c);refine Ý (Q:=Q2<|vo n j i w0 (xs++[iH i++⟨#[123]⟩]) s t) ?_ (H.out.2.2.2.1 _ _ _ (gl _)<|(g.out).fL kp);rintro(_|(_|_|_|_)|_|_|_|_) a c hq;all_goals first|exact absurd hq id|skip
 let⟨SY,E,g⟩:=hq;obtain⟨c,rfl⟩:=E;unfold ui;have F:=ff g;clear g;go_wp2_with fail;exact H.out.2.2.2.2 _ _ _ (gl _) F.out
def anD(u:Nat->È)(d:ic w0 v xs w)(I:xs.length<=800)(J:i<8)(b l:Int)(p o:ByteArray)(M:(b==l)=Ï)(N:(p.toList==o.toList)=Ú)(q:w0.cell? ⟨n,i*18,Ä⟩=Ã (Â Æ b))(r:w0.cell? ⟨j,i*18,Ä⟩=Ã (Â Æ l))(h:w0.cell? ⟨n,i*18+1,Ä⟩=Ã (Í p))(k:w0.cell? ⟨j,i*18+1,Ä⟩=Ã (Í o)) (L:∀a e W,uj n j i e (0:Nat) a->ic w0 e (xs++[iH i++⟨#[36]⟩]) W->Î À (à xp) (Q2<|vo n j i w0 (xs++[iH i++⟨#[36]⟩]) s t) a W) (x:∀a e y,vn n j e ((i+1:Nat):Int) a->ic w0 e ((xs++[iH i++⟨#[36]⟩])++qz s t i 16) y->K a y): Î À zk (Exit.then K<|QQ X) (sE n j v i u) w:=by
 unfold sE;conv=>arg 2;whnf
 have O:=d.r.r q id;have P:=d.r.r r id;have S:=d.r.r h id;have T:=d.r.r k id;have V:(0:Int)<=(i:Int):=Z
 have Y:(i:Int)<8:=Z
 have ov:Ë.wrap ((i:Int)+1)=(i:Int)+1:=by rw[ó];omega
 have Dk:(0:Int)<=(i:Int)+1:=Z
 have yr:(i:Int)+1<=8:=Z
 have qn:(i:Int)<=(i:Int)+1:=Z
 have tR:((i:Int)+1).toNat=i+1:=Z
 have HB:¬9223372036854775807<(iH i).size+1:=by have:=xo i;omega
 have SV:ø ⟨#[97,98,99,100,101,102,103,104]⟩ i (i+1)=iH i:=U;have Lb:(xs++[iH i++⟨#[36]⟩]).length=xs.length+1:=fp
 obtain⟨ta,tc,rfl⟩:=jo d.fq;let⟨i0,z,B,C,D⟩:=í zi;have f:=ff<|Á z<|Á B<|Á C D;have H:=ff<|Á d<|Á h<|Á k<|Á L x;clear d z B C D L x q r h k;go_wp2_with fail;go_region;go_wp2_with fail;go_region;go_wp2_with (at_builtin;refine Bu (base:=w0.heap.size) (n:=xs.length) (xs:=kz xs) (m:=1) U _ _ 25 U ù f.out.1 f.out.2.1 f.out.2.2.1 f.out.2.2.2 U U ((H.out.1).fL kp).fq ⟨_,0,Ä⟩ [Í<|iH i++⟨#[36]⟩] U Z U (λc u g=>fc.r (X:=fg) kp (ÿ w (Í<|iH i++⟨#[36]⟩) 9 c u g) id) (λu g=>by simp at g;subst g;rfl) (by unfold Ą;omega) Z ((H.out.1).fL kp).r.M ?_;intro E F c;obtain⟨G,tc1,rfl⟩:=jo c.fq;have g:=ff<|((H.out.1).fL kp).C c;clear c);have d3:=g.out.r.r H.out.2.1 id;have d4:=g.out.r.r H.out.2.2.1 id;go_region;go_wp2_with fail;refine Ý (Q:=Q2<|vo n j i w0 (xs++[iH i++⟨#[36]⟩]) s t) ?_ (H.out.2.2.2.1 _ _ _ (gl _)<|(g.out).fL kp);rintro(_|(_|_|_|_)|_|_|_|_) a c hq;all_goals first|exact absurd hq id|skip
 let⟨SY,F,E⟩:=hq;obtain⟨c,rfl⟩:=F;unfold ui;have G:=ff E;clear E;go_wp2_with fail;exact H.out.2.2.2.2 _ _ _ (gl _) G.out
def anE(u:Nat->È)(f:ic w0 v xs w)(N:xs.length<=800)(O:i<8)(b q:Int)(p r:ByteArray)(P:(b==q)=Ï)(S:(p.toList==r.toList)=Ï)(x:w0.cell? ⟨n,i*18,Ä⟩=Ã (Â Æ b))(y:w0.cell? ⟨j,i*18,Ä⟩=Ã (Â Æ q))(k:w0.cell? ⟨n,i*18+1,Ä⟩=Ã (Í p))(l:w0.cell? ⟨j,i*18+1,Ä⟩=Ã (Í r)) (L:∀a g W,uj n j i g (0:Nat) a->ic w0 g ((xs++[iH i++⟨#[36]⟩])++[iH i++⟨#[123]⟩]) W->Î À (à xp) (Q2<|vo n j i w0 ((xs++[iH i++⟨#[36]⟩])++[iH i++⟨#[123]⟩]) s t) a W) (z:∀a g B,vn n j g ((i+1:Nat):Int) a->ic w0 g (((xs++[iH i++⟨#[36]⟩])++[iH i++⟨#[123]⟩])++qz s t i 16) B->K a B): Î À zk (Exit.then K<|QQ X) (sE n j v i u) w:=by
 unfold sE;conv=>arg 2;whnf
 have T:=f.r.r x id;have V:=f.r.r y id;have Y:=f.r.r k id;have c4:=f.r.r l id;have e0:(0:Int)<=(i:Int):=Z
 have e1:(i:Int)<8:=Z
 have ov:Ë.wrap ((i:Int)+1)=(i:Int)+1:=by rw[ó];omega
 have Dk:(0:Int)<=(i:Int)+1:=Z
 have yr:(i:Int)+1<=8:=Z
 have qn:(i:Int)<=(i:Int)+1:=Z
 have tR:((i:Int)+1).toNat=i+1:=Z
 have HB:¬9223372036854775807<(iH i).size+1:=by have:=xo i;omega
 have SV:ø ⟨#[97,98,99,100,101,102,103,104]⟩ i (i+1)=iH i:=U;have G:(xs++[iH i++⟨#[36]⟩]).length=xs.length+1:=fp
 obtain⟨ta,tc,rfl⟩:=jo f.fq;let⟨i0,C,D,E,F⟩:=í zi;have e:=ff<|Á C<|Á D<|Á E F;have H:=ff<|Á f<|Á k<|Á l<|Á L z;clear f C D E F L z x y k l;go_wp2_with fail;go_region;go_wp2_with fail;go_region;go_wp2_with (at_builtin;refine Bu (base:=w0.heap.size) (n:=xs.length) (xs:=kz xs) (m:=1) U _ _ 25 U ù e.out.1 e.out.2.1 e.out.2.2.1 e.out.2.2.2 U U ((H.out.1).fL kp).fq ⟨_,0,Ä⟩ [Í<|iH i++⟨#[36]⟩] U Z U (λc u d=>fc.r (X:=fg) kp (ÿ w (Í<|iH i++⟨#[36]⟩) 9 c u d) id) (λu d=>by simp at d;subst d;rfl) (by unfold Ą;omega) Z ((H.out.1).fL kp).r.M ?_;intro J I o;obtain⟨M,tc1,rfl⟩:=jo o.fq;have h:=ff<|((H.out.1).fL kp).C o;clear o);have d3:=h.out.r.r H.out.2.1 id;have d4:=h.out.r.r H.out.2.2.1 id;go_region;go_wp2_with (at_builtin;refine Bu (base:=w0.heap.size) (n:=(xs++[iH i++⟨#[36]⟩]).length) (xs:=kz<|xs++[iH i++⟨#[36]⟩]) (m:=1) U _ _ 25 U ù e.out.1 e.out.2.1 e.out.2.2.1 e.out.2.2.2 U U ((h.out).fL kp).fq ⟨_,0,Ä⟩ [Í<|iH i++⟨#[123]⟩] U Z U (λc u d=>fc.r (X:=fg) kp (ÿ I (Í<|iH i++⟨#[123]⟩) 9 c u d) id) (λu d=>by simp at d;subst d;rfl) (by unfold Ą;omega) Z ((h.out).fL kp).r.M ?_;intro d o c;obtain⟨J,M,rfl⟩:=jo c.fq;have I:=ff<|((h.out).fL kp).C c;clear c);have d:=I.out;rw[G]at d;refine Ý (Q:=Q2<|vo n j i w0 ((xs++[iH i++⟨#[36]⟩])++[iH i++⟨#[123]⟩]) s t) ?_ (H.out.2.2.2.1 _ _ _ (gl _)<|(d).fL kp);rintro(_|(_|_|_|_)|_|_|_|_) a c hq;all_goals first|exact absurd hq id|skip
 let⟨SY,J,o⟩:=hq;obtain⟨c,rfl⟩:=J;unfold ui;have M:=ff o;clear o;go_wp2_with fail;exact H.out.2.2.2.2 _ _ _ (gl _) M.out
def DO(n j:Nat)(w0:É)(s t:St)(a:é)(w:É):Prop:=
 ∃(i:Nat) (v:È),vn n j v i a/\i<=8/\ic w0 v (qA s t i) w
def SZ(n j:Nat)(w0:É)(s t:St)(a:é)(w:É):Prop:=
 ∃(v:È),vn n j v (8:Nat) a/\ic w0 v (qA s t 8) w
def HC(a:é)(_:É):Nat:=match a.tmps.getD 11 ā with
 |Â _ i=>8-i.toNat
 |_=>0
def L_(b:vn n j v i y):HC y w=8-i:=by obtain⟨u,rfl⟩:=b;show 8-(i:Int).toNat=_;simp
def anF(B:mb n s h w0)(C:mb j t c w0)(a:é)(w:É)(E:DO n j w0 s t a w): Î À zk (Exit.then (λq g=>DO n j w0 s t q g/\HC q g<HC a w)<|QQ<|SZ n j w0 s t) a w:=by
 let⟨i,v,D,H,l⟩:=E;rw[L_ D];obtain⟨u,rfl⟩:=D;by_cases F:i=8
 .subst F;exact anz u λa q=>⟨v,q,l⟩
 have k:i<8:=Z
 have I:=SS s t i;let⟨m,o,_⟩:=B.gR k;let⟨p,r,_⟩:=C.gR k;have L:∀q:List ByteArray,q.length<=900->∀a b W,uj n j i b (0:Nat) a->ic w0 b q W->Î À (à xp) (Q2<|vo n j i w0 q s t) a W:=λq y a b W G z=>
  Ĉ (DJ n j i w0 q s t) LF ⟨0,b,G,Z,by show ic w0 b (q++[]) W;rwa[ò]⟩<|anx B C k y
 have x:∀q:List ByteArray,qA s t i++xn (s i).fw (t i).fw (s i).r (t i).r i=q->∀a b g,vn n j b ((i+1:Nat):Int) a->ic w0 b (q++qz s t i 16) g->DO n j w0 s t a g/\HC a g<8-i:=λq y a b g f z=>⟨⟨i+1,b,f,Z,by rwa[J',zj,<-Ċ,y]⟩,by rw[L_ f];omega⟩;by_cases d:(s i).fw=(t i).fw<;>by_cases e:(s i).r.toList=(t i).r.toList
 .exact anB u l Z k _ _ _ _ (by simpa using d) (by simpa using e) m p o r (L _ Z)<|x _<|by unfold xn;rw[if_pos d,if_pos e,ò,ò]
 .exact anC u l Z k _ _ _ _ (by simpa using d) (by simpa using e) m p o r (L _<|by rw[Ó];simp;omega)<|x _<|by unfold xn;rw[if_pos d,if_neg e,Ξ]
 .exact anD u l Z k _ _ _ _ (by simpa using d) (by simpa using e) m p o r (L _<|by rw[Ó];simp;omega)<|x _<|by unfold xn;rw[if_neg d,if_pos e,ò]
 .exact anE u l Z k _ _ _ _ (by simpa using d) (by simpa using e) m p o r (L _<|by rw[Ó,Ó];simp;omega)<|x _<|by unfold xn;rw[if_neg d,if_neg e,Ċ]
def anG(b:mb n s h w)(d:mb j t c w): Ò À 126 #[Å<|Ã ⟨n,0,Ä⟩,Å<|Ã ⟨j,0,Ä⟩] w λe a=>∃v,e=Ç v/\ic w v (qA s t 8) a:=by
 have L:∀a,vn n j (Ê Ä 0 0) (0:Nat) a->Î À (à zk) (QQ<|SZ n j w s t) a w:=λa f=>
  Ĉ (DO n j w s t) HC ⟨0,_,f,â _,ic.M w<|fc.fT _ _⟩<|anF b d
 have H:=ff L;clear L b d;go_enter Tryz.func126,Tryz.ntmps126;go_wp2_with fail;refine Ý (Q:=QQ<|SZ n j w s t) ?_ (H.out _ (gl _));rintro(_|(_|_)|_|_|_|_) a v hq;all_goals first|exact absurd hq id|skip
 let⟨k,g,e⟩:=hq;obtain⟨u,rfl⟩:=g;unfold sE;have i:=ff e;clear e;go_wp2_with fail;go_ret;exact⟨_,U,i.out⟩
end
def anH:(À.info? 5).map (λi=>(i.zero,i.size,i.bytes))=Ã (Ã<|Â aT 0,1,1):=fu
theorem fc.G(f:X p.block)(n:Nat):fc X w (w.freeze p n):=by
 by_cases b:n=0
 .rw[Đ,if_pos b];exact fc.fT _ _
 rw[Đ,if_neg b];refine⟨fp,λk _ g=> ?_,λa i o h=> ?_,λ_ a=>by have:=ZV a p n;rwa[Đ,if_neg b]at this⟩
 .grind
 .simp only[Û]at h;split at h
  .cases d:w.heap[i]? with
   |none=>rw[d]at h;cases h
   |some e=>
    have:=a _ _ d;rw[d]at h;cases e with
    |cells c t z=>simp only[ñ,è]at h;subst h;exact λx=>x
    |_=>exact absurd trivial this
  .exact a i o h
def M_:(À.info? 109).map (·.size)=Ã 2:=fu
def anI:liesAt À À.depth 109 (2/À.cellsOf 109) 0 109 1=Ú:=fu
def anJ(b:Nat)(w:É)(d:w.cell? ⟨b,0,Ä⟩=Ã (Å<|Ã ⟨b,0,Ä⟩)):Ò À 78 #[Å<|Ã ⟨b,0,Ä⟩] w λe a=>e=Ç (æ #[])/\a=w:=by let⟨j,c,_⟩:=Ì.1 M_;go_enter aI,aC;go_wp2;rw[Lib.run_neq_ptr_same w _ ĳ c];go_wp2;go_end0;exact⟨U,U⟩
def anK(b:Nat)(w:É)(g:w.cell? ⟨b,0,Ä⟩=Ã (Å Ä))(a:w.shape? b=Ã (109,2))(h:w.frozen? ⟨b,0,Ä⟩=Ï):Ò À 78 #[Å<|Ã ⟨b,0,Ä⟩] w λe d=>e=Ç (æ #[])/\d=w.setCell ⟨b,0,Ä⟩ (Å<|Ã ⟨b,0,Ä⟩):=by let⟨j,c,f⟩:=Ì.1 M_;go_enter aI,aC;go_wp2;rw[Lib.run_to_unsafe w ⟨b,0,Ä⟩ ĳ ŭ c (by rw[f];decide) a<|Nat.zero_lt_succ 1];simp only[į];rw[Ħ];go_wp2;rw[ţ Tryz.func129 fu fu fu fu];rw[Lib.run_noEscape];simp only[į];rw[Ħ];go_wp2;rw[Lib.run_from_unsafe w ⟨b,0,Ä⟩ ŭ ĳ c a anI];simp only[į];rw[Ħ];go_wp2;go_end0;exact⟨U,U⟩
theorem M'{base:Nat}{u h:õ}(j:P.underlying t=Ã (bl e))(k:P.underlying u=Ã .string)(p:P.info? e=Ã zJ)(G:zJ.zero=Ã (Â aT 0)) (D:zJ.size=1) (H:zJ.bytes=1) (E:w.ownsRow base e 1 v n l) (s:ByteArray) (J:n+s.size<=Ą) (Q:n+s.size<=140737488355328) (r:(Ō #[t,u] h #[v,Í s]).run P w=φ z W) (I:lW e=Ï):(j0 w->j0 W)/\(∀m,rm m w->rm m W):=by
 have S:n+s.size<=9223372036854775807:=by simp only[Ą]at J;omega
 have K:l.length=n:=by simpa using E.1
 rcases E.2 with⟨rfl,rfl⟩|⟨g,y,B,rfl,V,F,X,Y,L,htake⟩
 .by_cases C:s.size=0
  .have a:=Lib.run_firstCells_string (P:=P) w 1 s;rw[C]at a;simp[Ō,ř j,ř k,sizeOf,typeInfo,p,D,br,C,a]at r;grind
  .have b:=run_append_nil_string w t u h e zJ (Â aT 0) j k p G s Z Z (by rw[H];omega);rw[r]at b;cases b;exact⟨λa=>G3 a _ _ _,λ_ a=>G4 a _ _ _<|Ø I⟩
 .by_cases M:n+s.size<=y
  .have as6:B.size=y:=by simpa using L
   have b:=Lib.run_append_room_string w t u h e zJ j k p D g n y B F s M Z;rw[r]at b;cases b;refine⟨λa q o d=> ?_,λm a q c T N C d O=> ?_⟩
   .by_cases f:q=g
    .subst f;rw[ĝ w q B _ e _ F]at d;cases d;exact λx=>x
    .rw[ė w g q _ f]at d;exact a q o d
   .by_cases f:q=g
    .subst f;rw[ĝ w q B _ e _ F]at d;grind
    .rw[ė w g q _ f]at d;exact a q c T N C d O
  .have c:=E.cells U;have b:=Lib.run_append_grow_string w t u h e zJ (Â aT 0) j k p G ⟨g,0,Ä⟩ n y l (by rw[D];simpa using K) c s Z Z (by rw[H];exact ŕ Z Z);rw[r]at b;cases b;exact⟨λa=>G3 a _ _ _,λ_ a=>G4 a _ _ _<|Ø I⟩
def anL{P:Program}{ops:Array Oper}{rest:List Oper}{o:Oper}{a:Act}{Q:Exit->Act->World->Prop}{w:World}(RJ:o.guard=none)(sl x:Operand)(t u:TypeId) (ho:o.op=.call {callee:=.builtin .append,args:=#[sl,x],argTypes:=#[t,u]}) {base:Nat} {e:TypeId} {i:TypeInfo} (ht:P.underlying t=some (.slice e)) (hu:P.underlying u=some .string) (hi:P.info? e=some i) (hz:i.zero=some (.int .u8 0)) (w7:i.size=1) (xa:i.bytes=1) {v:Value} {n:Nat} {xs:List Value} (hs:a.eval sl=v) (ll:w.ownsRow base e 1 v n xs) (s:ByteArray) (hx:a.eval x=.string s) (Bv:n+s.size<=maxLen) (Bw:n+s.size<=140737488355328) (Bt:base<=w.heap.size) (h:∀v' w',w'.ownsRow base e 1 v' (n+s.size) (xs++Lib.strCells s)->fc (λk=>v.ownBlock=some k) w w'->wpList P ops Q rest (a.put o.dst v') w') (hT:lW e=false:=by decide):wpList P ops Q (o::rest) a w:=by refine ű RJ λK hK=> ?_;let⟨v',w',hr,h2,h3,_⟩:=Lib.run_append_own_string w base t u o.type e i ht hu hi hz w7 xa v n xs ll s Bv Bw Bt;have kp:fc (λk=>v.ownBlock=Ã k) w w':=⟨h3.size,λk hk q=>h3.block k hk λe=>q e.symm,(M' ht hu hi hz w7 xa ll s Bv Bw hr hT).1,(M' ht hu hi hz w7 xa ll s Bv Bw hr hT).2⟩;unfold Ń Ĥ;simp only[ho,ae,aO,af,Ų,ų,Ĵ,ļ,Ť,Ŵ,hs,hx,hr];exact hK _ _<|h v' w' h2 kp
structure oB(w0:É)(b:Nat)(bs:List È)(w:É):Prop where
 I:w0.heap.size<=b
 r:fc fg w0 w
 C:∃v,fi b [Å<|Ã ⟨b,0,Ä⟩,v] 109 w/\w.ownsRow w0.heap.size 5 1 v bs.length bs
def oB.fL(h:oB u b l w)(k:fc fg w W):oB u b l W:=by let⟨v,a,c⟩:=h.C;exact⟨h.I,h.r.fh k,v,a.I k id,ia c k λ_ _=>id⟩
theorem S0(h:oB u b l w)(s:ByteArray)(m:l.length+s.size<=140737488355328): Ò À 55 #[Å<|Ã ⟨b,0,Ä⟩,Í s] w λe i=>e=Ç (æ #[Â Ë s.size,.nilIface])/\oB u b (l++Lib.strCells s) i:=by
 let⟨B,c,n,o,p⟩:=í anH;let⟨v,a,d⟩:=h.C;obtain⟨C,D,rfl⟩:=jo d;have t:=a.r 0 _ U;have E:=a.r 1 _ U;have x:=h.r.M;have y:=jw d a A;have H:=ff<|Á h<|Á c<|Á n<|Á o<|Á p<|Á a d;go_enter Tryz.func55,Tryz.ntmps55;go_wp2_with (first
  |(go_at_call 78;refine(anJ b _ t).mono ?_;rintro e i ⟨rfl,j⟩;subst i)
  |(at_builtin;refine anL U _ _ 107 9 U ý đ H.out.2.1 H.out.2.2.1 H.out.2.2.2.1 H.out.2.2.2.2.1 U H.out.2.2.2.2.2.2 s U (by unfold Ą;omega) m x ?_;intro g f j k;obtain⟨q,r,rfl⟩:=jo j;have i:=H.out.2.2.2.2.2.1.I k y;have z:=i.r 0 _ U;have F:=i.r 1 _ U;have G:=i.C 1;have e:=ff (Á k (Á i j));clear k i j))
 go_ret2;have z:=e.out.2.1.gf 1<|Ê q (l.length+s.size) r;have g:fc (λk=>k=b) f (f.setCell ⟨b,1,Ä⟩<|Ê q (l.length+s.size) r):=fc.I (X:=λk=>k=b) U _<|Ù e.out.2.1.G;refine⟨U,H.out.1.I,(H.out.1.r.C e.out.1 λi c q=> ?_).C g λi c q=> ?_,_,z,?_⟩
 .have:=(H.out.2.2.2.2.2.2.lt i q).1;omega
 .have:=H.out.1.I;omega
 .have:=ia e.out.2.2 g λj q r=>jw e.out.2.2 e.out.2.1 A (by rw[q,r]);grind [Ó,Lib.strCells_length]
def anM:(À.info? 5).map (·.size)=Ã 1:=fu
def anN:À.cellsOf 5=1:=fu
structure HF(w0:É)(b:Nat)(p:È)(w:É):Prop where
 C:w0.heap.size<=b
 I:fc fg w0 w
 r:fi b [p,Ê Ä 0 0] 109 w
section
variable{w0:É}{p:È}
def HF.CL(h:HF w0 b (Å<|Ã ⟨b,0,Ä⟩) w)(f:d.size<=Ą):oB w0 b [] ((w.alloc<|Ð d 5).setCell ⟨b,1,Ä⟩<|Ê (Ã ⟨w.heap.size,0,Ä⟩) 0 d.size).drew.drew.drew:=by have a:=fc.gI fg w d 5;have c:fc (λk=>k=b) (w.alloc<|Ð d 5) ((w.alloc<|Ð d 5).setCell ⟨b,1,Ä⟩<|Ê (Ã ⟨w.heap.size,0,Ä⟩) 0 d.size):=fc.I (X:=λk=>k=b) U _<|Ù (h.r.I a id).G;have k:=(h.r.I a id).gf 1<|Ê (Ã ⟨w.heap.size,0,Ä⟩) 0 d.size;have m:=h.r.M;have g:(w.alloc<|Ð d 5).ownsRow w0.heap.size 5 1 (Ê (Ã ⟨w.heap.size,0,Ä⟩) 0 d.size) 0 []:= ⟨U,Ù ⟨w.heap.size,d.size,d,U,h.I.M,ì w _,â _,f,fp,fp⟩⟩;have l:oB w0 b [] ((w.alloc<|Ð d 5).setCell ⟨b,1,Ä⟩<|Ê (Ã ⟨w.heap.size,0,Ä⟩) 0 d.size):= ⟨h.C,(h.I.fh a).C c λi n q=>by have:=h.C;omega,_,k,ia g c λj q r=>by cases q;have e:w.heap.size=b:=r;omega⟩;exact((l.fL<|fc.fR _ _).fL<|fc.fR _ _).fL<|fc.fR _ _
theorem anO(h:HF w0 b (Å<|Ã ⟨b,0,Ä⟩) w)(n:Nat)(j:n<=281474976710656): Ò À 79 #[Å<|Ã ⟨b,0,Ä⟩,Â Ë n] w λe c=>e=Ç (æ #[])/\oB w0 b [] c:=by
 let⟨a,g,o,k⟩:=Lib.run_makeNoZero w.drew #[3] 107 5 ý n j;have i:Ë.wrap (Ë.wrap 0+(n:Int))=n:=by grind [ó]
 have p:(callFunc 130 #[Â Ë<|Ë.wrap<|Ë.wrap 0+(n:Int)]).run À w.drew=φ (.value<|Ê (Ã ⟨w.drew.heap.size,0,Ä⟩) n a.size) (w.drew.drew.drew.alloc<|Ð a 5):=by rw[i,ţ Tryz.func130 fu fu fu fu,g];rfl
 have e:=ff (Á (show w.drew.cell? ⟨b,1,Ä⟩=Ã (Ê Ä 0 0)from h.r.r 1 _ rfl) trivial);have d:=h.r.I (fc.gI fg w a 5) id;have l:=d.r 1 _ U;have f:=l;have q:=d.C 1;have r:∀W:É,(ν #[107,107] 3 #[Ê (Ã ⟨w.heap.size,0,Ä⟩) 0 a.size,Ê Ä 0 0]).run À W=φ (goInt 0) W:= λW=>run_copy_none W 107 107 3 5 _ _ 0 a.size 0 0 ý anM U;have m:=ff (h.CL<|k<|by unfold Ą;omega);clear i h d g;go_enter Tryz.func79,Tryz.ntmps79;go_wp2;refine lZ (λc=>c.cell? ⟨b,1,Ä⟩=Ã (Ê Ä 0 0)/\True) [] fu ?_;iterate 8 apply tk e.out
 apply tk e.out 9;apply tk e.out 10;apply tk e.out 11;apply tk e.out 12;apply tk e.out 13;refine gC 8 ?_;intro K c;go_simp;refine c.out _ _ (λ_=>⟨f,trivial⟩) ?_;refine gC 14 ?_;intro K c;go_simp;refine c.out _ _ (λ_=>⟨f,trivial⟩) ?_;refine gC 15 ?_;intro K c;go_simp;refine c.out _ _ (λ_=>⟨f,trivial⟩) ?_;refine lI fu ?_ _;go_wp2;go_end0;exact⟨U,m.out⟩
def anP(h:HF w0 b (Å Ä) w)(n:Nat)(l:0<n)(d:n<=281474976710656): Ò À 54 #[Å<|Ã ⟨b,0,Ä⟩,Â Ë n] w λe a=>e=Ç (æ #[])/\oB w0 b [] a:=by
 have f:w.shape? b=Ã (109,2):=by have i:w.heap[b]?=_:=h.r;simp[Ÿ,i]
 have c:=ff (show HF w0 b (Å<|Ã ⟨b,0,Ä⟩) (w.setCell ⟨b,0,Ä⟩<|Å<|Ã ⟨b,0,Ä⟩).drew from⟨h.C,(h.I.C (fc.I (X:=λk=>k=b) U _<|Ù h.r.G) λi k q=>by have:=h.C;omega).fh<|fc.fR _ _,(h.r.gf 0 _).I (fc.fR fg _) id⟩);have k:=ff<|Á (c.out.r.r 1 _ rfl) trivial;have q:=h.r.r 0 _ U;have g:=h.r.C 0;have m:¬((n:Int)<0):=Z
 have o:(0:Int)<(n:Int):=Z
 have p:Ë.wrap 0<(n:Int):=by rw[ó];omega
 go_enter Tryz.func54,Tryz.ntmps54;go_wp2_with (go_at_call 78;refine(anK b w q f g).mono ?_;rintro e a ⟨rfl,i⟩;subst a);refine lZ (λa=>a.cell? ⟨b,1,Ä⟩=Ã (Ê Ä 0 0)/\True) [] fu ?_;iterate 13 apply tk k.out
 refine lI fu ?_ _;go_wp2_with (go_at_call 79;refine(anO c.out n d).mono ?_;rintro e a ⟨rfl,i⟩;have j:=ff i;clear i);go_end0;exact⟨U,j.out⟩
def anQ{l:List UInt8}(h:oB w0 b (ô l) w)(d:l≠[]): Ò À 56 #[Å<|Ã ⟨b,0,Ä⟩] w λe K=>e=Ç (Í ⟨l.toArray⟩)/\fc fg w0 K:=by
 let⟨v,f,c⟩:=h.C;have n:l.length≠0:=by simpa using d
 rw[Ř]at c;obtain⟨g,e,a,rfl,t,o,u,s,y,z⟩:∃g e a,v=Ê (Ã ⟨g,0,Ä⟩) l.length e/\w0.heap.size<=g/\w.heap[g]?=Ã (Ð a 5 (0,0))/\l.length<=e/\e<=Ą/\a.size=e*1/\a.toList.take (l.length*1)=ô l:=by
  rcases c.2 with⟨_,i⟩|⟨g,e,a,j,r⟩
  .exact absurd i n
  .exact⟨g,e,a,j,r⟩
 have m:=ff (Á (show w.drew.cell? ⟨b,1,Ä⟩=Ã (Ê (Ã ⟨g,0,Ä⟩) l.length e)from f.r 1 _ rfl) trivial);have B:∀W:É,(υ #[107] 177 #[Ê (Ã ⟨g,0,Ä⟩) l.length e]).run À W=φ (Å<|Ã ⟨g,0,Ä⟩) W:=λW=>
  Lib.run_unsafeSliceData_row _ _ _ _ _ _ Z
 have C:(Ő #[177,3] 9 #[Å<|Ã ⟨g,0,Ä⟩,Â Ë l.length]).run À w.drew=φ (Í ⟨l.toArray⟩) (w.drew.freeze ⟨g,0,Ä⟩ l.length):=by refine Ĺ w.drew 177 3 9 5 Ū anN g a.size (by have i:w.drew.heap[g]?=Ã (Ð a 5 (0,0)):=o;simp[Ÿ,i]) l d Z (by unfold Ą at s;omega) ?_;intro j x i;have:=c.cells U j (Â aT x.toNat) (by simp[ô,i]);exact this
 have x:=ff ((h.r.fh<|fc.fR _ _).C (fc.G (X:=λk=>k=g) (p:=⟨g,0,Ä⟩) U l.length) λi j q=>by omega);have j:=ff (Á ((fc.G (X:=λk=>k=g) (p:=⟨g,0,Ä⟩) rfl l.length).r m.out.1 λq=>jw c f A<|by show Ã g=Ã b;rw[show g=b from(show b=g from q).symm]) trivial);go_enter Tryz.func56,Tryz.ntmps56;go_wp2;refine lZ (λK=>K.cell? ⟨b,1,Ä⟩=Ã (Ê (Ã ⟨g,0,Ä⟩) l.length e)/\True) [] fu ?_;iterate 10 apply tk m.out
 apply gC 10;intro K i;go_simp;apply i.out _ _ λ_=>j.out;apply gC 11;intro K i;go_simp;apply i.out _ _ λ_=>j.out;refine lI fu ?_ _;go_wp2;go_ret;exact⟨U,x.out⟩
end
end Go.Proofs.Y.iw
