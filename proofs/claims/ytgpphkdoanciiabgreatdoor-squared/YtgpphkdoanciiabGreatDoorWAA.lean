/- Squared: the texts of the proof, packed by program out of some 250: remarks struck, names and blanks shortened, for the limit of a claim's size. -/
import Derived.KernelRfl
import Derived.Conc.Own
import Derived.Conc.Events
import Derived.Laws.Sem
import Derived.Conc.Own5
import Derived.Conc.CompanyDraw
import Derived.Conc.Know
import Derived.Conc.Beside
import Derived.Conc.MarkLaws
import Derived.Conc.CrowdComm
import Derived.Conc.CrowdTrace
import Derived.Conc.CrowdBase
set_option linter.all false
set_option maxRecDepth 1000000
set_option maxHeartbeats 8000000
open Option renaming some->À,none->ë,map_eq_some_iff->ģ,map_some->bH
open Go renaming TypeId->Á,Value->Â,World->Æ,Goroutine->Ó,Program->Õ,Operand->Ö,stepG->Ù,Addr->Ú,FuncId->à,execOp->ì,underlying->ø,resolve->ù,IntKind->ú,Event->ý,run_program->ă,variablesAt->Ą,invoke->č,builtin->Ē,Sem->ē,loadBytes->ĕ,Frame->Ę,Trace->ğ,BinOp->ġ,results->Ī,behindNumber->Į,FloatKind->ı,callFunc->ĵ,undef->ľ,yielded->ł,loadCellsFrom->Ō,convert->Œ,movedNumber->ŕ,Item->ś,movedPointer->Ţ,binOp->Ũ,elemOf->Ū,sameAddr->Ŭ,deafBehind->ŭ,eqGuard->ŷ,typeInfo->Δ,partners->Η,RuntimeError->Ι,storeCells->Κ,Next->Ο,cellAtBytes->ξ,choose->π,Tape->ψ,zeroValue->ω,loadVar->ae,Code->ak,store->ar,Oper->av,BoundsCode->ax,sizeOf->ay,storeVar->aJ,nilAhead->aR,lone->aU,load->aX,noView->aY,liesAt->aZ,findLabel->bj,stringish->bm,Unsupported->br,followBlind->bx,Act->bF,askRoom->bP,Machine->bR,Question->bU,asBool->bW,asAddr->bX,fieldPlace->bY,numberAt->b9,asNumber->cg,getObj->cm,shape->cu,exitTo->cC,gotoIn->cD,mayBeOne->cJ,runT->cW,MemOp->cX,loadCells->cZ,rowAt->c8,program->dc,asIntOf->de,viewAt->di,byteOf->dj,unwind->du,runN->dw,cellsIn->dx,asInt->dB,TypeDesc->dG,runN_add->dJ,Touch->dN,step->dR,Loc->dS,newRow->dT,PanicEntry->eh,isAgg->ey,Race->eG,newVar->eM,asAgg->eN,newObj->eO,frozen->eP,freeze->eX
open Bool renaming false->Ã,false_eq_true->Å,true->É,and_eq_true_iff->Ü,not_true->þ,not_false->Ă,and_eq_true->ě,or_eq_true_iff->Ŝ,eq_iff_iff->Χ,or_eq_true->bI
open Go.Sem renaming run_bind->Ä,runT_bind'->Ñ,run->ã,bind->ç,runT->é,run_bind'->Ĵ,bind_assoc'->ř,runT_eq->ź,runT_fst->Ρ,pure->aI,store->c9,halt->ew
open Or renaming inl->Ç,inr->Î
open Go.Result renaming andThen_ok->È,ok->ĥ,halt->bV
open Go.Op renaming operands->Ê,equal->ó,maxDepth->ā,eqGuardIn->į,twoPlaces->š,equalIn->Λ,addrSub->Μ,addrCmp->Ν,addrMod->Ξ,call->Ω,intDiv->ah,shift->aK,convert->aN,stringOp->bu,unary->bZ,makeInterface->cI,floatArith->cS,complexOp->dp,buildSlice->dD,intArith->dE,floatCmp->dF,binOp->dU,makeSlice->dW,fieldAddr->dX,indexAddr->dY,intBits->ea,nilCheck->eD,intCmp->eE
open Array renaming getElem?_eq_some_iff->Ë,getElem?_setIfInBounds_ne->Ï,getElem?_setIfInBounds_self_of_lt->Ò,mem_of_getElem?->Û,getElem?_eq_getElem->Ý,getElem?_append_right->ć,empty_append->Ď,append_empty->ď,mapM_eq_mapM_toList->Ĕ,mem_append->Ĝ,getElem?_push_lt->Ģ,getD_eq_getD_getElem?->ĩ,replicate->ĺ,append_assoc->Ļ,append_singleton->Ł,all_eq_true->Ń,getElem?_modify->Ň,mem_iff_getElem->ŉ,getElem?_setIfInBounds->Ś,getElem_map->ŵ,getElem_extract->κ,forIn_toList->aE,range->dC
open Go.stepG renaming exec->Ì,apply->bC
open Go.MemOp renaming ofEvents->Í
open Go.GoStatus renaming running->Ð,finished->Ğ,blocked->Ů
open Nat renaming lt_of_lt_of_le->Ô,le_refl->ß,le_trans->õ,exists_eq_add_of_le->Ε,div_le_div_right->ο,add_assoc->cP,le_of_eq->dz,zero_le->dA
open List renaming map_toArray->Ø,map_cons->â,map_nil->ä,mem_cons_self->î,mem_cons_of_mem->ò,eq_nil_of_length_eq_zero->Ā,zipIdx_cons->Ĭ,mem_cons->œ,mem_singleton->ū,foldlM_cons->Ζ,filter_eq_nil_iff->Υ,foldlM_nil->ζ,forIn_cons->η,mapM_cons->ν,forIn_nil->φ,map_eq_nil_iff->aj,flatMap_cons->aV,mapM_nil->cR
open Go.Value renaming pointer->Þ,int->Ć,string->ħ,bool->Ľ,tuple->ſ,nilIface->aW,slice->bS,nilFunc->bT,chan->eu,func->eL
open Go.Item renaming inRegion->á,code->Đ,inLoop->dq,inBlock->dH,inScope->dI
open Go.Act renaming eval->å
open Go.IntKind renaming u64->æ,i64->Ŋ,u32->ŗ
open Go.MemAct renaming ofEvent->è,touch?->ÿ,mark->Ř
open Go.Builtin renaming unsafeString_->ê,unsafeAdd_->ñ,unsafeSliceData_->ė,min2->Ĳ,append_->ĸ,firstCells->ļ,min_->ń,copy_->ő,len_->ş,cap_->Š,zeroCells->Ŷ,lenOf->Α,holdsCells->aB,mayShare->bb,unsafeSliceData->bl,unsafeString->cV
open Go.Conc renaming mem_ofEvents->í,touchAt->Ě,crowd->ķ,woken->ţ,stepG_region_draw->Ż,parked->Γ,Deaf->Τ,rcase->θ,stepG_unwanted->υ,g?_old->aG,knows_own->bn,deafBehind_still->bq,stepG_value->bA,stepG_enter->bB,Knows->bD,stepG_cond->cE,mem_listed->cF,stepG_none->cG,enter_at->cH,deaf_old->cN,touch_of->dO,act?_old->dQ,hb_app->ei,touch_mute->ek,counts_old->ep,act?_of->eC
open Go.Next renaming value->ï,enter->ũ,skip->aH
open Go.TypeDesc renaming pointer->ð,unsafePointer->đ,string->ę,int->Β,struct->df,slice->dh
open Go.Call renaming operands->ô
open Go.Conv renaming unsafePointer->ö,bytesToString->ü,seenAt->Ž,runesToString->aF,floatToFloat->aQ,intToString->bh,floatToInt->bK,intToInt->cT
open Go.Loc renaming cell->û,mark->ů
open Ne renaming symm->ą
open Go.World renaming frozen?->Ĉ,setCell->ĉ,freeze->Ė,cell?->Ġ,farLoad->ŋ,farStore->Ŧ,shape?->Θ,setChan->au,noCell->aP,viewStore->bJ
open Go.Extern.BytealgMakeNoZero renaming makeNoZero->Ċ,digits->ņ
open Go.Mode renaming atomic->ċ,plain->Ť
open Go.Obj renaming cells->Č,pending->Ÿ,chan->χ
open Go.Callee renaming builtin->ĝ,value->cj
open Option.some renaming inj->Ĥ,injEq->ž
open Go.Region renaming wanted->Ħ,schedule->bM,Mode->eJ
open Go.Instr renaming sliceBounds->Ĩ,sliceBound->ī,buildSlice->ĭ,storeAt->ĳ,makeSlice->Ĺ,extract->ō,fieldAt->Ŏ,indexAt->ŏ,sliceAt->Ő,makeInterface->ŝ,loadAt->Ş,sureAddr->ŧ,alloc->Ű,field->ű,slice->Ų,index->ų,build->Ŵ,panic->ż,box->ag,fill->az
open Go.Deferred renaming ofValue->İ
open Go.Mark renaming releaseMerge->Ķ,disable->cK,acquire->cL,noRoom->da,enable->dy,release->dP
open Go.Extern.AbiNoEscape renaming same->Ŀ
open Go.Halt renaming unsupported->ŀ
open Go.Trace renaming g?->Ņ
open Go.Stepped renaming next->ň
open Go.Touch.Kind renaming atomic->Ŕ,plain->eZ
open Go.Frame renaming raise->Ŗ,finish_at->ε,finish->aT,catches->cU,enter->dL
open Go.Unsupported renaming unsafePointer->ť
open Go.GStep renaming after->Ź,go->aS,ended->eV
open Go.Goroutine renaming again->ι
open Except renaming bind->ρ,pure->ς,error->bG,map->ck
open Go.Op.Complex renaming corrected->σ,quotient->ai,product->aC,arith->bg,conv->bL,cmp->cw,mul->cx,add->cy,sub->cz,quo->cA
open Go.BinOp renaming eql->aA,neq->aL
open Go.Operand renaming func->aO,const->dZ,global->ez
open Go.Code renaming cond->bz,region->bQ,refuse->dt,label->eb,block->ec,scope->ef,skip->eR,loop->eS,exit->eT,goto->eU
open Go.ConcN renaming sumTo->bE,fork_knows->cO
variable{i n j b k m J j9 j7 j6:Nat}{w u W jX:Æ}{v x z jQ:Â}{g:Ó}{a p:Ú}{h c:Int}{e t T:Á}{d q:Array Â}{P:Õ}{y:bF}{B:ByteArray}{X:Nat->Prop}{O:Option Ú}{l:List Â}{yQ:Bool}{K H:bF->Æ->Prop}{o:av}{D:Nat->Nat}{E:Array Ó}{L:List ś}{jJ:List Nat}{qX:List Ę}{qQ:Ö}{qJ:ğ}{zX:dS->Prop}{zQ:List Int}{zJ:Go.TypeInfo}{xX:Ö->Â}{xQ:ψ}{xJ:Nat×Nat}{wX:ak}{wQ:cX}{wJ:Array Bool}{vX:List ByteArray}{vQ:Â->Æ->Prop}{vJ:Go.Exit->bF->Æ->Prop}{yX:eJ}{Q:Array av}{f:Ę}{V:Array ý}{F:à}{s:Go.Func}
namespace Go.Proofs
theorem U{A:Sort _}{a:A}:a=a:=rfl
theorem Z{p:Prop}(h:p:=by omega):p:=h
theorem A{p:Prop}(h:p:=by decide):p:=h
theorem fq{p:Prop}(h:p:=by simp):p:=h
theorem fv{p:Prop}(h:p:=by kernel_rfl):p:=h
theorem fZ{p:Prop}(h:p:=by rfl):p:=h
end Go.Proofs
namespace Go.Proofs.Y.Lift
open Go
abbrev fi{α:Type}:α->Prop:=λ_=>False
structure fu where
 jD:Nat->Nat->Prop
 C:Nat
instance:CoeFun fu λ_=>Nat->Nat->Prop:=⟨fu.jD⟩
def Bi(Y:fu):Prop:=(∀i j a,Y i j->Y i a->j=a)/\(∀i a j,Y i j->Y a j->i=a)/\(∀i j,Y i j->(i<Y.C↔j<Y.C))
def fu.r(Y a:fu):Prop:=(∀i j,Y i j->a i j)/\(Bi Y->Bi a)/\a.C=Y.C
def fu.N(Y:fu)(r a:Nat):fu:=⟨λi j=>Y i j\/(i=r/\j=a),Y.C⟩
def fu.M(Y:fu):Y.r Y:=⟨λ_ _ h=>h,id,U⟩
theorem fu.I{a b c:fu}(h:a.r b)(k:b.r c):a.r c:=⟨λi j x=>k.1 i j<|h.1 i j x,λx=>k.2.1<|h.2.1 x,k.2.2.trans h.2.2⟩
theorem fu.S{Y:fu}{r:Nat}(c:∀j,¬Y r j)(d:∀a,¬Y a i)(f:Y.C<=r)(g:Y.C<=i):Y.r (Y.N r i):=by
 refine⟨λ_ _ h=>Ç h,λb=>⟨?_,?_,?_⟩,U⟩
 .rintro a j k (x|⟨rfl,rfl⟩) (y|⟨e,rfl⟩)
  .exact b.1 _ _ _ x y
  .grind
  .grind
  .rfl
 .rintro a k j (x|⟨rfl,rfl⟩) (y|⟨rfl,e⟩)
  .exact b.2.1 _ _ _ x y
  .grind
  .grind
  .rfl
 .rintro a j (x|⟨rfl,rfl⟩)
  .exact b.2.2 _ _ x
  .show(a<Y.C↔j<Y.C);omega
def ia(Y:fu)(a b:Ú):Prop:=Y a.block b.block/\a.off=b.off/\a.spot=b.spot
def ia.r{Y b:fu}(h:Y.r b)(r:ia Y a p):ia b a p:=⟨h.1 _ _ r.1,r.2⟩
def ia.C{Y:fu}(r:ia Y a p)(n:Nat):ia Y (a.add n) (p.add n):=by
 let⟨b,c,d⟩:=r;unfold Addr.add;by_cases e:n=0
 .rw[if_pos e,if_pos e];exact⟨b,c,d⟩
 .rw[if_neg e,if_neg e];exact⟨b,by simp[c],U⟩
inductive fp(Y:fu):Â->Â->Prop
 |mC (b:Bool):fp Y (Ľ b) (Ľ b)
 |iF (k:ú) (n:Int):fp Y (Ć k n) (Ć k n)
 |kV (s:ByteArray):fp Y (ħ s) (ħ s)
 |lQ:fp Y (Þ ë) (Þ ë)
 |jW {a a':Ú} (h:ia Y a a'):fp Y (Þ<|À a) (Þ<|À a')
 |ov (n c:Nat):fp Y (bS ë n c) (bS ë n c)
 |kL {a a':Ú} (h:ia Y a a') (n c:Nat):fp Y (bS (À a) n c) (bS (À a') n c)
 |vf:fp Y bT bT
 |fn (f:Fn):fp Y (eL f #[] #[]) (eL f #[] #[])
 |vg:fp Y aW aW
 |vh:fp Y (eu ë) (eu ë)
 |vi:fp Y (.map ë) (.map ë)
 |yl (t:Á) {v v':Â} (h:fp Y v v'):fp Y (.iface t v) (.iface t v')
 |oK {cs lR:Array Â} (hs:cs.size=lR.size) (h:∀i (h1:i<cs.size) (h2:i<lR.size),fp Y cs[i] lR[i]):fp Y (.agg cs) (.agg lR)
 |nR {cs lR:Array Â} (hs:cs.size=lR.size) (h:∀i (h1:i<cs.size) (h2:i<lR.size),fp Y cs[i] lR[i]):fp Y (ſ cs) (ſ lR)
def fp.fQ{Y a:fu}(h:Y.r a)(r:fp Y v x):fp a v x:=by
 induction r with
 |mC b=>exact .mC b
 |iF k n=>exact .iF k n
 |kV s=>exact .kV s
 |lQ=>exact .lQ
 |jW b=>exact .jW (b.r h)
 |ov n c=>exact .ov n c
 |kL b n c=>exact .kL (b.r h) n c
 |vf=>exact .vf
 |fn f=>exact .fn f
 |vg=>exact .vg
 |vh=>exact .vh
 |vi=>exact .vi
 |yl t _ b=>exact .yl t b
 |oK c _ b=>exact .oK c b
 |nR c _ b=>exact .nR c b
structure fT(Y:fu)(cs lR:Array Â):Prop where
 r:cs.size=lR.size
 C:∀i (h1:i<cs.size) (h2:i<lR.size),fp Y cs[i] lR[i]
def fT.I{Y a:fu}(h:Y.r a){cs:Array Â}(r:fT Y cs d):fT a cs d:=⟨r.r,λi b c=>(r.C i b c).fQ h⟩
theorem fT.S{Y:fu}(r:fT Y d q)(i:Nat):(d[i]?=ë/\q[i]?=ë)\/∃v b,d[i]?=À v/\q[i]?=À b/\fp Y v b:=by
 by_cases h:i<d.size
 .have a:i<q.size:=by rwa[<-r.r]
  exact Î ⟨d[i],q[i],Ý h,Ý a,r.C i h a⟩
 .have a:¬i<q.size:=by rwa[<-r.r]
  grind
def fT.N(Y:fu):fT Y #[] #[]:=⟨U,λi h=>absurd h fq⟩
theorem fT.UY{Y:fu}(r:fT Y d q)(h:fp Y v x):fT Y (d.push v) (q.push x):=by
 refine⟨by simp[r.r],λi b c=> ?_⟩;simp only[Array.getElem_push];have e:=r.r;by_cases a:i<d.size
 .rw[dif_pos a,dif_pos Z];exact r.C i a Z
 .grind
theorem fT.qD{Y:fu}(r:fT Y d q)(n:Nat)(h:fp Y v x):fT Y (d.setIfInBounds n v) (q.setIfInBounds n x):=by
 refine⟨by simp[r.r],λi c e=> ?_⟩;have f:i<d.size:=by simpa using c
 have g:i<q.size:=by simpa using e
 have a:(d.setIfInBounds n v)[i]?=if n=i then À v else d[i]?:=by grind
 have b:(q.setIfInBounds n x)[i]?=if n=i then À x else q[i]?:=by grind
 rw[Ý c]at a;rw[Ý e]at b;by_cases j:n=i
 .grind
 .rw[if_neg j]at a b;rw[Ý f]at a;rw[Ý g]at b;injection a with a;injection b with b;rw[a,b];exact r.C i f g
def fT.tJ{Y:fu}{cs b:Array Â}(r:fT Y cs d)(t:fT Y q b):fT Y (cs++q) (d++b):=by
 refine⟨by simp[r.r,t.r],λi c g=> ?_⟩;have e:=r.r;have f:=t.r;simp only[Array.getElem_append];by_cases a:i<cs.size
 .rw[dif_pos a,dif_pos Z];exact r.C i a Z
 .rw[dif_neg a,dif_neg Z];have:=t.C (i-cs.size) (by simp at c;omega) (by simp at c;omega);simpa[e]using this
def fT.FD{Y:fu}(r:fT Y d q)(a b:Nat):fT Y (d.extract a b) (q.extract a b):=by refine⟨by simp[r.r],λi c e=> ?_⟩;rw[κ ..,κ ..];exact r.C _ _ _
def fT.M{Y:fu}(h:fp Y v x):fT Y #[v] #[x]:= ⟨U,λi a b=>by have:i=0:=(by simpa using a);subst this;exact h⟩
def fp.gU{Y:fu}(h:fp Y v x):fT Y v.cells x.cells:=by
 cases h with
 |oK a h=>exact⟨a,h⟩
 |mC b=>exact fT.M<|.mC b
 |iF k n=>exact fT.M<|.iF k n
 |kV s=>exact fT.M<|.kV s
 |lQ=>exact fT.M .lQ
 |jW b=>exact fT.M<|.jW b
 |ov n c=>exact fT.M<|.ov n c
 |kL b n c=>exact fT.M<|.kL b n c
 |vf=>exact fT.M .vf
 |fn f=>exact fT.M<|.fn f
 |vg=>exact fT.M .vg
 |vh=>exact fT.M .vh
 |vi=>exact fT.M .vi
 |yl t b=>exact fT.M<|.yl t b
 |nR a h=>exact fT.M<|.nR a h
def ym:Â->Bool
 |.agg _|ſ _=>Ã
 |_=>É
def FE(e:Á)(n:Nat):Prop:=(e=298\/e=299)/\n<=16
class Ap (P:Õ):Prop where
 lt:∀e n,FE e n->n<P.cellsOf e
def CQ(e:Á)(n a:Nat):Prop:=n=a\/(n<=a/\FE e n)
structure pb(Y:fu)(s:Prop)(e:Á)(c c':Array Â):Prop where
 r:∀i (_:i<c.size) (_:i<c'.size),fp Y c[i] c'[i]
 I:c.size<=c'.size
 C:c.size=c'.size\/(s/\FE e c.size)
section
variable{Y d:fu}{s:Prop}{c c':Array Â}
def pb.M(h:fT Y c c'):pb Y s e c c':=⟨h.C,by rw[h.r];exact ß _,Ç h.r⟩
def pb.N(h:pb Y s e c c')(a:¬s):fT Y c c':=⟨h.C.resolve_right λq=>a q.1,h.r⟩
def pb.fQ(h:pb Y s e c c')(l:Y.r d):pb d s e c c':=⟨λi a b=>(h.r i a b).fQ l,h.I,h.C⟩
theorem pb.Aq(h:pb Y s e c c')(i:Nat):(c[i]?=ë/\True)\/∃v a,c[i]?=À v/\c'[i]?=À a/\fp Y v a:=by
 by_cases q:i<c.size
 .have b:=Ô q h.I;exact Î ⟨c[i],c'[i],Ý q,Ý b,h.r i q b⟩
 .grind
def pb.acY(h:pb Y s e c c'):CQ e c.size c'.size:=h.C.imp id λq=>⟨h.I,q.2⟩
end
inductive fI(P:Õ){α:Type}(V:fu->α->α->Prop):fu->ē α->ē α->Prop
 |fE {Y:fu} {a a':α} (h:V Y a a'):fI P V Y (aI a) (aI a')
 |gC {Y:fu} {a a':Ú} {k k':Â->ē α} (ha:ia Y a a') (hk:∀v v',fp Y v v'->fI P V Y (k v) (k' v')):fI P V Y (.load Ť a k) (.load Ť a' k')
 |jd {Y:fu} {a a':Ú} {v v':Â} {k k':ē α} (ha:ia Y a a') (hv:fp Y v v') (hk:fI P V Y k k'):fI P V Y (c9 Ť a v k) (c9 Ť a' v' k')
 |vj {Y:fu} {c c':Array Â} {e:Á} {k k':Nat->ē α} (hc:fT Y c c') (hk:∀r r',(∀j,¬Y r j)->(∀i,¬Y i r')->Y.C<=r->Y.C<=r'->fI P V (Y.N r r') (k r) (k' r')):fI P V Y (.new (Č c e) k) (.new (Č c' e) k')
 |vk {Y:fu} {r r':Nat} {k k':Option (TypeId×Nat)->ē α} (hr:Y r r') (hk:∀e n n',CQ e n n'->fI P V Y (k<|À (e,n)) (k'<|À (e,n'))):fI P V Y (.shape r k) (.shape r' k')
 |Nf {Y:fu} {a a':Ú} {k k':Bool->ē α} (ha:ia Y a a') (hk:∀b b',(b'=É->b=É)->fI P V Y (k b) (k' b')):fI P V Y (.frozen a k) (.frozen a' k')
 |Ar {Y:fu} {q:bU} {k k':Nat->ē α} (hk:∀n,fI P V Y (k n)<|k' n):fI P V Y (.choose q k) (.choose q k')
 |IZ {Y:fu} {k k':Õ->ē α} (hk:fI P V Y (k P) (k' P)):fI P V Y (.program k) (.program k')
 |CR {Y:fu} {m:Mark} {k k':ē α} (hm:m=da\/∃f,m=.extern f) (hk:fI P V Y k k'):fI P V Y (.mark m k) (.mark m k')
 |fR {Y:fu} {h:Halt} {m:ē α}:fI P V Y (ew h) m
 |oL {Y:fu} {m m':ē α} (h:∀u x u',m.run P u≠ĥ x u'):fI P V Y m m'
def wA{α β:Type}{m:ē α}{f:α->ē β}(h:∀u x b,m.run P u≠ĥ x b):∀u x b,(m.bind f).run P u≠ĥ x b:=by
 intro u x b e;have c:(m>>=f).run P u=ĥ x b:=e;rw[Ä]at c;cases d:m.run P u with
 |ok a w=>exact h _ _ _ d
 |halt z w=>rw[d]at c;cases c
def fI.lS{α β:Type}{V:fu->α->α->Prop}{l:fu->β->β->Prop}{Y:fu}{m o:ē α}{f p:α->ē β}(h:fI P V Y m o) (g:∀i a k,Y.r i->V i a k->fI P l i (f a) (p k)):fI P l Y (m.bind f) (o.bind p):=by
 induction h with
 |fE h=>exact g _ _ _ (fu.M _) h
 |gC j _ d=>exact .gC j λv c b=>d v c b g
 |jd j b _ d=>exact .jd j b (d g)
 |vj q _ d=>exact .vj q λr s c e n v=>d r s c e n v λi a k t b=>g i a k (fu.I (fu.S c e n v) t) b
 |vk b _ d=>exact .vk b λe n v c=>d e n v c g
 |Nf j _ d=>exact .Nf j λb c v=>d b c v g
 |Ar _ d=>exact .Ar λn=>d n g
 |IZ _ d=>exact .IZ (d g)
 |CR c _ d=>exact .CR c (d g)
 |fR=>exact .fR
 |oL h=>exact .oL (wA h)
def yn:Â->Bool
 |Ć .u8 _=>É
 |_=>Ã
def CS(c:Array Â):Prop:=∀(k:Nat) (v:Â),c[k]?=À v->yn v=Ã
structure ji(Y:fu)(Sh:Nat->Prop)(u w:Æ):Prop where
 S:u.tape=w.tape
 N:u.drawn=w.drawn
 C:Bi Y
 I:Y.C<=u.heap.size
 M:Y.C<=w.heap.size
 r:∀i j,Y i j->∃c c' e fr wB,u.heap[i]?=À (Č c e fr)/\w.heap[j]?=À (Č c' e wB)/\pb Y (Sh j) e c c'/\(Sh j->fr.1=0/\c.size<=fr.2/\wB.2<=fr.2/\0<c.size/\(CS c\/FE e c.size))/\(¬Sh j->fr=wB)/\fr.2<=c.size
structure nS(Y:fu)(Sh:Nat->Prop)(w w':Æ):Prop where
 r:w.heap.size<=w'.heap.size
 I:w'.os=w.os
 M:w'.output=w.output
 S:w'.tape=w.tape
 C:∀j,j<w.heap.size->(∀i,¬Y i j)->w'.heap[j]?=w.heap[j]?
 N:∀j,Sh j->j<w.heap.size->w'.heap[j]?=w.heap[j]?
def As(Y:fu)(b:Nat->Prop)(e:ý):Prop:=
 (∃(a:Ú) (i:Nat),e.loc=û a/\Y i a.block/\e.sync=Ã/\(e.write=É->¬b a.block))\/e.loc=ů da\/∃f,e.loc=ů (.extern f)
def wC{α:Type}{m:Mode}{k:ē α}(h:ym v=É): ã P (c9 m a v k) w=(match w.cell? a with
 |some _=>if w.frozen? a then bV (ŀ<|ť "a write to bytes that a string shares") w else k.run P (w.setCell a v)
 |none=>match w.farStore P a v (m==ċ)with
  |.ok (w,_)=>k.run P w
  |bG h=>bV h w):=by
 cases v<;>first|rfl|cases h
def acZ{α:Type}{m:Mode}{k:ē α}(h:ym v=É): é P (c9 m a v k) w V=(match w.cell? a with
 |some _=>
  if w.frozen? a then(bV (ŀ<|ť "a write to bytes that a string shares") w,V)
  else k.runT P (w.setCell a v) (V.push ⟨û a,É,m==ċ⟩)
 |none=>match w.farStore P a v (m==ċ)with
  |.ok (w,touched)=>k.runT P w (V++touched.toArray.map (⟨.cell ·,É,m==.atomic⟩))
  |bG h=>(bV h w,V)):=by
 cases v<;>first|rfl|cases h
def ac0{α:Type}{m:Mode}{k:ē α}(h:ym v=Ã){x:α}:ã P (c9 m a v k) w≠ĥ x u:=by cases v<;>first|exact Bool.noConfusion h|(intro e;simp[ã]at e)
def ac1{Y:fu}(h:fp Y v x):ym x=ym v:=by cases h<;>rfl
section
variable{Y:fu}
def At(h:u.heap[a.block]?=À (Č d e xJ)):u.cell? a=if a.spot.isSome then ë else d[a.off]?:=by simp[Ġ,h]
def ac2(h:u.heap[a.block]?=À (Č d e xJ))(b:Bool):∃x,u.farLoad P a b=bG x:=by simp[ŋ,h]
def ac3(h:u.heap[a.block]?=À (Č d e xJ))(b:Bool):∃x,u.farStore P a v b=bG x:=by simp[Ŧ,h]
def ji.gC(h:ji Y X u w){a':Ú}(i:ia Y a a')(b:u.cell? a=À v):∃f,w.cell? a'=À f/\fp Y v f:=by
 let⟨j,k,l⟩:=i;let⟨c,s,e,t,y,m,n,o,_⟩:=h.r _ _ j;rw[At m]at b;rw[At n,<-k,<-l];cases g:a.spot with
 |some x=>rw[g]at b;cases b
 |none=>
  rw[g]at b;rcases o.Aq a.off with⟨d,_⟩|⟨x,p,d,q,r⟩
  .simp[d]at b
  .simp[d]at b;subst b;exact⟨p,by simp[q],r⟩
theorem ji.ac4(h:ji Y X u w)(g:ia Y a p)(i:u.cell? a=À v)(j:u.frozen? a=Ã):¬X p.block/\w.frozen? p=Ã:=by
 let⟨k,l,q⟩:=g;let⟨c,r,e,b,s,d,m,t,x,n,y⟩:=h.r _ _ k;rw[At d]at i;have z:a.off<c.size:=by grind
 have o:(decide (b.1<=a.off)&&decide (a.off<b.2))=Ã:=by simpa[Ĉ,d]using j
 have f:¬X p.block:=by grind
 refine⟨f,?_⟩;have:=n f;subst this;simp only[Ĉ,m,<-l];exact o
def UZ{w:Æ}(h:w.heap[a.block]?=À (Č d e xJ))(b:a.spot=ë): (w.setCell a v).heap[a.block]?=À (Č (d.setIfInBounds a.off v) e xJ):=by simp[ĉ,Ň,h,b]
def j4{w:Æ}:(w.setCell a v).heap.size=w.heap.size:=by simp[ĉ]
def I0{w:Æ}(h:a.block≠j):(w.setCell a v).heap[j]?=w.heap[j]?:=by simp[ĉ,Ň,h]
def ji.jd(h:ji Y X u w)(B:ia Y a p)(C:fp Y v z)(D:u.cell? a=À x)(m:¬X p.block):ji Y X (u.setCell a v) (w.setCell p z):=by
 let⟨d,E,F⟩:=B;have n:a.spot=ë:=by let⟨c,o,e,f,g,b,_⟩:=h.r _ _ d;rw[At b]at D;simp_all
 refine⟨h.S,h.N,h.C,by rw[j4];exact h.I,by rw[j4];exact h.M,λi j k=> ?_⟩;let⟨c,o,e,f,g,b,q,r,G,t,y⟩:=h.r i j k;by_cases l:a.block=i
 .subst l;have:j=p.block:=h.C.1 _ _ _ k d;subst this;exact⟨_,_,e,f,g,UZ b n,UZ q (by rw[<-F,n]),by rw[<-E];exact pb.M<|(r.N m).qD _ C,λs=>absurd s m,t,by simpa using y⟩
 .exact⟨c,o,e,f,g,by rwa[I0 l],by rwa[I0 λe=>l<|h.C.2.1 _ _ _ d<|e▸k],r,G,t,y⟩
theorem ji.vj(h:ji Y X u w)(m:∀j,X j->j<w.heap.size)(n:fT Y d q): ji (Y.N u.heap.size w.heap.size) X {u with heap:=u.heap.push (Č d e)} {w with heap:=w.heap.push (Č q e)}:=by
 have a:∀i j,Y i j->i<u.heap.size/\j<w.heap.size:=by intro i j s;let⟨_,_,_,_,_,f,g,_⟩:=h.r i j s;grind
 have b:=fu.S (Y:=Y) (λj x=>absurd (a _ _ x).1 Z) (λi x=>absurd (a _ _ x).2 Z) h.I h.M;refine⟨h.S,h.N,b.2.1 h.C,by have:=h.I;simp[fu.N];omega,by have:=h.M;simp[fu.N];omega,?_⟩
 .rintro i j (x|⟨rfl,rfl⟩)
  .let⟨s,o,p,r,t,f,g,v,y,z,B⟩:=h.r i j x;let⟨k,l⟩:=a i j x;exact⟨s,o,p,r,t,by simp only[Ģ k];rw[<-f,Ý k],by simp only[Ģ l];rw[<-g,Ý l],v.fQ b,y,z,B⟩
  .exact⟨d,q,e,(0,0),(0,0),fq,fq,pb.M<|n.I b,λs=>absurd (m _ s) Z,λ_=>rfl,dA _⟩
theorem nS.fX(Y:fu)(X:Nat->Prop)(w:Æ):nS Y X w w:=⟨ß _,U,U,U,λ_ _ _=>rfl,λ_ _ _=>rfl⟩
def nS.fh{b:fu}{w₁:Æ}(h:nS Y X w w₁)(k:nS b X w₁ u)(d:∀i j,b i j->Y i j\/w.heap.size<=j):nS Y X w u:= ⟨õ h.r k.r,k.I.trans h.I,k.M.trans h.M,k.S.trans h.S,λj a c=>(k.C j (Ô a h.r) λi y=>(d i j y).elim (c i) λz=>by omega).trans<|h.C j a c,λj s a=>(k.N j s<|Ô a h.r).trans<|h.N j s a⟩
def I1{w:Æ}:(w.freeze a n).heap.size=w.heap.size:=by unfold Ė;split<;>simp
def ac5{w:Æ}:(w.freeze a n).os=w.os:=by unfold Ė;split<;>rfl
def ac6{w:Æ}:(w.freeze a n).output=w.output:=by unfold Ė;split<;>rfl
def Ng{w:Æ}:(w.freeze a n).tape=w.tape:=by unfold Ė;split<;>rfl
def U0{w:Æ}:(w.freeze a n).drawn=w.drawn:=by unfold Ė;split<;>rfl
theorem I2{w:Æ}(h:a.block≠j):(w.freeze a n).heap[j]?=w.heap[j]?:=by unfold Ė;split;all_goals grind
def sJ(a:Ú)(n:Nat)(b:Nat×Nat):Nat×Nat:=if n=0 then b else if b.1==b.2 then(a.off,a.off+n)else(min b.1 a.off,max b.2<|a.off+n)
theorem U1{w:Æ}(h:w.heap[a.block]?=À (Č d e xJ)):(w.freeze a n).heap[a.block]?=À (Č d e<|sJ a n xJ):=by unfold Ė sJ;grind
def U2(h:a.off=p.off)(n:Nat)(b:Nat×Nat):sJ a n b=sJ p n b:=by unfold sJ;rw[h]
theorem ac7(h:a.off+n<=i)(b:xJ.2<=i):(sJ a n xJ).2<=i:=by unfold sJ;grind
theorem ac8{b:Nat×Nat}(c:0<i)(d:xJ.1=0)(e:i<=xJ.2)(f:b.2<=xJ.2):(sJ a n xJ).1=0/\i<=(sJ a n xJ).2/\(sJ a n b).2<=(sJ a n xJ).2:=by unfold sJ;grind
def ji.ac9(h:ji Y X u w)(y:ia Y a p)(n:Nat)(z:∀c e b,u.heap[a.block]?=À (Č c e b)->a.off+n<=c.size):ji Y X (u.freeze a n) (w.freeze p n):=by
 obtain⟨k,l,I⟩:=y;refine⟨Ng.trans<|h.S.trans Ng.symm,U0.trans<|h.N.trans U0.symm,h.C,by rw[I1];exact h.I,by rw[I1];exact h.M,λi j d=> ?_⟩;obtain⟨c,m,e,b,B,f,o,q,r,t,v⟩:=h.r i j d;by_cases g:a.block=i
 .subst g;have:j=p.block:=h.C.1 _ _ _ d k;subst this;refine⟨c,m,e,_,_,U1 f,U1 o,q,λs=> ?_,λs=> ?_,ac7 (z _ _ _ f) v⟩
  .obtain⟨C,D,E,x⟩:=r s;rw[<-U2 l];obtain⟨F,G,H⟩:=ac8 x.1 C D E;exact⟨F,G,H,x⟩
  .rw[t s,U2 l]
 .exact⟨c,m,e,b,B,by rwa[I2 g],by rwa[I2 λe=>g<|h.C.2.1 _ _ _ k<|e▸d],q,r,t,v⟩
theorem ji.G(h:ji Y X u w)(b:ia Y a p):w.frozen? p=É->u.frozen? a=É:=by let⟨d,f,j⟩:=b;let⟨c,k,e,l,m,g,i,n,o,q,r⟩:=h.r _ _ d;simp only[Ĉ,g,i,<-f,ě,decide_eq_true_eq];rintro⟨x,y⟩;by_cases s:X p.block;all_goals grind
theorem fI.gf{α:Type}{V:fu->α->α->Prop}{Y:fu}{m m':ē α}(h:fI P V Y m m'):∀{u w:Æ},ji Y X u w->(∀j,X j->j<w.heap.size)->∀{x:α} {E:Æ},m.run P u=ĥ x E->∀n:Array ý,∃(l:fu) (t:α) (p:Æ) (B:Array ý),Y.r l/\(∀i j,l i j->Y i j\/(u.heap.size<=i/\w.heap.size<=j))/\m'.runT P w n=(ĥ t p,n++B)/\V l x t/\ji l X E p/\nS Y X w p/\(∀e∈B,As l X e)/\u.heap.size<=E.heap.size:=by
 induction h with
 |fE h=>
  intro u w d _ x E b n;simp only[ã]at b;cases b;exact⟨_,_,w,#[],fu.M _,λ_ _ h=>Ç h,by simp[é],h,d,nS.fX _ _ _,λe o=>by simp at o,ß _⟩
 |@gC Y a a' k k' ha hk D=>
  intro u w d C x E b n;simp only[ã]at b;cases f:u.cell? a with
  |none=>
   let⟨c,Q,e,fr,wB,O,_⟩:=d.r _ _ ha.1;let⟨z,s⟩:=ac2 (P:=P) O<|Ť==ċ;rw[f]at b;simp only[s]at b;cases b
  |some v=>
   rw[f]at b;let⟨W,S,y⟩:=d.gC ha f;let⟨l,t,p,B,F,G,I,J,K,g,L,H⟩:=D v W y d C b<|n.push ⟨û a',Ã,Ã⟩;refine⟨l,t,p,#[⟨û a',Ã,Ã⟩]++B,F,G,?_,J,K,g,λe o=> ?_,H⟩
   .simp only[é,S];rw[show((Ť==ċ)=Ã)from U,I];rw[<-Ļ,Ł]
   .rcases Ĝ.1 o with o|o
    .simp at o;subst o;exact Ç ⟨a',_,U,F.1 _ _ ha.1,U,λe=>by cases e⟩
    .exact L e o
 |@jd Y a a' v W k k' ha hv _ D=>
  intro u w d C x E b n;cases ho:ym v with
  |false=>exact absurd b<|ac0 ho
  |true=>
   rw[wC ho]at b;cases f:u.cell? a with
   |none=>
    let⟨c,Q,e,fr,wB,O,_⟩:=d.r _ _ ha.1;let⟨z,s⟩:=ac3 (P:=P) (v:=v) O<|Ť==ċ;rw[f]at b;simp only[s]at b;cases b
   |some y=>
    rw[f]at b;cases M:u.frozen? a with
    |true=>rw[M]at b;simp at b
    |false=>
     simp only[M,Å,if_false]at b;let⟨ns,hf'⟩:=d.ac4 ha f M;let⟨y',Nh,_⟩:=d.gC ha f;let⟨l,t,p,B,F,G,I,J,K,g,L,H⟩:=D (d.jd ha hv f ns) (by rwa[j4]) b<|n.push ⟨û a',É,Ã⟩;have S:(w.setCell a' W).heap.size=w.heap.size:=j4;have U3:(u.setCell a v).heap.size=u.heap.size:=j4;refine⟨l,t,p,#[⟨û a',É,Ã⟩]++B,F,by rwa[S,U3]at G,?_,J,K,?_,λe o=> ?_,by rwa[U3]at H⟩
     .rw[acZ<|(ac1 hv).trans ho,Nh];simp only[hf',Å,if_false];rw[show((Ť==ċ)=Ã)from U,I];rw[<-Ļ,Ł]
     .refine⟨by rw[<-S];exact g.r,g.I,g.M,g.S,λj N T=> ?_,λj s N=>(g.N j s<|by rwa[S]).trans<|I0 λe=>ns<|e▸s⟩;rw[g.C j (by rwa[S]) T];exact I0 λe=>T a.block<|e▸ha.1
     .rcases Ĝ.1 o with o|o
      .simp at o;subst o;exact Ç ⟨a',_,U,F.1 _ _ ha.1,U,λ_=>ns⟩
      .exact L e o
 |@vj Y c Q e k k' f _ D=>
  intro u w d C x E b n;simp only[ã]at b;have W:∀i j,Y i j->i<u.heap.size/\j<w.heap.size:=by intro i j S;let⟨_,_,_,_,_,O,hw',_⟩:=d.r i j S;grind
  have n1:∀j,¬Y u.heap.size j:=λj y=>absurd (W _ _ y).1 Z;have n2:∀i,¬Y i w.heap.size:=λi y=>absurd (W _ _ y).2 Z;let⟨l,t,p,B,F,G,I,J,K,g,L,H⟩:=D u.heap.size w.heap.size n1 n2 d.I d.M (d.vj C f) (λj s=>by have:=C j s;simp;omega) b n;refine⟨l,t,p,B,fu.I (fu.S n1 n2 d.I d.M) F,λi j S=> ?_,by simp only[é];exact I,J,K,?_,L,by simp at H;omega⟩
  .rcases G i j S with(y|⟨rfl,rfl⟩)|y
   .exact Ç y
   .exact Î ⟨ß _,ß _⟩
   .simp at y;exact Î ⟨Z,Z⟩
  .have hs:=g.r;simp at hs;refine⟨Z,g.I,g.M,g.S,λj N T=> ?_,λj s N=>(g.N j s<|by simp;omega).trans ?_⟩
   .rw[g.C j (by simp;omega) (λi z=>z.elim (T i) λz=>by omega)];simp[Ģ N]
   .simp[Ģ N]
 |@vk Y r r' k k' pd _ D=>
  intro u w d C x E b n;simp only[ã]at b;let⟨c,Q,e,fr,wB,O,hw',S,_⟩:=d.r _ _ pd;have f:u.shape? r=À (e,c.size):=by simp[Θ,O]
  have s:w.shape? r'=À (e,Q.size):=by simp[Θ,hw']
  rw[f]at b;let⟨l,t,p,B,h⟩:=D e c.size Q.size S.acY d C b n;exact⟨l,t,p,B,by simp only[é,s];exact h⟩
 |@Nf Y a a' k k' ha _ D=>
  intro u w d C x E b n;simp only[ã]at b;let⟨l,t,p,B,h⟩:=D (u.frozen? a) (w.frozen? a') (d.G ha) d C b n;exact⟨l,t,p,B,by simpa only[é]using h⟩
 |@Ar Y q k k' _ D=>
  intro u w d C x E b n;simp only[ã]at b;cases M:q.forced with
  |true=>
   rw[M]at b;simp only[if_true]at b;let⟨l,t,p,B,h⟩:=D 0 d C b n;exact⟨l,t,p,B,by simpa only[é,M,if_true]using h⟩
  |false=>
   rw[M]at b;simp only[Å,if_false]at b;have S:ji Y X {u with drawn:=u.drawn+1} {w with drawn:=w.drawn+1}:=⟨d.S,by simp[d.N],d.C,d.I,d.M,d.r⟩;rw[d.S,d.N]at b;obtain⟨l,t,p,B,F,G,I,J,K,g,L,H⟩:=D (q.cut<|w.tape w.drawn q) S C (by rwa[d.S,d.N]) n;exact⟨l,t,p,B,F,G,by simp only[é,M,Å,if_false];exact I,J,K,⟨g.r,g.I,g.M,g.S,g.C,g.N⟩,L,H⟩
 |IZ _ D=>
  intro u w d C x E b n;simp only[ã]at b;let⟨l,t,p,B,h⟩:=D d C b n;exact⟨l,t,p,B,by simpa only[é]using h⟩
 |@CR Y mk k k' hm _ D=>
  intro u w d C x E b n;simp only[ã]at b;let⟨l,t,p,B,F,G,I,J,K,g,L,H⟩:=D d C b<|n.push ⟨ů mk,Ã,É⟩;refine⟨l,t,p,#[⟨ů mk,Ã,É⟩]++B,F,G,?_,J,K,g,λe o=> ?_,H⟩
  .simp only[é];rw[I];rw[<-Ļ,Ł]
  .rcases Ĝ.1 o with o|o
   .simp at o;subst o;rcases hm with rfl|⟨f,rfl⟩
    .exact Î<|Ç U
    .exact Î<|Î ⟨f,U⟩
   .exact L e o
 |fR=>
  intro u w _ _ x E b n;simp only[ã]at b;cases b
 |oL h=>
  intro u w _ _ x E b n;exact absurd b<|h _ _ _
end
inductive jY:Â->Prop
 |mC (b:Bool):jY (Ľ b)
 |iF (k:ú) (n:Int):jY (Ć k n)
 |kV (s:ByteArray):jY (ħ s)
 |lQ:jY (Þ ë)
 |ov (n c:Nat):jY (bS ë n c)
 |vf:jY bT
 |vg:jY aW
 |vh:jY (eu ë)
 |vi:jY (.map ë)
 |oK {cs:Array Â} (h:∀i (h:i<cs.size),jY cs[i]):jY (.agg cs)
 |nR {cs:Array Â} (h:∀i (h:i<cs.size),jY cs[i]):jY (ſ cs)
def jY.jD(h:jY v)(Y:fu):fp Y v v:=by
 induction h with
 |mC b=>exact .mC b
 |iF k n=>exact .iF k n
 |kV s=>exact .kV s
 |lQ=>exact .lQ
 |ov n c=>exact .ov n c
 |vf=>exact .vf
 |vg=>exact .vg
 |vh=>exact .vh
 |vi=>exact .vi
 |oK _ b=>exact .oK U λi c _=>b i c
 |nR _ b=>exact .nR U λi c _=>b i c
def nT(P:Õ):Prop:=∀t i z,P.info? t=À i->i.zero=À z->jY z
def jq{α:Type}:fu->α->α->Prop:=λ_ a b=>a=b
section
variable{Y:fu}
def fG{α β:Type}{V:fu->α->α->Prop}{V':fu->β->β->Prop}{m c:ē α}{f d:α->ē β}(h:fI P V Y m c) (g:∀b a e,Y.r b->V b a e->fI P V' b (f a) (d e)):fI P V' Y (m>>=f) (c>>=d):=fI.lS h g
def sK{α β:Type}{c:fu->β->β->Prop}{m:ē α}{f d:α->ē β}(h:fI P jq Y m m) (g:∀b a,Y.r b->fI P c b (f a) (d a)):fI P c Y (m>>=f) (m>>=d):= fI.lS h λb a i j (e:a=i)=>by subst e;exact g b a j
def rp:fI P (λ_ a b=>a=P/\b=P) Y dc dc:=.IZ (.fE ⟨U,U⟩)
theorem Ni{α:Type}{V:fu->α->α->Prop}{e:Ι}(h:(∃x y s c,e=.bounds x y s c)\/(∃m,e=.error m)\/(∃m,e=.plain m)\/e=.nilDeref):fI P V Y (runtimePanic e) (runtimePanic e):=by unfold runtimePanic;refine fG rp ?_;rintro f a g _ ⟨b,d⟩;rw[b,d];rcases h with⟨x,y,s,c,rfl⟩|⟨m,rfl⟩|⟨m,rfl⟩|rfl<;>exact .fR
theorem CU{α:Type}{V:fu->α->α->Prop}{k:ú}{y:Int}{c:ax}:fI P V Y (boundsPanic k h y c) (boundsPanic k h y c):=by
 unfold boundsPanic;simp only[];split
 .apply sK (.Ar λn=> .fE U);grind [Ni]
 .grind [Ni]
def yo(t:Á):fI P (λ_ a b=>a=b/\P.info? t=À a) Y (Δ t) (Δ t):=by
 unfold Δ;apply fG rp;rintro e a b _ ⟨c,d⟩;rw[c,d];cases h:P.info? t with
 |some i=>exact .fE ⟨U,U⟩
 |none=>exact .fR
def jb(t:Á):fI P (λ_ a b=>a=b/\P.underlying t=À a) Y (ø t) (ø t):=by
 unfold ø;apply fG rp;rintro e a b _ ⟨c,d⟩;rw[c,d];cases h:P.underlying t with
 |some i=>exact .fE ⟨U,U⟩
 |none=>exact .fR
def FF(b:nT P)(t:Á):fI P fp Y (ω t) (ω t):=by
 unfold ω;apply fG (yo t);rintro d a e _ ⟨rfl,h⟩;cases c:a.zero with
 |some z=>exact .fE ((b t a z h c).jD _)
 |none=>exact .fR
def nj(t:Á):fI P (λ_ a b=>a=b/\∃i,P.info? t=À i/\i.size=a) Y (ay t) (ay t):=by unfold ay;apply fG (yo t);rintro i a b _ ⟨rfl,h⟩;exact .fE ⟨U,_,h,U⟩
def U4(t:Á):fI P jq Y (ey t) (ey t):=by unfold ey;apply fG (jb t);rintro b a c _ ⟨rfl,_⟩;split<;>exact .fE U
def I3(h:ia Y a p):fI P fp Y (aX a) (aX p):=.gC h λ_ _ b=> .fE b
def ada(h:ia Y a p)(b:fp Y v x):fI P jq Y (ar a v) (ar p x):=.jd h b (.fE U)
def adb:∀{Y:fu} {a b:Ú} {i:Nat} {c d:Array Â},ia Y a b->fT Y c d->fI P fT Y (Ō a i n c) (Ō b i n d):=by
 induction n with
 |zero=>intro Y a b i c d _ e;exact .fE e
 |succ n h=>
  intro Y a b i c d f e;unfold Ō;apply fG (I3<|f.C i);exact λk v l g j=>h (f.r g)<|(e.I g).UY j
def Nj(h:ia Y a p)(n:Nat):fI P fT Y (cZ a n) (cZ p n):=adb h<|fT.N Y
def Nk:∀{d c:List Â} {Y:fu} {a e:Ú} {i:Nat},ia Y a e->fT Y d.toArray c.toArray->fI P jq Y (Κ a d i) (Κ e c i):=by
 intro d
 induction d with
 |nil=>
  intro c Y a e i _ b;have:c=[]:=by have:=b.r;simp at this;exact Ā this.symm
  subst this;exact .fE U
 |cons v d h=>
  intro c Y a e i f b;match c,b with
  |[],b=>have:=b.r;simp at this
  |v'::c,b=>
   unfold Κ;refine fG (ada (f.C i) (by have:=b.C 0 fq fq;simpa using this)) ?_;intro m _ _ g _;apply h (f.r g);refine⟨by have:=b.r;simpa using this,λj k l=> ?_⟩;have:=b.C (j+1) (by simp at k|-;omega) (by simp at l|-;omega);exact(by simpa using this:fp Y _ _).fQ g
theorem U5(h:ia Y a p)(t:Á):fI P fp Y (ae t a) (ae t p):=by
 unfold ae;apply sK (U4 t);intro g b d;split
 .apply fG (nj t);rintro i n _ f ⟨rfl,_⟩;apply fG (Nj ((h.r d).r f) n);exact λj c k _ e=> .fE (.oK e.r e.C)
 .exact I3<|h.r d
def ade(h:ia Y a p)(t:Á)(d:fp Y v x):fI P jq Y (aJ t a v) (aJ t p x):=by
 unfold aJ;apply fG (nj t);rintro f n _ b ⟨rfl,_⟩;have c:=(d.fQ b).gU;by_cases e:v.cells.size≠n
 .rw[if_pos e];exact .fR
 .rw[if_neg e,if_neg (by rwa[<-c.r])];exact Nk (h.r b) c
def Au(e:Á)(h:fT Y d q):fI P ia Y (dT e d) (dT e q):= .vj h λ_ _ _ _ _ _=> .fE ⟨Î ⟨U,U⟩,U,U⟩
def U6(t:Á)(h:fp Y v x):fI P ia Y (eM t v) (eM t x):=Au t h.gU
def U7(t:Á)(h:fT Y d q)(a:Nat):fI P fp Y (part t d a) (part t q a):=by
 unfold part;apply sK (U4 t);intro i b e;split
 .apply fG (nj t);rintro g n _ f ⟨rfl,_⟩;have:=((h.I e).I f).FD a<|a+n;exact .fE (.oK this.r this.C)
 .rcases(h.I e).S a with⟨n,f⟩|⟨v,j,n,f,g⟩
  .rw[n];exact .fR
  .rw[n,f];exact .fE g
def FG(h:fp Y v x):fI P ia Y (ŧ v) (ŧ x):=by cases h<;>first|exact .fR|(rename_i a;exact .fE a)
def I4(h:fp Y v x):fI P jq Y (de v) (de x):=by cases h<;>first|exact .fE U|exact .fR
def Nl(h:fp Y v x):fI P jq Y (dB v) (dB x):=by unfold dB;apply fG (I4 h);rintro b a _ _ rfl;exact .fE U
def U8(h:fp Y v x):fI P jq Y (bW v) (bW x):=by cases h<;>first|exact .fE U|exact .fR
def adf(h:fp Y v x):fI P fT Y (eN v) (eN x):=by cases h<;>first|exact .fR|(rename_i a y;exact .fE ⟨a,y⟩)
def U9(h:fp Y v x):fI P ia Y (bX v) (bX x):=by cases h<;>first|exact Ni (Î<|Î<|Î U)|(rename_i a;exact .fE a)|exact .fR
def adg(b:nT P)(t:Á)(v:Â):fI P fp Y (Ű t É v) (Ű t É v):=by unfold Ű;apply fG (FF b t);intro d z e _ h;apply fG (U6 t h);exact λf a g _ c=> .fE (.jW c)
def adh(t:Á)(h:fp Y v x):fI P fp Y (ag t v) (ag t x):=by unfold ag;apply fG (U6 t h);exact λc a d _ b=> .fE (.jW b)
theorem adi(t:Á)(h:fp Y v x):fI P fp Y (Ş t v) (Ş t x):=by unfold Ş;apply fG (FG h);grind [U5]
def adj(t:Á)(b:fp Y x z)(h:fp Y v jQ):fI P jq Y (ĳ t x v) (ĳ t z jQ):=by unfold ĳ;apply fG (FG b);exact λd x z c b=>ade b t<|h.fQ c
def adk(h:fp Y v x)(n:Nat):fI P fp Y (ō v n) (ō x n):=by
 cases h<;>first|exact .fR|skip
 rename_i e f c h;simp only[ō];rcases(fT.mk c h).S n with⟨a,b⟩|⟨v,x,a,b,d⟩
 .rw[a];exact .fR
 .rw[a,b];exact .fE d
def adl(t:Á)(h:fp Y v x)(n:Nat):fI P fp Y (ű t v n) (ű t x n):=by
 unfold ű;apply fG (jb t);rintro g d _ a ⟨rfl,_⟩;split
 .rename_i b _;cases i:b[n]? with
  |none=>exact .fR
  |some f=>
   apply fG (adf<|h.fQ a);exact λj c k _ e=>U7 f.type e f.offset
 .exact .fR
end
section
variable{Y:fu}
def ru{α β:Type}{V:fu->β->β->Prop}{a b:α}{f c:α->ē β}(h:fI P V Y (f a) (c b)):fI P V Y (pure a>>=f) (pure b>>=c):=h
def adn(s:Á)(h:fp Y v x)(n:Nat)(e:∀c f i,P.underlying s=À (df c)->c[n]?=À f->P.info? f.type=À i->i.size≠0): fI P fp Y (Ŏ s v n) (Ŏ s x n):=by
 unfold Ŏ;apply fG (jb s);rintro r d _ g ⟨rfl,j⟩;cases d<;>try exact .fR
 .rename_i c;simp only[];cases k:c[n]? with
  |none=>exact .fR
  |some f=>
   apply fG (FG<|h.fQ g);intro t a u _ l;unfold bY;refine fG (fG (V':=ia) (nj f.type) ?_) ?_
   .rintro w z _ m ⟨rfl,i,o,p⟩;have:¬z=0:=by rw[<-p];exact e c f i j k o
    rw[if_neg this,if_neg this];exact .fE ((l.r m).C _)
   .exact λy b B _ q=> .fE (.jW q)
def ado(t:Á)(h:fp Y x v)(j:fp Y z jQ):fI P fp Y (ŏ t x z) (ŏ t v jQ):=by
 unfold ŏ;apply fG (I4 j);rintro r ⟨k,n⟩ _ l rfl;apply fG (jb t);rintro f d _ m ⟨rfl,s⟩;have g:=(h.fQ l).fQ m;cases d<;>try exact .fR
 .cases g<;>first|exact .fR|skip
  .refine ru<|fG (jb t) ?_;exact λ_ _ _ _ _=>CU
  refine ru<|fG (jb t) ?_;rintro o d _ c ⟨rfl,_⟩;simp only[];split
  .apply fG (nj _);rintro p b _ e ⟨rfl,_⟩;exact .fE (.jW (((‹ia f _ _›.r c).r e).C _))
  .repeat' (first|exact .fR|exact CU|split)
 .apply fG (FG g);intro f a u _ q;refine ru<|fG (jb t) ?_;rintro o d _ c ⟨rfl,_⟩;simp only[];split
  .apply fG (nj _);rintro p b _ e ⟨rfl,_⟩;exact .fE (.jW (((q.r c).r e).C _))
  .repeat' (first|exact .fR|exact CU|split)
def CV(h:fp Y x v)(y:Nat)(c:ax):fI P jq Y (ī x y c) (ī v y c):=by
 unfold ī;apply fG (I4 h);rintro a ⟨k,n⟩ _ b rfl;simp only[];split
 .exact .fE U
 .exact CU
def rv(Y:fu)(x a:Option Â):Prop:=(x=ë/\a=ë)\/∃v b,x=À v/\a=À b/\fp Y v b
def rv.r{Y a:fu}(h:Y.r a){x b:Option Â}(r:rv Y x b):rv a x b:=r.imp id λ⟨v,c,d,e,f⟩=>⟨v,c,d,e,f.fQ h⟩
def FH(f:Bool)(g i:Nat){l j h k m n:Option Â}(c:rv Y l j)(o:rv Y h k)(t:rv Y m n):fI P jq Y (Ĩ f g i l h m) (Ĩ f g i j k n):=by
 unfold Ĩ;rcases t with⟨rfl,rfl⟩|⟨B,C,rfl,rfl,u⟩
 .refine ru ?_;rcases o with⟨rfl,rfl⟩|⟨w,x,rfl,rfl,d⟩
  .refine ru ?_;rcases c with⟨rfl,rfl⟩|⟨v,p,rfl,rfl,b⟩
   .exact .fE U
   .apply fG (CV b _ _);rintro r q _ _ rfl;exact .fE U
  .refine fG (CV d _ _) ?_;rintro y a _ e rfl;rcases(c.r e)with⟨rfl,rfl⟩|⟨v,p,rfl,rfl,b⟩
   .exact .fE U
   .apply fG (CV b _ _);rintro r q _ _ rfl;exact .fE U
 .refine fG (CV u _ _) ?_;rintro D a _ s rfl;rcases o with⟨rfl,rfl⟩|⟨w,x,rfl,rfl,d⟩
  .exact .fR
  .refine fG (CV (d.fQ s) _ _) ?_;rintro y z _ e rfl;rcases(((c.r s).r e))with⟨rfl,rfl⟩|⟨v,p,rfl,rfl,b⟩
   .exact .fE U
   .apply fG (CV b _ _);rintro r q _ _ rfl;exact .fE U
def adp(t:Á)(k:fp Y x v){l C h D m u:Option Â}(g:rv Y l C)(i:rv Y h D)(j:rv Y m u):fI P fp Y (Ų t x l h m) (Ų t v C D u):=by
 unfold Ų;apply fG (jb t);rintro I d _ o ⟨rfl,J⟩;have k:=k.fQ o;have g:=g.r o;have i:=i.r o;have j:=j.r o;cases d<;>try exact .fR
 .cases k<;>first|exact .fR|skip
  rename_i s;have e:m.isSome=u.isSome:=by rcases j with⟨rfl,rfl⟩|⟨_,_,rfl,rfl,_⟩<;>rfl
  simp only[e];split
  .exact .fR
  .apply fG (FH Ã s.size s.size g i<|Ç ⟨U,U⟩);rintro G ⟨a,b,c⟩ _ _ rfl;exact .fE (.kV _)
 .rename_i H;apply fG (U9 k);intro G a K B f;apply fG (jb H);rintro L d _ p ⟨rfl,_⟩;have f:=f.r p;cases d<;>try exact .fR
  rename_i n e _;apply fG (FH Ã n n ((g.r B).r p) ((i.r B).r p)<|(j.r B).r p);rintro E ⟨x,y,z⟩ _ q rfl;apply fG (nj e);rintro F w _ r ⟨rfl,_⟩;have f:=(f.r q).r r;refine .fE (.kL ?_ _ _);split
  .exact f
  .exact f.C _
 .rename_i e;cases k<;>first|exact .fR|skip
  .rename_i n c;apply fG (FH É n c g i j);rintro E ⟨x,y,z⟩ _ q rfl;apply fG (nj e);rintro F w _ r ⟨rfl,_⟩;simp only[Option.map_none,ite_self];exact .fE (.ov _ _)
  .rename_i f n c;apply fG (FH É n c g i j);rintro E ⟨x,y,z⟩ _ q rfl;apply fG (nj e);rintro F w _ r ⟨rfl,_⟩;have f:=(f.r q).r r;by_cases e:z=x
   .simp only[e,if_true];exact .fE (.kL f _ _)
   .simp only[e,if_false,bH];exact .fE (.kL (f.C _) _ _)
def adq(t:Á)(b:fp Y x v){l o h p m q:Option Â}(c:rv Y l o)(f:rv Y h p)(g:rv Y m q):fI P fp Y (Ő t x l h m) (Ő t v o p q):=by
 unfold Ő;apply fG (jb t);rintro u d _ i ⟨rfl,B⟩;have b:=b.fQ i;have c:=c.r i;have f:=f.r i;have g:=g.r i;cases d<;>try exact adp t b c f g
 rename_i n e;apply fG (FG b);intro C a D k j;apply fG (FH Ã n n (c.r k) (f.r k)<|g.r k);rintro E ⟨x,y,z⟩ _ r rfl;apply fG (nj e);rintro F w _ s ⟨rfl,_⟩;have j:=(j.r r).r s;refine .fE (.kL ?_ _ _);split
 .exact j
 .exact j.C _
def adr(t:Á)(a:fp Y x v)(b:fp Y z jQ):fI P fp Y (ų t x z) (ų t v jQ):=by
 unfold ų;apply fG (I4 b);rintro l ⟨k,n⟩ _ c rfl;apply fG (jb t);rintro m d _ f ⟨rfl,o⟩;have a:=(a.fQ c).fQ f;cases d<;>try exact .fR
 .cases a<;>first|exact .fR|skip
  simp only[];split
  .exact .fE (.iF _ _)
  .exact CU
 .rename_i p e;cases a<;>first|exact .fR|skip
  rename_i g h;simp only[];split
  .apply fG (nj e);rintro q w _ j ⟨rfl,_⟩;exact U7 e ((fT.mk g h).I j) _
  .exact CU
def ads(a:UnOp)(b:fp Y x v):fI P fp Y (bZ a x) (bZ a v):=by cases b<;>cases a<;>first|exact .fR|exact .fE (.iF _ _)|exact .fE (.mC _)
end
section
variable{Y:fu}
def adt{α β:Type}{g:α->ē β}(d:∀{Y:fu} (a:α),fI P jq Y (g a)<|g a):∀{Y:fu} (l:List α),fI P jq Y (l.mapM g) (l.mapM g):=by
 intro Y l
 induction l generalizing Y with
 |nil=>exact .fE U
 |cons a l e=>
  rw[ν];apply sK (d a);intro f b _;apply sK e;exact λh c _=> .fE U
def adu{α β:Type}{g:α->ē β}(b:∀{Y:fu} (a:α),fI P jq Y (g a)<|g a)(l:Array α):fI P jq Y (l.mapM g) (l.mapM g):=by rw[Ĕ];have:=adt b (Y:=Y) l.toList;apply fI.lS this;intro d a c _ (e:a=c);subst e;exact .fE U
def adv(Y:fu)(p a:Nat×Value):Prop:=p.1=a.1/\fp Y p.2 a.2
inductive vl(Y:fu):List (Nat×Value)->List (Nat×Value)->Prop
 |pe:vl Y [] []
 |wD {p p':Nat×Value} {l l':List (Nat×Value)} (h:adv Y p p') (t:vl Y l l'):vl Y (p::l) (p'::l')
def vl.fQ{Y a:fu}(h:Y.r a){l b:List (Nat×Value)}(r:vl Y l b):vl a l b:=by
 induction r with
 |pe=>exact .pe
 |wD x _ c=>exact .wD ⟨x.1,x.2.fQ h⟩ c
def adw(f:Nat):∀(c a:List Â) (k:Nat) (b d:Array Â),fT Y c.toArray a.toArray->fT Y b d-> fT Y ((c.zipIdx k).foldl (λb (p:Value×Nat)=>b.setIfInBounds (f+p.2) p.1) b) ((a.zipIdx k).foldl (λb (p:Value×Nat)=>b.setIfInBounds (f+p.2) p.1) d):=by
 intro c
 induction c with
 |nil=>
  intro a k b d p e;have:a=[]:=by have:=p.r;simp at this;exact Ā this.symm
  subst this;exact e
 |cons x c g=>
  intro a k b d p e;match a,p with
  |[],p=>have:=p.r;simp at this
  |x'::a,p=>
   simp only[Ĭ,List.foldl_cons];refine g a (k+1) _ _ ⟨by have:=p.r;simpa using this,λj h i=> ?_⟩ (e.qD _ (by have:=p.C 0 fq fq;simpa using this));have:=p.C (j+1) (by simp at h|-;omega) (by simp at i|-;omega);simpa using this
theorem adx(b:Nat){a c:Array Â}(e:fT Y d q)(f:fT Y a c): fT Y (d.zipIdx.foldl (λa (p:Value×Nat)=>a.setIfInBounds (b+p.2) p.1) a) (q.zipIdx.foldl (λa (p:Value×Nat)=>a.setIfInBounds (b+p.2) p.1) c):=by have:=adw b d.toList q.toList 0 a c (by simpa using e) f;grind [Array.toList_zipIdx]
def I5(d:Nat->Option (Nat×Nat)):∀{l e:List (Nat×Value)} {a b:Array Â},vl Y l e->fT Y a b-> (az d a l=ë)\/∃c h,az d a l=À c/\az d b e=À h/\fT Y c h:=by
 intro l e a b h
 induction h generalizing a b with
 |pe=>intro c;exact Î ⟨a,b,U,U,c⟩
 |@wD p p' l e hp _ ih=>
  intro c;let⟨i,v⟩:=p;let⟨k,m⟩:=p';obtain⟨rfl,g⟩:=hp;unfold az;cases d i with
  |none=>exact Ç U
  |some q=>
   let⟨j,n⟩:=q;have f:=g.gU;simp only[<-f.r,<-c.r];split
   .exact Ç U
   .exact ih<|adx j f c
def ady(q:nT P)(t:Á){l m:Array (Nat×Value)}(h:vl Y l.toList m.toList):fI P fp Y (Ŵ t l) (Ŵ t m):=by
 unfold Ŵ;apply fG (FF q t);intro C z D r s;apply fG (jb t);rintro E d _ o ⟨rfl,F⟩;have p:=(s.fQ o).gU;have h:=(h.fQ r).fQ o;cases d<;>try exact .fR
 .rename_i n e;refine fG (nj e) ?_;rintro u w _ b ⟨rfl,_⟩;rcases I5 (λi=>À (i*w,w)) (h.fQ b) (p.I b)with e|⟨c,v,j,k,g⟩
  .simp only[e];exact .fR
  .simp only[j,k];exact .fE (.oK g.r g.C)
 .rename_i x;refine sK (adu (λ{Y} (f:Field)=>fG (nj f.type) λG a H _ y=> ?_) x) ?_
  .obtain⟨rfl,_⟩:=y;exact .fE U
  .intro u B b;rcases I5 (B[·]?) (h.fQ b) (p.I b)with e|⟨c,v,j,k,g⟩
   .simp only[e];exact .fR
   .simp only[j,k];exact .fE (.oK g.r g.C)
end
section
variable{Y:fu}
theorem adz(Y:fu):fp Y (default:Â) default:=.mC _
theorem fT.adA{Y:fu}(r:fT Y d q)(i:Nat):fp Y d[i]! q[i]!:=by
 by_cases h:i<d.size
 .have a:i<q.size:=by rwa[<-r.r]
  rw[getElem!_pos d i h,getElem!_pos q i a];exact r.C i h a
 .have a:¬i<q.size:=by rwa[<-r.r]
  grind [getElem,adz]
def fT.G{Y:fu}(r:fT Y d q)(n:Nat):fT Y ((dC n).map (d[· %d.size]!)) ((dC n).map (q[· %q.size]!)):=by refine⟨fq,λi a b=> ?_⟩;simp only[ŵ,<-r.r];exact r.adA _
def fT.yp{Y:fu}(r:fT Y d q)(n:Nat):fT Y (Ŷ d n) (Ŷ q n):=by
 unfold Ŷ;have e:n*d.size=n*q.size:=by rw[r.r]
 rw[<-e];exact r.G _
def adB(f:nT P)(t:Á)(b:Nat){m n:Array (Nat×Value)}(h:vl Y m.toList n.toList):fI P fp Y (ĭ t b m) (ĭ t b n):=by
 unfold ĭ;apply fG (jb t);rintro v d _ p ⟨rfl,x⟩;have h:=h.fQ p;cases d<;>try exact .fR
 rename_i e;apply fG (nj e);rintro y w _ o ⟨rfl,_⟩;simp only[];split
 .exact .fR
 split
 .refine ru ?_;rcases I5 (λi=>À (i*w,w)) (h.fQ o) ((fT.N _).G<|b*w)with e0|⟨c,q,g,j,k⟩
  .rw[e0];exact .fR
  .rw[g,j];exact fG (Au e k) λr a s _ l=> .fE (.kL l _ _)
 .refine fG (FF f e) λB z C u f=>ru ?_;rcases I5 (λi=>À (i*w,w)) ((h.fQ o).fQ u) (f.gU.G<|b*w)with e0|⟨c,q,g,j,k⟩
  .rw[e0];exact .fR
  .rw[g,j];exact fG (Au e k) λr a s _ l=> .fE (.kL l _ _)
def Nn(h:fp Y x v):fI P jq Y (Α x) (Α v):=by cases h<;>first|exact .fR|exact .fE U
def fT.adC(Y:fu)(b:Array UInt8):fT Y (b.map λb=>Ć .u8 b.toNat) (b.map λb=>Ć .u8 b.toNat):= ⟨U,λi a _=>by simp only[ŵ];exact .iF _ _⟩
def FI(a n:Nat)(h:fp Y x v):fI P fT Y (ļ a n x) (ļ a n v):=by
 cases h<;>first|exact .fR|exact .fE (fT.N _)|exact .fE (fT.adC _ _)|skip
 rename_i b _ _;exact Nj b _
def Np(n:Nat):fI P jq Y (bP n) (bP n):=by
 unfold bP;split
 .exact .CR (Ç U) (.fE U)
 .exact .fE U
def adD(a:Array Á)(t:Á)(h:fp Y x v):fI P fp Y (ş a t #[x]) (ş a t #[v]):=by
 unfold ş;cases a[0]? with
 |none=>exact .fR
 |some b=>
  apply fG (jb b);rintro f d _ c ⟨rfl,g⟩;have h:=h.fQ c;cases d<;>try exact .fR
  .cases h<;>first|exact .fR|exact .fE (.iF _ _)
  .rename_i e;refine fG (jb e) ?_;rintro i d _ j ⟨rfl,_⟩;cases d<;>first|exact .fR|exact .fE (.iF _ _)
  .cases h<;>first|exact .fR|exact .fE (.iF _ _)
  .exact .fE (.iF _ _)
  all_goals cases h<;>first|exact .fR|exact .fE (.iF _ _)
def adE(a:Array Á)(t:Á)(h:fp Y x v):fI P fp Y (Š a t #[x]) (Š a t #[v]):=by
 unfold Š;cases a[0]? with
 |none=>exact .fR
 |some b=>
  apply fG (jb b);rintro f d _ c ⟨rfl,g⟩;have h:=h.fQ c;cases d<;>try exact .fR
  .rename_i e;refine fG (jb e) ?_;rintro i d _ j ⟨rfl,_⟩;cases d<;>first|exact .fR|exact .fE (.iF _ _)
  .cases h<;>first|exact .fR|exact .fE (.iF _ _)
  .exact .fE (.iF _ _)
  all_goals cases h<;>first|exact .fR|exact .fE (.iF _ _)
def adF(g:Array Á)(t:Á)(h:fp Y x v)(a:fp Y z jQ):fI P fp Y (ő g t #[x,z]) (ő g t #[v,jQ]):=by
 unfold ő;cases g[0]? with
 |none=>exact .fR
 |some l=>
  apply fG (jb l);rintro u d _ i ⟨rfl,B⟩;have h:=h.fQ i;have a:=a.fQ i;cases d<;>try exact .fR
  rename_i e;cases h<;>first|exact .fR|skip
  .rename_i n c;apply fG (Nn a);rintro o m _ b rfl;apply fG (nj e);rintro p w _ f ⟨rfl,_⟩;apply fG (FI w _<|(a.fQ b).fQ f);exact λq c r j k=> .fE (.iF _ _)
  .rename_i s n c;apply fG (Nn a);rintro o m _ b rfl;apply fG (nj e);rintro p w _ f ⟨rfl,_⟩;apply fG (FI w _<|(a.fQ b).fQ f);intro q c r j k;apply fG (Nk (((s.r b).r f).r j)<|by simpa using k);exact λC _ _ _ _=> .fE (.iF _ _)
end
section
variable{Y:fu}
def Nq{α:Type}{h:Halt}:∀u x a,(ew h:ē α).run P u≠ĥ x a:=by intro u x a e;cases e
theorem FJ{α β:Type}{m:ē α}{f:α->ē β}(h:∀a u x b,(f a).run P u≠ĥ x b):∀u x b,(m>>=f).run P u≠ĥ x b:=by
 intro u x b e;rw[Ä]at e;cases c:m.run P u with
 |ok a w=>rw[c]at e;exact h a _ _ _ e
 |halt z w=>rw[c]at e;cases e
theorem Va{α:Type}:∀u x a,(goPanic v:ē α).run P u≠ĥ x a:=Nq
def adG{α:Type}{v:br}:∀u x a,(unsupported v:ē α).run P u≠ĥ x a:=Nq
theorem ry{α:Type}(e:Ι):∀u x a,(runtimePanic e:ē α).run P u≠ĥ x a:=by unfold runtimePanic;grind [FJ,Va]
def I6{α:Type}{V:fu->α->α->Prop}{e:Ι}{m:ē α}:fI P V Y (runtimePanic e) m:=.oL (ry e)
def adH(H:nT P)(p g t:Á)(i:(∃e,P.underlying g=À (dh e))\/P.underlying g=À ę){B:Â}(j:fp Y v jQ)(c:fp Y x B): fI P fp Y (ĸ #[p,g] t #[v,x]) (ĸ #[p,g] t #[jQ,B]):=by
 unfold ĸ;apply fG (jb p);rintro C d _ D ⟨rfl,W⟩;have j:=j.fQ D;have c:=c.fQ D;cases d<;>try exact .fR
 rename_i e;have r:=j;cases j<;>first|exact .fR|skip
 all_goals
  refine fG (nj e) ?_;rintro X w _ E ⟨rfl,_⟩;refine fG (jb g) ?_;rintro ρ3 d1 _ F ⟨rfl,k⟩;rcases i with⟨e1,i⟩|i;all_goals
   rw[i]at k;injection k with k;subst k;refine ru<|fG (Nn<|c.fQ<|fu.I E F) ?_;rintro ρ4 m _ I rfl;have f:=fu.I (fu.I E F) I;have c:=c.fQ f;have r:=r.fQ f;simp only[];split
   .apply fG (FI w m c);intro J q K l u;first
     |exact .fE (.ov _ _)
     |exact fG (Nk (((‹ia C _ _›.r f).r l).C _)<|by simpa using u) λL _ _ h _=> .fE (.kL (((‹ia C _ _›.r f).r l).r h) _ _)
   .apply fG (yo e);rintro J G _ l ⟨rfl,_⟩;split
    .exact .oL (wA<|ry _)
    .apply fG (yo e);rintro L G _ h ⟨rfl,_⟩;split
     .refine .oL (wA ?_);simp only[Å,if_false];refine FJ λb=> ?_;simp_all
     .apply sK (.Ar λ_=> .fE U);intro M nc y;apply fG (yo e);rintro N G _ n ⟨rfl,_⟩;apply sK (Np _);intro O _ Q;have f:=fu.I (fu.I (fu.I l h)<|fu.I y n) Q;apply fG (FI w _<|r.fQ f);intro ρa o o' h S;apply fG (FI w m<|c.fQ<|fu.I f h);intro M q K y u;apply fG (FF H e);intro N z z' n T;exact fG (Au e<|(((S.I y).I n).tJ<|u.I n).tJ<|T.gU.yp _) λO a a' _ V=> .fE (.kL V _ _)
end
section
variable{Y:fu}
def adI(g:nT P)(t:Á)(i:fp Y v x)(j:fp Y z jQ):fI P fp Y (Ĺ t v z) (Ĺ t x jQ):=by
 unfold Ĺ;apply fG (jb t);rintro o d _ f ⟨rfl,p⟩;cases d<;>try exact .fR
 rename_i e;apply fG (Nl<|i.fQ f);rintro q r _ k rfl;apply fG (Nl<|(j.fQ f).fQ k);rintro s u _ y rfl;apply fG (yo e);rintro B C _ D ⟨rfl,_⟩;simp only[];split
 .split
  .exact .oL (wA<|ry _)
  .split
   .exact .oL (wA<|ry _)
   .exact .oL (FJ λ_=>wA<|ry _)
 .apply sK (Np _);intro E _ F;apply fG (nj e);rintro G w _ H ⟨rfl,_⟩;split
  .exact ru<|fG (Au e<|(fT.N _).G _) λm a n _ b=> .fE (.kL b _ _)
  .exact fG (FF g e) λ_ _ _ _ h=>ru<|fG (Au e<|h.gU.G _) λm a n _ b=> .fE (.kL b _ _)
def tK(P:Õ)(t:Á):Prop:=P.underlying t=À .bool\/(∃k,P.underlying t=À (Β k))\/P.underlying t=À ę
def nk:Â->Prop
 |Þ (À _)=>False
 |_=>True
def Vb(t:Á)(i:tK P t\/∃e,P.underlying t=À (ð e))(b:fp Y x v)(c:fp Y z jQ)(j:nk x\/nk z):fI P jq Y (ó t x z) (ó t v jQ):=by
 unfold ó ā Λ;refine fG (jb t) ?_;rintro o d _ g ⟨rfl,a⟩;have b:=b.fQ g;have c:=c.fQ g;rcases i with(h|⟨k,h⟩|h)|⟨e,h⟩;all_goals
  rw[h]at a;injection a with a;subst a;cases b<;>cases c<;>first|exact .fR|exact .fE U|(simp[nk]at j;done)|skip
 .simp only[];split<;>first|exact .fE U|exact .fR
 .rename_i l n _ _ _;by_cases f:n=0
  .subst f;exact .fE U
  .refine .oL λu x m e=> ?_;simp_all
 .rename_i l n;by_cases f:n=0
  .subst f;exact .fE U
  .refine .oL λu x m e=> ?_;simp_all
end
section
variable{Y:fu}
def I7{r:Nat}(h:Y r i):fI P (λ_ a b=>a=ë/\b=ë) Y (di r) (di i):=.vk h λ_ _ _ _=> .fE ⟨U,U⟩
def Vd{r:Nat}(h:Y r i):fI P (λ_ a b=>a=ë/\b=ë) Y (b9 r) (b9 i):=.vk h λ_ _ _ _=> .fE ⟨U,U⟩
def Av(h:ia Y a p):fI P (λc x b=>ia c x.1 b.1/\x.2=b.2/\x=(a,Ã)/\b=(p,Ã)) Y (Į a) (Į p):=by unfold Į;apply fG (Vd h.1);rintro c x d b ⟨rfl,rfl⟩;exact .fE ⟨h.r b,U,U,U⟩
def adJ(h:ia Y a p):fI P jq Y (aY a) (aY p):=by unfold aY;apply fG (I7 h.1);rintro b x c d ⟨rfl,rfl⟩;exact .fE U
def FK(h:ia Y a p):fI P jq Y (dj a) (dj p):=by
 have f:=h;let⟨g,i,b⟩:=f;unfold dj;cases c:a.spot with
 |some s=>
  rw[c]at b;rw[<-b];exact .fE U
 |none=>
  rw[c]at b;rw[<-b];apply fG rp;rintro k s l d ⟨rfl,e⟩;subst e;apply fG (adJ<|h.r d);intro m _ _ j _;refine .vk (j.1 _ _<|d.1 _ _ g) λe n o q=> ?_;simp only[<-i,ç];split
  .exact .fE U
  .split
   .exact .fE U
   .exact .fR
def I8(c:Bi Y){b d:Ú}(f:ia Y a p)(g:ia Y b d):(a.block==b.block)=(p.block==d.block):=by
 rw[Χ,beq_iff_eq,beq_iff_eq];constructor
 .intro e;exact c.1 _ _ _ f.1<|e▸g.1
 .intro e;exact c.2.1 _ _ _ f.1<|e▸g.1
theorem Ve(g:Bi Y){b c:Ú}(d:ia Y a p)(f:ia Y b c):(a==b)=(p==c):=by have e:=I8 g d f;rw[Χ,beq_iff_eq,beq_iff_eq]at e;rw[Χ,beq_iff_eq,beq_iff_eq];let⟨h,i,j⟩:=a;let⟨k,l,m⟩:=p;let⟨n,o,q⟩:=b;let⟨r,s,t⟩:=c;let⟨_,u,v⟩:=d;let⟨_,w,x⟩:=f;grind
theorem Vf(f:Bi Y)(n:Y.C=P.globals.size){b d:Ú}(e:ia Y a p)(g:ia Y b d):fI P jq Y (š a b) (š p d):=by
 unfold š;apply fG rp;rintro o c q h ⟨i,j⟩;rw[i,j];have k:(a.block !=b.block)=(p.block !=d.block):=by simp only[bne];rw[I8 f e g]
 have l:(decide<|a.block≥P.globals.size)=(decide<|p.block≥P.globals.size):=by have:=f.2.2 _ _ e.1;grind
 rw[k,l];split
 .exact .fR
 .apply fG (FK<|e.r h);rintro r x _ m rfl;apply fG (FK<|(g.r h).r m);rintro s y _ t rfl;exact .fE U
def adK(d:Bi Y)(e:Y.C=P.globals.size)(k:ú){b c:Ú}(f:ia Y a p)(g:ia Y b c):fI P fp Y (Μ k a b) (Μ k p c):=by unfold Μ;apply fG (Vf d e f g);rintro h ⟨x,y⟩ _ _ rfl;exact .fE (.iF _ _)
def adL(e:Bi Y)(f:Y.C=P.globals.size)(c:ġ){b d:Ú}(g:ia Y a p)(h:ia Y b d):fI P fp Y (Ν c a b) (Ν c p d):=by unfold Ν;refine fG (Vf e f g h) ?_;rintro i ⟨x,y⟩ _ _ rfl;cases c<;>first|exact .fE (.mC _)|exact .fR
def Vg(k:ú)(b:ia Y a p)(n:Int):fI P fp Y (Ξ k a n) (Ξ k p n):=by
 unfold Ξ;refine .vk b.1 λe m d f=> ?_;apply ru;apply fG (yo e);rintro g h _ c ⟨rfl,_⟩;simp only[];split
 .exact .fR
 .apply fG (FK<|b.r c);rintro i x _ _ rfl;exact .fE (.iF _ _)
def adM{n:Int}(h:j<=b)(a:ξ P i e j k n=À m):ξ P i e b k n=À m:=by
 unfold ξ at a|-;simp only[bind,Option.bind]at a|-;split at a
 .cases a
 .rename_i f;rw[if_neg f];split at a
  .cases a
  .rename_i g;simp only[g];dsimp only at a;split at a
   .cases a
   .rename_i l;rw[if_neg]
    .exact a
    .intro o;apply l;have:=(λw=>Nat.mul_le_mul_right w h)<|P.bytesOf e;simp at o|-;omega
def adN{i:Á->Bool}:∀{d:Nat} {e:Á} {c a b n:Nat},c<=a->c8 P i d e c b n=É->c8 P i d e a b n=É
 |0,_,_,_,_,_,_,h=>by simp[c8]at h
 |d+1,e,c,a,b,n,hc,h=>by
  unfold c8 at h|-;simp only at h|-;split at h
  .cases h
  .rename_i j;rw[if_neg j];rw[bI,ě,ě,ě]at h|-;rcases h with⟨⟨f,g⟩,k⟩|⟨f,g⟩
   .exact Ç ⟨⟨f,by simp at g|-;omega⟩,k⟩
   .exact Î ⟨by simp at f|-;omega,g⟩
def Vh:∀{d:Nat} {e:Á} {c a b:Nat} {u:Á} {n:Nat},c<=a->aZ P d e c b u n=É->aZ P d e a b u n=É
 |0,_,_,_,_,_,_,_,h=>by simp[aZ]at h
 |d+1,e,c,a,b,u,n,hc,h=>by
  unfold aZ at h|-;rw[bI]at h|-;rcases h with h|h
  .exact Ç<|adN hc h
  .right;split at h
   .rename_i f;first|rw[f]|skip
    exact Vh hc h
   .cases h
def adO{a:Á->Bool}:c8 P a i e 0 j (n+1)=Ã:=by
 cases i with
 |zero=>simp[c8]
 |succ i=>
  unfold c8;simp
def adP{k:ú}(a:P.underlying t=À (Β k)):aZ P i e 0 j t (n+1)=Ã:=by
 cases i with
 |zero=>simp[aZ]
 |succ i=>
  unfold aZ;rw[adO];simp[a]
def Vi(t:Á)(d:ia Y a p)(k:ú)(n:Int):fI P fp Y (ñ #[] t #[Þ<|À a,Ć k n]) (ñ #[] t #[Þ<|À p,Ć k n]):=by
 have f:=d;let⟨c,g,h⟩:=f;unfold ñ;apply ru;simp only[];split
 .apply fG (I7 c);rintro i x e b ⟨rfl,rfl⟩;exact .fE (.jW (d.r b))
 .split
  .exact .fR
  .refine .vk c λe m u j=> ?_;apply ru;apply fG rp;rintro i b v l ⟨o,r⟩;rw[o,r,<-g];cases s:ξ P P.depth e (m/P.cellsOf e) a.off n with
   |none=>exact .fR
   |some x=>
    rw[adM (ο<|j.elim (λq=>by omega) λq=>q.1) s];exact .fE (.jW ⟨l.1 _ _ c,U,h⟩)
end
def yq:Obj->Prop
 |Č .. =>False
 |_=>True
inductive kN(P:Õ){α:Type}(V:fu->α->α->Prop):fu->ē α->ē α->Prop
 |gy {Y:fu} {m m':ē α} (h:fI P V Y m m'):kN P V Y m m'
 |lS {Y:fu} {β:Type} {V0:fu->β->β->Prop} {m m':ē β} {f f':β->ē α} (h:fI P V0 Y m m') (hf:∀Y' a a',Y.r Y'->V0 Y' a a'->kN P V Y' (f a) (f' a')):kN P V Y (m.bind f) (m'.bind f')
 |CW {Y:fu} {o:Obj} {g:Nat->α} {m':ē α} (ho:yq o):kN P V Y (.new o λr=>aI<|g r) m'
 |CX {Y:fu} {m m':ē α} (h:∀u x u',m.run P u=ĥ x u'->∃i o,u.heap.size<=i/\u'.heap[i]?=À o/\yq o):kN P V Y m m'
section
variable{Y:fu}
def kN.adQ{α β:Type}{V:fu->α->α->Prop}{i:fu->β->β->Prop}{m e:ē α}{f j:α->β}(h:kN P V Y m e)(k:∀c a d,Y.r c->V c a d->i c (f a) (j d)): kN P i Y (m.bind λa=>aI<|f a) (e.bind λa=>aI<|j a):=by
 induction h with
 |gy h=>exact .gy (h.lS λc a d u w=> .fE (k c a d u w))
 |lS h _ g=>
  rw[ř,ř];exact .lS h λc a d u w=>g c a d u w λx b z l n=>k x b z (fu.I u l) n
 |CW b=>exact .CW b
 |@CX Y m e h=>
  refine .CX λu x l b=> ?_;rw[Ĵ]at b;cases g:m.run P u with
  |halt z w=>rw[g]at b;cases b
  |ok a w=>
   rw[g]at b;simp only[ã]at b;cases b;exact h u a _ g
def CY(u a:Æ):Prop:=∀i o,u.heap.size<=i->a.heap[i]?=À o->¬yq o
def kN.gf{α:Type}{V:fu->α->α->Prop}{Y:fu}{m r:ē α}(h:kN P V Y m r):∀{u w:Æ},ji Y X u w->(∀j,X j->j<w.heap.size)->∀{x:α} {c:Æ},m.run P u=ĥ x c->CY u c->∀d:Array ý,∃(a:fu) (n:α) (s:Æ) (b:Array ý),Y.r a/\(∀i j,a i j->Y i j\/(u.heap.size<=i/\w.heap.size<=j))/\r.runT P w d=(ĥ n s,d++b)/\V a x n/\ji a X c s/\nS Y X w s/\(∀e∈b,As a X e)/\u.heap.size<=c.heap.size:=by
 induction h with
 |gy h=>intro u w k g x c b _ d;exact h.gf k g b d
 |@lS Y β V0 m r f f' h _ ih=>
  intro u w k g x c b l d;rw[Ĵ]at b;cases t:m.run P u with
  |halt z w=>rw[t]at b;cases b
  |ok a u1=>
   rw[t]at b;let⟨G,H,w1,E,p,q,v,I,J,B,K,C⟩:=h.gf k g t d;let⟨L,n,M,N,F,O,Q,S,T,W,k7,k8⟩:=ih G a H p I J (λj s=>Ô (g j s) B.r) b (λi o s=>l i o<|õ C s)<|d++E;refine⟨L,n,M,E++N,fu.I p F,λi j D=> ?_,?_,S,T,B.fh W λi j D=>(q i j D).imp id λy=>y.2,λe s=> ?_,õ C k8⟩
   .rcases O i j D with y|⟨y1,y2⟩
    .exact q i j y
    .exact Î ⟨õ C y1,õ B.r y2⟩
   .rw[Ñ,v];simp only[];rw[Q,Ļ]
   .rcases Ĝ.1 s with s|s
    .rcases K e s with⟨a,i,y,z2,z3,z4⟩|z
     .exact Ç ⟨a,i,y,F.1 _ _ z2,z3,z4⟩
     .exact Î z
    .exact k7 e s
 |CW s=>
  intro u w k g x c b l d;simp only[ã]at b;cases b;exact absurd s<|l u.heap.size _ (ß _) fq
 |CX h=>
  intro u w k g x c b l d;let⟨i,o,p,q,v⟩:=h u x c b;exact absurd v<|l i o p q
end
section
variable{Y:fu}
theorem adR(i:Bi Y)(F:Y.C=P.globals.size)(t:Á)(s:tK P t){j b m:Ú}(e:ia Y a j)(f:ia Y b m):fI P jq Y (ó t (Þ<|À a)<|Þ<|À b) (ó t (Þ<|À j)<|Þ<|À m):=by
 unfold ó ā Λ;refine fG (jb t) ?_;rintro G d _ g ⟨rfl,c⟩;rcases s with h|⟨k,h⟩|h
 .rw[h]at c;injection c with c;subst c;exact .fR
 .rw[h]at c;injection c with c;subst c;apply fG (Av<|e.r g);rintro H p u l ⟨_,_,rfl,rfl⟩;apply fG (Av<|(f.r g).r l);rintro I q J n ⟨_,_,rfl,rfl⟩;apply fG rp;rintro K p u o ⟨v,w⟩;rw[v,w];have z:=(((e.r g).r l).r n).r o;have B:=(((f.r g).r l).r n).r o;have C:=I8 i e f;have D:(decide<|a.block<P.globals.size)=(decide<|j.block<P.globals.size):=by
   have:=i.2.2 _ _ e.1;grind
  simp only[C,D];split
  .apply fG (FK z);rintro E x _ r rfl;apply fG (FK<|B.r r);rintro L y _ M rfl;exact .fE U
  .apply fG (yo t);rintro E x _ r ⟨rfl,_⟩;split
   .rw[Ve i e f];split
    .exact .fE U
    .exact .fR
   .exact .fR
 .rw[h]at c;injection c with c;subst c;exact .fR
def adS(e:Bi Y)(f:Y.C=P.globals.size)(t:Á)(b:tK P t)(c:fp Y x v)(d:fp Y z jQ):fI P jq Y (ó t x z) (ó t v jQ):=by
 by_cases a:nk x\/nk z
 .exact Vb t (Ç b) c d a
 .have g:=λh=>a<|Ç h;have i:=λh=>a<|Î h;cases c<;>first|exact absurd trivial g|skip
  cases d<;>first|exact absurd trivial i|skip
  rename_i j _ _ k;exact adR e f t b j k
def adT(a:ġ)(k:ú)(x y:Int):fI P fp Y (ah a k x y) (ah a k x y):=by
 unfold ah;split
 .exact I6
 .cases a<;>first|exact .fR|exact .fE (.iF _ _)
def adU(a:ġ)(k b:ú)(x y:Int):fI P fp Y (aK a k x b y) (aK a k x b y):=by
 unfold aK;split
 .exact I6
 .cases a<;>first|exact .fR|exact .fE (.iF _ _)
def adV(a:ġ)(t:Á)(k b:ú)(x y:Int):fI P fp Y (Ũ a t (Ć k x)<|Ć b y) (Ũ a t (Ć k x)<|Ć b y):=by
 cases a<;>simp only[Ũ]<;>first|exact adU _ _ _ _ _|skip
 all_goals
  split
  .exact .fR
  .first|exact .fE (.iF _ _)|exact .fE (.mC _)|exact adT _ _ _ _
def adW(a:ġ)(t:Á)(x y:ByteArray):fI P fp Y (Ũ a t (ħ x)<|ħ y) (Ũ a t (ħ x)<|ħ y):=by
 cases a<;>simp only[Ũ,bu]<;>first|exact .fR|exact .fE (.mC _)|skip
 split
 .exact .fR
 .exact .fE (.kV _)
end
section
variable{Y:fu}
def lh{α β:Type}{V0:fu->β->β->Prop}{V:fu->α->α->Prop}{m c:ē β}{f d:β->ē α}(h:fI P V0 Y m c) (g:∀b a e,Y.r b->V0 b a e->kN P V b (f a) (d e)):kN P V Y (m>>=f) (c>>=d):=.lS h g
def adX{α β:Type}{V:fu->α->α->Prop}{c:fu->β->β->Prop}{m d:ē α}{f e:α->β}(h:kN P V Y m d)(i:∀b a g,Y.r b->V b a g->c b (f a) (e g)): kN P c Y (m>>=λa=>pure<|f a) (d>>=λa=>pure<|e a):=kN.adQ h i
def Vj(t:Á)(y:Â):∀u x a,(ñ #[] t #[Þ ë,y]).run P u≠ĥ x a:=by
 unfold ñ;refine FJ λn=> ?_;simp only[];split
 .exact adG
 .split;all_goals simp_all
def CZ(t:Á)(i:fp Y x v)(j:∃p,x=Þ p)(k:ú)(n:Int):kN P fp Y (ŕ t x<|Ć k n) (ŕ t v<|Ć k n):=by
 obtain⟨p,rfl⟩:=j;cases i with
 |lQ=>
  unfold ŕ;refine lh (jb t) ?_;rintro e d _ h ⟨rfl,_⟩;cases d<;>simp only[Å,if_false,if_true]<;>first|exact .gy .fR|exact .gy (.oL (Vj t _))
 |jW f=>
  unfold ŕ;refine lh (jb t) ?_;rintro e d _ h ⟨rfl,_⟩;have l:∀{a g:Ú},ia e a g->kN P fp e (Į a>>=λp=>ñ #[] t #[Þ<|À p.1,Ć k n]>>=λc=>match c with|Þ (À b)=>cg b p.2|c=>pure c) (Į g>>=λp=>ñ #[] t #[Þ<|À p.1,Ć k n]>>=λc=>match c with|Þ (À b)=>cg b p.2|c=>pure c):=by intro a g f;refine lh (Av f) ?_;rintro q p r s ⟨m,u,rfl,rfl⟩;refine lh (Vi t m k n) ?_;intro w c y z o;cases o<;>first|exact .CW trivial|exact .gy (.fE (by constructor<;>assumption))
  cases d<;>simp only[Å,if_false,if_true]<;>first|exact .gy .fR|exact l<|f.r h
def Vk(t:Á)(b:fp Y x v)(c:∃p,x=Þ p)(k:ú)(n:Int):kN P fp Y (Ţ t x<|Ć k n) (Ţ t v<|Ć k n):=by
 unfold Ţ;obtain⟨p,rfl⟩:=c;cases b with
 |lQ=>exact .gy (.oL (Vj t _))
 |jW a=>
  apply lh (Vd a.1);rintro e p f d ⟨rfl,rfl⟩;exact .gy (Vi t (a.r d) k n)
def adY(P:Õ)(a:ġ)(t:Á)(x y:Â):Prop:=a=aA\/a=aL->(tK P t\/((∃e,P.underlying t=À (ð e))/\(nk x\/nk y)))
def Vl(c:Bi Y)(d:Y.C=P.globals.size)(t:Á)(f:tK P t\/((∃e,P.underlying t=À (ð e))/\(nk x\/nk z)))(a:fp Y x v)(b:fp Y z jQ):fI P jq Y (ó t x z) (ó t v jQ):=by
 rcases f with h|⟨g,i⟩
 .exact adS c d t h a b
 .exact Vb t (Î g) a b i
def adZ(m:Bi Y)(n:Y.C=P.globals.size)(c:ġ)(t:Á)(r:adY P c t x z)(o:fp Y x v)(h:fp Y z jQ):kN P fp Y (Ũ c t x z) (Ũ c t v jQ):=by
 have f:c=aA->fI P fp Y (ó t x z>>=λb=>pure<|Ľ b) (ó t v jQ>>=λb=>pure<|Ľ b):=by intro e;apply fG (Vl m n t (r<|Ç e) o h);rintro i b _ _ rfl;exact .fE (.mC _)
 have g:c=aL->fI P fp Y (ó t x z>>=λb=>pure<|Ľ !b) (ó t v jQ>>=λb=>pure<|Ľ !b):=by intro e;apply fG (Vl m n t (r<|Î e) o h);rintro i b _ _ rfl;exact .fE (.mC _)
 cases o with
 |iF k a=>
  cases h with
  |iF d b=>exact .gy (adV c t k d a b)
  |jW l=>
   cases c<;>first|exact .gy .fR|exact .gy (f U)|exact .gy (g U)|exact CZ t (.jW l) ⟨_,U⟩ _ _|skip
   apply lh (Av l);rintro i p s e ⟨j,_,_,_⟩;exact .gy (Vg _ j _)
  |lQ=>cases c<;>first|exact .gy .fR|exact .gy (f U)|exact .gy (g U)|exact CZ t .lQ ⟨_,U⟩ _ _
  |_=>cases c<;>first|exact .gy .fR|exact .gy (f U)|exact .gy (g U)
 |kV a=>
  cases h with
  |kV b=>exact .gy (adW c t a b)
  |_=>cases c<;>first|exact .gy .fR|exact .gy (f U)|exact .gy (g U)
 |lQ=>
  cases h with
  |iF k b=>
   cases c<;>first|exact .gy .fR|exact .gy (f U)|exact .gy (g U)|exact CZ t .lQ ⟨_,U⟩ _ _|skip
   refine lh (jb t) ?_;rintro i d _ e ⟨rfl,_⟩;cases d<;>simp only[Å,if_false,if_true]<;>first|exact Vk t .lQ ⟨_,U⟩ _ _|exact CZ t .lQ ⟨_,U⟩ _ _
  |_=>cases c<;>first|exact .gy .fR|exact .gy (f U)|exact .gy (g U)
 |jW a=>
  cases h with
  |iF k b=>
   cases c<;>first|exact .gy .fR|exact .gy (f U)|exact .gy (g U)|exact CZ t (.jW a) ⟨_,U⟩ _ _|skip
   .refine lh (jb t) ?_;rintro i d _ e ⟨rfl,_⟩;have a:=a.r e;cases d<;>simp only[Å,if_false,if_true]<;>first|exact Vk t (.jW a) ⟨_,U⟩ _ _|exact CZ t (.jW a) ⟨_,U⟩ _ _
   all_goals
    apply lh (Av a);rintro i p s e ⟨j,_,_,_⟩;exact .gy (Vg _ j _)
  |jW l=>
   cases c<;>first|exact .gy .fR|exact .gy (f U)|exact .gy (g U)|skip
   all_goals
    refine lh (Av a) ?_;rintro i p s e ⟨j,_,rfl,rfl⟩;refine lh (Av<|l.r e) ?_;rintro w q B b ⟨d,_,rfl,rfl⟩;have k:=b.2.1<|e.2.1 m;have u:=b.2.2.trans<|e.2.2.trans n;first|exact .gy (adK k u _ (j.r b) d)|exact .gy (adL k u _ (j.r b) d)
  |_=>cases c<;>first|exact .gy .fR|exact .gy (f U)|exact .gy (g U)
 |_=>
  cases h<;>cases c<;>first|exact .gy .fR|exact .gy (f U)|exact .gy (g U)
end
section
variable{Y:fu}
def ad1(a b:Á)(h:(∃k g,P.underlying a=À (Β k)/\P.underlying b=À (Β g))\/(P.underlying a=À ę/\P.underlying b=À ę))(f:fp Y x v):fI P fp Y (Œ a b x) (Œ a b v):=by
 unfold Œ;refine fG (jb a) ?_;rintro n d _ l ⟨rfl,c⟩;refine fG (jb b) ?_;rintro o p _ m ⟨rfl,e⟩;have f:=(f.fQ l).fQ m;rcases h with⟨k,g,i,j⟩|⟨i,j⟩;all_goals
  rw[i]at c;rw[j]at e;injection c with c;injection e with e;subst c e;cases f<;>first|exact .fR|exact .fE (.iF _ _)|exact .fE (.kV _)
inductive pf(Y:fu):Ο->Ο->Prop
 |nU {v v':Â} (h:fp Y v v'):pf Y (ï v) (ï v')
 |sL:pf Y aH aH
 |sM (f:à) {c c':Array Â} (h:fT Y c c'):pf Y (ũ f c) (ũ f c')
def FL(P:Õ)(t:Á):Prop:=tK P t\/∃e,P.underlying t=À (ð e)
def ad2(t:Á)(f:FL P t)(a g b i:Â):fI P jq Y (į ā t a b) (į ā t g i):=by
 unfold ā į;refine fG (jb t) ?_;rintro j d _ l ⟨rfl,c⟩;rcases f with(h|⟨k,h⟩|h)|⟨e,h⟩;all_goals
  rw[h]at c;injection c with c;subst c;exact .fE U
def ad3(e:ġ)(t:Á)(c:e=aA\/e=aL->FL P t)(x y:Ö){d:Â}(h:fp Y v z)(i:fp Y jQ d):fI P jq Y (ŷ e t x y v jQ) (ŷ e t x y z d):=by
 have g:FL P t->∀{f:fu} (s:br) (v z jQ d:Â),fI P jq f (į ā t v jQ>>=λr=>if r=É then unsupported s else pure ()) (į ā t z d>>=λr=>if r=É then unsupported s else pure ()):=by
  intro c f s v z jQ d;apply fG (ad2 t c v z jQ d);rintro j r _ _ rfl;split
  .exact .fR
  .exact .fE U
 unfold ŷ;cases e<;>first|exact .fE U|skip
 all_goals
  have c:=c (by first|exact Ç U|exact Î U);cases h<;>cases i<;>first|exact .fE U|skip
 all_goals first
  |(cases x<;>cases y<;>first|exact .fE U|exact g c _ _ _ _ _)
  |(
   simp only[þ,Å,if_false];apply fG rp;rintro f p m n ⟨r,s⟩;rw[r,s];apply fG rp;rintro j q o u ⟨k,l⟩;rw[k,l];split
   .exact .fE U
   .exact g c _ _ _ _ _)
def mQ{m a:ē Â}(h:fI P fp Y m a):fI P pf Y (m>>=λv=>pure<|ï v) (a>>=λv=>pure<|ï v):=h.lS λ_ _ _ _ v=> .fE (.nU v)
def Vm{m a:ē Â}(h:kN P fp Y m a):kN P pf Y (m>>=λv=>pure<|ï v) (a>>=λv=>pure<|ï v):=adX h λ_ _ _ _ v=> .nU v
def ad4{m a:ē Unit}(h:fI P jq Y m a):fI P pf Y (m>>=λ_=>pure aH) (a>>=λ_=>pure aH):=h.lS λ_ _ _ _ _=> .fE .sL
def ad5(f:à)(b:∃a,P.funcs[f]?=À a/\(a.name== "runtime.NumGoroutine")=Ã/\a.body.isNone=Ã)(e:fT Y d q):fI P pf Y (ĵ f d) (ĵ f q):=by let⟨a,g,h,i⟩:=b;unfold ĵ;apply fG rp;rintro m p n j ⟨k,l⟩;rw[k,l,g];simp only[h,i,Å,if_false];exact .fE (.sM f (e.I j))
end
inductive km(P:Õ)(ev:Ö->Â):Op->Prop
 |Aw (x:Ö):km P ev (.move x)
 |FM (x:Ö):km P ev (.assign x)
 |wE (c a b:Ö):km P ev (.pick c a b)
 |gJ (t:Á):km P ev (.alloc t)
 |Nr (t:Á) (x:Ö):km P ev (.box t x)
 |Ns (t:Á) (ps:Array (Nat×Operand)):km P ev (.build t ps)
 |Nt (t:Á) (n:Nat) (ps:Array (Nat×Operand)):km P ev (dD t n ps)
 |gC (t:Á) (a:Ö):km P ev (.load t a)
 |jd (t:Á) (a x:Ö):km P ev (.store t a x)
 |FN (x:Ö):km P ev (eD x)
 |C0 (op:ġ) (t:Á) (x y:Ö) (r:Á) (h:op=aA\/op=aL->(tK P t\/((∃e,P.underlying t=À (ð e))/\(nk (ev x)\/nk (ev y))))):km P ev (dU op t x y r)
 |Nu (op:UnOp) (t:Á) (x:Ö):km P ev (.unOp op t x)
 |Nv (s d:Á) (x:Ö) (h:(∃k k',P.underlying s=À (Β k)/\P.underlying d=À (Β k'))\/(P.underlying s=À ę/\P.underlying d=À ę)):km P ev (aN s d x)
 |Nw (t:Á) (l c:Ö):km P ev (dW t l c)
 |kL (t:Á) (x:Ö) (lo hi mx:Option Ö):km P ev (.slice t x lo hi mx)
 |Nx (s:Á) (x:Ö) (n:Nat) (h:∀fields f i,P.underlying s=À (df fields)->fields[n]?=À f->P.info? f.type=À i->i.size≠0):km P ev (dX s x n)
 |Ny (t:Á) (x:Ö) (n:Nat):km P ev (.field t x n)
 |Nz (t:Á) (x i:Ö):km P ev (dY t x i)
 |NA (t:Á) (x i:Ö):km P ev (.index t x i)
 |FD (x:Ö) (n:Nat):km P ev (.extract x n)
 |FO (x:Ö) (ts:Array Á):km P ev (Ω {callee:=ĝ .len,args:=#[x],argTypes:=ts})
 |FP (x:Ö) (ts:Array Á):km P ev (Ω {callee:=ĝ .cap,args:=#[x],argTypes:=ts})
 |FQ (x y:Ö) (ts:Array Á):km P ev (Ω {callee:=ĝ .copy,args:=#[x,y],argTypes:=ts})
 |tJ (x y:Ö) (t0 t1:Á) (h:(∃e,P.underlying t1=À (dh e))\/P.underlying t1=À ę):km P ev (Ω {callee:=ĝ .append,args:=#[x,y],argTypes:=#[t0,t1]})
 |jN (f:à) (args:Array Ö) (ts:Array Á) (Vo:ev (aO f)=eL (.func f) #[] #[]) (h:∃fn,P.funcs[f]?=À fn/\(fn.name== "runtime.NumGoroutine")=Ã/\fn.body.isNone=Ã):km P ev (Ω {callee:=cj<|aO f,args:=args,argTypes:=ts})
end Go.Proofs.Y.Lift
namespace Go.Proofs.Y.Lift
open Go Go.Conc
section
variable{Y:fu}
def Vp(Y:fu):Ö->Prop
 |dZ v=>fp Y v v
 |ez g=>Y g g
 |_=>True
theorem FR(Y:fu):fp Y ľ ľ:=.nR U λi h=>absurd h fq
def ad6{a a':bF}(h:fT Y a.tmps a'.tmps)(b:Vp Y qQ):fp Y (a.eval qQ) (a'.eval qQ):=by
 cases qQ with
 |tmp t=>
  simp only[å,ĩ];rcases h.S t with⟨f,g⟩|⟨v,d,f,g,c⟩
  .rw[f,g];exact FR Y
  .rwa[f,g]
 |const v=>exact b
 |global g=>exact .jW ⟨b,U,U⟩
 |func f=>exact .fn _
def ad7(b:Array av)(h:fT Y d q)(j:Nat):ł b d j=ł b q j:=by
 unfold ł;cases(b[j]?).bind (·.dst)with
 |none=>rfl
 |some a=>
  simp only[Option.bind_some];rcases h.S a with⟨c,e⟩|⟨v,g,c,e,f⟩
  .rw[c,e]
  .rw[c,e];cases f<;>rfl
def I9(a:Array av)(o:av)(h:fT Y d q):Ħ o (ł a d)=Ħ o (ł a q):=by have:ł a d=ł a q:=funext<|ad7 a h;rw[this]
def ad8{a a':bF}(h:fT Y a.tmps a'.tmps)(d:Option Tmp)(b:fp Y v x):fT Y (a.put d v).tmps (a'.put d x).tmps:=by
 cases d with
 |none=>exact h
 |some d=>exact h.qD d b
end
section
variable{Y:fu}
def Vq{b:Ö->Â}(a:Array Ö)(h:∀x∈a,fp Y (xX x)<|b x):fT Y (a.map xX) (a.map b):= ⟨fq,λi c d=>by simp only[ŵ];exact h _<|Array.getElem_mem _⟩
def Vr{c:Ö->Â}(a:Array (Nat×Operand))(h:∀x∈(a.toList.map (·.2)).toArray,fp Y (xX x)<|c x):vl Y (a.map λp=>(p.1,xX p.2)).toList (a.map λp=>(p.1,c p.2)).toList:=by
 simp only[Array.toList_map];have d:∀x∈a.toList.map (·.2),fp Y (xX x) (c x):=λx b=>h x (by simpa using b);generalize a.toList=l at d
 induction l with
 |nil=>exact .pe
 |cons p l e=>exact .wD ⟨U,d _ fq⟩ (e λx b=>d x<|by simp at b|-;exact Î b)
def NB{a:Ö->Â}(x:Option Ö)(h:∀y,x=À y->fp Y (xX y) (a y)):rv Y (x.map xX) (x.map a):=by
 cases x with
 |none=>exact Ç ⟨U,U⟩
 |some x=>exact Î ⟨_,_,U,U,h x U⟩
def Vt(p:nT P)(D:Bi Y)(E:Y.C=P.globals.size){w:Ö->Â}(F:∀f,w (aO f)=eL (.func f) #[] #[])(B:km P xX o.op)(g:∀x∈o.op.operands,fp Y (xX x)<|w x):kN P pf Y (ì xX o) (ì w o):=by
 let⟨O,u,Q,S,T,guard⟩:=o;simp only at B g;unfold ì;simp only[];cases B with
 |Aw x=>exact .gy (.fE (pf.nU<|g x<|by simp[Ê]))
 |FM x=>exact .gy (.fE (pf.nU<|g x<|by simp[Ê]))
 |wE c a b=>
  apply lh (U8<|g c<|by simp[Ê]);rintro G r _ k rfl;refine .gy (.fE (pf.nU ?_));split
  .exact(g a<|by simp[Ê]).fQ k
  .exact(g b<|by simp[Ê]).fQ k
 |gJ t=>exact .gy (mQ<|adg p t _)
 |Nr t x=>exact .gy (mQ<|adh t<|g x<|by simp[Ê])
 |Ns t z=>exact .gy (mQ<|ady p t<|Vr z g)
 |Nt t n z=>exact .gy (mQ<|adB p t n<|Vr z g)
 |gC t a=>exact .gy (mQ<|adi t<|g a<|by simp[Ê])
 |jd t a x=>exact .gy (ad4<|adj t (g a<|by simp[Ê])<|g x<|by simp[Ê])
 |FN x=>
  simp only[];have j:=g x (by simp[Ê]);generalize xX x=v at j;generalize w x=v' at j;cases j<;>first|exact .gy I6|exact .gy (.fE (pf.nU<|by constructor<;>assumption))|skip
  rename_i f;cases f<;>exact .gy (.fE (pf.nU<|.fn _))
 |C0 u t x y r h=>
  have j:=g x (by simp[Ê]);have C:=g y (by simp[Ê]);apply Vm;apply lh (ad3 u t (λe=>(h e).imp id λq=>q.1) x y j C);exact λG _ _ k _=>adZ (k.2.1 D) (k.2.2.trans E) u t h (j.fQ k)<|C.fQ k
 |Nu u t x=>exact .gy (mQ<|ads u<|g x<|by simp[Ê])
 |Nv s d x h=>exact .gy (mQ<|ad1 s d h<|g x<|by simp[Ê])
 |Nw t l c=>exact .gy (mQ<|adI p t (g l<|by simp[Ê])<|g c<|by simp[Ê])
 |kL t x H I J=>exact .gy (mQ<|adq t (g x<|by simp[Ê]) (NB H λy e=>g y<|by simp[Ê,e]) (NB I λy e=>g y<|by simp[Ê,e])<|NB J λy e=>g y<|by simp[Ê,e])
 |Nx s x n h=>exact .gy (mQ<|adn s (g x<|by simp[Ê]) n h)
 |Ny t x n=>exact .gy (mQ<|adl t (g x<|by simp[Ê]) n)
 |Nz t x i=>exact .gy (mQ<|ado t (g x<|by simp[Ê])<|g i<|by simp[Ê])
 |NA t x i=>exact .gy (mQ<|adr t (g x<|by simp[Ê])<|g i<|by simp[Ê])
 |FD x n=>exact .gy (mQ<|adk (g x<|by simp[Ê]) n)
 |FO x m=>
  simp only[ù,č,Ē,pure_bind,Ø,â,ä];exact .gy (mQ<|adD m _<|g x<|by simp[Ê,ô])
 |FP x m=>
  simp only[ù,č,Ē,pure_bind,Ø,â,ä];exact .gy (mQ<|adE m _<|g x<|by simp[Ê,ô])
 |FQ x y m=>
  simp only[ù,č,Ē,pure_bind,Ø,â,ä];exact .gy (mQ<|adF m _ (g x<|by simp[Ê,ô])<|g y<|by simp[Ê,ô])
 |tJ x y K L h=>
  simp only[ù,č,Ē,pure_bind,Ø,â,ä];exact .gy (mQ<|adH p K L _ h (g x<|by simp[Ê,ô])<|g y<|by simp[Ê,ô])
 |jN f M m N h=>
  simp only[ù,N,F f,İ,č,pure_bind,Ď,ď];exact .gy (ad5 f h<|Vq M λx j=>g x<|by simp[Ê,ô,j])
end
def World.tp(u:Æ)(T:ψ)(D:Nat):Æ:={u with tape:=T,drawn:=D}
def vm(T:ψ)(D:Nat)(a:ψ)(b n:Nat):Prop:=∀i,i<n->a (b+i)=T (D+i)
def vm.lT{T:ψ}(h:vm T i xQ j (n+1)):xQ j=T i:=h 0 Z
def vm.jr{T:ψ}(h:vm T i xQ j (n+m)):vm T i xQ j n:=λa b=>h a Z
def vm.NC{b:ψ}(h:vm xQ i b j (n+m)):vm xQ (i+n) b (j+n) m:=λa c=>by have:=h (n+a) Z;rw[show j+n+a=j+(n+a) by omega,show i+n+a=i+(n+a) by omega];exact this
def rz{α:Type}(P:Õ)(m:ē α):Prop:=∀(u:Æ) (T:ψ) (D:Nat),∃(n:Nat) (v:Æ),
 ∀x c,m.run P ((World.tp u T D))=ĥ x c->c=(World.tp v T<|D+n)/\∀a b,vm T D a b n->m.run P ((World.tp u a b))=ĥ x ((World.tp v a<|b+n))
section
variable{α β:Type}
def Ax{m:ē α}(h:∀u x a,m.run P u=ĥ x a->a=u/\∀b c,m.run P ((World.tp u b c))=ĥ x ((World.tp u b c))):rz P m:=λu T D=>⟨0,u,λx a e=>by let⟨d,f⟩:=h _ x a e;exact⟨d,λb c _=>f b c⟩⟩
def ND{m:ē α}(h:∀u x a,m.run P u≠ĥ x a):rz P m:=λu T D=>⟨0,u,λx a e=>absurd e<|h _ _ _⟩
def ad9{m:ē α}{f:α->ē β}(h:rz P m)(i:∀a,rz P<|f a):rz P (m.bind f):=by
 intro u T D;let⟨n,v,j⟩:=h u T D;cases b:m.run P ((World.tp u T D))with
 |halt z w=>exact⟨0,u,λx c e=>by rw[Ĵ,b]at e;cases e⟩
 |ok a k=>
  obtain⟨rfl,l⟩:=j a k b;let⟨o,w,p⟩:=i a v T<|D+n;refine⟨n+o,w,λx c e=> ?_⟩;rw[Ĵ,b]at e;let⟨q,r⟩:=p x c e;refine⟨by rw[q,cP],λz d g=> ?_⟩;rw[Ĵ,l z d g.jr,<-cP];exact r z (d+n) g.NC
theorem aea{m a:ē α}(h:∀u,m.run P u=a.run P u)(b:rz P a):rz P m:=by intro u T D;let⟨n,v,c⟩:=b u T D;exact⟨n,v,λx d e=>by grind⟩
def aeb(q:bU):rz P (π q):=by
 intro u T D;cases a:q.forced with
 |true=>exact⟨0,u,λx d e=>by simp only[π,ã,a,if_true]at e;cases e;exact⟨U,λb c _=>by simp only[π,ã,a,if_true];rfl⟩⟩
 |false=>
  refine⟨1,u,λx d e=> ?_⟩;simp only[π,ã,a,Å,if_false]at e;cases e;refine⟨U,λb c f=> ?_⟩;simp only[π,ã,a,Å,if_false];have g:(World.tp u b c).tape (World.tp u b c).drawn q=T D q:=congrFun f.lT q;rw[g];rfl
def Ja{γ:Type}(s:String):(MonadExcept.throw s:Except String γ)=bG s:=rfl
def aec(a:Ú)(md:Mode):rz P (aX a md):=by
 refine Ax λu x f e=> ?_;simp only[aX,ã]at e|-;cases b:u.cell? a with
 |some v=>
  rw[b]at e;cases e;exact⟨U,λc d=>by simp only[show((World.tp u c d)).cell? a=À x from b]⟩
 |none=>
  rw[b]at e;cases v:u.farLoad P a (md==ċ)with
  |error z=>simp only[v]at e;cases e
  |ok p=>
   simp only[v]at e;cases e;exact⟨U,λc d=>by simp only[show((World.tp u c d)).cell? a=ë from b,show((World.tp u c d)).farLoad P a (md==ċ)=.ok p from v]⟩
def NG(u:Æ)(a:Ú)(v:Â)(md:Mode):∀T D,((World.tp u T D)).farStore P a v (md==ċ)=(u.farStore P a v<|md==ċ).map λp=>((World.tp p.1 T D),p.2):=by
 intro T D;have c:∀b t,((World.tp u T D)).viewStore P b t a v (md==ċ)=(u.viewStore P b t a v<|md==ċ).map λp=>((World.tp p.1 T D),p.2):=by
  intro b t;unfold bJ;have o:((World.tp u T D)).seen P b t a (md==ċ)=u.seen P b t a (md==ċ):=U;rw[o];simp only[bind,ρ,pure,ς,Ja];cases u.seen P b t a (md==ċ)with
  |error e=>simp only[];split<;>rfl
  |ok r=>
   simp only[];repeat' (first|rfl|split)
 unfold Ŧ;have e:((World.tp u T D)).heap=u.heap:=U;cases r:u.heap[a.block]? with
 |none=>simp only[aP,e,r];rfl
 |some o=>
  cases o<;>first
   |(simp only[aP,e,r];rfl)
   |skip
  simp only[e,r,c];cases u.viewStore P _ _ a v (md==ċ)<;>rfl
def aed(a:Ú)(v:Â)(md:Mode):rz P (ar a v md):=by
 by_cases b:ym v=É
 .intro u T D;cases d:u.cell? a with
  |some y=>
   cases c:u.frozen? a with
   |true=>exact⟨0,u,λx h e=>by simp only[ar]at e;rw[wC b,show((World.tp u T D)).cell? a=À y from d]at e;simp only[show((World.tp u T D)).frozen? a=É from c,if_true]at e;cases e⟩
   |false=>
    refine⟨0,u.setCell a v,λx h e=> ?_⟩;simp only[ar]at e|-;rw[wC b,show((World.tp u T D)).cell? a=À y from d]at e;simp only[show((World.tp u T D)).frozen? a=Ã from c,Å,if_false]at e;cases e;refine⟨U,λf g i=> ?_⟩;rw[wC b,show((World.tp u f g)).cell? a=À y from d];simp only[show((World.tp u f g)).frozen? a=Ã from c,Å,if_false];rfl
  |none=>
   cases c:u.farStore P a v (md==ċ)with
   |error z=>exact⟨0,u,λx h e=>by simp only[ar]at e;rw[wC b,show((World.tp u T D)).cell? a=ë from d]at e;simp only[NG u a v md T D,c,ck]at e;cases e⟩
   |ok p=>
    refine⟨0,p.1,λx h e=> ?_⟩;simp only[ar]at e|-;rw[wC b,show((World.tp u T D)).cell? a=ë from d]at e;simp only[NG u a v md T D,c,ck]at e;cases e;refine⟨U,λf g i=> ?_⟩;rw[wC b,show((World.tp u f g)).cell? a=ë from d];simp only[NG u a v md f g,c,ck];rfl
 .exact ND λu x h e=>by cases v<;>first|exact absurd U b|cases e
def aee(o:Obj):rz P (eO o):=λu T D=>⟨0,{u with heap:=u.heap.push o},λx a e=>by cases e;exact⟨U,λb c _=>rfl⟩⟩
def aef(r:Nat):rz P (cm r):=by
 refine Ax λu x d e=> ?_;simp only[cm,ã]at e|-;cases a:u.heap[r]? with
 |none=>rw[a]at e;cases e
 |some o=>
  rw[a]at e;cases o<;>first
   |(cases e;done)
   |(cases e;exact⟨U,λb c=>by simp only[show((World.tp u b c)).heap[r]?=_ from a]⟩)
end
def qE(u:Æ):Prop:=∀(i:Nat) (c:Array Â) (e:Á),u.heap[i]?≠À (Ÿ c e)
structure Kd(u u':Æ):Prop where
 r:qE u->qE u'
 C:∀(i:Nat) (o:Obj),u.heap[i]?=À o->yq o->∃o',u'.heap[i]?=À o'/\yq o'
theorem Kd.fX(u:Æ):Kd u u:=⟨id,λ_ o h k=>⟨o,h,k⟩⟩
def Kd.fh{c:Æ}(h:Kd w u)(k:Kd u c):Kd w c:=⟨λx=>k.r<|h.r x,λi o x y=>by let⟨d,e,f⟩:=h.C i o x y;exact k.C i d e f⟩
def FT:Halt->Bool
 |.panic _=>É
 |.stuck _=>É
 |ŀ (.initOrder _)=>Ã
 |ŀ _=>É
 |_=>Ã
def oM{α:Type}(P:Õ)(m:ē α):Prop:=∀u,qE u->(∀x a,m.run P u=ĥ x a->Kd u a)/\(∀z a,m.run P u=bV z a->FT z=É)
section
variable{α β:Type}
def Vu(a:α):oM P (aI a):=λu _=>⟨λx b h=>by cases h;exact Kd.fX u,λz b h=>by cases h⟩
def FU{z:Halt}(h:FT z=É):oM P (ew z:ē α):=λu _=>⟨λx a e=>(by cases e),λb a e=>(by cases e;exact h)⟩
def Jb{m:ē α}{f:α->ē β}(h:oM P m)(j:∀a,oM P<|f a):oM P (m.bind f):=by
 intro u d;let⟨g,k⟩:=h u d;refine⟨λx i e=> ?_,λz i e=> ?_⟩<;>rw[Ĵ]at e
 .cases b:m.run P u with
  |ok a c=>
   rw[b]at e;exact(g a c b).fh<|(j a c<|(g a c b).r d).1 x i e
  |halt z w=>rw[b]at e;cases e
 .cases b:m.run P u with
  |ok a c=>
   rw[b]at e;exact(j a c<|(g a c b).r d).2 z i e
  |halt c w=>rw[b]at e;cases e;exact k _ _ b
def Vv:oM P dc:=λu _=>⟨λx a h=>by cases h;exact Kd.fX u,λz a h=>by cases h⟩
theorem aeg(q:bU):oM P (π q):=by
 intro u b;constructor
 .intro x a e;simp only[π,ã]at e;split at e<;>cases e
  .exact Kd.fX u
  .exact⟨id,λi o h k=>⟨o,h,k⟩⟩
 .intro z a e;simp only[π,ã]at e;grind
def aeh(m:Mark):oM P (mark m):=λu _=>⟨λx a h=>by cases h;exact Kd.fX u,λz a h=>by cases h⟩
def aei(r:Nat):oM P (cu r):=λu _=>⟨λx a h=>by cases h;exact Kd.fX u,λz a h=>by cases h⟩
def aej(a:Ú):oM P (eP a):=λu _=>⟨λx b h=>by cases h;exact Kd.fX u,λz b h=>by cases h⟩
theorem aek(o:Obj)(h:∀c e,o≠Ÿ c e):oM P (eO o):=by
 intro u b;refine⟨λx d e=> ?_,λz d e=>by cases e⟩;cases e;refine⟨λ_ i c e a=> ?_,λi f a g=>⟨f,?_,g⟩⟩
 .simp only[Array.getElem?_push]at a;split at a
  .grind
  .exact b i c e a
 .grind
theorem Vw{f:Obj->Obj}(n:∀o,yq o->yq (f o))(j:∀o c e,f o=Ÿ c e->∃d g,o=Ÿ d g):Kd u {u with heap:=u.heap.modify b f}:=by
 refine⟨λh i c e a=> ?_,λi o a p=> ?_⟩
 .simp only[Ň]at a;split at a
  .let⟨o,k,l⟩:=ģ.1 a;let⟨d,g,m⟩:=j o c e l;exact h i d g<|m▸k
  .exact h i c e a
 .grind
theorem ael(a:Ú)(v:Â):Kd u (u.setCell a v):=by
 unfold ĉ;refine Vw (λo b=> ?_) λo c e h=> ?_
 .cases o<;>first|exact b.elim|trivial
 .grind
theorem Vx(b:qE u)(a:Ú)(s:String):FT (u.noCell a s)=É:=by
 unfold aP;split
 .rename_i h;exact absurd h<|b _ _ _
 .rfl
 .rfl
theorem aem(a:Ú)(m:Mode):oM P (aX a m):=by
 intro u d;constructor
 .intro x c e;simp only[aX,ã]at e;grind [Kd.fX]
 .intro z c e;simp only[aX,ã]at e;split at e
  .cases e
  .split at e
   .cases e
   .rename_i b;cases e;unfold ŋ at b;split at b
    .split at b<;>cases b;rfl
    .grind [Vx]
theorem aen{k:Ú}{r:Array Value×TypeId×(Nat×Nat)×Nat×Value×List (Nat×Nat×List UInt8)}(h:w.seen P a t k yQ=.ok r):∃c e d,w.heap[a.block]?=À (Č c e d):=by unfold World.seen at h;simp only[bind,ρ,pure,ς,Ja]at h;grind
theorem aeo{k:Ú}{l:List Ú}(h:w.viewStore P a t k v yQ=.ok (u,l)):Kd w u:=by
 have q:∃c e n d f g,w.heap[a.block]?=À (Č d f g)/\u={w with heap:=w.heap.setIfInBounds a.block (Č c e n)}:=by
  unfold bJ at h;cases i:w.seen P a t k yQ with
  |error e=>
   rw[i]at h;simp only[bind,ρ,pure,ς,Ja]at h;repeat' (first|contradiction|split at h)
  |ok r=>
   let⟨d,f,g,j⟩:=aen i;rw[i]at h;simp only[bind,ρ,pure,ς,Ja]at h;repeat' (first|contradiction|split at h)
   all_goals(simp only[Except.ok.injEq,Prod.mk.injEq]at h;obtain⟨rfl,_⟩:=h;exact⟨_,_,_,d,f,g,j,U⟩)
 obtain⟨c,e,n,d,f,g,j,rfl⟩:=q;refine⟨λs i x m r=> ?_,λi o r y=> ?_⟩
 .rw[Ś]at r;split at r
  .grind
  .exact s i x m r
 .by_cases m:a.block=i
  .subst m;rw[j]at r;cases r;exact y.elim
  .grind
theorem aep(a:Ú)(v:Â)(m:Mode):oM P (ar a v m):=by
 intro u d;by_cases c:ym v=É
 .constructor
  .intro x f e;simp only[ar]at e;rw[wC c]at e;split at e
   .split at e
    .cases e
    .cases e;exact ael a v
   .split at e
    .rename_i b;cases e;unfold Ŧ at b;grind [aeo]
    .cases e
  .intro z f e;simp only[ar]at e;rw[wC c]at e;split at e
   .split at e
    .cases e;rfl
    .cases e
   .split at e
    .cases e
    .rename_i b;cases e;unfold Ŧ at b;split at b
     .split at b<;>cases b;rfl
     .grind [Vx]
 .cases v<;>first|exact absurd U c|exact FU (P:=P) U u d
def fF(P:Õ)(m:ē α):Prop:=oM P m/\rz P m
theorem gH(a:α):fF P (pure a):=⟨Vu a,Ax λu x b e=>by cases e;exact⟨U,λ_ _=>rfl⟩⟩
def NH{z:Halt}(h:FT z=É):fF P (ew z:ē α):=⟨FU h,ND λu x a e=>by cases e⟩
theorem gw{m:ē α}{f:α->ē β}(h:fF P m)(b:∀a,fF P<|f a):fF P (m>>=f):=⟨Jb h.1 λa=>(b a).1,ad9 h.2 λa=>(b a).2⟩
def NJ{m:ē α}{f:α->β}(h:fF P m):fF P (f<$>m):=gw h λ_=>gH _
theorem je(s:String):fF P (stuck s:ē α):=NH U
def Vy(v:Â):fF P (goPanic v:ē α):=NH U
theorem qF:fF P dc:=⟨Vv,Ax λu x a e=>by cases e;exact⟨U,λ_ _=>rfl⟩⟩
theorem sN(q:bU):fF P (π q):=⟨aeg q,aeb q⟩
def FV(m:Mark):fF P (mark m):=⟨aeh m,Ax λu x a e=>by cases e;exact⟨U,λ_ _=>rfl⟩⟩
theorem tL(r:Nat):fF P (cu r):=⟨aei r,Ax λu x a e=>by cases e;exact⟨U,λ_ _=>rfl⟩⟩
theorem NK(a:Ú):fF P (eP a):=⟨aej a,Ax λu x b e=>by cases e;exact⟨U,λ_ _=>rfl⟩⟩
def Jc(o:Obj)(h:∀c e,o≠Ÿ c e):fF P (eO o):=⟨aek o h,aee o⟩
def FW(a:Ú)(m:Mode):fF P (aX a m):=⟨aem a m,aec a m⟩
def aer(a:Ú)(v:Â)(m:Mode):fF P (ar a v m):=⟨aep a v m,aed a v m⟩
theorem Je{m m':ē α}(h:∀u,m.run P u=m'.run P u)(a:fF P m'):fF P m:=⟨λu b=>by have:=a.1 u b;rwa[<-h u]at this,aea h a.2⟩
end
section
variable{α:Type}
def nn(u:br)(h:FT (ŀ u)=É):fF P (unsupported u:ē α):=NH h
def FX(e:Á)(c:Array Â):fF P (dT e c):=by unfold dT;exact gw (Jc _<|by intro _ _ h;cases h) λ_=>gH _
def Vz(t:Á)(v:Â):fF P (eM t v):=FX _ _
def vn(t:Á):fF P (Δ t):=by unfold Δ;repeat' (first|(with_reducible first|exact gH _|exact je _|exact qF|refine gw ?_ λ_=> ?_)|split)
theorem rA(t:Á):fF P (ø t):=by unfold ø;repeat' (first|(with_reducible first|exact gH _|exact je _|exact qF|refine gw ?_ λ_=> ?_)|split)
def tM{p:Prop}(h:p:=by repeat' (first|(with_reducible first|exact gH _|exact je _|exact qF|exact rA _|exact Vy _|exact Vz _ _|exact sN _|exact vn _|exact FW _ _|exact tL _|exact FV _|refine gw ?_ (λ_=> ?_)|refine NJ ?_|refine nn _ ?_)|split|rfl)):p:=h
def Jf(t:Á):fF P (Ū t):=by unfold Ū;exact tM
def wF(e:Ι):fF P (runtimePanic e:ē α):=by unfold runtimePanic;repeat' (first|(with_reducible first|exact Jf _|refine gw ?_ λ_=> ?_)|split|exact tM)
def VA(k:ú)(x y:Int)(c:ax):fF P (boundsPanic k x y c:ē α):=by unfold boundsPanic;simp only[];repeat' (first|(with_reducible first|exact wF _|refine gw ?_ λ_=> ?_)|split|exact tM)
def aes(r:Nat):oM P (cm r):=by
 intro u b;constructor
 .intro x a e;simp only[cm,ã]at e;split at e<;>first|(cases e;done)|(cases e;exact Kd.fX u)
 .intro z a e;simp only[cm,ã]at e;split at e<;>first|(cases e;done)|(cases e;rfl)
theorem VB(r:Nat):fF P (cm r):=⟨aes r,aef r⟩
def Jg(t:Á):fF P (ω t):=by unfold ω;exact tM
def tN(t:Á):fF P (ay t):=by unfold ay;exact tM
def NL(t:Á):fF P (ey t):=by unfold ey;exact tM
def VC(a:Ú):∀(n i:Nat) (b:Array Â),fF P<|Ō a i n b
 |0,i,b=>gH _
 |n+1,i,b=>by unfold Ō;exact gw (FW _ _) λ_=>VC a n _ _
def NM(a:Ú)(n:Nat):fF P (cZ a n):=VC a n _ _
def Jh(a:Ú):∀(b:List Â) (i:Nat),fF P<|Κ a b i
 |[],i=>gH _
 |v::b,i=>by unfold Κ;exact gw (aer _ _ _) λ_=>Jh a b _
theorem VD(t:Á)(a:Ú):fF P (ae t a):=by unfold ae;repeat' (first|(with_reducible first|exact tN _|exact NL _|exact NM _ _|refine gw ?_ λ_=> ?_)|split|exact tM)
def aeu(t:Á)(a:Ú)(v:Â):fF P (aJ t a v):=by unfold aJ;repeat' (first|(with_reducible first|exact tN _|exact Jh _ _ _|refine gw ?_ λ_=> ?_)|split|exact tM)
def VE(t:Á)(c:Array Â)(o:Nat):fF P (part t c o):=by unfold part;repeat' (first|(with_reducible first|exact tN _|exact NL _|refine gw ?_ λ_=> ?_)|split|exact tM)
def VF(v:Â):fF P (ŧ v):=by unfold ŧ;exact tM
def VG(v:Â):fF P (de v):=by unfold de;exact tM
def j5{p:Prop}(h:p:=by repeat' (first|(with_reducible first|exact gH _|exact je _|exact qF|exact rA _|exact Vy _|exact Vz _ _|exact Jf _|exact sN _|exact wF _|exact vn _|exact FW _ _|exact tN _|exact NL _|exact NM _ _|exact Jh _ _ _|exact VG _|exact Jg _|exact aeu _ _ _|exact VD _ _|exact VF _|exact VE _ _ _|exact tL _|exact VB _|exact VA _ _ _ _|exact FV _|refine gw ?_ (λ_=> ?_)|refine NJ ?_|refine nn _ ?_)|split|rfl)):p:=h
def FY(v:Â):fF P (dB v):=by unfold dB;exact j5
def Ji(v:Â):fF P (bW v):=by unfold bW;exact j5
def aev(v:Â):fF P (eN v):=by unfold eN;exact j5
theorem VH(v:Â):fF P (bX v):=by unfold bX;exact j5
def VI(t:Á)(b:Bool)(v:Â):fF P (Ű t b v):=by unfold Ű;exact j5
def VJ(t:Á)(v:Â):fF P (ag t v):=by unfold ag;exact j5
def VK(t:Á)(v:Â):fF P (Ş t v):=by unfold Ş;exact j5
def VL(t:Á)(a v:Â):fF P (ĳ t a v):=by unfold ĳ;exact j5
def VM(v:Â)(n:Nat):fF P (ō v n):=by unfold ō;exact j5
def VN(t:Á)(v:Â)(n:Nat):fF P (ű t v n):=by unfold ű;repeat' (first|(with_reducible first|exact aev _|refine gw ?_ λ_=> ?_)|split|exact j5)
def VO{γ δ:Type}(f:γ->ē δ)(a:∀x,fF P<|f x):∀l:List γ,fF P<|l.mapM f
 |[]=>by rw[cR];exact gH _
 |x::l=>by rw[ν];exact gw (a x) λ_=>gw (VO f a l) λ_=>gH _
theorem VP{γ δ:Type}(f:γ->ē δ)(a:∀x,fF P<|f x)(l:Array γ):fF P (l.mapM f):=by rw[Ĕ];exact NJ<|VO f a _
def aew(l:Array Field):fF P (l.mapM λf=>do pure (f.offset,<-ay f.type)):=VP _ (λ_=>gw (tN _) λ_=>gH _) l
def Jj(r:Nat):fF P (di r):=by unfold di;exact j5
def VQ(r:Nat):fF P (b9 r):=by unfold b9;exact j5
def VR(a:Ú):fF P (aY a):=by unfold aY;repeat' (first|(with_reducible first|exact Jj _|refine gw ?_ λ_=> ?_)|split|exact j5)
def Ay(a:Ú):fF P (dj a):=by unfold dj;repeat' (first|(with_reducible first|exact gH _|exact je _|exact qF|exact tL _|exact VR _|refine gw ?_ λ_=> ?_)|split|simp only[]|(rename_i b;cases b<;>simp only[Å,if_false,if_true,þ,Ă]))
def C3(a:Ú):fF P (Į a):=by unfold Į;repeat' (first|(with_reducible first|exact VQ _|refine gw ?_ λ_=> ?_)|split|exact j5)
def aex(a:Ú)(x y:Nat):fF P (partAt a x y):=by unfold partAt;repeat' (first|(with_reducible first|exact Ay _|refine gw ?_ λ_=> ?_)|split|exact j5)
def aey(a:Ú)(f:Field):fF P (bY a f):=by unfold bY;repeat' (first|(with_reducible first|exact aex _ _ _|refine gw ?_ λ_=> ?_)|split|exact j5)
def VS(s:Á)(v:Â)(n:Nat):fF P (Ŏ s v n):=by unfold Ŏ;repeat' (first|(with_reducible first|exact aey _ _|refine gw ?_ λ_=> ?_)|split|exact j5)
def VT(t:Á)(x i:Â):fF P (ŏ t x i):=by unfold ŏ;repeat' (first|(with_reducible first|exact gH _|exact je _|exact rA _|exact VA _ _ _ _|exact tN _|exact VF _|exact VG _|refine gw ?_ (λ_=> ?_)|refine nn _ ?_)|split|rfl|simp only[])
def aez(x:Â)(y:Nat)(c:ax):fF P (ī x y c):=by unfold ī;exact j5
def VU(b:Bool)(l c:Nat)(x y z:Option Â):fF P (Ĩ b l c x y z):=by unfold Ĩ;repeat' (first|(with_reducible first|exact aez _ _ _|refine gw ?_ λ_=> ?_)|split|exact j5)
def aeA(t:Á)(v:Â)(x y z:Option Â):fF P (Ų t v x y z):=by unfold Ų;repeat' (first|(with_reducible first|exact VH _|exact VU _ _ _ _ _ _|refine gw ?_ λ_=> ?_)|split|exact j5)
def VW(t:Á)(v:Â)(x y z:Option Â):fF P (Ő t v x y z):=by unfold Ő;repeat' (first|(with_reducible first|exact VU _ _ _ _ _ _|exact aeA _ _ _ _ _|refine gw ?_ λ_=> ?_)|split|exact j5)
def VX(t:Á)(x i:Â):fF P (ų t x i):=by unfold ų;exact j5
def VY(o:ġ)(k:ú)(x y:Int):fF P (dE o k x y):=by unfold dE;exact j5
def VZ(o:ġ)(k:ú)(x y:Int):fF P (ea o k x y):=by unfold ea;exact j5
def V1(o:UnOp)(v:Â):fF P (bZ o v):=by unfold bZ;repeat' (first|(with_reducible first|exact VY _ _ _ _|exact VZ _ _ _ _)|split|exact j5)
def V2(t:Á)(a:Array (Nat×Value)):fF P (Ŵ t a):=by unfold Ŵ;repeat' (first|(with_reducible first|exact aew _|refine gw ?_ λ_=> ?_)|split|exact j5)
def V3(t:Á)(n:Nat)(a:Array (Nat×Value)):fF P (ĭ t n a):=by unfold ĭ;repeat' (first|(with_reducible first|exact gH _|exact je _|exact FX _ _|exact rA _|exact Jg _|exact tN _|refine gw ?_ (λ_=> ?_)|refine nn _ ?_)|split|rfl|simp only[]|(rename_i b;cases b<;>simp only[Å,if_false,if_true,þ,Ă]))
def NN(n:Nat):fF P (bP n):=by unfold bP;exact j5
def V4(t:Á)(x y:Â):fF P (Ĺ t x y):=by unfold Ĺ;repeat' (first|(with_reducible first|exact gH _|exact je _|exact sN _|exact FX _ _|exact vn _|exact rA _|exact wF _|exact Jg _|exact tN _|exact FY _|exact NN _|refine gw ?_ λ_=> ?_)|split|simp only[]|(rename_i b;cases b<;>simp only[Å,if_false,if_true,þ,Ă]))
def V5(v:Â):fF P (Α v):=by unfold Α;exact j5
def V7(s n:Nat)(v:Â):fF P (ļ s n v):=by unfold ļ;exact j5
def aeB(a:Ú)(n:Nat):fF P (aB a n):=by unfold aB;exact j5
def aeC(s l n:Nat)(b:Option Ú)(v:Â):fF P (bb s l n b v):=by unfold bb;repeat' (first|(with_reducible first|exact gH _|exact NK _|exact aeB _ _|refine gw ?_ λ_=> ?_)|split|simp only[]|(rename_i b;cases b<;>simp only[Å,if_false,if_true,þ,Ă]))
def V8(a:Array Á)(t:Á)(x:Array Â):fF P (ş a t x):=by unfold ş;exact j5
def V9(a:Array Á)(t:Á)(x:Array Â):fF P (Š a t x):=by unfold Š;exact j5
def Wa(a:Array Á)(t:Á)(x:Array Â):fF P (ő a t x):=by unfold ő;repeat' (first|(with_reducible first|exact V5 _|exact V7 _ _ _|refine gw ?_ λ_=> ?_)|split|exact j5)
def Wb(a:Array Á)(t:Á)(x:Array Â):fF P (ĸ a t x):=by unfold ĸ;repeat' (first|(with_reducible first|exact gH _|exact je _|exact sN _|exact FV _|exact FX _ _|exact vn _|exact rA _|exact wF _|exact Jg _|exact tN _|exact Jh _ _ _|exact FY _|exact NN _|exact V5 _|exact V7 _ _ _|exact aeC _ _ _ _ _|refine gw ?_ (λ_=> ?_)|refine nn _ ?_)|split|rfl|(rename_i b;cases b<;>simp only[Å,if_false,if_true,þ,Ă]))
end
section
variable{α:Type}
theorem NO(o:ġ)(k:ı)(x y:Nat):fF P (cS o k x y):=by unfold cS;repeat' (first|(with_reducible first|exact gH _|exact je _|exact sN _|refine gw ?_ λ_=> ?_)|split|simp only[]|(rename_i b;cases b<;>simp only[Å,if_false,if_true,þ,Ă]))
theorem NP(o:ġ)(k:ı)(x y:Nat):fF P (dF o k x y):=by unfold dF;grind [gH,je]
theorem aeD(s:ı)(b:Nat)(d:ı):fF P (aQ s b d):=by unfold aQ;grind [gH,sN,gw]
theorem Wc(s:ı)(b:Nat)(d:ú):fF P (bK s b d):=by unfold bK;grind [gH,sN,gw]
theorem aeE(o:ġ)(k:ı)(x y:Nat):fF P (bg o k x y):=by unfold bg;grind [gH,je,NO,gw]
def np{p:Prop}(h:p:=by repeat' (first|(with_reducible first|exact gH _|exact je _|exact sN _|exact NO _ _ _ _|exact Ji _|exact NP _ _ _ _|exact aeD _ _ _|exact aeE _ _ _ _|exact wF _|exact qF|exact Ay _|exact tL _|exact FY _|exact Jj _|exact rA _|exact C3 _|exact VQ _|refine gw ?_ (λ_=> ?_)|refine nn _ ?_)|split|rfl)):p:=h
def Wg(o:ġ)(k:ı)(x y:Nat):fF P (cw o k x y):=by unfold cw;exact np
def aeF(s:ı)(b:Nat)(d:ı):fF P (bL s b d):=by unfold bL;exact np
def NQ(x y:Nat):fF P (cx x y):=by unfold cx;exact np
def NS(x y:Nat):fF P (cy x y):=by unfold cy;exact np
def NT(x y:Nat):fF P (cz x y):=by unfold cz;exact np
def aeG(x y:Nat):fF P (cA x y):=by unfold cA;exact np
def aeH(a b c d:Nat):fF P (aC a b c d):=by unfold aC;repeat' (first|(with_reducible first|exact NQ _ _|exact NS _ _|exact NT _ _|refine gw ?_ λ_=> ?_)|split|exact np)
def aeI(s a b c d:Nat):fF P (σ s a b c d):=by unfold σ;repeat' (first|(with_reducible first|exact NQ _ _|exact NS _ _|exact NT _ _|refine gw ?_ λ_=> ?_)|split|exact np)
def aeJ(a b c d:Nat):fF P (ai a b c d):=by unfold ai;repeat' (first|(with_reducible first|exact gH _|exact Wg _ _ _ _|exact NQ _ _|exact NS _ _|exact NT _ _|exact aeG _ _|exact aeI _ _ _ _ _|refine gw ?_ λ_=> ?_)|split|simp only[])
def Wh(o:ġ)(k:ı)(a b c d:Nat):fF P (dp o k a b c d):=by unfold dp;repeat' (first|(with_reducible first|exact Wg _ _ _ _|exact aeF _ _ _|exact aeH _ _ _ _|exact aeJ _ _ _ _|refine gw ?_ λ_=> ?_)|split|exact np)
def aeK(o:ġ)(k:ú)(x y:Int):fF P (ah o k x y):=by unfold ah;exact np
def Wi(o:ġ)(x y:Int):fF P (eE o x y):=by unfold eE;exact np
def aeL(o:ġ)(k:ú)(x:Int)(a:ú)(y:Int):fF P (aK o k x a y):=by unfold aK;exact np
def NU(o:ġ)(x y:ByteArray):fF P (bu o x y):=by unfold bu;exact np
def Wj(a b:Ú):fF P (š a b):=by unfold š;exact np
def aeM(k:ú)(a b:Ú):fF P (Μ k a b):=by unfold Μ;repeat' (first|(with_reducible first|exact Wj _ _|refine gw ?_ λ_=> ?_)|split|exact np)
def aeN(o:ġ)(a b:Ú):fF P (Ν o a b):=by unfold Ν;repeat' (first|(with_reducible first|exact Wj _ _|refine gw ?_ λ_=> ?_)|split|exact np)
def aeO(k:ú)(a:Ú)(n:Int):fF P (Ξ k a n):=by unfold Ξ;repeat' (first|(with_reducible first|exact gH _|exact tL _|exact vn _|exact Ay _|refine gw ?_ (λ_=> ?_)|refine nn _ ?_)|split|rfl|simp only[]|(rename_i b;cases b<;>simp only[Å,if_false,if_true,þ,Ă]))
def Wk(a:Array Á)(t:Á)(x y:Â):fF P (ñ a t #[x,y]):=by
 unfold ñ;cases x<;>first|exact je _|skip
 refine gw (FY y) λn=> ?_;exact np
def aeP(a:Ú)(b:Bool):fF P (cg a b):=by unfold cg;repeat' (first|(with_reducible first|exact gH _|refine gw ?_ (λ_=> ?_)|refine Jc _ ?_)|split|(intro _ _ h;cases h;done))
def aeQ(t:Á)(x y:Â):fF P (ŕ t x y):=by unfold ŕ;repeat' (first|(with_reducible first|exact Wk _ _ _ _|exact aeP _ _|refine gw ?_ λ_=> ?_)|split|exact np)
def aeR(t:Á)(x y:Â):fF P (Ţ t x y):=by unfold Ţ;repeat' (first|(with_reducible first|exact Wk _ _ _ _|refine gw ?_ λ_=> ?_)|split|exact np)
theorem wG{γ:Type}{d:dG}(h:P.underlying t=À d){f:dG->ē γ}(a:fF P (f d)):fF P (ø t>>=f):=by
 have e:∀u,(ø t).run P u=ĥ d u:=by intro u;unfold ø;simp_all
 grind [Je,Ä,È]
def Wl(t:Á)(x y:Â)(a:tK P t\/((∃e,P.underlying t=À (ð e))/\(nk x\/nk y))):fF P (ó t x y):=by
 unfold ó ā Λ;rcases a with(h|⟨k,h⟩|h)|⟨⟨e,h⟩,k⟩<;>refine wG h ?_
 .repeat' (first|(with_reducible first|exact gH _|exact je _|exact qF|exact vn _|exact Ay _|exact C3 _|refine gw ?_ (λ_=> ?_)|refine nn _ ?_)|contradiction|split)
 .repeat' (first|(with_reducible first|exact gH _|exact je _|exact qF|exact vn _|exact Ay _|exact C3 _|refine gw ?_ (λ_=> ?_)|refine nn _ ?_)|contradiction|split|rfl)
 .repeat' (first|(with_reducible first|exact gH _|exact je _|exact qF|exact vn _|exact Ay _|exact C3 _|refine gw ?_ (λ_=> ?_)|refine nn _ ?_)|contradiction|split)
 .repeat' (first|(with_reducible first|exact gH _|exact je _|exact qF|exact vn _|exact Ay _|exact C3 _|refine gw ?_ (λ_=> ?_)|refine nn _ ?_)|contradiction|exact(Or.elim k id id:False).elim|split)
def aeS(t:Á)(a:FL P t)(x y:Â):fF P (į ā t x y):=by unfold ā į;rcases a with(h|⟨k,h⟩|h)|⟨e,h⟩<;>refine wG h ?_<;>(cases x<;>cases y<;>exact gH _)
theorem Wm(c:ġ)(t:Á)(d:c=aA\/c=aL->FL P t)(x y:Ö)(a b:Â):fF P (ŷ c t x y a b):=by
 unfold ŷ;by_cases e:c=aA\/c=aL
 .have f:=d e;rcases e with rfl|rfl;all_goals
   repeat' (first|(with_reducible first|exact aeS _ f _ _|refine gw ?_ λ_=> ?_)|split|exact np)
 .grind [gH]
end
section
variable{α:Type}
theorem aeT(k:ú)(n:Int):fF P (cT k n):=by unfold cT;grind [gH]
theorem Wn(n:Int):fF P (bh n):=by unfold bh;grind [gH]
def aeU(a:ġ)(t:Á)(x y:Â)(h:a=aA\/a=aL->(tK P t\/((∃e,P.underlying t=À (ð e))/\(nk x\/nk y)))):fF P (Ũ a t x y):=by unfold Ũ;repeat' (first|(with_reducible first|exact Wl _ _ _ (h<|Ç U)|exact Wl _ _ _ (h<|Î U)|exact gH _|exact je _|exact rA _|exact C3 _|exact VY _ _ _ _|exact VZ _ _ _ _|exact NO _ _ _ _|exact NP _ _ _ _|exact Wh _ _ _ _ _ _|exact aeK _ _ _ _|exact Wi _ _ _|exact aeL _ _ _ _ _|exact NU _ _ _|exact aeM _ _ _|exact aeN _ _ _|exact aeO _ _ _|exact aeQ _ _ _|exact aeR _ _ _|refine gw ?_ (λ_=> ?_)|refine nn _ ?_)|contradiction|split|rfl)
def aeV(s d:Á)(x:Â)(h:(∃k a,P.underlying s=À (Β k)/\P.underlying d=À (Β a))\/(P.underlying s=À ę/\P.underlying d=À ę)):fF P (Œ s d x):=by
 unfold Œ;rcases h with⟨k,a,b,c⟩|⟨b,c⟩<;>refine wG b<|wG c ?_
 .repeat' (first|(with_reducible first|exact aeT _ _|exact gH _|exact Wc _ _ _|refine nn _ ?_)|contradiction|split|rfl)
 .repeat' (first|(with_reducible first|exact Wn _|exact gH _|exact Wc _ _ _|refine nn _ ?_)|contradiction|split|rfl)
def Wo:∀(l:List FieldStep) (t:Á) (x:Option Â),fF P<|bx l t x
 |[],t,x=>by unfold bx;exact gH _
 |s::l,t,x=>by unfold bx;repeat' (first|(with_reducible first|exact Wo l _ _|exact gH _|exact je _|exact rA _|exact VE _ _ _|refine gw ?_ λ_=> ?_)|split|(intro _ _ h;cases h;done)|rfl|simp only[]|(rename_i b;cases b<;>simp only[Å,if_false,if_true,þ,Ă]))
def Wp:∀(n:Nat) (t:Á) (v:Â) (s:String),fF P<|aR n t v s
 |0,t,v,s=>by unfold aR;exact gH _
 |n+1,t,v,s=>by unfold aR;repeat' (first|(with_reducible first|exact Wp n _ _ _|exact Wo _ _ _|exact gH _|exact je _|exact vn _|exact rA _|refine gw ?_ λ_=> ?_)|split|(intro _ _ h;cases h;done)|rfl|simp only[]|(rename_i b;cases b<;>simp only[Å,if_false,if_true,þ,Ă]))
def lU{m:ē Â}(h:fF P m):fF P (m>>=λv=>pure<|ï v):=gw h λ_=>gH _
theorem aeW(f:à)(b:∃a,P.funcs[f]?=À a/\(a.name== "runtime.NumGoroutine")=Ã/\a.body.isNone=Ã)(c:Array Â):fF P (ĵ f c):=by let⟨a,d,e,g⟩:=b;refine Je (m':=pure<|ũ f c) (λu=> ?_)<|gH _;unfold ĵ;rw[Ä,ă];grind [È,Å]
def aeX(j:km P xX o.op):fF P (ì xX o):=by
 let⟨k,g,m,p,u,guard⟩:=o;simp only at j;unfold ì;simp only[];cases j with
 |Aw x=>exact gH _
 |FM x=>exact gH _
 |wE c a b=>exact gw (Ji _) λ_=>gH _
 |gJ t=>exact lU<|VI _ _ _
 |Nr t x=>exact lU<|VJ _ _
 |Ns t b=>exact lU<|V2 _ _
 |Nt t n b=>exact lU<|V3 _ _ _
 |gC t a=>exact lU<|VK _ _
 |jd t a x=>exact gw (VL _ _ _) λ_=>gH _
 |FN x=>
  simp only[];repeat' (first|(with_reducible first|exact Wp _ _ _ _|exact gH _|exact qF|exact wF _|exact Ji _|exact VI _ _ _|exact VJ _ _|exact VK _ _|exact VL _ _ _|exact VM _ _|exact VN _ _ _|exact VS _ _ _|exact VT _ _ _|exact VW _ _ _ _ _|exact VX _ _ _|exact V1 _ _|exact V2 _ _|exact V3 _ _ _|exact V4 _ _ _|exact V8 _ _ _|exact V9 _ _ _|exact Wa _ _ _|exact Wb _ _ _|refine gw ?_ (λ_=> ?_)|refine nn _ ?_)|split|rfl)
 |C0 g t x y r h=>exact lU<|gw (Wm g t (λe=>(h e).imp id λq=>q.1) x y _ _) λ_=>aeU g t _ _ h
 |Nu g t x=>exact lU<|V1 _ _
 |Nv s d x h=>exact lU<|aeV s d _ h
 |Nw t l c=>exact lU<|V4 _ _ _
 |kL t x b a c=>exact lU<|VW _ _ _ _ _
 |Nx s x n h=>exact lU<|VS _ _ _
 |Ny t x n=>exact lU<|VN _ _ _
 |Nz t x i=>exact lU<|VT _ _ _
 |NA t x i=>exact lU<|VX _ _ _
 |FD x n=>exact lU<|VM _ _
 |FO x a=>
  simp only[ù,č,Ē,pure_bind,Ø,â,ä];exact lU<|V8 _ _ _
 |FP x a=>
  simp only[ù,č,Ē,pure_bind,Ø,â,ä];exact lU<|V9 _ _ _
 |FQ x y a=>
  simp only[ù,č,Ē,pure_bind,Ø,â,ä];exact lU<|Wa _ _ _
 |tJ x y b c h=>
  simp only[ù,č,Ē,pure_bind,Ø,â,ä];exact lU<|Wb _ _ _
 |jN f c a b h=>
  simp only[ù,b,İ,č,pure_bind,Ď,ď];exact aeW f h _
end
def fm(f:à)(t:Array Â)(k:List ś):Ę:=(base f).at ⟨t,[]⟩ k
structure St where
 f:à
 t:Array Â
 k:List ś
 C:Bool
 L:List (FuncId×Array Value×List ś)
def St.r(s:St)(cs:List Ę):Ó:=G (if s.C then{fm s.f s.t s.k with mode:=.returning}else fm s.f s.t s.k)<|s.L.map (λx=>fm x.1 x.2.1 x.2.2)++cs
def pg(t:Array Â)(d:Option Tmp)(v:Â):Array Â:=(Act.put ⟨t,[]⟩ d v).tmps
def sP(t:Array Â)(d:Option Tmp)(v:Â):Act.put ⟨t,[]⟩ d v=⟨pg t d v,[]⟩:=by cases d<;>rfl
inductive LS(P:Õ):St->Æ->St->Æ->Prop
 |pe {f t L u:_}:LS P ⟨f,t,[],Ã,L⟩ u ⟨f,t,[],É,L⟩ u
 |vo {f t k L u:_}:LS P ⟨f,t,Đ .ret::k,Ã,L⟩ u ⟨f,t,Đ .ret::k,É,L⟩ u
 |sL {f t k L u:_}:LS P ⟨f,t,Đ eR::k,Ã,L⟩ u ⟨f,t,k,Ã,L⟩ u
 |wH {f t k L u l:_}:LS P ⟨f,t,Đ (eb l)::k,Ã,L⟩ u ⟨f,t,k,Ã,L⟩ u
 |yr {f t k L u id:_}:LS P ⟨f,t,dH id::k,Ã,L⟩ u ⟨f,t,k,Ã,L⟩ u
 |vp {f t k L u c:_}:LS P ⟨f,t,dI c::k,Ã,L⟩ u ⟨f,t,k,Ã,L⟩ u
 |rB {f t k L u x y:_}:LS P ⟨f,t,Đ (.seq x y)::k,Ã,L⟩ u ⟨f,t,Đ x::Đ y::k,Ã,L⟩ u
 |tO {f t k L u c x y b:_} (h:å ⟨t,[]⟩ c=Ľ b):LS P ⟨f,t,Đ (bz c x y)::k,Ã,L⟩ u ⟨f,t,Đ (if b then x else y)::k,Ã,L⟩ u
 |rC {f t k L u id c:_}:LS P ⟨f,t,Đ (ec id c)::k,Ã,L⟩ u ⟨f,t,Đ c::dH id::k,Ã,L⟩ u
 |wI {f t k L u c:_}:LS P ⟨f,t,Đ (eS c)::k,Ã,L⟩ u ⟨f,t,Đ c::dq c::k,Ã,L⟩ u
 |wK {f t k L u c:_}:LS P ⟨f,t,dq c::k,Ã,L⟩ u ⟨f,t,Đ c::dq c::k,Ã,L⟩ u
 |wL {f t k L u c:_}:LS P ⟨f,t,Đ (ef c)::k,Ã,L⟩ u ⟨f,t,Đ c::dI c::k,Ã,L⟩ u
 |wM {f t k L u id k':_} (h:cC id k=À k'):LS P ⟨f,t,Đ (eT id)::k,Ã,L⟩ u ⟨f,t,k',Ã,L⟩ u
 |wN {f t k L u l k':_} (h:cD l k=À k'):LS P ⟨f,t,Đ (eU l)::k,Ã,L⟩ u ⟨f,t,k',Ã,L⟩ u
 |tP {f t k L u id ops:_}:LS P ⟨f,t,Đ (bQ id ops Ã)::k,Ã,L⟩ u ⟨f,t,á ops (List.range ops.size)::k,Ã,L⟩ u
 |Az {f t k L u id ops:_}:LS P ⟨f,t,Đ (bQ id ops É)::k,Ã,L⟩ u ⟨f,t,á ops (bM (P.follows .mixedOrders) ops<|u.tape u.drawn<|.order f id)::k,Ã,L⟩ {u with drawn:=u.drawn+1}
 |FZ {f t k L u ops:_}:LS P ⟨f,t,á ops []::k,Ã,L⟩ u ⟨f,t,k,Ã,L⟩ u
 |C4 {f t k L u ops i rest o:_} (ho:ops[i]?=À o) (hw:Ħ o (ł ops t)=Ã):LS P ⟨f,t,á ops (i::rest)::k,Ã,L⟩ u ⟨f,pg t o.dst ľ,á ops rest::k,Ã,L⟩ u
 |nU {f t k L u ops i rest o v u':_} (ho:ops[i]?=À o) (hw:Ħ o (ł ops t)=É) (hr:(ì (å ⟨t,[]⟩) o).run P u=ĥ (ï v) u'):LS P ⟨f,t,á ops (i::rest)::k,Ã,L⟩ u ⟨f,pg t o.dst v,á ops rest::k,Ã,L⟩ u'
 |AA {f t k L u ops i rest o u':_} (ho:ops[i]?=À o) (hw:Ħ o (ł ops t)=É) (hr:(ì (å ⟨t,[]⟩) o).run P u=ĥ aH u'):LS P ⟨f,t,á ops (i::rest)::k,Ã,L⟩ u ⟨f,pg t o.dst ľ,á ops rest::k,Ã,L⟩ u'
 |sM {f t k L u ops i rest o g args fn c u':_} (ho:ops[i]?=À o) (hw:Ħ o (ł ops t)=É) (hr:(ì (å ⟨t,[]⟩) o).run P u=ĥ (ũ g args) u') (hf:P.funcs[g]?=À fn) (hb:fn.body=À c):LS P ⟨f,t,á ops (i::rest)::k,Ã,L⟩ u ⟨g,args++ĺ (fn.ntmps-args.size) ľ,[Đ c],Ã,(f,t,á ops (i::rest)::k)::L⟩ u'
 |C5 {f t k L u ops i rest:_} (ho:(ops:Array av)[(i:Nat)]?=ë):LS P ⟨f,t,á ops (i::rest)::k,Ã,L⟩ u ⟨f,t,á ops rest::k,Ã,L⟩ u
 |wO {f t k L u g t' ops i rest k' v fn u':_} (hf:P.funcs[f]?=À fn) (hr:(Ī fn t).run P u=ĥ v u'):LS P ⟨f,t,k,É,(g,t',á ops (i::rest)::k')::L⟩ u ⟨g,pg t' ((ops[i]?).bind (·.dst)) v,á ops rest::k',Ã,L⟩ u'
inductive mD(GL:Nat->Prop):Ö->Prop
 |Wq (t:Tmp):mD GL (.tmp t)
 |Wr {v:Â} (h:jY v):mD GL (dZ v)
 |Ws {g:Nat} (h:GL g):mD GL (ez g)
 |Wt (f:à):mD GL (aO f)
structure mR(P:Õ)(GL:Nat->Prop)(fc:à->Prop)(o:av):Prop where
 mS:∀{Y:fu} {Sh:Nat->Prop} {t t':Array Â} {u w:Æ},nT P->Y.C=P.globals.size->(∀g,GL g->Y g g)->fT Y t t'->ji Y Sh u w->(∀j,Sh j->j<w.heap.size)->∀{x:Ο} {u':Æ},(ì (å ⟨t,[]⟩) o).run P u=ĥ x u'->CY u u'->
  ∃(Y':fu) (x':Ο) (w':Æ) (Wu:Array ý),Y.r Y'/\(∀i j,Y' i j->Y i j\/(u.heap.size<=i/\w.heap.size<=j))/\(ì (å ⟨t',[]⟩) o).runT P w #[]=(ĥ x' w',#[]++Wu)/\pf Y' x x'/\ji Y' Sh u' w'/\nS Y Sh w w'/\(∀e∈Wu,As Y' Sh e)/\u.heap.size<=u'.heap.size
 r:∀a:bF,fF P<|ì a.eval o
 I:∀(a:bF) (u:Æ) (n:Ο) (u':Æ),(ì a.eval o).run P u=ĥ n u'->(∃v,n=ï v)\/n=aH\/∃f c,n=ũ f c
 C:∀(a:bF) (u:Æ) (f:à) (c:Array Â) (u':Æ),(ì a.eval o).run P u=ĥ (ũ f c) u'->fc f
inductive kO(P:Õ)(GL:Nat->Prop)(fc:à->Prop):ak->Prop
 |vo:kO P GL fc .ret
 |sL:kO P GL fc eR
 |wH (l:Nat):kO P GL fc (eb l)
 |wM (id:Nat):kO P GL fc (eT id)
 |wN (l:Nat):kO P GL fc (eU l)
 |rB {x y:ak} (hx:kO P GL fc x) (hy:kO P GL fc y):kO P GL fc (.seq x y)
 |tO {c:Ö} {x y:ak} (hc:mD GL c) (hx:kO P GL fc x) (hy:kO P GL fc y):kO P GL fc (bz c x y)
 |rC (id:Nat) {c:ak} (h:kO P GL fc c):kO P GL fc (ec id c)
 |wI {c:ak} (h:kO P GL fc c):kO P GL fc (eS c)
 |wL {c:ak} (h:kO P GL fc c):kO P GL fc (ef c)
 |tP (id:Nat) {ops:Array av} (draw:Bool) (h:∀o∈ops,mR P GL fc o):kO P GL fc (bQ id ops draw)
 |nV (Wv:String):kO P GL fc (dt Wv)
inductive AB(P:Õ)(GL:Nat->Prop)(fc:à->Prop):ś->Prop
 |rD {c:ak} (h:kO P GL fc c):AB P GL fc (Đ c)
 |yr (id:Nat):AB P GL fc (dH id)
 |vp {c:ak} (h:kO P GL fc c):AB P GL fc (dI c)
 |wK {c:ak} (h:kO P GL fc c):AB P GL fc (dq c)
 |wP {ops:Array av} (is:List Nat) (h:∀o∈ops,mR P GL fc o):AB P GL fc (á ops is)
def sQ(P:Õ)(a:Nat->Prop)(b:à->Prop)(k:List ś):Prop:=∀i∈k,AB P a b i
structure lV(P:Õ)(GL:Nat->Prop)(fc:à->Prop)(s:St):Prop where
 gh:sQ P GL fc s.k
 fw:∀x∈s.L,sQ P GL fc x.2.2
def pj(P:Õ)(d:Nat->Prop)(a:à->Prop):Prop:=∀f,a f->∀b c,P.funcs[f]?=À b->b.body=À c->kO P d a c
section
variable{GL:Nat->Prop}{fc:à->Prop}
def aeY{a:ak}(h:kO P GL fc wX):bj wX i=À a->kO P GL fc a:=by
 induction h generalizing a with
 |rB j b d f=>
  intro e;simp only[bj]at e;split at e
  .rename_i r g;cases e;exact .rB (d g) b
  .exact f e
 |wH k=>
  intro e;simp only[bj]at e;split at e<;>cases e;exact .sL
 |_=>intro e;simp only[bj]at e;cases e
def aeZ{id:Nat}:∀{k a:List ś},sQ P GL fc k->cC id k=À a->sQ P GL fc a:=by
 intro k
 induction k with
 |nil=>intro a _ e;simp[cC]at e
 |cons i k c=>
  intro a h e;have b:=λj d=>h j<|ò _ d;cases i with
  |inBlock f=>
   simp only[cC]at e;split at e
   .cases e;exact b
   .exact c b e
  |_=>simp only[cC]at e;exact c b e
def ae0:∀{k c:List ś},sQ P GL fc k->cD i k=À c->sQ P GL fc c:=by
 intro k
 induction k with
 |nil=>intro c _ e;simp[cD]at e
 |cons a k f=>
  intro c h e;have d:=λj b=>h j<|ò _ b;cases a with
  |inScope m=>
   simp only[cD]at e;have g:kO P GL fc m:=by cases h _ (î ..)with|vp h=>exact h
   split at e
   .rename_i r n;cases e;intro j b;rcases œ.1 b with rfl|b
    .exact .rD (aeY g n)
    .rcases œ.1 b with rfl|b
     .exact .vp g
     .exact d j b
   .exact f d e
  |_=>simp only[cD]at e;exact f d e
def nW{i:ś}(h:sQ P GL fc (i::L)):sQ P GL fc L:=λj a=>h j<|ò _ a
def oN{i:ś}(b:AB P GL fc i)(h:sQ P GL fc L):sQ P GL fc (i::L):=λj a=>by
 rcases œ.1 a with rfl|a
 .exact b
 .exact h j a
def yt{c:ak}{k:List ś}(h:sQ P GL fc (Đ c::k)):kO P GL fc c:=by cases h _ (î ..)with|rD h=>exact h
def pn{ops:Array av}{k:List ś}(h:sQ P GL fc (á ops jJ::k)):∀o∈ops,mR P GL fc o:=by cases h _ (î ..)with|wP _ h=>exact h
def LS.ok(i:pj P GL fc)(k:∀o a u f l w,mR P GL fc o->(ì (å a) o).run P u=ĥ (ũ f l) w->fc f){s g:St}(h:LS P s u g w)(ok:lV P GL fc s):lV P GL fc g:=by
 let⟨c,d⟩:=ok;cases h with
 |pe=>exact⟨c,d⟩
 |vo=>exact⟨c,d⟩
 |sL=>exact⟨nW c,d⟩
 |wH=>exact⟨nW c,d⟩
 |yr=>exact⟨nW c,d⟩
 |vp=>exact⟨nW c,d⟩
 |rB=>
  cases yt c with
  |rB e j=>exact⟨oN (.rD e)<|oN (.rD j)<|nW c,d⟩
 |@tO _ _ _ _ _ _ _ _ b _=>
  cases yt c with
  |tO _ e j=>exact⟨oN (.rD (by cases b<;>simp[e,j]))<|nW c,d⟩
 |rC=>
  cases yt c with
  |rC _ h=>exact⟨oN (.rD h)<|oN (.yr _)<|nW c,d⟩
 |wI=>
  cases yt c with
  |wI h=>exact⟨oN (.rD h)<|oN (.wK h)<|nW c,d⟩
 |wK=>
  cases c _ (î ..)with
  |wK h=>exact⟨oN (.rD h) c,d⟩
 |wL=>
  cases yt c with
  |wL h=>exact⟨oN (.rD h)<|oN (.vp h)<|nW c,d⟩
 |wM h=>exact⟨aeZ (nW c) h,d⟩
 |wN h=>exact⟨ae0 (nW c) h,d⟩
 |tP=>
  cases yt c with
  |tP _ _ h=>exact⟨oN (.wP _ h)<|nW c,d⟩
 |Az=>
  cases yt c with
  |tP _ _ h=>exact⟨oN (.wP _ h)<|nW c,d⟩
 |FZ=>exact⟨nW c,d⟩
 |C4=>exact⟨oN (.wP _ (pn c))<|nW c,d⟩
 |nU=>exact⟨oN (.wP _ (pn c))<|nW c,d⟩
 |AA=>exact⟨oN (.wP _ (pn c))<|nW c,d⟩
 |sM m _ n p q=>
  refine⟨λj r=> ?_,λx e=> ?_⟩
  .have:=ū.1 r;rw[this];exact .rD (i _ (k _ _ _ _ _ _ (pn c _<|Û m) n) _ _ p q)
  .rcases œ.1 e with rfl|e
   .exact c
   .exact d x e
 |C5=>exact⟨oN (.wP _ (pn c))<|nW c,d⟩
 |wO=>
  have j:=d _<|î ..;exact⟨oN (.wP _ (pn j))<|nW j,λx e=>d x<|ò _ e⟩
end
structure Jk(Y:fu)(x y:FuncId×Array Value×List ś):Prop where
 f:x.1=y.1
 t:fT Y x.2.1 y.2.1
 k:x.2.2=y.2.2
inductive C6(Y:fu):List (FuncId×Array Value×List ś)->List (FuncId×Array Value×List ś)->Prop
 |pe:C6 Y [] []
 |wD {x y:FuncId×Array Value×List ś} {L L':List (FuncId×Array Value×List ś)} (h:Jk Y x y) (hs:C6 Y L L'):C6 Y (x::L) (y::L')
structure Jl(Y:fu)(s s':St):Prop where
 f:s.f=s'.f
 t:fT Y s.t s'.t
 k:s.k=s'.k
 vo:s.C=s'.C
 L:C6 Y s.L s'.L
def Jk.fQ{Y a:fu}(h:Y.r a){x y:FuncId×Array Value×List ś}(r:Jk Y x y):Jk a x y:=⟨r.f,r.t.I h,r.k⟩
def Jm{Y b:fu}(h:Y.r b){L c:List (FuncId×Array Value×List ś)}(r:C6 Y L c):C6 b L c:=by
 induction r with
 |pe=>exact .pe
 |wD a _ d=>exact .wD (a.fQ h) d
section
variable{Y:fu}{j:Nat->Prop}{p:à->Prop}
def ae1(a:∀g,X g->Y g g)(h:mD X qQ):Vp Y qQ:=by
 cases h with
 |Wq t=>trivial
 |Wr h=>exact h.jD Y
 |Ws h=>exact a _ h
 |Wt f=>trivial
def wR(b:∀g,X g->Y g g)(h:fT Y d q)(c:mD X qQ):fp Y (å ⟨d,[]⟩ qQ) (å ⟨q,[]⟩ qQ):= ad6 (a:=⟨d,[]⟩) (a':=⟨q,[]⟩) h<|ae1 b c
def pg.r{b:Array Â}(h:fT Y q b)(d:Option Tmp)(c:fp Y v x):fT Y (pg q d v) (pg b d x):= ad8 (a:=⟨q,[]⟩) (a':=⟨b,[]⟩) h d c
def Ww(n:Nat):fT Y (ĺ n ľ) (ĺ n ľ):=⟨U,λi a b=>by simp only[Array.getElem_replicate];exact FR Y⟩
def ae2(B:km P xX o.op)(i:(ì xX o).run P u=ĥ (ũ F d) W):∃q l,o.op=Ω {callee:=cj<|aO F,args:=q,argTypes:=l}:=by
 have n:∀{m:ē Â} {x:Ο} {k p:Æ},(m>>=λv=>pure (ï v):ē Ο).run P k=ĥ x p->∃v,x=ï v:=by
  intro m x k p e;rw[Ä]at e;cases j:m.run P k with
  |ok a w=>rw[j]at e;cases e;exact⟨a,U⟩
  |halt z w=>rw[j]at e;cases e
 have C:∀{m:ē Unit} {x:Ο} {k p:Æ},(m>>=λ_=>pure aH:ē Ο).run P k=ĥ x p->x=aH:=by
  intro m x k p e;rw[Ä]at e;cases j:m.run P k with
  |ok a w=>rw[j]at e;cases e;rfl
  |halt z w=>rw[j]at e;cases e
 let⟨E,s,G,H,I,guard⟩:=o;simp only at B|-;unfold ì at i;simp only[]at i;cases B with
 |Aw x=>cases i
 |FM x=>cases i
 |wE c a b=>
  rw[Ä]at i;cases j:(bW<|xX c).run P u with
  |ok a w=>rw[j]at i;cases i
  |halt z w=>rw[j]at i;cases i
 |jd t a x=>exact absurd (C i) fq
 |FN x=>
  simp only[]at i;split at i;all_goals first
   |(cases i;done)
   |exact absurd i<|ry _ _ _ _
   |(
    split at i;all_goals first
     |(cases i;done)
     |exact absurd i<|ry _ _ _ _
     |(
      rw[Ä,ă]at i;simp only[È]at i;rw[Ä]at i;revert i;generalize ã P (aR _ _ _ _) u=z;intro i;cases z with
      |halt z w=>cases i
      |ok a w=>
       simp only[È]at i;split at i
       .rw[Ä]at i;cases i
       .cases i))
 |FO x l=>simp only[ù,č,Ē,pure_bind,Ø,â,ä]at i;let⟨v,e⟩:=n i;cases e
 |FP x l=>simp only[ù,č,Ē,pure_bind,Ø,â,ä]at i;let⟨v,e⟩:=n i;cases e
 |FQ x y l=>simp only[ù,č,Ē,pure_bind,Ø,â,ä]at i;let⟨v,e⟩:=n i;cases e
 |tJ x y b c h=>simp only[ù,č,Ē,pure_bind,Ø,â,ä]at i;let⟨v,e⟩:=n i;cases e
 |jN g q l b h=>
  let⟨J,c,r,D⟩:=h;simp only[ù,b,İ,č,pure_bind,Ď,ď,ĵ]at i;rw[Ä,ă]at i;simp only[È,c,r,D,Å,if_false]at i;cases i;exact⟨q,l,U⟩
 |C0 s t x y r h=>
  rw[Ä]at i;cases j:ã P (ŷ s t x y (xX x) (xX y)>>=λ_=>Ũ s t (xX x)<|xX y) u with
  |ok a w=>rw[j]at i;cases i
  |halt z w=>rw[j]at i;cases i
 |_=>let⟨v,e⟩:=n i;cases e
theorem Wx(j:Func)(h:fT Y d q):fI P fp Y (Ī j d) (Ī j q):=by
 have k:∀(f:fu),Y.r f->∀n,fp f (d.getD n ľ) (q.getD n ľ):=by intro f a n;simp only[ĩ];rcases(h.I a).S n with⟨b,e⟩|⟨v,u,b,e,m⟩;all_goals grind [FR]
 unfold Ī;refine fG (V:=fT) ?_ ?_
 .rw[Ĕ,Ĕ];have w:∀(l:List ResultVar) (c:fu),Y.r c->fI P (λf (a o:List Â)=>fT f a.toArray o.toArray) c (l.mapM fun|ResultVar.tmp n=>pure (d.getD n ľ)|ResultVar.cell a e=>do ae e (<-bX (d.getD a ľ))) (l.mapM fun|ResultVar.tmp n=>pure (q.getD n ľ)|ResultVar.cell a e=>do ae e (<-bX (q.getD a ľ))):=by
   intro l
   induction l with
   |nil=>intro c _;simp only[cR];exact .fE (fT.N _)
   |cons r l x=>
    intro c g;simp only[ν];refine fG (V:=fp) ?_ ?_
    .cases r with
     |tmp n=>exact .fE (k c g n)
     |cell a e=>
      apply fG (U9<|k c g a);exact λp b s _ i=>U5 i e
    .intro p v u e m;apply fG (x p<|fu.I g e);intro z s i y b;refine .fE ?_;have:=(fT.M<|m.fQ y).tJ b;simpa using this
  exact fI.lS (w _ Y<|fu.M _) λf a o _ e=> .fE e
 .intro c s i _ b;refine .fE ?_;by_cases e:s.size=1
  .have a:i.size=1:=by rwa[<-b.r]
   rw[dif_pos e,dif_pos a];exact b.C 0 _ _
  .have a:¬i.size=1:=by rwa[<-b.r]
   rw[dif_neg e,dif_neg a];exact .nR b.r b.C
end
section
variable{Y:fu}{d:Nat->Prop}{l:à->Prop}
def iY(P:Õ)(Y:fu)(d:Nat->Prop)(main:Bool)(cs:List Ę)(h:St)(u w:Æ)(k:St)(c:Æ):Prop:=
 ∃(a:fu) (f:St) (b:Æ) (g:Array ý),Ù P main (h.r cs) w=aS (f.r cs) b g/\Jl a k f/\Y.r a/\(∀i j,a i j->Y i j\/(u.heap.size<=i/\w.heap.size<=j))/\ji a d c b/\nS Y d w b/\(∀e∈g,As a d e)/\u.heap.size<=c.heap.size
def iY.r{main:Bool}{cs:List Ę}{a b s1':St}(c:ji Y d u w)(h:Ù P main (a.r cs) w=aS (s1'.r cs) w #[])(f:Jl Y b s1'):iY P Y d main cs a u w b u:= ⟨Y,s1',w,#[],h,f,fu.M _,λ_ _ h=>Ç h,c,nS.fX _ _ w,λe g=>absurd g fq,ß _⟩
def Jn{α:Type}{m:ē α}{x:α}(h:m.runT P w #[]=(ĥ x u,#[]++V)):m.run P w=ĥ x u/\m.events P w #[]=V:=by simp_all
def F0{main:Bool}{k:List ś}{c:Ę}{cs:List Ę}{es:Array ý}(a:P.funcs[F]?=À s)(b:(Ī s q).runT P w #[]=(ĥ v u,es)): Ù P main (G {fm F q k with mode:=.returning}<|c::cs) w=aS (G (c.finish v) cs) u (seen P F es):=by simp[G,Ù,du,doReturn,fm,Frame.at,base,a,b,Ź,-ź]
def LS.mS(hz:nT P)(hb:Y.C=P.globals.size)(hG:∀g,X g->Y g g){s s1 s':St}(h:LS P s u s1 W)(hs:Jl Y s s')(ok:lV P X l s)(n:ji Y d u w)(hl:∀j,d j->j<w.heap.size)(Q:CY u W)(main:Bool)(cs:List Ę): iY P Y d main cs s' u w s1 W:=by
 let⟨f',r,k',ret',p⟩:=s';let⟨S,m,T,e3,q⟩:=hs;simp only at S T e3 m q;subst S T e3;cases h with
 |pe=>exact .r (s1':=⟨_,r,_,É,p⟩) n (by simp[St.r,fm,base,G,Ù,Ì,Frame.at]) ⟨U,m,U,U,q⟩
 |vo=>exact .r (s1':=⟨_,r,_,É,p⟩) n (by simp[St.r,fm,base,G,Ù,Ì,Frame.at]) ⟨U,m,U,U,q⟩
 |sL=>exact .r (s1':=⟨_,r,_,Ã,p⟩) n (by simp[St.r,fm,base,G,Ù,Ì,Frame.at]) ⟨U,m,U,U,q⟩
 |wH=>exact .r (s1':=⟨_,r,_,Ã,p⟩) n (by simp[St.r,fm,base,G,Ù,Ì,Frame.at]) ⟨U,m,U,U,q⟩
 |yr=>exact .r (s1':=⟨_,r,_,Ã,p⟩) n (by simp[St.r,fm,base,G,Ù,Ì,Frame.at]) ⟨U,m,U,U,q⟩
 |vp=>exact .r (s1':=⟨_,r,_,Ã,p⟩) n (by simp[St.r,fm,base,G,Ù,Ì,Frame.at]) ⟨U,m,U,U,q⟩
 |rB=>exact .r (s1':=⟨_,r,_,Ã,p⟩) n (by simp[St.r,fm,base,G,Ù,Ì,Frame.at]) ⟨U,m,U,U,q⟩
 |@tO _ _ _ _ _ c _ _ b hc'=>
  have V:=wR hG m (by cases yt ok.gh with|tO Q _ _=>exact Q);rw[hc']at V;have e:å ⟨r,[]⟩ c=Ľ b:=by generalize å ⟨r,[]⟩ c=v' at V;cases V;rfl
  exact .r (s1':=⟨_,r,_,Ã,p⟩) n (cE e) ⟨U,m,U,U,q⟩
 |rC=>exact .r (s1':=⟨_,r,_,Ã,p⟩) n (by simp[St.r,fm,base,G,Ù,Ì,Frame.at]) ⟨U,m,U,U,q⟩
 |wI=>exact .r (s1':=⟨_,r,_,Ã,p⟩) n (by simp[St.r,fm,base,G,Ù,Ì,Frame.at]) ⟨U,m,U,U,q⟩
 |wK=>exact .r (s1':=⟨_,r,_,Ã,p⟩) n (by simp[St.r,fm,base,G,Ù,Ì,Frame.at]) ⟨U,m,U,U,q⟩
 |wL=>exact .r (s1':=⟨_,r,_,Ã,p⟩) n (by simp[St.r,fm,base,G,Ù,Ì,Frame.at]) ⟨U,m,U,U,q⟩
 |wM B=>exact .r (s1':=⟨_,r,_,Ã,p⟩) n (by simp[St.r,fm,base,G,Ù,Ì,Frame.at,B]) ⟨U,m,U,U,q⟩
 |wN B=>exact .r (s1':=⟨_,r,_,Ã,p⟩) n (by simp[St.r,fm,base,G,Ù,Ì,Frame.at,B]) ⟨U,m,U,U,q⟩
 |tP=>exact .r (s1':=⟨_,r,_,Ã,p⟩) n (by simp[St.r,fm,base,G,Ù,Ì,Frame.at]) ⟨U,m,U,U,q⟩
 |@Az f t k L _ id ops=>
  refine⟨Y,⟨f,r,á ops (bM (P.follows .mixedOrders) ops<|w.tape w.drawn<|.order f id)::k,Ã,p⟩,{w with drawn:=w.drawn+1},#[],Ż,⟨U,m,?_,U,q⟩,fu.M _,λ_ _ h=>Ç h,⟨n.S,by simp[n.N],n.C,n.I,n.M,n.r⟩,⟨ß _,U,U,U,λ_ _ _=>rfl,λ_ _ _=>rfl⟩,λe B=>absurd B fq,ß _⟩;simp only[n.S,n.N]
 |FZ=>exact .r (s1':=⟨_,r,_,Ã,p⟩) n (by simp[St.r,fm,base,G,Ù,Ì,Frame.at]) ⟨U,m,U,U,q⟩
 |@C4 f t k L _ ops i rest o ho hw=>
  rw[I9 _ _ m]at hw;have:=υ (P:=P) (main:=main) (b:=base f) (a:=⟨r,[]⟩) (k:=k) (cs:=p.map (λx=>fm x.1 x.2.1 x.2.2)++cs) (w:=w) (rest:=rest) ho hw;rw[sP]at this;exact .r (s1':=⟨f,pg r o.dst ľ,á ops rest::k,Ã,p⟩) n this ⟨U,pg.r m _<|FR Y,U,U,q⟩
 |@nU f t k L _ ops i rest o v _ ho hw hr=>
  rw[I9 _ _ m]at hw;let⟨C,x',E,es,z,F,D,H,I,J,K,M⟩:=(pn ok.gh _<|Û ho).mS hz hb hG m n hl hr Q;let⟨N,O⟩:=Jn D;cases H with
  |nU V=>
   have:=bA (main:=main) (b:=base f) (k:=k) (cs:=p.map (λx=>fm x.1 x.2.1 x.2.2)++cs) (rest:=rest) ho hw (by simp[base]) N;rw[sP]at this;rename_i v';exact⟨C,⟨f,pg r o.dst v',á ops rest::k,Ã,p⟩,E,_,this,⟨U,pg.r (m.I z) _ V,U,U,Jm z q⟩,z,F,I,J,λe B=>K e (by have:=cF B;rwa[O]at this),M⟩
 |@AA f t k L _ ops i rest o _ ho hw hr=>
  rw[I9 _ _ m]at hw;let⟨C,x',E,es,z,F,D,H,I,J,K,M⟩:=(pn ok.gh _<|Û ho).mS hz hb hG m n hl hr Q;let⟨N,O⟩:=Jn D;cases H with
  |sL=>
   have:=cG (main:=main) (b:=base f) (k:=k) (cs:=p.map (λx=>fm x.1 x.2.1 x.2.2)++cs) (rest:=rest) ho hw (by simp[base]) N;rw[sP]at this;exact⟨C,⟨f,pg r o.dst ľ,á ops rest::k,Ã,p⟩,E,_,this,⟨U,pg.r (m.I z) _<|FR C,U,U,Jm z q⟩,z,F,I,J,λe B=>K e (by have:=cF B;rwa[O]at this),M⟩
 |@sM f t k L _ ops i rest o g args fn c _ ho hw hr hf Jo=>
  rw[I9 _ _ m]at hw;let⟨C,x',E,es,z,F,D,H,I,J,K,M⟩:=(pn ok.gh _<|Û ho).mS hz hb hG m n hl hr Q;let⟨N,O⟩:=Jn D;cases H with
  |sM _ sR=>
   have:=bB (main:=main) (b:=base f) (k:=k) (cs:=p.map (λx=>fm x.1 x.2.1 x.2.2)++cs) (rest:=rest) ho hw (by simp[base]) N;rw[cH _ hf Jo]at this;rename_i Wy;refine⟨C,⟨g,Wy++ĺ (fn.ntmps-Wy.size) ľ,[Đ c],Ã,(f,r,á ops (i::rest)::k)::p⟩,E,_,this,⟨U,?_,U,U,.wD ⟨U,m.I z,U⟩ (Jm z q)⟩,z,F,I,J,λe B=>K e (by have:=cF B;rwa[O]at this),M⟩;rw[sR.r];exact sR.tJ<|Ww _
 |@C5 f t k L _ ops i rest ho=>exact .r (s1':=⟨f,r,á ops rest::k,Ã,p⟩) n (by simp[St.r,fm,base,G,Ù,Ì,Frame.at,ho,aT]) ⟨U,m,U,U,q⟩
 |@wO f t k L _ g t2' ops i rest k3 v fn _ hf hr=>
  cases q with
  |wD hx q=>
   rename_i y Wz;let⟨g',t2,k2⟩:=y;let⟨S,Jp,T⟩:=hx;simp only at S T Jp;subst S T;let⟨C,v',E,es,z,F,D,H,I,J,K,M⟩:=(Wx fn m).gf n hl hr #[];let⟨N,O⟩:=Jn D;refine⟨C,⟨g,pg t2 ((ops[i]?).bind (·.dst)) v',á ops rest::k3,Ã,Wz⟩,E,seen P f es,?_,⟨U,pg.r (Jp.I z) _ H,U,U,Jm z q⟩,z,F,I,J,λe B=>K e<|mem_seen B,M⟩;have AF:=ε (base g) ⟨t2,[]⟩ ops i rest k3 v';rw[sP]at AF;have nt:=F0 (main:=main) (k:=k) (c:=fm g t2<|á ops (i::rest)::k3) (cs:=Wz.map (λx=>fm x.1 x.2.1 x.2.2)++cs) hf D;unfold fm at nt;rwa[AF,Ď]at nt
end
inductive pX(P:Õ)(kB:Â->Æ->Prop):St->Æ->Prop
 |jO {f:à} {t:Array Â} {k:List ś} {u:Æ} {fn:Func} {v:Â} (hf:P.funcs[f]?=À fn) (hr:∀tp d,(Ī fn t).run P {u with tape:=tp,drawn:=d}=ĥ v {u with tape:=tp,drawn:=d}) (hp:kB v u):pX P kB ⟨f,t,k,É,[]⟩ u
 |jP {s:St} {u:Æ} (S:ψ->Nat->St) (U:ψ->Nat->Æ) (h:∀tp d,LS P s {u with tape:=tp,drawn:=d} (S tp d)<|U tp d) (hc:∀tp d,CY u<|U tp d) (ih:∀tp d,pX P kB (S tp d)<|U tp d):pX P kB s u
structure yu(M:Nat->Prop)(w w₁:Æ):Prop where
 r:w.heap.size<=w₁.heap.size
 C:∀j,M j->w₁.heap[j]?=w.heap[j]?
def Jq(O b:Nat->Prop)(e:ý):Prop:=
 (∃a:Ú,e.loc=û a/\e.sync=Ã/\(O a.block\/(b a.block/\e.write=Ã)))\/e.loc=ů da\/∃f,e.loc=ů (.extern f)
structure Jr(Rd O O':Nat->Prop)(w w':Æ)(es:Array ý):Prop where
 r:w.heap.size<=w'.heap.size
 M:∀j,O j->O' j
 I:∀j,O' j->O j\/w.heap.size<=j
 fw:∀j,O' j->j<w'.heap.size
 jZ:∀j,j<w.heap.size->¬O j->w'.heap[j]?=w.heap[j]?
 N:w'.os=w.os
 S:w'.output=w.output
 Y:w'.tape=w.tape
 C:∀e∈es,Jq O' Rd e
inductive vq(P:Õ)(main:Bool)(Rd:Nat->Prop)(Stop:(Nat->Prop)->Ó->Æ->Prop):(Nat->Prop)->Ó->Æ->Prop
 |fD {O:Nat->Prop} {g:Ó} {w:Æ} (h:∀w₁,yu (λj=>O j\/Rd j) w w₁->Stop O g w₁):vq P main Rd Stop O g w
 |jP {O:Nat->Prop} {g:Ó} {w:Æ} (G':Æ->Ó) (W':Æ->Æ) (E':Æ->Array ý) (O':Æ->Nat->Prop) (iK:g.status=Ð)
  (h:∀w₁,yu (λj=>O j\/Rd j) w w₁->Ù P main g w₁=aS (G' w₁) (W' w₁) (E' w₁))
  (hd:∀w₁,yu (λj=>O j\/Rd j) w w₁->Jr Rd O (O' w₁) w₁ (W' w₁) (E' w₁))
  (ih:∀w₁,yu (λj=>O j\/Rd j) w w₁->vq P main Rd Stop (O' w₁) (G' w₁) (W' w₁)):vq P main Rd Stop O g w
instance:Nonempty fu:=⟨⟨λ_ _=>False,0⟩⟩
instance:Nonempty St:=⟨⟨0,#[],[],Ã,[]⟩⟩
instance:Nonempty (Goroutine×World×Array Event×(Nat->Prop)):=⟨(default,default,#[],λ_=>False)⟩
section
variable{Y:fu}{b Rd:Nat->Prop}{l:à->Prop}{main:Bool}{Stop:(Nat->Prop)->Ó->Æ->Prop}
def vq.mk(i:g.status=Ð) (h:∀a,yu (λj=>X j\/Rd j) w a->∃c b d e,Ù P main g a=aS c b d/\Jr Rd X e a b d/\vq P main Rd Stop e c b):vq P main Rd Stop X g w:=by
 let p:=λ(a:Æ) (x:Goroutine×World×Array Event×(Nat->Prop))=>Ù P main g a=aS x.1 x.2.1 x.2.2.1/\Jr Rd X x.2.2.2 a x.2.1 x.2.2.1/\vq P main Rd Stop x.2.2.2 x.1 x.2.1
 have f:∀a,yu (λj=>X j\/Rd j) w a->p a (Classical.epsilon<|p a):=λa r=>Classical.epsilon_spec (let⟨c,b,d,e,h⟩:=h a r;⟨(c,b,d,e),h⟩);exact .jP (λa=>(Classical.epsilon<|p a).1) (λa=>(Classical.epsilon<|p a).2.1) (λa=>(Classical.epsilon<|p a).2.2.1) (λa=>(Classical.epsilon<|p a).2.2.2) i (λa r=>(f a r).1) (λa r=>(f a r).2.1) λa r=>(f a r).2.2
def rE(Y:fu)(b:Nat->Prop)(u w:Æ):Prop:=ji Y b {u with tape:=w.tape,drawn:=w.drawn} w
def ft(Y:fu)(b:Nat->Prop)(j:Nat):Prop:=(∃i,Y i j)/\¬b j
theorem rE.jw{w₁:Æ}(h:rE Y b u w)(p:∀i j,Y i j->b j->Rd j)(r:yu (λj=>ft Y b j\/Rd j) w w₁):rE Y b u w₁:=by
 refine⟨U,U,h.C,h.I,õ h.M r.r,λi j a=> ?_⟩;let⟨c,d,e,f,g,k,l,m,n,o⟩:=h.r i j a;refine⟨c,d,e,f,g,k,?_,m,n,o⟩;rw[r.C j ?_]
 .exact l
 .by_cases s:b j
  .grind
  .exact Ç ⟨⟨i,a⟩,s⟩
def ji.to0(h:ji Y b u w):rE Y b u w:=⟨U,U,h.C,h.I,h.M,h.r⟩
def ji.vr(h:ji Y b u w)(tp:ψ)(d:Nat):rE Y b {u with tape:=tp,drawn:=d} w:=⟨U,U,h.C,h.I,h.M,h.r⟩
theorem ae3{c:fu}(k:∀i j,c i j->b j->Rd j){e:ý}(h:As c b e):Jq (ft c b) Rd e:=by
 rcases h with⟨a,i,d,f,g,l⟩|h|h
 .by_cases s:b a.block
  .refine Ç ⟨a,d,g,Î ⟨k _ _ f s,?_⟩⟩;grind
  .exact Ç ⟨a,d,g,Ç ⟨⟨i,f⟩,s⟩⟩
 .exact Î<|Ç h
 .exact Î<|Î h
def WA{c:fu}(f:Y.r c)(g:∀i j,c i j->Y i j\/(u.heap.size<=i/\w.heap.size<=j))(k:ji c b W jX)(d:nS Y b w jX)(l:∀e∈V,As c b e)(m:∀i j,c i j->b j->Rd j): Jr Rd (ft Y b) (ft c b) w jX V where
 r:=d.r;M j h:=⟨let⟨i,a⟩:=h.1;⟨i,f.1 _ _ a⟩,h.2⟩;I j h:=by
  let⟨⟨i,a⟩,s⟩:=h;rcases g i j a with x|x
  .exact Ç ⟨⟨i,x⟩,s⟩
  .exact Î x.2
 fw j h:=by let⟨⟨i,a⟩,_⟩:=h;let⟨_,_,_,_,_,_,x,_⟩:=k.r i j a;exact(Ë.1 x).1
 jZ j hj hn:=by
  by_cases x:∃i,Y i j
  .by_cases s:b j
   .exact d.N j s hj
   .exact absurd ⟨x,s⟩ hn
  .exact d.C j hj λi a=>x ⟨i,a⟩
 N:=d.I;S:=d.M;Y:=d.S;C e he:=ae3 m<|l e he
def F1(Y:fu)(b:Nat->Prop)(f:Â->Æ->Prop)(c:Ę)(h:List Ę)(O:Nat->Prop)(g:Ó)(w:Æ):Prop:=
 ∃(a:fu) (d:Æ) (v e:Â),Y.r a/\O=ft a b/\rE a b d w/\fp a v e/\f v d/\g=G (c.finish e) h
def pX.NV(hz:nT P)(hP:pj P X l){s:St}(h:pX P vQ s u):∀{Y F2:fu} {s':St} {w:Æ},F2.r Y->Y.C=P.globals.size->(∀g,X g->Y g g)->Jl Y s s'->lV P X l s->rE Y b u w->(∀j,b j->j<w.heap.size)->(∀i j,Y i j->b j->Rd j)->∀(c:Ę) (cs:List Ę),vq P main Rd (F1 F2 b vQ c cs) (ft Y b) (s'.r<|c::cs) w:=by
 have hE:∀o a u f F G,mR P X l o->(ì (å a) o).run P u=ĥ (ũ f F) G->l f:=by exact λo a u f F G d H=>d.C a u f F G H
 induction h with
 |@jO f t k u fn v hf H hp=>
  intro Y F2 s' w I J K L M N O n c cs;let⟨f',t',k',ret',L'⟩:=s';let⟨V,W,e2,e3,hL⟩:=L;simp only at V e2 e3 W hL;subst V e2 e3;cases hL;refine .mk rfl λp r=> ?_;have d:=λj s=>Ô (O j s) r.r;let⟨z,v',w',es,B,C,m,D,q,E,Q,h8⟩:=(Wx fn W).gf (N.jw n r) d (H _ _) #[];have y:=λi j T s=>(C i j T).elim (λx=>n i j x s) λx=>absurd (d j s) Z;refine⟨_,w',_,ft z b,F0 hf m,WA B C q E (λe he=>Q e (by have:=mem_seen he;simpa using this)) y,.fD λwS e=>⟨z,u,v,v',fu.I I B,rfl,rE.jw (q.vr _ _) y e,D,hp,rfl⟩⟩
 |@jP s u S U h hc _ ih=>
  intro Y F2 s' w I J K L M N O n c cs;refine .mk rfl λp r=> ?_;have d:=λj s=>Ô (O j s) r.r;let⟨z,H,e,es,B,C,m,D,q,E,Q,h8⟩:=(h p.tape p.drawn).mS hz J K L M (N.jw n r) d (hc p.tape p.drawn) main<|c::cs;have y:=λi j T s=>(D i j T).elim (λx=>n i j x s) λx=>absurd (d j s) Z;refine⟨_,e,es,ft z b,B,WA m D q E Q y,ih _ _ (fu.I I m) (m.2.2.trans J) (λg x=>m.1 _ _<|K g x) C ((h _ _).ok hP hE M) q.to0 (λj s=>Ô (d j s) E.r) y c cs⟩
end
def pY:Ę:={(default:Ę)with fn:=0,todo:=[Đ<|dt ""],defers:=[{target:=.nil,args:=#[]}],mode:=.run,kind:=.normal}
def St.I(s:St):Ę:=if s.C then{fm s.f s.t s.k with mode:=.returning}else fm s.f s.t s.k
def fw(L:List (FuncId×Array Value×List ś)):List Ę:=L.map (λx=>fm x.1 x.2.1 x.2.2)++[pY]
def LM(s:St)(u:Æ):bR:=aU s.I (fw s.L) u
section
variable{GL:Nat->Prop}{fc:à->Prop}{Q:Â->Æ->Prop}
def C7{cs:List Ę}{a:Ę}{es:Array ý}(h:Ù P É (G f cs) w=aS (G a qX) u es):dR P (aU f cs w)=ň (aU a qX u):= step_lone_go<|by show(Ù P É (G f cs) w).bare=_;rw[h];rfl
def Js{fr:Ę}{cs:List Ę}{o:Outcome}{es:Array ý}(h:Ù P É (G fr cs) w=eV o u es):dR P (aU fr cs w)=.ended o u:= step_lone_ended<|by show(Ù P É (G fr cs) w).bare=_;rw[h];rfl
def mT(P:Õ)(Q:Â->Æ->Prop)(n:Nat)(m:bR):Prop:=∃b v a,dw P n m=ň (aU b [pY] a)/\b.leaving P a (.returned v)/\Q v a
def mT.r{m a:bR}(h:mT P Q (n+1) m)(b:dR P m=ň a):mT P Q n a:=by let⟨c,v,d,e,f⟩:=h;exact⟨c,v,d,by simpa only[dw,b]using e,f⟩
def mT.M{m:bR}{o:Outcome}(h:mT P Q (n+1) m)(b:dR P m=.ended o w):False:=by let⟨c,v,d,a,e⟩:=h;simp only[dw,b]at a;cases a
theorem WB{fr:Ę}{cs:List Ę}(h:aU fr cs w=aU f qX u):fr=f/\cs=qX/\w=u:=by simp only[aU,Machine.mk.injEq,Array.mk.injEq,List.cons.injEq,Goroutine.mk.injEq]at h;grind
theorem mT.C{cs:List Ę}(h:mT P Q 0 (aU f cs w)):cs=[pY]/\∃v,f.leaving P w (.returned v)/\Q v w:=by let⟨b,v,c,a,d,e⟩:=h;simp only[dw,Stepped.next.injEq]at a;grind [WB]
def ae4(h:mT P Q n (aU pY [] u)):False:=by
 cases n with
 |zero=>let⟨a,_⟩:=h.C;cases a
 |succ n=>exact h.M<|Js (es:=#[])<|by simp[G,Ù,Ì,pY];exact⟨U,U⟩
def ae5{a:List eh}(h:mT P Q n (aU (pY.raise a) [] u)):False:=by
 cases n with
 |zero=>let⟨b,_⟩:=h.C;cases b
 |succ n=>exact h.M<|Js (es:=#[])<|by simp[G,Ù,pY,Ŗ,du,callDeferred];exact⟨U,U⟩
def ae6(b:List eh):∀(L:List (FuncId×Array Value×List ś)) (f:à) (t:Array Â) (k:List ś) (u:Æ) (n:Nat),(∃a,P.funcs[f]?=À a)->(∀x∈L,∃a,P.funcs[x.1]?=À a)->¬mT P Q n (aU ((fm f t k).raise b) (fw L) u):=by
 intro L
 induction L with
 |nil=>
  intro f t k u n ⟨a,c⟩ _ h;cases n with
  |zero=>let⟨_,v,y,_⟩:=h.C;exact absurd y.1<|by simp[Ŗ,fm,Frame.at]
  |succ n=>
   have d:dR P (aU ((fm f t k).raise b) (fw []) u)=ň (aU (pY.raise b) [] u):=C7 (es:=#[]) (by simp[G,Ù,fm,base,Frame.at,Ŗ,du,cU,c,fw]);exact ae5<|h.r d
 |cons x L e=>
  intro f t k u n ⟨a,c⟩ d h;cases n with
  |zero=>let⟨_,v,y,_⟩:=h.C;exact absurd y.1<|by simp[Ŗ,fm,Frame.at]
  |succ n=>
   exact e x.1 x.2.1 x.2.2 u n (d x<|î ..) (λy v=>d y<|ò _ v)<|h.r<|C7 (es:=#[])<|by simp[G,Ù,fm,base,Frame.at,Ŗ,du,cU,c,fw]
structure Ok(P:Õ)(GL:Nat->Prop)(fc:à->Prop)(s:St):Prop where
 r:lV P GL fc s
 I:fc s.f
 C:∀x∈s.L,fc x.1/\∃ops i rest k,x.2.2=á ops (i::rest)::k
def tR(P:Õ)(fc:à->Prop):Prop:=∀f,fc f->∃a c,P.funcs[f]?=À a/\a.body=À c
theorem NW{t:Array Â}:fF P (Ī s t):=by unfold Ī;grind [gw,VP,gH,VH,VD]
def ae7(k:km P xX o.op){n:Ο}(d:(ì xX o).run P u=ĥ n W):(∃v,n=ï v)\/n=aH\/∃f c,n=ũ f c:=by
 have i:∀{m:ē Â} {x:Ο} {j l:Æ},(m>>=λv=>pure (ï v):ē Ο).run P j=ĥ x l->∃v,x=ï v:=by
  intro m x j l e;rw[Ä]at e;cases g:m.run P j with
  |ok a w=>rw[g]at e;cases e;exact⟨a,U⟩
  |halt z w=>rw[g]at e;cases e
 let⟨p,e,q,s,B,guard⟩:=o;simp only at k;unfold ì at d;simp only[]at d;cases k with
 |Aw x=>cases d;exact Ç ⟨_,U⟩
 |FM x=>cases d;exact Ç ⟨_,U⟩
 |wE c a b=>
  rw[Ä]at d;cases g:(bW<|xX c).run P u with
  |ok a w=>rw[g]at d;cases d;exact Ç ⟨_,U⟩
  |halt z w=>rw[g]at d;cases d
 |jd t a x=>
  rw[Ä]at d;cases g:(ĳ t (xX a)<|xX x).run P u with
  |ok a w=>rw[g]at d;cases d;exact Î<|Ç U
  |halt z w=>rw[g]at d;cases d
 |FN x=>
  simp only[]at d;split at d;all_goals first
   |(cases d;exact Ç ⟨_,U⟩)
   |exact absurd d<|ry _ _ _ _
   |(
    split at d;all_goals first
     |(cases d;exact Ç ⟨_,U⟩)
     |exact absurd d<|ry _ _ _ _
     |(
      rw[Ä,ă]at d;simp only[È]at d;rw[Ä]at d;revert d;generalize ã P (aR _ _ _ _) u=z;intro d;cases z with
      |halt z w=>cases d
      |ok a w=>
       simp only[È]at d;split at d
       .rw[Ä]at d;cases d
       .cases d;exact Ç ⟨_,U⟩))
 |FO x a=>simp only[ù,č,Ē,pure_bind,Ø,â,ä]at d;exact Ç<|i d
 |FP x a=>simp only[ù,č,Ē,pure_bind,Ø,â,ä]at d;exact Ç<|i d
 |FQ x y a=>simp only[ù,č,Ē,pure_bind,Ø,â,ä]at d;exact Ç<|i d
 |tJ x y b g h=>simp only[ù,č,Ē,pure_bind,Ø,â,ä]at d;exact Ç<|i d
 |jN g C a b h=>
  let⟨D,r,w,z⟩:=h;simp only[ù,b,İ,č,pure_bind,Ď,ď,ĵ]at d;rw[Ä,ă]at d;simp only[È,r,w,z,Å,if_false]at d;cases d;exact Î<|Î ⟨_,_,U⟩
 |C0 e t x y r h=>exact Ç<|i d
 |_=>exact Ç<|i d
def mT.I(_hP:pj P GL fc)(hF:tR P fc){n:Nat}{s:St}{u:Æ}(ok:Ok P GL fc s)(hu:qE u)(h:mT P Q n (LM s u)): (n=0/\s.C=É/\s.L=[]/\∃fn v,P.funcs[s.f]?=À fn/\(Ī fn s.t).run P u=ĥ v u/\Q v u)\/∃m s' u',n=m+1/\LS P s u s' u'/\mT P Q m (LM s' u'):=by
 let⟨f,t,k,ret,L⟩:=s;let⟨⟨top,lw⟩,fs,ls⟩:=ok;simp only at top lw fs ls;let⟨fn,c,hfn,hbody⟩:=hF f fs;cases n with
 |zero=>
  let⟨h1,v,h2,h3⟩:=h.C;have hL:L=[]:=by simp only[fw]at h1;simp_all
  subst hL;let⟨m1,_,_,fn',m4,m5⟩:=h2;have ae8:ret=É:=by
   cases ret with
   |true=>rfl
   |false=>simp[St.I,fm,Frame.at]at m1
  subst ae8;exact Ç ⟨U,U,U,fn',v,m4,m5,h3⟩
 |succ n=>
  have go:∀{s':St} {u':Æ},LS P ⟨f,t,k,ret,L⟩ u s' u'->(∃es,Ù P É ((⟨f,t,k,ret,L⟩:St).r [pY]) u=aS (s'.r [pY]) u' es)->(n+1=0/\ret=É/\L=[]/\∃fn v,P.funcs[f]?=À fn/\(Ī fn t).run P u=ĥ v u/\Q v u)\/∃m s' u',n+1=m+1/\LS P ⟨f,t,k,ret,L⟩ u s' u'/\mT P Q m (LM s' u'):=by intro s' u' hl ⟨es,he⟩;exact Î ⟨n,s',u',U,hl,h.r<|C7 he⟩
  have bad:(∃o w es,Ù P É ((⟨f,t,k,ret,L⟩:St).r [pY]) u=eV o w es)->False:=λ⟨_,_,_,he⟩=>h.M<|Js he;cases ret with
  |true=>
   cases hr:(Ī fn t).runT P u #[]with
   |mk r es=>
    cases r with
    |halt z w=>
     refine absurd ?_ id;cases z<;>exact bad ⟨_,_,_,by simp[St.r,fm,base,G,Ù,du,Frame.at,hfn,hr,Ź,-ź];exact⟨U,U,U⟩⟩
    |ok v u'=>
     cases L with
     |nil=>
      exact absurd (h.r<|C7<|F0 hfn hr) ae4
     |cons x L=>
      let⟨g,t',k'⟩:=x;let⟨_,ops,i,rest,k2,e⟩:=ls _<|î ..;simp only at e;subst e;refine go (.wO hfn (by rw[<-Ρ P (Ī fn t) u #[],hr])) ⟨seen P f es,?_⟩;have nt:=F0 (main:=É) (k:=k) (c:=fm g t'<|á ops (i::rest)::k2) (cs:=fw L) hfn hr;have AF:=ε (base g) ⟨t',[]⟩ ops i rest k2 v;rw[sP]at AF;unfold fm at nt;rwa[AF]at nt
  |false=>
   cases k with
   |nil=>exact go .pe ⟨_,by simp[St.r,fm,base,G,Ù,Ì,Frame.at];rfl⟩
   |cons it k=>
    have ti:=top it<|î ..;cases ti with
    |yr id=>exact go .yr ⟨_,by simp[St.r,fm,base,G,Ù,Ì,Frame.at];rfl⟩
    |vp _=>exact go .vp ⟨_,by simp[St.r,fm,base,G,Ù,Ì,Frame.at];rfl⟩
    |wK _=>exact go .wK ⟨_,by simp[St.r,fm,base,G,Ù,Ì,Frame.at];rfl⟩
    |rD hc=>
     cases hc with
     |vo=>exact go .vo ⟨_,by simp[St.r,fm,base,G,Ù,Ì,Frame.at];rfl⟩
     |sL=>exact go .sL ⟨_,by simp[St.r,fm,base,G,Ù,Ì,Frame.at];rfl⟩
     |wH l=>exact go .wH ⟨_,by simp[St.r,fm,base,G,Ù,Ì,Frame.at];rfl⟩
     |rB hx hy=>exact go .rB ⟨_,by simp[St.r,fm,base,G,Ù,Ì,Frame.at];rfl⟩
     |rC id _=>exact go .rC ⟨_,by simp[St.r,fm,base,G,Ù,Ì,Frame.at];rfl⟩
     |wI _=>exact go .wI ⟨_,by simp[St.r,fm,base,G,Ù,Ì,Frame.at];rfl⟩
     |wL _=>exact go .wL ⟨_,by simp[St.r,fm,base,G,Ù,Ì,Frame.at];rfl⟩
     |nV Wv=>exact(bad ⟨_,_,_,by simp[St.r,fm,base,G,Ù,Ì,Frame.at];exact⟨U,U,U⟩⟩).elim
     |wM id=>
      cases he:cC id k with
      |none=>exact(bad ⟨_,_,_,by simp[St.r,fm,base,G,Ù,Ì,Frame.at,he];exact⟨U,U,U⟩⟩).elim
      |some k'=>exact go (.wM he) ⟨_,by simp[St.r,fm,base,G,Ù,Ì,Frame.at,he];rfl⟩
     |wN l=>
      cases he:cD l k with
      |none=>exact(bad ⟨_,_,_,by simp[St.r,fm,base,G,Ù,Ì,Frame.at,he];exact⟨U,U,U⟩⟩).elim
      |some k'=>exact go (.wN he) ⟨_,by simp[St.r,fm,base,G,Ù,Ì,Frame.at,he];rfl⟩
     |@tO c x y _ _ _=>
      by_cases hb:∃b,å ⟨t,[]⟩ c=Ľ b
      .let⟨b,hb⟩:=hb;exact go (.tO hb) ⟨_,cE hb⟩
      .refine(bad ⟨.stuck "cond: bool expected" ((fm f t<|Đ (bz c x y)::k).pos P),u,#[],?_⟩).elim;have Vo:(fm f t<|Đ (bz c x y)::k).eval c=å ⟨t,[]⟩ c:=Frame.eval_at _ _ _ _;have hx:Ù P É (G (fm f t<|Đ (bz c x y)::k)<|fw L) u=(match(fm f t<|Đ (bz c x y)::k).eval c with
        |Ľ b=>aS (G (fm f t<|Đ (if b then x else y)::k)<|fw L) u
        |_=>eV (.stuck "cond: bool expected" ((fm f t (Đ (bz c x y)::k)).pos P)) u):=by
        simp only[G,Ù,Ì,fm,Frame.at];rfl
       refine hx.trans ?_;rw[Vo];generalize å ⟨t,[]⟩ c=v at hb;cases v<;>first|exact absurd ⟨_,U⟩ hb|rfl
     |tP id draw _=>
      cases draw with
      |false=>exact go .tP ⟨_,by simp[St.r,fm,base,G,Ù,Ì,Frame.at];rfl⟩
      |true=>exact go .Az ⟨_,Ż⟩
    |wP is hO=>
     rename_i ops;cases is with
     |nil=>exact go .FZ ⟨_,by simp[St.r,fm,base,G,Ù,Ì,Frame.at];rfl⟩
     |cons i rest=>
      cases ho:ops[i]? with
      |none=>exact go (.C5 ho) ⟨_,by simp[St.r,fm,base,G,Ù,Ì,Frame.at,ho,aT];rfl⟩
      |some o=>
       cases hw:Ħ o (ł ops t)with
       |false=>
        have:=υ (P:=P) (main:=É) (b:=base f) (a:=⟨t,[]⟩) (k:=k) (cs:=fw L) (w:=u) (rest:=rest) ho hw;rw[sP]at this;exact go (.C4 ho hw) ⟨_,this⟩
       |true=>
        have oo:=hO o<|Û ho;have po:=stepG_oper (P:=P) (main:=É) (b:=base f) (a:=⟨t,[]⟩) (k:=k) (cs:=fw L) (w:=u) (rest:=rest) ho hw;cases hr:(ì (å ⟨t,[]⟩) o).runT P u #[]with
        |mk r es=>
         have pd:(ì (å ⟨t,[]⟩) o).run P u=r:=by rw[<-Ρ P _ u #[],hr]
         cases r with
         |halt z w=>
          have hz:=((oo.r ⟨t,[]⟩).1 u hu).2 z w pd;cases z with
          |panic v=>
           have hs:dR P (LM ⟨f,t,á ops (i::rest)::k,Ã,L⟩ u)=ň (aU ((fm f t<|á ops (i::rest)::k).raise [{v,recovered:=Ã}]) (fw L) w):= C7 (es:=seen P f es) (po.trans<|by simp[bC,hr,G,Frame.at,fm,base,Ź,Ŗ,-ź]);exact absurd (h.r hs) (ae6 _ L f t _ w n ⟨fn,hfn⟩ λx hx=>let⟨fn',_,h1,_⟩:=hF x.1 (ls x hx).1;⟨fn',h1⟩)
          |stuck s=>exact(bad ⟨_,_,_,po.trans<|by simp[bC,hr,Frame.at,base,Ź,-ź];exact⟨U,U,U⟩⟩).elim
          |unsupported un=>
           cases un<;>first|(cases hz;done)|exact(bad ⟨_,_,_,po.trans<|by simp[bC,hr,Frame.at,base,Ź,-ź];exact⟨U,U,U⟩⟩).elim
          |_=>cases hz
         |ok nx u'=>
          rcases oo.I ⟨t,[]⟩ u nx u' pd with⟨v,rfl⟩|rfl|⟨g,args,rfl⟩
          .have:=bA (main:=É) (b:=base f) (k:=k) (cs:=fw L) (rest:=rest) ho hw (by simp[base]) pd;rw[sP]at this;exact go (.nU ho hw pd) ⟨_,this⟩
          .have:=cG (main:=É) (b:=base f) (k:=k) (cs:=fw L) (rest:=rest) ho hw (by simp[base]) pd;rw[sP]at this;exact go (.AA ho hw pd) ⟨_,this⟩
          .let⟨fn',c',h1,h2⟩:=hF g<|oo.C ⟨t,[]⟩ u g args u' pd;have:=bB (main:=É) (b:=base f) (k:=k) (cs:=fw L) (rest:=rest) ho hw (by simp[base]) pd;rw[cH _ h1 h2]at this;exact go (.sM ho hw pd h1 h2) ⟨_,this⟩
end
def kn(u:Æ):Prop:=∀(i:Nat) (o:Obj),u.heap[i]?=À o->¬yq o
def kn.qE(h:kn u):qE u:=λi _ _ a=>h i _ a trivial
def wT(a:Â->Æ->Prop):Prop:=∀v u T D,a v u->a v ((World.tp u T D))
section
variable{GL:Nat->Prop}{fc:à->Prop}{kB:Â->Æ->Prop}
def LS.NV{s s':St}(h:LS P s u s' W)(cs:List Ę):∃j,Ù P É (s.r cs) u=aS (s'.r cs) W j:=by
 cases h with
 |@tO f t k L _ c x y b hc=>exact⟨_,cE hc⟩
 |wM e=>exact⟨_,by simp[St.r,fm,base,G,Ù,Ì,Frame.at,e];rfl⟩
 |wN e=>exact⟨_,by simp[St.r,fm,base,G,Ù,Ì,Frame.at,e];rfl⟩
 |@Az f t k L _ id ops=>exact⟨_,Ż⟩
 |@C5 f t k L _ ops i rest ho=>exact⟨_,by simp[St.r,fm,base,G,Ù,Ì,Frame.at,ho,aT];rfl⟩
 |@C4 f t k L _ ops i rest o ho hw=>
  have:=υ (P:=P) (main:=É) (b:=base f) (a:=⟨t,[]⟩) (k:=k) (cs:=L.map (λx=>fm x.1 x.2.1 x.2.2)++cs) (w:=u) (rest:=rest) ho hw;rw[sP]at this;exact⟨_,this⟩
 |@nU f t k L _ ops i rest o v _ ho hw hr=>
  have:=bA (main:=É) (b:=base f) (k:=k) (cs:=L.map (λx=>fm x.1 x.2.1 x.2.2)++cs) (rest:=rest) ho hw (by simp[base]) hr;rw[sP]at this;exact⟨_,this⟩
 |@AA f t k L _ ops i rest o _ ho hw hr=>
  have:=cG (main:=É) (b:=base f) (k:=k) (cs:=L.map (λx=>fm x.1 x.2.1 x.2.2)++cs) (rest:=rest) ho hw (by simp[base]) hr;rw[sP]at this;exact⟨_,this⟩
 |@sM f t k L _ ops i rest o g args fn c _ ho hw hr hf hb=>
  have:=bB (main:=É) (b:=base f) (k:=k) (cs:=L.map (λx=>fm x.1 x.2.1 x.2.2)++cs) (rest:=rest) ho hw (by simp[base]) hr;rw[cH _ hf hb]at this;exact⟨_,this⟩
 |@wO f t k L _ g t' ops i rest k' v fn _ hf hr=>
  cases l:(Ī fn t).runT P u #[]with
  |mk r j=>
   have e:r=ĥ v W:=by rw[<-hr,<-Ρ P (Ī fn t) u #[],l]
   subst e;have d:=F0 (main:=É) (k:=k) (c:=fm g t'<|á ops (i::rest)::k') (cs:=L.map (λx=>fm x.1 x.2.1 x.2.2)++cs) hf l;have x:=ε (base g) ⟨t',[]⟩ ops i rest k' v;rw[sP]at x;unfold fm at d;rw[x]at d;exact⟨_,d⟩
 |_=>exact⟨_,by simp[St.r,fm,base,G,Ù,Ì,Frame.at];rfl⟩
def LS.vt{s a:St}(h:LS P s u a w):dR P (LM s u)=ň (LM a w):= let⟨_,b⟩:=h.NV [pY];C7 b
def LS.NY(j:pj P GL fc){s g:St}(h:LS P s u g w)(ok:Ok P GL fc s):Ok P GL fc g:=by
 have i:∀o a u f e w,mR P GL fc o->(ì (å a) o).run P u=ĥ (ũ f e) w->fc f:=by exact λo a u f e w c d=>c.C a u f e w d
 refine⟨h.ok j i ok.r,?_,?_⟩
 .cases h with
  |sM c _ d _ _=>exact i _ _ _ _ _ _ (pn ok.r.gh _<|Û c) d
  |wO=>exact(ok.C _<|î ..).1
  |_=>exact ok.I
 .cases h with
  |sM c _ d _ _=>
   intro x b;rcases œ.1 b with rfl|b
   .exact⟨ok.I,_,_,_,_,U⟩
   .exact ok.C x b
  |wO=>exact λx b=>ok.C x<|ò _ b
  |_=>exact ok.C
def LS.kd{s c:St}{u b:Æ}(h:LS P s u c b)(ok:lV P GL fc s)(a:qE u):Kd u b:=by
 cases h with
 |nU k _ i=>exact(((pn ok.gh _<|Û k).r _).1 u a).1 _ _ i
 |AA k _ i=>exact(((pn ok.gh _<|Û k).r _).1 u a).1 _ _ i
 |sM k _ i _ _=>exact(((pn ok.gh _<|Û k).r _).1 u a).1 _ _ i
 |wO _ i=>exact(NW.1 u a).1 _ _ i
 |Az=>exact⟨id,λi o h k=>⟨o,h,k⟩⟩
 |_=>exact Kd.fX u
def LS.ae9{s o:St}{u p:Æ}{T:ψ}{D:Nat}(h:LS P s ((World.tp u T D)) o p)(ok:lV P GL fc s):∃n v,p=(World.tp v T<|D+n)/\∀a b,vm T D a b n->LS P s ((World.tp u a b)) o ((World.tp v a<|b+n)):=by
 cases h with
 |nU c e g=>
  obtain⟨n,v,i⟩:=((pn ok.gh _<|Û c).r ⟨_,[]⟩).2 u T D;obtain⟨j,l⟩:=i _ _ g;exact⟨n,v,j,λa b d=> .nU c e (l a b d)⟩
 |AA c e g=>
  obtain⟨n,v,i⟩:=((pn ok.gh _<|Û c).r ⟨_,[]⟩).2 u T D;obtain⟨j,l⟩:=i _ _ g;exact⟨n,v,j,λa b d=> .AA c e (l a b d)⟩
 |sM c e g m q=>
  obtain⟨n,v,i⟩:=((pn ok.gh _<|Û c).r ⟨_,[]⟩).2 u T D;obtain⟨j,l⟩:=i _ _ g;exact⟨n,v,j,λa b d=> .sM c e (l a b d) m q⟩
 |wO m g=>
  obtain⟨n,v,i⟩:=(NW).2 u T D;obtain⟨j,l⟩:=i _ _ g;exact⟨n,v,j,λa b d=> .wO m (l a b d)⟩
 |@Az f t k L _ id ops=>
  refine⟨1,u,U,λa b d=> ?_⟩;have g:=LS.Az (P:=P) (f:=f) (t:=t) (k:=k) (L:=L) (u:=(World.tp u a b)) (id:=id) (ops:=ops);have i:((World.tp u a b)).tape ((World.tp u a b)).drawn=((World.tp u T D)).tape ((World.tp u T D)).drawn:=d.lT;rwa[i]at g
 |pe=>exact⟨0,u,U,λ_ _ _=> .pe⟩
 |vo=>exact⟨0,u,U,λ_ _ _=> .vo⟩
 |sL=>exact⟨0,u,U,λ_ _ _=> .sL⟩
 |wH=>exact⟨0,u,U,λ_ _ _=> .wH⟩
 |yr=>exact⟨0,u,U,λ_ _ _=> .yr⟩
 |vp=>exact⟨0,u,U,λ_ _ _=> .vp⟩
 |rB=>exact⟨0,u,U,λ_ _ _=> .rB⟩
 |tO h=>exact⟨0,u,U,λ_ _ _=> .tO h⟩
 |rC=>exact⟨0,u,U,λ_ _ _=> .rC⟩
 |wI=>exact⟨0,u,U,λ_ _ _=> .wI⟩
 |wK=>exact⟨0,u,U,λ_ _ _=> .wK⟩
 |wL=>exact⟨0,u,U,λ_ _ _=> .wL⟩
 |wM h=>exact⟨0,u,U,λ_ _ _=> .wM h⟩
 |wN h=>exact⟨0,u,U,λ_ _ _=> .wN h⟩
 |tP=>exact⟨0,u,U,λ_ _ _=> .tP⟩
 |FZ=>exact⟨0,u,U,λ_ _ _=> .FZ⟩
 |C4 c e=>exact⟨0,u,U,λ_ _ _=> .C4 c e⟩
 |C5 c=>exact⟨0,u,U,λ_ _ _=> .C5 c⟩
def mT.gU(c:pj P GL fc)(hF:tR P fc)(g:∀v u,vQ v u->kn u):∀(n:Nat) {s:St} {u:Æ},Ok P GL fc s->qE u->mT P vQ n (LM s u)->kn u:=by
 intro n
 induction n with
 |zero=>
  intro s u a b h;rcases h.I c hF a b with⟨_,_,_,_,v,_,_,d⟩|⟨m,_,_,e,_⟩
  .exact g v u d
  .cases e
 |succ n j=>
  intro s u a b h;rcases h.I c hF a b with⟨e,_⟩|⟨m,w,x,e,d,k⟩
  .cases e
  .cases e;have f:=d.kd a.r b;intro i o l p;let⟨q,r,t⟩:=f.C i o l p;exact j (d.NY c a) (f.r b) k i q r t
def pX.afa(b:wT kB){s:St}(h:pX P kB s u)(T:ψ)(D:Nat):pX P kB s ((World.tp u T D)):=by
 cases h with
 |jO a S c=>exact .jO a S (b _ _ T D c)
 |jP S a h c d=>exact .jP S a h c d
def WC(m:wT kB)(o:∀v u,vQ v u->kB v u){s:St}(c:s.C=É)(b:s.L=[])(e:∃g v,P.funcs[s.f]?=À g/\(Ī g s.t).run P ((World.tp u xQ i))=ĥ v ((World.tp u xQ i))/\vQ v ((World.tp u xQ i))):pX P kB s u:=by
 obtain⟨f,t,k,z,L⟩:=s;simp only at c b;subst c b;obtain⟨g,v,p,q,r⟩:=e;refine .jO (v:=v) p (λh d=> ?_) ?_
 .obtain⟨n,w,c⟩:=(NW).2 u xQ i;obtain⟨b,e⟩:=c _ _ q;have x:n=0:=by
   have:((World.tp u xQ i)).drawn=((World.tp w xQ<|i+n)).drawn:=by rw[<-b]
   simp only[World.tp]at this;omega
  subst x;have y:(World.tp w h d)=(World.tp u h d):=by
   have a:((World.tp u xQ i)).heap=((World.tp w xQ<|i+0)).heap:=by rw[<-b]
   have j:((World.tp u xQ i)).os=((World.tp w xQ<|i+0)).os:=by rw[<-b]
   have l:((World.tp u xQ i)).output=((World.tp w xQ<|i+0)).output:=by rw[<-b]
   simp only[World.tp]at a j l|-;rw[a,j,l]
  have:=e h d (λa j=>by omega);rwa[show d+0=d from rfl,y]at this
 .have:=m v _ u.tape u.drawn<|o v _ r;exact this
structure Jt where
 s:St
 u:Æ
 D:Nat
 T:ψ
 n:Nat
structure Ju(P:Õ)(GL:Nat->Prop)(fc:à->Prop)(kB:Â->Æ->Prop)(s0:St)(u0:Æ)(x:Jt):Prop where
 ok:Ok P GL fc x.s
 afb:qE x.u
 afc:¬pX P kB x.s x.u
 oO:∀T',(∀i,i<x.D->T' i=x.T i)->dw P x.n (LM s0<|(World.tp u0 T' 0))=ň (LM x.s<|(World.tp x.u T' x.D))
def WE{m:bR}{s:St}{N:Nat}(a:dw P n m=ň (LM s u))(e:mT P vQ N m):∃k,N=n+k/\mT P vQ k (LM s u):=by
 by_cases f:n<=N
 .obtain⟨k,rfl⟩:=Ε f;refine⟨k,U,?_⟩;let⟨g,v,c,b,d⟩:=e;rw[dJ,a]at b;exact⟨g,v,c,b,d⟩
 .obtain⟨k,rfl⟩:=Nat.exists_eq_add_of_lt<|Nat.lt_of_not_le f;let⟨g,v,c,b,d,_⟩:=e;rw[show N+k+1=N+(k+1) by omega,dJ,b]at a;simp only[dw,step_leave_returned d]at a;cases k with
  |zero=>
   simp only[dw,Stepped.next.injEq]at a;have:=(WB a).2.1;simp[fw]at this
  |succ k=>
   simp only[dw,(Js (P:=P) (fr:=pY) (cs:=[]) (w:=c) (es:=#[])<|by simp[G,Ù,Ì,pY];exact⟨U,U⟩)]at a;cases a
theorem NZ(f:pj P GL fc)(hF:tR P fc)(t:wT kB)(C:∀v u,vQ v u->kn u)(E:∀v u,vQ v u->kB v u){j:St}(F:∀T,∃n,mT P vQ n<|LM j<|(World.tp w T 0)){x:Jt}(G:Ju P GL fc kB j w x): ∃y:Jt,Ju P GL fc kB j w y/\y.n=x.n+1/\x.D<=y.D/\∀i,i<x.D->y.T i=x.T i:=by
 let⟨s,u,D,T,n⟩:=x;let⟨ok,pend,l,q⟩:=G;simp only at ok pend l q;have H:∃y d,∀a g,LS P s ((World.tp u y d)) a g->CY u g->¬pX P kB a g:=by
  refine Classical.byContradiction λo=>l ?_;have c:∀y d,∃p:St×World,LS P s ((World.tp u y d)) p.1 p.2/\CY u p.2/\pX P kB p.1 p.2:=by simp_all
  exact .jP (λy d=>(Classical.choose<|c y d).1) (λy d=>(Classical.choose<|c y d).2) (λy d=>(Classical.choose_spec<|c y d).1) (λy d=>(Classical.choose_spec<|c y d).2.1) λy d=>(Classical.choose_spec<|c y d).2.2
 let⟨y,d,I⟩:=H;let p:ψ:=λi=>if i<D then T i else y (d+(i-D))
 have r:∀i,i<D->p i=T i:=λi h=>if_pos h;have J:=λi=>by show(if D+i<D then T (D+i)else y (d+(D+i-D)))=y (d+i);grind
 let⟨N,K⟩:=F p;let⟨k,_,L⟩:=WE (q p r) K;have b:qE ((World.tp u p D)):=pend;rcases L.I f hF ok b with⟨_,M,O,S⟩|⟨m,a,g,_,e,V⟩
 .exact absurd (WC t E M O S) l
 .obtain⟨c,v,rfl,z⟩:=e.ae9 ok.r;have W:¬pX P kB a v:=λX=>I a _ (z y d λi _=>(J i).symm) (λi o _ B=>(mT.gU f hF C m (e.NY f ok) ((e.kd ok.r b).r b) V) i o B)<|X.afa t y<|d+c;refine⟨⟨a,v,D+c,p,n+1⟩,⟨e.NY f ok,(e.kd ok.r b).r b,W,λo B=> ?_⟩,U,fq,r⟩;rw[dJ,(q o λi h=>(B i<|by simp only;omega).trans<|r i h)];simp only[dw,(z o D λi h=>B (D+i)<|by simp only;omega).vt]
theorem afd(b:pj P GL fc)(hF:tR P fc)(c:wT kB){Q:Â->Æ->Prop}(g:∀v u,Q v u->kn u)(d:∀v u,Q v u->kB v u){a:St}(ok:Ok P GL fc a)(q:qE w)(f:∀T,∃n,mT P Q n<|LM a<|(World.tp w T 0)):pX P kB a w:=by
 refine Classical.byContradiction λr=> ?_;have s:Ju P GL fc kB a w ⟨a,w,0,λ_ _=>0,0⟩:=⟨ok,q,r,λI _=>rfl⟩;let F:Nat->{x:Jt//Ju P GL fc kB a w x}:=λk=>Nat.rec ⟨_,s⟩ (λ_ x=>⟨Classical.choose<|NZ b hF c g d f x.2,(Classical.choose_spec<|NZ b hF c g d f x.2).1⟩) k
 have l:=λk=>(Classical.choose_spec<|NZ b hF c g d f (F k).2).2;have t:∀k,(F k).1.n=k:=by
  intro k
  induction k with
  |zero=>rfl
  |succ k e=>rw[(l k).1,e]
 have J:∀j k,(F j).1.D<=(F<|j+k).1.D/\∀i,i<(F j).1.D->(F<|j+k).1.T i=(F j).1.T i:=by
  intro j k
  induction k with
  |zero=>exact⟨ß _,λ_ _=>rfl⟩
  |succ k e=>
   have:=(l<|j+k).2;exact⟨õ e.1 this.1,λi m=>(this.2 i<|Ô m e.1).trans<|e.2 i m⟩
 have K:∀j k i,i<(F j).1.D->i<(F k).1.D->(F j).1.T i=(F k).1.T i:=by intro j k i e o;rcases Nat.le_total j k with h|h;all_goals grind [Ε]
 let T:ψ:=λi=>open Classical in if h:∃k,i<(F k).1.D then(F<|Classical.choose h).1.T i else λ_=>0
 have y:∀k i,i<(F k).1.D->T i=(F k).1.T i:=by intro k i m;have e:∃k,i<(F k).1.D:=⟨k,m⟩;show(open Classical in if h:∃k,i<(F k).1.D then(F<|Classical.choose h).1.T i else λ_=>0)=_;rw[dif_pos e];grind
 let⟨N,z⟩:=f T;have p:=(F N).2.oO T<|y N;rw[t N]at p;let⟨k,e,o⟩:=WE p z;have B:k=0:=Z
 subst B;have C:qE ((World.tp (F N).1.u T<|(F N).1.D)):=(F N).2.afb;rcases o.I b hF (F N).2.ok C with⟨_,E,G,H⟩|⟨m,_,_,e,_⟩
 .exact(F N).2.afc<|WC c d E G H
 .cases e
end
section
variable{m:à->Prop}
def N0(f:à)(b:Func)(c:ak)(a:Array Â):St:=⟨f,a++ĺ (b.ntmps-a.size) ľ,[Đ c],Ã,[]⟩
def WG(a:Array Â)(b:P.funcs[F]?=À s)(d:s.body=À wX):dL P F a .normal=(N0 F s wX a).I:=cH a b d
def afe(b:pj P X m)(hF:tR P m)(l:wT vQ)(g:m F)(j:P.funcs[F]?=À s)(k:s.body=À wX)(o:kn u) (p:∀T,Calls P F d ((World.tp u T 0)) fun|.returned v,u'=>vQ v u'/\kn u'|_,_=>False):pX P vQ (N0 F s wX d) u:=by
 refine afd b hF l (Q:=λv u=>vQ v u/\kn u) (λv u h=>h.2) (λv u h=>h.1) ⟨⟨λi q=> ?_,λx h=>by cases h⟩,g,λx h=>by cases h⟩ o.qE λT=> ?_
 .rw[ū.1 q];exact .rD (b F g s wX j k)
 .let⟨e,r,t,a,w,_,y⟩:=p T [pY];cases e with
  |returned v=>
   let⟨n,z⟩:=w;refine⟨n,t,v,r,?_,y,a⟩;rw[<-z,WG d j k];rfl
  |panicked n=>exact a.elim
  |outgrown=>exact a.elim
def aff(r:nT P)(b:pj P X m)(hF:tR P m)(t:wT vQ)(n:m F)(e:P.funcs[F]?=À s)(h:s.body=À wX)(y:kn u) (z:∀T,Calls P F d ((World.tp u T 0)) fun|.returned v,u'=>vQ v u'/\kn u'|_,_=>False) {Y:fu} {a o:Nat->Prop} (B:Y.C=P.globals.size) (C:∀g,X g->Y g g) (p:fT Y d q) (D:rE Y a u w) (E:∀j,a j->j<w.heap.size) (H:∀i j,Y i j->a j->o j) (main:Bool) (k:Ę) (l:List Ę): vq P main o (F1 Y a vQ k l) (ft Y a) (G (dL P F q .normal)<|k::l) w:=by
 have:=(afe b hF t n e h y z).NV (main:=main) r b (Y:=Y) (F2:=Y) (s':=N0 F s wX q) (fu.M _) B C ⟨U,?_,U,U,.pe⟩ ⟨λi I=> ?_,λx J=>by cases J⟩ D E H k l
 .rw[WG q e h];exact this
 .show fT Y (d++_) (q++_);rw[p.r];exact p.tJ<|Ww _
 .rw[ū.1 I];exact .rD (b F n s wX e h)
def yv:Â->Bool
 |Ľ _|Ć _ _|ħ _|Þ ë|bS ë _ _|bT|aW|eu ë|.map ë=>É
 |_=>Ã
def N4:Â->Bool
 |.agg a=>a.all yv
 |ſ a=>a.all yv
 |v=>yv v
def F3(h:yv v=É):jY v:=by
 cases v with
 |bool b=>exact .mC b
 |int k n=>exact .iF k n
 |string s=>exact .kV s
 |pointer p=>cases p with
  |none=>exact .lQ
  |some a=>cases h
 |slice p n c=>cases p with
  |none=>exact .ov n c
  |some a=>cases h
 |nilFunc=>exact .vf
 |nilIface=>exact .vg
 |chan p=>cases p with
  |none=>exact .vh
  |some a=>cases h
 |map p=>cases p with
  |none=>exact .vi
  |some a=>cases h
 |_=>cases h
def afg(h:N4 v=É):jY v:=by
 cases v with
 |agg b=>exact .oK λi a=>F3<|(Ń.1 h) i a
 |tuple b=>exact .nR λi a=>F3<|(Ń.1 h) i a
 |_=>exact F3 h
def wU(X:Nat->Bool):Ö->Bool
 |.tmp _=>É
 |dZ v=>N4 v
 |ez g=>X g
 |aO _=>É
theorem Jv{g:Nat->Bool}(h:wU g qQ=É):mD (λj=>g j=É) qQ:=by
 cases qQ with
 |tmp t=>exact .Wq t
 |const v=>exact .Wr (afg h)
 |global j=>exact .Ws h
 |func f=>exact .Wt f
def N5(P:Õ)(t:Á):Bool:=match P.underlying t with
 |some .bool=>É
 |some (Β _)=>É
 |some ę=>É
 |_=>Ã
def afh(h:N5 P t=É):tK P t:=by
 unfold N5 at h;split at h
 .rename_i e;exact Ç e
 .rename_i k e;exact Î<|Ç ⟨k,e⟩
 .rename_i e;exact Î<|Î e
 .cases h
def Jw:Ö->Bool
 |dZ (Þ ë)=>É
 |_=>Ã
def WH(h:Jw qQ=É):nk (y.eval qQ):=by
 unfold Jw at h;split at h
 .trivial
 .cases h
def N6(P:Õ)(t:Á)(x y:Ö):Bool:=N5 P t||((match P.underlying t with|some (ð _)=>É|_=>Ã)&&(Jw x||Jw y))
theorem afi{a:bF}{y:Ö}(h:N6 P t qQ y=É):tK P t\/((∃e,P.underlying t=À (ð e))/\(nk (a.eval qQ)\/nk (a.eval y))):=by
 unfold N6 at h;rcases Ŝ.1 h with h|h
 .exact Ç<|afh h
 .let⟨b,e⟩:=Ü.1 h;refine Î ⟨?_,(Ŝ.1 e).imp WH WH⟩;grind
def N7(P:Õ)(s d:Á):Bool:=match P.underlying s,P.underlying d with
 |some (Β _),À (Β _)=>É
 |some ę,À ę=>É
 |_,_=>Ã
theorem afj(h:N7 P e t=É):(∃k a,P.underlying e=À (Β k)/\P.underlying t=À (Β a))\/(P.underlying e=À ę/\P.underlying t=À ę):=by unfold N7 at h;grind
def N8(P:Õ)(s:Á)(n:Nat):Bool:=match P.underlying s with
 |some (df fields)=>match fields[n]? with
  |some f=>match P.info? f.type with
   |some i=>i.size !=0
   |none=>Ã
  |none=>Ã
 |_=>Ã
def afk(h:N8 P e n=É):∀a f i,P.underlying e=À (df a)->a[n]?=À f->P.info? f.type=À i->i.size≠0:=by intro a f i b c d;simp only[N8,b,c,d]at h;simpa using h
def N9(P:Õ)(m:à->Bool)(f:à):Bool:=m f&&(match P.funcs[f]? with
 |some a=> !(a.name== "runtime.NumGoroutine")&&!a.body.isNone
 |none=>Ã)
theorem WI{g:à->Bool}(h:N9 P g F=É):g F=É/\∃a,P.funcs[F]?=À a/\(a.name== "runtime.NumGoroutine")=Ã/\a.body.isNone=Ã:=by let⟨b,c⟩:=Ü.1 h;grind
def WJ(P:Õ):List Á->Bool
 |[_,t1]=>(match P.underlying t1 with|some (dh _)=>É|some ę=>É|_=>Ã)
 |_=>Ã
def WK(P:Õ)(m:à->Bool)(b:Callee)(a:List Ö)(c:List Á):Bool:=match b with
 |ĝ .len=>a.length==1
 |ĝ .cap=>a.length==1
 |ĝ .copy=>a.length==2
 |ĝ .append=>a.length==2&&WJ P c
 |cj (aO f)=>N9 P m f
 |_=>Ã
def C8(P:Õ)(m:à->Bool):Op->Bool
 |.move _|.assign _|.pick _ _ _|.alloc _|.box _ _|.build _ _|dD _ _ _|.load _ _|.store _ _ _|eD _|.unOp _ _ _|dW _ _ _|.slice _ _ _ _ _|.field _ _ _|dY _ _ _|.index _ _ _|.extract _ _=>É
 |dU c t x y _=>if c==aA||c==aL then N6 P t x y else É
 |aN s d _=>N7 P s d
 |dX s _ n=>N8 P s n
 |Ω c=>WK P m c.callee c.args.toList c.argTypes.toList
 |_=>Ã
def Jx{a:Array Ö}(h:(a.toList.length==1)=É):∃x,a=#[x]:=by
 let⟨l⟩:=a;match l,h with
 |[x],_=>exact⟨x,U⟩
def Oa{a:Array Ö}(h:(a.toList.length==2)=É):∃x y,a=#[x,y]:=by
 let⟨l⟩:=a;match l,h with
 |[x,y],_=>exact⟨x,y,U⟩
def afl{g:à->Bool}{k:Op}(h:C8 P g k=É)(a:bF):km P a.eval k:=by
 cases k with
 |binOp o t x y r=>
  refine .C0 o t x y r λe=> ?_;have:(o==aA||o==aL)=É:=by rcases e with rfl|rfl<;>rfl
  simp only[C8,if_pos this]at h;exact afi h
 |convert s d x=>exact .Nv _ _ _ (afj h)
 |fieldAddr s x n=>exact .Nx _ _ _ (afk h)
 |call c=>
  let⟨z,B,j⟩:=c;simp only[C8]at h;unfold WK at h;split at h
  .obtain⟨x,rfl⟩:=Jx h;exact .FO x j
  .obtain⟨x,rfl⟩:=Jx h;exact .FP x j
  .obtain⟨x,y,rfl⟩:=Oa h;exact .FQ x y j
  .let⟨q,f⟩:=Ü.1 h;obtain⟨x,y,rfl⟩:=Oa q;let⟨l⟩:=j;match l,f with
   |[t0,t1],f=>
    refine .tJ x y t0 t1 ?_;simp only[WJ]at f;split at f
    .rename_i e m;exact Ç ⟨e,m⟩
    .rename_i m;exact Î m
    .cases f
  .exact .jN _ _ _ U (WI h).2
  .cases h
 |move x=>exact .Aw x
 |assign x=>exact .FM x
 |pick c a b=>exact .wE c a b
 |alloc t=>exact .gJ t
 |box t x=>exact .Nr t x
 |build t p=>exact .Ns t p
 |buildSlice t n p=>exact .Nt t n p
 |load t a=>exact .gC t a
 |store t a x=>exact .jd t a x
 |nilCheck x=>exact .FN x
 |unOp o t x=>exact .Nu o t x
 |makeSlice t l c=>exact .Nw t l c
 |slice t x u v w=>exact .kL t x u v w
 |field t x n=>exact .Ny t x n
 |indexAddr t x i=>exact .Nz t x i
 |index t x i=>exact .NA t x i
 |extract x n=>exact .FD x n
 |_=>simp[C8]at h
def Ob(P:Õ)(X:Nat->Bool)(m:à->Bool)(o:av):Bool:=C8 P m o.op&&o.op.operands.all (wU X)
def afm{X:Nat->Prop}{m:à->Prop}{o:av}(op:∀a:bF,km P a.eval o.op)(opd:∀x∈o.op.operands,mD X x)(calls:∀f args ts,o.op=Ω {callee:=cj<|aO f,args:=args,argTypes:=ts}->m f):mR P X m o where
 mS hz hb hG ht hW hl x u' hr hc:=(Vt hz hW.C hb (λf=>rfl) (op _) λx hx=>wR hG ht<|opd x hx).gf hW hl hr hc #[];r a:=aeX<|op a;I a u n u' hr:=ae7 (op a) hr;C a u f c u' hr:=let⟨as,ts,e⟩:=ae2 (op a) hr;calls f as ts e
theorem afn{g:Nat->Bool}{k:à->Bool}(h:Ob P g k o=É):mR P (λj=>g j=É) (λf=>k f=É) o:=by
 let⟨j,b⟩:=Ü.1 h;refine afm (λa=>afl j a) (λx a=>Jv ?_) λf a x e=> ?_
 .grind [ŉ]
 .rw[e]at j;exact(WI<|show N9 P k f=É from j).1
end
section
variable{Y:fu}{g:à->Prop}{α:Type}
def C9(m:(Ö->Â)->ē Â)(e:∀b,ì b o=m b>>=λv=>pure<|ï v) (i:∀(Y:fu) (b h:Ö->Â),nT P->Bi Y->Y.C=P.globals.size->(∀x∈o.op.operands,fp Y (b x)<|h x)->kN P fp Y (m b) (m h)) (j:∀b,fF P<|m b) (k:∀x∈o.op.operands,mD X x):mR P X g o where
 mS hz hb hG ht hW hl x u' hr hc:=by rw[e]at hr|-;exact(Vm<|i _ _ _ hz hW.C hb λx d=>wR hG ht<|k x d).gf hW hl hr hc #[]
 r a:=by rw[e];exact lU<|j _
 I a u n u' hr:=by
  rw[e,Ä]at hr;cases d:(m a.eval).run P u with
  |ok v w=>rw[d]at hr;cases hr;exact Ç ⟨v,U⟩
  |halt z w=>rw[d]at hr;cases hr
 C a u f c u' hr:=by
  rw[e,Ä]at hr;cases d:(m a.eval).run P u with
  |ok v w=>rw[d]at hr;cases hr
  |halt z w=>rw[d]at hr;cases hr
theorem afo(a:o.op=cI t qQ)(b:∀y∈o.op.operands,mD X y):mR P X g o:=by
 refine C9 (λd=>ŝ t<|d qQ) (λd=> ?_) (λY d c _ _ _ h=> .gy ?_) (λd=> ?_) b
 .unfold ì;rw[a]
 .unfold ŝ;apply fG (jb t);rintro e d _ c ⟨rfl,_⟩;split
  .exact .fR
  .exact .fE (.yl t ((h qQ<|by rw[a];simp[Ê]).fQ c))
 .unfold ŝ;grind [gH,je,rA,gw]
theorem afp(c:Sys):oM P (sys c):=by
 intro u hu;refine⟨λx u' e=> ?_,λz u' e=>by cases e⟩;have:u'.heap=u.heap:=by
  simp only[sys,ã]at e;cases e;unfold World.sys;have ask:∀{γ:Type} (b:Ask γ) (w:Æ),(w.ask b).2.heap=w.heap:=by
   intro γ b
   induction b with
   |done a=>intro w;rfl
   |ask what range k ih=>
    intro w;simp only[World.ask];split
    .exact ih 0 w
    .exact ih _ _
  grind
 exact⟨λh i c e he=>h i c e (by rwa[<-this]),λi o he ho=>⟨o,by rwa[this],ho⟩⟩
theorem WL(x:Â):∀u y a,(ż x).run P u≠ĥ y a:=by
 unfold ż;cases x<;>simp only[]<;>first|exact Nq|skip
 grind [FJ,Va,ry]
def afq(x:Â):fF P (ż x):=by
 refine⟨?_,ND<|WL x⟩;unfold ż;cases x<;>simp only[]<;>first|exact FU U|skip
 refine Jb ?_ λa=> ?_
 .unfold Instr.panicnil;refine Jb (afp _) λr=> ?_;cases r<;>first|exact FU U|skip
  exact Jb Vv λ_=>Vu _
 .split
  .exact FU U
  .exact(wF _).1
def afr(b:o.op=.panic qQ)(c:∀y∈o.op.operands,mD X y):mR P X g o:=by refine C9 (λa=>ż<|a qQ) (λa=> ?_) (λY a d _ _ _ h=> .gy (.oL (WL _))) (λa=>afq _) c;unfold ì;rw[b]
def afs(c:fp Y x v)(d:fp Y z jQ):fI P fp Y (Ĳ x z) (Ĳ v jQ):=by
 cases c<;>cases d<;>first|exact .fR|exact .fE (.iF _ _)|skip
 refine fG (V:=fp) (.fE (.mC _)) λf a g _ e=> ?_;apply fG (U8 e);rintro h b _ _ rfl;exact .fE (.kV _)
def afu(x y:Â):fF P (Ĳ x y):=by unfold Ĳ;repeat' (first|(with_reducible first|exact gH _|exact je _|exact sN _|exact Ji _|exact NU _ _ _|refine gw ?_ (λ_=> ?_)|refine nn _ ?_)|split|rfl)
def afv:∀{l b:List Â} {Y:fu} {x c:Â},fp Y x c->fT Y l.toArray b.toArray->fI P fp Y (l.foldlM Ĳ x) (b.foldlM Ĳ c):=by
 intro l
 induction l with
 |nil=>
  intro b Y x c d a;have:b=[]:=by have:=a.r;simp at this;exact Ā this.symm
  subst this;rw[ζ,ζ];exact .fE d
 |cons v l e=>
  intro b Y x c d a;match b,a with
  |[],a=>have:=a.r;simp at this
  |v'::b,a=>
   rw[Ζ,Ζ];refine fG (afs d (by have:=a.C 0 fq fq;simpa using this)) ?_;intro k y m f g;refine e g ⟨by have:=a.r;simpa using this,λj h i=> ?_⟩;have:=a.C (j+1) (by simp at h|-;omega) (by simp at i|-;omega);exact(by simpa using this:fp Y _ _).fQ f
theorem WM:∀(l:List Â) (x:Â),fF P<|l.foldlM Ĳ x
 |[],x=>by rw[ζ];exact gH _
 |v::l,x=>by rw[Ζ];exact gw (afu _ _) λy=>WM l y
def afw(a:Array Á)(t:Á)(h:fT Y d q):fI P fp Y (ń a t d) (ń a t q):=by
 let⟨l⟩:=d;let⟨b⟩:=q;unfold ń;match l,b,h with
 |[],_,_=>exact .fR
 |v::l,[],h=>have:=h.r;simp at this
 |v::l,v'::b,h=>
  refine afv (by have:=h.C 0 fq fq;simpa using this) ⟨by have:=h.r;simpa using this,λj e f=> ?_⟩;have:=h.C (j+1) (by simp at e|-;omega) (by simp at f|-;omega);exact(by simpa using this:fp Y _ _)
theorem afx(a:Array Á)(t:Á)(c:Array Â):fF P (ń a t c):=by let⟨l⟩:=c;unfold ń;grind [je,WM]
def afy{b:Array Ö}{c:Array Á}(d:o.op=Ω {callee:=ĝ .min,args:=b,argTypes:=c})(e:∀y∈o.op.operands,mD X y):mR P X g o:=by refine C9 (λa=>ń c o.type<|b.map a) (λa=> ?_) (λY a i _ _ _ h=> .gy (afw _ _<|Vq b λz f=>h z<|by rw[d];simp[Ê,ô,f])) (λa=>afx _ _ _) e;unfold ì;rw[d];simp only[ù,č,Ē,pure_bind]
def afz{β:Type}{f g:Â->β->ē (ForInStep β)}(k:∀a v e b,Y.r a->fp a v e->fI P jq a (f v b) (g e b)):∀{l d:List Â} {a:fu} (b:β),Y.r a->fT a l.toArray d.toArray->fI P jq a (forIn l b f) (forIn d b g):=by
 intro l
 induction l with
 |nil=>
  intro d a b _ c;have:d=[]:=by have:=c.r;simp at this;exact Ā this.symm
  subst this;rw[φ,φ];exact .fE U
 |cons v l m=>
  intro d a b h c;match d,c with
  |[],c=>have:=c.r;simp at this
  |e::d,c=>
   rw[η,η];refine fG (k a v e b h (by have:=c.C 0 fq fq;simpa using this)) ?_;rintro p r _ i rfl;cases r with
   |done b=>exact .fE U
   |yield b=>
    apply m b (fu.I h i);refine⟨by have:=c.r;simpa using this,λj n o=> ?_⟩;have:=c.C (j+1) (by simp at n|-;omega) (by simp at o|-;omega);exact(by simpa using this:fp a _ _).fQ i
theorem WN{β:Type}{f:Â->β->ē (ForInStep β)}(a:∀v b,fF P<|f v b):∀(l:List Â) (b:β),fF P<|forIn l b f
 |[],b=>by rw[φ];exact gH _
 |v::l,b=>by
  rw[η];refine gw (a v b) λr=> ?_;cases r with
  |done b=>exact gH _
  |yield b=>exact WN a l b
def afA(d:fp Y x v):fI P fp Y (ü x) (ü v):=by
 cases d<;>first|exact .fR|exact .fE (.kV _)|skip
 rename_i h n c;unfold ü;apply fG (Nj h n);intro e j l m f;simp only[<-aE];refine fG (afz (Y:=e) ?_ _ (fu.M _) f) ?_
 .intro g a o b _ i;cases i<;>first|exact .fR|skip
  rename_i k n;cases k<;>first|exact .fR|exact .fE U
 .rintro g s _ _ rfl;exact .fE (.kV _)
theorem afB(x:Â):fF P (ü x):=by
 unfold ü;split
 .exact gH _
 .refine gw (NM _ _) λa=> ?_;simp only[<-aE];grind [gw,WN,gH,je]
 .exact je _
theorem afC(i:o.op=aN t T qQ)(k:P.underlying t=À (dh e))(l:P.underlying T=À ę)(m:P.underlying e=À (Β .u8))(n:∀y∈o.op.operands,mD X y):mR P X g o:=by
 refine C9 (λa=>Œ t T<|a qQ) (λa=> ?_) (λY a f _ _ _ h=> .gy ?_) (λa=> ?_) n
 .unfold ì;rw[i]
 .unfold Œ;refine fG (jb t) ?_;rintro z B _ p ⟨rfl,b⟩;rw[k]at b;injection b with b;subst b;refine fG (jb T) ?_;rintro q C _ r ⟨rfl,c⟩;rw[l]at c;injection c with c;subst c;have j:=((h qQ<|by rw[i];simp[Ê]).fQ p).fQ r;have u:fI P fp q (ø e>>=λy=>match y with|Β .u8=>ü (a qQ)|Β .i32=>aF (a qQ)|_=>stuck "Convert: a slice of what to string?") (ø e>>=λy=>match y with|Β .u8=>ü (f qQ)|Β .i32=>aF (f qQ)|_=>stuck "Convert: a slice of what to string?"):=by
   apply fG (jb e);rintro D E _ w ⟨rfl,h⟩;rw[m]at h;injection h with h;subst h;exact afA<|j.fQ w
  generalize a qQ=v at*;generalize f qQ=v' at*;cases j<;>first|exact u|exact .fR|exact .fE (.kV _)|skip
 .unfold Œ;grind [wG,afB,Wn,gH]
end
section
variable{Y:fu}{b:à->Prop}{α:Type}
def WO(i:∀(Y:fu) (a g:bF),nT P->Bi Y->Y.C=P.globals.size->(∀x∈o.op.operands,fp Y (a.eval x)<|g.eval x)->kN P pf Y (ì a.eval o) (ì g.eval o)) (j:∀a:bF,fF P<|ì a.eval o) (h:∀(a:bF) (u:Æ) (n:Ο) (d:Æ),(ì a.eval o).run P u=ĥ n d->∃v,n=ï v) (k:∀x∈o.op.operands,mD X x):mR P X b o where
 mS hz hb hG ht hW hl x d hr hc:=(i _ ⟨_,[]⟩ ⟨_,[]⟩ hz hW.C hb λx e=>wR hG ht<|k x e).gf hW hl hr hc #[];r a:=j a;I a u n d hr:=Ç<|h a u n d hr;C a u f c d hr:=by let⟨v,e⟩:=h a u _ d hr;cases e
def afD{e:Array Â->ē Â}{k:Array Á}(g:o.op=Ω {callee:=cj<|aO F,args:=#[qQ],argTypes:=k})(l:P.funcs[F]?=À s)(m:(s.name== "runtime.NumGoroutine")=Ã)(q:s.body.isNone=É)(r:Extern.findNext s=ë)(t:Extern.find s=À e) (B:∀(Y:fu) (v i:Â),fp Y v i->fI P fp Y (e #[v]) (e #[i])) (C:∀v,fF P<|e #[v]) (D:∀y∈o.op.operands,mD X y):mR P X b o:=by
 have c:∀a:bF,ì a.eval o=ĵ F #[a.eval qQ]:=by intro a;unfold ì;rw[g];simp only[ù,å,İ,č,pure_bind,Ď,ď,Ø,â,ä]
 have j:∀(v:Â) (u:Æ),(ĵ F #[v]).run P u=(mark (.extern F)>>=λ_=>e #[v]>>=λy=>pure (ï y):ē Ο).run P u:=by intro v u;unfold ĵ;simp_all
 refine WO (λY a w _ _ _ h=> ?_) (λa=> ?_) (λa u n E d=> ?_) D
 .rw[c,c];unfold ĵ;refine .gy (fG rp ?_);rintro I p J w ⟨z,G⟩;rw[z,G];simp only[l,m,q,r,t,Å,if_false,if_true];apply fG (V:=jq) (.CR (Î ⟨F,U⟩) (.fE U));exact λK _ _ H _=>mQ<|B _ _ _<|((h qQ<|by rw[g];simp[Ê,ô]).fQ w).fQ H
 .rw[c];exact Je (j _)<|gw (FV _) λ_=>lU<|C _
 .rw[c,j,Ä]at d;simp only[mark,ã,È]at d;have:ã P (e #[a.eval qQ]>>=λy=>pure (ï y):ē Ο) u=ĥ n E:=d;rw[Ä]at this;cases h:(e #[a.eval qQ]).run P u with
  |ok v w=>rw[h]at this;cases this;exact⟨v,U⟩
  |halt z w=>rw[h]at this;cases this
def afE(x a:Â)(h:fp Y x a):fI P fp Y (Ŀ #[x]) (Ŀ #[a]):=.fE h
def afF(x:Â):fF P (Ŀ #[x]):=gH _
def WQ:∀(n t:Nat) {c a:Array Â},fT Y c a->fT Y (ņ n t c) (ņ n t a)
 |0,_,_,_,h=>h
 |n+1,t,_,_,h=>WQ n (t/256)<|h.UY<|.iF _ _
def afG(b:Array Á)(t:Á)(v c:Â)(h:fp Y v c):fI P fp Y (Ċ b #[t] #[v]) (Ċ b #[t] #[c]):=by
 cases h<;>first|exact .fR|skip
 rename_i k n;cases k<;>first|exact .fR|skip
 refine fG (jb t) ?_;rintro j d _ l ⟨rfl,_⟩;cases d<;>first|exact .fR|skip
 rename_i e _;simp only[];split
 .exact .oL (wA<|ry _)
 .apply sK (.Ar λn=> .fE U);intro m f _;apply sK (Np _);intro o _ _;apply sK (.Ar λn=> .fE U);intro p g _;apply fG (Au e<|WQ f g<|fT.N _);exact λq a r _ i=> .fE (.kL i _ _)
def afH(a:Array Á)(t:Á)(v:Â):fF P (Ċ a #[t] #[v]):=by
 cases v<;>first|exact je _|skip
 rename_i k n;cases k<;>first|exact je _|skip
 refine gw (rA t) λd=> ?_;cases d<;>first|exact je _|skip
 repeat' (first|(with_reducible first|exact gH _|exact je _|exact sN _|exact FX _ _|exact rA _|exact wF _|exact NN _|refine gw ?_ λ_=> ?_)|split)
def afI(f:Array Á)(t:Á)(j:fp Y x v):kN P fp Y (ė f t #[x]) (ė f t #[v]):=by
 cases j<;>first|exact .gy .fR|exact .gy (.fE .lQ)|skip
 rename_i a g h n c;change kN P fp Y (ite _ _ _) (ite _ _ _);by_cases i:c≠0
 .simp only[if_pos i];exact .gy (.fE (.jW h))
 .simp only[if_neg i];apply lh (I7 h.1);rintro l b m o ⟨rfl,rfl⟩;simp only[Option.isSome_none,Å,if_false];refine lh (V0:=λ_ a g=>a=g) ?_ ?_
  .unfold Ū;refine fG (jb t) ?_;rintro k d _ p ⟨rfl,_⟩;cases d<;>first|exact .fR|exact .fE U
  .rintro k e _ _ rfl;exact .CW trivial
def afJ(b:Array Á)(t:Á)(x:Â):fF P (ė b t #[x]):=by
 cases x<;>first|exact je _|skip
 rename_i p n c;cases p with
 |none=>exact gH _
 |some a=>
  change fF P (ite _ _ _);repeat' (first|(with_reducible first|exact gH _|exact je _|exact Jf _|exact Jj _|refine gw ?_ (λ_=> ?_)|refine Jc _ ?_)|split|(intro _ _ h;cases h;done))
def afK{c:Array Á}(d:o.op=Ω {callee:=ĝ bl,args:=#[qQ],argTypes:=c})(e:∀y∈o.op.operands,mD X y):mR P X b o:=by refine C9 (λa=>ė c o.type #[a qQ]) (λa=> ?_) (λY a f _ _ _ h=>afI _ _<|h qQ<|by rw[d];simp[Ê,ô]) (λa=>afJ _ _ _) e;unfold ì;rw[d];simp only[ù,č,Ē,pure_bind,Ø,â,ä]
end
section
variable{Y:fu}{f:Nat->Prop}{g:à->Prop}{α:Type}
def WR(h:ia Y a p):fI P ia Y (Ž a) (Ž p):=by unfold Ž;apply fG (I7 h.1);rintro c x d b ⟨rfl,rfl⟩;exact .fE (h.r b)
def afL{r:Nat}(h:Y r i):fI P (λ_ c q=>∃n a,c=À n/\q=À a/\n<=a) Y (dx r) (dx i):=.vk h λ_ n a c=> .fE ⟨n,a,U,U,c.elim (λq=>by omega) λq=>q.1⟩
def WS(h:ia Y a p)(t:Á)(n:Nat):fI P (λ_ b e=>b=É->e=É) Y (Ą a t n) (Ą p t n):=by unfold Ą;apply fG rp;rintro i b j c ⟨d,f⟩;rw[d,f];refine .vk (c.1 _ _ h.1) λe m k g=> ?_;rw[h.2.1];exact .fE λq=>Vh (ο<|g.elim (λq=>by omega) λq=>q.1) q
def afM(a:Ú):fF P (Ž a):=by unfold Ž;repeat' (first|(with_reducible first|exact gH _|exact qF|exact tL _|exact Jj _|refine gw ?_ (λ_=> ?_)|refine nn _ ?_)|split|rfl)
theorem afN(r:Nat):fF P (dx r):=by unfold dx;grind [gH,tL,VB,gw]
theorem WT(a:Ú)(t:Á)(n:Nat):fF P (Ą a t n):=by unfold Ą;grind [gH,qF,tL,gw]
theorem afO(l:P.underlying e=À (ð t))(m:P.underlying T=À đ)(o:fp Y x v):kN P fp Y (ö e T x) (ö e T v):=by
 unfold ö;refine lh (jb e) ?_;rintro z B _ p ⟨rfl,f⟩;rw[l]at f;injection f with f;subst f;refine lh (jb T) ?_;rintro C D _ q ⟨rfl,g⟩;rw[m]at g;injection g with g;subst g;have r:=(o.fQ p).fQ q;cases r<;>first|exact .gy .fR|exact .gy (.fE .lQ)|skip
 rename_i a E h;refine lh (WR h) ?_;intro F b j G i;refine lh (afL i.1) ?_;rintro H c I u ⟨w,J,rfl,rfl,K⟩;refine lh (nj t) ?_;rintro L n _ y ⟨rfl,_⟩;rw[i.2.1,i.2.2];simp only[];by_cases k:(decide (n=0)||(decide (j.off≥w)&&j.spot.isNone))=É
 .rw[if_pos k];exact .CW trivial
 .rw[if_neg k,if_neg]
  .exact .gy (.fE (.jW ((i.r u).r y)))
  .grind
theorem afP{d:Á}(l:P.underlying T=À đ)(o:P.underlying d=À (ð t))(q:fp Y x z):kN P fp Y (ö T d x) (ö T d z):=by
 unfold ö;refine lh (jb T) ?_;rintro F G _ r ⟨rfl,f⟩;rw[l]at f;injection f with f;subst f;refine lh (jb d) ?_;rintro H I _ w ⟨rfl,g⟩;rw[o]at g;injection g with g;subst g;have y:=(q.fQ r).fQ w;cases y<;>first|exact .gy .fR|exact .gy (.fE .lQ)|skip
 rename_i a J h;refine lh (WR h) ?_;intro K b B L i;refine lh (nj t) ?_;rintro M n _ j ⟨rfl,_⟩;refine lh (WS (i.r j) t 1) ?_;rintro C v N D O;have Q:kN P fp C (pure<|Þ<|À b) (pure<|Þ<|À B):=.gy (.fE (.jW ((i.r j).r D)));by_cases E:(decide (n=0)||v)=É
 .grind
 .rw[if_neg E];refine .CX λu x S c=> ?_;rw[Ä]at c;simp only[cu,ã,È]at c;cases k:u.shape? b.block with
  |none=>rw[k]at c;cases c
  |some p=>
   let⟨e,m⟩:=p;rw[k]at c;simp only[Ä,ă,È]at c;split at c
   .cases c
   .cases c;exact⟨u.heap.size,.view b t,ß _,fq,trivial⟩
theorem afQ(h:(P.underlying e=À (ð t)/\P.underlying T=À đ)\/(P.underlying e=À đ/\P.underlying T=À (ð t)))(x:Â):fF P (ö e T x):=by
 unfold ö;rcases h with⟨b,c⟩|⟨b,c⟩<;>refine wG b<|wG c ?_;all_goals
  cases x<;>first|exact je _|skip
  rename_i p;cases p with
  |none=>exact gH _
  |some a=>
   repeat' (first|(with_reducible first|exact afM _|exact afN _|exact WT _ _ _|exact gH _|exact je _|exact qF|exact tL _|exact tN _|refine gw ?_ (λ_=> ?_)|refine nn _ ?_|refine Jc _ ?_)|split|(intro _ _ h;cases h;done)|rfl)
theorem WU(b:o.op=aN e T qQ)(h:(P.underlying e=À (ð t)/\P.underlying T=À đ)\/(P.underlying e=À đ/\P.underlying T=À (ð t)))(c:∀y∈o.op.operands,mD X y):mR P X g o:=by
 refine C9 (λa=>Œ e T<|a qQ) (λa=> ?_) (λY a i _ _ _ f=> ?_) (λa=> ?_) c
 .unfold ì;rw[b]
 .unfold Œ;apply lh (jb e);rintro j k _ a ⟨rfl,l⟩;apply lh (jb T);rintro m n _ i ⟨rfl,p⟩;have q:=((f qQ<|by rw[b];simp[Ê]).fQ a).fQ i;grind [afO,afP]
 .unfold Œ;grind [afQ,wG]
theorem afR(a:Ú)(n:Nat):oM P (eX a n):=by
 intro u f;refine⟨λx b e=> ?_,λz b e=>by cases e⟩;cases e;unfold Ė;split
 .exact Kd.fX u
 .refine Vw (λo d=> ?_) λo c e h=> ?_
  .cases o<;>first|exact d.elim|trivial
  .grind
def afS(a:Ú)(n:Nat):fF P (eX a n):=by
 refine⟨afR a n,λu T D=>⟨0,u.freeze a n,λx b e=> ?_⟩⟩;have c:∀T D,(World.tp u T D).freeze a n=World.tp (u.freeze a n) T D:=by intro T D;unfold Ė;split<;>rfl
 simp_all
def WV:∀(n:Nat) {Y:fu} {a c:Ú} (d:ByteArray),ia Y a c->fI P jq Y (ĕ a d n) (ĕ c d n)
 |0,_,_,_,_,_=> .fE U
 |n+1,Y,a,c,d,h=>by
  unfold ĕ;refine fG (I3 h) ?_;intro g v i e f;cases f<;>first|exact .fR|skip
  rename_i k b;cases k<;>first|exact .fR|exact WV n _<|(h.r e).C 1
def WW:∀(n:Nat) (a:Ú) (b:ByteArray),fF P<|ĕ a b n
 |0,_,_=>gH _
 |n+1,a,b=>by
  unfold ĕ;refine gw (FW _ _) λv=> ?_;split
  .exact WW n _ _
  .exact je _
def jE(pt:Á)(a:Ú)(n:Nat):ē ByteArray:=do
 if<-Ą a (<-Ū pt) n then ĕ a .empty n else unsupported (ť "String: not so many bytes at ptr")
def afT(pt:Á)(h:ia Y a p)(n:Nat):fI P jq Y (jE pt a n) (jE pt p n):=by
 unfold jE;refine fG (V:=jq) ?_ ?_
 .unfold Ū;refine fG (jb pt) ?_;rintro f d _ c ⟨rfl,_⟩;cases d<;>first|exact .fR|exact .fE U
 .rintro i e _ d rfl;apply fG (WS (h.r d) e n);rintro f b j c g;cases b with
  |true=>rw[g U];exact WV n _<|(h.r d).r c
  |false=>exact .fR
def afU[Ap P](F:ji Y f u w)(h:ia Y a p){pt:Á}(G:∀u l j,(Ū pt).run P u=ĥ l j->∃k,P.underlying l=À (Β k))(g:(jE pt a<|n+1).run P u=ĥ B W):¬f p.block:=by
 intro H;let⟨c,L,e,M,N,r,O,Q,t,_⟩:=F.r _ _ h.1;let⟨_,_,_,_,o⟩:=t H;unfold jE at g;rw[Ä]at g;cases i:(Ū pt).run P u with
 |halt z x=>rw[i]at g;cases g
 |ok l j=>
  have I:j=u:=by
   unfold Ū at i;rw[Ä]at i;unfold ø at i;rw[Ä,ă]at i;simp only[È]at i;cases D:P.underlying pt with
   |none=>rw[D]at i;cases i
   |some d=>
    rw[D]at i;cases d<;>cases i<;>rfl
  subst I;rw[i]at g;simp only[È]at g;rw[Ä]at g;have y:∃b,(Ą a l<|n+1).run P j=ĥ b j:=by unfold Ą;rw[Ä,ă];simp only[È];rw[Ä];simp only[cu,ã,È];split<;>exact⟨_,U⟩
  rcases o with o|o;rotate_left
  .let⟨k,J⟩:=G _ _ _ i;have K:(Ą a l<|n+1).run P j=ĥ Ã j:=by
    unfold Ą;rw[Ä,ă];simp only[È];rw[Ä];simp only[cu,ã,È];have t:j.shape? a.block=À (e,c.size):=by simp[Θ,r]
    rw[t];simp only[Nat.div_eq_of_lt<|Ap.lt e c.size o,adP J];rfl
   rw[K]at g;cases g
  let⟨b,y⟩:=y;rw[y]at g;simp only[È]at g;split at g
  .unfold ĕ at g;rw[Ä]at g;simp only[aX,ã]at g;cases C:j.cell? a with
   |none=>
    rw[C]at g;simp only[ŋ,r]at g;cases g
   |some v=>
    rw[C]at g;simp only[È]at g;have q:=C;rw[At r]at q;cases E:a.spot with
    |some x=>rw[E]at q;cases q
    |none=>
     rw[E]at q;have:=o _ _ (by simpa using q);cases v<;>first|(cases g;done)|skip
     rename_i k m;cases k<;>first|(cases g;done)|cases this
  .cases g
end
section
variable{Y:fu}{d:Nat->Prop}{f:à->Prop}{α:Type}
def yw(a:Á)(p:Option Ú)(n:Int):ē Â:=ê #[a] a #[Þ p,Ć Ŋ n]
def yx(pt a t:Á)(p:Option Ú)(k:ú)(n:Int):ê #[pt,a] t #[Þ p,Ć k n]=yw pt p n:=by cases p<;>rfl
section
variable{pt:Á}{p:Option Ú}
def WX(a:h<0):∃c,∃k:PUnit->ē Â,yw pt p h=(runtimePanic c>>=k):=⟨_,_,if_pos a⟩
def WY(a:¬h<0)(b:h>Ŋ.max):∃c,yw pt p h=unsupported (ť c):=⟨_,(if_neg a).trans<|if_pos b⟩
def Oc(a:¬h<0)(b:¬h>Ŋ.max)(c:h=0):yw pt p h=pure (ħ .empty):=by cases p<;>exact(if_neg a).trans<|(if_neg b).trans<|if_pos c
def afV(a:¬h<0)(b:¬h>Ŋ.max)(d:¬h=0):∃c,yw pt ë h=runtimePanic c:=⟨_,(if_neg a).trans<|(if_neg b).trans<|if_neg d⟩
end
def WZ(pt:Á)(a:Ú)(c:¬h<0)(d:¬h>Ŋ.max)(e:¬h=0): yw pt (À a) h=(jE pt a h.toNat>>=λs=>eX a h.toNat>>=λ_=>pure<|ħ s):=by refine((if_neg c).trans<|(if_neg d).trans<|if_neg e).trans ?_;unfold jE;show _=ç (ç _ _) _;rw[ř];congr 1;funext et;show ç _ _=ç (ç _ _) _;rw[ř];congr 1;funext b;cases b<;>rfl
def afW(pt:Á)(p:Option Ú)(n:Int):fF P (yw pt p n):=by cases p<;>show fF P (if n<0 then _ else _)<;>repeat' (first|(with_reducible first|exact WT _ _ _|exact WW _ _ _|exact afS _ _|exact gH _|exact Jf _|exact wF _|refine gw ?_ (λ_=> ?_)|refine nn _ ?_)|split|rfl)
theorem afX(_hW:ji Y d u w):∀(n:Nat) {a i:Ú} {j s:ByteArray},ia Y a i->a.spot=ë->(ĕ a j n).run P u=ĥ s W->∀c e f,u.heap[a.block]?=À (Č c e f)->a.off<=c.size->a.off+n<=c.size:=by
 intro n
 induction n with
 |zero=>intro a i j s _ _ _ c e f _ r;exact r
 |succ n t=>
  intro a i j s h p b c e f l _;unfold ĕ at b;rw[Ä]at b;simp only[aX,ã]at b;cases o:u.cell? a with
  |none=>
   rw[o]at b;simp only[ŋ,l]at b;cases b
  |some v=>
   rw[o]at b;simp only[È]at b;have q:=o;rw[At l,p]at q;have y:=(Ë.1<|by simpa using q).1;cases v<;>first|(cases b;done)|skip
   rename_i k m;cases k<;>first|(cases b;done)|skip
   have g:a.add 1={a with off:=a.off+1}:=by unfold Addr.add;grind
   have x:=h.C 1;have:=t x (by rwa[g]) b c e f (by rwa[g]) (by rw[g];simp only;omega);rw[g]at this;simp only at this;omega
end
section
variable{Y:fu}{g:Nat->Prop}{r:à->Prop}{α:Type}
def Od(pt a t:Á)(p:Option Ú)(y:Â):ê #[pt,a] t #[Þ p,y]=(dB y>>=λn=>yw pt p n):=by cases p<;>rfl
def W0:∀(n:Nat) {a:Ú} {f s:ByteArray} {u c:Æ},(ĕ a f n).run P u=ĥ s c->c=u
 |0,_,_,_,_,_,h=>by cases h;rfl
 |n+1,a,f,s,u,c,h=>by
  unfold ĕ at h;rw[Ä]at h;have g:∀v b,(aX a).run P u=ĥ v b->b=u:=by
   intro v b e;simp only[aX,ã]at e;split at e
   .cases e;rfl
   .split at e<;>cases e;rfl
  cases d:(aX a).run P u with
  |halt z w=>rw[d]at h;cases h
  |ok v b=>
   have:=g v b d;subst this;rw[d]at h;simp only[È]at h;cases v<;>first|(cases h;done)|skip
   rename_i k m;cases k<;>first|(cases h;done)|exact W0 n h
def afY{pt:Á}(c:(jE pt a n).run P u=ĥ B w):w=u/\(ĕ a .empty n).run P u=ĥ B u:=by
 unfold jE at c;rw[Ä]at c;cases e:(Ū pt).run P u with
 |halt z x=>rw[e]at c;cases c
 |ok z x=>
  have f:x=u:=by
   unfold Ū at e;rw[Ä]at e;unfold ø at e;rw[Ä,ă]at e;simp only[È]at e;cases b:P.underlying pt with
   |none=>rw[b]at e;cases e
   |some d=>
    rw[b]at e;cases d<;>cases e<;>rfl
  subst f;rw[e]at c;simp only[È]at c;rw[Ä]at c;have d:∃b,(Ą a z n).run P x=ĥ b x:=by unfold Ą;rw[Ä,ă];simp only[È];rw[Ä];simp only[cu,ã,È];split<;>exact⟨_,U⟩
  let⟨b,d⟩:=d;rw[d]at c;simp only[È]at c;split at c
  .have:=W0 n c;subst this;exact⟨U,c⟩
  .cases c
def Jy(P:Õ)(t:Á):Bool:=match P.underlying t with
 |some (ð e)=>(match P.underlying e with|some (Β _)=>É|_=>Ã)
 |_=>Ã
theorem afZ{P:Õ}{pt:Á}(h:Jy P pt=É):∀u b c,(Ū pt).run P u=ĥ b c->∃k,P.underlying b=À (Β k):=by
 intro u b c a;unfold Ū ø at a;rw[Ä,Ä,ă]at a;simp only[È]at a;unfold Jy at h;split at h
 .rename_i e d;rw[d]at a;cases a;grind
 .cases h
def af0[Ap P]{y:Ö}{pt:Á}(W:o.op=Ω {callee:=ĝ cV,args:=#[qQ,y],argTypes:=#[pt,T]})(hpt:Jy P pt=É)(W3:∀z∈o.op.operands,mD X z):mR P X r o:=by
 have he:∀M:Ö->Â,ì M o=(ê #[pt,T] o.type #[M qQ,M y]>>=λv=>pure<|ï v):=by intro M;unfold ì;rw[W];simp only[ù,č,Ē,pure_bind,Ø,â,ä]
 have N:∀v w:Â,fF P (ê #[pt,T] o.type #[v,w]):=by
  intro v w;cases v<;>first|exact je _|skip
  rw[Od];exact gw (FY _) λn=>afW _ _ _
 have hk:∀(a:bF) (u:Æ) (n:Ο) (C:Æ),(ì a.eval o).run P u=ĥ n C->∃v,n=ï v:=by
  intro a u n C b;rw[he,Ä]at b;cases O:(ê #[pt,T] o.type #[a.eval qQ,a.eval y]).run P u with
  |ok v w=>rw[O]at b;cases b;exact⟨v,U⟩
  |halt z w=>rw[O]at b;cases b
 refine⟨?_,λa=>by rw[he];exact lU<|N _ _,λa u n C b=>Ç<|hk a u n C b,λa u f c C b=>by let⟨v,e⟩:=hk a u _ C b;cases e⟩;intro Y g t t' u w hz hb hG ht J hl z C b hc;have hx:=wR hG ht (W3 qQ<|by rw[W];simp[Ê,ô]);have Q:=wR hG ht (W3 y<|by rw[W];simp[Ê,ô]);rw[he]at b|-;generalize å ⟨t,[]⟩ qQ=v at hx b;generalize å ⟨t',[]⟩ qQ=v' at hx|-;generalize å ⟨t,[]⟩ y=l at Q b;generalize å ⟨t',[]⟩ y=l' at Q|-;have E:fI P fp Y (ê #[pt,T] o.type #[v,l]) (ê #[pt,T] o.type #[v',l'])->∃(K:fu) (x':Ο) (w':Æ) (S:Array ý),Y.r K/\(∀i j,K i j->Y i j\/(u.heap.size<=i/\w.heap.size<=j))/\(ê #[pt,T] o.type #[v',l']>>=λv=>pure (ï v):ē Ο).runT P w #[]=(ĥ x' w',#[]++S)/\pf K z x'/\ji K g C w'/\nS Y g w w'/\(∀e∈S,As K g e)/\u.heap.size<=C.heap.size:= λh=>(mQ h).gf J hl b #[];cases hx with
 |lQ=>
  apply E;rw[Od,Od];apply fG (Nl Q);rintro W4 n _ _ rfl;by_cases B:n<0
  .let⟨c,k,q⟩:=WX (pt:=pt) (p:=ë) B;rw[q];exact .oL (wA<|ry _)
  .by_cases d:n>Ŋ.max
   .let⟨c,q⟩:=WY (pt:=pt) (p:=ë) B d;rw[q];exact .fR
   .by_cases D:n=0
    .rw[Oc B d D];exact .fE (.kV _)
    .let⟨c,q⟩:=afV (pt:=pt) B d D;rw[q];apply I6
 |jW F=>
  rename_i a a';cases Q with
  |iF k n=>
   by_cases B:n<0
   .apply E;let⟨c,k,q⟩:=WX (pt:=pt) (p:=À a) B;rw[yx,yx,q];exact .oL (wA<|ry _)
   .by_cases d:n>Ŋ.max
    .apply E;let⟨c,q⟩:=WY (pt:=pt) (p:=À a) B d;rw[yx,yx,q];exact .fR
    .by_cases D:n=0
     .apply E;rw[yx,yx,Oc B d D,Oc B d D];exact .fE (.kV _)
     .rw[yx,WZ pt a B d D]at b;rw[yx,WZ pt a' B d D];obtain⟨m,O⟩:∃m,n.toNat=m+1:=⟨n.toNat-1,Z⟩;rw[O]at b|-;cases L:(jE pt a<|m+1).run P u with
      |halt z w=>
       rw[Ä,Ä,L]at b;cases b
      |ok s u1=>
       obtain⟨rfl,W5⟩:=afY L;rw[Ä,Ä,L]at b;have AG:=b;cases AG;let⟨W4,s',w1,es,k1,k2,k3,k4,k5,G,k7,k8⟩:=(afT pt F<|m+1).gf J hl L #[];have S:=k4;subst S;let⟨c,c',e,fr,wB,V,hw,sR,_⟩:=J.r _ _ F.1;have W6:a.spot=ë/\a.off<c.size:=by
        have H:=W5;unfold ĕ at H;rw[Ä]at H;simp only[aX,ã]at H;cases I:u1.cell? a with
        |none=>
         rw[I]at H;simp only[ŋ,V]at H;cases H
        |some v=>
         rw[At V]at I;cases oP:a.spot with
         |some qQ=>rw[oP]at I;cases I
         |none=>rw[oP]at I;exact⟨U,(Ë.1<|by simpa using I).1⟩
       have fits:∀c e fr,u1.heap[a.block]?=À (Č c e fr)->a.off+(m+1)<=c.size:=by intro c2 e2 qG d;rw[V]at d;injection d with d;injection d with q1 q2 q3;subst q1;exact afX J (m+1) F W6.1 W5 c e fr V<|Nat.le_of_lt W6.2
       refine⟨W4,ï<|ħ s,w1.freeze a'<|m+1,es,k1,k2,?_,.nU (.kV s),k5.ac9 (F.r k1) (m+1) fits,?_,k7,by rw[I1];exact ß _⟩
       .show é P (ç (ç _ _) _) w #[]=_;rw[Ñ,Ñ,k3];rfl
       .refine⟨by rw[I1];exact G.r,ac5.trans G.I,ac6.trans G.M,Ng.trans G.S,λj hj N=> ?_,λj hs hj=> ?_⟩
        .rw[I2 (λe=>N a.block<|by rw[<-e];exact F.1)];exact G.C j hj N
        .rw[I2 (λe=>(afU J F (afZ hpt) L)<|by rwa[e])];exact G.N j hs hj
  |_=>exact E .fR
 |_=>exact E .fR
end
section
variable{Y:fu}{g:Nat->Prop}{i:à->Prop}{α:Type}
theorem af2(a:Ú):fF P (bm a):=by unfold bm;grind [gH,tL,NK,gw]
theorem af3(a b:Ú):fF P (cJ a b):=by unfold cJ;grind [af2,gH,tL,gw]
def af4(a b:Ú):fF P (Ŭ a b):=by unfold Ŭ;repeat' (first|(with_reducible first|exact af3 _ _|exact gH _|exact sN _|exact NK _|exact VR _|refine gw ?_ (λ_=> ?_)|refine nn _ ?_)|split|rfl)
def W7(h:P.underlying t=À (ð e))(x y:Â):fF P (ó t x y):=by unfold ó ā Λ;refine wG h ?_;repeat' (first|(with_reducible first|exact af4 _ _|exact gH _|exact je _|exact sN _|exact tN _|refine gw ?_ λ_=> ?_)|contradiction|split)
def af5{a:ġ}(b:a=aA\/a=aL)(h:P.underlying t=À (ð e))(x y:Â):fF P (Ũ a t x y):=by
 have c:=W7 h x y;rcases b with rfl|rfl;all_goals
  unfold Ũ;repeat' (first|(with_reducible first|exact W7 h _ _|exact gH _|exact je _|exact NP _ _ _ _|exact Wh _ _ _ _ _ _|exact Wi _ _ _|exact NU _ _ _|refine gw ?_ λ_=> ?_)|contradiction|split)
def yy(u:Æ)(r:Nat):Prop:=∃c e a,u.heap[r]?=À (Č c e a)/\a.2<=c.size
def Jz(a:Ú)(u:Æ)(b:Array ý):(eP a).runT P u b=(ĥ (u.frozen? a) u,b):=rfl
def JA{r:Nat}(h:u.heap[r]?=À (Č d e xJ))(a:Array ý):(cu r).runT P u a=(ĥ (À (e,d.size)) u,a):=by simp only[cu,é,Θ,h]
def W8(h:yy u a.block)(b:Array ý):(bm a).runT P u b=(ĥ (u.frozen? a) u,b):=by
 let⟨c,e,f,d,g⟩:=h;unfold bm;show é P (ç _ _) u b=_;rw[Ñ,Jz];cases i:u.frozen? a with
 |true=>rfl
 |false=>
  simp only[Å,if_false];show é P (ç _ _) u b=_;rw[Ñ,JA d];simp only[];rw[Jz];have:u.frozen? {block:=a.block,off:=c.size}=Ã:=by simp only[Ĉ,d];simp;omega
  rw[this]
def W9(f:u.heap[a.block]?=À (Č d e xJ))(g:xJ.2<=d.size)(b:u.frozen? a=É):d.size≠0:=by simp only[Ĉ,f]at b;simp at b;omega
def af6(i:yy u a.block)(j:yy u p.block)(k:(u.frozen? a&&u.frozen? p)=Ã)(g:Array ý):(cJ a p).runT P u g=(ĥ Ã u,g):=by
 have q:=i;have r:=j;let⟨c,e,w,l,s⟩:=q;let⟨d,f,x,m,t⟩:=r;unfold cJ;show é P (ç _ _) u g=_;rw[Ñ,W8 i];simp only[];show é P (ç _ _) u g=_;rw[Ñ,W8 j];simp only[];show é P (ç (ç _ _) _) u g=_;rw[Ñ,Ñ,JA l];simp only[];show é P (ç (ç _ _) _) u g=_;rw[Ñ,Ñ,JA m];simp only[];congr 2;cases o:u.frozen? a with
 |true=>
  rw[o]at k;have h:u.frozen? p=Ã:=by simpa using k
  have:=W9 l s o;simp only[h];cases v:c.size with
  |zero=>exact absurd v this
  |succ n=>rfl
 |false=>
  cases h:u.frozen? p with
  |true=>
   have:=W9 m t h;cases v:d.size with
   |zero=>exact absurd v this
   |succ n=>rfl
  |false=>rfl
def Xa(h:yy u a.block)(b:Array ý):(aY a).runT P u b=(ĥ () u,b):=by let⟨c,e,f,d,g⟩:=h;unfold aY di;show é P (ç (ç _ _) _) u b=_;rw[Ñ,Ñ,JA d];rfl
def Xb(e:yy u a.block)(f:yy u p.block)(c:Array ý):(Ŭ a p).runT P u c= if(a.block==p.block)=É then(ĥ (a==p) u,c)else if(u.frozen? a&&u.frozen? p)=É then(bV (ŀ .addressObserved) u,c)else(ĥ Ã u,c):=by
 unfold Ŭ;by_cases h:(a.block==p.block)=É
 .simp_all
 .rw[if_neg h,if_neg h];show é P (ç _ _) u c=_;rw[Ñ,Jz];simp only[];show é P (ç _ _) u c=_;rw[Ñ,Jz];simp only[];by_cases d:(u.frozen? a&&u.frozen? p)=É
  .simp_all
  .rw[if_neg d,if_neg d];show é P (ç _ _) u c=_;rw[Ñ,Xa e];simp only[];show é P (ç _ _) u c=_;rw[Ñ,Xa f];simp only[];show é P (ç _ _) u c=_;rw[Ñ,af6 e f (by simpa using d)];rfl
end
section
variable{Y:fu}{g:Nat->Prop}{j:à->Prop}
def af7{d:dG}(h:P.underlying t=À d)(u:Æ)(a:Array ý):(ø t).runT P u a=(ĥ d u,a):=by unfold ø;simp_all
theorem af8(h:P.info? t=À zJ)(u:Æ)(a:Array ý):(ay t).runT P u a=(ĥ zJ.size u,a):=by
 unfold ay;show é P (ç _ _) u a=_;rw[Ñ];have:(Δ t).runT P u a=(ĥ zJ u,a):=by unfold Δ;simp_all
 rw[this];rfl
theorem Xc(h:P.underlying t=À (ð e))(d:P.info? e=À zJ)(f:zJ.size≠0)(a b:Ú)(u:Æ)(c:Array ý):(ó t (Þ<|À a)<|Þ<|À b).runT P u c=(Ŭ a b).runT P u c:=by unfold ó ā Λ;show é P (ç _ _) u c=_;rw[Ñ,af7 h];simp only[];show é P (ç _ _) u c=_;grind [Ñ,af8]
def iz(a:ġ)(r:Bool):Bool:=if a=aA then r else !r
def Xd{d:ġ}(k:d=aA\/d=aL)(h:P.underlying t=À (ð e))(g:P.info? e=À zJ)(j:zJ.size≠0)(x y:Ö)(a b:Ú)(u:Æ)(c:Array ý): ((ŷ d t x y (Þ<|À a) (Þ<|À b)>>=λ_=>Ũ d t (Þ<|À a)<|Þ<|À b)>>=λv=>pure (ï v):ē Ο).runT P u c= match(Ŭ a b).runT P u c with
 |(ĥ r u',f)=>(ĥ (ï<|Ľ<|iz d r) u',f)
 |(bV z u',f)=>(bV z u',f):=by
 rcases k with rfl|rfl
 .show é P (ç (ç (ó t (Þ<|À a)<|Þ<|À b) λr=>aI<|Ľ r) λv=>aI<|ï v) u c=_;rw[Ñ,Ñ,Xc h g j];cases(Ŭ a b).runT P u c with
  |mk r f=>cases r<;>rfl
 .show é P (ç (ç (ó t (Þ<|À a)<|Þ<|À b) λr=>aI<|Ľ !r) λv=>aI<|ï v) u c=_;rw[Ñ,Ñ,Xc h g j];cases(Ŭ a b).runT P u c with
  |mk r f=>cases r<;>rfl
theorem af9{m:ġ}{r:Á}{y:Ö}(E:o.op=dU m t qQ y r)(H:m=aA\/m=aL)(h:P.underlying t=À (ð e))(T:P.info? e=À zJ)(V:zJ.size≠0)(I:∀z∈o.op.operands,mD X z):mR P X j o:=by
 have J:∀B:Ö->Â,ì B o=((ŷ m t qQ y (B qQ) (B y)>>=λ_=>Ũ m t (B qQ)<|B y)>>=λv=>pure<|ï v):=by intro B;unfold ì;rw[E]
 have W:∀(a:bF) (u:Æ) (n:Ο) (s:Æ),(ì a.eval o).run P u=ĥ n s->∃v,n=ï v:=by
  intro a u n s k;rw[J,Ä]at k;cases C:(ŷ m t qQ y (a.eval qQ) (a.eval y)>>=λ_=>Ũ m t (a.eval qQ)<|a.eval y).run P u with
  |ok v w=>rw[C]at k;cases k;exact⟨v,U⟩
  |halt z w=>rw[C]at k;cases k
 refine⟨?_,λa=> ?_,λa u n s k=>Ç<|W a u n s k,λa u f c s k=>by let⟨v,e⟩:=W a u _ s k;cases e⟩
 .intro Y g D Xe u w K hb L M p hl z s k hc;have N:=wR L M (I qQ<|by rw[E];simp[Ê]);have O:=wR L M (I y<|by rw[E];simp[Ê]);by_cases Q:nk (å ⟨D,[]⟩ qQ)\/nk (å ⟨D,[]⟩ y)
  .have hOk:km P (å ⟨D,[]⟩) o.op:=by
    rw[E];exact .C0 m t qQ y r λ_=>Î ⟨⟨e,h⟩,Q⟩
   exact(Vt K p.C hb (λf=>rfl) hOk λz K=>wR L M<|I z K).gf p hl k hc #[]
  .have n1:=λq=>Q<|Ç q;have n2:=λq=>Q<|Î q;rw[J]at k|-;generalize å ⟨D,[]⟩ qQ=v at N k n1;generalize å ⟨Xe,[]⟩ qQ=v' at N|-;generalize å ⟨D,[]⟩ y=l at O k n2;generalize å ⟨Xe,[]⟩ y=l' at O|-;cases N<;>first|exact absurd trivial n1|skip
   cases O<;>first|exact absurd trivial n2|skip
   rename_i a a' F b b' G;have fit:∀{c S:Ú},ia Y c S->yy u c.block/\yy w S.block:=by intro c S hcc;let⟨d,d',e2,fr,wB,hu,hw,sR,pZ,Oe,hfr⟩:=p.r _ _ hcc.1;refine⟨⟨d,e2,fr,hu,hfr⟩,d',e2,wB,hw,?_⟩;refine õ ?_ sR.I;grind
   let⟨fa,fa'⟩:=fit F;let⟨fb,fb'⟩:=fit G;rw[<-Ρ P _ u #[],Xd H h T V,Xb fa fb]at k;rw[Xd H h T V,Xb fa' fb'];rw[<-(I8 p.C F G),<-(Ve p.C F G)];by_cases q:(a.block==b.block)=É
   .rw[if_pos q]at k|-;cases k;exact⟨Y,_,w,#[],fu.M _,λ_ _ q=>Ç q,U,.nU (.mC _),p,nS.fX _ _ _,λ_ C=>absurd C fq,ß _⟩
   .rw[if_neg q]at k|-;by_cases q2:(u.frozen? a&&u.frozen? b)=É
    .grind
    .rw[if_neg q2]at k;have q3:¬(w.frozen? a'&&w.frozen? b')=É:=by
      intro q4;let⟨z1,z2⟩:=Ü.1 q4;exact q2<|Ü.2 ⟨p.G F z1,p.G G z2⟩
     rw[if_neg q3];cases k;exact⟨Y,_,w,#[],fu.M _,λ_ _ q=>Ç q,U,.nU (.mC _),p,nS.fX _ _ _,λ_ C=>absurd C fq,ß _⟩
 .rw[J];exact lU<|gw (Wm m t (λ_=>Î ⟨e,h⟩) qQ y _ _) λ_=>af5 H h _ _
end
def Og(P:Õ)(s d:Á):Bool:=match P.underlying s,P.underlying d with
 |some (dh e),À ę=>(match P.underlying e with|some (Β .u8)=>É|_=>Ã)
 |some (ð _),À đ=>É
 |some đ,À (ð _)=>É
 |_,_=>Ã
def Oh(P:Õ)(t:Á):Bool:=match P.underlying t with
 |some (ð e)=>(match P.info? e with|some i=>i.size !=0|none=>Ã)
 |_=>Ã
def Oi(P:Õ)(b:à->Bool)(c:Callee)(a:List Ö)(d:List Á):Bool:=match c with
 |ĝ .min=>a.length !=0
 |ĝ bl=>a.length==1
 |ĝ cV=>a.length==2&&(match d with|[t,_]=>Jy P t|_=>Ã)
 |cj (aO f)=>b f&&a.length==1
 |_=>Ã
def Oj(P:Õ)(a:à->Bool):Op->Bool
 |cI _ _|.panic _=>É
 |dU c t _ _ _=>(c==aA||c==aL)&&Oh P t
 |aN s d _=>Og P s d
 |Ω c=>Oi P a c.callee c.args.toList c.argTypes.toList
 |_=>Ã
def Da(P:Õ)(a:Nat->Bool)(b c:à->Bool)(o:av):Bool:=Ob P a b o||(Oj P c o.op&&o.op.operands.all (wU a))
def F4(P:Õ)(c:à->Bool):Prop:=∀f,c f=É->∃a e,P.funcs[f]?=À a/\(a.name== "runtime.NumGoroutine")=Ã/\a.body.isNone=É/\Extern.findNext a=ë/\Extern.find a=À e/\
 (∀(Y:fu) (v b:Â),fp Y v b->fI P fp Y (e #[v]) (e #[b]))/\∀v,fF P<|e #[v]
theorem JB[Ap P]{g:Nat->Bool}{k x:à->Bool}(C:F4 P x)(h:Da P g k x o=É):mR P (λj=>g j=É) (λf=>k f=É) o:=by
 rcases Ŝ.1 h with h|h
 .exact afn h
 .let⟨v,S⟩:=Ü.1 h;have q:∀z∈o.op.operands,mD (λj=>g j=É) z:=by
   grind [ŉ,Jv,Ń]
  cases n:o.op with
  |makeInterface t y=>exact afo n q
  |panic y=>exact afr n q
  |binOp w t a b r=>
   rw[n]at v;let⟨T,m⟩:=Ü.1 (show((w==aA||w==aL)&&Oh P t)=É from v);have D:w=aA\/w=aL:=by grind
   unfold Oh at m;split at m
   .rename_i e E;split at m
    .rename_i i F;exact af9 n D E F (by simpa using m) q
    .cases m
   .cases m
  |convert s d y=>
   rw[n]at v;have m:Og P s d=É:=v;unfold Og at m;split at m
   .rename_i e u p;split at m
    .rename_i G;exact afC n u p G q
    .cases m
   .rename_i t u p;exact WU n (Ç ⟨u,p⟩) q
   .rename_i t u p;exact WU n (Î ⟨u,p⟩) q
   .cases m
  |call c=>
   rw[n]at v;let⟨H,I,B⟩:=c;have m:Oi P x H I.toList B.toList=É:=v;unfold Oi at m;split at m
   .exact afy n q
   .obtain⟨y,rfl⟩:=Jx m;exact afK n q
   .let⟨u,p⟩:=Ü.1 m;obtain⟨y,z,rfl⟩:=Oa u;let⟨l⟩:=B;match l,p with
    |[t1,t2],p=>exact af0 n p q
   .rename_i f;let⟨u,p⟩:=Ü.1 m;obtain⟨y,rfl⟩:=Jx p;let⟨V,e,J,K,L,M,N,O,Q⟩:=C f u;exact afD n J K L M N O Q q
   .cases m
  |_=>rw[n]at v;simp[Oj]at v
def nX(P:Õ)(a:Nat->Bool)(b d:à->Bool):ak->Bool
 |.ret|eR|eb _|eT _|eU _=>É
 |.seq x y=>nX P a b d x&&nX P a b d y
 |bz c x y=>wU a c&&nX P a b d x&&nX P a b d y
 |ec _ c|eS c|ef c=>nX P a b d c
 |bQ _ c _=>c.all<|Da P a b d
 |dt _=>É
 |_=>Ã
def vu[Ap P]{g:Nat->Bool}{k x:à->Bool}(a:F4 P x):∀{c:ak},nX P g k x c=É->kO P (λj=>g j=É) (λf=>k f=É) c
 |.ret,_=> .vo
 |eR,_=> .sL
 |eb l,_=> .wH l
 |eT l,_=> .wM l
 |eU l,_=> .wN l
 |.seq y z,h=>by let⟨f,i⟩:=Ü.1 (show(nX P g k x y&&nX P g k x z)=É from h);exact .rB (vu a f) (vu a i)
 |bz c y z,h=>by let⟨f,i⟩:=Ü.1 (show(wU g c&&nX P g k x y&&nX P g k x z)=É from h);let⟨j,f⟩:=Ü.1 f;exact .tO (Jv j) (vu a f) (vu a i)
 |ec id c,h=> .rC id (vu a<|show nX P g k x c=É from h)
 |eS c,h=> .wI (vu a<|show nX P g k x c=É from h)
 |ef c,h=> .wL (vu a<|show nX P g k x c=É from h)
 |bQ id ops d,h=> .tP id d λo f=>by obtain⟨i,j,rfl⟩:=ŉ.1 f;exact JB a<|Ń.1 (show ops.all (Da P g k x)=É from h) i j
 |.rangeFunc _ _ _ _,h=>by simp[nX]at h
 |dt w,_=> .nV w
end Go.Proofs.Y.Lift
namespace Go.Proofs.Y.fy
open Go Go.Conc Go.Proofs.Y.Lift
def qH(t:ğ)(g:Nat)(l:dS):Prop:=∀p a,Ě t p=À a->a.loc=l->bD t g p
def pv(t:ğ)(g:Nat)(l:dS):Prop:=∀p a,Ě t p=À a->a.loc=l->a.write=É->bD t g p
def qH.r{t:ğ}{l:dS}(h:qH t i l):pv t i l:=λp a b c _=>h p a b c
section
variable{t u:ğ}{g:Nat}{l:dS}
theorem mU{a:dN}(h:Ě (t++u) i=À a):(i<t.size/\Ě t i=À a)\/(t.size<=i/\∃x∈u,x.act.touch?=À a/\(t++u)[i]?=À x):=by
 let⟨x,c,d⟩:=dO h;rcases getElem?_append_cases c with⟨b,e⟩|⟨b,f⟩
 .exact Ç ⟨b,by rwa[touchAt_of e]⟩
 .grind
theorem qH.C(h:qH t g l)(j:∀c∈u,∀b,c.act.touch?=À b->b.loc=l->c.g=g):qH (t++u) g l:=by
 intro p a e f;rcases mU e with⟨_,d⟩|⟨_,c,d,k,i⟩
 .exact(h p a d f).app u
 .have:=bn i;grind
theorem pv.r(h:pv t g l)(k:∀c∈u,∀b,c.act.touch?=À b->b.loc=l->b.write=É->c.g=g):pv (t++u) g l:=by
 intro p a e f i;rcases mU e with⟨_,d⟩|⟨_,c,d,m,j⟩
 .exact(h p a d f i).app u
 .have:=bn j;grind
def qH.vj(h:∀p a,Ě t p=À a->a.loc≠l):qH t g l:=λp a b c=>absurd c<|h p a b
theorem Ol(h:∀c,¬eG c t)(l:∀d∈u,d.g=g)(m:∀d∈u,∀b,d.act.touch?=À b->(b.write=Ã/\pv t g b.loc)\/qH t g b.loc\/(b.kind=Ŕ/\∀p a,Ě t p=À a->a.loc=b.loc->a.kind=eZ->bD t g p)):∀c,¬eG c (t++u):=by
 intro c;refine noRace_append (h c) l λi a f d n b o r=> ?_;let⟨j,v,e,w⟩:=r;rcases m d n b o with⟨s,k⟩|q|⟨s,k⟩
 .rcases e with e|e
  .exact k i a f j e
  .grind
 .exact q i a f j
 .grind
theorem AH(f:∀c,¬eG c t)(r:∀d∈u,d.act.touch?=ë):∀c,¬eG c (t++u):=by
 intro c;rintro⟨i,j,g,⟨a,b,h,k,l⟩,m,n⟩;rcases mU k with⟨s,e⟩|⟨_,d,e,v,_⟩
 .rcases mU h with⟨o,p⟩|⟨o,_⟩
  .exact f c ⟨i,j,g,⟨a,b,p,e,l⟩,λq=>m<|ei u q,λq=>n<|ei u q⟩
  .omega
 .grind
end
structure ff where
 O:Nat->Prop
 I:Nat->Prop
 r:Ú->Prop
 N:Ú->Prop
 K:Ú->Prop
 d:Nat
 q:Prop
 w:Æ
def ff.M(l:ff):Nat->Prop:=λj=>l.O j\/l.I j
def ff.C(l:ff):Ú->Prop:=λa=>l.r a\/l.N a
structure fJ(l:ff)(w w₁:Æ):Prop where
 r:w.heap.size<=w₁.heap.size
 I:∀j,l.M j->w₁.heap[j]?=w.heap[j]?
 N:∀a,l.C a->w₁.cell? a=w.cell? a
 Y:∀a,l.C a->w₁.frozen? a=w.frozen? a
 S:∀a,l.K a->(w.cell? a).isSome=É->(w₁.cell? a).isSome=É
theorem fJ.fX(l:ff)(w:Æ):fJ l w w:=⟨ß _,λ_ _=>rfl,λ_ _=>rfl,λ_ _=>rfl,λ_ _ h=>h⟩
def fJ.fh{l:ff}{c:Æ}(h:fJ l w u)(k:fJ l u c):fJ l w c:= ⟨õ h.r k.r,λj d=>(k.I j d).trans<|h.I j d,λj d=>(k.N j d).trans<|h.N j d,λj d=>(k.Y j d).trans<|h.Y j d,λw e q=>k.S w e<|h.S w e q⟩
def kX(w:Æ)(b:Nat):Option (Nat×Nat):=match w.heap[b]? with
 |some (Č _ _ fr)=>À fr
 |_=>ë
def wV{w':Æ}(h:w'.heap[b]?=w.heap[b]?):kX w' b=kX w b:=by unfold kX;rw[h]
theorem Xf(w:Æ)(a:Ú):w.frozen? a=match kX w a.block with
 |some (lo,hi)=>decide (lo<=a.off)&&decide (a.off<hi)
 |none=>Ã:=by
 unfold Ĉ kX;grind
def JC(h:kX u a.block=kX w a.block):u.frozen? a=w.frozen? a:=by rw[Xf,Xf,h]
def yz(l:ff)(e:ý):Prop:=
 (∃a:Ú,e.loc=û a/\(l.O a.block\/l.r a\/((l.I a.block\/l.N a)/\e.write=Ã/\e.sync=Ã)))\/e.loc=ů da\/(∃f,e.loc=ů (.extern f))\/e.loc=ů cK\/e.loc=ů dy\/
 ∃a:Ú,l.O a.block/\(e.loc=ů (.read a)\/e.loc=ů (.write a)\/e.loc=ů (Ķ a)\/e.loc=ů (cL a))
structure mE(l l':ff)(w w':Æ)(es:Array ý):Prop where
 C:w.heap.size<=w'.heap.size
 S:∀j,l'.O j->l.O j\/w.heap.size<=j
 fw:∀j,l'.O j->j<w'.heap.size
 I:l'.I=l.I
 r:l'.r=l.r
 M:l'.N=l.N
 k:l'.K=l.K
 jZ:∀j,j<w.heap.size->¬l.O j->(∀a:Ú,a.block=j->¬l.r a)->w'.heap[j]?=w.heap[j]?
 N:∀a:Ú,a.block<w.heap.size->¬l.O a.block->¬l.r a->w'.cell? a=w.cell? a
 Y:∀a:Ú,a.block<w.heap.size->¬l.O a.block->kX w' a.block=kX w a.block
 f:w'.os=w.os
 g:w'.output=w.output
 m:w'.tape=w.tape
 c:∀e∈es,yz l' e
 h:l'.d=ŭ l.d es
 q:l'.q=l.q
 i:l.q->w'=w/\(∀e∈es,e.mute=É)/\l'.O=l.O
 b:l'.w=w'
structure Om(t:ğ)(g:Nat)(l:ff):Prop where
 ft:∀a:Ú,l.O a.block->qH t g (û a)
 C:∀a:Ú,l.I a.block->pv t g (û a)
 I:∀a:Ú,l.r a->qH t g (û a)
 r:∀a:Ú,l.N a->pv t g (û a)
theorem Xg{l:ff}{e:ý}(h:yz l e){b:dN}(c:(è e).touch?=À b):∃a:Ú,b.loc=û a/\(l.O a.block\/l.r a\/((l.I a.block\/l.N a)/\b.write=Ã)):=by
 let⟨k,i,j⟩:=e;rcases h with⟨a,g,d⟩|h|⟨f,h⟩|h|h|⟨a,g,d⟩
 .simp only at g d;subst g;have:(è ⟨û a,i,j⟩).touch?=À ⟨û a,i,if j then Ŕ else eZ⟩:=U;grind
 .simp only at h;subst h;simp[è,ÿ]at c
 .simp only at h;subst h;simp[è,ÿ]at c
 .simp only at h;subst h;simp[è,ÿ]at c
 .simp only at h;subst h;simp[è,ÿ]at c
 .simp only at d;rcases d with rfl|rfl|rfl|rfl<;>simp[è,ÿ]at c<;>subst c;all_goals grind
def aga{l:ff}(d:∀j,l.O j->j<i)(k:∀j,l.I j->j<i)(g:∀a:Ú,l.C a->a.block<i){e:ý}(h:yz l e):(è e).low i:=by
 let⟨m,n,o⟩:=e;rcases h with⟨a,c,b⟩|h|⟨f,h⟩|h|h|⟨a,c,b⟩
 .simp only at c b;subst c;rcases b with h|h|⟨h|h,_⟩
  .exact d _ h
  .exact g _<|Ç h
  .exact k _ h
  .exact g _<|Î h
 .simp only at h;subst h;trivial
 .simp only at h;subst h;trivial
 .simp only at h;subst h;trivial
 .simp only at h;subst h;trivial
 .simp only at b;rcases b with rfl|rfl|rfl|rfl<;>exact d _ c
def Xh(B:Nat)(t:ğ):Prop:=∀a∈t,a.act.low B
def Xi(h:Xh i qJ){a:dN}(g:Ě qJ n=À a){x:Ú}(d:a.loc=û x):x.block<i:=by
 let⟨f,j,b⟩:=dO g;have c:=h f<|Û j;revert b c;cases f.act with
 |access e=>
  intro b c;simp only[ÿ,ž]at b;subst b;simp only at d;simp only[MemAct.low,d,Loc.low]at c;exact c
 |mark m=>
  intro b c;cases m<;>simp[ÿ]at b;all_goals
   subst b;simp only[Loc.cell.injEq]at d;subst d;exact c
 |_=>intro b _;simp[ÿ]at b
theorem ow{a:String}:∀op∈Í i F a V,op.g=i:=λop b=>by obtain⟨e,_,rfl⟩:=í (op:=op) b;rfl
structure iT(B0:Nat)(Live:Nat->Prop)(Y:Nat->Prop)(lot:Nat->ff)(w:Æ)(t:ğ):Prop where
 o:∀i j,Live i->Live j->i≠j->∀b,(lot i).O b->¬(lot j).M b
 h:∀i j,Live i->Live j->i≠j->∀a,(lot i).r a->¬(lot j).C a
 m:∀i,Live i->∀b,(lot i).O b->¬(lot i).I b
 g:∀i,Live i->∀a,(lot i).r a->¬(lot i).N a
 I:∀i,Live i->∀b,(lot i).M b->¬Y b
 e:∀i,Live i->∀a,(lot i).C a->Y a.block
 fw:∀i,Live i->∀b,(lot i).M b->b<w.heap.size
 N:∀b,Y b->b<w.heap.size
 r:∀i,Live i->fJ (lot i) (lot i).w w
 S:∀i,Live i->Om t i (lot i)
 f:∀i,Live i->Τ t i=(lot i).d
 l:∀said,¬eG said t
 q:Xh w.heap.size t
 s:∀p a c,Ě t p=À a->a.loc=.obj c->a.kind=eZ->c<B0
 n:∀i,Live i->∀a,(lot i).K a->Y a.block/\∀k,Live k->¬(lot k).r a
def gA(lot:Nat->ff)(i:Nat)(l:ff):Nat->ff:=λk=>if k=i then l else lot k
theorem gV(a:Nat->ff)(i:Nat)(l:ff):gA a i l i=l:=if_pos U
theorem gI(a:Nat->ff)(l:ff)(h:k≠i):gA a i l k=a k:=if_neg h
section
variable{B0:Nat}{Live Y:Nat->Prop}{lot:Nat->ff}{w':Æ}{t u:ğ}
def On{g:Nat}(a:k≠g)(t:ğ){u:ğ}(b:∀c∈u,c.g=g):Τ (t++u) k=Τ t k:= Deaf_other t (g:=k) (g':=g) (ą a) _ b
def iT.at(h:iT B0 Live Y lot w t)(d:Nat):iT B0 Live Y lot (w.at d) t:= ⟨h.o,h.h,h.m,h.g,h.I,h.e,h.fw,h.N,λi a=>⟨(h.r i a).r,(h.r i a).I,(h.r i a).N,(h.r i a).Y,(h.r i a).S⟩,h.S,h.f,h.l,h.q,h.s,h.n⟩
def iT.agb(h:iT B0 Live Y lot w t)(r:Live i){s:ff}(l:mE (lot i) s w w' V)(E:à)(F:String): iT B0 Live Y (gA lot i s) w' (t++Í i E F V):=by
 have G:=l.S;have Q:∀b,s.M b->(lot i).M b\/w.heap.size<=b:=λb g=>g.elim (λq=>(G b q).imp Ç id) (λq=>Ç<|Î<|by rwa[<-l.I]);have J:∀a,s.C a↔(lot i).C a:=λa=>by unfold ff.C;rw[l.r,l.M]
 have I:=λk f a d=>h.N _<|h.e k f a d;have L:∀k,Live k->k≠i->∀b,(lot k).M b->¬s.O b:=by
  intro k f y b g c;rcases G b c with q|q
  .exact h.o i k r f (ą y) b q g
  .have:=h.fw k f b g;omega
 have H:∀m∈Í i E F V,∀b,m.act.touch?=À b->∃a:Ú,b.loc=û a/\(s.O a.block\/s.r a\/((s.I a.block\/s.N a)/\b.write=Ã)):=by intro m o b g;obtain⟨e,N,rfl⟩:=í o;exact Xg (l.c e N) g
 have T:∀a:Ú,s.O a.block->qH t i (û a):=by
  intro a d;rcases G _ d with q|q
  .exact(h.S i r).ft a q
  .exact .vj λp x P n=>by have:=Xi h.q P n;omega
 have D:Om t i s:=⟨T,λa d=>(h.S i r).C a (by rwa[<-l.I]),λa d=>(h.S i r).I a (by rwa[<-l.r]),λa d=>(h.S i r).r a<|by rwa[<-l.M]⟩;refine⟨?_,?_,?_,?_,?_,?_,?_,λb g=>Ô (h.N b g) l.C,?_,?_,?_,?_,?_,?_,?_⟩
 .intro k j f u y b g;by_cases c:k=i
  .subst c;rw[gV]at g;rw[gI lot _<|ą y];exact λq=>L j u (ą y) b q g
  .rw[gI lot _ c]at g;by_cases v:j=i
   .subst v;rw[gV];intro q;rcases Q b q with z|z
    .exact h.o k j f u y b g z
    .have:=h.fw k f b<|Ç g;omega
   .rw[gI lot _ v];exact h.o k j f u y b g
 .intro k j f u y a d;by_cases c:k=i
  .subst c;rw[gV,l.r]at d;rw[gI lot _<|ą y];exact h.h k j f u y a d
  .rw[gI lot _ c]at d;by_cases v:j=i
   .subst v;rw[gV,J];exact h.h k j f u y a d
   .rw[gI lot _ v];exact h.h k j f u y a d
 .intro k f b g;by_cases c:k=i
  .subst c;rw[gV]at g|-;rw[l.I];rcases G b g with z|z
   .exact h.m k f b z
   .intro q;have:=h.fw k f b<|Î q;omega
  .rw[gI lot _ c]at g|-;exact h.m k f b g
 .intro k f a d;by_cases c:k=i
  .subst c;rw[gV]at d|-;rw[l.M];rw[l.r]at d;exact h.g k f a d
  .rw[gI lot _ c]at d|-;exact h.g k f a d
 .intro k f b g;by_cases c:k=i
  .subst c;rw[gV]at g;rcases Q b g with z|z
   .exact h.I k f b z
   .intro y;have:=h.N b y;omega
  .rw[gI lot _ c]at g;exact h.I k f b g
 .intro k f a d;by_cases c:k=i
  .subst c;rw[gV,J]at d;exact h.e k f a d
  .rw[gI lot _ c]at d;exact h.e k f a d
 .intro k f b g;by_cases c:k=i
  .subst c;rw[gV]at g;exact g.elim (l.fw b) λq=>Ô (h.fw k f b<|Î<|by rwa[<-l.I]) l.C
  .rw[gI lot _ c]at g;exact Ô (h.fw k f b g) l.C
 .intro k f;by_cases c:k=i
  .subst c;rw[gV,l.b];exact fJ.fX _ _
  .rw[gI lot _ c];refine(h.r k f).fh ⟨l.C,λb g=>l.jZ b (h.fw k f b g) (λq=>h.o i k r f (ą c) b q g) (λa d q=>h.I k f b g<|by rw[<-d];exact h.e i r a<|Ç q),λa d=>l.N a (I k f a d) (λq=>h.I i r _ (Ç q)<|h.e k f a d) λq=>h.h i k r f (ą c) a q d,λa d=>JC (l.Y a (I k f a d) λq=>h.I i r _ (Ç q)<|h.e k f a d),λa d q=> ?_⟩;let⟨y,v⟩:=h.n k f a d;rwa[l.N a (h.N _ y) (λq=>h.I i r _ (Ç q) y)<|v i r]
 .intro k f;by_cases c:k=i
  .subst c;rw[gV];exact⟨λa d=>(D.ft a d).C λm o _ _ _=>ow m o,λa d=>(D.C a d).r λm o _ _ _ _=>ow m o,λa d=>(D.I a d).C λm o _ _ _=>ow m o,λa d=>(D.r a d).r λm o _ _ _ _=>ow m o⟩
  .rw[gI lot _ c];have W:∀a:Ú,(lot k).O a.block->∀m∈Í i E F V,∀b,m.act.touch?=À b->b.loc=û a->False:=by
    intro a d m o b g n;let⟨x,y,v⟩:=H m o b g;rw[y]at n;injection n with n;subst n;rcases v with q|q|⟨q|q,_⟩
    .exact L k f c _ (Ç d) q
    .exact h.I k f _ (Ç d)<|h.e i r x<|Ç<|by rwa[<-l.r]
    .exact h.o k i f r c _ d<|Î<|by rwa[<-l.I]
    .exact h.I k f _ (Ç d)<|h.e i r x<|Î<|by rwa[<-l.M]
   have X:∀a:Ú,(lot k).I a.block->∀m∈Í i E F V,∀b,m.act.touch?=À b->b.loc=û a->b.write=É->False:=by
    intro a d m o b g n B;let⟨x,y,v⟩:=H m o b g;rw[y]at n;injection n with n;subst n;rcases v with q|q|⟨_,q⟩
    .exact L k f c _ (Î d) q
    .exact h.I k f _ (Î d)<|h.e i r x<|Ç<|by rwa[<-l.r]
    .rw[q]at B;cases B
   have S:∀a:Ú,(lot k).C a->∀m∈Í i E F V,∀b,m.act.touch?=À b->b.loc=û a->(s.I a.block\/s.N a)/\b.write=Ã:=by
    intro a d m o b g n;let⟨x,y,v⟩:=H m o b g;rw[y]at n;injection n with n;subst n;rcases v with q|q|q
    .exfalso;rcases G _ q with z|z
     .exact h.I i r _ (Ç z)<|h.e k f x d
     .have:=I k f x d;omega
    .exact absurd d<|h.h i k r f (ą c) x<|by rwa[<-l.r]
    .exact q
   refine⟨λa d=>((h.S k f).ft a d).C λm o b g n=>(W a d m o b g n).elim,λa d=>((h.S k f).C a d).r λm o b g n B=>(X a d m o b g n B).elim,λa d=>((h.S k f).I a d).C λm o b g n=> ?_,λa d=>((h.S k f).r a d).r λm o b g n B=> ?_⟩
   .exfalso;obtain⟨q|q,_⟩:=S a (Ç d) m o b g n
    .exact h.I i r _ (Î<|by rwa[<-l.I])<|h.e k f a<|Ç d
    .exact h.h k i f r c a d<|Î<|by rwa[<-l.M]
   .have:=(S a (Î d) m o b g n).2;rw[this]at B;cases B
 .intro k f;by_cases c:k=i
  .subst c;rw[gV,l.h,Deaf_own,h.f k f]
  .rw[gI lot _ c,On c t ow];exact h.f k f
 .refine Ol h.l ow λm o b g=> ?_;let⟨a,y,v⟩:=H m o b g;rw[y];rcases v with q|q|⟨q,B⟩
  .exact Î<|Ç<|D.ft a q
  .exact Î<|Ç<|D.I a q
  .exact Ç ⟨B,q.elim (D.C a)<|D.r a⟩
 .intro m o;rcases Ĝ.1 o with q|q
  .exact MemAct.low_mono l.C<|h.q m q
  .obtain⟨e,N,rfl⟩:=í q;refine aga l.fw (λj u=>Ô (h.fw i r j<|Î<|by rwa[<-l.I]) l.C) (λa d=> ?_)<|l.c e N;rw[J]at d;exact Ô (I i r a d) l.C
 .intro p a c d n f;rcases mU d with⟨_,y⟩|⟨_,m,y,v,_⟩
  .exact h.s p a c y n f
  .let⟨x,P,_⟩:=H m y a v;rw[P]at n;cases n
 .intro k f a d;have y:∀j,(gA lot i s j).r=(lot j).r:=λj=>by
   by_cases e:j=i
   .subst e;rw[gV,l.r]
   .rw[gI lot _ e]
  have c:(gA lot i s k).K=(lot k).K:=by
   by_cases e:k=i
   .subst e;rw[gV,l.k]
   .rw[gI lot _ e]
  rw[c]at d;exact⟨(h.n k f a d).1,λj u=>by rw[y];exact(h.n k f a d).2 j u⟩
end
def F5(Live Y:Nat->Prop)(d:Nat->ff)(b:dN):Prop:=(∃a:Ú,b.loc=û a/\Y a.block/\∀k,Live k->¬(d k).C a)\/∃c,b.loc=.obj c/\Y c/\b.kind=Ŕ
structure p6(Live Y:Nat->Prop)(lot:Nat->ff)(w w':Æ):Prop where
 r:w'.heap.size=w.heap.size
 jZ:∀j,¬Y j->w'.heap[j]?=w.heap[j]?
 M:∀k,Live k->∀a,(lot k).C a->w'.cell? a=w.cell? a
 N:∀k,Live k->∀a,(lot k).C a->w'.frozen? a=w.frozen? a
 I:∀a,(w.cell? a).isSome=É->(w'.cell? a).isSome=É
theorem p6.fX(Live Y:Nat->Prop)(a:Nat->ff)(w:Æ):p6 Live Y a w w:=⟨U,λ_ _=>rfl,λ_ _ _ _=>rfl,λ_ _ _ _=>rfl,λ_ h=>h⟩
structure vv(w':Æ)(l l':ff):Prop where
 O:l'.O=l.O
 N:l'.I=l.I
 r:l'.r=l.r
 I:l'.N=l.N
 K:l'.K=l.K
 w:l'.w=l.w\/l'.w=w'
theorem vv.fX(w':Æ)(l:ff):vv w' l l:=⟨U,U,U,U,U,Ç U⟩
def vv.M{w':Æ}{l a:ff}(h:vv w' l a):a.M=l.M:=by unfold ff.M;rw[h.O,h.N]
def vv.C{w':Æ}{l a:ff}(h:vv w' l a):a.C=l.C:=by unfold ff.C;rw[h.r,h.I]
def fJ.agc{l c:ff}(h:vv w l c)(r:fJ l u W):fJ c u W:= ⟨r.r,by rw[h.M];exact r.I,by rw[h.C];exact r.N,by rw[h.C];exact r.Y,by rw[h.K];exact r.S⟩
section
variable{Live Y:Nat->Prop}{lot o:Nat->ff}{w':Æ}{t u:ğ}
def iT.G(h:iT n Live Y lot w t)(m:∀k,vv w' (lot k)<|o k)(s:p6 Live Y lot w w')(B:∀l∈u,∀b,l.act.touch?=À b->F5 Live Y lot b)(g:∀l∈u,l.act.low w.heap.size)(E:∀F,¬eG F (t++u))(G:∀k,Live k->Τ (t++u) k=(o k).d):iT n Live Y o w' (t++u) where
 o i j hi v lF b q:=by rw[(m j).M];exact h.o i j hi v lF b<|by rwa[<-(m i).O]
 h i j hi v lF a f:=by rw[(m j).C];exact h.h i j hi v lF a<|by rwa[<-(m i).r]
 m i hi b q:=by rw[(m i).N];exact h.m i hi b<|by rwa[<-(m i).O]
 g i hi a f:=by rw[(m i).I];exact h.g i hi a<|by rwa[<-(m i).r]
 I i hi b q:=h.I i hi b (by rwa[<-(m i).M]);e i hi a f:=h.e i hi a (by rwa[<-(m i).C]);fw i hi b q:=by rw[s.r];exact h.fw i hi b<|by rwa[<-(m i).M]
 N b q:=by rw[s.r];exact h.N b q
 r i hi:=by
  rcases(m i).w with e|e
  .rw[e];refine((h.r i hi).fh ⟨dz s.r.symm,λj v=>s.jZ j<|h.I i hi j v,λa f=>s.M i hi a f,λa f=>s.N i hi a f,λa _=>s.I a⟩).agc<|m i
  .rw[e];exact fJ.fX _ _
 S i hi:=by
  have z:∀a:Ú,(lot i).M a.block->∀l∈u,∀b,l.act.touch?=À b->b.loc=û a->False:=by
   intro a f l e b q g;rcases B l e b q with⟨x,r,y,_⟩|⟨c,r,_⟩
   .rw[r]at g;injection g with g;subst g;exact h.I i hi _ f y
   .rw[r]at g;cases g
  have D:∀a:Ú,(lot i).C a->∀l∈u,∀b,l.act.touch?=À b->b.loc=û a->False:=by
   intro a f l e b q g;rcases B l e b q with⟨x,r,_,y⟩|⟨c,r,_⟩
   .rw[r]at g;injection g with g;subst g;exact y i hi f
   .rw[r]at g;cases g
  exact⟨λa f=>((h.S i hi).ft a<|by rwa[<-(m i).O]).C λl e b q g=>(z a (Ç<|by rwa[<-(m i).O]) l e b q g).elim,λa f=>((h.S i hi).C a<|by rwa[<-(m i).N]).r λl e b q g _=>(z a (Î<|by rwa[<-(m i).N]) l e b q g).elim,λa f=>((h.S i hi).I a<|by rwa[<-(m i).r]).C λl e b q g=>(D a (Ç<|by rwa[<-(m i).r]) l e b q g).elim,λa f=>((h.S i hi).r a<|by rwa[<-(m i).I]).r λl e b q g _=>(D a (Î<|by rwa[<-(m i).I]) l e b q g).elim⟩
 f:=G;l:=E;q l e:=by rw[s.r];exact(Ĝ.1 e).elim (h.q l)<|g l
 s p a c f g z:=by
  rcases mU f with⟨_,r⟩|⟨_,l,r,y,_⟩
  .exact h.s p a c r g z
  .rcases B l r a y with⟨x,D,_⟩|⟨x,_,_,D⟩
   .rw[D]at g;cases g
   .rw[D]at z;cases z
 n i hi a f:=by rw[(m i).K]at f;exact⟨(h.n i hi a f).1,λk z=>by rw[(m k).r];exact(h.n i hi a f).2 k z⟩
end
structure gD(l:ff):Prop where
 c:∀b,l.O b->¬l.I b
 Y:∀a,l.r a->¬l.N a
 N:∀a,l.C a->¬l.M a.block
 fw:∀b,l.M b->b<l.w.heap.size
 I:∀a,l.C a->a.block<l.w.heap.size
 S:∀a,l.K a->¬l.M a.block/\a.block<l.w.heap.size/\¬l.r a
def iT.M{Live Y:Nat->Prop}{c:Nat->ff}(h:iT n Live Y c w qJ)(b:Live i):gD {c i with w:=w} where
 c:=h.m i b;Y:=h.g i b;N a ha hb:=h.I i b _ hb<|h.e i b a ha;fw:=h.fw i b;I a ha:=h.N _<|h.e i b a ha;S a ha:=⟨λq=>h.I i b _ q (h.n i b a ha).1,h.N _ (h.n i b a ha).1,(h.n i b a ha).2 i b⟩
abbrev Jd:=ff->Ó->Prop
inductive fl(P:Õ)(main:Bool)(Stop:Jd):Jd
 |fD {l:ff} {g:Ó} (h:∀w₁,fJ l l.w w₁->Stop {l with w:=w₁} g):fl P main Stop l g
 |jP {l:ff} {g:Ó} (G':Æ->Ó) (W':Æ->Æ) (E':Æ->Array ý) (L':Æ->ff) (iK:g.status=Ð)
  (h:∀w₁,fJ l l.w w₁->Ù P main g w₁=aS (G' w₁) (W' w₁) (E' w₁)) (hd:∀w₁,fJ l l.w w₁->mE l (L' w₁) w₁ (W' w₁) (E' w₁))
  (ih:∀w₁,fJ l l.w w₁->fl P main Stop (L' w₁) (G' w₁)):fl P main Stop l g
instance:Nonempty ff:=⟨⟨λ_=>False,λ_=>False,λ_=>False,λ_=>False,λ_=>False,0,False,default⟩⟩
instance:Nonempty (Goroutine×World×Array Event×ff):=⟨(default,default,#[],Classical.choice inferInstance)⟩
section
variable{main:Bool}{Stop m:Jd}
def fl.mk{l:ff}(i:g.status=Ð) (h:∀a,fJ l l.w a->∃b c d e,Ù P main g a=aS b c d/\mE l e a c d/\fl P main Stop e b):fl P main Stop l g:=by
 let p:=λ(a:Æ) (x:Goroutine×World×Array Event×ff)=>Ù P main g a=aS x.1 x.2.1 x.2.2.1/\mE l x.2.2.2 a x.2.1 x.2.2.1/\fl P main Stop x.2.2.2 x.1
 have f:∀a,fJ l l.w a->p a (Classical.epsilon<|p a):=λa r=>Classical.epsilon_spec (let⟨b,c,d,e,h⟩:=h a r;⟨(b,c,d,e),h⟩);exact .jP (λa=>(Classical.epsilon<|p a).1) (λa=>(Classical.epsilon<|p a).2.1) (λa=>(Classical.epsilon<|p a).2.2.1) (λa=>(Classical.epsilon<|p a).2.2.2) i (λa r=>(f a r).1) (λa r=>(f a r).2.1) λa r=>(f a r).2.2
def fl.jw{l:ff}{w₁:Æ}(h:fl P main Stop l g)(r:fJ l l.w w₁):fl P main Stop {l with w:=w₁} g:=by
 have e:∀{a b:Æ},fJ {l with w:=w₁} a b->fJ l a b:=λq=>⟨q.r,q.I,q.N,q.Y,q.S⟩;cases h with
 |fD h=>exact .fD λc d=>h c<|r.fh<|e d
 |jP f i j m n h o p=>
  exact .jP f i j m n (λc d=>h c<|r.fh<|e d) (λc d=>let q:=o c<|r.fh<|e d;⟨q.C,q.S,q.fw,q.I,q.r,q.M,q.k,q.jZ,q.N,q.Y,q.f,q.g,q.m,q.c,q.h,q.q,q.i,q.b⟩) λc d=>p c<|r.fh<|e d
def fl.fQ(a:∀l g,Stop l g->m l g){l:ff}(h:fl P main Stop l g):fl P main m l g:=by
 induction h with
 |fD h=>exact .fD λb r=>a _ _<|h b r
 |jP b r c d e h f _ i=>exact .jP b r c d e h f i
def fl.fh{l:ff}(h:fl P main (fl P main Stop) l g):fl P main Stop l g:=by
 induction h with
 |fD h=>exact h _<|fJ.fX _ _
 |jP a b c d e h f _ i=>exact .jP a b c d e h f i
def fl.lS(a:∀l g,Stop l g->fl P main m l g){l:ff}(h:fl P main Stop l g):fl P main m l g:=(h.fQ a).fh
end
inductive gB where
 |fD:gB
 |jP (k:Æ->gB):gB
def Xj(x:gB):gB->Prop
 |.fD=>False
 |.jP k=>∃w,x=k w
def Xk:WellFounded Xj:=⟨λa=>by
 induction a with
 |fD=>exact⟨_,λy h=>h.elim⟩
 |jP k b=>exact⟨_,λy ⟨w,h⟩=>h▸b w⟩⟩
def lj(P:Õ)(b:Bool)(c:Jd):gB->Jd
 |.fD,l,g=>∀a,fJ l l.w a->c {l with w:=a} g
 |.jP k,l,g=>g.status=Ð/\∀a,fJ l l.w a->∃d e f h,Ù P b g a=aS d e f/\mE l h a e f/\lj P b c (k a) h d
section
variable{main:Bool}{Stop:Jd}
theorem jl{l:ff}(h:fl P main Stop l g):∃tr,lj P main Stop tr l g:=by
 induction h with
 |fD h=>exact⟨.fD,h⟩
 |@jP l g G' W' E' L' iK h hd _ ih=>
  have b:∀a,∃tr,fJ l l.w a->lj P main Stop tr (L' a) (G' a):=by
   intro a;by_cases r:fJ l l.w a
   .grind
   .exact⟨.fD,λq=>absurd q r⟩
  refine⟨.jP λa=>Classical.choose<|b a,iK,λa r=>⟨G' a,W' a,E' a,L' a,h a r,hd a r,Classical.choose_spec (b a) r⟩⟩
end
theorem agd{l:ff}{b:Nat->Prop}(d:∀j,X j->l.O j)(f:∀j,b j->l.I j){e:ý}(h:Jq X b e):yz l e:=by
 rcases h with⟨a,c,g,i⟩|h|h
 .refine Ç ⟨a,c,?_⟩;grind
 .exact Î<|Ç h
 .exact Î<|Î<|Ç h
theorem agf{b:Nat->Prop}(h:∀e∈V,Jq X b e)(d:Nat):ŭ d V=d:=by refine bq (λe c=> ?_) d;rcases h e c with⟨a,g,_⟩|h|⟨f,h⟩;all_goals grind
theorem gN{w':Æ}(h:w'.heap[a.block]?=w.heap[a.block]?):w'.cell? a=w.cell? a:=by unfold Ġ;rw[h]
def wW(h:u.heap[a.block]?=w.heap[a.block]?):u.frozen? a=w.frozen? a:=by unfold Ĉ;rw[h]
def agh{t:(Nat->Prop)->Ó->Æ->Prop}{O:Nat->Prop}(h:vq P yQ X t O g w):∀l:ff,l.w=w->(∀j,O j->l.O j)->(∀j,X j->l.I j)->(∀j,l.O j->j<w.heap.size)->¬l.q-> fl P yQ (λa b=>∃f,t f b a.w/\(∀j,O j->f j)/\(∀j,f j->a.O j)/\(∀j,l.O j->a.O j)/\(∀j,a.O j->l.O j\/f j)/\(∀j,a.O j->l.O j\/w.heap.size<=j)/\a.I=l.I/\a.r=l.r/\a.N=l.N/\a.d=l.d/\a.q=l.q/\a.K=l.K) l g:=by
 induction h with
 |@fD O g w h=>
  intro l e i m _ _;refine .fD λb r=>⟨O,h b ⟨by rw[<-e];exact r.r,λj c=>by rw[r.I j (c.elim (λq=>Ç<|i j q) λq=>Î<|m j q),e]⟩,λ_ q=>q,i,λ_ q=>q,λ_ q=>Ç q,λ_ q=>Ç q,U,U,U,U,U,U⟩
 |@jP O g w G' W' E' f iK h hd _ ih=>
  intro l e i m C u;refine .mk iK λb r=> ?_;have n:yu (λj=>O j\/X j) w b:=⟨by rw[<-e];exact r.r,λj c=>by rw[r.I j (c.elim (λq=>Ç<|i j q) λq=>Î<|m j q),e]⟩;have D:=hd b n;have o:=n.r;have v:∀j,(l.O j\/f b j)->j<(W' b).heap.size:=λj c=>c.elim (λq=>Ô (C j q)<|õ o D.r)<|D.fw j;have p:∀j,j<b.heap.size->¬l.O j->(W' b).heap[j]?=b.heap[j]?:=λj c k=>D.jZ j c λq=>k<|i j q;refine⟨G' b,W' b,E' b,{l with O:=λj=>l.O j\/f b j,w:=W' b},h b n,⟨D.r,λj c=>c.elim Ç λq=>(D.I j q).imp (i j) id,v,U,U,U,U,λj c k _=>p j c k,λa s k _=>gN<|p _ s k,λa s k=>wV<|p _ s k,D.N,D.S,D.Y,λx E=>agd (l:={l with O:=λj=>l.O j\/f b j,w:=W' b}) (λj q=>Î q) m<|D.C x E,(agf D.C _).symm,U,λq=>absurd q u,U⟩,?_⟩;have:=ih b n {l with O:=λj=>l.O j\/f b j,w:=W' b} U (λj q=>Î q) m v u;apply this.fQ;rintro N Q ⟨F,G,B,H,I,J,L,M⟩;refine⟨F,G,λj q=>B j<|D.M j q,H,λj q=>I j<|Ç q,λj q=> ?_,λj q=> ?_,M⟩
  .rcases J j q with(z|z)|z
   .exact Ç z
   .exact Î<|B j z
   .exact Î z
  .rcases L j q with(z|z)|z
   .exact Ç z
   .rcases D.I j z with y|y
    .exact Ç<|i j y
    .exact Î<|õ o y
   .exact Î<|õ (õ o D.r) z
def kC(a:Ú):ý:=⟨û a,Ã,É⟩
def mV(a:Ú):ý:=⟨û a,É,É⟩
def j0(m:Mark):ý:=⟨ů m,Ã,É⟩
def gd:Int:=4294967296
def Db(c:Nat):Array ý:=#[⟨.obj c,Ã,É⟩,⟨.obj c,É,É⟩]
section
variable(P:Õ)(main:Bool)
def F6(m:Mark)(N:Jd):Jd:=λl g=>g.status=Ð/\∃a,(∀b,Ù P main g b=aS a b #[j0 m])/\fl P main N l a
def Xl(a:Ú)(N:Int->Jd):Jd:=λl g=>g.status=Ð/\∀v,∃c,(∀b:Æ,b.cell? a=À (Ć æ v)->Ù P main g b=aS c b #[kC a])/\fl P main (N v) l c
def Oo(a:Ú)(d:Int)(N:Int->Jd):Jd:=λl g=>g.status=Ð/\∀v,∃c,(∀b:Æ,b.cell? a=À (Ć æ v)->b.frozen? a=Ã->Ù P main g b=aS c (b.setCell a<|Ć æ<|æ.wrap<|v+d) #[kC a,mV a])/\N (æ.wrap<|v+d) l c
def agi(a:Ú)(v:Int)(N:Jd):Jd:=λl g=>g.status=Ð/\∃c,(∀(b:Æ) (x:Int),b.cell? a=À (Ć æ x)->b.frozen? a=Ã->Ù P main g b=aS c (b.setCell a<|Ć æ v) #[mV a])/\fl P main N l c
def agj(a:Ú)(N:Jd):Jd:=λl g=>g.status=Ð/\g.offers=ë/\(∀b:Æ,b.cell? a=À (Ć ŗ 0)->Ù P main g b=aS {g with status:=Ů} b #[])/\
 ∃c,(∀(b:Æ) (n:Int),n≠0->b.cell? a=À (Ć ŗ n)->b.frozen? a=Ã->Ù P main g b=aS c (b.setCell a<|Ć ŗ<|n-1) (semEvents a))/\fl P main N l c
def agk(a:Ú)(N:Jd):Jd:=λl g=>g.status=Ð/\mayWake P g=É/\∃c,c.status=Ð/\(∀(b:Æ) (n:Int),b.cell? a=À (Ć ŗ n)->b.frozen? a=Ã->Ù P main g b=aS c (b.setCell a<|Ć ŗ<|ŗ.wrap<|n+1) (semEvents a))/\N l c
def wY(c:Nat)(z:Â)(N:Option Â->Jd):Jd:=λl g=>g.status=Ð/\g.offers=ë/\(∀x,Ù P main g x=.comm g #[θ c z] É (.recv É) x #[])/\
 ∀x:Option Â,fl P main (N x) l {g with frame:=g.frame.finish (ſ #[x.getD z,Ľ x.isSome])}
def AJ(c:Nat)(v:Â)(N:Jd):Jd:=λl g=>g.status=Ð/\g.offers=ë/\(∀a,∃b,Ù P main g a=.comm g #[scase c v b] É .send a #[])/\fl P main N l {g with frame:=g.frame.finish ľ}
def JD(c:Nat)(N:Jd):Jd:=λl g=>g.status=Ð/\mayWake P g=É/\∃a,a.status=Ð/\(∀(b:Æ) cap buf s r tm,b.heap[c]?=À (χ cap buf Ã s r tm)->Ù P main g b=aS a (b.setChan c cap buf É s r tm) (Db c))/\fl P main N l a
def pw(n:Nat):Jd:=λl g=>QuitsD P n l.d g
inductive SP where
 |gh (n:Nat)
 |ld (v:Int) (m:Nat)
def Dc(a:Ú)(B:Nat)(d e:Int->Jd)(p:SP):Jd:=λl g=>∃T:SP->Ó->Prop,T p g/\∀p g,T p g->g.status=Ð/\match p with
 |.gh (n+1)=>n+1<=B/\(T (.gh 0) g\/∀b,∃c,Ù P main g b=aS c b #[]/\T (.gh n) c)
 |.gh 0=>∀v,∃c,(∀b:Æ,b.cell? a=À (Ć æ v)->Ù P main g b=aS c b #[kC a])/\(if 0<=v/\v<gd then v<1000000->fl P main (d v) l c else(gd<=v/\v<gd*2147483648/\v%gd<1000000)->∃m,m<=B/\T (.ld v m) c)
 |.ld v (m+1)=>gd<=v/\m+1<=B/\(T (.ld v 0) g\/∀b,∃c,Ù P main g b=aS c b #[]/\T (.ld v m) c)
 |.ld v 0=>gd<=v/\(∃c,(∀b:Æ,b.cell? a=À (Ć æ v)->b.frozen? a=Ã->Ù P main g b=aS c (b.setCell a<|Ć æ<|æ.wrap<|v+1) #[kC a,mV a])/\fl P main (e v) l c)/\
  ∃c,(∀(b:Æ) (x:Int),x≠v->b.cell? a=À (Ć æ x)->b.frozen? a=Ã->Ù P main g b=aS c b #[kC a])/\∃n,n<=B/\T (.gh n) c
end
section
variable{P:Õ}{main:Bool}
def JF{e f:Int->Jd}{p:SP}{l:ff}{w₁:Æ}(h:Dc P main a i e f p l g)(r:fJ l l.w w₁):Dc P main a i e f p {l with w:=w₁} g:=by
 let⟨T,o,h⟩:=h;refine⟨T,o,λp g j=>⟨(h p g j).1,?_⟩⟩;have:=(h p g j).2;match p,this with
 |.gh (n+1),q=>exact q
 |.gh 0,q=>
  intro v;let⟨c,d,b⟩:=q v;refine⟨c,d,?_⟩;by_cases k:0<=v/\v<gd
  .rw[if_pos k]at b|-;exact λq=>(b q).jw r
  .rw[if_neg k]at b|-;exact b
 |.ld v (m+1),q=>exact q
 |.ld v 0,⟨q0,⟨c,d,b⟩,q⟩=>exact⟨q0,⟨c,d,b.jw r⟩,q⟩
end
inductive iC where
 |no|iD|sS (c:Nat) (z:Â)
inductive wZ(g0:Ó):iC->Ó->Prop
 |gf {k:iC}:wZ g0 k g0
 |nY (h:g0.status=Ð) (ho:g0.offers=ë):wZ g0 .iD {g0 with status:=Ů}
 |tS (c:Nat) (z:Â) (h:g0.status=Ð):wZ g0 (.sS c z) (Γ g0 #[θ c z]<|.recv É)
 |nu (c:Nat) (z:Â) (h:g0.status=Ð):wZ g0 (.sS c z) {Γ g0 #[θ c z] (.recv É)with status:=Ð}
section
variable{P:Õ}
theorem agl(h:g.status=Ð\/g.status=Ğ)(w:Æ):g.again w=g:=by unfold ι;grind
theorem Oq{a o:Ó}(h:o.status=Ð\/o.status=Ğ):ţ P g a w o=o:=by unfold ţ;grind [agl]
def wZ.F7{g0 a b:Ó}{k:iC}(h:wZ g0 k g)(d:g0.status=Ð\/g0.status=Ğ):wZ g0 k (ţ P a b w g):=by
 cases h with
 |gf=>rw[Oq d];exact .gf
 |nY h c=>
  unfold ţ;split
  .have:ι w {g0 with status:=Ů}=g0:=by
    let⟨z,e,st,f,i⟩:=g0;simp only at h c;subst h c;rfl
   rw[this];exact .gf
  .exact .nY h c
 |tS c z h=>
  unfold ţ;split
  .unfold ι Γ;simp only[];split
   .exact .nu c z h
   .exact .tS c z h
  .exact .tS c z h
 |nu c z h=>
  rw[Oq<|Ç U];exact .nu c z h
end
structure gM(P:Õ)(B0:Nat)(Y:Nat->Prop)(S:Nat->Jd)(tr:Nat->gB)(kp:Nat->iC)(lot:Nat->ff)(gs:Array Ó)(w:Æ)(t:ğ):Prop where
 r:iT B0 (λi=>i<gs.size) Y lot w t
 C:∀i g,gs[i]?=À g->∃g0,lj P (i==0) (S i) (tr i) (lot i) g0/\wZ g0 (kp i) g/\(g0.status=Ð\/g0.status=Ğ)/\(g=g0\/tr i=.fD)
 I:∀j,gs.size<=j->Τ t j=0
def fA{α:Type}(f:Nat->α)(i:Nat)(x:α):Nat->α:=λk=>if k=i then x else f k
theorem gG{α:Type}(f:Nat->α)(i:Nat)(x:α):fA f i x i=x:=if_pos U
theorem fK{α:Type}(f:Nat->α)(x:α)(h:k≠i):fA f i x k=f k:=if_neg h
section
variable{P:Õ}{B0:Nat}{Y:Nat->Prop}{S:Nat->Jd}{tr:Nat->gB}{kp:Nat->iC}{lot:Nat->ff}{gs:Array Ó}{w':Æ}{t:ğ}{sl:Option (Nat×Nat)}
theorem Ot{a:Ó}(b:gs[i]?=À g)(h:Ù P (i==0) g w=aS a w' V): ∃gs',cW P (ķ gs w sl) i=(ň<|ķ gs' w' sl,Í i g.frame.fn g.frame.place V)/\gs'.size=gs.size/\gs'[i]?=À a/\∀k,k≠i->gs'[k]?=gs[k]?.map (ţ P g a w'):=by refine⟨_,runT_crowd_go b h,fq,by simp[(Ë.1 b).1],λk c=> ?_⟩;grind
def gM.at(a:gM P B0 Y S tr kp lot gs w t)(d:Nat):gM P B0 Y S tr kp lot gs (w.at d) t:=⟨a.r.at d,a.C,a.I⟩
theorem gM.Xm(f:gM P B0 Y S tr kp lot gs w t){a:Ó}{J:Jd}{T:gB}{K:iC}{d:ff}(h:gs[i]?=À g)(o:Ù P (i==0) g w=aS a w' V) (B:iT B0 (λi=>i<gs.size) Y (gA lot i d) w' (t++Í i g.frame.fn g.frame.place V)) (hF:lj P (i==0) J T d a) (p:a.status=Ð\/a.status=Ğ): ∃b,cW P (ķ gs w sl) i=(ň<|ķ b w' sl,Í i g.frame.fn g.frame.place V)/\b.size=gs.size/\b[i]?=À a/\(∀k,k≠i->b[k]?=gs[k]?.map (ţ P g a w'))/\ gM P B0 Y (fA S i J) (fA tr i T) (fA kp i K) (gA lot i d) b w' (t++Í i g.frame.fn g.frame.place V):=by
 obtain⟨b,q,r,l,m⟩:=Ot h o;have C:=(Ë.1 h).1;refine⟨b,q,r,l,m,?_,λk x c=> ?_,λj D=> ?_⟩
 .grind
 .by_cases e:k=i
  .subst e;rw[l]at c;obtain rfl:=Ĥ c;rw[gG,gG,gG,gV];exact⟨a,hF,.gf,p,Ç U⟩
  .rw[m k e]at c;obtain⟨y,s,rfl⟩:=ģ.1 c;rw[fK S _ e,fK tr _ e,fK kp _ e,gI lot _ e];let⟨g0,u,v,n,z⟩:=f.C k y s;refine⟨g0,u,v.F7 n,n,z.imp (λe=> ?_) id⟩;grind [Oq]
 .rw[On Z t ow];exact f.I j Z
theorem agm{J:Jd}{k:Æ->gB}{l:ff}(h:lj P yQ J (.jP k) l g):g.status=Ð:=h.1
def gM.ft(f:gM P B0 Y S tr kp lot gs w t){k:Æ->gB}(m:gs[i]?=À g)(n:tr i=.jP k)(s:∀l g,S i l g->g.status=Ð\/g.status=Ğ): ∃c w' d h,cW P (ķ gs w sl) i=(ň<|ķ c w' sl,Í i g.frame.fn g.frame.place d)/\c.size=gs.size/\(∃b,c[i]?=À b/\(b.status=Ð\/b.status=Ğ))/\(∀k,k≠i->∃a j:Ó,c[k]?=gs[k]?.map (ţ P a j w'))/\mE (lot i) h w w' d/\ gM P B0 Y S (fA tr i<|k w) kp (gA lot i h) c w' (t++Í i g.frame.fn g.frame.place d):=by
 have o:=(Ë.1 m).1;let⟨g0,hF,F,_,u⟩:=f.C i g m;obtain rfl:g=g0:=u.resolve_right (by rw[n];simp);rw[n]at hF;let⟨G,hF⟩:=hF;let⟨b,w',d,h,v,p,e⟩:=hF w<|f.r.r i o;have q:b.status=Ð\/b.status=Ğ:=by
  cases j:k w with
  |fD=>rw[j]at e;exact s _ _<|e _<|fJ.fX _ _
  |jP r=>rw[j]at e;exact Ç e.1
 obtain⟨c,x,y,z,B,r⟩:=f.Xm m v (f.r.agb o p _ _) e q;refine⟨c,w',d,h,x,y,⟨b,z,q⟩,λj C=>⟨g,b,B j C⟩,p,?_⟩;have D:fA S i (S i)=S:=by funext j;unfold fA;split<;>simp[*]
 have E:fA kp i (kp i)=kp:=by funext j;unfold fA;split<;>simp[*]
 rwa[D,E]at r
theorem gM.qI(c:gM P B0 Y S tr kp lot gs w t){a:Ó}{J:Jd}{K:iC}{T:gB}(l:gs[i]?=À g)(m:Ù P (i==0) g w=aS a w' V)(n:p6 (λi=>i<gs.size) Y lot w w') (hF:lj P (i==0) J T {lot i with d:=ŭ (lot i).d V,w:=w'} a) (o:a.status=Ð\/a.status=Ğ) (p:∀e∈V,(∀b,(è e).touch?=À b->F5 (λi=>i<gs.size) Y lot b)/\(è e).low w.heap.size) (q:∀r,¬eG r (t++Í i g.frame.fn g.frame.place V)): ∃gs',cW P (ķ gs w sl) i=(ň<|ķ gs' w' sl,Í i g.frame.fn g.frame.place V)/\gs'.size=gs.size/\gs'[i]?=À a/\(∀k,k≠i->gs'[k]?=gs[k]?.map (ţ P g a w'))/\ gM P B0 Y (fA S i J) (fA tr i T) (fA kp i K) (gA lot i {lot i with d:=ŭ (lot i).d V,w:=w'}) gs' w' (t++Í i g.frame.fn g.frame.place V):=by
 refine c.Xm l m (c.r.G (λk=> ?_) n (λh f b j=> ?_) (λh f=> ?_) q λk h=> ?_) hF o
 .by_cases e:k=i
  .subst e;rw[gV];exact⟨U,U,U,U,U,Î U⟩
  .grind [gI,vv.fX]
 .obtain⟨e,j,rfl⟩:=í f;grind
 .obtain⟨e,j,rfl⟩:=í f;exact(p e j).2
 .by_cases e:k=i
  .subst e;rw[gV,Deaf_own,c.r.f k h]
  .rw[gI lot _ e,On e t ow];exact c.r.f k h
def gM.Ou(h:gM P B0 Y S tr kp lot gs w t)(p:gs[i]?=À g)(x:i≠0)(l:g.status=Ð)(q:kp i=.no)(y:tr i=.fD)(z:S i=pw P n): ∃c f b,n=b+1/\cW P (ķ gs w sl) i=(ň<|ķ c w sl,Í i g.frame.fn g.frame.place f)/\c.size=gs.size/\(∀k,k≠i->∃a e:Ó,c[k]?=gs[k]?.map (ţ P a e w))/\(∀e∈f,e.mute=É)/\ gM P B0 Y (fA S i<|pw P b) tr kp (gA lot i {lot i with d:=ŭ (lot i).d f,w:=w}) c w (t++Í i g.frame.fn g.frame.place f):=by
 let⟨g0,hF,r,L,_⟩:=h.C i g p;have B:g=g0:=by
  rw[q]at r;cases r with
  |gf=>rfl
 subst B;rw[y,z]at hF;have s:=hF w<|h.r.r i<|(Ë.1 p).1;cases n with
 |zero=>rw[s.1]at l;cases l
 |succ n=>
  rcases s with⟨C,_⟩|⟨_,D,f,a,E,u⟩
  .rw[C]at l;cases l
  have m:(i==0)=Ã:=by simpa using x
  have F:fA kp i .no=kp:=by funext j;unfold fA;split<;>simp[*]
  have G:fA tr i .fD=tr:=by funext j;unfold fA;split<;>simp[*]
  obtain⟨c,H,I,_,K,v⟩:=h.qI (J:=pw P n) (T:=.fD) p (by rw[m];exact E w) (p6.fX _ _ _ _) (λ_ _=>u) u.status (λe o=>⟨λb m=>(by rw[ek<|a e o]at m;cases m),low_mute (a e o) _⟩) (AH h.r.l λM b=>by obtain⟨e,o,rfl⟩:=í b;exact ek<|a e o);rw[F,G]at v;exact⟨c,f,n,U,H,I,λk q=>⟨g,D,K k q⟩,a,v⟩
end
def w7(u:ğ):Prop:=∀a∈u,a.act.touch?=ë/\∀m,a.act≠Ř m
theorem agn(t:ğ)(a:cX)(b:a.act≠Ř cK)(c:a.act≠Ř dy)(j:Nat):Τ (t.push a) j=Τ t j:=by
 have d:t.push a=t++#[a]:=fq
 unfold Τ;rw[d,show(t++#[a]).size=t.size+1 by simp];show(match(t++#[a])[t.size]? with
  |some {g:=h,act:=Ř cK, .. }=>if h=j then(t++#[a]).deaf j t.size+1 else(t++#[a]).deaf j t.size
  |some {g:=h,act:=Ř dy, .. }=>if h=j then(t++#[a]).deaf j t.size-1 else(t++#[a]).deaf j t.size
  |_=>(t++#[a]).deaf j t.size)=_
 have e:(t++#[a])[t.size]?=À a:=fq
 rw[e];let⟨g,f,i,k⟩:=a;simp only at b c;split
 .grind
 .grind
 .exact cN<|ß _
def Xn(t:ğ):∀(u:List cX),(∀a∈u,a.act≠Ř cK/\a.act≠Ř dy)->∀j,Τ (t++u.toArray) j=Τ t j
 |[],_,j=>by simp
 |a::u,h,j=>by
  have e:t++(a::u).toArray=(t.push a)++u.toArray:=by apply Array.ext';simp
  rw[e,Xn (t.push a) u (λx b=>h x<|by simp[b]) j];exact agn t a (h a fq).1 (h a fq).2 j
def JG{u:ğ}(h:w7 u)(j:Nat):Τ (qJ++u) j=Τ qJ j:=by have:=Xn qJ u.toList (λa b=>⟨(h a<|by simpa using b).2 _,(h a<|by simpa using b).2 _⟩) j;simpa using this
section
variable{S:Nat->Jd}{C:Nat->gB}{B:Nat->iC}{lot:Nat->ff}{u:ğ}{sl:Option (Nat×Nat)}
def iT.agp{Live:Nat->Prop}(h:iT i Live X lot w qJ)(f:p6 Live X lot w W)(c:w7 u)(g:∀a∈u,a.act.low w.heap.size):iT i Live X lot W (qJ++u):= h.G (λk=>vv.fX _ _) f (λa d b e=>by rw[(c a d).1]at e;cases e) g (AH h.l λa d=>(c a d).1) λk b=>by rw[JG c];exact h.f k b
def JH{Live:Nat->Prop}{r:Nat}{x:Bool}(y:X i)(p:w.heap[i]?=À (χ n d yQ j r x))(f g h:Nat)(l:Array Â)(m o:Bool):p6 Live X lot w (w.setChan i f l m g h o):=by
 have q:∀b,b≠i->(w.setChan i f l m g h o).heap[b]?=w.heap[b]?:=λb u=>by unfold au;simp only;exact Ï<|ą u
 have v:(w.setChan i f l m g h o).heap[i]?=À (χ f l m g h o):=by unfold au;simp[(Ë.1 p).1]
 refine⟨by unfold au;simp,λb u=>q b λe=>u<|e▸y,λk _ a _=> ?_,λk _ a _=> ?_,λa t=> ?_⟩
 .by_cases e:a.block=i
  .unfold Ġ;rw[e,v,p]
  .unfold Ġ;rw[q _ e]
 .by_cases e:a.block=i
  .unfold Ĉ;rw[e,v,p]
  .unfold Ĉ;rw[q _ e]
 .by_cases e:a.block=i
  .unfold Ġ at t;rw[e,p]at t;cases t
  .have:(w.setChan i f l m g h o).cell? a=w.cell? a:=by unfold Ġ;rw[q _ e]
   rwa[this]
def gM.G(b:gM P i X S C B lot E w qJ){J:Jd}{T:gB}{K:iC}(d:n<E.size)(f:p6 (λn=>n<E.size) X lot w W)(c:w7 u)(h:∀l∈u,l.act.low w.heap.size) (hF:lj P (n==0) J T (lot n) g) (m:g.status=Ð\/g.status=Ğ): gM P i X (fA S n J) (fA C n T) (fA B n K) lot (E.setIfInBounds n g) W (qJ++u):=by
 refine⟨?_,λk x a=> ?_,λj o=> ?_⟩
 .rw[show(λj=>j<(E.setIfInBounds n g).size)=(λj=>j<E.size) by simp];exact b.r.agp f c h
 .by_cases e:k=n
  .subst e;rw[Ò d]at a;obtain rfl:=Ĥ a;rw[gG,gG,gG];exact⟨_,hF,.gf,m,Ç U⟩
  .rw[Ï<|ą e]at a;rw[fK S _ e,fK C _ e,fK B _ e];exact b.C k x a
 .rw[JG c];exact b.I j<|by simpa using o
def Ov{γ δ:Type}{f:γ->List δ}:∀{l:List γ},(∀x∈l,f x=[])->l.flatMap f=[]
 |[],_=>rfl
 |x::l,h=>by rw[aV,h x fq,Ov λy a=>h y (by simp[a])];rfl
def yA(r:Nat)(b:Bool)(g:Ó):Prop:=g.status=Ů/\∃a d,g.offers=À (a,d)/\∃c∈a,(c.send.isSome==b)=É/\(match c.chan with|eu (À r')=>r'==r|_=>Ã)=É
theorem Xo{r:Nat}{E:Array Ó}(h:∀(i:Nat) (g:Ó),E[i]?=À g->¬yA r yQ g):Η E r yQ=[]:=by
 unfold Η;refine Ov λx m=> ?_;let⟨g,i⟩:=x;have d:E[i]?=À g:=by grind
 simp only[];split
 .rename_i b e f j;rw[aj,Υ];intro y n a;let⟨c,k⟩:=y;have l:c∈b:=by
   grind
  simp only[ě]at a;exact h i g d ⟨f,b,e,j,c,l,a.1,by have:=a.2;revert this;cases c.chan<;>first|exact id|(rename_i q;cases q<;>exact id)⟩
 .rfl
def Xp{γ δ:Type}(f:γ×Nat->List δ):∀(L:List γ) (n h:Nat) (x:γ),(∀y k,k≠h->(y,k)∈L.zipIdx n->f (y,k)=[])->n<=h->L[h-n]?=À x->(L.zipIdx n).flatMap f=f (x,h)
 |[],n,h,x,_,_,hx=>by simp at hx
 |a::L,n,h,x,hf,hn,hx=>by
  rw[Ĭ,aV];by_cases e:h=n
  .subst e;have:a=x:=by simpa using hx
   subst this;rw[Ov ?_,List.append_nil];intro y b;let⟨y,k⟩:=y;refine hf y k ?_ (by rw[Ĭ];exact ò _ b);have:=List.le_snd_of_mem_zipIdx b;simp only at this;omega
  .rw[hf a n Z (by rw[Ĭ];exact î ..),List.nil_append];refine Xp f L (n+1) h x (λy k c b=>hf y k c<|by rw[Ĭ];exact ò _ b) Z ?_;have b:h-n=(h-(n+1))+1:=Z
   rw[b]at hx;simpa using hx
theorem agq{E:Array Ó}(l:E[n]?=À g)(m:g.status=Ů)(o:g.offers=À (#[θ i z],.recv É))(p:∀(a:Nat) (b:Ó),a≠n->E[a]?=À b->¬yA i Ã b):Η E i Ã=[(n,0)]:=by
 unfold Η;have e:E.zipIdx.toList=E.toList.zipIdx:=fq
 rw[e];rw[Xp _ E.toList 0 n g (λy k r B=> ?_) (dA _) (by simpa using l)]
 .simp[m,o,θ]
 .have s:E[k]?=À y:=by
   grind
  simp only[];split
  .rename_i j t u v;rw[aj,Υ];intro x C d;let⟨f,D⟩:=x;have w:f∈j:=by
    grind
   simp only[ě]at d;exact p k y r s ⟨u,j,t,v,f,w,d.1,by have:=d.2;revert this;cases f.chan<;>first|exact id|(rename_i q;cases q<;>exact id)⟩
  .rfl
theorem Ow(h:(E.setIfInBounds i ph)[k]?=À g):g.status=Ğ\/(k≠i/\E[k]?=À g):=by
 by_cases e:k=i
 .subst e;rw[Ś]at h;simp only[if_true]at h;split at h
  .left;obtain rfl:=Ĥ h;rfl
  .cases h
 .grind
theorem gM.Ox(l:gM P i X S C B lot E w qJ)(c a:Nat):Η (E.setIfInBounds a ph) c É=[]:=by
 refine Xo λk x m=> ?_;rintro⟨d,p,r,b,n,f,o,_⟩;rcases Ow m with q|⟨_,q⟩
 .grind
 .let⟨g0,_,g,j,_⟩:=l.C k x q;generalize B k=K at g;cases g with
  |gf=>rw[d]at j;rcases j with e|e<;>cases e
  |nY h e=>simp only[e]at b;cases b
  |tS e z h=>
   simp only[Γ,ž,Prod.mk.injEq]at b;rw[<-b.1]at f;have:n=θ e z:=by simpa using f
   subst this;cases o
  |nu e z h=>cases d
def gM.Oy(e:gM P i X S C B lot E w qJ){N:Option Â->Jd}(f:E[n]?=À g)(k:g.status=Ð)(l:B n=.sS j z)(m:C n=.fD)(o:S n=wY P (n==0) j z N): ∃a,lj P (n==0) (S n) (C n) (lot n) a/\a.status=Ð/\a.offers=ë/\Ù P (n==0) g w=.comm a #[θ j z] É (.recv É) w #[]/\∀x:Option Â,fl P (n==0) (N x) (lot n) {a with frame:=a.frame.finish (ſ #[x.getD z,Ľ x.isSome])}:=by
 let⟨a,hF,b,_,_⟩:=e.C n g f;have p:=hF;rw[o,m]at hF;let⟨x,q,d,r⟩:=hF _<|fJ.fX _ _;rw[l]at b;refine⟨a,p,x,q,?_,r⟩;cases b with
 |gf=>exact d w
 |tS j z h=>cases k
 |nu j z h=>rw[stepG_tries];rw[show({a with status:=Ð}:Ó)=a by cases a;simp only at x;subst x;rfl];exact d w
def yB{g0:Ó}{a:Array CommCase}{b:CommShape}{ok:Bool}(c:g0.status=Ð)(d:g0.offers=ë):g0.finishComm P a b h v ok={g0 with frame:=g0.frame.finish (commResult a b h v ok)}:=by let⟨f,a,st,e,o⟩:=g0;simp only at c d;subst c d;rfl
def gM.ny(e:gM P i X S C B lot E w qJ){N:Option Â->Jd}(h:E[n]?=À g)(G:g.status=Ð)(l:B n=.sS j z)(H:C n=.fD)(I:S n=wY P (n==0) j z N)(p:X j){r:Nat}{o:Bool}(q:w.heap[j]?=À (χ b d yQ m r o))(t:d[0]?=À v)(K:iC): ∃a u T f,cW P (ķ E w sl) n=(ň<|ķ a (w.setChan j b (d.extract 1 d.size) yQ m (r+1) o) sl,u)/\a.size=E.size/\a[n]?=À f/\f.status=Ð/\(∀k,k≠n->a[k]?=E[k]?)/\w7 u/\ gM P i X (fA S n<|N<|À v) (fA C n T) (fA B n K) lot a (w.setChan j b (d.extract 1 d.size) yQ m (r+1) o) (qJ++u):=by
 have x:=(Ë.1 h).1;let⟨g0,_,f,y,J,L⟩:=e.Oy h G l H I;have D:d.getD 0 ľ=v:=by simp[ĩ,t]
 have M:=crowd_recv_buf (sl:=sl) h J q ((Ë.1 t).1)<|e.Ox j n;let⟨T,O⟩:=jl<|L<|À v;refine⟨_,_,T,{g0 with frame:=g0.frame.finish (ſ #[v,Ľ É])},M,fq,?_,f,λk l=>Ï<|ą l,?_,?_⟩
 .rw[yB f y,D,Ò x];rfl
 .intro F a;simp[Í]at a;rcases a with rfl|rfl<;>exact⟨U,fq⟩
 .rw[yB f y,D];refine e.G x (JH p q _ _ _ _ _ _) ?_ ?_ O<|Ç f
  .intro F a;simp[Í]at a;rcases a with rfl|rfl<;>exact⟨U,fq⟩
  .intro F a;simp[Í]at a;rcases a with rfl|rfl<;>exact e.r.N j p
def gM.jf(e:gM P i X S C B lot E w qJ){N:Option Â->Jd}(h:E[n]?=À g)(q:g.status=Ð)(l:B n=.sS j z)(t:C n=.fD)(v:S n=wY P (n==0) j z N)(x:X j){r:Nat}(y:w.heap[j]?=À (χ b #[] É k r yQ))(K:iC): ∃d u T f,cW P (ķ E w sl) n=(ň<|ķ d w sl,u)/\d.size=E.size/\d[n]?=À f/\f.status=Ð/\(∀a,a≠n->d[a]?=E[a]?)/\w7 u/\ gM P i X (fA S n<|N ë) (fA C n T) (fA B n K) lot d w (qJ++u):=by
 have m:=(Ë.1 h).1;let⟨g0,_,f,o,D,F⟩:=e.Oy h q l t v;let⟨T,G⟩:=jl<|F ë;refine⟨_,_,T,{g0 with frame:=g0.frame.finish (ſ #[z,Ľ Ã])},crowd_recv_closed (sl:=sl) h D y<|e.Ox j n,fq,?_,f,λa l=>Ï<|ą l,?_,?_⟩
 .rw[yB f o,Ò m];rfl
 .intro p d;simp[Í]at d;subst d;exact⟨U,fq⟩
 .rw[yB f o];refine e.G m (p6.fX _ _ _ _) ?_ ?_ G<|Ç f
  .intro p d;simp[Í]at d;subst d;exact⟨U,fq⟩
  .intro p d;simp[Í]at d;subst d;exact e.r.N j x
def gM.agr(f:gM P i X S C B lot E w qJ){N:Option Â->Jd}(m:E[n]?=À g)(u:g.status=Ð)(h:B n=.sS j z)(o:C n=.fD)(v:S n=wY P (n==0) j z N){r:Nat}(p:w.heap[j]?=À (χ b #[] Ã k r yQ)): ∃d e,cW P (ķ E w sl) n=(ň<|ķ d w sl,#[])/\d.size=E.size/\d[n]?=À e/\e.status=Ů/\(∀a,a≠n->d[a]?=E[a]?)/\gM P i X S C B lot d w qJ:=by
 have q:=(Ë.1 m).1;let⟨g0,hF,t,G,y,H⟩:=f.Oy m u h o v;have D:=crowd_waits (sl:=sl) m y (λd e=>by
  have:d=θ j z:=by simpa using e
  subst this;exact⟨by simp[illMade,θ,p],by simp[ways,θ,p,f.Ox j n]⟩)
 refine⟨_,Γ g0 #[θ j z]<|.recv É,?_,fq,Ò q,U,λa h=>Ï<|ą h,?_,λa x l=> ?_,λd F=>f.I d<|by simpa using F⟩
 .rw[D];rfl
 .rw[show(λd=>d<(E.setIfInBounds n<|Γ g0 #[θ j z]<|.recv É).size)=(λd=>d<E.size) by simp];exact f.r
 .by_cases e:a=n
  .subst e;rw[Ò q]at l;obtain rfl:=Ĥ l;refine⟨g0,hF,?_,Ç t,Î o⟩;rw[h];exact .tS j z t
  .rw[Ï<|ą e]at l;exact f.C a x l
def gM.iL(f:gM P i X S C B lot E w qJ){N:Jd}(h:E[n]?=À g)(l:B n=.no)(F:C n=.fD)(G:S n=AJ P (n==0) b v N)(p:X b){r:Nat}(t:w.heap[b]?=À (χ m d Ã J r yQ))(H:d.size<m) (I:∀(k:Nat) (x:Ó),E[k]?=À x->¬yA b Ã x): ∃e u T a,cW P (ķ E w sl) n=(ň<|ķ e (w.setChan b m (d.push v) Ã (J+1) r yQ) sl,u)/\e.size=E.size/\e[n]?=À a/\a.status=Ð/\(∀k,k≠n->e[k]?=E[k]?)/\w7 u/\ gM P i X (fA S n N) (fA C n T) B lot e (w.setChan b m (d.push v) Ã (J+1) r yQ) (qJ++u):=by
 have y:=(Ë.1 h).1;let⟨g0,hF,z,_,_⟩:=f.C n g h;rw[l]at z;cases z with
 |gf=>
  rw[G,F]at hF;let⟨a,D,o,K⟩:=hF _<|fJ.fX _ _;let⟨V,o⟩:=o w;have L:Η (E.setIfInBounds n ph) b Ã=[]:=Xo λk x M=>by
   rcases Ow M with q|⟨_,q⟩
   .rintro⟨e,_⟩;rw[q]at e;cases e
   .exact I k x q
  let⟨T,O⟩:=jl K;have Q:fA B n .no=B:=by funext j;unfold fA;split<;>simp[*]
  refine⟨_,_,T,{g with frame:=g.frame.finish ľ},crowd_send_room (sl:=sl) h o t H L,fq,?_,a,λk l=>Ï<|ą l,?_,?_⟩
  .rw[yB a D,Ò y];rfl
  .intro q e;simp[Í]at e;rcases e with rfl|rfl<;>exact⟨U,fq⟩
  .rw[yB a D,<-Q];refine f.G y (JH p t _ _ _ _ _ _) ?_ ?_ O<|Ç a
   .intro q e;simp[Í]at e;rcases e with rfl|rfl<;>exact⟨U,fq⟩
   .intro q e;simp[Í]at e;rcases e with rfl|rfl<;>exact f.r.N b p
def gM.agt(o:gM P i X S C B lot E w qJ){p:Ó}{N:Jd}{D:Option Â->Jd}(F:E[n]?=À g)(f:B n=.no)(ht:C n=.fD)(hs:S n=AJ P (n==0) b v N)(L:X b){r:Nat}(M:w.heap[b]?=À (χ J d Ã j9 r yQ)) (G:j≠n) (t:E[j]?=À p) (O:p.status=Ů) (JJ:B j=.sS b z) (Oz:C j=.fD) (JK:S j=wY P (j==0) b z D) (K:iC) (hp:∀(k:Nat) (x:Ó),k≠j->E[k]?=À x->¬yA b Ã x): ∃e u T y h q,cW P (ķ E w sl) n=(ň<|ķ e (w.setChan b J d Ã (j9+1) (r+1) yQ) sl,u)/\e.size=E.size/\e[n]?=À h/\h.status=Ð/\e[j]?=À q/\q.status=Ð/\(∀k,k≠n->k≠j->e[k]?=E[k]?)/\w7 u/\ gM P i X (fA (fA S j<|D<|À v) n N) (fA (fA C j y) n T) (fA (fA B j K) n .no) lot e (w.setChan b J d Ã (j9+1) (r+1) yQ) (qJ++u):=by
 have Q:=(Ë.1 F).1;have V:=(Ë.1 t).1;let⟨g0,hF,W,_,_⟩:=o.C n g F;let⟨a,Y,Xq,auh,_⟩:=o.C j p t;rw[f]at W;rw[JJ]at Xq;cases W with
 |gf=>
  rw[hs,ht]at hF;let⟨H,h2,I,h4⟩:=hF _<|fJ.fX _ _;let⟨z',I⟩:=I w;rw[JK,Oz]at Y;let⟨l,k2,k3,k4⟩:=Y _<|fJ.fX _ _;have Dd:p=Γ a #[θ b z] (.recv É):=by
   cases Xq with
   |gf=>rw[O]at l;cases l
   |tS _ _ h=>rfl
   |nu _ _ h=>cases O
  subst Dd;have hpn:Η (E.setIfInBounds n ph) b Ã=[(j,0)]:=agq (by rwa[Ï<|ą G]) U U λk x f hx=>by
   rcases Ow hx with q|⟨_,q⟩
   .rintro⟨e,_⟩;rw[q]at e;cases e
   .exact hp k x f q
  have OA:=crowd_send_meets (sl:=sl) F I M G t hpn;let⟨T,hT⟩:=jl h4;let⟨y,hTj⟩:=jl<|k4<|À v;rw[yB H h2,yB l k2]at OA;have q:∀{h:cX},h∈Í n g.frame.fn g.frame.place #[]++#[{g:=n,fn:=g.frame.fn,pos:=g.frame.place,act:=.send b j9},{g:=j,fn:=a.frame.fn,pos:=a.frame.place,act:=.recv b r J},{g:=n,fn:=g.frame.fn,pos:=g.frame.place,act:=.sendDone b j9},{g:=j,fn:=a.frame.fn,pos:=a.frame.place,act:=.recvDone b r}]->(h.act.touch?=ë/\∀m,h.act≠Ř m)/\h.act.low w.heap.size:=by intro h e;simp[Í]at e;rcases e with rfl|rfl|rfl|rfl<;>exact⟨⟨U,fq⟩,o.r.N b L⟩
  refine⟨_,_,T,y,{g with frame:=g.frame.finish ľ},{a with frame:=a.frame.finish (ſ #[v,Ľ É])},OA,fq,?_,H,?_,l,λk f tT=> ?_,λh e=>(q e).1,?_⟩
  .rw[Ò (by simpa using Q)];rfl
  .rw[Ï<|ą G,Ò V];rfl
  .rw[Ï<|ą f,Ï<|ą tT]
  .have m:gM P i X (fA S j<|D<|À v) (fA C j y) (fA B j K) lot (E.setIfInBounds j {a with frame:=a.frame.finish (ſ #[v,Ľ É])}) w (qJ++#[]):=o.G V (p6.fX _ _ _ _) (λh e=>by simp at e) (λh e=>by simp at e) hTj<|Ç l;rw[ď]at m;refine m.G (by simpa using Q) (JH L M _ _ _ _ _ _) (λh e=>(q e).1) (λh e=>(q e).2) hT<|Ç H
theorem gM.kY(o:gM P i X S C B lot E w qJ){N:Jd}(I:E[n]?=À g)(K:B n=.no)(ht:C n=.fD)(hs:S n=JD P (n==0) J N)(L:X J)(hB:i<=J){r:Nat}(O:w.heap[J]?=À (χ j9 q Ã j7 r yQ)): ∃t u T G,cW P (ķ E w sl) n=(ň<|ķ t (w.setChan J j9 q É j7 r yQ) sl,u)/\t.size=E.size/\t[n]?=À G/\G.status=Ð/\(∀k x,k≠n->E[k]?=À x->t[k]?=À (x.again<|w.setChan J j9 q É j7 r yQ))/\(∀l∈u,l.g=n)/\(∀l∈u,∀b,l.act.touch?=À b->b.loc=.obj J/\b.kind=Ŕ)/\(∀l∈u,∀m,l.act≠Ř m)/\ gM P i X (fA S n N) (fA C n T) B (gA lot n {lot n with w:=w.setChan J j9 q É j7 r yQ}) t (w.setChan J j9 q É j7 r yQ) (qJ++u):=by
 have H:=(Ë.1 I).1;have Q:=o.r.N J L;let⟨g0,hF,V,_,_⟩:=o.C n g I;rw[K]at V;cases V with
 |gf=>
  rw[hs,ht]at hF;let⟨h1,h2,G,M,h4,h5⟩:=hF w<|o.r.r n H;have v:=JH (lot:=lot) (Live:=λn=>n<E.size) L O j9 j7 r q É yQ;have y:fJ (lot n) w (w.setChan J j9 q É j7 r yQ):=⟨dz v.r.symm,λj hj=>v.jZ j<|o.r.I n H j hj,λa z=>v.M n H a z,λa z=>v.N n H a z,λa _=>v.I a⟩;let⟨T,hT⟩:=jl<|h5.jw ⟨y.r,y.I,y.N,y.Y,y.S⟩;have W:ŭ (lot n).d (Db J)=(lot n).d:=bq (λe f=>by simp[Db]at f;grind) _;have D:∀e∈Db J,(∀b,(è e).touch?=À b->b.loc=.obj J/\b.kind=Ŕ)/\(è e).low w.heap.size:=by
   intro e f;simp[Db]at f;rcases f with rfl|rfl
   .exact⟨λb h=>by simp[è,ÿ]at h;subst h;exact⟨U,U⟩,Q⟩
   .exact⟨λb h=>by simp[è,ÿ]at h,Q⟩
  have e2:fA B n .no=B:=by funext j;unfold fA;split<;>simp[*]
  obtain⟨t,q1,q2,q3,q4,Y⟩:=o.qI I (h4 w j9 q j7 r yQ O) v (by rwa[W]) (Ç M) (λe f=>⟨λb h=>Î ⟨J,((D e f).1 b h).1,L,((D e f).1 b h).2⟩,(D e f).2⟩) (Ol o.r.l ow λl F b h=>by obtain⟨e,f,rfl⟩:=í F;let⟨z1,z2⟩:=(D e f).1 b h;refine Î (Î ⟨z2,λp a z hl rF=> ?_⟩);have:=o.r.s p a J z (by rw[hl,z1]) rF;omega);rw[W,e2]at Y;refine⟨t,_,T,G,q1,q2,q3,M,λk x K p=> ?_,ow,λl F b h=> ?_,λl F=> ?_,Y⟩
  .rw[q4 k K,p];simp only[bH,ž];unfold ţ;rw[if_pos (by simp[h2,M])]
  .obtain⟨e,f,rfl⟩:=í F;exact(D e f).1 b h
  .obtain⟨e,f,rfl⟩:=í F;simp[Db]at f;intro m;rcases f with rfl|rfl<;>simp[è]
end
def fP(b:Nat):Ú:=⟨b,0,ë⟩
def gX(b:Nat):Ú:=⟨b,1,ë⟩
inductive GS where
 |cl (c reg:Nat)
 |jE (reg:Nat)
 |gY (r s:Nat)
def GS.st:GS->Int
 |.cl c a=>c*gd+a
 |.jE a=>a
 |.gY _ _=>0
def GS.sm:GS->Int
 |.gY _ s=>s
 |_=>0
def GS.ok:GS->Prop
 |.cl c r=>c<1000000/\r<1000000/\(c=0->r=0)
 |.jE r=>0<r/\r<1000000
 |.gY r s=>r+s<1000000
structure ic(w:Æ)(b:Nat)(G:GS):Prop where
 C:w.cell? (fP b)=À (Ć æ G.st)
 M:w.cell? (gX b)=À (Ć ŗ G.sm)
 I:w.frozen? (fP b)=Ã
 N:w.frozen? (gX b)=Ã
 r:G.ok
theorem AK(h:w.cell? a=À x):(w.setCell a v).cell? a=À v:=by unfold Ġ at h|-;unfold ĉ;grind
theorem yC(h:a.block≠p.block\/a.off≠p.off):(w.setCell a v).cell? p=w.cell? p:=by unfold Ġ ĉ;grind
theorem OB:kX (w.setCell a v) b=kX w b:=by unfold kX ĉ;grind
def sT:(w.setCell a v).frozen? p=w.frozen? p:=by simp_all
theorem lu(h:j≠a.block):(w.setCell a v).heap[j]?=w.heap[j]?:=by unfold ĉ;grind
def j4:(w.setCell a v).heap.size=w.heap.size:=by simp_all
theorem yD(h:(w.cell? p).isSome=É):((w.setCell a v).cell? p).isSome=É:=by unfold Ġ ĉ at*;grind
theorem agu{Live Y:Nat->Prop}{c:Nat->ff}(f:Y a.block)(l:a.spot=ë)(m:∀k,Live k->¬(c k).C a)(g:∀k,Live k->∀b,(c k).C b->b.spot=ë):p6 Live Y c w (w.setCell a v):=by
 refine⟨j4,λj h=>lu λe=>h<|e▸f,λk i b d=>yC ?_,λ_ _ _ _=>sT,λb d=>yD d⟩;by_cases e:a.block=b.block
 .right;intro n;have:=g k i b d;let⟨o,p,q⟩:=b;let⟨r,s,t⟩:=a;grind
 .exact Ç e
section
variable{b:Nat}{G:GS}
def ic.vw(h:ic w b G)(a:u.cell? (fP b)=w.cell? (fP b))(c:u.cell? (gX b)=w.cell? (gX b))(d:u.frozen? (fP b)=w.frozen? (fP b))(e:u.frozen? (gX b)=w.frozen? (gX b)):ic u b G:= ⟨a.trans h.C,c.trans h.M,d.trans h.I,e.trans h.N,h.r⟩
def ic.iU(h:ic w b G)(c:a.block≠b):ic (w.setCell a v) b G:= h.vw (yC<|Ç c) (yC<|Ç c) sT sT
def ic.JL{G':GS}(h:ic w b G)(a:G'.sm=G.sm)(d:G'.ok)(e:c=G'.st):ic (w.setCell (fP b)<|Ć æ c) b G':= ⟨by rw[AK h.C,e],by rw[yC (Î<|by simp[fP,gX]),h.M,a],by rw[sT,h.I],by rw[sT,h.N],d⟩
def ic.Xr{G':GS}(h:ic w b G)(a:G'.st=G.st)(d:G'.ok)(e:c=G'.sm):ic (w.setCell (gX b)<|Ć ŗ c) b G':= ⟨by rw[yC (Î<|by simp[fP,gX]),h.C,a],by rw[AK h.M,e],by rw[sT,h.I],by rw[sT,h.N],d⟩
end
theorem JN(a:0<=h)(b:h<18446744073709551616):æ.wrap h=h:=by have:æ.wrap h=h%18446744073709551616:=rfl;rw[this];omega
def agv(a:4294967296<=h)(b:h<18446744073709551616):æ.wrap (h+18446744069414584320)=h-4294967296:=by have:æ.wrap (h+18446744069414584320)=(h+18446744069414584320)%18446744073709551616:=rfl;rw[this];omega
theorem agw(a:0<=h)(b:h<4294967296):ŗ.wrap h=h:=by have:ŗ.wrap h=h%4294967296:=rfl;rw[this];omega
def qK:Int:=18446744069414584320
def GS.jO:GS->GS
 |.cl (c+1) reg=>if c=0/\0<reg then .jE reg else .cl c reg
 |G=>G
section
variable{b:Nat}
theorem ic.agx(h:ic w b (.cl i 0))(a:i+1<1000000):æ.wrap ((GS.cl i 0).st+gd)=(GS.cl (i+1) 0).st/\ic (w.setCell (fP b)<|Ć æ<|æ.wrap<|(GS.cl i 0).st+gd) b (.cl (i+1) 0):=by
 have e:æ.wrap ((GS.cl i 0).st+gd)=(GS.cl (i+1) 0).st:=by simp only[GS.st,gd];grind [JN]
 exact⟨e,h.JL (G':=.cl (i+1) 0) U ⟨a,Z,Z⟩ e⟩
def ic.jO(h:ic w b (.cl (i+1) n)):æ.wrap ((GS.cl (i+1) n).st+qK)=(GS.jO<|.cl (i+1) n).st/\ic (w.setCell (fP b)<|Ć æ<|æ.wrap<|(GS.cl (i+1) n).st+qK) b (GS.jO<|.cl (i+1) n):=by
 let⟨f,a,g⟩:=h.r;have d:æ.wrap ((GS.cl (i+1) n).st+qK)=(i:Int)*gd+n:=by simp only[GS.st,gd,qK];rw[agv Z Z];omega
 have e:æ.wrap ((GS.cl (i+1) n).st+qK)=(GS.jO<|.cl (i+1) n).st:=by
  rw[d];simp only[GS.jO];by_cases q:i=0/\0<n
  .rw[if_pos q];obtain⟨rfl,_⟩:=q;simp[GS.st]
  .rw[if_neg q];rfl
 refine⟨e,h.JL ?_ ?_ e⟩
 .simp only[GS.jO];split<;>rfl
 .simp only[GS.jO];by_cases q:i=0/\0<n
  .rw[if_pos q];exact⟨q.2,a⟩
  .rw[if_neg q];exact⟨Z,a,λe=>by omega⟩
theorem ic.Xs(h:ic w b (.cl i n))(f:0<i)(a:n+1<1000000):æ.wrap ((GS.cl i n).st+1)=(GS.cl i<|n+1).st/\ic (w.setCell (fP b)<|Ć æ<|æ.wrap<|(GS.cl i n).st+1) b (.cl i (n+1)):=by
 let⟨d,g,j⟩:=h.r;have e:æ.wrap ((GS.cl i n).st+1)=(GS.cl i<|n+1).st:=by simp only[GS.st,gd];grind [JN]
 exact⟨e,h.JL (G':=.cl i (n+1)) U ⟨d,a,λe=>by omega⟩ e⟩
def ic.Xt(h:ic w b (.jE i)):ic (w.setCell (fP b)<|Ć æ 0) b (.gY i 0):= h.JL (G':=.gY i 0) U (by have:=h.r;simp only[GS.ok]at this|-;omega) U
theorem ic.jD{r:Nat}(h:ic w b (.gY (r+1) i)):ic (w.setCell (gX b)<|Ć ŗ<|ŗ.wrap<|(GS.gY (r+1) i).sm+1) b (.gY r (i+1)):=by have:=h.r;simp only[GS.ok]at this;refine h.Xr (G':=.gY r (i+1)) U (by simp only[GS.ok];omega) ?_;simp only[GS.sm];grind [agw]
def ic.kD{r:Nat}(h:ic w b (.gY r (i+1))):ic (w.setCell (gX b)<|Ć ŗ<|(GS.gY r<|i+1).sm-1) b (.gY r i):=by have:=h.r;simp only[GS.ok]at this;refine h.Xr (G':=.gY r i) U (by simp only[GS.ok];omega) ?_;simp only[GS.sm];omega
def ic.agy{G:GS}(h:ic w b G):(0<=G.st/\G.st<gd)↔∀c a,G=.cl c a->c=0:=by
 have d:=h.r;cases G with
 |cl c a=>
  let⟨r,s,f⟩:=d;simp only[GS.st,gd];constructor
  .intro q g i e;cases e;omega
  .intro q;have:=q c a U;subst this;omega
 |jE a=>simp only[GS.ok]at d;simp only[GS.st,gd];exact⟨λ_ _ _ e=>(by cases e),λ_=>by omega⟩
 |gY r s=>simp only[GS.st,gd];exact⟨λ_ _ _ e=>(by cases e),λ_=>by omega⟩
end
inductive jF where
 |jD|iH|gC (W:Nat)|jd (W:Nat)|iD (r:Nat)
inductive ju where
 |iZ|mf (p:SP)|wr|kD|gC|lk
section
variable(P:Õ)(main:Bool)(B:Nat)(b:Nat)(J:Jd)
def F8:Nat->Jd
 |0=>J
 |r+1=>λl g=>l.d=1/\agk P main (gX b) (match r with|0=>J|_=>fl P main<|F8 r) l g
def JO(W:Nat):Jd:=λl g=>l.d=1/\agi P main (fP b) 0 (F8 P main b J W) l g
def JP(W:Nat):Jd:=λl g=>l.d=1/\Xl P main (fP b) (λv=>if v=(W:Int)then JO P main b J W else λ_ _=>True) l g
def OC:Jd:=λl g=>l.d=1/\Oo P main (fP b) qK (λs=>if s=0\/(gd<=s/\s<1000000*gd/\s%gd<1000000)then J else if 0<s/\s<1000000 then fl P main (JP P main b J s.toNat)else λ_ _=>True) l g
def yE:Jd:=λl g=>l.d=0/\F6 P main (Ķ<|fP b) (OC P main b J) l g
def De:jF->Jd
 |.jD=>yE P main b J
 |.iH=>OC P main b J
 |.gC W=>JP P main b J W
 |.jd W=>JO P main b J W
 |.iD r=>F8 P main b J r
def F9:Jd:=λl g=>l.d=0/\F6 P main (cL<|fP b) J l g
def Xu:Jd:=λl g=>l.d=1/\Xl P main (fP b) (λv=>if v=0 then F9 P main b J else λ_ _=>True) l g
def JQ:Jd:=λl g=>l.d=1/\agj P main (gX b) (Xu P main b J) l g
def OD:Jd:=λl g=>l.d=1/\F6 P main (.write<|gX b) (JQ P main b J) l g
def OG(p:SP):Jd:=λl g=>l.d=1/\Dc P main (fP b) B (λ_=>F9 P main b J) (λv=>if v%gd=0 then OD P main b J else JQ P main b J) p l g
def qL:ju->Jd
 |.iZ=>λl g=>∃k,k<=B/\OG P main B b J (.gh k) l g
 |.mf p=>OG P main B b J p
 |.wr=>OD P main b J
 |.kD=>JQ P main b J
 |.gC=>Xu P main b J
 |.lk=>F9 P main b J
end
section
variable{P:Õ}{Y:Nat->Prop}{S:Nat->Jd}{tr:Nat->gB}{f:Nat->iC}{lot:Nat->ff}{gs:Array Ó}{t:ğ}
theorem iT.C{Live:Nat->Prop}(h:iT n Live Y lot w t)(E:Live i){l:ff}(s:∀b,l.O b->(lot i).O b) (x:∀b,l.I b->(lot i).M b\/(b<w.heap.size/\¬Y b/\(∀k,Live k->¬(lot k).O b)/\∀a:Ú,a.block=b->pv t i (û a))) (u:∀a,l.r a->(lot i).r a) (y:∀a,l.N a->(lot i).C a\/(Y a.block/\(∀k,Live k->¬(lot k).r a)/\pv t i (û a))) (F:l.K=(lot i).K) (D:l.d=(lot i).d) (G:l.w=w) (H:∀b,l.O b->¬l.I b) (I:∀a,l.r a->¬l.N a):iT n Live Y (gA lot i l) w t:=by
 have v:∀b,l.M b->(lot i).M b\/(b<w.heap.size/\¬Y b/\(∀k,Live k->¬(lot k).O b)/\∀a:Ú,a.block=b->pv t i (û a)):=λb g=>g.elim (λq=>Ç<|Ç<|s b q)<|x b;have B:∀a,l.C a->(lot i).C a\/(Y a.block/\(∀k,Live k->¬(lot k).r a)/\pv t i (û a)):=λa f=>f.elim (λq=>Ç<|Ç<|u a q)<|y a;refine⟨λk j c o m b g=> ?_,λk j c o m a f=> ?_,λk c b g=> ?_,λk c a f=> ?_,λk c b g=> ?_,λk c a f=> ?_,λk c b g=> ?_,h.N,λk c=> ?_,λk c=> ?_,λk c=> ?_,h.l,h.q,h.s,λk c a f=> ?_⟩
 .by_cases e:k=i
  .subst e;rw[gV]at g;rw[gI lot _<|ą m];exact h.o k j c o m b<|s b g
  .rw[gI lot _ e]at g;by_cases p:j=i
   .subst p;rw[gV];intro q;rcases v b q with z|⟨_,_,z,_⟩
    .exact h.o k j c o m b g z
    .exact z k c g
   .rw[gI lot _ p];exact h.o k j c o m b g
 .by_cases e:k=i
  .subst e;rw[gV]at f;rw[gI lot _<|ą m];exact h.h k j c o m a<|u a f
  .rw[gI lot _ e]at f;by_cases p:j=i
   .subst p;rw[gV];intro q;rcases B a q with z|⟨_,z,_⟩
    .exact h.h k j c o m a f z
    .exact z k c f
   .rw[gI lot _ p];exact h.h k j c o m a f
 .by_cases e:k=i
  .grind [gV]
  .rw[gI lot _ e]at g|-;exact h.m k c b g
 .by_cases e:k=i
  .grind [gV]
  .rw[gI lot _ e]at f|-;exact h.g k c a f
 .by_cases e:k=i
  .subst e;rw[gV]at g;exact(v b g).elim (h.I k c b) λz=>z.2.1
  .rw[gI lot _ e]at g;exact h.I k c b g
 .by_cases e:k=i
  .subst e;rw[gV]at f;exact(B a f).elim (h.e k c a) λz=>z.1
  .rw[gI lot _ e]at f;exact h.e k c a f
 .by_cases e:k=i
  .subst e;rw[gV]at g;exact(v b g).elim (h.fw k c b) λz=>z.1
  .rw[gI lot _ e]at g;exact h.fw k c b g
 .by_cases e:k=i
  .grind [gV,fJ.fX]
  .rw[gI lot _ e];exact h.r k c
 .by_cases e:k=i
  .subst e;rw[gV];refine⟨λa f=>(h.S k c).ft a<|s _ f,λa f=> ?_,λa f=>(h.S k c).I a<|u a f,λa f=> ?_⟩
   .rcases x _ f with(z|z)|⟨_,_,_,z⟩
    .exact((h.S k c).ft a z).r
    .exact(h.S k c).C a z
    .exact z a U
   .rcases y _ f with(z|z)|⟨_,_,z⟩
    .exact((h.S k c).I a z).r
    .exact(h.S k c).r a z
    .exact z
  .rw[gI lot _ e];exact h.S k c
 .by_cases e:k=i
  .subst e;rw[gV,D];exact h.f k c
  .rw[gI lot _ e];exact h.f k c
 .have e:(lot k).K a:=by
   grind [gV,gI]
  let⟨p,q⟩:=h.n k c a e;grind [gV,gI]
def gM.M(b:gM P n Y S tr f lot gs w t){J:Jd}{T:gB}{K:iC}{l:ff}(c:gs[i]?=À g)(d:g.status=Ð\/g.status=Ğ)(h:iT n (λi=>i<gs.size) Y (gA lot i l) w t)(hF:lj P (i==0) J T l g): gM P n Y (fA S i J) (fA tr i T) (fA f i K) (gA lot i l) gs w t:=by
 refine⟨h,λk x a=> ?_,b.I⟩;by_cases e:k=i
 .subst e;rw[c]at a;obtain rfl:=Ĥ a;rw[gG,gG,gG,gV];exact⟨g,hF,.gf,d,Ç U⟩
 .rw[fK S _ e,fK tr _ e,fK f _ e,gI lot _ e];exact b.C k x a
end
end Go.Proofs.Y.fy
namespace Go.Proofs.Y.fy
open Go Go.Conc Go.Proofs.Y.Lift
open Go.ConcN (RelBy fork_knows)
def AL(t:ğ)(p:Nat)(l:dS):Prop:=∀q a,Ě t q=À a->a.loc=l->a.write=É->Before t q p
theorem AL.OH{u:ğ}{l:dS}(h:AL qJ i l)(j:∀c∈u,∀b,c.act.touch?=À b->b.loc=l->b.write=É->False):AL (qJ++u) i l:=by
 intro q a e f g;rcases mU e with⟨_,d⟩|⟨_,c,d,k,_⟩
 .exact(h q a d f g).app u
 .grind
def AL.agz{l:dS}(h:AL qJ i l)(b:bD qJ n i):pv qJ n l:=λq a c d e=>Knows.of_before (h q a c d e) b
theorem agA{l:dS}(h:pv qJ i l)(c:wQ.g=i)(j:wQ.act.touch?=ë):AL (qJ++#[wQ]) qJ.size l:=by
 intro q a d e f;rcases mU d with⟨_,b⟩|⟨_,k,b,m,_⟩
 .exact Î<|(h q a b e f).hb_new (ß _) (by rw[ć<|ß _];simp) c
 .grind
structure Fx where
 L:Nat
 m:Nat
 C:Nat
 I:Nat->Nat
def Fx.M(F:Fx)(b:Nat):Prop:=b=F.C\/∃k,k<=F.m/\b=F.I k
def Fx.G(F:Fx)(x:Ú):Prop:=∃b,F.M b/\(x=fP b\/x=gX b)
def jg(F:Fx)(k:Nat):Ú:=⟨F.I k,2,ë⟩
def Fx.OJ(F:Fx)(a:Nat->Option Nat)(x:Ú)(g:Option Nat):Prop:=(x=gX F.C/\g=À 0)\/∃k j,k<=F.m/\x=gX (F.I k)/\a k=À j/\g=À (F.L+1+j)
structure TI(F:Fx)(t0:Nat)(jm:dS->Prop)(sp rl:Nat)(V:Nat->Nat->Prop)(pk:Nat->Nat)(fs:Nat->Option Nat)(rx:Nat->Prop)(ql:Nat->Nat)(t:ğ):Prop where
 N:t0<=t.size
 M:∀p a x,Ě t p=À a->a.loc=û x->F.G x->(p<t0/\t.g? p=À 0)\/a.kind=Ŕ\/(a.kind=.said/\F.OJ fs x (t.g? p))
 AN:∀x,x<sp->∀p,p<t0->t.g? p=À 0->bD t (F.L+x) p
 Y:∀k,1<=k->k<=rl->t.act? (pk k)=À (Ř<|Ķ<|fP<|F.I k)/\t.g? (pk k)=À F.L/\t.heard (pk k)
 I:∀k,1<=k->k<=rl->∀a:Ú,(V k a.block\/a=jg F k)->AL t (pk k) (û a)
 c:∀b,F.M b->NoRelease (fP b) t
 r:∀x,x<sp->rx x->RelBy (fP F.C) t (F.L+x) (ql x)/\∀p a,Ě t p=À a->t.g? p=À (F.L+x)->p<=ql x\/((∃y:Ú,a.loc=û y/\y.block=F.C)/\a.kind=Ŕ)
 S:∀p a,t0<=p->Ě t p=À a->t.g? p=À 0\/∃x,x<sp/\t.g? p=À (F.L+x)
 e:∀p a,p<t0->Ě t p=À a->a.loc.isMemory=É->bD t 0 p\/(jm a.loc/\a.kind=Ŕ)
 d:∀p g,p<t0->t.g? p=À g->g≠0->t.counts p->∃j,t.g? j=À 0/\HappensBefore t p j
section
variable{F:Fx}{t0:Nat}{jm:dS->Prop}{sp rl:Nat}{V:Nat->Nat->Prop}{pk:Nat->Nat}{fs:Nat->Option Nat}{rx:Nat->Prop}{ql:Nat->Nat}{t u:ğ}
theorem JR(h:t.g? i=À n):i<t.size:=by unfold Ņ at h;grind
def Gb(h:t.g? i=À n):(t++u).g? i=À n:=by rwa[aG<|JR h]
theorem OL{a:dN}(h:Ě t i=À a):i<t.size:=by let⟨b,c,_⟩:=dO h;grind
structure JS(F:Fx)(sp rl:Nat)(V:Nat->Nat->Prop)(fs:Nat->Option Nat)(rx:Nat->Prop)(t u:ğ)(i:Nat):Prop where
 C:∀op∈u,∀a,op.act.touch?=À a->op.g=i
 S:i=0\/(∃x,x<sp/\i=F.L+x)\/∀op∈u,op.act.touch?=ë
 M:∀op∈u,∀a x,op.act.touch?=À a->a.loc=û x->F.G x->a.kind=Ŕ\/(a.kind=.said/\F.OJ fs x (À i))
 fO:∀op∈u,∀(a:dN) (y:Ú),op.act.touch?=À a->a.write=É->a.loc=û y->∀k,1<=k->k<=rl->¬V k y.block/\y≠jg F k
 N:∀op∈u,∀b,F.M b->op.act≠Ř (dP<|fP b)
 I:∀x,x<sp->rx x->(∀r,RelBy (fP F.C) t (F.L+x) r->RelBy (fP F.C) (t++u) (F.L+x) r)/\(F.L+x=i->∀op∈u,∀a,op.act.touch?=À a->(∃y:Ú,a.loc=û y/\y.block=F.C)/\a.kind=Ŕ)
def TI.C(h:TI F t0 jm sp rl V pk fs rx ql t)(f:JS F sp rl V fs rx t u i):TI F t0 jm sp rl V pk fs rx ql (t++u) where
 N:=by rw[Array.size_append];have:=h.N;omega
 M p a x n y hc:=by
  rcases mU n with⟨d,c⟩|⟨d,m,c,l,j⟩
  .rw[aG d];exact h.M p a x c y hc
  .refine Î ((f.M m c a x l y hc).imp id λq=>⟨q.1,?_⟩);have:(t++u).g? p=À i:=by unfold Ņ;rw[j];simp[f.C m c a l]
   rw[this];exact q.2
 AN x r p d o:=(h.AN x r p d<|by rwa[aG<|Ô d h.N]at o).app u;Y k c l:=by let⟨v,s,b⟩:=h.Y k c l;have w:=JR s;exact⟨by rwa[dQ w],Gb s,(heard_old w).2 b⟩
 I k c l a n:=(h.I k c l a n).OH λm B b z y C=>by have:=f.fO m B b a z C y k c l;exact n.elim this.1 this.2
 c b z:=(h.c b z).app λm B=>f.N m B b z;r x r hr:=by
  let⟨v,s⟩:=h.r x r hr;let⟨D,E⟩:=f.I x r hr;refine⟨D _ v,λp a n o=> ?_⟩;rcases mU n with⟨d,c⟩|⟨d,m,c,l,j⟩
  .exact s p a c<|by rwa[aG d]at o
  .have e:(t++u).g? p=À i:=by unfold Ņ;rw[j];simp[f.C m c a l]
   rw[e]at o;exact Î<|E (Ĥ o).symm m c a l
 S p a d n:=by
  rcases mU n with⟨D,c⟩|⟨_,m,c,l,j⟩
  .rw[aG D];exact h.S p a d c
  .have e:(t++u).g? p=À i:=by unfold Ņ;rw[j];simp[f.C m c a l]
   rw[e];rcases f.S with q|⟨x,r,q⟩|q
   .exact Ç<|by rw[q]
   .exact Î ⟨x,r,by rw[q]⟩
   .rw[q m c]at l;cases l
 e p a d n hm:=by rw[touchAt_old<|Ô d h.N]at n;exact(h.e p a d n hm).imp (·.app u) id
 d p g d o lF hc:=by have w:=Ô d h.N;rw[aG w]at o;rw[ep w]at hc;let⟨j,v,s⟩:=h.d p g d o lF hc;exact⟨j,Gb v,ei u s⟩
theorem yF(f:∀c∈u,c.act.touch?=ë)(h:∀c∈u,∀b,F.M b->c.act≠Ř (dP<|fP b)):JS F sp rl V fs rx t u 0 where
 C c e a d:=by rw[f c e]at d;cases d
 S:=Ç U;M c e a x d:=by rw[f c e]at d;cases d
 fO c e a y d:=by rw[f c e]at d;cases d
 N:=h;I x hx g:=by refine⟨λr g=>g.app λj l m i=> ?_,λ_ c e a d=>by rw[f c e]at d;cases d⟩;let⟨z,k,_⟩:=i;rcases mU k with⟨q,_⟩|⟨_,c,n,o,_⟩;all_goals grind
def TI.agB(h:TI F t0 jm sp rl V pk fs rx ql t){b:Nat->Option Nat}(c:∀k y,fs k=À y->b k=À y):TI F t0 jm sp rl V pk b rx ql t:= {h with M:=λp a x d e f=>(h.M p a x d e f).imp id (Or.imp id λq=>⟨q.1,q.2.imp id λ⟨k,j,g,i,l,m⟩=>⟨k,j,g,i,c k j l,m⟩⟩)}
theorem TI.Gc(h:TI F t0 jm sp rl V pk fs rx ql t){y:cX}(j:wQ.g=0/\wQ.act=.go (F.L+sp))(k:y.g=F.L+sp/\y.act=.start)(m:Τ t 0=0)(n:Τ t (F.L+sp)=0)(B:¬rx sp)(o:∀wQ,rx wQ->wQ<sp):TI F t0 jm (sp+1) rl V pk fs rx ql (t++#[wQ,y]):=by
 have q:∀c∈#[wQ,y],c.act.touch?=ë:=by
  intro c a;simp at a;rcases a with rfl|rfl
  .rw[j.2];rfl
  .rw[k.2];rfl
 have r:∀c∈#[wQ,y],∀b,F.M b->c.act≠Ř (dP<|fP b):=by grind
 have d:=h.C<|yF q r;refine{d with AN:=λz s p f i=> ?_,r:=λz s l=>d.r z (o z l) l,S:=λp a f u=>((d.S p a f u).imp id λ⟨z,v,e⟩=>⟨z,Z,e⟩)}
 .by_cases e:z<sp
  .exact d.AN z e p f i
  .obtain rfl:z=sp:=Z
   rw[aG<|Ô f h.N]at i;let⟨c,v,w⟩:=ģ.1 i;have:=bn v;rw[w]at this;exact cO j k m n this
theorem agC{y:cX}(d:wQ.g=0/\wQ.act=.go k)(e:y.g=k/\y.act=.start)(j:Τ t 0=0)(m:Τ t k=0){l:dS}:(qH t 0 l->qH (t++#[wQ,y]) k l)/\(pv t 0 l->pv (t++#[wQ,y]) k l):=by
 have q:∀c∈#[wQ,y],c.act.touch?=ë:=by
  intro c a;simp at a;rcases a with rfl|rfl
  .rw[d.2];rfl
  .rw[e.2];rfl
 refine⟨λh p a f i=> ?_,λh p a f i n=> ?_⟩
 .rcases mU f with⟨_,b⟩|⟨_,c,b,o,_⟩
  .exact cO d e j m<|h p a b i
  .grind
 .rcases mU f with⟨_,b⟩|⟨_,c,b,o,_⟩
  .exact cO d e j m<|h p a b i n
  .grind
theorem TI.agD(h:TI F t0 jm sp rl V pk fs rx ql t)(f:wQ.g=F.L)(i:wQ.act=Ř (Ķ<|fP<|F.I<|rl+1))(l:Τ t F.L=0)(q:∀a:Ú,(V (rl+1) a.block\/a=jg F (rl+1))->pv t F.L (û a)): TI F t0 jm sp (rl+1) V (fA pk (rl+1) t.size) fs rx ql (t++#[wQ]):=by
 have m:∀c∈#[wQ],c.act.touch?=ë:=by
  intro c e;have:c=wQ:=by simpa using e
  rw[this,i];rfl
 have d:=h.C (yF m λc e b _=>by grind);have n:(t++#[wQ])[t.size]?=À wQ:=by rw[ć<|ß _];simp
 have j:∀k,k<=rl->fA pk (rl+1) t.size k=pk k:=λk r=>fK pk _ Z;refine{d with Y:=λk b o=> ?_,I:=λk b o a p=> ?_}
 .by_cases e:k=rl+1
  .subst e;rw[gG];exact⟨by rw[eC n,i],by simp[Ņ,f],⟨F.L,by simp[Ņ,f],by rwa[cN<|ß _]⟩⟩
  .rw[j k Z];exact d.Y k b Z
 .by_cases e:k=rl+1
  .grind [gG,agA]
  .rw[j k Z];exact d.I k b Z a p
theorem TI.agE(h:TI F t0 jm sp rl V pk fs rx ql t){x:Nat}(r:x<sp)(d:wQ.g=F.L+x)(f:wQ.act=Ř (Ķ<|fP F.C))(k:Τ t (F.L+x)=0)(s:¬rx x): TI F t0 jm sp rl V pk fs (λz=>rx z\/z=x) (fA ql x t.size) (t++#[wQ]):=by
 have l:∀c∈#[wQ],c.act.touch?=ë:=by
  intro c a;have:c=wQ:=by simpa using a
  rw[this,f];rfl
 have j:=h.C (yF l λc a b _=>by grind);have b:(t++#[wQ])[t.size]?=À wQ:=by rw[ć<|ß _];simp
 refine{j with r:=λz m n=> ?_};by_cases e:z=x
 .subst e;rw[gG];refine⟨⟨by rw[eC b,f],by simp[Ņ,d],⟨F.L+z,by simp[Ņ,d],by rwa[cN<|ß _]⟩,λi u o=> ?_⟩,λp a q _=>Ç ?_⟩
  .have:=JR o;simp at this;omega
  .have:=OL q;simp at this;omega
 .rw[fK ql _ e];exact j.r z m<|n.resolve_right e
def Xv(e:t.act? i=À (Ř<|Ķ a))(f:t.g? i=À k)(h:t.heard i)(l:NoRelease a t)(c:wQ.g=n)(m:wQ.act=Ř (cL a))(o:Τ t n=0):bD (t++#[wQ]) n i:=by
 have b:=JR f;have d:(t++#[wQ])[t.size]?=À wQ:=by rw[ć<|ß _];simp
 refine⟨t.size,wQ,d,c,Î<|.single<|Î ⟨.marked b (Î<|by rwa[dQ b]) (by rw[eC d,m]) λj _ q=> ?_,(heard_old b).2 h,⟨n,by simp[Ņ,c],by rwa[cN<|ß _]⟩⟩⟩;rw[dQ q];exact l j
theorem TI.kY(h:TI F t0 jm sp rl V pk fs rx ql t)(G:wQ.g=0)(o:wQ.act=Ř (cL<|fP F.C))(H:Τ t 0=0)(k:∀x,x<sp->rx x): (∀p a,Ě (t++#[wQ]) p=À a->a.loc.isMemory=É->bD (t++#[wQ]) 0 p\/((jm a.loc\/∃x:Ú,a.loc=û x/\x.block=F.C)/\a.kind=Ŕ))/\(t++#[wQ]).HandedOver:=by
 have Q:wQ.act.touch?=ë:=by rw[o];rfl
 have s:=λx c=>by let⟨b,_⟩:=h.r x c<|k x c;exact Xv b.act b.g b.heard (h.c _<|Ç U) G o H
 have u:∀p a,Ě (t++#[wQ]) p=À a->p<t.size/\Ě t p=À a:=λp a l=>by rcases mU l with q|⟨_,v,d,w,_⟩;all_goals grind
 have B:∀p q x,t.g? p=À (F.L+x)->t.g? q=À (F.L+x)->p<=q->Before (t++#[wQ]) p q:=λp q x d w S=>by
  rcases Nat.lt_or_ge p q with f|i
  .exact Î<|.single<|Ç ⟨f,_,Gb d,Gb w⟩
  .exact Ç Z
 refine⟨λp a l I=> ?_,λp g C J K=> ?_⟩
 .let⟨f,d⟩:=u p a l;by_cases e:p<t0
  .rcases h.e p a e d I with q|⟨b,i⟩
   .exact Ç<|q.app _
   .grind
  .rcases h.S p a Z d with q|⟨x,c,q⟩
   .let⟨v,m,n⟩:=ģ.1 q;have:=bn m;rw[n]at this;exact Ç<|this.app _
   .let⟨b,i⟩:=h.r x c<|k x c;rcases i p a d q with z|⟨j,P⟩
    .exact Ç<|Knows.of_before (B p (ql x) x q b.g z)<|s x c
    .grind
 .let⟨z,D,M,N⟩:=K;let⟨f,d⟩:=u p z D;have O:t.g? p=À g:=by rwa[aG f]at C
  have E:=(ep f).1 ⟨z,D,M,N⟩;by_cases e:p<t0
  .let⟨j,b,i⟩:=h.d p g e O J E;exact⟨j,Gb b,ei _ i⟩
  .rcases h.S p z Z d with q|⟨x,c,q⟩
   .grind
   .let⟨b,_⟩:=h.r x c<|k x c;let⟨r,v,m,n,i⟩:=s x c;have j:(t++#[wQ]).g? r=À 0:=by unfold Ņ;rw[m];simp[n]
    refine⟨r,j,?_⟩;rcases(B p (ql x) x q b.g<|Nat.le_of_not_lt λP=>b.after p P q E).trans i with P|P;all_goals grind
end
end Go.Proofs.Y.fy
namespace Go.Proofs.Y.fy
open Go Go.Conc Go.Proofs.Y.Lift
open Go.ConcN (sumTo)
structure Ph extends Fx where
 P:Õ
 S:Nat
 n:Nat
 q:Nat
 Y:Nat
 f:Nat
 r:Nat->Nat
 a:Nat->Nat
 b:Nat->Nat
 c:Nat->Â
 z:Â
 B:Nat
 γ:Type
 l:γ
 i:Nat->Prop
 p:Nat->γ->γ->Prop
 d:Nat->γ->(Nat->Prop)->Æ->Prop
 o:Nat->ByteArray
 k:Nat->ByteArray
 g:Nat->(Nat->Nat)->Jd
 h:Nat->Jd
 e:Nat->Nat->Jd
 j:(Nat->Nat)->Jd
inductive nz(F:Ph):Nat->F.γ->Prop
 |vr:nz F 0 F.l
 |Df {k:Nat} {s s':F.γ} (h:nz F k s) (hn:F.p k s s'):nz F (k+1) s'
def jo(F:Ph)(p:Nat):Ú:=⟨F.Y,p,ë⟩
inductive fY where
 |go (j:Nat)|lG (j:Nat)|rd (j:Nat)|iH (j:Nat)|iL (r:Nat)|kY (r:Nat)|fB (p:ju)|gi
inductive jx where
 |kP (k:Nat)|mk (k:Nat)|dn (k:Nat) (p:jF)
inductive gO where
 |ny (r:Nat)|fB (r:Nat) (p:ju)|jN (r:Nat)|oO (r:Nat)
inductive im where
 |oQ|gi (p:jF)|jr (N:Nat)
section
variable(F:Ph)
def Gd:Jd:=λl g=>∃N,QuitsD F.P N l.d g
def kE(l:ff):ff:={l with O:=λ_=>False,I:=λ_=>False,r:=λ_=>False,N:=λ_=>False,q:=True}
def AO:Jd:=λl g=>De F.P Ã F.C (Gd F) .jD (kE l) g
def Dg(c j r:Nat):Jd:=wY F.P Ã c F.z λx=>match x with
 |some v=>λl g=>v=F.c (j+r*F.n)->qL F.P Ã F.B (F.I<|F.r<|j+r*F.n) (F.e c<|j+r*F.n) .iZ l g
 |none=>AO F
def vx(l:ff)(i:Nat):ff:={l with r:=λa=>l.r a/\a≠jo F (F.a i),N:=λa=>l.N a\/a=jo F (F.a i)}
def p7(l:ff)(k:Nat):ff:={l with O:=λ_=>False,I:=l.M,r:=λa=>l.r a/\a≠jo F (F.b k)/\a≠jg F.toFx k,N:=λa=>l.N a\/a=jo F (F.b k)\/a=jg F.toFx k}
def JW(c j:Nat):gO->Jd
 |.ny r=>Dg F c j r
 |.fB r p=>qL F.P Ã F.B (F.I<|F.r<|j+r*F.n) (F.e c<|j+r*F.n) p
 |.jN r=>F.e c<|j+r*F.n
 |.oO r=>λl g=>l.w.cell? (jo F<|F.a<|j+r*F.n)=À (ħ<|F.k<|j+r*F.n)/\Dg F c j (r+1) (vx F l<|j+r*F.n) g
def JI(sg:Nat->F.γ):jx->Jd
 |.kP k=>F.h k
 |.mk k=>λl g=>∃p V,F.p (k-1) (sg<|k-1) p/\F.d k p V l.w/\(∀b,V b->l.M b)/\l.w.cell? (jo F<|F.b k)=À (ħ<|F.o k)/\De F.P Ã (F.I k) (fl F.P Ã<|F.h k) .jD (p7 F l k) g
 |.dn k p=>De F.P Ã (F.I k) (fl F.P Ã<|F.h k) p
def JE:im->Jd
 |.oQ=>AO F
 |.gi p=>De F.P Ã F.C (Gd F) p
 |.jr N=>pw F.P N
def JU(j:Nat)(a:Nat->Nat):Jd:=λl g=>∃c,F.g j (fA a (j-1) c) l g
def Xw(j:Nat)(a:Nat->Nat):Jd:=λl g=>l.d=1/\F6 F.P É (.read<|gX F.C) (JU F j a) l g
def OM(j:Nat)(a:Nat->Nat):Jd:=λl g=>l.d=1/\Oo F.P É (fP F.C) gd (λs=>if s=gd then fl F.P É (Xw F j a)else if gd<s/\s<1000000*gd/\s%gd=0 then fl F.P É (JU F j a)else λ_ _=>True) l g
def AP(a:Nat->Nat):Nat->Jd
 |0=>qL F.P É F.B F.C (F.j a) .iZ
 |r+1=>JD F.P É (a<|F.n-(r+1))<|AP a r
def Ge(a:Nat->Nat):Nat->Jd
 |0=>AP F a F.n
 |r+1=>AJ F.P É (a<|(F.q-(r+1))%F.n) (F.c<|F.q-(r+1))<|Ge a r
def JM(dk:Nat->Nat):fY->Jd
 |.go j=>F.g j dk
 |.lG j=>JU F j dk
 |.rd j=>Xw F j dk
 |.iH j=>OM F j dk
 |.iL r=>Ge F dk r
 |.kY r=>AP F dk r
 |.fB p=>qL F.P É F.B F.C (F.j dk) p
 |.gi=>F.j dk
def lW(x:Nat)(a:Ú):Prop:=if x=0 then(∃k,1<=k/\k<=F.m/\(a=jg F.toFx k\/a=jo F (F.b k)))else∃i,i<F.q/\i%F.n=x-1/\a=jo F (F.a i)
end
def fY.sp(n:Nat):fY->Nat
 |.go j|.lG j|.rd j|.iH j=>j
 |_=>n+1
def fY.ad(n:Nat):fY->Nat
 |.iH j=>j
 |.go j|.lG j|.rd j=>j+1
 |_=>n+1
def fY.mF(q:Nat):fY->Nat
 |.go _|.lG _|.rd _|.iH _=>0
 |.iL r=>q-r
 |_=>q
def fY.jf(n:Nat):fY->Nat
 |.kY r=>n-r
 |.fB _|.gi=>n
 |_=>0
def ju.sU:ju->Nat
 |.wr|.kD=>1
 |_=>0
def fY.gF:fY->Nat
 |.fB p=>p.sU
 |_=>0
def jF.kQ:jF->Nat
 |.jD|.iH=>1
 |_=>0
def im.kQ:im->Nat
 |.oQ=>1
 |.gi p=>p.kQ
 |_=>0
def im.ox:im->Prop
 |.oQ=>False
 |_=>True
def mg:Option im->Nat
 |none=>1
 |some e=>e.kQ
def jF.iz:jF->Prop
 |.jD=>False
 |_=>True
def im.iz:im->Prop
 |.oQ=>False
 |.gi p=>p.iz
 |_=>True
def jx.md:jx->Nat
 |.kP k=>k
 |.mk k=>k-1
 |.dn k _=>k
def jx.rl:jx->Nat
 |.kP k=>k
 |.mk k=>k-1
 |.dn k .jD=>k-1
 |.dn k _=>k
def jx.od:jx->Nat
 |.kP k=>k
 |.mk k=>k-1
 |.dn k .jD|.dn k .iH=>k-1
 |.dn k _=>k
def gO.iO:gO->Nat
 |.ny r=>r
 |.fB r _|.jN r|.oO r=>r+1
def gO.kF:gO->Nat
 |.ny r|.fB r _|.jN r|.oO r=>r
def gO.gF(F:Ph)(j:Nat)(k:Nat):gO->Nat
 |.fB r p=>if F.r (j+r*F.n)=k then p.sU else 0
 |_=>0
structure fV(F:Ph) where
 M:fY
 S:jx
 C:Nat->gO
 N:Nat->Option im
 I:Nat->Nat
 c:Nat->F.γ
 V:Nat->Nat->Prop
 e:Nat->Nat
 d:Nat->Option Nat
 f:Nat->Nat
 b:GS
 a:Nat->GS
 g:Option Nat
 h:Nat->Nat
section
variable{F:Ph}
def fV.r(E:fV F):Nat:=E.M.sp F.n
def fV.G(E:fV F)(x:Nat):Nat:=if x<E.M.ad F.n then mg (E.N x)else 0
def fV.iz(E:fV F)(x:Nat):Prop:=∃e,E.N x=À e/\e.iz
def fV.ox(E:fV F)(x:Nat):Prop:=∃e,E.N x=À e/\e.ox
def fV.Y(E:fV F)(b:Nat):Prop:=F.M b\/b=F.Y\/∃j,j+2<=E.r/\b=E.I j
def tU(n j Q s:Nat):Prop:=∀i,i<s↔j+i*n<Q
def kM:fY->iC
 |.fB .kD=> .iD
 |_=> .no
def kW(F:Ph)(c:Nat):gO->iC
 |.ny _=> .sS c F.z
 |.fB _ .kD=> .iD
 |_=> .no
end
structure Ph.Ok(F:Ph):Prop where
 N:1<=F.n
 r:1<=F.L
 gk:F.n+F.q+F.m<1000
 I:∀i,i<F.q->F.r i<=F.m
 M:∀k,k<=F.m->F.I k≠F.C
 S:∀k k',k<=F.m->k'<=F.m->F.I k=F.I k'->k=k'
 C:¬F.M F.Y
 a:∀i i',i<F.q->i'<F.q->F.a i=F.a i'->i=i'
 pi:∀k k',1<=k->k<=F.m->1<=k'->k'<=F.m->F.b k=F.b k'->k=k'
 ON:∀i k,i<F.q->1<=k->k<=F.m->F.a i≠F.b k
 gy:∀b,F.M b\/b=F.Y->F.S<=b
 Y:(∀k,1<=k->k<=F.m->F.b k≠F.f)/\∀i,i<F.q->F.a i≠F.f
structure iI(F:Ph)(E:fV F)(lot:Nat->ff)(sz:Nat)(w:Æ):Prop where
 gU:∀i,i<sz->∀a,(lot i).C a->(∃k,k<=F.m/\a=jg F.toFx k)\/∃p,p≠F.f/\a=jo F p
 o:∀x,E.r<=x->x<=F.n->∀a,lW F x a->(lot 0).r a
 lT:E.r<=F.n->(lot 0).N (jg F.toFx 0)/\∀b,F.i b->(lot 0).I b
 e:0<E.r->∀k,E.S.md<k->k<=F.m->(lot F.L).r (jg F.toFx k)/\(lot F.L).r (jo F<|F.b k)
 f:0<E.r->E.N 0=ë->(lot F.L).N (jg F.toFx E.S.md)/\∀b,E.V E.S.md b->(lot F.L).I b
 h:∀j,j+2<=E.r->E.N (j+1)=ë->∀r,j+r*F.n<F.q->(E.C j).kF<=r->(lot<|F.L+1+j).r (jo F<|F.a<|j+r*F.n)
 l:∀j,j+2<=E.r->E.N (j+1)=ë->(lot<|F.L+1+j).N (jg F.toFx 0)/\∀b,F.i b->(lot<|F.L+1+j).I b
 S:∀x,E.ox x->lot (F.L+x)=kE (lot<|F.L+x)
 M:∀i,(i=0\/∃x,x<E.r/\i=F.L+x/\¬E.ox x)->¬(lot i).q
 c:∀i,0<i->i<F.L->lot i=kE (lot i)
 I:∀k,k<=E.S.md->∀b,E.V k b->b<w.heap.size/\¬E.Y b/\∀i,i<sz->¬(lot i).O b
 N:∀k,k<=E.S.md->∀i,i<sz->¬(lot i).r (jg F.toFx k)
 g:∀k,1<=k->k<=E.S.md->∀i,i<sz->¬(lot i).r (jo F<|F.b k)
 d:∀j,j+2<=E.r->∀r,j+r*F.n<F.q->r<(E.C j).kF->∀i,i<sz->¬(lot i).r (jo F<|F.a<|j+r*F.n)
structure Wd(F:Ph)(E:fV F)(w:Æ):Prop where
 C:ic w F.C E.b
 I:∀k,k<=F.m->ic w (F.I k) (E.a k)
 jG:∀j,j+2<=E.r->∃buf s,w.heap[E.I j]?=À (χ F.q buf (decide<|j<E.M.jf F.n) s (E.C j).iO Ã)/\tU F.n j (E.M.mF F.q) s/\(E.C j).iO<=s/\buf.size=s-(E.C j).iO/\∀i,i<s-(E.C j).iO->buf[i]?=À (F.c<|j+((E.C j).iO+i)*F.n)
 M:∀k,k<=E.S.md->nz F k (E.c k)/\F.d k (E.c k) (E.V k) w
 S:∀k,1<=k->k<=E.S.md->w.cell? (jo F<|F.b k)=À (ħ<|F.o k)
 N:∀j,j+2<=E.r->∀r,j+r*F.n<F.q->r<(E.C j).kF->w.cell? (jo F<|F.a<|j+r*F.n)=À (ħ<|F.k<|j+r*F.n)
structure Ps(F:Ph)(E:fV F):Prop where
 v:E.V 0=F.i
 C:∀j,E.M=.go j\/E.M=.lG j\/E.M=.rd j\/E.M=.iH j->j<=F.n
 K:∀j,E.M=.lG j\/E.M=.rd j\/E.M=.iH j->1<=j
 L:∀r,(E.M=.iL r->r<=F.q)/\(E.M=.kY r->r<=F.n)
 J:E.r=0->E.S=.kP 0
 I:∀k,(E.S=.kP k->k<=F.m)/\(E.S=.mk k->1<=k/\k<=F.m)/\(∀p,E.S=.dn k p->1<=k/\k<=F.m)
 z:∀j,E.r<j+2->E.C j=.ny 0
 d:∀j r,j+2<=E.r->((∃p,E.C j=.fB r p)\/E.C j=.jN r\/E.C j=.oO r)->j+r*F.n<F.q
 l:∀j,j+2<=E.r->E.N (j+1)≠ë->j<E.M.jf F.n/\∃r,E.C j=.ny r/\∀i,j+i*F.n<F.q->i<r
 f:E.N 0≠ë->E.S=.kP F.m
 h:∀x,E.r<=x->E.N x=ë
 M:∀j j',j+2<=E.r->j'+2<=E.r->E.I j=E.I j'->j=j'
 o:∀j,j+2<=E.r->¬F.M (E.I j)/\E.I j≠F.Y/\F.S<=E.I j
 t:∀c reg,E.b=.cl c reg->c=bE (F.n+1) E.G/\reg=E.M.gF
 g:∀reg,E.b=.jE reg->bE (F.n+1) E.G=0/\reg=E.M.gF/\∃x,x<E.r/\E.g=À x/\(E.N x=À (.gi (.gC reg))\/E.N x=À (.gi (.jd reg)))
 u:∀r s,E.b=.gY r s->bE (F.n+1) E.G=0/\r+s=E.M.gF/\(0<r->∃x,x<E.r/\E.g=À x/\E.N x=À (.gi (.iD r)))
 N:∀x p,E.N x=À (.gi p)->(∀W,p=.gC W\/p=.jd W->E.g=À x/\E.b=.jE W)/\(∀r,p=.iD r->0<r/\E.g=À x/\∃s,E.b=.gY r s)
 B:E.M=.fB .gC\/E.M=.fB .lk\/E.M=.gi->bE (F.n+1) E.G=0
 e:∀k,1<=k->k<=F.m->E.S.od<k->E.a k=.cl 1 (bE F.n λj=>(E.C j).gF F j k)
 Y:∀k,k<=F.m->k<=E.S.od->(∃W,(E.S=.dn k (.gC W)\/E.S=.dn k (.jd W))/\E.a k=.jE W/\W=bE F.n λj=>(E.C j).gF F j k)\/(∃r s,E.S=.dn k (.iD r)/\0<r/\E.a k=.gY r s/\r+s=bE F.n λj=>(E.C j).gF F j k)\/((∀p,E.S≠ .dn k p)/\((E.a k=.cl 0 0/\(bE F.n λj=>(E.C j).gF F j k)=0)\/∃s,E.a k=.gY 0 s/\s=bE F.n λj=>(E.C j).gF F j k))
 w:∀j r,j+2<=E.r->(E.C j=.fB r .gC\/E.C j=.fB r .lk\/E.C j=.jN r)->F.r (j+r*F.n)<=E.S.od
 H:∀j r,j+2<=E.r->E.C j=.fB r .gC->∃a b,E.a (F.r<|j+r*F.n)=.gY a b
 O:E.M=.fB .gC->∃a b,E.b=.gY a b
 S:(∀p,E.M≠ .fB p)->E.M≠ .gi->∃c,E.b=.cl c 0
 y:∀k,k<=F.m->E.a k=.cl 1 0->E.d k=ë
 D:∀j r,j+2<=E.r->E.C j=.fB r .wr->E.d (F.r<|j+r*F.n)=À j
def fj(F:Ph)(E:fV F)(a:Array Ó)(w:Æ):Prop:=∀i g,a[i]?=À g->g.status=Ů->
 (i=0/\E.M=.fB .kD/\E.b.sm=0)\/(∃j,j+2<=E.r/\E.N (j+1)=ë/\i=F.L+1+j/\((∃r,E.C j=.fB r .kD/\(E.a<|F.r<|j+r*F.n).sm=0)\/∃r b s c,E.C j=.ny r/\w.heap[E.I j]?=À (χ b #[] Ã s c Ã)))
structure PI(F:Ph)(t0:Nat)(jm:dS->Prop)(E:fV F)(S:Nat->Jd)(tr:Nat->gB)(kp:Nat->iC)(lot:Nat->ff)(gs:Array Ó)(w:Æ)(t:ğ):Prop where
 b:gs.size=F.L+E.r
 I:gM F.P F.S E.Y S tr kp lot gs w t
 h:S 0=JM F E.I E.M/\kp 0=kM E.M
 m:0<E.r->E.N 0=ë->S F.L=JI F E.c E.S/\kp F.L=.no
 g:∀j,j+2<=E.r->E.N (j+1)=ë->S (F.L+1+j)=JW F (E.I j) j (E.C j)/\kp (F.L+1+j)=kW F (E.I j) (E.C j)
 k:∀x e,x<E.r->E.N x=À e->S (F.L+x)=JE F e/\kp (F.L+x)=.no/\((∃N,e=.jr N)->tr (F.L+x)=.fD)
 l:∀i,0<i->i<F.L->S i=pw F.P (E.h i)/\tr i=.fD/\kp i=.no
 a:iI F E lot gs.size w
 M:Wd F E w
 C:Ps F E
 d:TI F.toFx t0 jm E.r (E.S.rl) E.V E.e E.d E.iz E.f t
 c:fj F E gs w
 f:∀j r,j+2<=E.r->E.C j=.jN r->1<=F.r (j+r*F.n)->bD t (F.L+1+j) (E.e<|F.r<|j+r*F.n)
structure gS(F:Ph):Prop where
 C:F.Ok
 S:∀k s V w w',F.d k s V w->(∀b,V b->w'.heap[b]?=w.heap[b]?)->w'.cell? (jg F.toFx k)=w.cell? (jg F.toFx k)->w'.cell? (jo F F.f)=w.cell? (jo F F.f)->kX w' F.Y=kX w F.Y->(w'.os=w.os/\w'.output=w.output)->F.d k s V w'
 Gf:∀j dk l g w₁,F.g j dk l g->fJ l l.w w₁->F.g j dk {l with w:=w₁} g
 I:∀j dk l g,F.g j dk l g->g.status=Ð
 N:∀k l g,F.h k l g->g.status=Ð
 Y:∀c i l g,F.e c i l g->g.status=Ð
 M:∀dk l g,F.j dk l g->g.status=Ð
 go:∀j dk l g,j<=F.n->F.g j dk l g->gD l->l.d=0/\∃(g' child:Ó) (X:Nat->Prop),g'.status=Ð/\child.status=Ð/\(∀w₁,Ù F.P É g w₁=.spawn g' child w₁ #[])/\(∀b,X b->l.O b)/\
  (1<=j->l.O (dk<|j-1)/\¬X (dk<|j-1)/\l.w.heap[dk<|j-1]?=À (χ F.q #[] Ã 0 0 Ã)/\F.S<=dk (j-1))/\
  (∀l':ff,gD l'->(∀b,X b\/l.I b->l'.I b)->l'.w=l.w->l'.d=0->¬l'.q->(∀b,¬l'.O b)->l'.K=l.K->l'.N=l.N->(∀a,l'.r a->l.r a)->fl F.P Ã (if j=0 then F.h 0 else Dg F (dk<|j-1) (j-1) 0) l' child)/\
  (∀l':ff,gD l'->l'.O=(λb=>l.O b/\¬X b/\(1<=j->b≠dk (j-1)))->(∀b,X b\/l.I b->l'.I b)->l'.w=l.w->l'.d=0->l'.q=l.q->l'.K=l.K->l'.N=l.N->(∀a,l'.r a->l.r a)->fl F.P É (JM F dk<|if j<F.n then .iH (j+1)else .iL F.q) l' g')
 f:∀k s V l g,k<F.m->F.h k l g->gD l->nz F k s->F.d k s V l.w->(∀b,V b->l.I b)->l.N (jg F.toFx k)->l.r (jg F.toFx<|k+1)->l.r (jo F<|F.b<|k+1)->∀sg:Nat->F.γ,sg k=s->fl F.P Ã (JI F sg<|.mk (k+1)) l g
 h:∀l g,F.h F.m l g->gD l->fl F.P Ã (AO F) l g
 e:∀c j r s V l g,j+r*F.n<F.q->F.e c (j+r*F.n) l g->∀l':ff,gD l'->l'.O=l.O->(∀b,l.I b\/V b->l'.I b)->l'.w=l.w->l'.d=l.d->l'.q=l.q->l'.r=l.r->l'.K=l.K->nz F (F.r<|j+r*F.n) s->F.d (F.r<|j+r*F.n) s V l.w->l'.N (jg F.toFx<|F.r<|j+r*F.n)->l'.r (jo F<|F.a<|j+r*F.n)->fl F.P Ã (JW F c j<|.oO r) l' g
end Go.Proofs.Y.fy
