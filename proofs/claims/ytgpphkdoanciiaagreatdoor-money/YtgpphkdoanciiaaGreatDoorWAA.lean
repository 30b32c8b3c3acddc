/- Money: the texts of the proof, packed by program out of some 250: remarks struck, names and blanks shortened, for the limit of a claim's size. -/
import Derived.KernelRfl
import Derived.Conc.Own
import Derived.Conc.Events
import Derived.Laws.Sem
import Derived.Conc.Own5
import Derived.Conc.CompanyDraw
import Derived.Conc.Know
import Derived.Conc.Beside
import Derived.Conc.MarkLaws
import Derived.Conc.CrowdComm
import Derived.Conc.CrowdTrace
import Derived.Conc.CrowdBase
set_option linter.all false
set_option maxRecDepth 1000000
set_option maxHeartbeats 8000000
open Option renaming some->À,none->ì,map_eq_some_iff->ī,map_some->bT
open Go renaming TypeId->Á,Value->Ã,World->Ç,Goroutine->Ó,Program->Ö,Operand->Ù,Addr->Û,stepG->Ü,FuncId->â,execOp->í,underlying->ö,typeInfo->ý,resolve->þ,variablesAt->ÿ,IntKind->Ā,Event->ă,run_program->ĉ,loadBytes->đ,invoke->ē,builtin->Ę,Sem->ę,zeroValue->ě,Frame->Ğ,Trace->ħ,BinOp->ĩ,results->ı,behindNumber->ķ,FloatKind->ĺ,callFunc->ľ,askRoom->Ł,newRow->ņ,undef->ň,choose->Ŏ,yielded->ŏ,sizeOf->ŗ,storeCells->Ř,elemOf->ř,loadCellsFrom->ś,convert->š,movedNumber->Ť,Item->Ū,movedPointer->ű,binOp->Ź,sameAddr->ż,deafBehind->Ž,eqGuard->Η,partners->ε,RuntimeError->θ,Next->ο,cellAtBytes->ai,Tape->az,loadVar->aA,Code->aG,store->aH,Oper->aJ,BoundsCode->aK,storeVar->aX,nilAhead->bk,lone->bn,load->bu,noView->bx,liesAt->bz,findLabel->bC,stringish->bF,Unsupported->bI,followBlind->bK,Act->bR,Machine->cj,Question->cu,asBool->cx,asAddr->cy,fieldPlace->cz,viewAt->cC,numberAt->cD,asNumber->cE,getObj->cH,shape->cI,exitTo->cP,gotoIn->cQ,mayBeOne->cW,runT->dp,MemOp->dq,loadCells->dr,rowAt->dt,program->dw,asIntOf->dx,byteOf->dA,unwind->dF,runN->dG,cellsIn->dH,asInt->dM,TypeDesc->dQ,runN_add->dT,Touch->dW,step->ea,Loc->eb,mark->ec,newObj->ep,PanicEntry->eB,freeze->eC,isAgg->eI,Race->eR,newVar->eX,asAgg->eY
open Bool renaming false->Â,false_eq_true->Æ,true->È,and_eq_true_iff->Þ,not_true->Ą,not_false->Ĉ,and_eq_true->Ģ,or_eq_true_iff->ū,eq_iff_iff->σ,or_eq_true->bU
open Go.Sem renaming run_bind->Ä,runT_bind'->Ñ,run->å,bind->é,runT->ë,run_bind'->Ľ,bind_assoc'->Ũ,runT_eq->Κ,runT_fst->π,pure->aW,store->du,halt->eH
open Or renaming inl->Å,inr->Ì
open Go.Result renaming andThen_ok->É,ok->ĭ,halt->cw
open Go.Op renaming operands->Ê,equal->ù,maxDepth->ć,eqGuardIn->ĸ,twoPlaces->Ű,equalIn->ι,addrSub->κ,addrCmp->ν,addrMod->ξ,call->υ,intDiv->aC,shift->aY,convert->bb,stringOp->bJ,unary->cB,makeInterface->cV,floatArith->dh,complexOp->dB,buildSlice->dN,intArith->dO,floatCmp->dP,binOp->ef,makeSlice->eg,fieldAddr->eh,indexAddr->ei,intBits->eu,nilCheck->eN,intCmp->eO
open Array renaming getElem?_eq_some_iff->Ë,getElem?_setIfInBounds_ne->Ï,getElem?_setIfInBounds_self_of_lt->Ò,mem_of_getElem?->Ý,getElem?_eq_getElem->ß,getElem?_append_right->ċ,empty_append->Ĕ,append_empty->ĕ,mapM_eq_mapM_toList->Ě,mem_append->ģ,getElem?_push_lt->Ī,getD_eq_getD_getElem?->İ,range->Ĳ,replicate->ń,append_assoc->Ņ,append_singleton->ō,all_eq_true->Ő,getElem?_modify->Ŕ,mem_iff_getElem->Ŗ,getElem?_setIfInBounds->ũ,getElem_map->Ζ,getElem_extract->ag,toList_zipIdx->aD,foldl_toList->aN,forIn_toList->aS
open Go.stepG renaming exec->Í,apply->bO
open Go.MemOp renaming ofEvents->Î
open Go.GoStatus renaming running->Ð,finished->Ħ,blocked->ž
open Nat renaming lt_of_lt_of_le->Ô,le_refl->à,le_trans->û,exists_eq_add_of_le->ŉ,div_le_div_right->aj,add_assoc->dc,le_of_eq->dK,zero_le->dL
open Go.Builtin renaming firstCells->Õ,unsafeString_->ñ,unsafeAdd_->ó,zeroCells->ø,unsafeSliceData_->ĝ,mayShare->Ĥ,nextslicecap->ĳ,min2->Ļ,append_->ł,min_->ő,copy_->Š,len_->Ů,cap_->ů,lenOf->Τ,holdsCells->aP,unsafeSliceData->bE,unsafeString->dm
open Go.Value renaming pointer->Ø,slice->õ,int->ď,string->ğ,bool->Ň,tuple->Ο,nilIface->br,nilFunc->cm,chan->eG,func->eW
open List renaming map_toArray->Ú,map_cons->ä,map_nil->æ,mem_cons_self->ï,mem_cons_of_mem->ô,eq_nil_of_length_eq_zero->Ć,zipIdx_cons->ĵ,mem_cons->Ţ,mem_singleton->Ż,foldlM_cons->Ω,filter_eq_nil_iff->ς,foldlM_nil->χ,forIn_cons->ψ,mapM_cons->ah,forIn_nil->ax,map_eq_nil_iff->aF,flatMap_cons->bq,mapM_nil->df
open Go.IntKind renaming i64->á,u64->è,u32->Ŧ
open Go.Item renaming inRegion->ã,code->Ė,inLoop->dC,inBlock->dR,inScope->dS
open Go.Act renaming eval->ç
open Go.MemAct renaming ofEvent->ê,touch?->ą,mark->ŧ
open Go.Conc renaming mem_ofEvents->î,touchAt->ġ,crowd->ŀ,woken->Ų,stepG_region_draw->Λ,parked->Χ,Deaf->ρ,rcase->ω,stepG_unwanted->av,g?_old->aU,knows_own->bG,deafBehind_still->bH,stepG_value->bM,stepG_enter->bN,Knows->bP,stepG_cond->cR,mem_listed->cS,stepG_none->cT,enter_at->cU,deaf_old->c9,touch_of->dX,act?_old->dZ,hb_app->eD,touch_mute->eE,counts_old->eF,act?_of->eM
open Go.Next renaming value->ð,enter->ź,skip->aV
open Go.TypeDesc renaming pointer->ò,unsafePointer->ė,string->Ġ,int->Υ,struct->dy,slice->dz
open Go.Call renaming operands->ú
open Go.Conv renaming unsafePointer->ü,bytesToString->Ă,seenAt->Ν,runesToString->aT,floatToFloat->bj,intToString->bB,floatToInt->bW,intToInt->di
open Go.Loc renaming cell->ā,mark->ſ
open Ne renaming symm->Ċ
open Go.World renaming frozen?->Č,setCell->č,freeze->Ĝ,cell?->Ĩ,farLoad->Ś,farStore->Ŵ,shape?->η,setChan->aI,noCell->bh,viewStore->bV
open Go.Extern.BytealgMakeNoZero renaming makeNoZero->Ď,digits->œ
open Go.Mode renaming atomic->Đ,plain->ų
open Go.Obj renaming cells->Ē,pending->Θ,chan->ay
open Go.Callee renaming builtin->ĥ,value->cF
open Option.some renaming inj->Ĭ,injEq->Ξ
open Go.Region renaming wanted->Į,schedule->bY,Mode->eU
open Go.Instr renaming sliceBounds->į,sliceBound->Ĵ,buildSlice->Ķ,storeAt->ļ,makeSlice->Ń,extract->Ŝ,fieldAt->ŝ,indexAt->Ş,sliceAt->ş,makeInterface->Ŭ,loadAt->ŭ,sureAddr->ŵ,fill->Ŷ,alloc->Α,field->Β,slice->Γ,index->Δ,build->Ε,panic->Μ,box->aB
open Go.Deferred renaming ofValue->Ĺ
open Go.Mark renaming releaseMerge->Ŀ,noRoom->ζ,disable->cX,acquire->cZ,enable->dJ,release->dY
open Go.Extern.AbiNoEscape renaming same->Ŋ
open Go.Halt renaming unsupported->ŋ
open Go.Unsupported renaming unsafePointer->Ō,resourceLimit->Ÿ,noEntry->cA
open Go.Trace renaming g?->Œ
open Go.Stepped renaming next->ŕ
open Go.Touch.Kind renaming atomic->ţ
open Go.Frame renaming raise->ť,finish_at->φ,finish->bm,catches->dj,enter->dU
open Go.Question renaming appendCap->ŷ
open Go.GStep renaming after->Ι,go->bl
open Go.RuntimeError renaming error->Ρ
open Go.Goroutine renaming again->ae
open Except renaming bind->ak,pure->ar,error->bS,map->cG
open Go.Op.Complex renaming corrected->au,quotient->aE,product->aQ,arith->bA,conv->bX,cmp->cJ,mul->cK,add->cL,sub->cM,quo->cN
open Go.BinOp renaming eql->aO,neq->aZ
open Go.Operand renaming func->bg,const->ek,global->eJ
open Go.Code renaming cond->bL,region->cg,refuse->dE,label->ew,block->ey,scope->ez
open Go.ConcN renaming sumTo->bQ,fork_knows->da
variable{i n j b k m J j9 j7 j6:Nat}{w u W jX:Ç}{v x z jQ:Ã}{g:Ó}{a p:Û}{h c:Int}{e t T:Á}{d q:Array Ã}{P:Ö}{y:bR}{B:ByteArray}{X:Nat->Prop}{O:Option Û}{l:List Ã}{yQ:Bool}{K H:bR->Ç->Prop}{o:aJ}{D:Nat->Nat}{E:Array Ó}{L:List Ū}{jJ:List Nat}{qX:List Ğ}{qQ:Ù}{qJ:ħ}{zX:eb->Prop}{zQ:List Int}{zJ:Go.TypeInfo}{xX:Ù->Ã}{xQ:az}{xJ:Nat×Nat}{wX:aG}{wQ:dq}{wJ:Array Bool}{vX:List ByteArray}{vQ:Ã->Ç->Prop}{vJ:Go.Exit->bR->Ç->Prop}{yX:eU}{Q:Array aJ}{f:Ğ}{V:Array ă}{F:â}{s:Go.Func}
namespace Go.Proofs
theorem U{A:Sort _}{a:A}:a=a:=rfl
theorem Z{p:Prop}(h:p:=by omega):p:=h
theorem A{p:Prop}(h:p:=by decide):p:=h
theorem fj{p:Prop}(h:p:=by simp):p:=h
theorem ft{p:Prop}(h:p:=by kernel_rfl):p:=h
theorem fO{p:Prop}(h:p:=by rfl):p:=h
end Go.Proofs
namespace Go.Proofs.Y.Lift
open Go
structure fq where
 jD:Nat->Nat->Prop
 C:Nat
instance:CoeFun fq λ_=>Nat->Nat->Prop:=⟨fq.jD⟩
def Bi(Y:fq):Prop:=(∀i j a,Y i j->Y i a->j=a)/\(∀i a j,Y i j->Y a j->i=a)/\(∀i j,Y i j->(i<Y.C↔j<Y.C))
def fq.r(Y a:fq):Prop:=(∀i j,Y i j->a i j)/\(Bi Y->Bi a)/\a.C=Y.C
def fq.N(Y:fq)(r a:Nat):fq:=⟨λi j=>Y i j\/(i=r/\j=a),Y.C⟩
def fq.M(Y:fq):Y.r Y:=⟨λ_ _ h=>h,id,U⟩
def fq.I{a b c:fq}(h:a.r b)(k:b.r c):a.r c:=⟨λi j x=>k.1 i j<|h.1 i j x,λx=>k.2.1<|h.2.1 x,k.2.2.trans h.2.2⟩
theorem fq.S{Y:fq}{r:Nat}(c:∀j,¬Y r j)(d:∀a,¬Y a i)(f:Y.C<=r)(g:Y.C<=i):Y.r (Y.N r i):=by
 refine⟨λ_ _ h=>Å h,λb=>⟨?_,?_,?_⟩,U⟩
 .rintro a j k (x|⟨rfl,rfl⟩) (y|⟨e,rfl⟩)
  .exact b.1 _ _ _ x y
  .grind
  .grind
  .rfl
 .rintro a k j (x|⟨rfl,rfl⟩) (y|⟨rfl,e⟩)
  .exact b.2.1 _ _ _ x y
  .grind
  .grind
  .rfl
 .rintro a j (x|⟨rfl,rfl⟩)
  .exact b.2.2 _ _ x
  .show(a<Y.C↔j<Y.C);omega
def gY(Y:fq)(a b:Û):Prop:=Y a.block b.block/\a.off=b.off/\a.spot=b.spot
def gY.r{Y b:fq}(h:Y.r b)(r:gY Y a p):gY b a p:=⟨h.1 _ _ r.1,r.2⟩
def gY.C{Y:fq}(r:gY Y a p)(n:Nat):gY Y (a.add n) (p.add n):=by
 let⟨b,c,d⟩:=r;unfold Addr.add;by_cases e:n=0
 .rw[if_pos e,if_pos e];exact⟨b,c,d⟩
 .rw[if_neg e,if_neg e];exact⟨b,by simp[c],U⟩
inductive fi(Y:fq):Ã->Ã->Prop
 |mj (b:Bool):fi Y (Ň b) (Ň b)
 |iD (k:Ā) (n:Int):fi Y (ď k n) (ď k n)
 |kq (s:ByteArray):fi Y (ğ s) (ğ s)
 |lN:fi Y (Ø ì) (Ø ì)
 |jT {a a':Û} (h:gY Y a a'):fi Y (Ø<|À a) (Ø<|À a')
 |nG (n c:Nat):fi Y (õ ì n c) (õ ì n c)
 |kQ {a a':Û} (h:gY Y a a') (n c:Nat):fi Y (õ (À a) n c) (õ (À a') n c)
 |uU:fi Y cm cm
 |fn (f:Fn):fi Y (eW f #[] #[]) (eW f #[] #[])
 |uV:fi Y br br
 |uW:fi Y (eG ì) (eG ì)
 |uX:fi Y (.map ì) (.map ì)
 |ya (t:Á) {v v':Ã} (h:fi Y v v'):fi Y (.iface t v) (.iface t v')
 |ox {cs lO:Array Ã} (hs:cs.size=lO.size) (h:∀i (h1:i<cs.size) (h2:i<lO.size),fi Y cs[i] lO[i]):fi Y (.agg cs) (.agg lO)
 |nH {cs lO:Array Ã} (hs:cs.size=lO.size) (h:∀i (h1:i<cs.size) (h2:i<lO.size),fi Y cs[i] lO[i]):fi Y (Ο cs) (Ο lO)
def fi.fM{Y a:fq}(h:Y.r a)(r:fi Y v x):fi a v x:=by
 induction r with
 |mj b=>exact .mj b
 |iD k n=>exact .iD k n
 |kq s=>exact .kq s
 |lN=>exact .lN
 |jT b=>exact .jT (b.r h)
 |nG n c=>exact .nG n c
 |kQ b n c=>exact .kQ (b.r h) n c
 |uU=>exact .uU
 |fn f=>exact .fn f
 |uV=>exact .uV
 |uW=>exact .uW
 |uX=>exact .uX
 |ya t _ b=>exact .ya t b
 |ox c _ b=>exact .ox c b
 |nH c _ b=>exact .nH c b
structure fQ(Y:fq)(cs lO:Array Ã):Prop where
 r:cs.size=lO.size
 C:∀i (h1:i<cs.size) (h2:i<lO.size),fi Y cs[i] lO[i]
def fQ.I{Y a:fq}(h:Y.r a){cs:Array Ã}(r:fQ Y cs d):fQ a cs d:=⟨r.r,λi b c=>(r.C i b c).fM h⟩
theorem fQ.S{Y:fq}(r:fQ Y d q)(i:Nat):(d[i]?=ì/\q[i]?=ì)\/∃v b,d[i]?=À v/\q[i]?=À b/\fi Y v b:=by
 by_cases h:i<d.size
 .have a:i<q.size:=by rwa[<-r.r]
  exact Ì ⟨d[i],q[i],ß h,ß a,r.C i h a⟩
 .have a:¬i<q.size:=by rwa[<-r.r]
  grind
def fQ.N(Y:fq):fQ Y #[] #[]:=⟨U,λi h=>absurd h fj⟩
theorem fQ.UM{Y:fq}(r:fQ Y d q)(h:fi Y v x):fQ Y (d.push v) (q.push x):=by
 refine⟨by simp[r.r],λi b c=> ?_⟩;simp only[Array.getElem_push];have e:=r.r;by_cases a:i<d.size
 .rw[dif_pos a,dif_pos Z];exact r.C i a Z
 .grind
theorem fQ.qz{Y:fq}(r:fQ Y d q)(n:Nat)(h:fi Y v x):fQ Y (d.setIfInBounds n v) (q.setIfInBounds n x):=by
 refine⟨by simp[r.r],λi c e=> ?_⟩;have f:i<d.size:=by simpa using c
 have g:i<q.size:=by simpa using e
 have a:(d.setIfInBounds n v)[i]?=if n=i then À v else d[i]?:=by grind
 have b:(q.setIfInBounds n x)[i]?=if n=i then À x else q[i]?:=by grind
 rw[ß c]at a;rw[ß e]at b;by_cases j:n=i
 .grind
 .rw[if_neg j]at a b;rw[ß f]at a;rw[ß g]at b;injection a with a;injection b with b;rw[a,b];exact r.C i f g
def fQ.G{Y:fq}{cs b:Array Ã}(r:fQ Y cs d)(t:fQ Y q b):fQ Y (cs++q) (d++b):=by
 refine⟨by simp[r.r,t.r],λi c g=> ?_⟩;have e:=r.r;have f:=t.r;simp only[Array.getElem_append];by_cases a:i<cs.size
 .rw[dif_pos a,dif_pos Z];exact r.C i a Z
 .rw[dif_neg a,dif_neg Z];have:=t.C (i-cs.size) (by simp at c;omega) (by simp at c;omega);simpa[e]using this
def fQ.Gv{Y:fq}(r:fQ Y d q)(a b:Nat):fQ Y (d.extract a b) (q.extract a b):=by refine⟨by simp[r.r],λi c e=> ?_⟩;rw[ag ..,ag ..];exact r.C _ _ _
def fQ.M{Y:fq}(h:fi Y v x):fQ Y #[v] #[x]:= ⟨U,λi a b=>by have:i=0:=(by simpa using a);subst this;exact h⟩
def fi.gS{Y:fq}(h:fi Y v x):fQ Y v.cells x.cells:=by
 cases h with
 |ox a h=>exact⟨a,h⟩
 |mj b=>exact fQ.M<|.mj b
 |iD k n=>exact fQ.M<|.iD k n
 |kq s=>exact fQ.M<|.kq s
 |lN=>exact fQ.M .lN
 |jT b=>exact fQ.M<|.jT b
 |nG n c=>exact fQ.M<|.nG n c
 |kQ b n c=>exact fQ.M<|.kQ b n c
 |uU=>exact fQ.M .uU
 |fn f=>exact fQ.M<|.fn f
 |uV=>exact fQ.M .uV
 |uW=>exact fQ.M .uW
 |uX=>exact fQ.M .uX
 |ya t b=>exact fQ.M<|.ya t b
 |nH a h=>exact fQ.M<|.nH a h
def yb:Ã->Bool
 |.agg _|Ο _=>Â
 |_=>È
def Gw(e:Á)(n:Nat):Prop:=(e=304\/e=305)/\n<=16
class Ac (P:Ö):Prop where
 lt:∀e n,Gw e n->n<P.cellsOf e
def D1(e:Á)(n a:Nat):Prop:=n=a\/(n<=a/\Gw e n)
structure oS(Y:fq)(s:Prop)(e:Á)(c c':Array Ã):Prop where
 r:∀i (_:i<c.size) (_:i<c'.size),fi Y c[i] c'[i]
 I:c.size<=c'.size
 C:c.size=c'.size\/(s/\Gw e c.size)
section
variable{Y d:fq}{s:Prop}{c c':Array Ã}
def oS.M(h:fQ Y c c'):oS Y s e c c':=⟨h.C,by rw[h.r];exact à _,Å h.r⟩
def oS.N(h:oS Y s e c c')(a:¬s):fQ Y c c':=⟨h.C.resolve_right λq=>a q.1,h.r⟩
def oS.fM(h:oS Y s e c c')(l:Y.r d):oS d s e c c':=⟨λi a b=>(h.r i a b).fM l,h.I,h.C⟩
theorem oS.Gx(h:oS Y s e c c')(i:Nat):(c[i]?=ì/\True)\/∃v a,c[i]?=À v/\c'[i]?=À a/\fi Y v a:=by
 by_cases q:i<c.size
 .have b:=Ô q h.I;exact Ì ⟨c[i],c'[i],ß q,ß b,h.r i q b⟩
 .grind
def oS.acG(h:oS Y s e c c'):D1 e c.size c'.size:=h.C.imp id λq=>⟨h.I,q.2⟩
end
inductive fF(P:Ö){α:Type}(V:fq->α->α->Prop):fq->ę α->ę α->Prop
 |fD {Y:fq} {a a':α} (h:V Y a a'):fF P V Y (aW a) (aW a')
 |gy {Y:fq} {a a':Û} {k k':Ã->ę α} (ha:gY Y a a') (hk:∀v v',fi Y v v'->fF P V Y (k v) (k' v')):fF P V Y (.load ų a k) (.load ų a' k')
 |ja {Y:fq} {a a':Û} {v v':Ã} {k k':ę α} (ha:gY Y a a') (hv:fi Y v v') (hk:fF P V Y k k'):fF P V Y (du ų a v k) (du ų a' v' k')
 |yc {Y:fq} {c c':Array Ã} {e:Á} {k k':Nat->ę α} (hc:fQ Y c c') (hk:∀r r',(∀j,¬Y r j)->(∀i,¬Y i r')->Y.C<=r->Y.C<=r'->fF P V (Y.N r r') (k r) (k' r')):fF P V Y (.new (Ē c e) k) (.new (Ē c' e) k')
 |uY {Y:fq} {r r':Nat} {k k':Option (TypeId×Nat)->ę α} (hr:Y r r') (hk:∀e n n',D1 e n n'->fF P V Y (k<|À (e,n)) (k'<|À (e,n'))):fF P V Y (.shape r k) (.shape r' k')
 |Ol {Y:fq} {a a':Û} {k k':Bool->ę α} (ha:gY Y a a') (hk:∀b b',(b'=È->b=È)->fF P V Y (k b) (k' b')):fF P V Y (.frozen a k) (.frozen a' k')
 |Ad {Y:fq} {q:cu} {k k':Nat->ę α} (hk:∀n,fF P V Y (k n)<|k' n):fF P V Y (.choose q k) (.choose q k')
 |J7 {Y:fq} {k k':Ö->ę α} (hk:fF P V Y (k P) (k' P)):fF P V Y (.program k) (.program k')
 |D2 {Y:fq} {m:Mark} {k k':ę α} (hm:m=ζ\/∃f,m=.extern f) (hk:fF P V Y k k'):fF P V Y (.mark m k) (.mark m k')
 |fP {Y:fq} {h:Halt} {m:ę α}:fF P V Y (eH h) m
 |oy {Y:fq} {m m':ę α} (h:∀u x u',m.run P u≠ĭ x u'):fF P V Y m m'
def vZ{α β:Type}{m:ę α}{f:α->ę β}(h:∀u x b,m.run P u≠ĭ x b):∀u x b,(m.bind f).run P u≠ĭ x b:=by
 intro u x b e;have c:(m>>=f).run P u=ĭ x b:=e;rw[Ä]at c;cases d:m.run P u with
 |ok a w=>exact h _ _ _ d
 |halt z w=>rw[d]at c;cases c
def fF.lV{α β:Type}{V:fq->α->α->Prop}{l:fq->β->β->Prop}{Y:fq}{m o:ę α}{f p:α->ę β}(h:fF P V Y m o) (g:∀i a k,Y.r i->V i a k->fF P l i (f a) (p k)):fF P l Y (m.bind f) (o.bind p):=by
 induction h with
 |fD h=>exact g _ _ _ (fq.M _) h
 |gy j _ d=>exact .gy j λv c b=>d v c b g
 |ja j b _ d=>exact .ja j b (d g)
 |yc q _ d=>exact .yc q λr s c e n v=>d r s c e n v λi a k t b=>g i a k (fq.I (fq.S c e n v) t) b
 |uY b _ d=>exact .uY b λe n v c=>d e n v c g
 |Ol j _ d=>exact .Ol j λb c v=>d b c v g
 |Ad _ d=>exact .Ad λn=>d n g
 |J7 _ d=>exact .J7 (d g)
 |D2 c _ d=>exact .D2 c (d g)
 |fP=>exact .fP
 |oy h=>exact .oy (vZ h)
def yd:Ã->Bool
 |ď .u8 _=>È
 |_=>Â
def D3(c:Array Ã):Prop:=∀(k:Nat) (v:Ã),c[k]?=À v->yd v=Â
structure jg(Y:fq)(Sh:Nat->Prop)(u w:Ç):Prop where
 S:u.tape=w.tape
 N:u.drawn=w.drawn
 C:Bi Y
 I:Y.C<=u.heap.size
 M:Y.C<=w.heap.size
 r:∀i j,Y i j->∃c c' e fr we,u.heap[i]?=À (Ē c e fr)/\w.heap[j]?=À (Ē c' e we)/\oS Y (Sh j) e c c'/\(Sh j->fr.1=0/\c.size<=fr.2/\we.2<=fr.2/\0<c.size/\(D3 c\/Gw e c.size))/\(¬Sh j->fr=we)/\fr.2<=c.size
structure nI(Y:fq)(Sh:Nat->Prop)(w w':Ç):Prop where
 r:w.heap.size<=w'.heap.size
 I:w'.os=w.os
 M:w'.output=w.output
 S:w'.tape=w.tape
 C:∀j,j<w.heap.size->(∀i,¬Y i j)->w'.heap[j]?=w.heap[j]?
 N:∀j,Sh j->j<w.heap.size->w'.heap[j]?=w.heap[j]?
def Ae(Y:fq)(b:Nat->Prop)(e:ă):Prop:=
 (∃(a:Û) (i:Nat),e.loc=ā a/\Y i a.block/\e.sync=Â/\(e.write=È->¬b a.block))\/e.loc=ſ ζ\/∃f,e.loc=ſ (.extern f)
def wh{α:Type}{m:Mode}{k:ę α}(h:yb v=È): å P (du m a v k) w=(match w.cell? a with
 |some _=>if w.frozen? a then cw (ŋ<|Ō "a write to bytes that a string shares") w else k.run P (w.setCell a v)
 |none=>match w.farStore P a v (m==Đ)with
  |.ok (w,_)=>k.run P w
  |bS h=>cw h w):=by
 cases v<;>first|rfl|cases h
def acH{α:Type}{m:Mode}{k:ę α}(h:yb v=È): ë P (du m a v k) w V=(match w.cell? a with
 |some _=>
  if w.frozen? a then(cw (ŋ<|Ō "a write to bytes that a string shares") w,V)
  else k.runT P (w.setCell a v) (V.push ⟨ā a,È,m==Đ⟩)
 |none=>match w.farStore P a v (m==Đ)with
  |.ok (w,touched)=>k.runT P w (V++touched.toArray.map (⟨.cell ·,È,m==.atomic⟩))
  |bS h=>(cw h w,V)):=by
 cases v<;>first|rfl|cases h
def acI{α:Type}{m:Mode}{k:ę α}(h:yb v=Â){x:α}:å P (du m a v k) w≠ĭ x u:=by cases v<;>first|exact Bool.noConfusion h|(intro e;simp[å]at e)
def acJ{Y:fq}(h:fi Y v x):yb x=yb v:=by cases h<;>rfl
section
variable{Y:fq}
def Af(h:u.heap[a.block]?=À (Ē d e xJ)):u.cell? a=if a.spot.isSome then ì else d[a.off]?:=by simp[Ĩ,h]
def acK(h:u.heap[a.block]?=À (Ē d e xJ))(b:Bool):∃x,u.farLoad P a b=bS x:=by simp[Ś,h]
def acM(h:u.heap[a.block]?=À (Ē d e xJ))(b:Bool):∃x,u.farStore P a v b=bS x:=by simp[Ŵ,h]
def jg.gy(h:jg Y X u w){a':Û}(i:gY Y a a')(b:u.cell? a=À v):∃f,w.cell? a'=À f/\fi Y v f:=by
 let⟨j,k,l⟩:=i;let⟨c,s,e,t,y,m,n,o,_⟩:=h.r _ _ j;rw[Af m]at b;rw[Af n,<-k,<-l];cases g:a.spot with
 |some x=>rw[g]at b;cases b
 |none=>
  rw[g]at b;rcases o.Gx a.off with⟨d,_⟩|⟨x,p,d,q,r⟩
  .simp[d]at b
  .simp[d]at b;subst b;exact⟨p,by simp[q],r⟩
theorem jg.acN(h:jg Y X u w)(g:gY Y a p)(i:u.cell? a=À v)(j:u.frozen? a=Â):¬X p.block/\w.frozen? p=Â:=by
 let⟨k,l,q⟩:=g;let⟨c,r,e,b,s,d,m,t,x,n,y⟩:=h.r _ _ k;rw[Af d]at i;have z:a.off<c.size:=by grind
 have o:(decide (b.1<=a.off)&&decide (a.off<b.2))=Â:=by simpa[Č,d]using j
 have f:¬X p.block:=by grind
 refine⟨f,?_⟩;have:=n f;subst this;simp only[Č,m,<-l];exact o
def UN{w:Ç}(h:w.heap[a.block]?=À (Ē d e xJ))(b:a.spot=ì): (w.setCell a v).heap[a.block]?=À (Ē (d.setIfInBounds a.off v) e xJ):=by simp[č,Ŕ,h,b]
def jU{w:Ç}:(w.setCell a v).heap.size=w.heap.size:=by simp[č]
def J8{w:Ç}(h:a.block≠j):(w.setCell a v).heap[j]?=w.heap[j]?:=by simp[č,Ŕ,h]
def jg.ja(h:jg Y X u w)(B:gY Y a p)(C:fi Y v z)(D:u.cell? a=À x)(m:¬X p.block):jg Y X (u.setCell a v) (w.setCell p z):=by
 let⟨d,E,F⟩:=B;have n:a.spot=ì:=by let⟨c,o,e,f,g,b,_⟩:=h.r _ _ d;rw[Af b]at D;simp_all
 refine⟨h.S,h.N,h.C,by rw[jU];exact h.I,by rw[jU];exact h.M,λi j k=> ?_⟩;let⟨c,o,e,f,g,b,q,r,G,t,y⟩:=h.r i j k;by_cases l:a.block=i
 .subst l;have:j=p.block:=h.C.1 _ _ _ k d;subst this;exact⟨_,_,e,f,g,UN b n,UN q (by rw[<-F,n]),by rw[<-E];exact oS.M<|(r.N m).qz _ C,λs=>absurd s m,t,by simpa using y⟩
 .exact⟨c,o,e,f,g,by rwa[J8 l],by rwa[J8 λe=>l<|h.C.2.1 _ _ _ d<|e▸k],r,G,t,y⟩
theorem jg.yc(h:jg Y X u w)(m:∀j,X j->j<w.heap.size)(n:fQ Y d q): jg (Y.N u.heap.size w.heap.size) X {u with heap:=u.heap.push (Ē d e)} {w with heap:=w.heap.push (Ē q e)}:=by
 have a:∀i j,Y i j->i<u.heap.size/\j<w.heap.size:=by intro i j s;let⟨_,_,_,_,_,f,g,_⟩:=h.r i j s;grind
 have b:=fq.S (Y:=Y) (λj x=>absurd (a _ _ x).1 Z) (λi x=>absurd (a _ _ x).2 Z) h.I h.M;refine⟨h.S,h.N,b.2.1 h.C,by have:=h.I;simp[fq.N];omega,by have:=h.M;simp[fq.N];omega,?_⟩
 .rintro i j (x|⟨rfl,rfl⟩)
  .let⟨s,o,p,r,t,f,g,v,y,z,B⟩:=h.r i j x;let⟨k,l⟩:=a i j x;exact⟨s,o,p,r,t,by simp only[Ī k];rw[<-f,ß k],by simp only[Ī l];rw[<-g,ß l],v.fM b,y,z,B⟩
  .exact⟨d,q,e,(0,0),(0,0),fj,fj,oS.M<|n.I b,λs=>absurd (m _ s) Z,λ_=>rfl,dL _⟩
def nI.fT(Y:fq)(X:Nat->Prop)(w:Ç):nI Y X w w:=⟨à _,U,U,U,λ_ _ _=>rfl,λ_ _ _=>rfl⟩
def nI.ff{b:fq}{w₁:Ç}(h:nI Y X w w₁)(k:nI b X w₁ u)(d:∀i j,b i j->Y i j\/w.heap.size<=j):nI Y X w u:= ⟨û h.r k.r,k.I.trans h.I,k.M.trans h.M,k.S.trans h.S,λj a c=>(k.C j (Ô a h.r) λi y=>(d i j y).elim (c i) λz=>by omega).trans<|h.C j a c,λj s a=>(k.N j s<|Ô a h.r).trans<|h.N j s a⟩
def J9{w:Ç}:(w.freeze a n).heap.size=w.heap.size:=by unfold Ĝ;split<;>simp
def acO{w:Ç}:(w.freeze a n).os=w.os:=by unfold Ĝ;split<;>rfl
def acP{w:Ç}:(w.freeze a n).output=w.output:=by unfold Ĝ;split<;>rfl
def Om{w:Ç}:(w.freeze a n).tape=w.tape:=by unfold Ĝ;split<;>rfl
def UO{w:Ç}:(w.freeze a n).drawn=w.drawn:=by unfold Ĝ;split<;>rfl
theorem Ka{w:Ç}(h:a.block≠j):(w.freeze a n).heap[j]?=w.heap[j]?:=by unfold Ĝ;split;all_goals grind
def su(a:Û)(n:Nat)(b:Nat×Nat):Nat×Nat:=if n=0 then b else if b.1==b.2 then(a.off,a.off+n)else(min b.1 a.off,max b.2<|a.off+n)
theorem UP{w:Ç}(h:w.heap[a.block]?=À (Ē d e xJ)):(w.freeze a n).heap[a.block]?=À (Ē d e<|su a n xJ):=by unfold Ĝ su;grind
def UQ(h:a.off=p.off)(n:Nat)(b:Nat×Nat):su a n b=su p n b:=by unfold su;rw[h]
theorem acQ(h:a.off+n<=i)(b:xJ.2<=i):(su a n xJ).2<=i:=by unfold su;grind
theorem acR{b:Nat×Nat}(c:0<i)(d:xJ.1=0)(e:i<=xJ.2)(f:b.2<=xJ.2):(su a n xJ).1=0/\i<=(su a n xJ).2/\(su a n b).2<=(su a n xJ).2:=by unfold su;grind
def jg.acS(h:jg Y X u w)(y:gY Y a p)(n:Nat)(z:∀c e b,u.heap[a.block]?=À (Ē c e b)->a.off+n<=c.size):jg Y X (u.freeze a n) (w.freeze p n):=by
 obtain⟨k,l,I⟩:=y;refine⟨Om.trans<|h.S.trans Om.symm,UO.trans<|h.N.trans UO.symm,h.C,by rw[J9];exact h.I,by rw[J9];exact h.M,λi j d=> ?_⟩;obtain⟨c,m,e,b,B,f,o,q,r,t,v⟩:=h.r i j d;by_cases g:a.block=i
 .subst g;have:j=p.block:=h.C.1 _ _ _ d k;subst this;refine⟨c,m,e,_,_,UP f,UP o,q,λs=> ?_,λs=> ?_,acQ (z _ _ _ f) v⟩
  .obtain⟨C,D,E,x⟩:=r s;rw[<-UQ l];obtain⟨F,G,H⟩:=acR x.1 C D E;exact⟨F,G,H,x⟩
  .rw[t s,UQ l]
 .exact⟨c,m,e,b,B,by rwa[Ka g],by rwa[Ka λe=>g<|h.C.2.1 _ _ _ k<|e▸d],q,r,t,v⟩
theorem jg.G(h:jg Y X u w)(b:gY Y a p):w.frozen? p=È->u.frozen? a=È:=by let⟨d,f,j⟩:=b;let⟨c,k,e,l,m,g,i,n,o,q,r⟩:=h.r _ _ d;simp only[Č,g,i,<-f,Ģ,decide_eq_true_eq];rintro⟨x,y⟩;by_cases s:X p.block;all_goals grind
theorem fF.gk{α:Type}{V:fq->α->α->Prop}{Y:fq}{m m':ę α}(h:fF P V Y m m'):∀{u w:Ç},jg Y X u w->(∀j,X j->j<w.heap.size)->∀{x:α} {E:Ç},m.run P u=ĭ x E->∀n:Array ă,∃(l:fq) (t:α) (p:Ç) (B:Array ă),Y.r l/\(∀i j,l i j->Y i j\/(u.heap.size<=i/\w.heap.size<=j))/\m'.runT P w n=(ĭ t p,n++B)/\V l x t/\jg l X E p/\nI Y X w p/\(∀e∈B,Ae l X e)/\u.heap.size<=E.heap.size:=by
 induction h with
 |fD h=>
  intro u w d _ x E b n;simp only[å]at b;cases b;exact⟨_,_,w,#[],fq.M _,λ_ _ h=>Å h,by simp[ë],h,d,nI.fT _ _ _,λe o=>by simp at o,à _⟩
 |@gy Y a a' k k' ha hk D=>
  intro u w d C x E b n;simp only[å]at b;cases f:u.cell? a with
  |none=>
   let⟨c,Q,e,fr,we,O,_⟩:=d.r _ _ ha.1;let⟨z,s⟩:=acK (P:=P) O<|ų==Đ;rw[f]at b;simp only[s]at b;cases b
  |some v=>
   rw[f]at b;let⟨W,S,y⟩:=d.gy ha f;let⟨l,t,p,B,F,G,I,J,K,g,L,H⟩:=D v W y d C b<|n.push ⟨ā a',Â,Â⟩;refine⟨l,t,p,#[⟨ā a',Â,Â⟩]++B,F,G,?_,J,K,g,λe o=> ?_,H⟩
   .simp only[ë,S];rw[show((ų==Đ)=Â)from U,I];rw[<-Ņ,ō]
   .rcases ģ.1 o with o|o
    .simp at o;subst o;exact Å ⟨a',_,U,F.1 _ _ ha.1,U,λe=>by cases e⟩
    .exact L e o
 |@ja Y a a' v W k k' ha hv _ D=>
  intro u w d C x E b n;cases ho:yb v with
  |false=>exact absurd b<|acI ho
  |true=>
   rw[wh ho]at b;cases f:u.cell? a with
   |none=>
    let⟨c,Q,e,fr,we,O,_⟩:=d.r _ _ ha.1;let⟨z,s⟩:=acM (P:=P) (v:=v) O<|ų==Đ;rw[f]at b;simp only[s]at b;cases b
   |some y=>
    rw[f]at b;cases M:u.frozen? a with
    |true=>rw[M]at b;simp at b
    |false=>
     simp only[M,Æ,if_false]at b;let⟨ns,hf'⟩:=d.acN ha f M;let⟨y',On,_⟩:=d.gy ha f;let⟨l,t,p,B,F,G,I,J,K,g,L,H⟩:=D (d.ja ha hv f ns) (by rwa[jU]) b<|n.push ⟨ā a',È,Â⟩;have S:(w.setCell a' W).heap.size=w.heap.size:=jU;have UR:(u.setCell a v).heap.size=u.heap.size:=jU;refine⟨l,t,p,#[⟨ā a',È,Â⟩]++B,F,by rwa[S,UR]at G,?_,J,K,?_,λe o=> ?_,by rwa[UR]at H⟩
     .rw[acH<|(acJ hv).trans ho,On];simp only[hf',Æ,if_false];rw[show((ų==Đ)=Â)from U,I];rw[<-Ņ,ō]
     .refine⟨by rw[<-S];exact g.r,g.I,g.M,g.S,λj N T=> ?_,λj s N=>(g.N j s<|by rwa[S]).trans<|J8 λe=>ns<|e▸s⟩;rw[g.C j (by rwa[S]) T];exact J8 λe=>T a.block<|e▸ha.1
     .rcases ģ.1 o with o|o
      .simp at o;subst o;exact Å ⟨a',_,U,F.1 _ _ ha.1,U,λ_=>ns⟩
      .exact L e o
 |@yc Y c Q e k k' f _ D=>
  intro u w d C x E b n;simp only[å]at b;have W:∀i j,Y i j->i<u.heap.size/\j<w.heap.size:=by intro i j S;let⟨_,_,_,_,_,O,hw',_⟩:=d.r i j S;grind
  have n1:∀j,¬Y u.heap.size j:=λj y=>absurd (W _ _ y).1 Z;have n2:∀i,¬Y i w.heap.size:=λi y=>absurd (W _ _ y).2 Z;let⟨l,t,p,B,F,G,I,J,K,g,L,H⟩:=D u.heap.size w.heap.size n1 n2 d.I d.M (d.yc C f) (λj s=>by have:=C j s;simp;omega) b n;refine⟨l,t,p,B,fq.I (fq.S n1 n2 d.I d.M) F,λi j S=> ?_,by simp only[ë];exact I,J,K,?_,L,by simp at H;omega⟩
  .rcases G i j S with(y|⟨rfl,rfl⟩)|y
   .exact Å y
   .exact Ì ⟨à _,à _⟩
   .simp at y;exact Ì ⟨Z,Z⟩
  .have hs:=g.r;simp at hs;refine⟨Z,g.I,g.M,g.S,λj N T=> ?_,λj s N=>(g.N j s<|by simp;omega).trans ?_⟩
   .rw[g.C j (by simp;omega) (λi z=>z.elim (T i) λz=>by omega)];simp[Ī N]
   .simp[Ī N]
 |@uY Y r r' k k' oT _ D=>
  intro u w d C x E b n;simp only[å]at b;let⟨c,Q,e,fr,we,O,hw',S,_⟩:=d.r _ _ oT;have f:u.shape? r=À (e,c.size):=by simp[η,O]
  have s:w.shape? r'=À (e,Q.size):=by simp[η,hw']
  rw[f]at b;let⟨l,t,p,B,h⟩:=D e c.size Q.size S.acG d C b n;exact⟨l,t,p,B,by simp only[ë,s];exact h⟩
 |@Ol Y a a' k k' ha _ D=>
  intro u w d C x E b n;simp only[å]at b;let⟨l,t,p,B,h⟩:=D (u.frozen? a) (w.frozen? a') (d.G ha) d C b n;exact⟨l,t,p,B,by simpa only[ë]using h⟩
 |@Ad Y q k k' _ D=>
  intro u w d C x E b n;simp only[å]at b;cases M:q.forced with
  |true=>
   rw[M]at b;simp only[if_true]at b;let⟨l,t,p,B,h⟩:=D 0 d C b n;exact⟨l,t,p,B,by simpa only[ë,M,if_true]using h⟩
  |false=>
   rw[M]at b;simp only[Æ,if_false]at b;have S:jg Y X {u with drawn:=u.drawn+1} {w with drawn:=w.drawn+1}:=⟨d.S,by simp[d.N],d.C,d.I,d.M,d.r⟩;rw[d.S,d.N]at b;obtain⟨l,t,p,B,F,G,I,J,K,g,L,H⟩:=D (q.cut<|w.tape w.drawn q) S C (by rwa[d.S,d.N]) n;exact⟨l,t,p,B,F,G,by simp only[ë,M,Æ,if_false];exact I,J,K,⟨g.r,g.I,g.M,g.S,g.C,g.N⟩,L,H⟩
 |J7 _ D=>
  intro u w d C x E b n;simp only[å]at b;let⟨l,t,p,B,h⟩:=D d C b n;exact⟨l,t,p,B,by simpa only[ë]using h⟩
 |@D2 Y mk k k' hm _ D=>
  intro u w d C x E b n;simp only[å]at b;let⟨l,t,p,B,F,G,I,J,K,g,L,H⟩:=D d C b<|n.push ⟨ſ mk,Â,È⟩;refine⟨l,t,p,#[⟨ſ mk,Â,È⟩]++B,F,G,?_,J,K,g,λe o=> ?_,H⟩
  .simp only[ë];rw[I];rw[<-Ņ,ō]
  .rcases ģ.1 o with o|o
   .simp at o;subst o;rcases hm with rfl|⟨f,rfl⟩
    .exact Ì<|Å U
    .exact Ì<|Ì ⟨f,U⟩
   .exact L e o
 |fP=>
  intro u w _ _ x E b n;simp only[å]at b;cases b
 |oy h=>
  intro u w _ _ x E b n;exact absurd b<|h _ _ _
end
inductive jN:Ã->Prop
 |mj (b:Bool):jN (Ň b)
 |iD (k:Ā) (n:Int):jN (ď k n)
 |kq (s:ByteArray):jN (ğ s)
 |lN:jN (Ø ì)
 |nG (n c:Nat):jN (õ ì n c)
 |uU:jN cm
 |uV:jN br
 |uW:jN (eG ì)
 |uX:jN (.map ì)
 |ox {cs:Array Ã} (h:∀i (h:i<cs.size),jN cs[i]):jN (.agg cs)
 |nH {cs:Array Ã} (h:∀i (h:i<cs.size),jN cs[i]):jN (Ο cs)
def jN.jD(h:jN v)(Y:fq):fi Y v v:=by
 induction h with
 |mj b=>exact .mj b
 |iD k n=>exact .iD k n
 |kq s=>exact .kq s
 |lN=>exact .lN
 |nG n c=>exact .nG n c
 |uU=>exact .uU
 |uV=>exact .uV
 |uW=>exact .uW
 |uX=>exact .uX
 |ox _ b=>exact .ox U λi c _=>b i c
 |nH _ b=>exact .nH U λi c _=>b i c
def nJ(P:Ö):Prop:=∀t i z,P.info? t=À i->i.zero=À z->jN z
def jm{α:Type}:fq->α->α->Prop:=λ_ a b=>a=b
section
variable{Y:fq}
def fE{α β:Type}{V:fq->α->α->Prop}{V':fq->β->β->Prop}{m c:ę α}{f d:α->ę β}(h:fF P V Y m c) (g:∀b a e,Y.r b->V b a e->fF P V' b (f a) (d e)):fF P V' Y (m>>=f) (c>>=d):=fF.lV h g
def sw{α β:Type}{c:fq->β->β->Prop}{m:ę α}{f d:α->ę β}(h:fF P jm Y m m) (g:∀b a,Y.r b->fF P c b (f a) (d a)):fF P c Y (m>>=f) (m>>=d):= fF.lV h λb a i j (e:a=i)=>by subst e;exact g b a j
def rh:fF P (λ_ a b=>a=P/\b=P) Y dw dw:=.J7 (.fD ⟨U,U⟩)
def Oo{α:Type}{V:fq->α->α->Prop}{e:θ}(h:(∃x y s c,e=.bounds x y s c)\/(∃m,e=Ρ m)\/(∃m,e=.plain m)\/e=.nilDeref):fF P V Y (runtimePanic e) (runtimePanic e):=by unfold runtimePanic;refine fE rh ?_;rintro f a g _ ⟨b,d⟩;rw[b,d];rcases h with⟨x,y,s,c,rfl⟩|⟨m,rfl⟩|⟨m,rfl⟩|rfl<;>exact .fP
def Gy{α:Type}{V:fq->α->α->Prop}{k:Ā}{y:Int}{c:aK}:fF P V Y (boundsPanic k h y c) (boundsPanic k h y c):=by
 unfold boundsPanic;simp only[];split
 .apply sw (.Ad λn=> .fD U);exact λn a _=>Oo<|Å ⟨_,_,_,_,U⟩
 .exact Oo<|Å ⟨_,_,_,_,U⟩
def ye(t:Á):fF P (λ_ a b=>a=b/\P.info? t=À a) Y (ý t) (ý t):=by
 unfold ý;apply fE rh;rintro e a b _ ⟨c,d⟩;rw[c,d];cases h:P.info? t with
 |some i=>exact .fD ⟨U,U⟩
 |none=>exact .fP
def jb(t:Á):fF P (λ_ a b=>a=b/\P.underlying t=À a) Y (ö t) (ö t):=by
 unfold ö;apply fE rh;rintro e a b _ ⟨c,d⟩;rw[c,d];cases h:P.underlying t with
 |some i=>exact .fD ⟨U,U⟩
 |none=>exact .fP
def Gz(b:nJ P)(t:Á):fF P fi Y (ě t) (ě t):=by
 unfold ě;apply fE (ye t);rintro d a e _ ⟨rfl,h⟩;cases c:a.zero with
 |some z=>exact .fD ((b t a z h c).jD _)
 |none=>exact .fP
def mX(t:Á):fF P (λ_ a b=>a=b/\∃i,P.info? t=À i/\i.size=a) Y (ŗ t) (ŗ t):=by unfold ŗ;apply fE (ye t);rintro i a b _ ⟨rfl,h⟩;exact .fD ⟨U,_,h,U⟩
def US(t:Á):fF P jm Y (eI t) (eI t):=by unfold eI;apply fE (jb t);rintro b a c _ ⟨rfl,_⟩;split<;>exact .fD U
def Kb(h:gY Y a p):fF P fi Y (bu a) (bu p):=.gy h λ_ _ b=> .fD b
def acT(h:gY Y a p)(b:fi Y v x):fF P jm Y (aH a v) (aH p x):=.ja h b (.fD U)
def acU:∀{Y:fq} {a b:Û} {i:Nat} {c d:Array Ã},gY Y a b->fQ Y c d->fF P fQ Y (ś a i n c) (ś b i n d):=by
 induction n with
 |zero=>intro Y a b i c d _ e;exact .fD e
 |succ n h=>
  intro Y a b i c d f e;unfold ś;apply fE (Kb<|f.C i);exact λk v l g j=>h (f.r g)<|(e.I g).UM j
def Oq(h:gY Y a p)(n:Nat):fF P fQ Y (dr a n) (dr p n):=acU h<|fQ.N Y
def Ot:∀{d c:List Ã} {Y:fq} {a e:Û} {i:Nat},gY Y a e->fQ Y d.toArray c.toArray->fF P jm Y (Ř a d i) (Ř e c i):=by
 intro d
 induction d with
 |nil=>
  intro c Y a e i _ b;have:c=[]:=by have:=b.r;simp at this;exact Ć this.symm
  subst this;exact .fD U
 |cons v d h=>
  intro c Y a e i f b;match c,b with
  |[],b=>have:=b.r;simp at this
  |v'::c,b=>
   unfold Ř;refine fE (acT (f.C i) (by have:=b.C 0 fj fj;simpa using this)) ?_;intro m _ _ g _;apply h (f.r g);refine⟨by have:=b.r;simpa using this,λj k l=> ?_⟩;have:=b.C (j+1) (by simp at k|-;omega) (by simp at l|-;omega);exact(by simpa using this:fi Y _ _).fM g
def UT(h:gY Y a p)(t:Á):fF P fi Y (aA t a) (aA t p):=by
 unfold aA;apply sw (US t);intro g b d;split
 .apply fE (mX t);rintro i n _ f ⟨rfl,_⟩;apply fE (Oq ((h.r d).r f) n);exact λj c k _ e=> .fD (.ox e.r e.C)
 .exact Kb<|h.r d
def acV(h:gY Y a p)(t:Á)(d:fi Y v x):fF P jm Y (aX t a v) (aX t p x):=by
 unfold aX;apply fE (mX t);rintro f n _ b ⟨rfl,_⟩;have c:=(d.fM b).gS;by_cases e:v.cells.size≠n
 .rw[if_pos e];exact .fP
 .rw[if_neg e,if_neg (by rwa[<-c.r])];exact Ot (h.r b) c
def GA(e:Á)(h:fQ Y d q):fF P gY Y (ņ e d) (ņ e q):= .yc h λ_ _ _ _ _ _=> .fD ⟨Ì ⟨U,U⟩,U,U⟩
def UU(t:Á)(h:fi Y v x):fF P gY Y (eX t v) (eX t x):=GA t h.gS
def UW(t:Á)(h:fQ Y d q)(a:Nat):fF P fi Y (part t d a) (part t q a):=by
 unfold part;apply sw (US t);intro i b e;split
 .apply fE (mX t);rintro g n _ f ⟨rfl,_⟩;have:=((h.I e).I f).Gv a<|a+n;exact .fD (.ox this.r this.C)
 .rcases(h.I e).S a with⟨n,f⟩|⟨v,j,n,f,g⟩
  .rw[n];exact .fP
  .rw[n,f];exact .fD g
def GB(h:fi Y v x):fF P gY Y (ŵ v) (ŵ x):=by cases h<;>first|exact .fP|(rename_i a;exact .fD a)
def Ke(h:fi Y v x):fF P jm Y (dx v) (dx x):=by cases h<;>first|exact .fD U|exact .fP
def Ou(h:fi Y v x):fF P jm Y (dM v) (dM x):=by unfold dM;apply fE (Ke h);rintro b a _ _ rfl;exact .fD U
def UX(h:fi Y v x):fF P jm Y (cx v) (cx x):=by cases h<;>first|exact .fD U|exact .fP
def acW(h:fi Y v x):fF P fQ Y (eY v) (eY x):=by cases h<;>first|exact .fP|(rename_i a y;exact .fD ⟨a,y⟩)
def UY(h:fi Y v x):fF P gY Y (cy v) (cy x):=by cases h<;>first|exact Oo (Ì<|Ì<|Ì U)|(rename_i a;exact .fD a)|exact .fP
def acX(b:nJ P)(t:Á)(v:Ã):fF P fi Y (Α t È v) (Α t È v):=by unfold Α;apply fE (Gz b t);intro d z e _ h;apply fE (UU t h);exact λf a g _ c=> .fD (.jT c)
def acY(t:Á)(h:fi Y v x):fF P fi Y (aB t v) (aB t x):=by unfold aB;apply fE (UU t h);exact λc a d _ b=> .fD (.jT b)
def acZ(t:Á)(h:fi Y v x):fF P fi Y (ŭ t v) (ŭ t x):=by unfold ŭ;apply fE (GB h);exact λc a d _ b=>UT b t
def ac0(t:Á)(b:fi Y x z)(h:fi Y v jQ):fF P jm Y (ļ t x v) (ļ t z jQ):=by unfold ļ;apply fE (GB b);exact λd x z c b=>acV b t<|h.fM c
def ac1(h:fi Y v x)(n:Nat):fF P fi Y (Ŝ v n) (Ŝ x n):=by
 cases h<;>first|exact .fP|skip
 rename_i e f c h;simp only[Ŝ];rcases(fQ.mk c h).S n with⟨a,b⟩|⟨v,x,a,b,d⟩
 .rw[a];exact .fP
 .rw[a,b];exact .fD d
def ac2(t:Á)(h:fi Y v x)(n:Nat):fF P fi Y (Β t v n) (Β t x n):=by
 unfold Β;apply fE (jb t);rintro g d _ a ⟨rfl,_⟩;split
 .rename_i b _;cases i:b[n]? with
  |none=>exact .fP
  |some f=>
   apply fE (acW<|h.fM a);exact λj c k _ e=>UW f.type e f.offset
 .exact .fP
end
section
variable{Y:fq}
def Ag{α β:Type}{V:fq->β->β->Prop}{a b:α}{f c:α->ę β}(h:fF P V Y (f a) (c b)):fF P V Y (pure a>>=f) (pure b>>=c):=h
def ac3(s:Á)(h:fi Y v x)(n:Nat)(e:∀c f i,P.underlying s=À (dy c)->c[n]?=À f->P.info? f.type=À i->i.size≠0): fF P fi Y (ŝ s v n) (ŝ s x n):=by
 unfold ŝ;apply fE (jb s);rintro r d _ g ⟨rfl,j⟩;cases d<;>try exact .fP
 .rename_i c;simp only[];cases k:c[n]? with
  |none=>exact .fP
  |some f=>
   apply fE (GB<|h.fM g);intro t a u _ l;unfold cz;refine fE (fE (V':=gY) (mX f.type) ?_) ?_
   .rintro w z _ m ⟨rfl,i,o,p⟩;have:¬z=0:=by rw[<-p];exact e c f i j k o
    rw[if_neg this,if_neg this];exact .fD ((l.r m).C _)
   .exact λy b B _ q=> .fD (.jT q)
def ac4(t:Á){s:Ã}(w:fi Y x v)(y:fi Y jQ s):fF P fi Y (Ş t x jQ) (Ş t v s):=by
 unfold Ş;apply fE (Ke y);rintro I ⟨k,n⟩ _ B rfl;apply fE (jb t);rintro J d _ C ⟨rfl,K⟩;have u:=(w.fM B).fM C;have D:∀{j:fq} {b g:Option Û} (f:Nat) (e:Á),((b=ì/\g=ì)\/∃a h,b=À a/\g=À h/\gY j a h)->∀(o:Bool),fF P fi j (match b with
   |some a=>if 0<=n/\n<f then do pure (Ø<|À<|a.add<|n.toNat*(<-ŗ e))else if o=È then unsupported (cA "op/indexAddr.an index out of range at an array of length 0 or 1 (ledger 616)")else boundsPanic k n f .index
   |none=>boundsPanic k n 0 .index)
  (match g with
   |some a=>if 0<=n/\n<f then do pure (Ø<|À<|a.add<|n.toNat*(<-ŗ e))else if o=È then unsupported (cA "op/indexAddr.an index out of range at an array of length 0 or 1 (ledger 616)")else boundsPanic k n f .index
   |none=>boundsPanic k n 0 .index):=by
  intro j b g f e p o;rcases p with⟨rfl,rfl⟩|⟨a,h,rfl,rfl,l⟩
  .exact Gy
  .simp only[];split
   .apply fE (mX e);rintro E z _ q ⟨rfl,_⟩;exact .fD (.jT ((l.r q).C _))
   .split
    .exact .fP
    .exact Gy
 have r:∀{j:fq} {b g:Option Û} (f:Nat) (e:Á),((b=ì/\g=ì)\/∃a h,b=À a/\g=À h/\gY j a h)->fF P fi j (ö t>>=λd=>match b with
   |some a=>if 0<=n/\n<f then do pure (Ø<|À<|a.add<|n.toNat*(<-ŗ e))else if(decide (f<=1)&&(match d with|.array .. =>È|_=>Â))=È then unsupported (cA "op/indexAddr.an index out of range at an array of length 0 or 1 (ledger 616)")else boundsPanic k n f .index
   |none=>boundsPanic k n 0 .index)
  (ö t>>=λd=>match g with
   |some a=>if 0<=n/\n<f then do pure (Ø<|À<|a.add<|n.toNat*(<-ŗ e))else if(decide (f<=1)&&(match d with|.array .. =>È|_=>Â))=È then unsupported (cA "op/indexAddr.an index out of range at an array of length 0 or 1 (ledger 616)")else boundsPanic k n f .index
   |none=>boundsPanic k n 0 .index):=by
  intro j b g f e p;apply fE (jb t);rintro E d _ q ⟨rfl,_⟩;exact D f e (p.imp id λ⟨a,h,F,G,H⟩=>⟨a,h,F,G,H.r q⟩) _
 cases d<;>try exact .fP
 .rename_i e;cases u<;>first|exact .fP|skip
  .rename_i m c;exact r m e<|Å ⟨U,U⟩
  .rename_i l m c;exact r m e<|Ì ⟨_,_,U,U,l⟩
 .rename_i f e;apply fE (GB u);exact λj a h _ l=>r f e<|Ì ⟨_,_,U,U,l⟩
def D4(h:fi Y x v)(y:Nat)(c:aK):fF P jm Y (Ĵ x y c) (Ĵ v y c):=by
 unfold Ĵ;apply fE (Ke h);rintro a ⟨k,n⟩ _ b rfl;simp only[];split
 .exact .fD U
 .exact Gy
def ri(Y:fq)(x a:Option Ã):Prop:=(x=ì/\a=ì)\/∃v b,x=À v/\a=À b/\fi Y v b
def ri.r{Y a:fq}(h:Y.r a){x b:Option Ã}(r:ri Y x b):ri a x b:=r.imp id λ⟨v,c,d,e,f⟩=>⟨v,c,d,e,f.fM h⟩
def GD(f:Bool)(g i:Nat){l j h k m n:Option Ã}(c:ri Y l j)(o:ri Y h k)(t:ri Y m n):fF P jm Y (į f g i l h m) (į f g i j k n):=by
 unfold į;rcases t with⟨rfl,rfl⟩|⟨B,C,rfl,rfl,u⟩
 .refine Ag ?_;rcases o with⟨rfl,rfl⟩|⟨w,x,rfl,rfl,d⟩
  .refine Ag ?_;rcases c with⟨rfl,rfl⟩|⟨v,p,rfl,rfl,b⟩
   .exact .fD U
   .apply fE (D4 b _ _);rintro r q _ _ rfl;exact .fD U
  .refine fE (D4 d _ _) ?_;rintro y a _ e rfl;rcases(c.r e)with⟨rfl,rfl⟩|⟨v,p,rfl,rfl,b⟩
   .exact .fD U
   .apply fE (D4 b _ _);rintro r q _ _ rfl;exact .fD U
 .refine fE (D4 u _ _) ?_;rintro D a _ s rfl;rcases o with⟨rfl,rfl⟩|⟨w,x,rfl,rfl,d⟩
  .exact .fP
  .refine fE (D4 (d.fM s) _ _) ?_;rintro y z _ e rfl;rcases(((c.r s).r e))with⟨rfl,rfl⟩|⟨v,p,rfl,rfl,b⟩
   .exact .fD U
   .apply fE (D4 b _ _);rintro r q _ _ rfl;exact .fD U
def ac5(t:Á)(k:fi Y x v){l C h D m u:Option Ã}(g:ri Y l C)(i:ri Y h D)(j:ri Y m u):fF P fi Y (Γ t x l h m) (Γ t v C D u):=by
 unfold Γ;apply fE (jb t);rintro I d _ o ⟨rfl,J⟩;have k:=k.fM o;have g:=g.r o;have i:=i.r o;have j:=j.r o;cases d<;>try exact .fP
 .cases k<;>first|exact .fP|skip
  rename_i s;have e:m.isSome=u.isSome:=by rcases j with⟨rfl,rfl⟩|⟨_,_,rfl,rfl,_⟩<;>rfl
  simp only[e];split
  .exact .fP
  .apply fE (GD Â s.size s.size g i<|Å ⟨U,U⟩);rintro G ⟨a,b,c⟩ _ _ rfl;exact .fD (.kq _)
 .rename_i H;apply fE (UY k);intro G a K B f;apply fE (jb H);rintro L d _ p ⟨rfl,_⟩;have f:=f.r p;cases d<;>try exact .fP
  rename_i n e _;apply fE (GD Â n n ((g.r B).r p) ((i.r B).r p)<|(j.r B).r p);rintro E ⟨x,y,z⟩ _ q rfl;apply fE (mX e);rintro F w _ r ⟨rfl,_⟩;have f:=(f.r q).r r;refine .fD (.kQ ?_ _ _);split
  .exact f
  .exact f.C _
 .rename_i e;cases k<;>first|exact .fP|skip
  .rename_i n c;apply fE (GD È n c g i j);rintro E ⟨x,y,z⟩ _ q rfl;apply fE (mX e);rintro F w _ r ⟨rfl,_⟩;simp only[Option.map_none,ite_self];exact .fD (.nG _ _)
  .rename_i f n c;apply fE (GD È n c g i j);rintro E ⟨x,y,z⟩ _ q rfl;apply fE (mX e);rintro F w _ r ⟨rfl,_⟩;have f:=(f.r q).r r;by_cases e:z=x
   .simp only[e,if_true];exact .fD (.kQ f _ _)
   .simp only[e,if_false,bT];exact .fD (.kQ (f.C _) _ _)
def ac6(t:Á)(b:fi Y x v){l o h p m q:Option Ã}(c:ri Y l o)(f:ri Y h p)(g:ri Y m q):fF P fi Y (ş t x l h m) (ş t v o p q):=by
 unfold ş;apply fE (jb t);rintro u d _ i ⟨rfl,B⟩;have b:=b.fM i;have c:=c.r i;have f:=f.r i;have g:=g.r i;cases d<;>try exact ac5 t b c f g
 rename_i n e;apply fE (GB b);intro C a D k j;apply fE (GD Â n n (c.r k) (f.r k)<|g.r k);rintro E ⟨x,y,z⟩ _ r rfl;apply fE (mX e);rintro F w _ s ⟨rfl,_⟩;have j:=(j.r r).r s;refine .fD (.kQ ?_ _ _);split
 .exact j
 .exact j.C _
def ac7(t:Á)(a:fi Y x v)(b:fi Y z jQ):fF P fi Y (Δ t x z) (Δ t v jQ):=by
 unfold Δ;apply fE (Ke b);rintro l ⟨k,n⟩ _ c rfl;apply fE (jb t);rintro m d _ f ⟨rfl,o⟩;have a:=(a.fM c).fM f;cases d<;>try exact .fP
 .cases a<;>first|exact .fP|skip
  simp only[];split
  .exact .fD (.iD _ _)
  .exact Gy
 .rename_i p e;cases a<;>first|exact .fP|skip
  rename_i g h;simp only[];split
  .apply fE (mX e);rintro q w _ j ⟨rfl,_⟩;exact UW e ((fQ.mk g h).I j) _
  .exact Gy
def ac8(a:UnOp)(b:fi Y x v):fF P fi Y (cB a x) (cB a v):=by cases b<;>cases a<;>first|exact .fP|exact .fD (.iD _ _)|exact .fD (.mj _)
end
section
variable{Y:fq}
def ac9{α β:Type}{g:α->ę β}(d:∀{Y:fq} (a:α),fF P jm Y (g a)<|g a):∀{Y:fq} (l:List α),fF P jm Y (l.mapM g) (l.mapM g):=by
 intro Y l
 induction l generalizing Y with
 |nil=>exact .fD U
 |cons a l e=>
  rw[ah];apply sw (d a);intro f b _;apply sw e;exact λh c _=> .fD U
def ada{α β:Type}{g:α->ę β}(b:∀{Y:fq} (a:α),fF P jm Y (g a)<|g a)(l:Array α):fF P jm Y (l.mapM g) (l.mapM g):=by rw[Ě];have:=ac9 b (Y:=Y) l.toList;apply fF.lV this;intro d a c _ (e:a=c);subst e;exact .fD U
def adb(Y:fq)(p a:Nat×Value):Prop:=p.1=a.1/\fi Y p.2 a.2
inductive uZ(Y:fq):List (Nat×Value)->List (Nat×Value)->Prop
 |oU:uZ Y [] []
 |wi {p p':Nat×Value} {l l':List (Nat×Value)} (h:adb Y p p') (t:uZ Y l l'):uZ Y (p::l) (p'::l')
def uZ.fM{Y a:fq}(h:Y.r a){l b:List (Nat×Value)}(r:uZ Y l b):uZ a l b:=by
 induction r with
 |oU=>exact .oU
 |wi x _ c=>exact .wi ⟨x.1,x.2.fM h⟩ c
def ade(f:Nat):∀(c a:List Ã) (k:Nat) (b d:Array Ã),fQ Y c.toArray a.toArray->fQ Y b d-> fQ Y ((c.zipIdx k).foldl (λb (p:Value×Nat)=>b.setIfInBounds (f+p.2) p.1) b) ((a.zipIdx k).foldl (λb (p:Value×Nat)=>b.setIfInBounds (f+p.2) p.1) d):=by
 intro c
 induction c with
 |nil=>
  intro a k b d p e;have:a=[]:=by have:=p.r;simp at this;exact Ć this.symm
  subst this;exact e
 |cons x c g=>
  intro a k b d p e;match a,p with
  |[],p=>have:=p.r;simp at this
  |x'::a,p=>
   simp only[ĵ,List.foldl_cons];refine g a (k+1) _ _ ⟨by have:=p.r;simpa using this,λj h i=> ?_⟩ (e.qz _ (by have:=p.C 0 fj fj;simpa using this));have:=p.C (j+1) (by simp at h|-;omega) (by simp at i|-;omega);simpa using this
def adf(b:Nat){a c:Array Ã}(e:fQ Y d q)(f:fQ Y a c): fQ Y (d.zipIdx.foldl (λa (p:Value×Nat)=>a.setIfInBounds (b+p.2) p.1) a) (q.zipIdx.foldl (λa (p:Value×Nat)=>a.setIfInBounds (b+p.2) p.1) c):=by have:=ade b d.toList q.toList 0 a c (by simpa using e) f;rw[<-aN,<-aN,aD,aD];exact this
def Ov(d:Nat->Option (Nat×Nat)):∀{l e:List (Nat×Value)} {a b:Array Ã},uZ Y l e->fQ Y a b-> (Ŷ d a l=ì)\/∃c h,Ŷ d a l=À c/\Ŷ d b e=À h/\fQ Y c h:=by
 intro l e a b h
 induction h generalizing a b with
 |oU=>intro c;exact Ì ⟨a,b,U,U,c⟩
 |@wi p p' l e hp _ ih=>
  intro c;let⟨i,v⟩:=p;let⟨k,m⟩:=p';obtain⟨rfl,g⟩:=hp;unfold Ŷ;cases d i with
  |none=>exact Å U
  |some q=>
   let⟨j,n⟩:=q;have f:=g.gS;simp only[<-f.r,<-c.r];split
   .exact Å U
   .exact ih<|adf j f c
def adg(q:nJ P)(t:Á){l m:Array (Nat×Value)}(h:uZ Y l.toList m.toList):fF P fi Y (Ε t l) (Ε t m):=by
 unfold Ε;apply fE (Gz q t);intro C z D r s;apply fE (jb t);rintro E d _ o ⟨rfl,F⟩;have p:=(s.fM o).gS;have h:=(h.fM r).fM o;cases d<;>try exact .fP
 .rename_i n e;refine fE (mX e) ?_;rintro u w _ b ⟨rfl,_⟩;rcases Ov (λi=>À (i*w,w)) (h.fM b) (p.I b)with e|⟨c,v,j,k,g⟩
  .simp only[e];exact .fP
  .simp only[j,k];exact .fD (.ox g.r g.C)
 .rename_i x;refine sw (ada (λ{Y} (f:Field)=>fE (mX f.type) λG a H _ y=> ?_) x) ?_
  .obtain⟨rfl,_⟩:=y;exact .fD U
  .intro u B b;rcases Ov (B[·]?) (h.fM b) (p.I b)with e|⟨c,v,j,k,g⟩
   .simp only[e];exact .fP
   .simp only[j,k];exact .fD (.ox g.r g.C)
end
section
variable{Y:fq}
def adh(Y:fq):fi Y (default:Ã) default:=.mj _
def fQ.adi{Y:fq}(r:fQ Y d q)(i:Nat):fi Y d[i]! q[i]!:=by
 by_cases h:i<d.size
 .have a:i<q.size:=by rwa[<-r.r]
  rw[getElem!_pos d i h,getElem!_pos q i a];exact r.C i h a
 .have a:¬i<q.size:=by rwa[<-r.r]
  rw[getElem!_neg d i h,getElem!_neg q i a];exact adh Y
def fQ.Ow{Y:fq}(r:fQ Y d q)(n:Nat):fQ Y ((Ĳ n).map (d[· %d.size]!)) ((Ĳ n).map (q[· %q.size]!)):=by refine⟨fj,λi a b=> ?_⟩;simp only[Ζ,<-r.r];exact r.adi _
def fQ.yf{Y:fq}(r:fQ Y d q)(n:Nat):fQ Y (ø d n) (ø q n):=by
 unfold ø;have e:n*d.size=n*q.size:=by rw[r.r]
 rw[<-e];exact r.Ow _
def adj(p:nJ P)(t:Á)(b:Nat){j k:Array (Nat×Value)}(h:uZ Y j.toList k.toList):fF P fi Y (Ķ t b j) (Ķ t b k):=by
 unfold Ķ;apply fE (jb t);rintro B d _ q ⟨rfl,C⟩;have h:=h.fM q;cases d<;>try exact .fP
 rename_i e;apply fE (mX e);rintro r w _ s ⟨rfl,_⟩;simp only[];split
 .exact .fP
 have o:∀{f:fq} {z g:Array Ã},r.r f->fQ f z g->fF P fi f (match Ŷ (λi=>À (i*w,w)) ((Ĳ<|b*w).map (z[· %z.size]!)) j.toList with
   |some l=>do pure (õ (À<|<-ņ e l) b b)
   |_=>stuck "buildSlice: a part of the wrong size")
  (match Ŷ (λi=>À (i*w,w)) ((Ĳ<|b*w).map (g[· %g.size]!)) k.toList with
   |some l=>do pure (õ (À<|<-ņ e l) b b)
   |_=>stuck "buildSlice: a part of the wrong size"):=by
  intro f z g m n;rcases Ov (λi=>À (i*w,w)) ((h.fM s).fM m) (n.Ow<|b*w)with e0|⟨c,D,u,v,x⟩
  .rw[e0];exact .fP
  .rw[u,v];apply fE (GA e x);exact λE a F _ y=> .fD (.kQ y _ _)
 split
 .exact o (fq.M _)<|fQ.N _
 .apply fE (Gz p e);exact λf z g m n=>o m n.gS
def Kf(h:fi Y x v):fF P jm Y (Τ x) (Τ v):=by cases h<;>first|exact .fP|exact .fD U
def fQ.adk(Y:fq)(b:Array UInt8):fQ Y (b.map λb=>ď .u8 b.toNat) (b.map λb=>ď .u8 b.toNat):= ⟨U,λi a _=>by simp only[Ζ];exact .iD _ _⟩
def GF(a n:Nat)(h:fi Y x v):fF P fQ Y (Õ a n x) (Õ a n v):=by
 cases h<;>first|exact .fP|exact .fD (fQ.N _)|exact .fD (fQ.adk _ _)|skip
 rename_i b _ _;exact Oq b _
def Ox(n:Nat):fF P jm Y (Ł n) (Ł n):=by
 unfold Ł;split
 .exact .D2 (Å U) (.fD U)
 .exact .fD U
def adl(a:Array Á)(t:Á)(h:fi Y x v):fF P fi Y (Ů a t #[x]) (Ů a t #[v]):=by
 unfold Ů;cases a[0]? with
 |none=>exact .fP
 |some b=>
  apply fE (jb b);rintro f d _ c ⟨rfl,g⟩;have h:=h.fM c;cases d<;>try exact .fP
  .cases h<;>first|exact .fP|exact .fD (.iD _ _)
  .rename_i e;refine fE (jb e) ?_;rintro i d _ j ⟨rfl,_⟩;cases d<;>first|exact .fP|exact .fD (.iD _ _)
  .cases h<;>first|exact .fP|exact .fD (.iD _ _)
  .exact .fD (.iD _ _)
  all_goals cases h<;>first|exact .fP|exact .fD (.iD _ _)
def adn(a:Array Á)(t:Á)(h:fi Y x v):fF P fi Y (ů a t #[x]) (ů a t #[v]):=by
 unfold ů;cases a[0]? with
 |none=>exact .fP
 |some b=>
  apply fE (jb b);rintro f d _ c ⟨rfl,g⟩;have h:=h.fM c;cases d<;>try exact .fP
  .rename_i e;refine fE (jb e) ?_;rintro i d _ j ⟨rfl,_⟩;cases d<;>first|exact .fP|exact .fD (.iD _ _)
  .cases h<;>first|exact .fP|exact .fD (.iD _ _)
  .exact .fD (.iD _ _)
  all_goals cases h<;>first|exact .fP|exact .fD (.iD _ _)
def ado(g:Array Á)(t:Á)(h:fi Y x v)(a:fi Y z jQ):fF P fi Y (Š g t #[x,z]) (Š g t #[v,jQ]):=by
 unfold Š;cases g[0]? with
 |none=>exact .fP
 |some l=>
  apply fE (jb l);rintro u d _ i ⟨rfl,B⟩;have h:=h.fM i;have a:=a.fM i;cases d<;>try exact .fP
  rename_i e;cases h<;>first|exact .fP|skip
  .rename_i n c;apply fE (Kf a);rintro o m _ b rfl;apply fE (mX e);rintro p w _ f ⟨rfl,_⟩;apply fE (GF w _<|(a.fM b).fM f);exact λq c r j k=> .fD (.iD _ _)
  .rename_i s n c;apply fE (Kf a);rintro o m _ b rfl;apply fE (mX e);rintro p w _ f ⟨rfl,_⟩;apply fE (GF w _<|(a.fM b).fM f);intro q c r j k;apply fE (Ot (((s.r b).r f).r j)<|by simpa using k);exact λC _ _ _ _=> .fD (.iD _ _)
end
section
variable{Y:fq}
def Oy{α:Type}{h:Halt}:∀u x a,(eH h:ę α).run P u≠ĭ x a:=by intro u x a e;cases e
def Ah{α β:Type}{m:ę α}{f:α->ę β}(h:∀a u x b,(f a).run P u≠ĭ x b):∀u x b,(m>>=f).run P u≠ĭ x b:=by
 intro u x b e;rw[Ä]at e;cases c:m.run P u with
 |ok a w=>rw[c]at e;exact h a _ _ _ e
 |halt z w=>rw[c]at e;cases e
def Oz{α:Type}:∀u x a,(goPanic v:ę α).run P u≠ĭ x a:=Oy
def adp{α:Type}{v:bI}:∀u x a,(unsupported v:ę α).run P u≠ĭ x a:=Oy
def rj{α:Type}(e:θ):∀u x a,(runtimePanic e:ę α).run P u≠ĭ x a:=by
 unfold runtimePanic;refine Ah λp=> ?_;cases e<;>simp only[]<;>first|exact Oz|skip
 all_goals
  refine Ah λ_=> ?_;refine Ah λ_=>Oz
def Kg{α:Type}{V:fq->α->α->Prop}{e:θ}{m:ę α}:fF P V Y (runtimePanic e) m:=.oy (rj e)
def adq(Q:nJ P)(K D t:Á)(y:(∃e,P.underlying D=À (dz e))\/P.underlying D=À Ġ){B:Ã}(p:fi Y v jQ)(E:fi Y x B): fF P fi Y (ł #[K,D] t #[v,x]) (ł #[K,D] t #[jQ,B]):=by
 unfold ł;apply fE (jb K);rintro F d _ M ⟨rfl,hd⟩;have p:=p.fM M;have E:=E.fM M;cases d<;>try exact .fP
 rename_i e;have S:∀{g:fq} (z:Bool) (w n c m:Nat) {b f:Option Û},F.r g->fi g (õ b n c) (õ f n c)->fF P fi g (do
   let newCap<-Ŏ (ŷ (n+m) c e)
   Ł<|newCap*(<-ý e).bytes;let old<-Õ w n (õ b n c)
   let h<-Õ w m x
   let j:=ø (<-ě e).cells<|newCap-(n+m)
   pure (õ (À (<-ņ e (old++h++j))) (n+m) newCap))
  (do
   let newCap<-Ŏ (ŷ (n+m) c e)
   Ł<|newCap*(<-ý e).bytes;let old<-Õ w n (õ f n c)
   let h<-Õ w m B
   let j:=ø (<-ě e).cells<|newCap-(n+m)
   pure (õ (À (<-ņ e (old++h++j))) (n+m) newCap)):=by
  intro g _ w n c m b f i p;apply sw (.Ad λ_=> .fD U);intro H nc k;apply fE (ye e);rintro I l _ r ⟨rfl,_⟩;apply sw (Ox _);intro ρ5 _ T;have G:=fq.I (fq.I k r) T;apply fE (GF w n<|p.fM G);intro ρ6 o o' V W;apply fE (GF w m<|E.fM<|fq.I i<|fq.I G V);intro ρ7 q X hl7 L;apply fE (Gz Q e);intro ρ8 z z' N hzz;apply fE (GA e<|(((W.I hl7).I N).G<|L.I N).G<|hzz.gS.yf _);exact λρ9 a J _ C=> .fD (.kQ C _ _)
 have j:∀{g:fq} (w n c m:Nat) {b f:Option Û},F.r g->fi g (õ b n c) (õ f n c)->fF P fi g (do
   let l<-ý e
   if((n+m:Nat):Int)>á.max/\(Â=È\/l.bytes=0)then runtimePanic (Ρ "growslice: len out of range")
   if ĳ (n+m) c*(<-ý e).bytes>2^48 then(if Â=È then runtimePanic (Ρ "growslice: len out of range")else do
    if !(<-Ĥ w n m b x)then ec ζ
    unsupported (Ÿ "append: a slice or a string whose bytes no memory bears"))
   let newCap<-Ŏ (ŷ (n+m) c e)
   Ł<|newCap*(<-ý e).bytes;let old<-Õ w n (õ b n c)
   let h<-Õ w m x
   let j:=ø (<-ě e).cells<|newCap-(n+m)
   pure (õ (À (<-ņ e (old++h++j))) (n+m) newCap))
  (do
   let l<-ý e
   if((n+m:Nat):Int)>á.max/\(Â=È\/l.bytes=0)then runtimePanic (Ρ "growslice: len out of range")
   if ĳ (n+m) c*(<-ý e).bytes>2^48 then(if Â=È then runtimePanic (Ρ "growslice: len out of range")else do
    if !(<-Ĥ w n m f B)then ec ζ
    unsupported (Ÿ "append: a slice or a string whose bytes no memory bears"))
   let newCap<-Ŏ (ŷ (n+m) c e)
   Ł<|newCap*(<-ý e).bytes;let old<-Õ w n (õ f n c)
   let h<-Õ w m B
   let j:=ø (<-ě e).cells<|newCap-(n+m)
   pure (õ (À (<-ņ e (old++h++j))) (n+m) newCap)):=by
  intro g w n c m b f i p;apply fE (ye e);rintro H l _ k ⟨rfl,_⟩;simp only[];split
  .exact .oy (vZ<|rj _)
  .apply fE (ye e);rintro I l _ r ⟨rfl,_⟩;have G:=fq.I k r;split
   .refine .oy (vZ ?_);simp only[Æ,if_false];refine Ah λb=> ?_;simp_all
   .exact S Â w n c m (fq.I i G)<|p.fM G
 have O:∀{b f:Option Û} (n c:Nat),((b=ì/\f=ì)\/∃a J,b=À a/\f=À J/\gY F a J)->fi F (õ b n c) (õ f n c)->∀{g:fq} (w m:Nat),F.r g->fF P fi g (if n+m<=c then(Õ w m x>>=λh=>match b with
   |some a=>Ř (a.add<|n*w) h.toList>>=λ_=>pure<|õ b (n+m) c
   |_=>pure (õ b (n+m) c))else(do
   let l<-ý e
   if((n+m:Nat):Int)>á.max/\(Â=È\/l.bytes=0)then runtimePanic (Ρ "growslice: len out of range")
   if ĳ (n+m) c*(<-ý e).bytes>2^48 then(if Â=È then runtimePanic (Ρ "growslice: len out of range")else do
    if !(<-Ĥ w n m b x)then ec ζ
    unsupported (Ÿ "append: a slice or a string whose bytes no memory bears"))
   let newCap<-Ŏ (ŷ (n+m) c e)
   Ł<|newCap*(<-ý e).bytes;let old<-Õ w n (õ b n c)
   let h<-Õ w m x
   let j:=ø (<-ě e).cells<|newCap-(n+m)
   pure (õ (À (<-ņ e (old++h++j))) (n+m) newCap)))
  (if n+m<=c then(Õ w m B>>=λh=>match f with
   |some a=>Ř (a.add<|n*w) h.toList>>=λ_=>pure<|õ f (n+m) c
   |_=>pure (õ f (n+m) c))else(do
   let l<-ý e
   if((n+m:Nat):Int)>á.max/\(Â=È\/l.bytes=0)then runtimePanic (Ρ "growslice: len out of range")
   if ĳ (n+m) c*(<-ý e).bytes>2^48 then(if Â=È then runtimePanic (Ρ "growslice: len out of range")else do
    if !(<-Ĥ w n m f B)then ec ζ
    unsupported (Ÿ "append: a slice or a string whose bytes no memory bears"))
   let newCap<-Ŏ (ŷ (n+m) c e)
   Ł<|newCap*(<-ý e).bytes;let old<-Õ w n (õ f n c)
   let h<-Õ w m B
   let j:=ø (<-ě e).cells<|newCap-(n+m)
   pure (õ (À (<-ņ e (old++h++j))) (n+m) newCap))):=by
  intro b f n c hb p g w m i;split
  .refine fE (GF w m<|E.fM i) ?_;intro H q X k L;rcases hb with⟨rfl,rfl⟩|⟨a,J,rfl,rfl,C⟩
   .exact .fD (.nG _ _)
   .apply fE (Ot (((C.r i).r k).C _)<|by simpa using L);exact λI _ _ r _=> .fD (.kQ (((C.r i).r k).r r) _ _)
  .exact j w n c m i<|p.fM i
 cases p<;>first|exact .fP|skip
 .rename_i n c;refine fE (mX e) ?_;rintro g w _ i ⟨rfl,_⟩;refine fE (jb D) ?_;rintro H d1 _ k ⟨rfl,u⟩;rcases y with⟨e1,y⟩|y;all_goals
   rw[y]at u;injection u with u;subst u;apply Ag;apply fE (Kf<|E.fM<|fq.I i k);rintro I m _ r rfl;exact O n c (Å ⟨U,U⟩) (.nG _ _) w m<|fq.I (fq.I i k) r
 .rename_i C n c;refine fE (mX e) ?_;rintro g w _ i ⟨rfl,_⟩;refine fE (jb D) ?_;rintro H d1 _ k ⟨rfl,u⟩;rcases y with⟨e1,y⟩|y;all_goals
   rw[y]at u;injection u with u;subst u;apply Ag;apply fE (Kf<|E.fM<|fq.I i k);rintro I m _ r rfl;exact O n c (Ì ⟨_,_,U,U,C⟩) (.kQ C _ _) w m<|fq.I (fq.I i k) r
end
section
variable{Y:fq}
def adr(p:nJ P)(t:Á){j:Ã}(q:fi Y v x)(r:fi Y jQ j):fF P fi Y (Ń t v jQ) (Ń t x j):=by
 unfold Ń;apply fE (jb t);rintro B d _ k ⟨rfl,C⟩;cases d<;>try exact .fP
 rename_i e;apply fE (Ou<|q.fM k);rintro D g _ s rfl;apply fE (Ou<|(r.fM k).fM s);rintro E b _ F rfl;apply fE (ye e);rintro G m _ H ⟨rfl,_⟩;have u:∀{n:fq},fF P fi n (do
   Ł<|(á.wrap b).toNat*m.bytes;let w<-ŗ e
   let zero<-if(á.wrap b).toNat*w=0 then pure #[]else do pure (<-ě e).cells
   let a<-ņ e ((Ĳ<|(á.wrap b).toNat*w).map (zero[· %zero.size]!))
   pure (õ (À a) (á.wrap g).toNat (á.wrap b).toNat))
  (do
   Ł<|(á.wrap b).toNat*m.bytes;let w<-ŗ e
   let zero<-if(á.wrap b).toNat*w=0 then pure #[]else do pure (<-ě e).cells
   let a<-ņ e ((Ĳ<|(á.wrap b).toNat*w).map (zero[· %zero.size]!))
   pure (õ (À a) (á.wrap g).toNat (á.wrap b).toNat)):=by
  intro n;apply sw (Ox _);intro I _ J;apply fE (mX e);rintro K w _ L ⟨rfl,_⟩;have o:∀{h:fq} {z f:Array Ã},fQ h z f->fF P fi h (ņ e ((Ĳ<|(á.wrap b).toNat*w).map (z[· %z.size]!))>>=λa=>pure<|õ (À a) (á.wrap g).toNat (á.wrap b).toNat) (ņ e ((Ĳ<|(á.wrap b).toNat*w).map (f[· %f.size]!))>>=λa=>pure<|õ (À a) (á.wrap g).toNat (á.wrap b).toNat):=by intro h z f i;apply fE (GA e<|i.Ow _);intro M a N _ y;exact .fD (.kQ y _ _)
  simp only[];split
  .exact o<|fQ.N _
  .apply fE (Gz p e);intro h z f _ i;exact o i.gS
 simp only[];split
 .split
  .exact .oy (vZ<|rj _)
  .split
   .exact .oy (vZ<|rj _)
   .exact .oy (Ah λ_=>vZ<|rj _)
 .exact u
def tB(P:Ö)(t:Á):Prop:=P.underlying t=À .bool\/(∃k,P.underlying t=À (Υ k))\/P.underlying t=À Ġ
def mY:Ã->Prop
 |Ø (À _)=>False
 |_=>True
def UZ(t:Á)(i:tB P t\/∃e,P.underlying t=À (ò e))(b:fi Y x v)(c:fi Y z jQ)(j:mY x\/mY z):fF P jm Y (ù t x z) (ù t v jQ):=by
 unfold ù ć ι;refine fE (jb t) ?_;rintro o d _ g ⟨rfl,a⟩;have b:=b.fM g;have c:=c.fM g;rcases i with(h|⟨k,h⟩|h)|⟨e,h⟩;all_goals
  rw[h]at a;injection a with a;subst a;cases b<;>cases c<;>first|exact .fP|exact .fD U|(simp[mY]at j;done)|skip
 .simp only[];split<;>first|exact .fD U|exact .fP
 .rename_i l n _ _ _;by_cases f:n=0
  .subst f;exact .fD U
  .refine .oy λu x m e=> ?_;simp_all
 .rename_i l n;by_cases f:n=0
  .subst f;exact .fD U
  .refine .oy λu x m e=> ?_;simp_all
end
section
variable{Y:fq}
def Kh{r:Nat}(h:Y r i):fF P (λ_ a b=>a=ì/\b=ì) Y (cC r) (cC i):=.uY h λ_ _ _ _=> .fD ⟨U,U⟩
def U0{r:Nat}(h:Y r i):fF P (λ_ a b=>a=ì/\b=ì) Y (cD r) (cD i):=.uY h λ_ _ _ _=> .fD ⟨U,U⟩
def Ai(h:gY Y a p):fF P (λc x b=>gY c x.1 b.1/\x.2=b.2/\x=(a,Â)/\b=(p,Â)) Y (ķ a) (ķ p):=by unfold ķ;apply fE (U0 h.1);rintro c x d b ⟨rfl,rfl⟩;exact .fD ⟨h.r b,U,U,U⟩
def ads(h:gY Y a p):fF P jm Y (bx a) (bx p):=by unfold bx;apply fE (Kh h.1);rintro b x c d ⟨rfl,rfl⟩;exact .fD U
def GG(h:gY Y a p):fF P jm Y (dA a) (dA p):=by
 have f:=h;let⟨g,i,b⟩:=f;unfold dA;cases c:a.spot with
 |some s=>
  rw[c]at b;rw[<-b];exact .fD U
 |none=>
  rw[c]at b;rw[<-b];apply fE rh;rintro k s l d ⟨rfl,e⟩;subst e;apply fE (ads<|h.r d);intro m _ _ j _;refine .uY (j.1 _ _<|d.1 _ _ g) λe n o q=> ?_;simp only[<-i,é];split
  .exact .fD U
  .split
   .exact .fD U
   .exact .fP
def Ki(c:Bi Y){b d:Û}(f:gY Y a p)(g:gY Y b d):(a.block==b.block)=(p.block==d.block):=by
 rw[σ,beq_iff_eq,beq_iff_eq];constructor
 .intro e;exact c.1 _ _ _ f.1<|e▸g.1
 .intro e;exact c.2.1 _ _ _ f.1<|e▸g.1
theorem U1(g:Bi Y){b c:Û}(d:gY Y a p)(f:gY Y b c):(a==b)=(p==c):=by have e:=Ki g d f;rw[σ,beq_iff_eq,beq_iff_eq]at e;rw[σ,beq_iff_eq,beq_iff_eq];let⟨h,i,j⟩:=a;let⟨k,l,m⟩:=p;let⟨n,o,q⟩:=b;let⟨r,s,t⟩:=c;let⟨_,u,v⟩:=d;let⟨_,w,x⟩:=f;grind
theorem U2(f:Bi Y)(n:Y.C=P.globals.size){b d:Û}(e:gY Y a p)(g:gY Y b d):fF P jm Y (Ű a b) (Ű p d):=by
 unfold Ű;apply fE rh;rintro o c q h ⟨i,j⟩;rw[i,j];have k:(a.block !=b.block)=(p.block !=d.block):=by simp only[bne];rw[Ki f e g]
 have l:(decide<|a.block≥P.globals.size)=(decide<|p.block≥P.globals.size):=by have:=f.2.2 _ _ e.1;grind
 rw[k,l];split
 .exact .fP
 .apply fE (GG<|e.r h);rintro r x _ m rfl;apply fE (GG<|(g.r h).r m);rintro s y _ t rfl;exact .fD U
def adt(d:Bi Y)(e:Y.C=P.globals.size)(k:Ā){b c:Û}(f:gY Y a p)(g:gY Y b c):fF P fi Y (κ k a b) (κ k p c):=by unfold κ;apply fE (U2 d e f g);rintro h ⟨x,y⟩ _ _ rfl;exact .fD (.iD _ _)
def adu(e:Bi Y)(f:Y.C=P.globals.size)(c:ĩ){b d:Û}(g:gY Y a p)(h:gY Y b d):fF P fi Y (ν c a b) (ν c p d):=by unfold ν;refine fE (U2 e f g h) ?_;rintro i ⟨x,y⟩ _ _ rfl;cases c<;>first|exact .fD (.mj _)|exact .fP
def U3(k:Ā)(b:gY Y a p)(n:Int):fF P fi Y (ξ k a n) (ξ k p n):=by
 unfold ξ;refine .uY b.1 λe m d f=> ?_;apply Ag;apply fE (ye e);rintro g h _ c ⟨rfl,_⟩;simp only[];split
 .exact .fP
 .apply fE (GG<|b.r c);rintro i x _ _ rfl;exact .fD (.iD _ _)
def adv{n:Int}(h:j<=b)(a:ai P i e j k n=À m):ai P i e b k n=À m:=by
 unfold ai at a|-;simp only[bind,Option.bind]at a|-;split at a
 .cases a
 .rename_i f;rw[if_neg f];split at a
  .cases a
  .rename_i g;simp only[g];dsimp only at a;split at a
   .cases a
   .rename_i l;rw[if_neg]
    .exact a
    .intro o;apply l;have:=(λw=>Nat.mul_le_mul_right w h)<|P.bytesOf e;simp at o|-;omega
def adw{i:Á->Bool}:∀{d:Nat} {e:Á} {c a b n:Nat},c<=a->dt P i d e c b n=È->dt P i d e a b n=È
 |0,_,_,_,_,_,_,h=>by simp[dt]at h
 |d+1,e,c,a,b,n,hc,h=>by
  unfold dt at h|-;simp only at h|-;split at h
  .cases h
  .rename_i j;rw[if_neg j];rw[bU,Ģ,Ģ,Ģ]at h|-;rcases h with⟨⟨f,g⟩,k⟩|⟨f,g⟩
   .exact Å ⟨⟨f,by simp at g|-;omega⟩,k⟩
   .exact Ì ⟨by simp at f|-;omega,g⟩
def U4:∀{d:Nat} {e:Á} {c a b:Nat} {u:Á} {n:Nat},c<=a->bz P d e c b u n=È->bz P d e a b u n=È
 |0,_,_,_,_,_,_,_,h=>by simp[bz]at h
 |d+1,e,c,a,b,u,n,hc,h=>by
  unfold bz at h|-;rw[bU]at h|-;rcases h with h|h
  .exact Å<|adw hc h
  .right;split at h
   .rename_i f;first|rw[f]|skip
    exact U4 hc h
   .cases h
def adx{a:Á->Bool}:dt P a i e 0 j (n+1)=Â:=by
 cases i with
 |zero=>simp[dt]
 |succ i=>
  unfold dt;simp
def ady{k:Ā}(a:P.underlying t=À (Υ k)):bz P i e 0 j t (n+1)=Â:=by
 cases i with
 |zero=>simp[bz]
 |succ i=>
  unfold bz;rw[adx];simp[a]
def U5(t:Á)(d:gY Y a p)(k:Ā)(n:Int):fF P fi Y (ó #[] t #[Ø<|À a,ď k n]) (ó #[] t #[Ø<|À p,ď k n]):=by
 have f:=d;let⟨c,g,h⟩:=f;unfold ó;apply Ag;simp only[];split
 .apply fE (Kh c);rintro i x e b ⟨rfl,rfl⟩;exact .fD (.jT (d.r b))
 .split
  .exact .fP
  .refine .uY c λe m u j=> ?_;apply Ag;apply fE rh;rintro i b v l ⟨o,r⟩;rw[o,r,<-g];cases s:ai P P.depth e (m/P.cellsOf e) a.off n with
   |none=>exact .fP
   |some x=>
    rw[adv (aj<|j.elim (λq=>by omega) λq=>q.1) s];exact .fD (.jT ⟨l.1 _ _ c,U,h⟩)
end
def yg:Obj->Prop
 |Ē .. =>False
 |_=>True
inductive kI(P:Ö){α:Type}(V:fq->α->α->Prop):fq->ę α->ę α->Prop
 |gp {Y:fq} {m m':ę α} (h:fF P V Y m m'):kI P V Y m m'
 |lV {Y:fq} {β:Type} {V0:fq->β->β->Prop} {m m':ę β} {f f':β->ę α} (h:fF P V0 Y m m') (hf:∀Y' a a',Y.r Y'->V0 Y' a a'->kI P V Y' (f a) (f' a')):kI P V Y (m.bind f) (m'.bind f')
 |D5 {Y:fq} {o:Obj} {g:Nat->α} {m':ę α} (ho:yg o):kI P V Y (.new o λr=>aW<|g r) m'
 |D6 {Y:fq} {m m':ę α} (h:∀u x u',m.run P u=ĭ x u'->∃i o,u.heap.size<=i/\u'.heap[i]?=À o/\yg o):kI P V Y m m'
section
variable{Y:fq}
def kI.adz{α β:Type}{V:fq->α->α->Prop}{i:fq->β->β->Prop}{m e:ę α}{f j:α->β}(h:kI P V Y m e)(k:∀c a d,Y.r c->V c a d->i c (f a) (j d)): kI P i Y (m.bind λa=>aW<|f a) (e.bind λa=>aW<|j a):=by
 induction h with
 |gp h=>exact .gp (h.lV λc a d u w=> .fD (k c a d u w))
 |lV h _ g=>
  rw[Ũ,Ũ];exact .lV h λc a d u w=>g c a d u w λx b z l n=>k x b z (fq.I u l) n
 |D5 b=>exact .D5 b
 |@D6 Y m e h=>
  refine .D6 λu x l b=> ?_;rw[Ľ]at b;cases g:m.run P u with
  |halt z w=>rw[g]at b;cases b
  |ok a w=>
   rw[g]at b;simp only[å]at b;cases b;exact h u a _ g
def D7(u a:Ç):Prop:=∀i o,u.heap.size<=i->a.heap[i]?=À o->¬yg o
def kI.gk{α:Type}{V:fq->α->α->Prop}{Y:fq}{m r:ę α}(h:kI P V Y m r):∀{u w:Ç},jg Y X u w->(∀j,X j->j<w.heap.size)->∀{x:α} {c:Ç},m.run P u=ĭ x c->D7 u c->∀d:Array ă,∃(a:fq) (n:α) (s:Ç) (b:Array ă),Y.r a/\(∀i j,a i j->Y i j\/(u.heap.size<=i/\w.heap.size<=j))/\r.runT P w d=(ĭ n s,d++b)/\V a x n/\jg a X c s/\nI Y X w s/\(∀e∈b,Ae a X e)/\u.heap.size<=c.heap.size:=by
 induction h with
 |gp h=>intro u w k g x c b _ d;exact h.gk k g b d
 |@lV Y β V0 m r f f' h _ ih=>
  intro u w k g x c b l d;rw[Ľ]at b;cases t:m.run P u with
  |halt z w=>rw[t]at b;cases b
  |ok a u1=>
   rw[t]at b;let⟨G,H,w1,E,p,q,v,I,J,B,K,C⟩:=h.gk k g t d;let⟨L,n,M,N,F,O,Q,S,T,W,k7,k8⟩:=ih G a H p I J (λj s=>Ô (g j s) B.r) b (λi o s=>l i o<|û C s)<|d++E;refine⟨L,n,M,E++N,fq.I p F,λi j D=> ?_,?_,S,T,B.ff W λi j D=>(q i j D).imp id λy=>y.2,λe s=> ?_,û C k8⟩
   .rcases O i j D with y|⟨y1,y2⟩
    .exact q i j y
    .exact Ì ⟨û C y1,û B.r y2⟩
   .rw[Ñ,v];simp only[];rw[Q,Ņ]
   .rcases ģ.1 s with s|s
    .rcases K e s with⟨a,i,y,z2,z3,z4⟩|z
     .exact Å ⟨a,i,y,F.1 _ _ z2,z3,z4⟩
     .exact Ì z
    .exact k7 e s
 |D5 s=>
  intro u w k g x c b l d;simp only[å]at b;cases b;exact absurd s<|l u.heap.size _ (à _) fj
 |D6 h=>
  intro u w k g x c b l d;let⟨i,o,p,q,v⟩:=h u x c b;exact absurd v<|l i o p q
end
section
variable{Y:fq}
theorem adA(i:Bi Y)(F:Y.C=P.globals.size)(t:Á)(s:tB P t){j b m:Û}(e:gY Y a j)(f:gY Y b m):fF P jm Y (ù t (Ø<|À a)<|Ø<|À b) (ù t (Ø<|À j)<|Ø<|À m):=by
 unfold ù ć ι;refine fE (jb t) ?_;rintro G d _ g ⟨rfl,c⟩;rcases s with h|⟨k,h⟩|h
 .rw[h]at c;injection c with c;subst c;exact .fP
 .rw[h]at c;injection c with c;subst c;apply fE (Ai<|e.r g);rintro H p u l ⟨_,_,rfl,rfl⟩;apply fE (Ai<|(f.r g).r l);rintro I q J n ⟨_,_,rfl,rfl⟩;apply fE rh;rintro K p u o ⟨v,w⟩;rw[v,w];have z:=(((e.r g).r l).r n).r o;have B:=(((f.r g).r l).r n).r o;have C:=Ki i e f;have D:(decide<|a.block<P.globals.size)=(decide<|j.block<P.globals.size):=by
   have:=i.2.2 _ _ e.1;grind
  simp only[C,D];split
  .apply fE (GG z);rintro E x _ r rfl;apply fE (GG<|B.r r);rintro L y _ M rfl;exact .fD U
  .apply fE (ye t);rintro E x _ r ⟨rfl,_⟩;split
   .rw[U1 i e f];split
    .exact .fD U
    .exact .fP
   .exact .fP
 .rw[h]at c;injection c with c;subst c;exact .fP
def adB(e:Bi Y)(f:Y.C=P.globals.size)(t:Á)(b:tB P t)(c:fi Y x v)(d:fi Y z jQ):fF P jm Y (ù t x z) (ù t v jQ):=by
 by_cases a:mY x\/mY z
 .exact UZ t (Å b) c d a
 .have g:=λh=>a<|Å h;have i:=λh=>a<|Ì h;cases c<;>first|exact absurd trivial g|skip
  cases d<;>first|exact absurd trivial i|skip
  rename_i j _ _ k;exact adA e f t b j k
def adC(a:ĩ)(k:Ā)(x y:Int):fF P fi Y (aC a k x y) (aC a k x y):=by
 unfold aC;split
 .exact Kg
 .cases a<;>first|exact .fP|exact .fD (.iD _ _)
def adD(a:ĩ)(k b:Ā)(x y:Int):fF P fi Y (aY a k x b y) (aY a k x b y):=by
 unfold aY;split
 .exact Kg
 .cases a<;>first|exact .fP|exact .fD (.iD _ _)
def adE(a:ĩ)(t:Á)(k b:Ā)(x y:Int):fF P fi Y (Ź a t (ď k x)<|ď b y) (Ź a t (ď k x)<|ď b y):=by
 cases a<;>simp only[Ź]<;>first|exact adD _ _ _ _ _|skip
 all_goals
  split
  .exact .fP
  .first|exact .fD (.iD _ _)|exact .fD (.mj _)|exact adC _ _ _ _
def adF(a:ĩ)(t:Á)(x y:ByteArray):fF P fi Y (Ź a t (ğ x)<|ğ y) (Ź a t (ğ x)<|ğ y):=by
 cases a<;>simp only[Ź,bJ]<;>first|exact .fP|exact .fD (.mj _)|skip
 split
 .exact .fP
 .exact .fD (.kq _)
end
section
variable{Y:fq}
def kU{α β:Type}{V0:fq->β->β->Prop}{V:fq->α->α->Prop}{m c:ę β}{f d:β->ę α}(h:fF P V0 Y m c) (g:∀b a e,Y.r b->V0 b a e->kI P V b (f a) (d e)):kI P V Y (m>>=f) (c>>=d):=.lV h g
def adG{α β:Type}{V:fq->α->α->Prop}{c:fq->β->β->Prop}{m d:ę α}{f e:α->β}(h:kI P V Y m d)(i:∀b a g,Y.r b->V b a g->c b (f a) (e g)): kI P c Y (m>>=λa=>pure<|f a) (d>>=λa=>pure<|e a):=kI.adz h i
def U6(t:Á)(y:Ã):∀u x a,(ó #[] t #[Ø ì,y]).run P u≠ĭ x a:=by
 unfold ó;refine Ah λn=> ?_;simp only[];split
 .exact adp
 .split;all_goals simp_all
def D8(t:Á)(i:fi Y x v)(j:∃p,x=Ø p)(k:Ā)(n:Int):kI P fi Y (Ť t x<|ď k n) (Ť t v<|ď k n):=by
 obtain⟨p,rfl⟩:=j;cases i with
 |lN=>
  unfold Ť;refine kU (jb t) ?_;rintro e d _ h ⟨rfl,_⟩;cases d<;>simp only[Æ,if_false,if_true]<;>first|exact .gp .fP|exact .gp (.oy (U6 t _))
 |jT f=>
  unfold Ť;refine kU (jb t) ?_;rintro e d _ h ⟨rfl,_⟩;have l:∀{a g:Û},gY e a g->kI P fi e (ķ a>>=λp=>ó #[] t #[Ø<|À p.1,ď k n]>>=λc=>match c with|Ø (À b)=>cE b p.2|c=>pure c) (ķ g>>=λp=>ó #[] t #[Ø<|À p.1,ď k n]>>=λc=>match c with|Ø (À b)=>cE b p.2|c=>pure c):=by intro a g f;refine kU (Ai f) ?_;rintro q p r s ⟨m,u,rfl,rfl⟩;refine kU (U5 t m k n) ?_;intro w c y z o;cases o<;>first|exact .D5 trivial|exact .gp (.fD (by constructor<;>assumption))
  cases d<;>simp only[Æ,if_false,if_true]<;>first|exact .gp .fP|exact l<|f.r h
def U7(t:Á)(b:fi Y x v)(c:∃p,x=Ø p)(k:Ā)(n:Int):kI P fi Y (ű t x<|ď k n) (ű t v<|ď k n):=by
 unfold ű;obtain⟨p,rfl⟩:=c;cases b with
 |lN=>exact .gp (.oy (U6 t _))
 |jT a=>
  apply kU (U0 a.1);rintro e p f d ⟨rfl,rfl⟩;exact .gp (U5 t (a.r d) k n)
def adH(P:Ö)(a:ĩ)(t:Á)(x y:Ã):Prop:=a=aO\/a=aZ->(tB P t\/((∃e,P.underlying t=À (ò e))/\(mY x\/mY y)))
def U8(c:Bi Y)(d:Y.C=P.globals.size)(t:Á)(f:tB P t\/((∃e,P.underlying t=À (ò e))/\(mY x\/mY z)))(a:fi Y x v)(b:fi Y z jQ):fF P jm Y (ù t x z) (ù t v jQ):=by
 rcases f with h|⟨g,i⟩
 .exact adB c d t h a b
 .exact UZ t (Ì g) a b i
def adI(m:Bi Y)(n:Y.C=P.globals.size)(c:ĩ)(t:Á)(r:adH P c t x z)(o:fi Y x v)(h:fi Y z jQ):kI P fi Y (Ź c t x z) (Ź c t v jQ):=by
 have f:c=aO->fF P fi Y (ù t x z>>=λb=>pure<|Ň b) (ù t v jQ>>=λb=>pure<|Ň b):=by intro e;apply fE (U8 m n t (r<|Å e) o h);rintro i b _ _ rfl;exact .fD (.mj _)
 have g:c=aZ->fF P fi Y (ù t x z>>=λb=>pure<|Ň !b) (ù t v jQ>>=λb=>pure<|Ň !b):=by intro e;apply fE (U8 m n t (r<|Ì e) o h);rintro i b _ _ rfl;exact .fD (.mj _)
 cases o with
 |iD k a=>
  cases h with
  |iD d b=>exact .gp (adE c t k d a b)
  |jT l=>
   cases c<;>first|exact .gp .fP|exact .gp (f U)|exact .gp (g U)|exact D8 t (.jT l) ⟨_,U⟩ _ _|skip
   apply kU (Ai l);rintro i p s e ⟨j,_,_,_⟩;exact .gp (U3 _ j _)
  |lN=>cases c<;>first|exact .gp .fP|exact .gp (f U)|exact .gp (g U)|exact D8 t .lN ⟨_,U⟩ _ _
  |_=>cases c<;>first|exact .gp .fP|exact .gp (f U)|exact .gp (g U)
 |kq a=>
  cases h with
  |kq b=>exact .gp (adF c t a b)
  |_=>cases c<;>first|exact .gp .fP|exact .gp (f U)|exact .gp (g U)
 |lN=>
  cases h with
  |iD k b=>
   cases c<;>first|exact .gp .fP|exact .gp (f U)|exact .gp (g U)|exact D8 t .lN ⟨_,U⟩ _ _|skip
   refine kU (jb t) ?_;rintro i d _ e ⟨rfl,_⟩;cases d<;>simp only[Æ,if_false,if_true]<;>first|exact U7 t .lN ⟨_,U⟩ _ _|exact D8 t .lN ⟨_,U⟩ _ _
  |_=>cases c<;>first|exact .gp .fP|exact .gp (f U)|exact .gp (g U)
 |jT a=>
  cases h with
  |iD k b=>
   cases c<;>first|exact .gp .fP|exact .gp (f U)|exact .gp (g U)|exact D8 t (.jT a) ⟨_,U⟩ _ _|skip
   .refine kU (jb t) ?_;rintro i d _ e ⟨rfl,_⟩;have a:=a.r e;cases d<;>simp only[Æ,if_false,if_true]<;>first|exact U7 t (.jT a) ⟨_,U⟩ _ _|exact D8 t (.jT a) ⟨_,U⟩ _ _
   all_goals
    apply kU (Ai a);rintro i p s e ⟨j,_,_,_⟩;exact .gp (U3 _ j _)
  |jT l=>
   cases c<;>first|exact .gp .fP|exact .gp (f U)|exact .gp (g U)|skip
   all_goals
    refine kU (Ai a) ?_;rintro i p s e ⟨j,_,rfl,rfl⟩;refine kU (Ai<|l.r e) ?_;rintro w q B b ⟨d,_,rfl,rfl⟩;have k:=b.2.1<|e.2.1 m;have u:=b.2.2.trans<|e.2.2.trans n;first|exact .gp (adt k u _ (j.r b) d)|exact .gp (adu k u _ (j.r b) d)
  |_=>cases c<;>first|exact .gp .fP|exact .gp (f U)|exact .gp (g U)
 |_=>
  cases h<;>cases c<;>first|exact .gp .fP|exact .gp (f U)|exact .gp (g U)
end
section
variable{Y:fq}
def adJ(a b:Á)(h:(∃k g,P.underlying a=À (Υ k)/\P.underlying b=À (Υ g))\/(P.underlying a=À Ġ/\P.underlying b=À Ġ))(f:fi Y x v):fF P fi Y (š a b x) (š a b v):=by
 unfold š;refine fE (jb a) ?_;rintro n d _ l ⟨rfl,c⟩;refine fE (jb b) ?_;rintro o p _ m ⟨rfl,e⟩;have f:=(f.fM l).fM m;rcases h with⟨k,g,i,j⟩|⟨i,j⟩;all_goals
  rw[i]at c;rw[j]at e;injection c with c;injection e with e;subst c e;cases f<;>first|exact .fP|exact .fD (.iD _ _)|exact .fD (.kq _)
inductive oV(Y:fq):ο->ο->Prop
 |nK {v v':Ã} (h:fi Y v v'):oV Y (ð v) (ð v')
 |sx:oV Y aV aV
 |sy (f:â) {c c':Array Ã} (h:fQ Y c c'):oV Y (ź f c) (ź f c')
def GH(P:Ö)(t:Á):Prop:=tB P t\/∃e,P.underlying t=À (ò e)
def adK(t:Á)(f:GH P t)(a g b i:Ã):fF P jm Y (ĸ ć t a b) (ĸ ć t g i):=by
 unfold ć ĸ;refine fE (jb t) ?_;rintro j d _ l ⟨rfl,c⟩;rcases f with(h|⟨k,h⟩|h)|⟨e,h⟩;all_goals
  rw[h]at c;injection c with c;subst c;exact .fD U
def adL(e:ĩ)(t:Á)(c:e=aO\/e=aZ->GH P t)(x y:Ù){d:Ã}(h:fi Y v z)(i:fi Y jQ d):fF P jm Y (Η e t x y v jQ) (Η e t x y z d):=by
 have g:GH P t->∀{f:fq} (s:bI) (v z jQ d:Ã),fF P jm f (ĸ ć t v jQ>>=λr=>if r=È then unsupported s else pure ()) (ĸ ć t z d>>=λr=>if r=È then unsupported s else pure ()):=by
  intro c f s v z jQ d;apply fE (adK t c v z jQ d);rintro j r _ _ rfl;split
  .exact .fP
  .exact .fD U
 unfold Η;cases e<;>first|exact .fD U|skip
 all_goals
  have c:=c (by first|exact Å U|exact Ì U);cases h<;>cases i<;>first|exact .fD U|skip
 all_goals first
  |(cases x<;>cases y<;>first|exact .fD U|exact g c _ _ _ _ _)
  |(
   simp only[Ą,Æ,if_false];apply fE rh;rintro f p m n ⟨r,s⟩;rw[r,s];apply fE rh;rintro j q o u ⟨k,l⟩;rw[k,l];split
   .exact .fD U
   .exact g c _ _ _ _ _)
def mH{m a:ę Ã}(h:fF P fi Y m a):fF P oV Y (m>>=λv=>pure<|ð v) (a>>=λv=>pure<|ð v):=h.lV λ_ _ _ _ v=> .fD (.nK v)
def U9{m a:ę Ã}(h:kI P fi Y m a):kI P oV Y (m>>=λv=>pure<|ð v) (a>>=λv=>pure<|ð v):=adG h λ_ _ _ _ v=> .nK v
def adM{m a:ę Unit}(h:fF P jm Y m a):fF P oV Y (m>>=λ_=>pure aV) (a>>=λ_=>pure aV):=h.lV λ_ _ _ _ _=> .fD .sx
def adN(f:â)(b:∃a,P.funcs[f]?=À a/\(a.name== "runtime.NumGoroutine")=Â/\a.body.isNone=Â)(e:fQ Y d q):fF P oV Y (ľ f d) (ľ f q):=by let⟨a,g,h,i⟩:=b;unfold ľ;apply fE rh;rintro m p n j ⟨k,l⟩;rw[k,l,g];simp only[h,i,Æ,if_false];exact .fD (.sy f (e.I j))
end
inductive j5(P:Ö)(ev:Ù->Ã):Op->Prop
 |Aj (x:Ù):j5 P ev (.move x)
 |GI (x:Ù):j5 P ev (.assign x)
 |wj (c a b:Ù):j5 P ev (.pick c a b)
 |gG (t:Á):j5 P ev (.alloc t)
 |OA (t:Á) (x:Ù):j5 P ev (.box t x)
 |OB (t:Á) (ps:Array (Nat×Operand)):j5 P ev (.build t ps)
 |OC (t:Á) (n:Nat) (ps:Array (Nat×Operand)):j5 P ev (dN t n ps)
 |gy (t:Á) (a:Ù):j5 P ev (.load t a)
 |ja (t:Á) (a x:Ù):j5 P ev (.store t a x)
 |GJ (x:Ù):j5 P ev (eN x)
 |D9 (op:ĩ) (t:Á) (x y:Ù) (r:Á) (h:op=aO\/op=aZ->(tB P t\/((∃e,P.underlying t=À (ò e))/\(mY (ev x)\/mY (ev y))))):j5 P ev (ef op t x y r)
 |OD (op:UnOp) (t:Á) (x:Ù):j5 P ev (.unOp op t x)
 |OG (s d:Á) (x:Ù) (h:(∃k k',P.underlying s=À (Υ k)/\P.underlying d=À (Υ k'))\/(P.underlying s=À Ġ/\P.underlying d=À Ġ)):j5 P ev (bb s d x)
 |OH (t:Á) (l c:Ù):j5 P ev (eg t l c)
 |kQ (t:Á) (x:Ù) (lo hi mx:Option Ù):j5 P ev (.slice t x lo hi mx)
 |OJ (s:Á) (x:Ù) (n:Nat) (h:∀fields f i,P.underlying s=À (dy fields)->fields[n]?=À f->P.info? f.type=À i->i.size≠0):j5 P ev (eh s x n)
 |OL (t:Á) (x:Ù) (n:Nat):j5 P ev (.field t x n)
 |OM (t:Á) (x i:Ù):j5 P ev (ei t x i)
 |ON (t:Á) (x i:Ù):j5 P ev (.index t x i)
 |Gv (x:Ù) (n:Nat):j5 P ev (.extract x n)
 |GK (x:Ù) (ts:Array Á):j5 P ev (υ {callee:=ĥ .len,args:=#[x],argTypes:=ts})
 |GM (x:Ù) (ts:Array Á):j5 P ev (υ {callee:=ĥ .cap,args:=#[x],argTypes:=ts})
 |GN (x y:Ù) (ts:Array Á):j5 P ev (υ {callee:=ĥ .copy,args:=#[x,y],argTypes:=ts})
 |GO (x y:Ù) (t0 t1:Á) (h:(∃e,P.underlying t1=À (dz e))\/P.underlying t1=À Ġ):j5 P ev (υ {callee:=ĥ .append,args:=#[x,y],argTypes:=#[t0,t1]})
 |jH (f:â) (args:Array Ù) (ts:Array Á) (Va:ev (bg f)=eW (.func f) #[] #[]) (h:∃fn,P.funcs[f]?=À fn/\(fn.name== "runtime.NumGoroutine")=Â/\fn.body.isNone=Â):j5 P ev (υ {callee:=cF<|bg f,args:=args,argTypes:=ts})
end Go.Proofs.Y.Lift
namespace Go.Proofs.Y.Lift
open Go Go.Conc
section
variable{Y:fq}
def Vb(Y:fq):Ù->Prop
 |ek v=>fi Y v v
 |eJ g=>Y g g
 |_=>True
def GQ(Y:fq):fi Y ň ň:=.nH U λi h=>absurd h fj
def adO{a a':bR}(h:fQ Y a.tmps a'.tmps)(b:Vb Y qQ):fi Y (a.eval qQ) (a'.eval qQ):=by
 cases qQ with
 |tmp t=>
  simp only[ç,İ];rcases h.S t with⟨f,g⟩|⟨v,d,f,g,c⟩
  .rw[f,g];exact GQ Y
  .rwa[f,g]
 |const v=>exact b
 |global g=>exact .jT ⟨b,U,U⟩
 |func f=>exact .fn _
def adP(b:Array aJ)(h:fQ Y d q)(j:Nat):ŏ b d j=ŏ b q j:=by
 unfold ŏ;cases(b[j]?).bind (·.dst)with
 |none=>rfl
 |some a=>
  simp only[Option.bind_some];rcases h.S a with⟨c,e⟩|⟨v,g,c,e,f⟩
  .rw[c,e]
  .rw[c,e];cases f<;>rfl
def Kj(a:Array aJ)(o:aJ)(h:fQ Y d q):Į o (ŏ a d)=Į o (ŏ a q):=by have:ŏ a d=ŏ a q:=funext<|adP a h;rw[this]
def adQ{a a':bR}(h:fQ Y a.tmps a'.tmps)(d:Option Tmp)(b:fi Y v x):fQ Y (a.put d v).tmps (a'.put d x).tmps:=by
 cases d with
 |none=>exact h
 |some d=>exact h.qz d b
end
section
variable{Y:fq}
def Vd{b:Ù->Ã}(a:Array Ù)(h:∀x∈a,fi Y (xX x)<|b x):fQ Y (a.map xX) (a.map b):= ⟨fj,λi c d=>by simp only[Ζ];exact h _<|Array.getElem_mem _⟩
def Ve{c:Ù->Ã}(a:Array (Nat×Operand))(h:∀x∈(a.toList.map (·.2)).toArray,fi Y (xX x)<|c x):uZ Y (a.map λp=>(p.1,xX p.2)).toList (a.map λp=>(p.1,c p.2)).toList:=by
 simp only[Array.toList_map];have d:∀x∈a.toList.map (·.2),fi Y (xX x) (c x):=λx b=>h x (by simpa using b);generalize a.toList=l at d
 induction l with
 |nil=>exact .oU
 |cons p l e=>exact .wi ⟨U,d _ fj⟩ (e λx b=>d x<|by simp at b|-;exact Ì b)
def OO{a:Ù->Ã}(x:Option Ù)(h:∀y,x=À y->fi Y (xX y) (a y)):ri Y (x.map xX) (x.map a):=by
 cases x with
 |none=>exact Å ⟨U,U⟩
 |some x=>exact Ì ⟨_,_,U,U,h x U⟩
def Vf(p:nJ P)(D:Bi Y)(E:Y.C=P.globals.size){w:Ù->Ã}(F:∀f,w (bg f)=eW (.func f) #[] #[])(B:j5 P xX o.op)(g:∀x∈o.op.operands,fi Y (xX x)<|w x):kI P oV Y (í xX o) (í w o):=by
 let⟨O,u,Q,S,T,guard⟩:=o;simp only at B g;unfold í;simp only[];cases B with
 |Aj x=>exact .gp (.fD (oV.nK<|g x<|by simp[Ê]))
 |GI x=>exact .gp (.fD (oV.nK<|g x<|by simp[Ê]))
 |wj c a b=>
  apply kU (UX<|g c<|by simp[Ê]);rintro G r _ k rfl;refine .gp (.fD (oV.nK ?_));split
  .exact(g a<|by simp[Ê]).fM k
  .exact(g b<|by simp[Ê]).fM k
 |gG t=>exact .gp (mH<|acX p t _)
 |OA t x=>exact .gp (mH<|acY t<|g x<|by simp[Ê])
 |OB t z=>exact .gp (mH<|adg p t<|Ve z g)
 |OC t n z=>exact .gp (mH<|adj p t n<|Ve z g)
 |gy t a=>exact .gp (mH<|acZ t<|g a<|by simp[Ê])
 |ja t a x=>exact .gp (adM<|ac0 t (g a<|by simp[Ê])<|g x<|by simp[Ê])
 |GJ x=>
  simp only[];have j:=g x (by simp[Ê]);generalize xX x=v at j;generalize w x=v' at j;cases j<;>first|exact .gp Kg|exact .gp (.fD (oV.nK<|by constructor<;>assumption))|skip
  rename_i f;cases f<;>exact .gp (.fD (oV.nK<|.fn _))
 |D9 u t x y r h=>
  have j:=g x (by simp[Ê]);have C:=g y (by simp[Ê]);apply U9;apply kU (adL u t (λe=>(h e).imp id λq=>q.1) x y j C);exact λG _ _ k _=>adI (k.2.1 D) (k.2.2.trans E) u t h (j.fM k)<|C.fM k
 |OD u t x=>exact .gp (mH<|ac8 u<|g x<|by simp[Ê])
 |OG s d x h=>exact .gp (mH<|adJ s d h<|g x<|by simp[Ê])
 |OH t l c=>exact .gp (mH<|adr p t (g l<|by simp[Ê])<|g c<|by simp[Ê])
 |kQ t x H I J=>exact .gp (mH<|ac6 t (g x<|by simp[Ê]) (OO H λy e=>g y<|by simp[Ê,e]) (OO I λy e=>g y<|by simp[Ê,e])<|OO J λy e=>g y<|by simp[Ê,e])
 |OJ s x n h=>exact .gp (mH<|ac3 s (g x<|by simp[Ê]) n h)
 |OL t x n=>exact .gp (mH<|ac2 t (g x<|by simp[Ê]) n)
 |OM t x i=>exact .gp (mH<|ac4 t (g x<|by simp[Ê])<|g i<|by simp[Ê])
 |ON t x i=>exact .gp (mH<|ac7 t (g x<|by simp[Ê])<|g i<|by simp[Ê])
 |Gv x n=>exact .gp (mH<|ac1 (g x<|by simp[Ê]) n)
 |GK x m=>
  simp only[þ,ē,Ę,pure_bind,Ú,ä,æ];exact .gp (mH<|adl m _<|g x<|by simp[Ê,ú])
 |GM x m=>
  simp only[þ,ē,Ę,pure_bind,Ú,ä,æ];exact .gp (mH<|adn m _<|g x<|by simp[Ê,ú])
 |GN x y m=>
  simp only[þ,ē,Ę,pure_bind,Ú,ä,æ];exact .gp (mH<|ado m _ (g x<|by simp[Ê,ú])<|g y<|by simp[Ê,ú])
 |GO x y K L h=>
  simp only[þ,ē,Ę,pure_bind,Ú,ä,æ];exact .gp (mH<|adq p K L _ h (g x<|by simp[Ê,ú])<|g y<|by simp[Ê,ú])
 |jH f M m N h=>
  simp only[þ,N,F f,Ĺ,ē,pure_bind,Ĕ,ĕ];exact .gp (adN f h<|Vd M λx j=>g x<|by simp[Ê,ú,j])
end
def World.tp(u:Ç)(T:az)(D:Nat):Ç:={u with tape:=T,drawn:=D}
def u5(T:az)(D:Nat)(a:az)(b n:Nat):Prop:=∀i,i<n->a (b+i)=T (D+i)
def u5.lP{T:az}(h:u5 T i xQ j (n+1)):xQ j=T i:=h 0 Z
def u5.jo{T:az}(h:u5 T i xQ j (n+m)):u5 T i xQ j n:=λa b=>h a Z
def u5.adR{b:az}(h:u5 xQ i b j (n+m)):u5 xQ (i+n) b (j+n) m:=λa c=>by have:=h (n+a) Z;rw[show j+n+a=j+(n+a) by omega,show i+n+a=i+(n+a) by omega];exact this
def rm{α:Type}(P:Ö)(m:ę α):Prop:=∀(u:Ç) (T:az) (D:Nat),∃(n:Nat) (v:Ç),
 ∀x c,m.run P ((World.tp u T D))=ĭ x c->c=(World.tp v T<|D+n)/\∀a b,u5 T D a b n->m.run P ((World.tp u a b))=ĭ x ((World.tp v a<|b+n))
section
variable{α β:Type}
def Ak{m:ę α}(h:∀u x a,m.run P u=ĭ x a->a=u/\∀b c,m.run P ((World.tp u b c))=ĭ x ((World.tp u b c))):rm P m:=λu T D=>⟨0,u,λx a e=>by let⟨d,f⟩:=h _ x a e;exact⟨d,λb c _=>f b c⟩⟩
def OP{m:ę α}(h:∀u x a,m.run P u≠ĭ x a):rm P m:=λu T D=>⟨0,u,λx a e=>absurd e<|h _ _ _⟩
def adS{m:ę α}{f:α->ę β}(h:rm P m)(i:∀a,rm P<|f a):rm P (m.bind f):=by
 intro u T D;let⟨n,v,j⟩:=h u T D;cases b:m.run P ((World.tp u T D))with
 |halt z w=>exact⟨0,u,λx c e=>by rw[Ľ,b]at e;cases e⟩
 |ok a k=>
  obtain⟨rfl,l⟩:=j a k b;let⟨o,w,p⟩:=i a v T<|D+n;refine⟨n+o,w,λx c e=> ?_⟩;rw[Ľ,b]at e;let⟨q,r⟩:=p x c e;refine⟨by rw[q,dc],λz d g=> ?_⟩;rw[Ľ,l z d g.jo,<-dc];exact r z (d+n) g.adR
theorem adT{m a:ę α}(h:∀u,m.run P u=a.run P u)(b:rm P a):rm P m:=by intro u T D;let⟨n,v,c⟩:=b u T D;exact⟨n,v,λx d e=>by grind⟩
def adU(q:cu):rm P (Ŏ q):=by
 intro u T D;cases a:q.forced with
 |true=>exact⟨0,u,λx d e=>by simp only[Ŏ,å,a,if_true]at e;cases e;exact⟨U,λb c _=>by simp only[Ŏ,å,a,if_true];rfl⟩⟩
 |false=>
  refine⟨1,u,λx d e=> ?_⟩;simp only[Ŏ,å,a,Æ,if_false]at e;cases e;refine⟨U,λb c f=> ?_⟩;simp only[Ŏ,å,a,Æ,if_false];have g:(World.tp u b c).tape (World.tp u b c).drawn q=T D q:=congrFun f.lP q;rw[g];rfl
def Kk{γ:Type}(s:String):(MonadExcept.throw s:Except String γ)=bS s:=rfl
def adV(a:Û)(md:Mode):rm P (bu a md):=by
 refine Ak λu x f e=> ?_;simp only[bu,å]at e|-;cases b:u.cell? a with
 |some v=>
  rw[b]at e;cases e;exact⟨U,λc d=>by simp only[show((World.tp u c d)).cell? a=À x from b]⟩
 |none=>
  rw[b]at e;cases v:u.farLoad P a (md==Đ)with
  |error z=>simp only[v]at e;cases e
  |ok p=>
   simp only[v]at e;cases e;exact⟨U,λc d=>by simp only[show((World.tp u c d)).cell? a=ì from b,show((World.tp u c d)).farLoad P a (md==Đ)=.ok p from v]⟩
def OQ(u:Ç)(a:Û)(v:Ã)(md:Mode):∀T D,((World.tp u T D)).farStore P a v (md==Đ)=(u.farStore P a v<|md==Đ).map λp=>((World.tp p.1 T D),p.2):=by
 intro T D;have c:∀b t,((World.tp u T D)).viewStore P b t a v (md==Đ)=(u.viewStore P b t a v<|md==Đ).map λp=>((World.tp p.1 T D),p.2):=by
  intro b t;unfold bV;have o:((World.tp u T D)).seen P b t a (md==Đ)=u.seen P b t a (md==Đ):=U;rw[o];simp only[bind,ak,pure,ar,Kk];cases u.seen P b t a (md==Đ)with
  |error e=>simp only[];split<;>rfl
  |ok r=>
   simp only[];repeat' (first|rfl|split)
 unfold Ŵ;have e:((World.tp u T D)).heap=u.heap:=U;cases r:u.heap[a.block]? with
 |none=>simp only[bh,e,r];rfl
 |some o=>
  cases o<;>first
   |(simp only[bh,e,r];rfl)
   |skip
  simp only[e,r,c];cases u.viewStore P _ _ a v (md==Đ)<;>rfl
def adW(a:Û)(v:Ã)(md:Mode):rm P (aH a v md):=by
 by_cases b:yb v=È
 .intro u T D;cases d:u.cell? a with
  |some y=>
   cases c:u.frozen? a with
   |true=>exact⟨0,u,λx h e=>by simp only[aH]at e;rw[wh b,show((World.tp u T D)).cell? a=À y from d]at e;simp only[show((World.tp u T D)).frozen? a=È from c,if_true]at e;cases e⟩
   |false=>
    refine⟨0,u.setCell a v,λx h e=> ?_⟩;simp only[aH]at e|-;rw[wh b,show((World.tp u T D)).cell? a=À y from d]at e;simp only[show((World.tp u T D)).frozen? a=Â from c,Æ,if_false]at e;cases e;refine⟨U,λf g i=> ?_⟩;rw[wh b,show((World.tp u f g)).cell? a=À y from d];simp only[show((World.tp u f g)).frozen? a=Â from c,Æ,if_false];rfl
  |none=>
   cases c:u.farStore P a v (md==Đ)with
   |error z=>exact⟨0,u,λx h e=>by simp only[aH]at e;rw[wh b,show((World.tp u T D)).cell? a=ì from d]at e;simp only[OQ u a v md T D,c,cG]at e;cases e⟩
   |ok p=>
    refine⟨0,p.1,λx h e=> ?_⟩;simp only[aH]at e|-;rw[wh b,show((World.tp u T D)).cell? a=ì from d]at e;simp only[OQ u a v md T D,c,cG]at e;cases e;refine⟨U,λf g i=> ?_⟩;rw[wh b,show((World.tp u f g)).cell? a=ì from d];simp only[OQ u a v md f g,c,cG];rfl
 .exact OP λu x h e=>by cases v<;>first|exact absurd U b|cases e
def adX(o:Obj):rm P (ep o):=λu T D=>⟨0,{u with heap:=u.heap.push o},λx a e=>by cases e;exact⟨U,λb c _=>rfl⟩⟩
def adY(r:Nat):rm P (cH r):=by
 refine Ak λu x d e=> ?_;simp only[cH,å]at e|-;cases a:u.heap[r]? with
 |none=>rw[a]at e;cases e
 |some o=>
  rw[a]at e;cases o<;>first
   |(cases e;done)
   |(cases e;exact⟨U,λb c=>by simp only[show((World.tp u b c)).heap[r]?=_ from a]⟩)
end
def qA(u:Ç):Prop:=∀(i:Nat) (c:Array Ã) (e:Á),u.heap[i]?≠À (Θ c e)
structure Kd(u u':Ç):Prop where
 r:qA u->qA u'
 C:∀(i:Nat) (o:Obj),u.heap[i]?=À o->yg o->∃o',u'.heap[i]?=À o'/\yg o'
def Kd.fT(u:Ç):Kd u u:=⟨id,λ_ o h k=>⟨o,h,k⟩⟩
def Kd.ff{c:Ç}(h:Kd w u)(k:Kd u c):Kd w c:=⟨λx=>k.r<|h.r x,λi o x y=>by let⟨d,e,f⟩:=h.C i o x y;exact k.C i d e f⟩
def GR:Halt->Bool
 |.panic _=>È
 |.stuck _=>È
 |ŋ (.initOrder _)=>Â
 |ŋ _=>È
 |_=>Â
def oz{α:Type}(P:Ö)(m:ę α):Prop:=∀u,qA u->(∀x a,m.run P u=ĭ x a->Kd u a)/\(∀z a,m.run P u=cw z a->GR z=È)
section
variable{α β:Type}
def Vg(a:α):oz P (aW a):=λu _=>⟨λx b h=>by cases h;exact Kd.fT u,λz b h=>by cases h⟩
def GU{z:Halt}(h:GR z=È):oz P (eH z:ę α):=λu _=>⟨λx a e=>(by cases e),λb a e=>(by cases e;exact h)⟩
def Kl{m:ę α}{f:α->ę β}(h:oz P m)(j:∀a,oz P<|f a):oz P (m.bind f):=by
 intro u d;let⟨g,k⟩:=h u d;refine⟨λx i e=> ?_,λz i e=> ?_⟩<;>rw[Ľ]at e
 .cases b:m.run P u with
  |ok a c=>
   rw[b]at e;exact(g a c b).ff<|(j a c<|(g a c b).r d).1 x i e
  |halt z w=>rw[b]at e;cases e
 .cases b:m.run P u with
  |ok a c=>
   rw[b]at e;exact(j a c<|(g a c b).r d).2 z i e
  |halt c w=>rw[b]at e;cases e;exact k _ _ b
def Vh:oz P dw:=λu _=>⟨λx a h=>by cases h;exact Kd.fT u,λz a h=>by cases h⟩
theorem adZ(q:cu):oz P (Ŏ q):=by
 intro u b;constructor
 .intro x a e;simp only[Ŏ,å]at e;split at e<;>cases e
  .exact Kd.fT u
  .exact⟨id,λi o h k=>⟨o,h,k⟩⟩
 .intro z a e;simp only[Ŏ,å]at e;grind
def ad1(m:Mark):oz P (ec m):=λu _=>⟨λx a h=>by cases h;exact Kd.fT u,λz a h=>by cases h⟩
def ad2(r:Nat):oz P (cI r):=λu _=>⟨λx a h=>by cases h;exact Kd.fT u,λz a h=>by cases h⟩
def ad3(a:Û):oz P (frozen a):=λu _=>⟨λx b h=>by cases h;exact Kd.fT u,λz b h=>by cases h⟩
theorem ad4(o:Obj)(h:∀c e,o≠Θ c e):oz P (ep o):=by
 intro u b;refine⟨λx d e=> ?_,λz d e=>by cases e⟩;cases e;refine⟨λ_ i c e a=> ?_,λi f a g=>⟨f,?_,g⟩⟩
 .simp only[Array.getElem?_push]at a;split at a
  .grind
  .exact b i c e a
 .grind
theorem Vi{f:Obj->Obj}(n:∀o,yg o->yg (f o))(j:∀o c e,f o=Θ c e->∃d g,o=Θ d g):Kd u {u with heap:=u.heap.modify b f}:=by
 refine⟨λh i c e a=> ?_,λi o a p=> ?_⟩
 .simp only[Ŕ]at a;split at a
  .let⟨o,k,l⟩:=ī.1 a;let⟨d,g,m⟩:=j o c e l;exact h i d g<|m▸k
  .exact h i c e a
 .grind
theorem ad5(a:Û)(v:Ã):Kd u (u.setCell a v):=by
 unfold č;refine Vi (λo b=> ?_) λo c e h=> ?_
 .cases o<;>first|exact b.elim|trivial
 .grind
def Vj(b:qA u)(a:Û)(s:String):GR (u.noCell a s)=È:=by
 unfold bh;split
 .rename_i h;exact absurd h<|b _ _ _
 .rfl
 .rfl
def ad6(a:Û)(m:Mode):oz P (bu a m):=by
 intro u c;constructor
 .intro x d e;simp only[bu,å]at e;split at e
  .cases e;exact Kd.fT u
  .split at e<;>cases e;exact Kd.fT u
 .intro z d e;simp only[bu,å]at e;split at e
  .cases e
  .split at e
   .cases e
   .rename_i b;cases e;unfold Ś at b;split at b
    .split at b<;>cases b;rfl
    .cases b;exact Vj c _ _
theorem ad7{k:Û}{r:Array Value×TypeId×(Nat×Nat)×Nat×Value×List (Nat×Nat×List UInt8)}(h:w.seen P a t k yQ=.ok r):∃c e d,w.heap[a.block]?=À (Ē c e d):=by unfold World.seen at h;simp only[bind,ak,pure,ar,Kk]at h;grind
theorem ad8{k:Û}{l:List Û}(h:w.viewStore P a t k v yQ=.ok (u,l)):Kd w u:=by
 have q:∃c e n d f g,w.heap[a.block]?=À (Ē d f g)/\u={w with heap:=w.heap.setIfInBounds a.block (Ē c e n)}:=by
  unfold bV at h;cases i:w.seen P a t k yQ with
  |error e=>
   rw[i]at h;simp only[bind,ak,pure,ar,Kk]at h;repeat' (first|contradiction|split at h)
  |ok r=>
   let⟨d,f,g,j⟩:=ad7 i;rw[i]at h;simp only[bind,ak,pure,ar,Kk]at h;repeat' (first|contradiction|split at h)
   all_goals(simp only[Except.ok.injEq,Prod.mk.injEq]at h;obtain⟨rfl,_⟩:=h;exact⟨_,_,_,d,f,g,j,U⟩)
 obtain⟨c,e,n,d,f,g,j,rfl⟩:=q;refine⟨λs i x m r=> ?_,λi o r y=> ?_⟩
 .rw[ũ]at r;split at r
  .grind
  .exact s i x m r
 .by_cases m:a.block=i
  .subst m;rw[j]at r;cases r;exact y.elim
  .grind
def ad9(a:Û)(v:Ã)(m:Mode):oz P (aH a v m):=by
 intro u d;by_cases c:yb v=È
 .constructor
  .intro x f e;simp only[aH]at e;rw[wh c]at e;split at e
   .split at e
    .cases e
    .cases e;exact ad5 a v
   .split at e
    .rename_i b;cases e;unfold Ŵ at b;split at b
     .split at b<;>cases b;rename_i g;exact ad8 g
     .cases b
    .cases e
  .intro z f e;simp only[aH]at e;rw[wh c]at e;split at e
   .split at e
    .cases e;rfl
    .cases e
   .split at e
    .cases e
    .rename_i b;cases e;unfold Ŵ at b;split at b
     .split at b<;>cases b;rfl
     .cases b;exact Vj d _ _
 .cases v<;>first|exact absurd U c|exact GU (P:=P) U u d
def fC(P:Ö)(m:ę α):Prop:=oz P m/\rm P m
def gB(a:α):fC P (pure a):=⟨Vg a,Ak λu x b e=>by cases e;exact⟨U,λ_ _=>rfl⟩⟩
def OS{z:Halt}(h:GR z=È):fC P (eH z:ę α):=⟨GU h,OP λu x a e=>by cases e⟩
def gl{m:ę α}{f:α->ę β}(h:fC P m)(b:∀a,fC P<|f a):fC P (m>>=f):=⟨Kl h.1 λa=>(b a).1,adS h.2 λa=>(b a).2⟩
def OT{m:ę α}{f:α->β}(h:fC P m):fC P (f<$>m):=gl h λ_=>gB _
def jd(s:String):fC P (stuck s:ę α):=OS U
def Vk(v:Ã):fC P (goPanic v:ę α):=OS U
def qB:fC P dw:=⟨Vh,Ak λu x a e=>by cases e;exact⟨U,λ_ _=>rfl⟩⟩
def sB(q:cu):fC P (Ŏ q):=⟨adZ q,adU q⟩
def GV(m:Mark):fC P (ec m):=⟨ad1 m,Ak λu x a e=>by cases e;exact⟨U,λ_ _=>rfl⟩⟩
def tC(r:Nat):fC P (cI r):=⟨ad2 r,Ak λu x a e=>by cases e;exact⟨U,λ_ _=>rfl⟩⟩
def OU(a:Û):fC P (frozen a):=⟨ad3 a,Ak λu x b e=>by cases e;exact⟨U,λ_ _=>rfl⟩⟩
def Km(o:Obj)(h:∀c e,o≠Θ c e):fC P (ep o):=⟨ad4 o h,adX o⟩
def GX(a:Û)(m:Mode):fC P (bu a m):=⟨ad6 a m,adV a m⟩
def aea(a:Û)(v:Ã)(m:Mode):fC P (aH a v m):=⟨ad9 a v m,adW a v m⟩
def Kn{m m':ę α}(h:∀u,m.run P u=m'.run P u)(a:fC P m'):fC P m:=⟨λu b=>by have:=a.1 u b;rwa[<-h u]at this,adT h a.2⟩
end
section
variable{α:Type}
def mZ(u:bI)(h:GR (ŋ u)=È):fC P (unsupported u:ę α):=OS h
def GY(e:Á)(c:Array Ã):fC P (ņ e c):=by unfold ņ;exact gl (Km _<|by intro _ _ h;cases h) λ_=>gB _
def Vl(t:Á)(v:Ã):fC P (eX t v):=GY _ _
def u6(t:Á):fC P (ý t):=by unfold ý;repeat' (first|(with_reducible first|exact gB _|exact jd _|exact qB|refine gl ?_ λ_=> ?_)|split)
def rn(t:Á):fC P (ö t):=by unfold ö;repeat' (first|(with_reducible first|exact gB _|exact jd _|exact qB|refine gl ?_ λ_=> ?_)|split)
def tD{p:Prop}(h:p:=by repeat' (first|(with_reducible first|exact gB _|exact jd _|exact qB|exact rn _|exact Vk _|exact Vl _ _|exact sB _|exact u6 _|exact GX _ _|exact tC _|exact GV _|refine gl ?_ (λ_=> ?_)|refine OT ?_|refine mZ _ ?_)|split|rfl)):p:=h
def Ko(t:Á):fC P (ř t):=by unfold ř;exact tD
def wm(e:θ):fC P (runtimePanic e:ę α):=by unfold runtimePanic;repeat' (first|(with_reducible first|exact Ko _|refine gl ?_ λ_=> ?_)|split|exact tD)
def Vm(k:Ā)(x y:Int)(c:aK):fC P (boundsPanic k x y c:ę α):=by unfold boundsPanic;simp only[];repeat' (first|(with_reducible first|exact wm _|refine gl ?_ λ_=> ?_)|split|exact tD)
def aeb(r:Nat):oz P (cH r):=by
 intro u b;constructor
 .intro x a e;simp only[cH,å]at e;split at e<;>first|(cases e;done)|(cases e;exact Kd.fT u)
 .intro z a e;simp only[cH,å]at e;split at e<;>first|(cases e;done)|(cases e;rfl)
def Vo(r:Nat):fC P (cH r):=⟨aeb r,adY r⟩
def Kp(t:Á):fC P (ě t):=by unfold ě;exact tD
def tE(t:Á):fC P (ŗ t):=by unfold ŗ;exact tD
def OV(t:Á):fC P (eI t):=by unfold eI;exact tD
def Vp(a:Û):∀(n i:Nat) (b:Array Ã),fC P<|ś a i n b
 |0,i,b=>gB _
 |n+1,i,b=>by unfold ś;exact gl (GX _ _) λ_=>Vp a n _ _
def OW(a:Û)(n:Nat):fC P (dr a n):=Vp a n _ _
def Kq(a:Û):∀(b:List Ã) (i:Nat),fC P<|Ř a b i
 |[],i=>gB _
 |v::b,i=>by unfold Ř;exact gl (aea _ _ _) λ_=>Kq a b _
def Vq(t:Á)(a:Û):fC P (aA t a):=by unfold aA;repeat' (first|(with_reducible first|exact tE _|exact OV _|exact OW _ _|refine gl ?_ λ_=> ?_)|split|exact tD)
def aec(t:Á)(a:Û)(v:Ã):fC P (aX t a v):=by unfold aX;repeat' (first|(with_reducible first|exact tE _|exact Kq _ _ _|refine gl ?_ λ_=> ?_)|split|exact tD)
def Vr(t:Á)(c:Array Ã)(o:Nat):fC P (part t c o):=by unfold part;repeat' (first|(with_reducible first|exact tE _|exact OV _|refine gl ?_ λ_=> ?_)|split|exact tD)
def Vt(v:Ã):fC P (ŵ v):=by unfold ŵ;exact tD
def Vu(v:Ã):fC P (dx v):=by unfold dx;exact tD
def jV{p:Prop}(h:p:=by repeat' (first|(with_reducible first|exact gB _|exact jd _|exact qB|exact rn _|exact Vk _|exact Vl _ _|exact Ko _|exact sB _|exact wm _|exact u6 _|exact GX _ _|exact tE _|exact OV _|exact OW _ _|exact Kq _ _ _|exact Vu _|exact Kp _|exact aec _ _ _|exact Vq _ _|exact Vt _|exact Vr _ _ _|exact tC _|exact Vo _|exact Vm _ _ _ _|exact GV _|refine gl ?_ (λ_=> ?_)|refine OT ?_|refine mZ _ ?_)|split|rfl)):p:=h
def GZ(v:Ã):fC P (dM v):=by unfold dM;exact jV
def Kr(v:Ã):fC P (cx v):=by unfold cx;exact jV
def aed(v:Ã):fC P (eY v):=by unfold eY;exact jV
def Vv(v:Ã):fC P (cy v):=by unfold cy;exact jV
def Vw(t:Á)(b:Bool)(v:Ã):fC P (Α t b v):=by unfold Α;exact jV
def Vx(t:Á)(v:Ã):fC P (aB t v):=by unfold aB;exact jV
def Vy(t:Á)(v:Ã):fC P (ŭ t v):=by unfold ŭ;exact jV
def Vz(t:Á)(a v:Ã):fC P (ļ t a v):=by unfold ļ;exact jV
def VA(v:Ã)(n:Nat):fC P (Ŝ v n):=by unfold Ŝ;exact jV
def VB(t:Á)(v:Ã)(n:Nat):fC P (Β t v n):=by unfold Β;repeat' (first|(with_reducible first|exact aed _|refine gl ?_ λ_=> ?_)|split|exact jV)
def VC{γ δ:Type}(f:γ->ę δ)(a:∀x,fC P<|f x):∀l:List γ,fC P<|l.mapM f
 |[]=>by rw[df];exact gB _
 |x::l=>by rw[ah];exact gl (a x) λ_=>gl (VC f a l) λ_=>gB _
def VD{γ δ:Type}(f:γ->ę δ)(a:∀x,fC P<|f x)(l:Array γ):fC P (l.mapM f):=by rw[Ě];exact OT<|VC f a _
def aee(l:Array Field):fC P (l.mapM λf=>do pure (f.offset,<-ŗ f.type)):=VD _ (λ_=>gl (tE _) λ_=>gB _) l
def Ks(r:Nat):fC P (cC r):=by unfold cC;exact jV
def VE(r:Nat):fC P (cD r):=by unfold cD;exact jV
def VF(a:Û):fC P (bx a):=by unfold bx;repeat' (first|(with_reducible first|exact Ks _|refine gl ?_ λ_=> ?_)|split|exact jV)
def Al(a:Û):fC P (dA a):=by unfold dA;repeat' (first|(with_reducible first|exact gB _|exact jd _|exact qB|exact tC _|exact VF _|refine gl ?_ λ_=> ?_)|split|simp only[]|(rename_i b;cases b<;>simp only[Æ,if_false,if_true,Ą,Ĉ]))
def Ea(a:Û):fC P (ķ a):=by unfold ķ;repeat' (first|(with_reducible first|exact VE _|refine gl ?_ λ_=> ?_)|split|exact jV)
def aef(a:Û)(x y:Nat):fC P (partAt a x y):=by unfold partAt;repeat' (first|(with_reducible first|exact Al _|refine gl ?_ λ_=> ?_)|split|exact jV)
def aeg(a:Û)(f:Field):fC P (cz a f):=by unfold cz;repeat' (first|(with_reducible first|exact aef _ _ _|refine gl ?_ λ_=> ?_)|split|exact jV)
def VG(s:Á)(v:Ã)(n:Nat):fC P (ŝ s v n):=by unfold ŝ;repeat' (first|(with_reducible first|exact aeg _ _|refine gl ?_ λ_=> ?_)|split|exact jV)
def VH(t:Á)(x i:Ã):fC P (Ş t x i):=by unfold Ş;repeat' (first|(with_reducible first|exact gB _|exact jd _|exact rn _|exact Vm _ _ _ _|exact tE _|exact Vt _|exact Vu _|refine gl ?_ (λ_=> ?_)|refine mZ _ ?_)|split|rfl|simp only[])
def aeh(x:Ã)(y:Nat)(c:aK):fC P (Ĵ x y c):=by unfold Ĵ;exact jV
def VI(b:Bool)(l c:Nat)(x y z:Option Ã):fC P (į b l c x y z):=by unfold į;repeat' (first|(with_reducible first|exact aeh _ _ _|refine gl ?_ λ_=> ?_)|split|exact jV)
def aei(t:Á)(v:Ã)(x y z:Option Ã):fC P (Γ t v x y z):=by unfold Γ;repeat' (first|(with_reducible first|exact Vv _|exact VI _ _ _ _ _ _|refine gl ?_ λ_=> ?_)|split|exact jV)
def VJ(t:Á)(v:Ã)(x y z:Option Ã):fC P (ş t v x y z):=by unfold ş;repeat' (first|(with_reducible first|exact VI _ _ _ _ _ _|exact aei _ _ _ _ _|refine gl ?_ λ_=> ?_)|split|exact jV)
def VK(t:Á)(x i:Ã):fC P (Δ t x i):=by unfold Δ;exact jV
def VL(o:ĩ)(k:Ā)(x y:Int):fC P (dO o k x y):=by unfold dO;exact jV
def VM(o:ĩ)(k:Ā)(x y:Int):fC P (eu o k x y):=by unfold eu;exact jV
def VN(o:UnOp)(v:Ã):fC P (cB o v):=by unfold cB;repeat' (first|(with_reducible first|exact VL _ _ _ _|exact VM _ _ _ _)|split|exact jV)
def VO(t:Á)(a:Array (Nat×Value)):fC P (Ε t a):=by unfold Ε;repeat' (first|(with_reducible first|exact aee _|refine gl ?_ λ_=> ?_)|split|exact jV)
def VP(t:Á)(n:Nat)(a:Array (Nat×Value)):fC P (Ķ t n a):=by unfold Ķ;repeat' (first|(with_reducible first|exact gB _|exact jd _|exact GY _ _|exact rn _|exact Kp _|exact tE _|refine gl ?_ (λ_=> ?_)|refine mZ _ ?_)|split|rfl|simp only[]|(rename_i b;cases b<;>simp only[Æ,if_false,if_true,Ą,Ĉ]))
def OX(n:Nat):fC P (Ł n):=by unfold Ł;exact jV
def VQ(t:Á)(x y:Ã):fC P (Ń t x y):=by unfold Ń;repeat' (first|(with_reducible first|exact gB _|exact jd _|exact sB _|exact GY _ _|exact u6 _|exact rn _|exact wm _|exact Kp _|exact tE _|exact GZ _|exact OX _|refine gl ?_ λ_=> ?_)|split|simp only[]|(rename_i b;cases b<;>simp only[Æ,if_false,if_true,Ą,Ĉ]))
def VR(v:Ã):fC P (Τ v):=by unfold Τ;exact jV
def VS(s n:Nat)(v:Ã):fC P (Õ s n v):=by unfold Õ;exact jV
def aej(a:Û)(n:Nat):fC P (aP a n):=by unfold aP;exact jV
def aek(s l n:Nat)(b:Option Û)(v:Ã):fC P (Ĥ s l n b v):=by unfold Ĥ;repeat' (first|(with_reducible first|exact gB _|exact OU _|exact aej _ _|refine gl ?_ λ_=> ?_)|split|simp only[]|(rename_i b;cases b<;>simp only[Æ,if_false,if_true,Ą,Ĉ]))
def VT(a:Array Á)(t:Á)(x:Array Ã):fC P (Ů a t x):=by unfold Ů;exact jV
def VU(a:Array Á)(t:Á)(x:Array Ã):fC P (ů a t x):=by unfold ů;exact jV
def VW(a:Array Á)(t:Á)(x:Array Ã):fC P (Š a t x):=by unfold Š;repeat' (first|(with_reducible first|exact VR _|exact VS _ _ _|refine gl ?_ λ_=> ?_)|split|exact jV)
def VX(a:Array Á)(t:Á)(x:Array Ã):fC P (ł a t x):=by unfold ł;repeat' (first|(with_reducible first|exact gB _|exact jd _|exact sB _|exact GV _|exact GY _ _|exact u6 _|exact rn _|exact wm _|exact Kp _|exact tE _|exact Kq _ _ _|exact GZ _|exact OX _|exact VR _|exact VS _ _ _|exact aek _ _ _ _ _|refine gl ?_ (λ_=> ?_)|refine mZ _ ?_)|split|rfl|(rename_i b;cases b<;>simp only[Æ,if_false,if_true,Ą,Ĉ]))
end
section
variable{α:Type}
def OY(o:ĩ)(k:ĺ)(x y:Nat):fC P (dh o k x y):=by unfold dh;repeat' (first|(with_reducible first|exact gB _|exact jd _|exact sB _|refine gl ?_ λ_=> ?_)|split|simp only[]|(rename_i b;cases b<;>simp only[Æ,if_false,if_true,Ą,Ĉ]))
def OZ(o:ĩ)(k:ĺ)(x y:Nat):fC P (dP o k x y):=by unfold dP;repeat' (first|(with_reducible first|exact gB _|exact jd _)|split)
def ael(s:ĺ)(b:Nat)(d:ĺ):fC P (bj s b d):=by unfold bj;repeat' (first|(with_reducible first|exact gB _|exact sB _|refine gl ?_ λ_=> ?_)|split|simp only[])
def VY(s:ĺ)(b:Nat)(d:Ā):fC P (bW s b d):=by unfold bW;repeat' (first|(with_reducible first|exact gB _|exact sB _|refine gl ?_ λ_=> ?_)|split)
def aem(o:ĩ)(k:ĺ)(x y:Nat):fC P (bA o k x y):=by unfold bA;repeat' (first|(with_reducible first|exact gB _|exact jd _|exact OY _ _ _ _|refine gl ?_ λ_=> ?_)|split)
def na{p:Prop}(h:p:=by repeat' (first|(with_reducible first|exact gB _|exact jd _|exact sB _|exact OY _ _ _ _|exact Kr _|exact OZ _ _ _ _|exact ael _ _ _|exact aem _ _ _ _|exact wm _|exact qB|exact Al _|exact tC _|exact GZ _|exact Ks _|exact rn _|exact Ea _|exact VE _|refine gl ?_ (λ_=> ?_)|refine mZ _ ?_)|split|rfl)):p:=h
def VZ(o:ĩ)(k:ĺ)(x y:Nat):fC P (cJ o k x y):=by unfold cJ;exact na
def aen(s:ĺ)(b:Nat)(d:ĺ):fC P (bX s b d):=by unfold bX;exact na
def O0(x y:Nat):fC P (cK x y):=by unfold cK;exact na
def O1(x y:Nat):fC P (cL x y):=by unfold cL;exact na
def O2(x y:Nat):fC P (cM x y):=by unfold cM;exact na
def aeo(x y:Nat):fC P (cN x y):=by unfold cN;exact na
def aep(a b c d:Nat):fC P (aQ a b c d):=by unfold aQ;repeat' (first|(with_reducible first|exact O0 _ _|exact O1 _ _|exact O2 _ _|refine gl ?_ λ_=> ?_)|split|exact na)
def aer(s a b c d:Nat):fC P (au s a b c d):=by unfold au;repeat' (first|(with_reducible first|exact O0 _ _|exact O1 _ _|exact O2 _ _|refine gl ?_ λ_=> ?_)|split|exact na)
def aes(a b c d:Nat):fC P (aE a b c d):=by unfold aE;repeat' (first|(with_reducible first|exact gB _|exact VZ _ _ _ _|exact O0 _ _|exact O1 _ _|exact O2 _ _|exact aeo _ _|exact aer _ _ _ _ _|refine gl ?_ λ_=> ?_)|split|simp only[])
def V1(o:ĩ)(k:ĺ)(a b c d:Nat):fC P (dB o k a b c d):=by unfold dB;repeat' (first|(with_reducible first|exact VZ _ _ _ _|exact aen _ _ _|exact aep _ _ _ _|exact aes _ _ _ _|refine gl ?_ λ_=> ?_)|split|exact na)
def aeu(o:ĩ)(k:Ā)(x y:Int):fC P (aC o k x y):=by unfold aC;exact na
def V2(o:ĩ)(x y:Int):fC P (eO o x y):=by unfold eO;exact na
def aev(o:ĩ)(k:Ā)(x:Int)(a:Ā)(y:Int):fC P (aY o k x a y):=by unfold aY;exact na
def O3(o:ĩ)(x y:ByteArray):fC P (bJ o x y):=by unfold bJ;exact na
def V3(a b:Û):fC P (Ű a b):=by unfold Ű;exact na
def aew(k:Ā)(a b:Û):fC P (κ k a b):=by unfold κ;repeat' (first|(with_reducible first|exact V3 _ _|refine gl ?_ λ_=> ?_)|split|exact na)
def aex(o:ĩ)(a b:Û):fC P (ν o a b):=by unfold ν;repeat' (first|(with_reducible first|exact V3 _ _|refine gl ?_ λ_=> ?_)|split|exact na)
def aey(k:Ā)(a:Û)(n:Int):fC P (ξ k a n):=by unfold ξ;repeat' (first|(with_reducible first|exact gB _|exact tC _|exact u6 _|exact Al _|refine gl ?_ (λ_=> ?_)|refine mZ _ ?_)|split|rfl|simp only[]|(rename_i b;cases b<;>simp only[Æ,if_false,if_true,Ą,Ĉ]))
def V4(a:Array Á)(t:Á)(x y:Ã):fC P (ó a t #[x,y]):=by
 unfold ó;cases x<;>first|exact jd _|skip
 refine gl (GZ y) λn=> ?_;exact na
def aez(a:Û)(b:Bool):fC P (cE a b):=by unfold cE;repeat' (first|(with_reducible first|exact gB _|refine gl ?_ (λ_=> ?_)|refine Km _ ?_)|split|(intro _ _ h;cases h;done))
def aeA(t:Á)(x y:Ã):fC P (Ť t x y):=by unfold Ť;repeat' (first|(with_reducible first|exact V4 _ _ _ _|exact aez _ _|refine gl ?_ λ_=> ?_)|split|exact na)
def aeB(t:Á)(x y:Ã):fC P (ű t x y):=by unfold ű;repeat' (first|(with_reducible first|exact V4 _ _ _ _|refine gl ?_ λ_=> ?_)|split|exact na)
def sC{γ:Type}{d:dQ}(h:P.underlying t=À d){f:dQ->ę γ}(a:fC P (f d)):fC P (ö t>>=f):=by
 have e:∀u,(ö t).run P u=ĭ d u:=by intro u;unfold ö;simp_all
 exact Kn (λu=>by rw[Ä,e,É]) a
def V5(t:Á)(x y:Ã)(a:tB P t\/((∃e,P.underlying t=À (ò e))/\(mY x\/mY y))):fC P (ù t x y):=by
 unfold ù ć ι;rcases a with(h|⟨k,h⟩|h)|⟨⟨e,h⟩,k⟩<;>refine sC h ?_
 .repeat' (first|(with_reducible first|exact gB _|exact jd _|exact qB|exact u6 _|exact Al _|exact Ea _|refine gl ?_ (λ_=> ?_)|refine mZ _ ?_)|contradiction|split)
 .repeat' (first|(with_reducible first|exact gB _|exact jd _|exact qB|exact u6 _|exact Al _|exact Ea _|refine gl ?_ (λ_=> ?_)|refine mZ _ ?_)|contradiction|split|rfl)
 .repeat' (first|(with_reducible first|exact gB _|exact jd _|exact qB|exact u6 _|exact Al _|exact Ea _|refine gl ?_ (λ_=> ?_)|refine mZ _ ?_)|contradiction|split)
 .repeat' (first|(with_reducible first|exact gB _|exact jd _|exact qB|exact u6 _|exact Al _|exact Ea _|refine gl ?_ (λ_=> ?_)|refine mZ _ ?_)|contradiction|exact(Or.elim k id id:False).elim|split)
def aeC(t:Á)(a:GH P t)(x y:Ã):fC P (ĸ ć t x y):=by unfold ć ĸ;rcases a with(h|⟨k,h⟩|h)|⟨e,h⟩<;>refine sC h ?_<;>(cases x<;>cases y<;>exact gB _)
def V7(c:ĩ)(t:Á)(d:c=aO\/c=aZ->GH P t)(x y:Ù)(a b:Ã):fC P (Η c t x y a b):=by
 unfold Η;by_cases e:c=aO\/c=aZ
 .have f:=d e;rcases e with rfl|rfl;all_goals
   repeat' (first|(with_reducible first|exact aeC _ f _ _|refine gl ?_ λ_=> ?_)|split|exact na)
 .cases c<;>first|exact absurd (Å U) e|exact absurd (Ì U) e|exact gB _
end
section
variable{α:Type}
def aeD(k:Ā)(n:Int):fC P (di k n):=by unfold di;repeat' (first|(with_reducible first|exact gB _)|split)
def V8(n:Int):fC P (bB n):=by unfold bB;repeat' (first|(with_reducible first|exact gB _)|split)
def aeE(a:ĩ)(t:Á)(x y:Ã)(h:a=aO\/a=aZ->(tB P t\/((∃e,P.underlying t=À (ò e))/\(mY x\/mY y)))):fC P (Ź a t x y):=by unfold Ź;repeat' (first|(with_reducible first|exact V5 _ _ _ (h<|Å U)|exact V5 _ _ _ (h<|Ì U)|exact gB _|exact jd _|exact rn _|exact Ea _|exact VL _ _ _ _|exact VM _ _ _ _|exact OY _ _ _ _|exact OZ _ _ _ _|exact V1 _ _ _ _ _ _|exact aeu _ _ _ _|exact V2 _ _ _|exact aev _ _ _ _ _|exact O3 _ _ _|exact aew _ _ _|exact aex _ _ _|exact aey _ _ _|exact aeA _ _ _|exact aeB _ _ _|refine gl ?_ (λ_=> ?_)|refine mZ _ ?_)|contradiction|split|rfl)
def aeF(s d:Á)(x:Ã)(h:(∃k a,P.underlying s=À (Υ k)/\P.underlying d=À (Υ a))\/(P.underlying s=À Ġ/\P.underlying d=À Ġ)):fC P (š s d x):=by
 unfold š;rcases h with⟨k,a,b,c⟩|⟨b,c⟩<;>refine sC b<|sC c ?_
 .repeat' (first|(with_reducible first|exact aeD _ _|exact gB _|exact VY _ _ _|refine mZ _ ?_)|contradiction|split|rfl)
 .repeat' (first|(with_reducible first|exact V8 _|exact gB _|exact VY _ _ _|refine mZ _ ?_)|contradiction|split|rfl)
def V9:∀(l:List FieldStep) (t:Á) (x:Option Ã),fC P<|bK l t x
 |[],t,x=>by unfold bK;exact gB _
 |s::l,t,x=>by unfold bK;repeat' (first|(with_reducible first|exact V9 l _ _|exact gB _|exact jd _|exact rn _|exact Vr _ _ _|refine gl ?_ λ_=> ?_)|split|(intro _ _ h;cases h;done)|rfl|simp only[]|(rename_i b;cases b<;>simp only[Æ,if_false,if_true,Ą,Ĉ]))
def Wa:∀(n:Nat) (t:Á) (v:Ã) (s:String),fC P<|bk n t v s
 |0,t,v,s=>by unfold bk;exact gB _
 |n+1,t,v,s=>by unfold bk;repeat' (first|(with_reducible first|exact Wa n _ _ _|exact V9 _ _ _|exact gB _|exact jd _|exact u6 _|exact rn _|refine gl ?_ λ_=> ?_)|split|(intro _ _ h;cases h;done)|rfl|simp only[]|(rename_i b;cases b<;>simp only[Æ,if_false,if_true,Ą,Ĉ]))
def lQ{m:ę Ã}(h:fC P m):fC P (m>>=λv=>pure<|ð v):=gl h λ_=>gB _
def aeG(f:â)(b:∃a,P.funcs[f]?=À a/\(a.name== "runtime.NumGoroutine")=Â/\a.body.isNone=Â)(c:Array Ã):fC P (ľ f c):=by let⟨a,d,e,g⟩:=b;refine Kn (m':=pure<|ź f c) (λu=> ?_)<|gB _;unfold ľ;rw[Ä,ĉ];simp only[É,d,e,g,Æ,if_false]
def aeH(j:j5 P xX o.op):fC P (í xX o):=by
 let⟨k,g,m,p,u,guard⟩:=o;simp only at j;unfold í;simp only[];cases j with
 |Aj x=>exact gB _
 |GI x=>exact gB _
 |wj c a b=>exact gl (Kr _) λ_=>gB _
 |gG t=>exact lQ<|Vw _ _ _
 |OA t x=>exact lQ<|Vx _ _
 |OB t b=>exact lQ<|VO _ _
 |OC t n b=>exact lQ<|VP _ _ _
 |gy t a=>exact lQ<|Vy _ _
 |ja t a x=>exact gl (Vz _ _ _) λ_=>gB _
 |GJ x=>
  simp only[];repeat' (first|(with_reducible first|exact Wa _ _ _ _|exact gB _|exact qB|exact wm _|exact Kr _|exact Vw _ _ _|exact Vx _ _|exact Vy _ _|exact Vz _ _ _|exact VA _ _|exact VB _ _ _|exact VG _ _ _|exact VH _ _ _|exact VJ _ _ _ _ _|exact VK _ _ _|exact VN _ _|exact VO _ _|exact VP _ _ _|exact VQ _ _ _|exact VT _ _ _|exact VU _ _ _|exact VW _ _ _|exact VX _ _ _|refine gl ?_ (λ_=> ?_)|refine mZ _ ?_)|split|rfl)
 |D9 g t x y r h=>exact lQ<|gl (V7 g t (λe=>(h e).imp id λq=>q.1) x y _ _) λ_=>aeE g t _ _ h
 |OD g t x=>exact lQ<|VN _ _
 |OG s d x h=>exact lQ<|aeF s d _ h
 |OH t l c=>exact lQ<|VQ _ _ _
 |kQ t x b a c=>exact lQ<|VJ _ _ _ _ _
 |OJ s x n h=>exact lQ<|VG _ _ _
 |OL t x n=>exact lQ<|VB _ _ _
 |OM t x i=>exact lQ<|VH _ _ _
 |ON t x i=>exact lQ<|VK _ _ _
 |Gv x n=>exact lQ<|VA _ _
 |GK x a=>
  simp only[þ,ē,Ę,pure_bind,Ú,ä,æ];exact lQ<|VT _ _ _
 |GM x a=>
  simp only[þ,ē,Ę,pure_bind,Ú,ä,æ];exact lQ<|VU _ _ _
 |GN x y a=>
  simp only[þ,ē,Ę,pure_bind,Ú,ä,æ];exact lQ<|VW _ _ _
 |GO x y b c h=>
  simp only[þ,ē,Ę,pure_bind,Ú,ä,æ];exact lQ<|VX _ _ _
 |jH f c a b h=>
  simp only[þ,b,Ĺ,ē,pure_bind,Ĕ,ĕ];exact aeG f h _
end
def fm(f:â)(t:Array Ã)(k:List Ū):Ğ:=(base f).at ⟨t,[]⟩ k
structure St where
 f:â
 t:Array Ã
 k:List Ū
 C:Bool
 L:List (FuncId×Array Value×List Ū)
def St.r(s:St)(cs:List Ğ):Ó:=G (if s.C then{fm s.f s.t s.k with mode:=.returning}else fm s.f s.t s.k)<|s.L.map (λx=>fm x.1 x.2.1 x.2.2)++cs
def oW(t:Array Ã)(d:Option Tmp)(v:Ã):Array Ã:=(Act.put ⟨t,[]⟩ d v).tmps
def sD(t:Array Ã)(d:Option Tmp)(v:Ã):Act.put ⟨t,[]⟩ d v=⟨oW t d v,[]⟩:=by cases d<;>rfl
inductive LS(P:Ö):St->Ç->St->Ç->Prop
 |oU {f t L u:_}:LS P ⟨f,t,[],Â,L⟩ u ⟨f,t,[],È,L⟩ u
 |u7 {f t k L u:_}:LS P ⟨f,t,Ė .ret::k,Â,L⟩ u ⟨f,t,Ė .ret::k,È,L⟩ u
 |sx {f t k L u:_}:LS P ⟨f,t,Ė .skip::k,Â,L⟩ u ⟨f,t,k,Â,L⟩ u
 |wo {f t k L u l:_}:LS P ⟨f,t,Ė (ew l)::k,Â,L⟩ u ⟨f,t,k,Â,L⟩ u
 |yh {f t k L u id:_}:LS P ⟨f,t,dR id::k,Â,L⟩ u ⟨f,t,k,Â,L⟩ u
 |u9 {f t k L u c:_}:LS P ⟨f,t,dS c::k,Â,L⟩ u ⟨f,t,k,Â,L⟩ u
 |rp {f t k L u x y:_}:LS P ⟨f,t,Ė (.seq x y)::k,Â,L⟩ u ⟨f,t,Ė x::Ė y::k,Â,L⟩ u
 |tF {f t k L u c x y b:_} (h:ç ⟨t,[]⟩ c=Ň b):LS P ⟨f,t,Ė (bL c x y)::k,Â,L⟩ u ⟨f,t,Ė (if b then x else y)::k,Â,L⟩ u
 |ru {f t k L u id c:_}:LS P ⟨f,t,Ė (ey id c)::k,Â,L⟩ u ⟨f,t,Ė c::dR id::k,Â,L⟩ u
 |wq {f t k L u c:_}:LS P ⟨f,t,Ė (.loop c)::k,Â,L⟩ u ⟨f,t,Ė c::dC c::k,Â,L⟩ u
 |wv {f t k L u c:_}:LS P ⟨f,t,dC c::k,Â,L⟩ u ⟨f,t,Ė c::dC c::k,Â,L⟩ u
 |wx {f t k L u c:_}:LS P ⟨f,t,Ė (ez c)::k,Â,L⟩ u ⟨f,t,Ė c::dS c::k,Â,L⟩ u
 |wy {f t k L u id k':_} (h:cP id k=À k'):LS P ⟨f,t,Ė (.exit id)::k,Â,L⟩ u ⟨f,t,k',Â,L⟩ u
 |wz {f t k L u l k':_} (h:cQ l k=À k'):LS P ⟨f,t,Ė (.goto l)::k,Â,L⟩ u ⟨f,t,k',Â,L⟩ u
 |tH {f t k L u id ops:_}:LS P ⟨f,t,Ė (cg id ops Â)::k,Â,L⟩ u ⟨f,t,ã ops (List.range ops.size)::k,Â,L⟩ u
 |Am {f t k L u id ops:_}:LS P ⟨f,t,Ė (cg id ops È)::k,Â,L⟩ u ⟨f,t,ã ops (bY (P.follows .mixedOrders) ops<|u.tape u.drawn<|.order f id)::k,Â,L⟩ {u with drawn:=u.drawn+1}
 |G0 {f t k L u ops:_}:LS P ⟨f,t,ã ops []::k,Â,L⟩ u ⟨f,t,k,Â,L⟩ u
 |Eb {f t k L u ops i rest o:_} (ho:ops[i]?=À o) (hw:Į o (ŏ ops t)=Â):LS P ⟨f,t,ã ops (i::rest)::k,Â,L⟩ u ⟨f,oW t o.dst ň,ã ops rest::k,Â,L⟩ u
 |nK {f t k L u ops i rest o v u':_} (ho:ops[i]?=À o) (hw:Į o (ŏ ops t)=È) (hr:(í (ç ⟨t,[]⟩) o).run P u=ĭ (ð v) u'):LS P ⟨f,t,ã ops (i::rest)::k,Â,L⟩ u ⟨f,oW t o.dst v,ã ops rest::k,Â,L⟩ u'
 |An {f t k L u ops i rest o u':_} (ho:ops[i]?=À o) (hw:Į o (ŏ ops t)=È) (hr:(í (ç ⟨t,[]⟩) o).run P u=ĭ aV u'):LS P ⟨f,t,ã ops (i::rest)::k,Â,L⟩ u ⟨f,oW t o.dst ň,ã ops rest::k,Â,L⟩ u'
 |sy {f t k L u ops i rest o g args fn c u':_} (ho:ops[i]?=À o) (hw:Į o (ŏ ops t)=È) (hr:(í (ç ⟨t,[]⟩) o).run P u=ĭ (ź g args) u') (hf:P.funcs[g]?=À fn) (hb:fn.body=À c):LS P ⟨f,t,ã ops (i::rest)::k,Â,L⟩ u ⟨g,args++ń (fn.ntmps-args.size) ň,[Ė c],Â,(f,t,ã ops (i::rest)::k)::L⟩ u'
 |Ec {f t k L u ops i rest:_} (ho:(ops:Array aJ)[(i:Nat)]?=ì):LS P ⟨f,t,ã ops (i::rest)::k,Â,L⟩ u ⟨f,t,ã ops rest::k,Â,L⟩ u
 |wA {f t k L u g t' ops i rest k' v fn u':_} (hf:P.funcs[f]?=À fn) (hr:(ı fn t).run P u=ĭ v u'):LS P ⟨f,t,k,È,(g,t',ã ops (i::rest)::k')::L⟩ u ⟨g,oW t' ((ops[i]?).bind (·.dst)) v,ã ops rest::k',Â,L⟩ u'
inductive ml(GL:Nat->Prop):Ù->Prop
 |Wb (t:Tmp):ml GL (.tmp t)
 |Wc {v:Ã} (h:jN v):ml GL (ek v)
 |Wg {g:Nat} (h:GL g):ml GL (eJ g)
 |Wh (f:â):ml GL (bg f)
structure mI(P:Ö)(GL:Nat->Prop)(e8:â->Prop)(o:aJ):Prop where
 mJ:∀{Y:fq} {Sh:Nat->Prop} {t t':Array Ã} {u w:Ç},nJ P->Y.C=P.globals.size->(∀g,GL g->Y g g)->fQ Y t t'->jg Y Sh u w->(∀j,Sh j->j<w.heap.size)->∀{x:ο} {u':Ç},(í (ç ⟨t,[]⟩) o).run P u=ĭ x u'->D7 u u'->
  ∃(Y':fq) (x':ο) (w':Ç) (Wi:Array ă),Y.r Y'/\(∀i j,Y' i j->Y i j\/(u.heap.size<=i/\w.heap.size<=j))/\(í (ç ⟨t',[]⟩) o).runT P w #[]=(ĭ x' w',#[]++Wi)/\oV Y' x x'/\jg Y' Sh u' w'/\nI Y Sh w w'/\(∀e∈Wi,Ae Y' Sh e)/\u.heap.size<=u'.heap.size
 r:∀a:bR,fC P<|í a.eval o
 I:∀(a:bR) (u:Ç) (n:ο) (u':Ç),(í a.eval o).run P u=ĭ n u'->(∃v,n=ð v)\/n=aV\/∃f c,n=ź f c
 C:∀(a:bR) (u:Ç) (f:â) (c:Array Ã) (u':Ç),(í a.eval o).run P u=ĭ (ź f c) u'->e8 f
inductive kJ(P:Ö)(GL:Nat->Prop)(e8:â->Prop):aG->Prop
 |u7:kJ P GL e8 .ret
 |sx:kJ P GL e8 .skip
 |wo (l:Nat):kJ P GL e8 (ew l)
 |wy (id:Nat):kJ P GL e8 (.exit id)
 |wz (l:Nat):kJ P GL e8 (.goto l)
 |rp {x y:aG} (hx:kJ P GL e8 x) (hy:kJ P GL e8 y):kJ P GL e8 (.seq x y)
 |tF {c:Ù} {x y:aG} (hc:ml GL c) (hx:kJ P GL e8 x) (hy:kJ P GL e8 y):kJ P GL e8 (bL c x y)
 |ru (id:Nat) {c:aG} (h:kJ P GL e8 c):kJ P GL e8 (ey id c)
 |wq {c:aG} (h:kJ P GL e8 c):kJ P GL e8 (.loop c)
 |wx {c:aG} (h:kJ P GL e8 c):kJ P GL e8 (ez c)
 |tH (id:Nat) {ops:Array aJ} (draw:Bool) (h:∀o∈ops,mI P GL e8 o):kJ P GL e8 (cg id ops draw)
 |nL (Wj:String):kJ P GL e8 (dE Wj)
inductive Ao(P:Ö)(GL:Nat->Prop)(e8:â->Prop):Ū->Prop
 |rv {c:aG} (h:kJ P GL e8 c):Ao P GL e8 (Ė c)
 |yh (id:Nat):Ao P GL e8 (dR id)
 |u9 {c:aG} (h:kJ P GL e8 c):Ao P GL e8 (dS c)
 |wv {c:aG} (h:kJ P GL e8 c):Ao P GL e8 (dC c)
 |wB {ops:Array aJ} (is:List Nat) (h:∀o∈ops,mI P GL e8 o):Ao P GL e8 (ã ops is)
def sE(P:Ö)(a:Nat->Prop)(b:â->Prop)(k:List Ū):Prop:=∀i∈k,Ao P a b i
structure kV(P:Ö)(GL:Nat->Prop)(e8:â->Prop)(s:St):Prop where
 fZ:sE P GL e8 s.k
 fx:∀x∈s.L,sE P GL e8 x.2.2
def oX(P:Ö)(d:Nat->Prop)(a:â->Prop):Prop:=∀f,a f->∀b c,P.funcs[f]?=À b->b.body=À c->kJ P d a c
section
variable{GL:Nat->Prop}{e8:â->Prop}
def aeI{a:aG}(h:kJ P GL e8 wX):bC wX i=À a->kJ P GL e8 a:=by
 induction h generalizing a with
 |rp j b d f=>
  intro e;simp only[bC]at e;split at e
  .rename_i r g;cases e;exact .rp (d g) b
  .exact f e
 |wo k=>
  intro e;simp only[bC]at e;split at e<;>cases e;exact .sx
 |_=>intro e;simp only[bC]at e;cases e
def aeJ{id:Nat}:∀{k a:List Ū},sE P GL e8 k->cP id k=À a->sE P GL e8 a:=by
 intro k
 induction k with
 |nil=>intro a _ e;simp[cP]at e
 |cons i k c=>
  intro a h e;have b:=λj d=>h j<|ô _ d;cases i with
  |inBlock f=>
   simp only[cP]at e;split at e
   .cases e;exact b
   .exact c b e
  |_=>simp only[cP]at e;exact c b e
def aeK:∀{k c:List Ū},sE P GL e8 k->cQ i k=À c->sE P GL e8 c:=by
 intro k
 induction k with
 |nil=>intro c _ e;simp[cQ]at e
 |cons a k f=>
  intro c h e;have d:=λj b=>h j<|ô _ b;cases a with
  |inScope m=>
   simp only[cQ]at e;have g:kJ P GL e8 m:=by cases h _ (ï ..)with|u9 h=>exact h
   split at e
   .rename_i r n;cases e;intro j b;rcases Ţ.1 b with rfl|b
    .exact .rv (aeI g n)
    .rcases Ţ.1 b with rfl|b
     .exact .u9 g
     .exact d j b
   .exact f d e
  |_=>simp only[cQ]at e;exact f d e
def nN{i:Ū}(h:sE P GL e8 (i::L)):sE P GL e8 L:=λj a=>h j<|ô _ a
def oA{i:Ū}(b:Ao P GL e8 i)(h:sE P GL e8 L):sE P GL e8 (i::L):=λj a=>by
 rcases Ţ.1 a with rfl|a
 .exact b
 .exact h j a
def yi{c:aG}{k:List Ū}(h:sE P GL e8 (Ė c::k)):kJ P GL e8 c:=by cases h _ (ï ..)with|rv h=>exact h
def oY{ops:Array aJ}{k:List Ū}(h:sE P GL e8 (ã ops jJ::k)):∀o∈ops,mI P GL e8 o:=by cases h _ (ï ..)with|wB _ h=>exact h
def LS.ok(i:oX P GL e8)(k:∀o a u f l w,mI P GL e8 o->(í (ç a) o).run P u=ĭ (ź f l) w->e8 f){s g:St}(h:LS P s u g w)(ok:kV P GL e8 s):kV P GL e8 g:=by
 let⟨c,d⟩:=ok;cases h with
 |oU=>exact⟨c,d⟩
 |u7=>exact⟨c,d⟩
 |sx=>exact⟨nN c,d⟩
 |wo=>exact⟨nN c,d⟩
 |yh=>exact⟨nN c,d⟩
 |u9=>exact⟨nN c,d⟩
 |rp=>
  cases yi c with
  |rp e j=>exact⟨oA (.rv e)<|oA (.rv j)<|nN c,d⟩
 |@tF _ _ _ _ _ _ _ _ b _=>
  cases yi c with
  |tF _ e j=>exact⟨oA (.rv (by cases b<;>simp[e,j]))<|nN c,d⟩
 |ru=>
  cases yi c with
  |ru _ h=>exact⟨oA (.rv h)<|oA (.yh _)<|nN c,d⟩
 |wq=>
  cases yi c with
  |wq h=>exact⟨oA (.rv h)<|oA (.wv h)<|nN c,d⟩
 |wv=>
  cases c _ (ï ..)with
  |wv h=>exact⟨oA (.rv h) c,d⟩
 |wx=>
  cases yi c with
  |wx h=>exact⟨oA (.rv h)<|oA (.u9 h)<|nN c,d⟩
 |wy h=>exact⟨aeJ (nN c) h,d⟩
 |wz h=>exact⟨aeK (nN c) h,d⟩
 |tH=>
  cases yi c with
  |tH _ _ h=>exact⟨oA (.wB _ h)<|nN c,d⟩
 |Am=>
  cases yi c with
  |tH _ _ h=>exact⟨oA (.wB _ h)<|nN c,d⟩
 |G0=>exact⟨nN c,d⟩
 |Eb=>exact⟨oA (.wB _ (oY c))<|nN c,d⟩
 |nK=>exact⟨oA (.wB _ (oY c))<|nN c,d⟩
 |An=>exact⟨oA (.wB _ (oY c))<|nN c,d⟩
 |sy m _ n p q=>
  refine⟨λj r=> ?_,λx e=> ?_⟩
  .have:=Ż.1 r;rw[this];exact .rv (i _ (k _ _ _ _ _ _ (oY c _<|Ý m) n) _ _ p q)
  .rcases Ţ.1 e with rfl|e
   .exact c
   .exact d x e
 |Ec=>exact⟨oA (.wB _ (oY c))<|nN c,d⟩
 |wA=>
  have j:=d _<|ï ..;exact⟨oA (.wB _ (oY j))<|nN j,λx e=>d x<|ô _ e⟩
end
structure Kt(Y:fq)(x y:FuncId×Array Value×List Ū):Prop where
 f:x.1=y.1
 t:fQ Y x.2.1 y.2.1
 k:x.2.2=y.2.2
inductive Ed(Y:fq):List (FuncId×Array Value×List Ū)->List (FuncId×Array Value×List Ū)->Prop
 |oU:Ed Y [] []
 |wi {x y:FuncId×Array Value×List Ū} {L L':List (FuncId×Array Value×List Ū)} (h:Kt Y x y) (hs:Ed Y L L'):Ed Y (x::L) (y::L')
structure Ku(Y:fq)(s s':St):Prop where
 f:s.f=s'.f
 t:fQ Y s.t s'.t
 k:s.k=s'.k
 u7:s.C=s'.C
 L:Ed Y s.L s'.L
def Kt.fM{Y a:fq}(h:Y.r a){x y:FuncId×Array Value×List Ū}(r:Kt Y x y):Kt a x y:=⟨r.f,r.t.I h,r.k⟩
def Kv{Y b:fq}(h:Y.r b){L c:List (FuncId×Array Value×List Ū)}(r:Ed Y L c):Ed b L c:=by
 induction r with
 |oU=>exact .oU
 |wi a _ d=>exact .wi (a.fM h) d
section
variable{Y:fq}{j:Nat->Prop}{p:â->Prop}
def aeL(a:∀g,X g->Y g g)(h:ml X qQ):Vb Y qQ:=by
 cases h with
 |Wb t=>trivial
 |Wc h=>exact h.jD Y
 |Wg h=>exact a _ h
 |Wh f=>trivial
def wC(b:∀g,X g->Y g g)(h:fQ Y d q)(c:ml X qQ):fi Y (ç ⟨d,[]⟩ qQ) (ç ⟨q,[]⟩ qQ):= adO (a:=⟨d,[]⟩) (a':=⟨q,[]⟩) h<|aeL b c
def oW.r{b:Array Ã}(h:fQ Y q b)(d:Option Tmp)(c:fi Y v x):fQ Y (oW q d v) (oW b d x):= adQ (a:=⟨q,[]⟩) (a':=⟨b,[]⟩) h d c
def Wk(n:Nat):fQ Y (ń n ň) (ń n ň):=⟨U,λi a b=>by simp only[Array.getElem_replicate];exact GQ Y⟩
def aeM(B:j5 P xX o.op)(i:(í xX o).run P u=ĭ (ź F d) W):∃q l,o.op=υ {callee:=cF<|bg F,args:=q,argTypes:=l}:=by
 have n:∀{m:ę Ã} {x:ο} {k p:Ç},(m>>=λv=>pure (ð v):ę ο).run P k=ĭ x p->∃v,x=ð v:=by
  intro m x k p e;rw[Ä]at e;cases j:m.run P k with
  |ok a w=>rw[j]at e;cases e;exact⟨a,U⟩
  |halt z w=>rw[j]at e;cases e
 have C:∀{m:ę Unit} {x:ο} {k p:Ç},(m>>=λ_=>pure aV:ę ο).run P k=ĭ x p->x=aV:=by
  intro m x k p e;rw[Ä]at e;cases j:m.run P k with
  |ok a w=>rw[j]at e;cases e;rfl
  |halt z w=>rw[j]at e;cases e
 let⟨E,s,G,H,I,guard⟩:=o;simp only at B|-;unfold í at i;simp only[]at i;cases B with
 |Aj x=>cases i
 |GI x=>cases i
 |wj c a b=>
  rw[Ä]at i;cases j:(cx<|xX c).run P u with
  |ok a w=>rw[j]at i;cases i
  |halt z w=>rw[j]at i;cases i
 |ja t a x=>exact absurd (C i) fj
 |GJ x=>
  simp only[]at i;split at i;all_goals first
   |(cases i;done)
   |exact absurd i<|rj _ _ _ _
   |(
    split at i;all_goals first
     |(cases i;done)
     |exact absurd i<|rj _ _ _ _
     |(
      rw[Ä,ĉ]at i;simp only[É]at i;rw[Ä]at i;revert i;generalize å P (bk _ _ _ _) u=z;intro i;cases z with
      |halt z w=>cases i
      |ok a w=>
       simp only[É]at i;split at i
       .rw[Ä]at i;cases i
       .cases i))
 |GK x l=>simp only[þ,ē,Ę,pure_bind,Ú,ä,æ]at i;let⟨v,e⟩:=n i;cases e
 |GM x l=>simp only[þ,ē,Ę,pure_bind,Ú,ä,æ]at i;let⟨v,e⟩:=n i;cases e
 |GN x y l=>simp only[þ,ē,Ę,pure_bind,Ú,ä,æ]at i;let⟨v,e⟩:=n i;cases e
 |GO x y b c h=>simp only[þ,ē,Ę,pure_bind,Ú,ä,æ]at i;let⟨v,e⟩:=n i;cases e
 |jH g q l b h=>
  let⟨J,c,r,D⟩:=h;simp only[þ,b,Ĺ,ē,pure_bind,Ĕ,ĕ,ľ]at i;rw[Ä,ĉ]at i;simp only[É,c,r,D,Æ,if_false]at i;cases i;exact⟨q,l,U⟩
 |D9 s t x y r h=>
  rw[Ä]at i;cases j:å P (Η s t x y (xX x) (xX y)>>=λ_=>Ź s t (xX x)<|xX y) u with
  |ok a w=>rw[j]at i;cases i
  |halt z w=>rw[j]at i;cases i
 |_=>let⟨v,e⟩:=n i;cases e
theorem Wl(j:Func)(h:fQ Y d q):fF P fi Y (ı j d) (ı j q):=by
 have k:∀(c:fq),Y.r c->∀n,fi c (d.getD n ň) (q.getD n ň):=by
  intro c e n;simp only[İ];rcases(h.I e).S n with⟨a,b⟩|⟨v,u,a,b,m⟩
  .rw[a,b];exact GQ c
  .grind
 unfold ı;refine fE (V:=fQ) ?_ ?_
 .rw[Ě,Ě];have w:∀(l:List ResultVar) (f:fq),Y.r f->fF P (λc (a o:List Ã)=>fQ c a.toArray o.toArray) f (l.mapM fun|ResultVar.tmp n=>pure (d.getD n ň)|ResultVar.cell a e=>do aA e (<-cy (d.getD a ň))) (l.mapM fun|ResultVar.tmp n=>pure (q.getD n ň)|ResultVar.cell a e=>do aA e (<-cy (q.getD a ň))):=by
   intro l
   induction l with
   |nil=>intro f _;simp only[df];exact .fD (fQ.N _)
   |cons r l x=>
    intro f g;simp only[ah];refine fE (V:=fi) ?_ ?_
    .cases r with
     |tmp n=>exact .fD (k f g n)
     |cell a e=>
      apply fE (UY<|k f g a);exact λp b s _ i=>UT i e
    .intro p v u e m;apply fE (x p<|fq.I g e);intro z s i y b;refine .fD ?_;have:=(fQ.M<|m.fM y).G b;simpa using this
  exact fF.lV (w _ Y<|fq.M _) λc a o _ e=> .fD e
 .intro f s i _ b;refine .fD ?_;by_cases e:s.size=1
  .have a:i.size=1:=by rwa[<-b.r]
   rw[dif_pos e,dif_pos a];exact b.C 0 _ _
  .have a:¬i.size=1:=by rwa[<-b.r]
   rw[dif_neg e,dif_neg a];exact .nH b.r b.C
end
section
variable{Y:fq}{d:Nat->Prop}{l:â->Prop}
def iV(P:Ö)(Y:fq)(d:Nat->Prop)(main:Bool)(cs:List Ğ)(h:St)(u w:Ç)(k:St)(c:Ç):Prop:=
 ∃(a:fq) (f:St) (b:Ç) (g:Array ă),Ü P main (h.r cs) w=bl (f.r cs) b g/\Ku a k f/\Y.r a/\(∀i j,a i j->Y i j\/(u.heap.size<=i/\w.heap.size<=j))/\jg a d c b/\nI Y d w b/\(∀e∈g,Ae a d e)/\u.heap.size<=c.heap.size
def iV.r{main:Bool}{cs:List Ğ}{a b s1':St}(c:jg Y d u w)(h:Ü P main (a.r cs) w=bl (s1'.r cs) w #[])(f:Ku Y b s1'):iV P Y d main cs a u w b u:= ⟨Y,s1',w,#[],h,f,fq.M _,λ_ _ h=>Å h,c,nI.fT _ _ w,λe g=>absurd g fj,à _⟩
def Kw{α:Type}{m:ę α}{x:α}(h:m.runT P w #[]=(ĭ x u,#[]++V)):m.run P w=ĭ x u/\m.events P w #[]=V:=by simp_all
def G1{main:Bool}{k:List Ū}{c:Ğ}{cs:List Ğ}{es:Array ă}(a:P.funcs[F]?=À s)(b:(ı s q).runT P w #[]=(ĭ v u,es)): Ü P main (G {fm F q k with mode:=.returning}<|c::cs) w=bl (G (c.finish v) cs) u (seen P F es):=by simp[G,Ü,dF,doReturn,fm,Frame.at,base,a,b,Ι,-Κ]
def LS.mJ(hz:nJ P)(hb:Y.C=P.globals.size)(hG:∀g,X g->Y g g){s s1 s':St}(h:LS P s u s1 W)(hs:Ku Y s s')(ok:kV P X l s)(n:jg Y d u w)(hl:∀j,d j->j<w.heap.size)(Q:D7 u W)(main:Bool)(cs:List Ğ): iV P Y d main cs s' u w s1 W:=by
 let⟨f',r,k',ret',p⟩:=s';let⟨S,m,T,e3,q⟩:=hs;simp only at S T e3 m q;subst S T e3;cases h with
 |oU=>exact .r (s1':=⟨_,r,_,È,p⟩) n (by simp[St.r,fm,base,G,Ü,Í,Frame.at]) ⟨U,m,U,U,q⟩
 |u7=>exact .r (s1':=⟨_,r,_,È,p⟩) n (by simp[St.r,fm,base,G,Ü,Í,Frame.at]) ⟨U,m,U,U,q⟩
 |sx=>exact .r (s1':=⟨_,r,_,Â,p⟩) n (by simp[St.r,fm,base,G,Ü,Í,Frame.at]) ⟨U,m,U,U,q⟩
 |wo=>exact .r (s1':=⟨_,r,_,Â,p⟩) n (by simp[St.r,fm,base,G,Ü,Í,Frame.at]) ⟨U,m,U,U,q⟩
 |yh=>exact .r (s1':=⟨_,r,_,Â,p⟩) n (by simp[St.r,fm,base,G,Ü,Í,Frame.at]) ⟨U,m,U,U,q⟩
 |u9=>exact .r (s1':=⟨_,r,_,Â,p⟩) n (by simp[St.r,fm,base,G,Ü,Í,Frame.at]) ⟨U,m,U,U,q⟩
 |rp=>exact .r (s1':=⟨_,r,_,Â,p⟩) n (by simp[St.r,fm,base,G,Ü,Í,Frame.at]) ⟨U,m,U,U,q⟩
 |@tF _ _ _ _ _ c _ _ b hc'=>
  have V:=wC hG m (by cases yi ok.fZ with|tF Q _ _=>exact Q);rw[hc']at V;have e:ç ⟨r,[]⟩ c=Ň b:=by generalize ç ⟨r,[]⟩ c=v' at V;cases V;rfl
  exact .r (s1':=⟨_,r,_,Â,p⟩) n (cR e) ⟨U,m,U,U,q⟩
 |ru=>exact .r (s1':=⟨_,r,_,Â,p⟩) n (by simp[St.r,fm,base,G,Ü,Í,Frame.at]) ⟨U,m,U,U,q⟩
 |wq=>exact .r (s1':=⟨_,r,_,Â,p⟩) n (by simp[St.r,fm,base,G,Ü,Í,Frame.at]) ⟨U,m,U,U,q⟩
 |wv=>exact .r (s1':=⟨_,r,_,Â,p⟩) n (by simp[St.r,fm,base,G,Ü,Í,Frame.at]) ⟨U,m,U,U,q⟩
 |wx=>exact .r (s1':=⟨_,r,_,Â,p⟩) n (by simp[St.r,fm,base,G,Ü,Í,Frame.at]) ⟨U,m,U,U,q⟩
 |wy B=>exact .r (s1':=⟨_,r,_,Â,p⟩) n (by simp[St.r,fm,base,G,Ü,Í,Frame.at,B]) ⟨U,m,U,U,q⟩
 |wz B=>exact .r (s1':=⟨_,r,_,Â,p⟩) n (by simp[St.r,fm,base,G,Ü,Í,Frame.at,B]) ⟨U,m,U,U,q⟩
 |tH=>exact .r (s1':=⟨_,r,_,Â,p⟩) n (by simp[St.r,fm,base,G,Ü,Í,Frame.at]) ⟨U,m,U,U,q⟩
 |@Am f t k L _ id ops=>
  refine⟨Y,⟨f,r,ã ops (bY (P.follows .mixedOrders) ops<|w.tape w.drawn<|.order f id)::k,Â,p⟩,{w with drawn:=w.drawn+1},#[],Λ,⟨U,m,?_,U,q⟩,fq.M _,λ_ _ h=>Å h,⟨n.S,by simp[n.N],n.C,n.I,n.M,n.r⟩,⟨à _,U,U,U,λ_ _ _=>rfl,λ_ _ _=>rfl⟩,λe B=>absurd B fj,à _⟩;simp only[n.S,n.N]
 |G0=>exact .r (s1':=⟨_,r,_,Â,p⟩) n (by simp[St.r,fm,base,G,Ü,Í,Frame.at]) ⟨U,m,U,U,q⟩
 |@Eb f t k L _ ops i rest o ho hw=>
  rw[Kj _ _ m]at hw;have:=av (P:=P) (main:=main) (b:=base f) (a:=⟨r,[]⟩) (k:=k) (cs:=p.map (λx=>fm x.1 x.2.1 x.2.2)++cs) (w:=w) (rest:=rest) ho hw;rw[sD]at this;exact .r (s1':=⟨f,oW r o.dst ň,ã ops rest::k,Â,p⟩) n this ⟨U,oW.r m _<|GQ Y,U,U,q⟩
 |@nK f t k L _ ops i rest o v _ ho hw hr=>
  rw[Kj _ _ m]at hw;let⟨C,x',E,es,z,F,D,H,I,J,K,M⟩:=(oY ok.fZ _<|Ý ho).mJ hz hb hG m n hl hr Q;let⟨N,O⟩:=Kw D;cases H with
  |nK V=>
   have:=bM (main:=main) (b:=base f) (k:=k) (cs:=p.map (λx=>fm x.1 x.2.1 x.2.2)++cs) (rest:=rest) ho hw (by simp[base]) N;rw[sD]at this;rename_i v';exact⟨C,⟨f,oW r o.dst v',ã ops rest::k,Â,p⟩,E,_,this,⟨U,oW.r (m.I z) _ V,U,U,Kv z q⟩,z,F,I,J,λe B=>K e (by have:=cS B;rwa[O]at this),M⟩
 |@An f t k L _ ops i rest o _ ho hw hr=>
  rw[Kj _ _ m]at hw;let⟨C,x',E,es,z,F,D,H,I,J,K,M⟩:=(oY ok.fZ _<|Ý ho).mJ hz hb hG m n hl hr Q;let⟨N,O⟩:=Kw D;cases H with
  |sx=>
   have:=cT (main:=main) (b:=base f) (k:=k) (cs:=p.map (λx=>fm x.1 x.2.1 x.2.2)++cs) (rest:=rest) ho hw (by simp[base]) N;rw[sD]at this;exact⟨C,⟨f,oW r o.dst ň,ã ops rest::k,Â,p⟩,E,_,this,⟨U,oW.r (m.I z) _<|GQ C,U,U,Kv z q⟩,z,F,I,J,λe B=>K e (by have:=cS B;rwa[O]at this),M⟩
 |@sy f t k L _ ops i rest o g args fn c _ ho hw hr hf Kx=>
  rw[Kj _ _ m]at hw;let⟨C,x',E,es,z,F,D,H,I,J,K,M⟩:=(oY ok.fZ _<|Ý ho).mJ hz hb hG m n hl hr Q;let⟨N,O⟩:=Kw D;cases H with
  |sy _ sF=>
   have:=bN (main:=main) (b:=base f) (k:=k) (cs:=p.map (λx=>fm x.1 x.2.1 x.2.2)++cs) (rest:=rest) ho hw (by simp[base]) N;rw[cU _ hf Kx]at this;rename_i Wm;refine⟨C,⟨g,Wm++ń (fn.ntmps-Wm.size) ň,[Ė c],Â,(f,r,ã ops (i::rest)::k)::p⟩,E,_,this,⟨U,?_,U,U,.wi ⟨U,m.I z,U⟩ (Kv z q)⟩,z,F,I,J,λe B=>K e (by have:=cS B;rwa[O]at this),M⟩;rw[sF.r];exact sF.G<|Wk _
 |@Ec f t k L _ ops i rest ho=>exact .r (s1':=⟨f,r,ã ops rest::k,Â,p⟩) n (by simp[St.r,fm,base,G,Ü,Í,Frame.at,ho,bm]) ⟨U,m,U,U,q⟩
 |@wA f t k L _ g t2' ops i rest k3 v fn _ hf hr=>
  cases q with
  |wi hx q=>
   rename_i y Wn;let⟨g',t2,k2⟩:=y;let⟨S,Ky,T⟩:=hx;simp only at S T Ky;subst S T;let⟨C,v',E,es,z,F,D,H,I,J,K,M⟩:=(Wl fn m).gk n hl hr #[];let⟨N,O⟩:=Kw D;refine⟨C,⟨g,oW t2 ((ops[i]?).bind (·.dst)) v',ã ops rest::k3,Â,Wn⟩,E,seen P f es,?_,⟨U,oW.r (Ky.I z) _ H,U,U,Kv z q⟩,z,F,I,J,λe B=>K e<|mem_seen B,M⟩;have Ap:=φ (base g) ⟨t2,[]⟩ ops i rest k3 v';rw[sD]at Ap;have ng:=G1 (main:=main) (k:=k) (c:=fm g t2<|ã ops (i::rest)::k3) (cs:=Wn.map (λx=>fm x.1 x.2.1 x.2.2)++cs) hf D;unfold fm at ng;rwa[Ap,Ĕ]at ng
end
inductive pJ(P:Ö)(kg:Ã->Ç->Prop):St->Ç->Prop
 |jI {f:â} {t:Array Ã} {k:List Ū} {u:Ç} {fn:Func} {v:Ã} (hf:P.funcs[f]?=À fn) (hr:∀tp d,(ı fn t).run P {u with tape:=tp,drawn:=d}=ĭ v {u with tape:=tp,drawn:=d}) (hp:kg v u):pJ P kg ⟨f,t,k,È,[]⟩ u
 |jv {s:St} {u:Ç} (S:az->Nat->St) (U:az->Nat->Ç) (h:∀tp d,LS P s {u with tape:=tp,drawn:=d} (S tp d)<|U tp d) (hc:∀tp d,D7 u<|U tp d) (ih:∀tp d,pJ P kg (S tp d)<|U tp d):pJ P kg s u
structure yj(M:Nat->Prop)(w w₁:Ç):Prop where
 r:w.heap.size<=w₁.heap.size
 C:∀j,M j->w₁.heap[j]?=w.heap[j]?
def Kz(O b:Nat->Prop)(e:ă):Prop:=
 (∃a:Û,e.loc=ā a/\e.sync=Â/\(O a.block\/(b a.block/\e.write=Â)))\/e.loc=ſ ζ\/∃f,e.loc=ſ (.extern f)
structure KA(Rd O O':Nat->Prop)(w w':Ç)(es:Array ă):Prop where
 r:w.heap.size<=w'.heap.size
 M:∀j,O j->O' j
 I:∀j,O' j->O j\/w.heap.size<=j
 fx:∀j,O' j->j<w'.heap.size
 jO:∀j,j<w.heap.size->¬O j->w'.heap[j]?=w.heap[j]?
 N:w'.os=w.os
 S:w'.output=w.output
 Y:w'.tape=w.tape
 C:∀e∈es,Kz O' Rd e
inductive va(P:Ö)(main:Bool)(Rd:Nat->Prop)(Stop:(Nat->Prop)->Ó->Ç->Prop):(Nat->Prop)->Ó->Ç->Prop
 |fA {O:Nat->Prop} {g:Ó} {w:Ç} (h:∀w₁,yj (λj=>O j\/Rd j) w w₁->Stop O g w₁):va P main Rd Stop O g w
 |jv {O:Nat->Prop} {g:Ó} {w:Ç} (G':Ç->Ó) (W':Ç->Ç) (E':Ç->Array ă) (O':Ç->Nat->Prop) (iH:g.status=Ð)
  (h:∀w₁,yj (λj=>O j\/Rd j) w w₁->Ü P main g w₁=bl (G' w₁) (W' w₁) (E' w₁))
  (hd:∀w₁,yj (λj=>O j\/Rd j) w w₁->KA Rd O (O' w₁) w₁ (W' w₁) (E' w₁))
  (ih:∀w₁,yj (λj=>O j\/Rd j) w w₁->va P main Rd Stop (O' w₁) (G' w₁) (W' w₁)):va P main Rd Stop O g w
instance:Nonempty fq:=⟨⟨λ_ _=>False,0⟩⟩
instance:Nonempty St:=⟨⟨0,#[],[],Â,[]⟩⟩
instance:Nonempty (Goroutine×World×Array Event×(Nat->Prop)):=⟨(default,default,#[],λ_=>False)⟩
section
variable{Y:fq}{b Rd:Nat->Prop}{l:â->Prop}{main:Bool}{Stop:(Nat->Prop)->Ó->Ç->Prop}
def va.mk(i:g.status=Ð) (h:∀a,yj (λj=>X j\/Rd j) w a->∃c b d e,Ü P main g a=bl c b d/\KA Rd X e a b d/\va P main Rd Stop e c b):va P main Rd Stop X g w:=by
 let p:=λ(a:Ç) (x:Goroutine×World×Array Event×(Nat->Prop))=>Ü P main g a=bl x.1 x.2.1 x.2.2.1/\KA Rd X x.2.2.2 a x.2.1 x.2.2.1/\va P main Rd Stop x.2.2.2 x.1 x.2.1
 have f:∀a,yj (λj=>X j\/Rd j) w a->p a (Classical.epsilon<|p a):=λa r=>Classical.epsilon_spec (let⟨c,b,d,e,h⟩:=h a r;⟨(c,b,d,e),h⟩);exact .jv (λa=>(Classical.epsilon<|p a).1) (λa=>(Classical.epsilon<|p a).2.1) (λa=>(Classical.epsilon<|p a).2.2.1) (λa=>(Classical.epsilon<|p a).2.2.2) i (λa r=>(f a r).1) (λa r=>(f a r).2.1) λa r=>(f a r).2.2
def ry(Y:fq)(b:Nat->Prop)(u w:Ç):Prop:=jg Y b {u with tape:=w.tape,drawn:=w.drawn} w
def fp(Y:fq)(b:Nat->Prop)(j:Nat):Prop:=(∃i,Y i j)/\¬b j
theorem ry.jW{w₁:Ç}(h:ry Y b u w)(p:∀i j,Y i j->b j->Rd j)(r:yj (λj=>fp Y b j\/Rd j) w w₁):ry Y b u w₁:=by
 refine⟨U,U,h.C,h.I,û h.M r.r,λi j a=> ?_⟩;let⟨c,d,e,f,g,k,l,m,n,o⟩:=h.r i j a;refine⟨c,d,e,f,g,k,?_,m,n,o⟩;rw[r.C j ?_]
 .exact l
 .by_cases s:b j
  .grind
  .exact Å ⟨⟨i,a⟩,s⟩
def jg.to0(h:jg Y b u w):ry Y b u w:=⟨U,U,h.C,h.I,h.M,h.r⟩
def jg.vd(h:jg Y b u w)(tp:az)(d:Nat):ry Y b {u with tape:=tp,drawn:=d} w:=⟨U,U,h.C,h.I,h.M,h.r⟩
theorem aeN{c:fq}(k:∀i j,c i j->b j->Rd j){e:ă}(h:Ae c b e):Kz (fp c b) Rd e:=by
 rcases h with⟨a,i,d,f,g,l⟩|h|h
 .by_cases s:b a.block
  .refine Å ⟨a,d,g,Ì ⟨k _ _ f s,?_⟩⟩;grind
  .exact Å ⟨a,d,g,Å ⟨⟨i,f⟩,s⟩⟩
 .exact Ì<|Å h
 .exact Ì<|Ì h
def Wo{c:fq}(f:Y.r c)(g:∀i j,c i j->Y i j\/(u.heap.size<=i/\w.heap.size<=j))(k:jg c b W jX)(d:nI Y b w jX)(l:∀e∈V,Ae c b e)(m:∀i j,c i j->b j->Rd j): KA Rd (fp Y b) (fp c b) w jX V where
 r:=d.r;M j h:=⟨let⟨i,a⟩:=h.1;⟨i,f.1 _ _ a⟩,h.2⟩;I j h:=by
  let⟨⟨i,a⟩,s⟩:=h;rcases g i j a with x|x
  .exact Å ⟨⟨i,x⟩,s⟩
  .exact Ì x.2
 fx j h:=by let⟨⟨i,a⟩,_⟩:=h;let⟨_,_,_,_,_,_,x,_⟩:=k.r i j a;exact(Ë.1 x).1
 jO j hj hn:=by
  by_cases x:∃i,Y i j
  .by_cases s:b j
   .exact d.N j s hj
   .exact absurd ⟨x,s⟩ hn
  .exact d.C j hj λi a=>x ⟨i,a⟩
 N:=d.I;S:=d.M;Y:=d.S;C e he:=aeN m<|l e he
def G2(Y:fq)(b:Nat->Prop)(f:Ã->Ç->Prop)(c:Ğ)(h:List Ğ)(O:Nat->Prop)(g:Ó)(w:Ç):Prop:=
 ∃(a:fq) (d:Ç) (v e:Ã),Y.r a/\O=fp a b/\ry a b d w/\fi a v e/\f v d/\g=G (c.finish e) h
def pJ.O4(hz:nJ P)(hP:oX P X l){s:St}(h:pJ P vQ s u):∀{Y G3:fq} {s':St} {w:Ç},G3.r Y->Y.C=P.globals.size->(∀g,X g->Y g g)->Ku Y s s'->kV P X l s->ry Y b u w->(∀j,b j->j<w.heap.size)->(∀i j,Y i j->b j->Rd j)->∀(c:Ğ) (cs:List Ğ),va P main Rd (G2 G3 b vQ c cs) (fp Y b) (s'.r<|c::cs) w:=by
 have hE:∀o a u f F G,mI P X l o->(í (ç a) o).run P u=ĭ (ź f F) G->l f:=by exact λo a u f F G d H=>d.C a u f F G H
 induction h with
 |@jI f t k u fn v hf H hp=>
  intro Y G3 s' w I J K L M N O n c cs;let⟨f',t',k',ret',L'⟩:=s';let⟨V,W,e2,e3,hL⟩:=L;simp only at V e2 e3 W hL;subst V e2 e3;cases hL;refine .mk rfl λp r=> ?_;have d:=λj s=>Ô (O j s) r.r;let⟨z,v',w',es,B,C,m,D,q,E,Q,h8⟩:=(Wl fn W).gk (N.jW n r) d (H _ _) #[];have y:=λi j T s=>(C i j T).elim (λx=>n i j x s) λx=>absurd (d j s) Z;refine⟨_,w',_,fp z b,G1 hf m,Wo B C q E (λe he=>Q e (by have:=mem_seen he;simpa using this)) y,.fA λqC e=>⟨z,u,v,v',fq.I I B,rfl,ry.jW (q.vd _ _) y e,D,hp,rfl⟩⟩
 |@jv s u S U h hc _ ih=>
  intro Y G3 s' w I J K L M N O n c cs;refine .mk rfl λp r=> ?_;have d:=λj s=>Ô (O j s) r.r;let⟨z,H,e,es,B,C,m,D,q,E,Q,h8⟩:=(h p.tape p.drawn).mJ hz J K L M (N.jW n r) d (hc p.tape p.drawn) main<|c::cs;have y:=λi j T s=>(D i j T).elim (λx=>n i j x s) λx=>absurd (d j s) Z;refine⟨_,e,es,fp z b,B,Wo m D q E Q y,ih _ _ (fq.I I m) (m.2.2.trans J) (λg x=>m.1 _ _<|K g x) C ((h _ _).ok hP hE M) q.to0 (λj s=>Ô (d j s) E.r) y c cs⟩
end
def pK:Ğ:={(default:Ğ)with fn:=0,todo:=[Ė<|dE ""],defers:=[{target:=.nil,args:=#[]}],mode:=.run,kind:=.normal}
def St.I(s:St):Ğ:=if s.C then{fm s.f s.t s.k with mode:=.returning}else fm s.f s.t s.k
def fx(L:List (FuncId×Array Value×List Ū)):List Ğ:=L.map (λx=>fm x.1 x.2.1 x.2.2)++[pK]
def LM(s:St)(u:Ç):cj:=bn s.I (fx s.L) u
section
variable{GL:Nat->Prop}{e8:â->Prop}{Q:Ã->Ç->Prop}
def Ee{cs:List Ğ}{a:Ğ}{es:Array ă}(h:Ü P È (G f cs) w=bl (G a qX) u es):ea P (bn f cs w)=ŕ (bn a qX u):= step_lone_go<|by show(Ü P È (G f cs) w).bare=_;rw[h];rfl
def KB{fr:Ğ}{cs:List Ğ}{o:Outcome}{es:Array ă}(h:Ü P È (G fr cs) w=.ended o u es):ea P (bn fr cs w)=.ended o u:= step_lone_ended<|by show(Ü P È (G fr cs) w).bare=_;rw[h];rfl
def mK(P:Ö)(Q:Ã->Ç->Prop)(n:Nat)(m:cj):Prop:=∃b v a,dG P n m=ŕ (bn b [pK] a)/\b.leaving P a (.returned v)/\Q v a
def mK.r{m a:cj}(h:mK P Q (n+1) m)(b:ea P m=ŕ a):mK P Q n a:=by let⟨c,v,d,e,f⟩:=h;exact⟨c,v,d,by simpa only[dG,b]using e,f⟩
def mK.M{m:cj}{o:Outcome}(h:mK P Q (n+1) m)(b:ea P m=.ended o w):False:=by let⟨c,v,d,a,e⟩:=h;simp only[dG,b]at a;cases a
theorem Wp{fr:Ğ}{cs:List Ğ}(h:bn fr cs w=bn f qX u):fr=f/\cs=qX/\w=u:=by simp only[bn,Machine.mk.injEq,Array.mk.injEq,List.cons.injEq,Goroutine.mk.injEq]at h;grind
theorem mK.C{cs:List Ğ}(h:mK P Q 0 (bn f cs w)):cs=[pK]/\∃v,f.leaving P w (.returned v)/\Q v w:=by let⟨b,v,c,a,d,e⟩:=h;simp only[dG,Stepped.next.injEq]at a;obtain⟨rfl,rfl,rfl⟩:=Wp a;grind
def aeO(h:mK P Q n (bn pK [] u)):False:=by
 cases n with
 |zero=>let⟨a,_⟩:=h.C;cases a
 |succ n=>exact h.M<|KB (es:=#[])<|by simp[G,Ü,Í,pK];exact⟨U,U⟩
def aeP{a:List eB}(h:mK P Q n (bn (pK.raise a) [] u)):False:=by
 cases n with
 |zero=>let⟨b,_⟩:=h.C;cases b
 |succ n=>exact h.M<|KB (es:=#[])<|by simp[G,Ü,pK,ť,dF,callDeferred];exact⟨U,U⟩
def aeQ(b:List eB):∀(L:List (FuncId×Array Value×List Ū)) (f:â) (t:Array Ã) (k:List Ū) (u:Ç) (n:Nat),(∃a,P.funcs[f]?=À a)->(∀x∈L,∃a,P.funcs[x.1]?=À a)->¬mK P Q n (bn ((fm f t k).raise b) (fx L) u):=by
 intro L
 induction L with
 |nil=>
  intro f t k u n ⟨a,c⟩ _ h;cases n with
  |zero=>let⟨_,v,y,_⟩:=h.C;exact absurd y.1<|by simp[ť,fm,Frame.at]
  |succ n=>
   have d:ea P (bn ((fm f t k).raise b) (fx []) u)=ŕ (bn (pK.raise b) [] u):=Ee (es:=#[]) (by simp[G,Ü,fm,base,Frame.at,ť,dF,dj,c,fx]);exact aeP<|h.r d
 |cons x L e=>
  intro f t k u n ⟨a,c⟩ d h;cases n with
  |zero=>let⟨_,v,y,_⟩:=h.C;exact absurd y.1<|by simp[ť,fm,Frame.at]
  |succ n=>
   exact e x.1 x.2.1 x.2.2 u n (d x<|ï ..) (λy v=>d y<|ô _ v)<|h.r<|Ee (es:=#[])<|by simp[G,Ü,fm,base,Frame.at,ť,dF,dj,c,fx]
structure Ok(P:Ö)(GL:Nat->Prop)(e8:â->Prop)(s:St):Prop where
 r:kV P GL e8 s
 I:e8 s.f
 C:∀x∈s.L,e8 x.1/\∃ops i rest k,x.2.2=ã ops (i::rest)::k
def tJ(P:Ö)(e8:â->Prop):Prop:=∀f,e8 f->∃a c,P.funcs[f]?=À a/\a.body=À c
def O5{t:Array Ã}:fC P (ı s t):=by
 unfold ı;refine gl (VD _ (λr=> ?_) _) λ_=>gB _;cases r with
 |tmp n=>exact gB _
 |cell a n=>exact gl (Vv _) λ_=>Vq _ _
def aeR(k:j5 P xX o.op){n:ο}(d:(í xX o).run P u=ĭ n W):(∃v,n=ð v)\/n=aV\/∃f c,n=ź f c:=by
 have i:∀{m:ę Ã} {x:ο} {j l:Ç},(m>>=λv=>pure (ð v):ę ο).run P j=ĭ x l->∃v,x=ð v:=by
  intro m x j l e;rw[Ä]at e;cases g:m.run P j with
  |ok a w=>rw[g]at e;cases e;exact⟨a,U⟩
  |halt z w=>rw[g]at e;cases e
 let⟨p,e,q,s,B,guard⟩:=o;simp only at k;unfold í at d;simp only[]at d;cases k with
 |Aj x=>cases d;exact Å ⟨_,U⟩
 |GI x=>cases d;exact Å ⟨_,U⟩
 |wj c a b=>
  rw[Ä]at d;cases g:(cx<|xX c).run P u with
  |ok a w=>rw[g]at d;cases d;exact Å ⟨_,U⟩
  |halt z w=>rw[g]at d;cases d
 |ja t a x=>
  rw[Ä]at d;cases g:(ļ t (xX a)<|xX x).run P u with
  |ok a w=>rw[g]at d;cases d;exact Ì<|Å U
  |halt z w=>rw[g]at d;cases d
 |GJ x=>
  simp only[]at d;split at d;all_goals first
   |(cases d;exact Å ⟨_,U⟩)
   |exact absurd d<|rj _ _ _ _
   |(
    split at d;all_goals first
     |(cases d;exact Å ⟨_,U⟩)
     |exact absurd d<|rj _ _ _ _
     |(
      rw[Ä,ĉ]at d;simp only[É]at d;rw[Ä]at d;revert d;generalize å P (bk _ _ _ _) u=z;intro d;cases z with
      |halt z w=>cases d
      |ok a w=>
       simp only[É]at d;split at d
       .rw[Ä]at d;cases d
       .cases d;exact Å ⟨_,U⟩))
 |GK x a=>simp only[þ,ē,Ę,pure_bind,Ú,ä,æ]at d;exact Å<|i d
 |GM x a=>simp only[þ,ē,Ę,pure_bind,Ú,ä,æ]at d;exact Å<|i d
 |GN x y a=>simp only[þ,ē,Ę,pure_bind,Ú,ä,æ]at d;exact Å<|i d
 |GO x y b g h=>simp only[þ,ē,Ę,pure_bind,Ú,ä,æ]at d;exact Å<|i d
 |jH g C a b h=>
  let⟨D,r,w,z⟩:=h;simp only[þ,b,Ĺ,ē,pure_bind,Ĕ,ĕ,ľ]at d;rw[Ä,ĉ]at d;simp only[É,r,w,z,Æ,if_false]at d;cases d;exact Ì<|Ì ⟨_,_,U⟩
 |D9 e t x y r h=>exact Å<|i d
 |_=>exact Å<|i d
def mK.I(_hP:oX P GL e8)(hF:tJ P e8){n:Nat}{s:St}{u:Ç}(ok:Ok P GL e8 s)(hu:qA u)(h:mK P Q n (LM s u)): (n=0/\s.C=È/\s.L=[]/\∃fn v,P.funcs[s.f]?=À fn/\(ı fn s.t).run P u=ĭ v u/\Q v u)\/∃m s' u',n=m+1/\LS P s u s' u'/\mK P Q m (LM s' u'):=by
 let⟨f,t,k,ret,L⟩:=s;let⟨⟨top,lw⟩,fs,ls⟩:=ok;simp only at top lw fs ls;let⟨fn,c,hfn,hbody⟩:=hF f fs;cases n with
 |zero=>
  let⟨h1,v,h2,h3⟩:=h.C;have hL:L=[]:=by simp only[fx]at h1;simp_all
  subst hL;let⟨m1,_,_,fn',m4,m5⟩:=h2;have aeS:ret=È:=by
   cases ret with
   |true=>rfl
   |false=>simp[St.I,fm,Frame.at]at m1
  subst aeS;exact Å ⟨U,U,U,fn',v,m4,m5,h3⟩
 |succ n=>
  have go:∀{s':St} {u':Ç},LS P ⟨f,t,k,ret,L⟩ u s' u'->(∃es,Ü P È ((⟨f,t,k,ret,L⟩:St).r [pK]) u=bl (s'.r [pK]) u' es)->(n+1=0/\ret=È/\L=[]/\∃fn v,P.funcs[f]?=À fn/\(ı fn t).run P u=ĭ v u/\Q v u)\/∃m s' u',n+1=m+1/\LS P ⟨f,t,k,ret,L⟩ u s' u'/\mK P Q m (LM s' u'):=by intro s' u' hl ⟨es,he⟩;exact Ì ⟨n,s',u',U,hl,h.r<|Ee he⟩
  have bad:(∃o w es,Ü P È ((⟨f,t,k,ret,L⟩:St).r [pK]) u=.ended o w es)->False:=λ⟨_,_,_,he⟩=>h.M<|KB he;cases ret with
  |true=>
   cases hr:(ı fn t).runT P u #[]with
   |mk r es=>
    cases r with
    |halt z w=>
     refine absurd ?_ id;cases z<;>exact bad ⟨_,_,_,by simp[St.r,fm,base,G,Ü,dF,Frame.at,hfn,hr,Ι,-Κ];exact⟨U,U,U⟩⟩
    |ok v u'=>
     cases L with
     |nil=>
      exact absurd (h.r<|Ee<|G1 hfn hr) aeO
     |cons x L=>
      let⟨g,t',k'⟩:=x;let⟨_,ops,i,rest,k2,e⟩:=ls _<|ï ..;simp only at e;subst e;refine go (.wA hfn (by rw[<-π P (ı fn t) u #[],hr])) ⟨seen P f es,?_⟩;have ng:=G1 (main:=È) (k:=k) (c:=fm g t'<|ã ops (i::rest)::k2) (cs:=fx L) hfn hr;have Ap:=φ (base g) ⟨t',[]⟩ ops i rest k2 v;rw[sD]at Ap;unfold fm at ng;rwa[Ap]at ng
  |false=>
   cases k with
   |nil=>exact go .oU ⟨_,by simp[St.r,fm,base,G,Ü,Í,Frame.at];rfl⟩
   |cons it k=>
    have ti:=top it<|ï ..;cases ti with
    |yh id=>exact go .yh ⟨_,by simp[St.r,fm,base,G,Ü,Í,Frame.at];rfl⟩
    |u9 _=>exact go .u9 ⟨_,by simp[St.r,fm,base,G,Ü,Í,Frame.at];rfl⟩
    |wv _=>exact go .wv ⟨_,by simp[St.r,fm,base,G,Ü,Í,Frame.at];rfl⟩
    |rv hc=>
     cases hc with
     |u7=>exact go .u7 ⟨_,by simp[St.r,fm,base,G,Ü,Í,Frame.at];rfl⟩
     |sx=>exact go .sx ⟨_,by simp[St.r,fm,base,G,Ü,Í,Frame.at];rfl⟩
     |wo l=>exact go .wo ⟨_,by simp[St.r,fm,base,G,Ü,Í,Frame.at];rfl⟩
     |rp hx hy=>exact go .rp ⟨_,by simp[St.r,fm,base,G,Ü,Í,Frame.at];rfl⟩
     |ru id _=>exact go .ru ⟨_,by simp[St.r,fm,base,G,Ü,Í,Frame.at];rfl⟩
     |wq _=>exact go .wq ⟨_,by simp[St.r,fm,base,G,Ü,Í,Frame.at];rfl⟩
     |wx _=>exact go .wx ⟨_,by simp[St.r,fm,base,G,Ü,Í,Frame.at];rfl⟩
     |nL Wj=>exact(bad ⟨_,_,_,by simp[St.r,fm,base,G,Ü,Í,Frame.at];exact⟨U,U,U⟩⟩).elim
     |wy id=>
      cases he:cP id k with
      |none=>exact(bad ⟨_,_,_,by simp[St.r,fm,base,G,Ü,Í,Frame.at,he];exact⟨U,U,U⟩⟩).elim
      |some k'=>exact go (.wy he) ⟨_,by simp[St.r,fm,base,G,Ü,Í,Frame.at,he];rfl⟩
     |wz l=>
      cases he:cQ l k with
      |none=>exact(bad ⟨_,_,_,by simp[St.r,fm,base,G,Ü,Í,Frame.at,he];exact⟨U,U,U⟩⟩).elim
      |some k'=>exact go (.wz he) ⟨_,by simp[St.r,fm,base,G,Ü,Í,Frame.at,he];rfl⟩
     |@tF c x y _ _ _=>
      by_cases hb:∃b,ç ⟨t,[]⟩ c=Ň b
      .let⟨b,hb⟩:=hb;exact go (.tF hb) ⟨_,cR hb⟩
      .refine(bad ⟨.stuck "cond: bool expected" ((fm f t<|Ė (bL c x y)::k).pos P),u,#[],?_⟩).elim;have Va:(fm f t<|Ė (bL c x y)::k).eval c=ç ⟨t,[]⟩ c:=Frame.eval_at _ _ _ _;have hx:Ü P È (G (fm f t<|Ė (bL c x y)::k)<|fx L) u=(match(fm f t<|Ė (bL c x y)::k).eval c with
        |Ň b=>bl (G (fm f t<|Ė (if b then x else y)::k)<|fx L) u
        |_=>.ended (.stuck "cond: bool expected" ((fm f t (Ė (bL c x y)::k)).pos P)) u):=by
        simp only[G,Ü,Í,fm,Frame.at];rfl
       refine hx.trans ?_;rw[Va];generalize ç ⟨t,[]⟩ c=v at hb;cases v<;>first|exact absurd ⟨_,U⟩ hb|rfl
     |tH id draw _=>
      cases draw with
      |false=>exact go .tH ⟨_,by simp[St.r,fm,base,G,Ü,Í,Frame.at];rfl⟩
      |true=>exact go .Am ⟨_,Λ⟩
    |wB is hO=>
     rename_i ops;cases is with
     |nil=>exact go .G0 ⟨_,by simp[St.r,fm,base,G,Ü,Í,Frame.at];rfl⟩
     |cons i rest=>
      cases ho:ops[i]? with
      |none=>exact go (.Ec ho) ⟨_,by simp[St.r,fm,base,G,Ü,Í,Frame.at,ho,bm];rfl⟩
      |some o=>
       cases hw:Į o (ŏ ops t)with
       |false=>
        have:=av (P:=P) (main:=È) (b:=base f) (a:=⟨t,[]⟩) (k:=k) (cs:=fx L) (w:=u) (rest:=rest) ho hw;rw[sD]at this;exact go (.Eb ho hw) ⟨_,this⟩
       |true=>
        have oo:=hO o<|Ý ho;have oZ:=stepG_oper (P:=P) (main:=È) (b:=base f) (a:=⟨t,[]⟩) (k:=k) (cs:=fx L) (w:=u) (rest:=rest) ho hw;cases hr:(í (ç ⟨t,[]⟩) o).runT P u #[]with
        |mk r es=>
         have oT:(í (ç ⟨t,[]⟩) o).run P u=r:=by rw[<-π P _ u #[],hr]
         cases r with
         |halt z w=>
          have hz:=((oo.r ⟨t,[]⟩).1 u hu).2 z w oT;cases z with
          |panic v=>
           have hs:ea P (LM ⟨f,t,ã ops (i::rest)::k,Â,L⟩ u)=ŕ (bn ((fm f t<|ã ops (i::rest)::k).raise [{v,recovered:=Â}]) (fx L) w):= Ee (es:=seen P f es) (oZ.trans<|by simp[bO,hr,G,Frame.at,fm,base,Ι,ť,-Κ]);exact absurd (h.r hs) (aeQ _ L f t _ w n ⟨fn,hfn⟩ λx hx=>let⟨fn',_,h1,_⟩:=hF x.1 (ls x hx).1;⟨fn',h1⟩)
          |stuck s=>exact(bad ⟨_,_,_,oZ.trans<|by simp[bO,hr,Frame.at,base,Ι,-Κ];exact⟨U,U,U⟩⟩).elim
          |unsupported un=>
           cases un<;>first|(cases hz;done)|exact(bad ⟨_,_,_,oZ.trans<|by simp[bO,hr,Frame.at,base,Ι,-Κ];exact⟨U,U,U⟩⟩).elim
          |_=>cases hz
         |ok nx u'=>
          rcases oo.I ⟨t,[]⟩ u nx u' oT with⟨v,rfl⟩|rfl|⟨g,args,rfl⟩
          .have:=bM (main:=È) (b:=base f) (k:=k) (cs:=fx L) (rest:=rest) ho hw (by simp[base]) oT;rw[sD]at this;exact go (.nK ho hw oT) ⟨_,this⟩
          .have:=cT (main:=È) (b:=base f) (k:=k) (cs:=fx L) (rest:=rest) ho hw (by simp[base]) oT;rw[sD]at this;exact go (.An ho hw oT) ⟨_,this⟩
          .let⟨fn',c',h1,h2⟩:=hF g<|oo.C ⟨t,[]⟩ u g args u' oT;have:=bN (main:=È) (b:=base f) (k:=k) (cs:=fx L) (rest:=rest) ho hw (by simp[base]) oT;rw[cU _ h1 h2]at this;exact go (.sy ho hw oT h1 h2) ⟨_,this⟩
end
def kh(u:Ç):Prop:=∀(i:Nat) (o:Obj),u.heap[i]?=À o->¬yg o
def kh.qA(h:kh u):qA u:=λi _ _ a=>h i _ a trivial
def wD(a:Ã->Ç->Prop):Prop:=∀v u T D,a v u->a v ((World.tp u T D))
section
variable{GL:Nat->Prop}{e8:â->Prop}{kg:Ã->Ç->Prop}
def LS.O4{s s':St}(h:LS P s u s' W)(cs:List Ğ):∃j,Ü P È (s.r cs) u=bl (s'.r cs) W j:=by
 cases h with
 |@tF f t k L _ c x y b hc=>exact⟨_,cR hc⟩
 |wy e=>exact⟨_,by simp[St.r,fm,base,G,Ü,Í,Frame.at,e];rfl⟩
 |wz e=>exact⟨_,by simp[St.r,fm,base,G,Ü,Í,Frame.at,e];rfl⟩
 |@Am f t k L _ id ops=>exact⟨_,Λ⟩
 |@Ec f t k L _ ops i rest ho=>exact⟨_,by simp[St.r,fm,base,G,Ü,Í,Frame.at,ho,bm];rfl⟩
 |@Eb f t k L _ ops i rest o ho hw=>
  have:=av (P:=P) (main:=È) (b:=base f) (a:=⟨t,[]⟩) (k:=k) (cs:=L.map (λx=>fm x.1 x.2.1 x.2.2)++cs) (w:=u) (rest:=rest) ho hw;rw[sD]at this;exact⟨_,this⟩
 |@nK f t k L _ ops i rest o v _ ho hw hr=>
  have:=bM (main:=È) (b:=base f) (k:=k) (cs:=L.map (λx=>fm x.1 x.2.1 x.2.2)++cs) (rest:=rest) ho hw (by simp[base]) hr;rw[sD]at this;exact⟨_,this⟩
 |@An f t k L _ ops i rest o _ ho hw hr=>
  have:=cT (main:=È) (b:=base f) (k:=k) (cs:=L.map (λx=>fm x.1 x.2.1 x.2.2)++cs) (rest:=rest) ho hw (by simp[base]) hr;rw[sD]at this;exact⟨_,this⟩
 |@sy f t k L _ ops i rest o g args fn c _ ho hw hr hf hb=>
  have:=bN (main:=È) (b:=base f) (k:=k) (cs:=L.map (λx=>fm x.1 x.2.1 x.2.2)++cs) (rest:=rest) ho hw (by simp[base]) hr;rw[cU _ hf hb]at this;exact⟨_,this⟩
 |@wA f t k L _ g t' ops i rest k' v fn _ hf hr=>
  cases l:(ı fn t).runT P u #[]with
  |mk r j=>
   have e:r=ĭ v W:=by rw[<-hr,<-π P (ı fn t) u #[],l]
   subst e;have d:=G1 (main:=È) (k:=k) (c:=fm g t'<|ã ops (i::rest)::k') (cs:=L.map (λx=>fm x.1 x.2.1 x.2.2)++cs) hf l;have x:=φ (base g) ⟨t',[]⟩ ops i rest k' v;rw[sD]at x;unfold fm at d;rw[x]at d;exact⟨_,d⟩
 |_=>exact⟨_,by simp[St.r,fm,base,G,Ü,Í,Frame.at];rfl⟩
def LS.ve{s a:St}(h:LS P s u a w):ea P (LM s u)=ŕ (LM a w):= let⟨_,b⟩:=h.O4 [pK];Ee b
def LS.O6(j:oX P GL e8){s g:St}(h:LS P s u g w)(ok:Ok P GL e8 s):Ok P GL e8 g:=by
 have i:∀o a u f e w,mI P GL e8 o->(í (ç a) o).run P u=ĭ (ź f e) w->e8 f:=by exact λo a u f e w c d=>c.C a u f e w d
 refine⟨h.ok j i ok.r,?_,?_⟩
 .cases h with
  |sy c _ d _ _=>exact i _ _ _ _ _ _ (oY ok.r.fZ _<|Ý c) d
  |wA=>exact(ok.C _<|ï ..).1
  |_=>exact ok.I
 .cases h with
  |sy c _ d _ _=>
   intro x b;rcases Ţ.1 b with rfl|b
   .exact⟨ok.I,_,_,_,_,U⟩
   .exact ok.C x b
  |wA=>exact λx b=>ok.C x<|ô _ b
  |_=>exact ok.C
def LS.kd{s c:St}{u b:Ç}(h:LS P s u c b)(ok:kV P GL e8 s)(a:qA u):Kd u b:=by
 cases h with
 |nK k _ i=>exact(((oY ok.fZ _<|Ý k).r _).1 u a).1 _ _ i
 |An k _ i=>exact(((oY ok.fZ _<|Ý k).r _).1 u a).1 _ _ i
 |sy k _ i _ _=>exact(((oY ok.fZ _<|Ý k).r _).1 u a).1 _ _ i
 |wA _ i=>exact(O5.1 u a).1 _ _ i
 |Am=>exact⟨id,λi o h k=>⟨o,h,k⟩⟩
 |_=>exact Kd.fT u
def LS.aeT{s o:St}{u p:Ç}{T:az}{D:Nat}(h:LS P s ((World.tp u T D)) o p)(ok:kV P GL e8 s):∃n v,p=(World.tp v T<|D+n)/\∀a b,u5 T D a b n->LS P s ((World.tp u a b)) o ((World.tp v a<|b+n)):=by
 cases h with
 |nK c e g=>
  obtain⟨n,v,i⟩:=((oY ok.fZ _<|Ý c).r ⟨_,[]⟩).2 u T D;obtain⟨j,l⟩:=i _ _ g;exact⟨n,v,j,λa b d=> .nK c e (l a b d)⟩
 |An c e g=>
  obtain⟨n,v,i⟩:=((oY ok.fZ _<|Ý c).r ⟨_,[]⟩).2 u T D;obtain⟨j,l⟩:=i _ _ g;exact⟨n,v,j,λa b d=> .An c e (l a b d)⟩
 |sy c e g m q=>
  obtain⟨n,v,i⟩:=((oY ok.fZ _<|Ý c).r ⟨_,[]⟩).2 u T D;obtain⟨j,l⟩:=i _ _ g;exact⟨n,v,j,λa b d=> .sy c e (l a b d) m q⟩
 |wA m g=>
  obtain⟨n,v,i⟩:=(O5).2 u T D;obtain⟨j,l⟩:=i _ _ g;exact⟨n,v,j,λa b d=> .wA m (l a b d)⟩
 |@Am f t k L _ id ops=>
  refine⟨1,u,U,λa b d=> ?_⟩;have g:=LS.Am (P:=P) (f:=f) (t:=t) (k:=k) (L:=L) (u:=(World.tp u a b)) (id:=id) (ops:=ops);have i:((World.tp u a b)).tape ((World.tp u a b)).drawn=((World.tp u T D)).tape ((World.tp u T D)).drawn:=d.lP;rwa[i]at g
 |oU=>exact⟨0,u,U,λ_ _ _=> .oU⟩
 |u7=>exact⟨0,u,U,λ_ _ _=> .u7⟩
 |sx=>exact⟨0,u,U,λ_ _ _=> .sx⟩
 |wo=>exact⟨0,u,U,λ_ _ _=> .wo⟩
 |yh=>exact⟨0,u,U,λ_ _ _=> .yh⟩
 |u9=>exact⟨0,u,U,λ_ _ _=> .u9⟩
 |rp=>exact⟨0,u,U,λ_ _ _=> .rp⟩
 |tF h=>exact⟨0,u,U,λ_ _ _=> .tF h⟩
 |ru=>exact⟨0,u,U,λ_ _ _=> .ru⟩
 |wq=>exact⟨0,u,U,λ_ _ _=> .wq⟩
 |wv=>exact⟨0,u,U,λ_ _ _=> .wv⟩
 |wx=>exact⟨0,u,U,λ_ _ _=> .wx⟩
 |wy h=>exact⟨0,u,U,λ_ _ _=> .wy h⟩
 |wz h=>exact⟨0,u,U,λ_ _ _=> .wz h⟩
 |tH=>exact⟨0,u,U,λ_ _ _=> .tH⟩
 |G0=>exact⟨0,u,U,λ_ _ _=> .G0⟩
 |Eb c e=>exact⟨0,u,U,λ_ _ _=> .Eb c e⟩
 |Ec c=>exact⟨0,u,U,λ_ _ _=> .Ec c⟩
def mK.gS(c:oX P GL e8)(hF:tJ P e8)(g:∀v u,vQ v u->kh u):∀(n:Nat) {s:St} {u:Ç},Ok P GL e8 s->qA u->mK P vQ n (LM s u)->kh u:=by
 intro n
 induction n with
 |zero=>
  intro s u a b h;rcases h.I c hF a b with⟨_,_,_,_,v,_,_,d⟩|⟨m,_,_,e,_⟩
  .exact g v u d
  .cases e
 |succ n j=>
  intro s u a b h;rcases h.I c hF a b with⟨e,_⟩|⟨m,w,x,e,d,k⟩
  .cases e
  .cases e;have f:=d.kd a.r b;intro i o l p;let⟨q,r,t⟩:=f.C i o l p;exact j (d.O6 c a) (f.r b) k i q r t
def pJ.aeU(b:wD kg){s:St}(h:pJ P kg s u)(T:az)(D:Nat):pJ P kg s ((World.tp u T D)):=by
 cases h with
 |jI a S c=>exact .jI a S (b _ _ T D c)
 |jv S a h c d=>exact .jv S a h c d
def Wq(m:wD kg)(o:∀v u,vQ v u->kg v u){s:St}(c:s.C=È)(b:s.L=[])(e:∃g v,P.funcs[s.f]?=À g/\(ı g s.t).run P ((World.tp u xQ i))=ĭ v ((World.tp u xQ i))/\vQ v ((World.tp u xQ i))):pJ P kg s u:=by
 obtain⟨f,t,k,z,L⟩:=s;simp only at c b;subst c b;obtain⟨g,v,p,q,r⟩:=e;refine .jI (v:=v) p (λh d=> ?_) ?_
 .obtain⟨n,w,c⟩:=(O5).2 u xQ i;obtain⟨b,e⟩:=c _ _ q;have x:n=0:=by
   have:((World.tp u xQ i)).drawn=((World.tp w xQ<|i+n)).drawn:=by rw[<-b]
   simp only[World.tp]at this;omega
  subst x;have y:(World.tp w h d)=(World.tp u h d):=by
   have a:((World.tp u xQ i)).heap=((World.tp w xQ<|i+0)).heap:=by rw[<-b]
   have j:((World.tp u xQ i)).os=((World.tp w xQ<|i+0)).os:=by rw[<-b]
   have l:((World.tp u xQ i)).output=((World.tp w xQ<|i+0)).output:=by rw[<-b]
   simp only[World.tp]at a j l|-;rw[a,j,l]
  have:=e h d (λa j=>by omega);rwa[show d+0=d from rfl,y]at this
 .have:=m v _ u.tape u.drawn<|o v _ r;exact this
structure KC where
 s:St
 u:Ç
 D:Nat
 T:az
 n:Nat
structure KD(P:Ö)(GL:Nat->Prop)(e8:â->Prop)(kg:Ã->Ç->Prop)(s0:St)(u0:Ç)(x:KC):Prop where
 ok:Ok P GL e8 x.s
 aeV:qA x.u
 aeW:¬pJ P kg x.s x.u
 nh:∀T',(∀i,i<x.D->T' i=x.T i)->dG P x.n (LM s0<|(World.tp u0 T' 0))=ŕ (LM x.s<|(World.tp x.u T' x.D))
def Wr{m:cj}{s:St}{N:Nat}(a:dG P n m=ŕ (LM s u))(e:mK P vQ N m):∃k,N=n+k/\mK P vQ k (LM s u):=by
 by_cases f:n<=N
 .obtain⟨k,rfl⟩:=ŉ f;refine⟨k,U,?_⟩;let⟨g,v,c,b,d⟩:=e;rw[dT,a]at b;exact⟨g,v,c,b,d⟩
 .obtain⟨k,rfl⟩:=Nat.exists_eq_add_of_lt<|Nat.lt_of_not_le f;let⟨g,v,c,b,d,_⟩:=e;rw[show N+k+1=N+(k+1) by omega,dT,b]at a;simp only[dG,step_leave_returned d]at a;cases k with
  |zero=>
   simp only[dG,Stepped.next.injEq]at a;have:=(Wp a).2.1;simp[fx]at this
  |succ k=>
   simp only[dG,(KB (P:=P) (fr:=pK) (cs:=[]) (w:=c) (es:=#[])<|by simp[G,Ü,Í,pK];exact⟨U,U⟩)]at a;cases a
theorem O7(f:oX P GL e8)(hF:tJ P e8)(t:wD kg)(C:∀v u,vQ v u->kh u)(E:∀v u,vQ v u->kg v u){j:St}(F:∀T,∃n,mK P vQ n<|LM j<|(World.tp w T 0)){x:KC}(G:KD P GL e8 kg j w x): ∃y:KC,KD P GL e8 kg j w y/\y.n=x.n+1/\x.D<=y.D/\∀i,i<x.D->y.T i=x.T i:=by
 let⟨s,u,D,T,n⟩:=x;let⟨ok,pend,l,q⟩:=G;simp only at ok pend l q;have H:∃y d,∀a g,LS P s ((World.tp u y d)) a g->D7 u g->¬pJ P kg a g:=by
  refine Classical.byContradiction λo=>l ?_;have c:∀y d,∃p:St×World,LS P s ((World.tp u y d)) p.1 p.2/\D7 u p.2/\pJ P kg p.1 p.2:=by simp_all
  exact .jv (λy d=>(Classical.choose<|c y d).1) (λy d=>(Classical.choose<|c y d).2) (λy d=>(Classical.choose_spec<|c y d).1) (λy d=>(Classical.choose_spec<|c y d).2.1) λy d=>(Classical.choose_spec<|c y d).2.2
 let⟨y,d,I⟩:=H;let p:az:=λi=>if i<D then T i else y (d+(i-D))
 have r:∀i,i<D->p i=T i:=λi h=>if_pos h;have J:=λi=>by show(if D+i<D then T (D+i)else y (d+(D+i-D)))=y (d+i);grind
 let⟨N,K⟩:=F p;let⟨k,_,L⟩:=Wr (q p r) K;have b:qA ((World.tp u p D)):=pend;rcases L.I f hF ok b with⟨_,M,O,S⟩|⟨m,a,g,_,e,V⟩
 .exact absurd (Wq t E M O S) l
 .obtain⟨c,v,rfl,z⟩:=e.aeT ok.r;have W:¬pJ P kg a v:=λX=>I a _ (z y d λi _=>(J i).symm) (λi o _ B=>(mK.gS f hF C m (e.O6 f ok) ((e.kd ok.r b).r b) V) i o B)<|X.aeU t y<|d+c;refine⟨⟨a,v,D+c,p,n+1⟩,⟨e.O6 f ok,(e.kd ok.r b).r b,W,λo B=> ?_⟩,U,fj,r⟩;rw[dT,(q o λi h=>(B i<|by simp only;omega).trans<|r i h)];simp only[dG,(z o D λi h=>B (D+i)<|by simp only;omega).ve]
theorem aeX(b:oX P GL e8)(hF:tJ P e8)(d:wD kg){Q:Ã->Ç->Prop}(l:∀v u,Q v u->kh u)(f:∀v u,Q v u->kg v u){a:St}(ok:Ok P GL e8 a)(q:qA w)(g:∀T,∃n,mK P Q n<|LM a<|(World.tp w T 0)):pJ P kg a w:=by
 refine Classical.byContradiction λr=> ?_;have s:KD P GL e8 kg a w ⟨a,w,0,λ_ _=>0,0⟩:=⟨ok,q,r,λI _=>rfl⟩;let F:Nat->{x:KC//KD P GL e8 kg a w x}:=λk=>Nat.rec ⟨_,s⟩ (λ_ x=>⟨Classical.choose<|O7 b hF d l f g x.2,(Classical.choose_spec<|O7 b hF d l f g x.2).1⟩) k
 have o:=λk=>(Classical.choose_spec<|O7 b hF d l f g (F k).2).2;have t:∀k,(F k).1.n=k:=by
  intro k
  induction k with
  |zero=>rfl
  |succ k c=>rw[(o k).1,c]
 have J:∀j k,(F j).1.D<=(F<|j+k).1.D/\∀i,i<(F j).1.D->(F<|j+k).1.T i=(F j).1.T i:=by
  intro j k
  induction k with
  |zero=>exact⟨à _,λ_ _=>rfl⟩
  |succ k c=>
   have:=(o<|j+k).2;exact⟨û c.1 this.1,λi e=>(this.2 i<|Ô e c.1).trans<|c.2 i e⟩
 have K:∀j k i,i<(F j).1.D->i<(F k).1.D->(F j).1.T i=(F k).1.T i:=by
  intro j k i m p;rcases Nat.le_total j k with h|h
  .obtain⟨c,rfl⟩:=ŉ h;grind
  .obtain⟨c,rfl⟩:=ŉ h;grind
 let T:az:=λi=>open Classical in if h:∃k,i<(F k).1.D then(F<|Classical.choose h).1.T i else λ_=>0
 have y:∀k i,i<(F k).1.D->T i=(F k).1.T i:=by intro k i e;have c:∃k,i<(F k).1.D:=⟨k,e⟩;show(open Classical in if h:∃k,i<(F k).1.D then(F<|Classical.choose h).1.T i else λ_=>0)=_;rw[dif_pos c];grind
 let⟨N,z⟩:=g T;have c:=(F N).2.nh T<|y N;rw[t N]at c;let⟨k,e,p⟩:=Wr c z;have B:k=0:=Z
 subst B;have C:qA ((World.tp (F N).1.u T<|(F N).1.D)):=(F N).2.aeV;rcases p.I b hF (F N).2.ok C with⟨_,E,G,H⟩|⟨m,_,_,e,_⟩
 .exact(F N).2.aeW<|Wq d f E G H
 .cases e
end
section
variable{m:â->Prop}
def O8(f:â)(b:Func)(c:aG)(a:Array Ã):St:=⟨f,a++ń (b.ntmps-a.size) ň,[Ė c],Â,[]⟩
def Ws(a:Array Ã)(b:P.funcs[F]?=À s)(d:s.body=À wX):dU P F a .normal=(O8 F s wX a).I:=cU a b d
def aeY(b:oX P X m)(hF:tJ P m)(l:wD vQ)(g:m F)(j:P.funcs[F]?=À s)(k:s.body=À wX)(o:kh u) (p:∀T,Calls P F d ((World.tp u T 0)) fun|.returned v,u'=>vQ v u'/\kh u'|_,_=>False):pJ P vQ (O8 F s wX d) u:=by
 refine aeX b hF l (Q:=λv u=>vQ v u/\kh u) (λv u h=>h.2) (λv u h=>h.1) ⟨⟨λi q=> ?_,λx h=>by cases h⟩,g,λx h=>by cases h⟩ o.qA λT=> ?_
 .rw[Ż.1 q];exact .rv (b F g s wX j k)
 .let⟨e,r,t,a,w,_,y⟩:=p T [pK];cases e with
  |returned v=>
   let⟨n,z⟩:=w;refine⟨n,t,v,r,?_,y,a⟩;rw[<-z,Ws d j k];rfl
  |panicked n=>exact a.elim
  |outgrown=>exact a.elim
def aeZ(r:nJ P)(b:oX P X m)(hF:tJ P m)(t:wD vQ)(n:m F)(e:P.funcs[F]?=À s)(h:s.body=À wX)(y:kh u) (z:∀T,Calls P F d ((World.tp u T 0)) fun|.returned v,u'=>vQ v u'/\kh u'|_,_=>False) {Y:fq} {a o:Nat->Prop} (B:Y.C=P.globals.size) (C:∀g,X g->Y g g) (p:fQ Y d q) (D:ry Y a u w) (E:∀j,a j->j<w.heap.size) (H:∀i j,Y i j->a j->o j) (main:Bool) (k:Ğ) (l:List Ğ): va P main o (G2 Y a vQ k l) (fp Y a) (G (dU P F q .normal)<|k::l) w:=by
 have:=(aeY b hF t n e h y z).O4 (main:=main) r b (Y:=Y) (G3:=Y) (s':=O8 F s wX q) (fq.M _) B C ⟨U,?_,U,U,.oU⟩ ⟨λi I=> ?_,λx J=>by cases J⟩ D E H k l
 .rw[Ws q e h];exact this
 .show fQ Y (d++_) (q++_);rw[p.r];exact p.G<|Wk _
 .rw[Ż.1 I];exact .rv (b F n s wX e h)
def yk:Ã->Bool
 |Ň _|ď _ _|ğ _|Ø ì|õ ì _ _|cm|br|eG ì|.map ì=>È
 |_=>Â
def O9:Ã->Bool
 |.agg a=>a.all yk
 |Ο a=>a.all yk
 |v=>yk v
def G4(h:yk v=È):jN v:=by
 cases v with
 |bool b=>exact .mj b
 |int k n=>exact .iD k n
 |string s=>exact .kq s
 |pointer p=>cases p with
  |none=>exact .lN
  |some a=>cases h
 |slice p n c=>cases p with
  |none=>exact .nG n c
  |some a=>cases h
 |nilFunc=>exact .uU
 |nilIface=>exact .uV
 |chan p=>cases p with
  |none=>exact .uW
  |some a=>cases h
 |map p=>cases p with
  |none=>exact .uX
  |some a=>cases h
 |_=>cases h
def ae0(h:O9 v=È):jN v:=by
 cases v with
 |agg b=>exact .ox λi a=>G4<|(Ő.1 h) i a
 |tuple b=>exact .nH λi a=>G4<|(Ő.1 h) i a
 |_=>exact G4 h
def wE(X:Nat->Bool):Ù->Bool
 |.tmp _=>È
 |ek v=>O9 v
 |eJ g=>X g
 |bg _=>È
def KE{g:Nat->Bool}(h:wE g qQ=È):ml (λj=>g j=È) qQ:=by
 cases qQ with
 |tmp t=>exact .Wb t
 |const v=>exact .Wc (ae0 h)
 |global j=>exact .Wg h
 |func f=>exact .Wh f
def Pa(P:Ö)(t:Á):Bool:=match P.underlying t with
 |some .bool=>È
 |some (Υ _)=>È
 |some Ġ=>È
 |_=>Â
def ae1(h:Pa P t=È):tB P t:=by
 unfold Pa at h;split at h
 .rename_i e;exact Å e
 .rename_i k e;exact Ì<|Å ⟨k,e⟩
 .rename_i e;exact Ì<|Ì e
 .cases h
def KF:Ù->Bool
 |ek (Ø ì)=>È
 |_=>Â
def Wt(h:KF qQ=È):mY (y.eval qQ):=by
 unfold KF at h;split at h
 .trivial
 .cases h
def Pd(P:Ö)(t:Á)(x y:Ù):Bool:=Pa P t||((match P.underlying t with|some (ò _)=>È|_=>Â)&&(KF x||KF y))
theorem ae2{a:bR}{y:Ù}(h:Pd P t qQ y=È):tB P t\/((∃e,P.underlying t=À (ò e))/\(mY (a.eval qQ)\/mY (a.eval y))):=by
 unfold Pd at h;rcases ū.1 h with h|h
 .exact Å<|ae1 h
 .let⟨b,e⟩:=Þ.1 h;refine Ì ⟨?_,(ū.1 e).imp Wt Wt⟩;grind
def Pe(P:Ö)(s d:Á):Bool:=match P.underlying s,P.underlying d with
 |some (Υ _),À (Υ _)=>È
 |some Ġ,À Ġ=>È
 |_,_=>Â
theorem ae3(h:Pe P e t=È):(∃k a,P.underlying e=À (Υ k)/\P.underlying t=À (Υ a))\/(P.underlying e=À Ġ/\P.underlying t=À Ġ):=by unfold Pe at h;grind
def Pf(P:Ö)(s:Á)(n:Nat):Bool:=match P.underlying s with
 |some (dy fields)=>match fields[n]? with
  |some f=>match P.info? f.type with
   |some i=>i.size !=0
   |none=>Â
  |none=>Â
 |_=>Â
def ae4(h:Pf P e n=È):∀a f i,P.underlying e=À (dy a)->a[n]?=À f->P.info? f.type=À i->i.size≠0:=by intro a f i b c d;simp only[Pf,b,c,d]at h;simpa using h
def Pg(P:Ö)(m:â->Bool)(f:â):Bool:=m f&&(match P.funcs[f]? with
 |some a=> !(a.name== "runtime.NumGoroutine")&&!a.body.isNone
 |none=>Â)
theorem Wu{g:â->Bool}(h:Pg P g F=È):g F=È/\∃a,P.funcs[F]?=À a/\(a.name== "runtime.NumGoroutine")=Â/\a.body.isNone=Â:=by let⟨b,c⟩:=Þ.1 h;grind
def Wv(P:Ö):List Á->Bool
 |[_,t1]=>(match P.underlying t1 with|some (dz _)=>È|some Ġ=>È|_=>Â)
 |_=>Â
def Ww(P:Ö)(m:â->Bool)(b:Callee)(a:List Ù)(c:List Á):Bool:=match b with
 |ĥ .len=>a.length==1
 |ĥ .cap=>a.length==1
 |ĥ .copy=>a.length==2
 |ĥ .append=>a.length==2&&Wv P c
 |cF (bg f)=>Pg P m f
 |_=>Â
def Ef(P:Ö)(m:â->Bool):Op->Bool
 |.move _|.assign _|.pick _ _ _|.alloc _|.box _ _|.build _ _|dN _ _ _|.load _ _|.store _ _ _|eN _|.unOp _ _ _|eg _ _ _|.slice _ _ _ _ _|.field _ _ _|ei _ _ _|.index _ _ _|.extract _ _=>È
 |ef c t x y _=>if c==aO||c==aZ then Pd P t x y else È
 |bb s d _=>Pe P s d
 |eh s _ n=>Pf P s n
 |υ c=>Ww P m c.callee c.args.toList c.argTypes.toList
 |_=>Â
def KG{a:Array Ù}(h:(a.toList.length==1)=È):∃x,a=#[x]:=by
 let⟨l⟩:=a;match l,h with
 |[x],_=>exact⟨x,U⟩
def Pj{a:Array Ù}(h:(a.toList.length==2)=È):∃x y,a=#[x,y]:=by
 let⟨l⟩:=a;match l,h with
 |[x,y],_=>exact⟨x,y,U⟩
def ae5{g:â->Bool}{k:Op}(h:Ef P g k=È)(a:bR):j5 P a.eval k:=by
 cases k with
 |binOp o t x y r=>
  refine .D9 o t x y r λe=> ?_;have:(o==aO||o==aZ)=È:=by rcases e with rfl|rfl<;>rfl
  simp only[Ef,if_pos this]at h;exact ae2 h
 |convert s d x=>exact .OG _ _ _ (ae3 h)
 |fieldAddr s x n=>exact .OJ _ _ _ (ae4 h)
 |call c=>
  let⟨z,B,j⟩:=c;simp only[Ef]at h;unfold Ww at h;split at h
  .obtain⟨x,rfl⟩:=KG h;exact .GK x j
  .obtain⟨x,rfl⟩:=KG h;exact .GM x j
  .obtain⟨x,y,rfl⟩:=Pj h;exact .GN x y j
  .let⟨q,f⟩:=Þ.1 h;obtain⟨x,y,rfl⟩:=Pj q;let⟨l⟩:=j;match l,f with
   |[t0,t1],f=>
    refine .GO x y t0 t1 ?_;simp only[Wv]at f;split at f
    .rename_i e m;exact Å ⟨e,m⟩
    .rename_i m;exact Ì m
    .cases f
  .exact .jH _ _ _ U (Wu h).2
  .cases h
 |move x=>exact .Aj x
 |assign x=>exact .GI x
 |pick c a b=>exact .wj c a b
 |alloc t=>exact .gG t
 |box t x=>exact .OA t x
 |build t p=>exact .OB t p
 |buildSlice t n p=>exact .OC t n p
 |load t a=>exact .gy t a
 |store t a x=>exact .ja t a x
 |nilCheck x=>exact .GJ x
 |unOp o t x=>exact .OD o t x
 |makeSlice t l c=>exact .OH t l c
 |slice t x u v w=>exact .kQ t x u v w
 |field t x n=>exact .OL t x n
 |indexAddr t x i=>exact .OM t x i
 |index t x i=>exact .ON t x i
 |extract x n=>exact .Gv x n
 |_=>simp[Ef]at h
def Pk(P:Ö)(X:Nat->Bool)(m:â->Bool)(o:aJ):Bool:=Ef P m o.op&&o.op.operands.all (wE X)
def ae6{X:Nat->Prop}{m:â->Prop}{o:aJ}(op:∀a:bR,j5 P a.eval o.op)(opd:∀x∈o.op.operands,ml X x)(calls:∀f args ts,o.op=υ {callee:=cF<|bg f,args:=args,argTypes:=ts}->m f):mI P X m o where
 mJ hz hb hG ht hW hl x u' hr hc:=(Vf hz hW.C hb (λf=>rfl) (op _) λx hx=>wC hG ht<|opd x hx).gk hW hl hr hc #[];r a:=aeH<|op a;I a u n u' hr:=aeR (op a) hr;C a u f c u' hr:=let⟨as,ts,e⟩:=aeM (op a) hr;calls f as ts e
theorem ae7{g:Nat->Bool}{k:â->Bool}(h:Pk P g k o=È):mI P (λj=>g j=È) (λf=>k f=È) o:=by
 let⟨j,b⟩:=Þ.1 h;refine ae6 (λa=>ae5 j a) (λx a=>KE ?_) λf i x e=> ?_
 .obtain⟨i,x,rfl⟩:=Ŗ.1 a;grind
 .rw[e]at j;exact(Wu<|show Pg P k f=È from j).1
end
section
variable{Y:fq}{g:â->Prop}{α:Type}
def Eg(m:(Ù->Ã)->ę Ã)(e:∀b,í b o=m b>>=λv=>pure<|ð v) (i:∀(Y:fq) (b h:Ù->Ã),nJ P->Bi Y->Y.C=P.globals.size->(∀x∈o.op.operands,fi Y (b x)<|h x)->kI P fi Y (m b) (m h)) (j:∀b,fC P<|m b) (k:∀x∈o.op.operands,ml X x):mI P X g o where
 mJ hz hb hG ht hW hl x u' hr hc:=by rw[e]at hr|-;exact(U9<|i _ _ _ hz hW.C hb λx d=>wC hG ht<|k x d).gk hW hl hr hc #[]
 r a:=by rw[e];exact lQ<|j _
 I a u n u' hr:=by
  rw[e,Ä]at hr;cases d:(m a.eval).run P u with
  |ok v w=>rw[d]at hr;cases hr;exact Å ⟨v,U⟩
  |halt z w=>rw[d]at hr;cases hr
 C a u f c u' hr:=by
  rw[e,Ä]at hr;cases d:(m a.eval).run P u with
  |ok v w=>rw[d]at hr;cases hr
  |halt z w=>rw[d]at hr;cases hr
def ae8(a:o.op=cV t qQ)(b:∀y∈o.op.operands,ml X y):mI P X g o:=by
 refine Eg (λd=>Ŭ t<|d qQ) (λd=> ?_) (λY d c _ _ _ h=> .gp ?_) (λd=> ?_) b
 .unfold í;rw[a]
 .unfold Ŭ;apply fE (jb t);rintro e d _ c ⟨rfl,_⟩;split
  .exact .fP
  .exact .fD (.ya t ((h qQ<|by rw[a];simp[Ê]).fM c))
 .unfold Ŭ;repeat' (first|(with_reducible first|exact gB _|exact jd _|exact rn _|refine gl ?_ λ_=> ?_)|split)
theorem ae9(c:Sys):oz P (sys c):=by
 intro u hu;refine⟨λx u' e=> ?_,λz u' e=>by cases e⟩;have:u'.heap=u.heap:=by
  simp only[sys,å]at e;cases e;unfold World.sys;have ask:∀{γ:Type} (b:Ask γ) (w:Ç),(w.ask b).2.heap=w.heap:=by
   intro γ b
   induction b with
   |done a=>intro w;rfl
   |ask what range k ih=>
    intro w;simp only[World.ask];split
    .exact ih 0 w
    .exact ih _ _
  grind
 exact⟨λh i c e he=>h i c e (by rwa[<-this]),λi o he ho=>⟨o,by rwa[this],ho⟩⟩
def Wx(x:Ã):∀u y b,(Μ x).run P u≠ĭ y b:=by
 unfold Μ;cases x<;>simp only[]<;>first|exact Oy|skip
 refine Ah λa=> ?_;split
 .exact Oz
 .exact rj _
def afa(x:Ã):fC P (Μ x):=by
 refine⟨?_,OP<|Wx x⟩;unfold Μ;cases x<;>simp only[]<;>first|exact GU U|skip
 refine Kl ?_ λa=> ?_
 .unfold Instr.panicnil;refine Kl (ae9 _) λr=> ?_;cases r<;>first|exact GU U|skip
  exact Kl Vh λ_=>Vg _
 .split
  .exact GU U
  .exact(wm _).1
def afb(b:o.op=.panic qQ)(c:∀y∈o.op.operands,ml X y):mI P X g o:=by refine Eg (λa=>Μ<|a qQ) (λa=> ?_) (λY a d _ _ _ h=> .gp (.oy (Wx _))) (λa=>afa _) c;unfold í;rw[b]
def afc(c:fi Y x v)(d:fi Y z jQ):fF P fi Y (Ļ x z) (Ļ v jQ):=by
 cases c<;>cases d<;>first|exact .fP|exact .fD (.iD _ _)|skip
 refine fE (V:=fi) (.fD (.mj _)) λf a g _ e=> ?_;apply fE (UX e);rintro h b _ _ rfl;exact .fD (.kq _)
def afd(x y:Ã):fC P (Ļ x y):=by unfold Ļ;repeat' (first|(with_reducible first|exact gB _|exact jd _|exact sB _|exact Kr _|exact O3 _ _ _|refine gl ?_ (λ_=> ?_)|refine mZ _ ?_)|split|rfl)
def afe:∀{l b:List Ã} {Y:fq} {x c:Ã},fi Y x c->fQ Y l.toArray b.toArray->fF P fi Y (l.foldlM Ļ x) (b.foldlM Ļ c):=by
 intro l
 induction l with
 |nil=>
  intro b Y x c d a;have:b=[]:=by have:=a.r;simp at this;exact Ć this.symm
  subst this;rw[χ,χ];exact .fD d
 |cons v l e=>
  intro b Y x c d a;match b,a with
  |[],a=>have:=a.r;simp at this
  |v'::b,a=>
   rw[Ω,Ω];refine fE (afc d (by have:=a.C 0 fj fj;simpa using this)) ?_;intro k y m f g;refine e g ⟨by have:=a.r;simpa using this,λj h i=> ?_⟩;have:=a.C (j+1) (by simp at h|-;omega) (by simp at i|-;omega);exact(by simpa using this:fi Y _ _).fM f
def Wy:∀(l:List Ã) (x:Ã),fC P<|l.foldlM Ļ x
 |[],x=>by rw[χ];exact gB _
 |v::l,x=>by rw[Ω];exact gl (afd _ _) λy=>Wy l y
def aff(a:Array Á)(t:Á)(h:fQ Y d q):fF P fi Y (ő a t d) (ő a t q):=by
 let⟨l⟩:=d;let⟨b⟩:=q;unfold ő;match l,b,h with
 |[],_,_=>exact .fP
 |v::l,[],h=>have:=h.r;simp at this
 |v::l,v'::b,h=>
  refine afe (by have:=h.C 0 fj fj;simpa using this) ⟨by have:=h.r;simpa using this,λj e f=> ?_⟩;have:=h.C (j+1) (by simp at e|-;omega) (by simp at f|-;omega);exact(by simpa using this:fi Y _ _)
def afg(a:Array Á)(t:Á)(c:Array Ã):fC P (ő a t c):=by
 let⟨l⟩:=c;unfold ő;match l with
 |[]=>exact jd _
 |v::l=>exact Wy l v
def afh{b:Array Ù}{c:Array Á}(d:o.op=υ {callee:=ĥ .min,args:=b,argTypes:=c})(e:∀y∈o.op.operands,ml X y):mI P X g o:=by refine Eg (λa=>ő c o.type<|b.map a) (λa=> ?_) (λY a i _ _ _ h=> .gp (aff _ _<|Vd b λz f=>h z<|by rw[d];simp[Ê,ú,f])) (λa=>afg _ _ _) e;unfold í;rw[d];simp only[þ,ē,Ę,pure_bind]
def afi{β:Type}{f g:Ã->β->ę (ForInStep β)}(k:∀a v e b,Y.r a->fi a v e->fF P jm a (f v b) (g e b)):∀{l d:List Ã} {a:fq} (b:β),Y.r a->fQ a l.toArray d.toArray->fF P jm a (forIn l b f) (forIn d b g):=by
 intro l
 induction l with
 |nil=>
  intro d a b _ c;have:d=[]:=by have:=c.r;simp at this;exact Ć this.symm
  subst this;rw[ax,ax];exact .fD U
 |cons v l m=>
  intro d a b h c;match d,c with
  |[],c=>have:=c.r;simp at this
  |e::d,c=>
   rw[ψ,ψ];refine fE (k a v e b h (by have:=c.C 0 fj fj;simpa using this)) ?_;rintro p r _ i rfl;cases r with
   |done b=>exact .fD U
   |yield b=>
    apply m b (fq.I h i);refine⟨by have:=c.r;simpa using this,λj n o=> ?_⟩;have:=c.C (j+1) (by simp at n|-;omega) (by simp at o|-;omega);exact(by simpa using this:fi a _ _).fM i
def Wz{β:Type}{f:Ã->β->ę (ForInStep β)}(a:∀v b,fC P<|f v b):∀(l:List Ã) (b:β),fC P<|forIn l b f
 |[],b=>by rw[ax];exact gB _
 |v::l,b=>by
  rw[ψ];refine gl (a v b) λr=> ?_;cases r with
  |done b=>exact gB _
  |yield b=>exact Wz a l b
def afj(d:fi Y x v):fF P fi Y (Ă x) (Ă v):=by
 cases d<;>first|exact .fP|exact .fD (.kq _)|skip
 rename_i h n c;unfold Ă;apply fE (Oq h n);intro e j l m f;simp only[<-aS];refine fE (afi (Y:=e) ?_ _ (fq.M _) f) ?_
 .intro g a o b _ i;cases i<;>first|exact .fP|skip
  rename_i k n;cases k<;>first|exact .fP|exact .fD U
 .rintro g s _ _ rfl;exact .fD (.kq _)
def afk(x:Ã):fC P (Ă x):=by
 unfold Ă;split
 .exact gB _
 .refine gl (OW _ _) λa=> ?_;simp only[<-aS];refine gl (Wz (λv b=> ?_) _ _) λ_=>gB _;split
  .exact gB _
  .exact jd _
 .exact jd _
def afl(i:o.op=bb t T qQ)(j:P.underlying t=À (dz e))(k:P.underlying T=À Ġ)(l:P.underlying e=À (Υ .u8))(n:∀y∈o.op.operands,ml X y):mI P X g o:=by
 refine Eg (λa=>š t T<|a qQ) (λa=> ?_) (λY a f _ _ _ h=> .gp ?_) (λa=> ?_) n
 .unfold í;rw[i]
 .unfold š;refine fE (jb t) ?_;rintro z B _ p ⟨rfl,b⟩;rw[j]at b;injection b with b;subst b;refine fE (jb T) ?_;rintro q C _ r ⟨rfl,c⟩;rw[k]at c;injection c with c;subst c;have m:=((h qQ<|by rw[i];simp[Ê]).fM p).fM r;have u:fF P fi q (ö e>>=λy=>match y with|Υ .u8=>Ă (a qQ)|Υ .i32=>aT (a qQ)|_=>stuck "Convert: a slice of what to string?") (ö e>>=λy=>match y with|Υ .u8=>Ă (f qQ)|Υ .i32=>aT (f qQ)|_=>stuck "Convert: a slice of what to string?"):=by
   apply fE (jb e);rintro D E _ w ⟨rfl,h⟩;rw[l]at h;injection h with h;subst h;exact afj<|m.fM w
  generalize a qQ=v at*;generalize f qQ=v' at*;cases m<;>first|exact u|exact .fP|exact .fD (.kq _)|skip
 .unfold š;refine sC j<|sC k ?_;generalize a qQ=v;cases v<;>first|exact sC l (afk _)|exact V8 _|exact gB _
end
section
variable{Y:fq}{b:â->Prop}{α:Type}
def WA(i:∀(Y:fq) (a g:bR),nJ P->Bi Y->Y.C=P.globals.size->(∀x∈o.op.operands,fi Y (a.eval x)<|g.eval x)->kI P oV Y (í a.eval o) (í g.eval o)) (j:∀a:bR,fC P<|í a.eval o) (h:∀(a:bR) (u:Ç) (n:ο) (d:Ç),(í a.eval o).run P u=ĭ n d->∃v,n=ð v) (k:∀x∈o.op.operands,ml X x):mI P X b o where
 mJ hz hb hG ht hW hl x d hr hc:=(i _ ⟨_,[]⟩ ⟨_,[]⟩ hz hW.C hb λx e=>wC hG ht<|k x e).gk hW hl hr hc #[];r a:=j a;I a u n d hr:=Å<|h a u n d hr;C a u f c d hr:=by let⟨v,e⟩:=h a u _ d hr;cases e
def afm{e:Array Ã->ę Ã}{k:Array Á}(g:o.op=υ {callee:=cF<|bg F,args:=#[qQ],argTypes:=k})(l:P.funcs[F]?=À s)(m:(s.name== "runtime.NumGoroutine")=Â)(q:s.body.isNone=È)(r:Extern.findNext s=ì)(t:Extern.find s=À e) (B:∀(Y:fq) (v i:Ã),fi Y v i->fF P fi Y (e #[v]) (e #[i])) (C:∀v,fC P<|e #[v]) (D:∀y∈o.op.operands,ml X y):mI P X b o:=by
 have c:∀a:bR,í a.eval o=ľ F #[a.eval qQ]:=by intro a;unfold í;rw[g];simp only[þ,ç,Ĺ,ē,pure_bind,Ĕ,ĕ,Ú,ä,æ]
 have j:∀(v:Ã) (u:Ç),(ľ F #[v]).run P u=(ec (.extern F)>>=λ_=>e #[v]>>=λy=>pure (ð y):ę ο).run P u:=by intro v u;unfold ľ;simp_all
 refine WA (λY a w _ _ _ h=> ?_) (λa=> ?_) (λa u n E d=> ?_) D
 .rw[c,c];unfold ľ;refine .gp (fE rh ?_);rintro I p J w ⟨z,G⟩;rw[z,G];simp only[l,m,q,r,t,Æ,if_false,if_true];apply fE (V:=jm) (.D2 (Ì ⟨F,U⟩) (.fD U));exact λK _ _ H _=>mH<|B _ _ _<|((h qQ<|by rw[g];simp[Ê,ú]).fM w).fM H
 .rw[c];exact Kn (j _)<|gl (GV _) λ_=>lQ<|C _
 .rw[c,j,Ä]at d;simp only[ec,å,É]at d;have:å P (e #[a.eval qQ]>>=λy=>pure (ð y):ę ο) u=ĭ n E:=d;rw[Ä]at this;cases h:(e #[a.eval qQ]).run P u with
  |ok v w=>rw[h]at this;cases this;exact⟨v,U⟩
  |halt z w=>rw[h]at this;cases this
def afn(x a:Ã)(h:fi Y x a):fF P fi Y (Ŋ #[x]) (Ŋ #[a]):=.fD h
def afo(x:Ã):fC P (Ŋ #[x]):=gB _
def WB:∀(n t:Nat) {c a:Array Ã},fQ Y c a->fQ Y (œ n t c) (œ n t a)
 |0,_,_,_,h=>h
 |n+1,t,_,_,h=>WB n (t/256)<|h.UM<|.iD _ _
def afp(b:Array Á)(t:Á)(v c:Ã)(h:fi Y v c):fF P fi Y (Ď b #[t] #[v]) (Ď b #[t] #[c]):=by
 cases h<;>first|exact .fP|skip
 rename_i k n;cases k<;>first|exact .fP|skip
 refine fE (jb t) ?_;rintro j d _ l ⟨rfl,_⟩;cases d<;>first|exact .fP|skip
 rename_i e _;simp only[];split
 .exact .oy (vZ<|rj _)
 .apply sw (.Ad λn=> .fD U);intro m f _;apply sw (Ox _);intro o _ _;apply sw (.Ad λn=> .fD U);intro p g _;apply fE (GA e<|WB f g<|fQ.N _);exact λq a r _ i=> .fD (.kQ i _ _)
def afq(a:Array Á)(t:Á)(v:Ã):fC P (Ď a #[t] #[v]):=by
 cases v<;>first|exact jd _|skip
 rename_i k n;cases k<;>first|exact jd _|skip
 refine gl (rn t) λd=> ?_;cases d<;>first|exact jd _|skip
 repeat' (first|(with_reducible first|exact gB _|exact jd _|exact sB _|exact GY _ _|exact rn _|exact wm _|exact OX _|refine gl ?_ λ_=> ?_)|split)
def G5(t:Á)(a:Û)(c:Nat):ę Ã:=
 if c≠0 then pure (Ø<|À a)else do
  if(<-cC a.block).isSome then pure (Ø<|À a)
  else pure (Ø<|À ⟨<-ep (.view a<|<-ř t),0,ì⟩)
def afr(g:Array Á)(t:Á)(j:fi Y x v):kI P fi Y (ĝ g t #[x]) (ĝ g t #[v]):=by
 cases j<;>first|exact .gp .fP|exact .gp (.fD .lN)|skip
 rename_i a f h n c;show kI P fi Y (G5 t a c) (G5 t f c);unfold G5;by_cases i:c≠0
 .simp only[if_pos i];exact .gp (.fD (.jT h))
 .simp only[if_neg i];apply kU (Kh h.1);rintro l b m o ⟨rfl,rfl⟩;simp only[Option.isSome_none,Æ,if_false];refine kU (V0:=λ_ a f=>a=f) ?_ ?_
  .unfold ř;refine fE (jb t) ?_;rintro k d _ p ⟨rfl,_⟩;cases d<;>first|exact .fP|exact .fD U
  .rintro k e _ _ rfl;exact .D5 trivial
def afs(b:Array Á)(t:Á)(x:Ã):fC P (ĝ b t #[x]):=by
 cases x<;>first|exact jd _|skip
 rename_i p n c;cases p with
 |none=>exact gB _
 |some a=>
  show fC P (G5 t a c);unfold G5;repeat' (first|(with_reducible first|exact gB _|exact jd _|exact Ko _|exact Ks _|refine gl ?_ (λ_=> ?_)|refine Km _ ?_)|split|(intro _ _ h;cases h;done))
def afu{c:Array Á}(d:o.op=υ {callee:=ĥ bE,args:=#[qQ],argTypes:=c})(e:∀y∈o.op.operands,ml X y):mI P X b o:=by refine Eg (λa=>ĝ c o.type #[a qQ]) (λa=> ?_) (λY a f _ _ _ h=>afr _ _<|h qQ<|by rw[d];simp[Ê,ú]) (λa=>afs _ _ _) e;unfold í;rw[d];simp only[þ,ē,Ę,pure_bind,Ú,ä,æ]
end
section
variable{Y:fq}{f:Nat->Prop}{g:â->Prop}{α:Type}
def WC(h:gY Y a p):fF P gY Y (Ν a) (Ν p):=by unfold Ν;apply fE (Kh h.1);rintro c x d b ⟨rfl,rfl⟩;exact .fD (h.r b)
def afv{r:Nat}(h:Y r i):fF P (λ_ c q=>∃n a,c=À n/\q=À a/\n<=a) Y (dH r) (dH i):=.uY h λ_ n a c=> .fD ⟨n,a,U,U,c.elim (λq=>by omega) λq=>q.1⟩
def WE(h:gY Y a p)(t:Á)(n:Nat):fF P (λ_ b e=>b=È->e=È) Y (ÿ a t n) (ÿ p t n):=by unfold ÿ;apply fE rh;rintro i b j c ⟨d,f⟩;rw[d,f];refine .uY (c.1 _ _ h.1) λe m k g=> ?_;rw[h.2.1];exact .fD λq=>U4 (aj<|g.elim (λq=>by omega) λq=>q.1) q
def afw(a:Û):fC P (Ν a):=by unfold Ν;repeat' (first|(with_reducible first|exact gB _|exact qB|exact tC _|exact Ks _|refine gl ?_ (λ_=> ?_)|refine mZ _ ?_)|split|rfl)
def afx(r:Nat):fC P (dH r):=by unfold dH;repeat' (first|(with_reducible first|exact gB _|exact tC _|exact Vo _|refine gl ?_ λ_=> ?_)|split)
def WG(a:Û)(t:Á)(n:Nat):fC P (ÿ a t n):=by unfold ÿ;repeat' (first|(with_reducible first|exact gB _|exact qB|exact tC _|refine gl ?_ λ_=> ?_)|split)
theorem afy(l:P.underlying e=À (ò t))(m:P.underlying T=À ė)(o:fi Y x v):kI P fi Y (ü e T x) (ü e T v):=by
 unfold ü;refine kU (jb e) ?_;rintro z B _ p ⟨rfl,f⟩;rw[l]at f;injection f with f;subst f;refine kU (jb T) ?_;rintro C D _ q ⟨rfl,g⟩;rw[m]at g;injection g with g;subst g;have r:=(o.fM p).fM q;cases r<;>first|exact .gp .fP|exact .gp (.fD .lN)|skip
 rename_i a E h;refine kU (WC h) ?_;intro F b j G i;refine kU (afv i.1) ?_;rintro H c I u ⟨w,J,rfl,rfl,K⟩;refine kU (mX t) ?_;rintro L n _ y ⟨rfl,_⟩;rw[i.2.1,i.2.2];simp only[];by_cases k:(decide (n=0)||(decide (j.off≥w)&&j.spot.isNone))=È
 .rw[if_pos k];exact .D5 trivial
 .rw[if_neg k,if_neg]
  .exact .gp (.fD (.jT ((i.r u).r y)))
  .grind
theorem afz{d:Á}(l:P.underlying T=À ė)(o:P.underlying d=À (ò t))(q:fi Y x z):kI P fi Y (ü T d x) (ü T d z):=by
 unfold ü;refine kU (jb T) ?_;rintro F G _ r ⟨rfl,f⟩;rw[l]at f;injection f with f;subst f;refine kU (jb d) ?_;rintro H I _ w ⟨rfl,g⟩;rw[o]at g;injection g with g;subst g;have y:=(q.fM r).fM w;cases y<;>first|exact .gp .fP|exact .gp (.fD .lN)|skip
 rename_i a J h;refine kU (WC h) ?_;intro K b B L i;refine kU (mX t) ?_;rintro M n _ j ⟨rfl,_⟩;refine kU (WE (i.r j) t 1) ?_;rintro C v N D O;have Q:kI P fi C (pure<|Ø<|À b) (pure<|Ø<|À B):=.gp (.fD (.jT ((i.r j).r D)));by_cases E:(decide (n=0)||v)=È
 .grind
 .rw[if_neg E];refine .D6 λu x S c=> ?_;rw[Ä]at c;simp only[cI,å,É]at c;cases k:u.shape? b.block with
  |none=>rw[k]at c;cases c
  |some p=>
   let⟨e,m⟩:=p;rw[k]at c;simp only[Ä,ĉ,É]at c;split at c
   .cases c
   .cases c;exact⟨u.heap.size,.view b t,à _,fj,trivial⟩
def afA(h:(P.underlying e=À (ò t)/\P.underlying T=À ė)\/(P.underlying e=À ė/\P.underlying T=À (ò t)))(x:Ã):fC P (ü e T x):=by
 unfold ü;rcases h with⟨b,c⟩|⟨b,c⟩<;>refine sC b<|sC c ?_;all_goals
  cases x<;>first|exact jd _|skip
  rename_i p;cases p with
  |none=>exact gB _
  |some a=>
   repeat' (first|(with_reducible first|exact afw _|exact afx _|exact WG _ _ _|exact gB _|exact jd _|exact qB|exact tC _|exact tE _|refine gl ?_ (λ_=> ?_)|refine mZ _ ?_|refine Km _ ?_)|split|(intro _ _ h;cases h;done)|rfl)
theorem WH(l:o.op=bb e T qQ)(h:(P.underlying e=À (ò t)/\P.underlying T=À ė)\/(P.underlying e=À ė/\P.underlying T=À (ò t)))(m:∀y∈o.op.operands,ml X y):mI P X g o:=by
 refine Eg (λi=>š e T<|i qQ) (λi=> ?_) (λY i n _ _ _ c=> ?_) (λi=> ?_) m
 .unfold í;rw[l]
 .unfold š;refine kU (jb e) ?_;rintro r u _ p ⟨rfl,a⟩;refine kU (jb T) ?_;rintro w z _ q ⟨rfl,b⟩;have j:=((c qQ<|by rw[l];simp[Ê]).fM p).fM q;generalize i qQ=v at j;generalize n qQ=v' at j;rcases h with⟨c,f⟩|⟨c,f⟩
  .rw[c]at a;injection a with a;subst a;rw[f]at b;injection b with b;subst b;have k:=afy c f j;grind
  .rw[c]at a;injection a with a;subst a;rw[f]at b;injection b with b;subst b;have k:=afz c f j;grind
 .unfold š;have k:=λv=>afA h v;rcases h with⟨c,f⟩|⟨c,f⟩;all_goals
   refine sC c<|sC f ?_;generalize i qQ=v;cases v<;>exact k _
theorem afB(a:Û)(n:Nat):oz P (eC a n):=by
 intro u f;refine⟨λx b e=> ?_,λz b e=>by cases e⟩;cases e;unfold Ĝ;split
 .exact Kd.fT u
 .refine Vi (λo d=> ?_) λo c e h=> ?_
  .cases o<;>first|exact d.elim|trivial
  .grind
def afC(a:Û)(n:Nat):fC P (eC a n):=by
 refine⟨afB a n,λu T D=>⟨0,u.freeze a n,λx b e=> ?_⟩⟩;have c:∀T D,(World.tp u T D).freeze a n=World.tp (u.freeze a n) T D:=by intro T D;unfold Ĝ;split<;>rfl
 simp_all
def WI:∀(n:Nat) {Y:fq} {a c:Û} (d:ByteArray),gY Y a c->fF P jm Y (đ a d n) (đ c d n)
 |0,_,_,_,_,_=> .fD U
 |n+1,Y,a,c,d,h=>by
  unfold đ;refine fE (Kb h) ?_;intro g v i e f;cases f<;>first|exact .fP|skip
  rename_i k b;cases k<;>first|exact .fP|exact WI n _<|(h.r e).C 1
def WJ:∀(n:Nat) (a:Û) (b:ByteArray),fC P<|đ a b n
 |0,_,_=>gB _
 |n+1,a,b=>by
  unfold đ;refine gl (GX _ _) λv=> ?_;split
  .exact WJ n _ _
  .exact jd _
def jE(b:Á)(a:Û)(n:Nat):ę ByteArray:=do
 if<-ÿ a (<-ř b) n then đ a .empty n else unsupported (Ō "String: not so many bytes at ptr")
def afD(c:Á)(h:gY Y a p)(n:Nat):fF P jm Y (jE c a n) (jE c p n):=by
 unfold jE;refine fE (V:=jm) ?_ ?_
 .unfold ř;refine fE (jb c) ?_;rintro g d _ f ⟨rfl,_⟩;cases d<;>first|exact .fP|exact .fD U
 .rintro j e _ d rfl;apply fE (WE (h.r d) e n);rintro g b k f i;cases b with
  |true=>rw[i U];exact WI n _<|(h.r d).r f
  |false=>exact .fP
def afE[Ac P](G:jg Y f u w)(h:gY Y a p)(H:∀u l j,(ř t).run P u=ĭ l j->∃k,P.underlying l=À (Υ k))(g:(jE t a<|n+1).run P u=ĭ B W):¬f p.block:=by
 intro I;let⟨c,M,e,N,O,r,Q,S,y,_⟩:=G.r _ _ h.1;let⟨_,_,_,_,o⟩:=y I;unfold jE at g;rw[Ä]at g;cases i:(ř t).run P u with
 |halt z x=>rw[i]at g;cases g
 |ok l j=>
  have J:j=u:=by
   unfold ř at i;rw[Ä]at i;unfold ö at i;rw[Ä,ĉ]at i;simp only[É]at i;cases E:P.underlying t with
   |none=>rw[E]at i;cases i
   |some d=>
    rw[E]at i;cases d<;>cases i<;>rfl
  subst J;rw[i]at g;simp only[É]at g;rw[Ä]at g;have C:∃b,(ÿ a l<|n+1).run P j=ĭ b j:=by unfold ÿ;rw[Ä,ĉ];simp only[É];rw[Ä];simp only[cI,å,É];split<;>exact⟨_,U⟩
  rcases o with o|o;rotate_left
  .let⟨k,K⟩:=H _ _ _ i;have L:(ÿ a l<|n+1).run P j=ĭ Â j:=by
    unfold ÿ;rw[Ä,ĉ];simp only[É];rw[Ä];simp only[cI,å,É];have y:j.shape? a.block=À (e,c.size):=by simp[η,r]
    rw[y];simp only[Nat.div_eq_of_lt<|Ac.lt e c.size o,ady K];rfl
   rw[L]at g;cases g
  let⟨b,C⟩:=C;rw[C]at g;simp only[É]at g;split at g
  .unfold đ at g;rw[Ä]at g;simp only[bu,å]at g;cases D:j.cell? a with
   |none=>
    rw[D]at g;simp only[Ś,r]at g;cases g
   |some v=>
    rw[D]at g;simp only[É]at g;have q:=D;rw[Af r]at q;cases F:a.spot with
    |some x=>rw[F]at q;cases q
    |none=>
     rw[F]at q;have:=o _ _ (by simpa using q);cases v<;>first|(cases g;done)|skip
     rename_i k m;cases k<;>first|(cases g;done)|cases this
  .cases g
end
section
variable{Y:fq}{d:Nat->Prop}{f:â->Prop}{α:Type}
def vf(b:Á)(p:Option Û)(n:Int):ę Ã:=do
 if n<0 then runtimePanic (Ρ "unsafe.String: len out of range")
 if n>á.max then unsupported (Ō "String: a length above the largest int")
 match p with
 |none=>
  if n=0 then pure (ğ .empty)
  else runtimePanic (Ρ "unsafe.String: ptr is nil and len is not zero")
 |some a=>
  if n=0 then pure (ğ .empty)
  else if<-ÿ a (<-ř b) n.toNat then do
   let s<-đ a .empty n.toNat
   eC a n.toNat
   pure<|ğ s
  else unsupported (Ō "String: not so many bytes at ptr")
def yl(a b t:Á)(p:Option Û)(k:Ā)(n:Int):ñ #[a,b] t #[Ø p,ď k n]=vf a p n:=by cases p<;>rfl
def WK(c:Á)(a:Û)(d:¬h<0)(e:¬h>á.max)(f:¬h=0): vf c (À a) h=(jE c a h.toNat>>=λs=>eC a h.toNat>>=λ_=>pure<|ğ s):=by unfold vf;simp only[if_neg d,if_neg e,if_neg f];unfold jE;show _=é (é _ _) _;rw[Ũ];congr 1;funext et;show é _ _=é (é _ _) _;rw[Ũ];congr 1;funext b;cases b<;>rfl
def afF(a:Á)(p:Option Û)(n:Int):fC P (vf a p n):=by unfold vf;repeat' (first|(with_reducible first|exact WG _ _ _|exact WJ _ _ _|exact afC _ _|exact gB _|exact Ko _|exact wm _|refine gl ?_ (λ_=> ?_)|refine mZ _ ?_)|split|rfl)
theorem afG(_hW:jg Y d u w):∀(n:Nat) {a i:Û} {j s:ByteArray},gY Y a i->a.spot=ì->(đ a j n).run P u=ĭ s W->∀c e f,u.heap[a.block]?=À (Ē c e f)->a.off<=c.size->a.off+n<=c.size:=by
 intro n
 induction n with
 |zero=>intro a i j s _ _ _ c e f _ r;exact r
 |succ n t=>
  intro a i j s h p b c e f l _;unfold đ at b;rw[Ä]at b;simp only[bu,å]at b;cases o:u.cell? a with
  |none=>
   rw[o]at b;simp only[Ś,l]at b;cases b
  |some v=>
   rw[o]at b;simp only[É]at b;have q:=o;rw[Af l,p]at q;have y:=(Ë.1<|by simpa using q).1;cases v<;>first|(cases b;done)|skip
   rename_i k m;cases k<;>first|(cases b;done)|skip
   have g:a.add 1={a with off:=a.off+1}:=by unfold Addr.add;grind
   have x:=h.C 1;have:=t x (by rwa[g]) b c e f (by rwa[g]) (by rw[g];simp only;omega);rw[g]at this;simp only at this;omega
end
section
variable{Y:fq}{g:Nat->Prop}{q:â->Prop}{α:Type}
def Pl(a b t:Á)(p:Option Û)(y:Ã):ñ #[a,b] t #[Ø p,y]=(dM y>>=λn=>vf a p n):=by cases p<;>rfl
def WL:∀(n:Nat) {a:Û} {f s:ByteArray} {u c:Ç},(đ a f n).run P u=ĭ s c->c=u
 |0,_,_,_,_,_,h=>by cases h;rfl
 |n+1,a,f,s,u,c,h=>by
  unfold đ at h;rw[Ä]at h;have g:∀v b,(bu a).run P u=ĭ v b->b=u:=by
   intro v b e;simp only[bu,å]at e;split at e
   .cases e;rfl
   .split at e<;>cases e;rfl
  cases d:(bu a).run P u with
  |halt z w=>rw[d]at h;cases h
  |ok v b=>
   have:=g v b d;subst this;rw[d]at h;simp only[É]at h;cases v<;>first|(cases h;done)|skip
   rename_i k m;cases k<;>first|(cases h;done)|exact WL n h
def afH(c:(jE e a n).run P u=ĭ B w):w=u/\(đ a .empty n).run P u=ĭ B u:=by
 unfold jE at c;rw[Ä]at c;cases f:(ř e).run P u with
 |halt z x=>rw[f]at c;cases c
 |ok z x=>
  have g:x=u:=by
   unfold ř at f;rw[Ä]at f;unfold ö at f;rw[Ä,ĉ]at f;simp only[É]at f;cases b:P.underlying e with
   |none=>rw[b]at f;cases f
   |some d=>
    rw[b]at f;cases d<;>cases f<;>rfl
  subst g;rw[f]at c;simp only[É]at c;rw[Ä]at c;have d:∃b,(ÿ a z n).run P x=ĭ b x:=by unfold ÿ;rw[Ä,ĉ];simp only[É];rw[Ä];simp only[cI,å,É];split<;>exact⟨_,U⟩
  let⟨b,d⟩:=d;rw[d]at c;simp only[É]at c;split at c
  .have:=WL n c;subst this;exact⟨U,c⟩
  .cases c
def KH(P:Ö)(t:Á):Bool:=match P.underlying t with
 |some (ò e)=>(match P.underlying e with|some (Υ _)=>È|_=>Â)
 |_=>Â
theorem afI{P:Ö}(h:KH P e=È):∀u c d,(ř e).run P u=ĭ c d->∃k,P.underlying c=À (Υ k):=by
 intro u c d b;unfold ř ö at b;rw[Ä,Ä,ĉ]at b;simp only[É]at b;unfold KH at h;split at h
 .rename_i a f;rw[f]at b;cases b;grind
 .cases h
def afJ[Ac P]{y:Ù}{B:Á}(S:o.op=υ {callee:=ĥ dm,args:=#[qQ,y],argTypes:=#[T,B]})(hpt:KH P T=È)(WM:∀z∈o.op.operands,ml X z):mI P X q o:=by
 have V:∀K:Ù->Ã,í K o=(ñ #[T,B] o.type #[K qQ,K y]>>=λv=>pure<|ð v):=by intro K;unfold í;rw[S];simp only[þ,ē,Ę,pure_bind,Ú,ä,æ]
 have L:∀v w:Ã,fC P (ñ #[T,B] o.type #[v,w]):=by
  intro v w;cases v<;>first|exact jd _|skip
  rw[Pl];exact gl (GZ _) λn=>afF _ _ _
 have hk:∀(a:bR) (u:Ç) (n:ο) (p:Ç),(í a.eval o).run P u=ĭ n p->∃v,n=ð v:=by
  intro a u n p b;rw[V,Ä]at b;cases M:(ñ #[T,B] o.type #[a.eval qQ,a.eval y]).run P u with
  |ok v w=>rw[M]at b;cases b;exact⟨v,U⟩
  |halt z w=>rw[M]at b;cases b
 refine⟨?_,λa=>by rw[V];exact lQ<|L _ _,λa u n p b=>Å<|hk a u n p b,λa u f c p b=>by let⟨v,e⟩:=hk a u _ p b;cases e⟩;intro Y g t t' u w hz hb hG ht H hl z p b hc;have W:=wC hG ht (WM qQ<|by rw[S];simp[Ê,ú]);have N:=wC hG ht (WM y<|by rw[S];simp[Ê,ú]);rw[V]at b|-;generalize ç ⟨t,[]⟩ qQ=v at W b;generalize ç ⟨t',[]⟩ qQ=v' at W|-;generalize ç ⟨t,[]⟩ y=l at N b;generalize ç ⟨t',[]⟩ y=l' at N|-;have C:fF P fi Y (ñ #[T,B] o.type #[v,l]) (ñ #[T,B] o.type #[v',l'])->∃(I:fq) (x':ο) (w':Ç) (O:Array ă),Y.r I/\(∀i j,I i j->Y i j\/(u.heap.size<=i/\w.heap.size<=j))/\(ñ #[T,B] o.type #[v',l']>>=λv=>pure (ð v):ę ο).runT P w #[]=(ĭ x' w',#[]++O)/\oV I z x'/\jg I g p w'/\nI Y g w w'/\(∀e∈O,Ae I g e)/\u.heap.size<=p.heap.size:= λh=>(mH h).gk H hl b #[];cases W with
 |lN=>
  apply C;rw[Pl,Pl];apply fE (Ou N);rintro WN n _ _ rfl;unfold vf;by_cases r:n<0
  .simp only[if_pos r];exact .oy (vZ<|rj _)
  .by_cases d:n>á.max
   .simp only[if_neg r,if_pos d];exact .fP
   .simp only[if_neg r,if_neg d];split
    .exact .fD (.kq _)
    .exact Kg
 |jT D=>
  rename_i a a';cases N with
  |iD k n=>
   by_cases r:n<0
   .apply C;rw[yl,yl];unfold vf;simp only[if_pos r];exact .oy (vZ<|rj _)
   .by_cases d:n>á.max
    .apply C;rw[yl,yl];unfold vf;simp only[if_neg r,if_pos d];exact .fP
    .by_cases h3:n=0
     .apply C;rw[yl,yl];unfold vf;simp only[if_neg r,if_neg d,if_pos h3];exact .fD (.kq _)
     .rw[yl,WK T a r d h3]at b;rw[yl,WK T a' r d h3];obtain⟨m,M⟩:∃m,n.toNat=m+1:=⟨n.toNat-1,Z⟩;rw[M]at b|-;cases J:(jE T a<|m+1).run P u with
      |halt z w=>
       rw[Ä,Ä,J]at b;cases b
      |ok s u1=>
       obtain⟨rfl,WO⟩:=afH J;rw[Ä,Ä,J]at b;have Aq:=b;cases Aq;let⟨WN,s',w1,es,k1,k2,k3,k4,k5,E,k7,k8⟩:=(afD T D<|m+1).gk H hl J #[];have O:=k4;subst O;let⟨c,c',e,fr,we,Q,hw,sF,_⟩:=H.r _ _ D.1;have WQ:a.spot=ì/\a.off<c.size:=by
        have F:=WO;unfold đ at F;rw[Ä]at F;simp only[bu,å]at F;cases G:u1.cell? a with
        |none=>
         rw[G]at F;simp only[Ś,Q]at F;cases F
        |some v=>
         rw[Af Q]at G;cases oB:a.spot with
         |some qQ=>rw[oB]at G;cases G
         |none=>rw[oB]at G;exact⟨U,(Ë.1<|by simpa using G).1⟩
       have fits:∀c e fr,u1.heap[a.block]?=À (Ē c e fr)->a.off+(m+1)<=c.size:=by intro c2 e2 qD d;rw[Q]at d;injection d with d;injection d with q1 q2 q3;subst q1;exact afG H (m+1) D WQ.1 WO c e fr Q<|Nat.le_of_lt WQ.2
       refine⟨WN,ð<|ğ s,w1.freeze a'<|m+1,es,k1,k2,?_,.nK (.kq s),k5.acS (D.r k1) (m+1) fits,?_,k7,by rw[J9];exact à _⟩
       .show ë P (é (é _ _) _) w #[]=_;rw[Ñ,Ñ,k3];rfl
       .refine⟨by rw[J9];exact E.r,acO.trans E.I,acP.trans E.M,Om.trans E.S,λj hj L=> ?_,λj hs hj=> ?_⟩
        .rw[Ka (λe=>L a.block<|by rw[<-e];exact D.1)];exact E.C j hj L
        .rw[Ka (λe=>(afE H D (afI hpt) J)<|by rwa[e])];exact E.N j hs hj
  |_=>exact C .fP
 |_=>exact C .fP
end
section
variable{Y:fq}{g:Nat->Prop}{i:â->Prop}{α:Type}
def afK(a:Û):fC P (bF a):=by unfold bF;repeat' (first|(with_reducible first|exact gB _|exact tC _|exact OU _|refine gl ?_ λ_=> ?_)|split)
def afL(a b:Û):fC P (cW a b):=by unfold cW;repeat' (first|(with_reducible first|exact afK _|exact gB _|exact tC _|refine gl ?_ λ_=> ?_)|split)
def afM(a b:Û):fC P (ż a b):=by unfold ż;repeat' (first|(with_reducible first|exact afL _ _|exact gB _|exact sB _|exact OU _|exact VF _|refine gl ?_ (λ_=> ?_)|refine mZ _ ?_)|split|rfl)
def WR(h:P.underlying t=À (ò e))(x y:Ã):fC P (ù t x y):=by unfold ù ć ι;refine sC h ?_;repeat' (first|(with_reducible first|exact afM _ _|exact gB _|exact jd _|exact sB _|exact tE _|refine gl ?_ λ_=> ?_)|contradiction|split)
def afN{a:ĩ}(b:a=aO\/a=aZ)(h:P.underlying t=À (ò e))(x y:Ã):fC P (Ź a t x y):=by
 have c:=WR h x y;rcases b with rfl|rfl;all_goals
  unfold Ź;repeat' (first|(with_reducible first|exact WR h _ _|exact gB _|exact jd _|exact OZ _ _ _ _|exact V1 _ _ _ _ _ _|exact V2 _ _ _|exact O3 _ _ _|refine gl ?_ λ_=> ?_)|contradiction|split)
def ym(u:Ç)(r:Nat):Prop:=∃c e a,u.heap[r]?=À (Ē c e a)/\a.2<=c.size
def KI(a:Û)(u:Ç)(b:Array ă):(frozen a).runT P u b=(ĭ (u.frozen? a) u,b):=rfl
def KJ{r:Nat}(h:u.heap[r]?=À (Ē d e xJ))(a:Array ă):(cI r).runT P u a=(ĭ (À (e,d.size)) u,a):=by simp only[cI,ë,η,h]
def WS(h:ym u a.block)(b:Array ă):(bF a).runT P u b=(ĭ (u.frozen? a) u,b):=by
 let⟨c,e,f,d,g⟩:=h;unfold bF;show ë P (é _ _) u b=_;rw[Ñ,KI];cases i:u.frozen? a with
 |true=>rfl
 |false=>
  simp only[Æ,if_false];show ë P (é _ _) u b=_;rw[Ñ,KJ d];simp only[];rw[KI];have:u.frozen? {block:=a.block,off:=c.size}=Â:=by simp only[Č,d];simp;omega
  rw[this]
def WT(f:u.heap[a.block]?=À (Ē d e xJ))(g:xJ.2<=d.size)(b:u.frozen? a=È):d.size≠0:=by simp only[Č,f]at b;simp at b;omega
def afO(i:ym u a.block)(j:ym u p.block)(k:(u.frozen? a&&u.frozen? p)=Â)(g:Array ă):(cW a p).runT P u g=(ĭ Â u,g):=by
 have q:=i;have r:=j;let⟨c,e,w,l,s⟩:=q;let⟨d,f,x,m,t⟩:=r;unfold cW;show ë P (é _ _) u g=_;rw[Ñ,WS i];simp only[];show ë P (é _ _) u g=_;rw[Ñ,WS j];simp only[];show ë P (é (é _ _) _) u g=_;rw[Ñ,Ñ,KJ l];simp only[];show ë P (é (é _ _) _) u g=_;rw[Ñ,Ñ,KJ m];simp only[];congr 2;cases o:u.frozen? a with
 |true=>
  rw[o]at k;have h:u.frozen? p=Â:=by simpa using k
  have:=WT l s o;simp only[h];cases v:c.size with
  |zero=>exact absurd v this
  |succ n=>rfl
 |false=>
  cases h:u.frozen? p with
  |true=>
   have:=WT m t h;cases v:d.size with
   |zero=>exact absurd v this
   |succ n=>rfl
  |false=>rfl
def WU(h:ym u a.block)(b:Array ă):(bx a).runT P u b=(ĭ () u,b):=by let⟨c,e,f,d,g⟩:=h;unfold bx cC;show ë P (é (é _ _) _) u b=_;rw[Ñ,Ñ,KJ d];rfl
def WV(e:ym u a.block)(f:ym u p.block)(c:Array ă):(ż a p).runT P u c= if(a.block==p.block)=È then(ĭ (a==p) u,c)else if(u.frozen? a&&u.frozen? p)=È then(cw (ŋ .addressObserved) u,c)else(ĭ Â u,c):=by
 unfold ż;by_cases h:(a.block==p.block)=È
 .simp_all
 .rw[if_neg h,if_neg h];show ë P (é _ _) u c=_;rw[Ñ,KI];simp only[];show ë P (é _ _) u c=_;rw[Ñ,KI];simp only[];by_cases d:(u.frozen? a&&u.frozen? p)=È
  .simp_all
  .rw[if_neg d,if_neg d];show ë P (é _ _) u c=_;rw[Ñ,WU e];simp only[];show ë P (é _ _) u c=_;rw[Ñ,WU f];simp only[];show ë P (é _ _) u c=_;rw[Ñ,afO e f (by simpa using d)];rfl
end
section
variable{Y:fq}{g:Nat->Prop}{j:â->Prop}
def afP{d:dQ}(h:P.underlying t=À d)(u:Ç)(a:Array ă):(ö t).runT P u a=(ĭ d u,a):=by unfold ö;simp_all
def afQ(h:P.info? t=À zJ)(u:Ç)(a:Array ă):(ŗ t).runT P u a=(ĭ zJ.size u,a):=by
 unfold ŗ;show ë P (é _ _) u a=_;rw[Ñ];have:(ý t).runT P u a=(ĭ zJ u,a):=by unfold ý;simp_all
 rw[this];rfl
theorem WW(h:P.underlying t=À (ò e))(d:P.info? e=À zJ)(f:zJ.size≠0)(a b:Û)(u:Ç)(c:Array ă):(ù t (Ø<|À a)<|Ø<|À b).runT P u c=(ż a b).runT P u c:=by unfold ù ć ι;show ë P (é _ _) u c=_;rw[Ñ,afP h];simp only[];show ë P (é _ _) u c=_;rw[Ñ,afQ d];grind
def iq(a:ĩ)(r:Bool):Bool:=if a=aO then r else !r
def WX{d:ĩ}(k:d=aO\/d=aZ)(h:P.underlying t=À (ò e))(g:P.info? e=À zJ)(j:zJ.size≠0)(x y:Ù)(a b:Û)(u:Ç)(c:Array ă): ((Η d t x y (Ø<|À a) (Ø<|À b)>>=λ_=>Ź d t (Ø<|À a)<|Ø<|À b)>>=λv=>pure (ð v):ę ο).runT P u c= match(ż a b).runT P u c with
 |(ĭ r u',f)=>(ĭ (ð<|Ň<|iq d r) u',f)
 |(cw z u',f)=>(cw z u',f):=by
 rcases k with rfl|rfl
 .show ë P (é (é (ù t (Ø<|À a)<|Ø<|À b) λr=>aW<|Ň r) λv=>aW<|ð v) u c=_;rw[Ñ,Ñ,WW h g j];cases(ż a b).runT P u c with
  |mk r f=>cases r<;>rfl
 .show ë P (é (é (ù t (Ø<|À a)<|Ø<|À b) λr=>aW<|Ň !r) λv=>aW<|ð v) u c=_;rw[Ñ,Ñ,WW h g j];cases(ż a b).runT P u c with
  |mk r f=>cases r<;>rfl
theorem afR{m:ĩ}{r:Á}{y:Ù}(E:o.op=ef m t qQ y r)(H:m=aO\/m=aZ)(h:P.underlying t=À (ò e))(T:P.info? e=À zJ)(V:zJ.size≠0)(I:∀z∈o.op.operands,ml X z):mI P X j o:=by
 have J:∀B:Ù->Ã,í B o=((Η m t qQ y (B qQ) (B y)>>=λ_=>Ź m t (B qQ)<|B y)>>=λv=>pure<|ð v):=by intro B;unfold í;rw[E]
 have W:∀(a:bR) (u:Ç) (n:ο) (s:Ç),(í a.eval o).run P u=ĭ n s->∃v,n=ð v:=by
  intro a u n s k;rw[J,Ä]at k;cases C:(Η m t qQ y (a.eval qQ) (a.eval y)>>=λ_=>Ź m t (a.eval qQ)<|a.eval y).run P u with
  |ok v w=>rw[C]at k;cases k;exact⟨v,U⟩
  |halt z w=>rw[C]at k;cases k
 refine⟨?_,λa=> ?_,λa u n s k=>Å<|W a u n s k,λa u f c s k=>by let⟨v,e⟩:=W a u _ s k;cases e⟩
 .intro Y g D WY u w K hb L M p hl z s k hc;have N:=wC L M (I qQ<|by rw[E];simp[Ê]);have O:=wC L M (I y<|by rw[E];simp[Ê]);by_cases Q:mY (ç ⟨D,[]⟩ qQ)\/mY (ç ⟨D,[]⟩ y)
  .have hOk:j5 P (ç ⟨D,[]⟩) o.op:=by
    rw[E];exact .D9 m t qQ y r λ_=>Ì ⟨⟨e,h⟩,Q⟩
   exact(Vf K p.C hb (λf=>rfl) hOk λz K=>wC L M<|I z K).gk p hl k hc #[]
  .have n1:=λq=>Q<|Å q;have n2:=λq=>Q<|Ì q;rw[J]at k|-;generalize ç ⟨D,[]⟩ qQ=v at N k n1;generalize ç ⟨WY,[]⟩ qQ=v' at N|-;generalize ç ⟨D,[]⟩ y=l at O k n2;generalize ç ⟨WY,[]⟩ y=l' at O|-;cases N<;>first|exact absurd trivial n1|skip
   cases O<;>first|exact absurd trivial n2|skip
   rename_i a a' F b b' G;have fit:∀{c S:Û},gY Y c S->ym u c.block/\ym w S.block:=by intro c S hcc;let⟨d,d',e2,fr,we,hu,hw,sF,pL,Pm,hfr⟩:=p.r _ _ hcc.1;refine⟨⟨d,e2,fr,hu,hfr⟩,d',e2,we,hw,?_⟩;refine û ?_ sF.I;grind
   let⟨fa,fa'⟩:=fit F;let⟨fb,fb'⟩:=fit G;rw[<-π P _ u #[],WX H h T V,WV fa fb]at k;rw[WX H h T V,WV fa' fb'];rw[<-(Ki p.C F G),<-(U1 p.C F G)];by_cases q:(a.block==b.block)=È
   .rw[if_pos q]at k|-;cases k;exact⟨Y,_,w,#[],fq.M _,λ_ _ q=>Å q,U,.nK (.mj _),p,nI.fT _ _ _,λ_ C=>absurd C fj,à _⟩
   .rw[if_neg q]at k|-;by_cases q2:(u.frozen? a&&u.frozen? b)=È
    .grind
    .rw[if_neg q2]at k;have q3:¬(w.frozen? a'&&w.frozen? b')=È:=by
      intro q4;let⟨z1,z2⟩:=Þ.1 q4;exact q2<|Þ.2 ⟨p.G F z1,p.G G z2⟩
     rw[if_neg q3];cases k;exact⟨Y,_,w,#[],fq.M _,λ_ _ q=>Å q,U,.nK (.mj _),p,nI.fT _ _ _,λ_ C=>absurd C fj,à _⟩
 .rw[J];exact lQ<|gl (V7 m t (λ_=>Ì ⟨e,h⟩) qQ y _ _) λ_=>afN H h _ _
end
def Pn(P:Ö)(s d:Á):Bool:=match P.underlying s,P.underlying d with
 |some (dz e),À Ġ=>(match P.underlying e with|some (Υ .u8)=>È|_=>Â)
 |some (ò _),À ė=>È
 |some ė,À (ò _)=>È
 |_,_=>Â
def Po(P:Ö)(t:Á):Bool:=match P.underlying t with
 |some (ò e)=>(match P.info? e with|some i=>i.size !=0|none=>Â)
 |_=>Â
def Pp(P:Ö)(b:â->Bool)(c:Callee)(a:List Ù)(d:List Á):Bool:=match c with
 |ĥ .min=>a.length !=0
 |ĥ bE=>a.length==1
 |ĥ dm=>a.length==2&&(match d with|[t,_]=>KH P t|_=>Â)
 |cF (bg f)=>b f&&a.length==1
 |_=>Â
def Pq(P:Ö)(a:â->Bool):Op->Bool
 |cV _ _|.panic _=>È
 |ef c t _ _ _=>(c==aO||c==aZ)&&Po P t
 |bb s d _=>Pn P s d
 |υ c=>Pp P a c.callee c.args.toList c.argTypes.toList
 |_=>Â
def Eh(P:Ö)(a:Nat->Bool)(b c:â->Bool)(o:aJ):Bool:=Pk P a b o||(Pq P c o.op&&o.op.operands.all (wE a))
def G6(P:Ö)(c:â->Bool):Prop:=∀f,c f=È->∃a e,P.funcs[f]?=À a/\(a.name== "runtime.NumGoroutine")=Â/\a.body.isNone=È/\Extern.findNext a=ì/\Extern.find a=À e/\
 (∀(Y:fq) (v b:Ã),fi Y v b->fF P fi Y (e #[v]) (e #[b]))/\∀v,fC P<|e #[v]
theorem KL[Ac P]{g:Nat->Bool}{k x:â->Bool}(D:G6 P x)(h:Eh P g k x o=È):mI P (λj=>g j=È) (λf=>k f=È) o:=by
 rcases ū.1 h with h|h
 .exact ae7 h
 .let⟨v,E⟩:=Þ.1 h;have q:∀z∈o.op.operands,ml (λj=>g j=È) z:=by
   intro z F;obtain⟨i,B,rfl⟩:=Ŗ.1 F;exact KE<|Ő.1 E i B
  cases n:o.op with
  |makeInterface t y=>exact ae8 n q
  |panic y=>exact afb n q
  |binOp w t a b r=>
   rw[n]at v;let⟨V,m⟩:=Þ.1 (show((w==aO||w==aZ)&&Po P t)=È from v);have G:w=aO\/w=aZ:=by grind
   unfold Po at m;split at m
   .rename_i e H;split at m
    .rename_i i B;exact afR n G H B (by simpa using m) q
    .cases m
   .cases m
  |convert s d y=>
   rw[n]at v;have m:Pn P s d=È:=v;unfold Pn at m;split at m
   .rename_i e u p;split at m
    .rename_i I;exact afl n u p I q
    .cases m
   .rename_i t u p;exact WH n (Å ⟨u,p⟩) q
   .rename_i t u p;exact WH n (Ì ⟨u,p⟩) q
   .cases m
  |call c=>
   rw[n]at v;let⟨J,K,C⟩:=c;have m:Pp P x J K.toList C.toList=È:=v;unfold Pp at m;split at m
   .exact afh n q
   .obtain⟨y,rfl⟩:=KG m;exact afu n q
   .let⟨u,p⟩:=Þ.1 m;obtain⟨y,z,rfl⟩:=Pj u;let⟨l⟩:=C;match l,p with
    |[t1,t2],p=>exact afJ n p q
   .rename_i f;let⟨u,p⟩:=Þ.1 m;obtain⟨y,rfl⟩:=KG p;let⟨W,e,L,M,N,O,Q,S,T⟩:=D f u;exact afm n L M N O Q S T q
   .cases m
  |_=>rw[n]at v;simp[Pq]at v
def nO(P:Ö)(a:Nat->Bool)(b d:â->Bool):aG->Bool
 |.ret|.skip|ew _|.exit _|.goto _=>È
 |.seq x y=>nO P a b d x&&nO P a b d y
 |bL c x y=>wE a c&&nO P a b d x&&nO P a b d y
 |ey _ c|.loop c|ez c=>nO P a b d c
 |cg _ c _=>c.all<|Eh P a b d
 |dE _=>È
 |_=>Â
def vg[Ac P]{g:Nat->Bool}{k x:â->Bool}(a:G6 P x):∀{c:aG},nO P g k x c=È->kJ P (λj=>g j=È) (λf=>k f=È) c
 |.ret,_=> .u7
 |.skip,_=> .sx
 |ew l,_=> .wo l
 |.exit l,_=> .wy l
 |.goto l,_=> .wz l
 |.seq y z,h=>by let⟨f,i⟩:=Þ.1 (show(nO P g k x y&&nO P g k x z)=È from h);exact .rp (vg a f) (vg a i)
 |bL c y z,h=>by let⟨f,i⟩:=Þ.1 (show(wE g c&&nO P g k x y&&nO P g k x z)=È from h);let⟨j,f⟩:=Þ.1 f;exact .tF (KE j) (vg a f) (vg a i)
 |ey id c,h=> .ru id (vg a<|show nO P g k x c=È from h)
 |.loop c,h=> .wq (vg a<|show nO P g k x c=È from h)
 |ez c,h=> .wx (vg a<|show nO P g k x c=È from h)
 |cg id ops d,h=> .tH id d λo f=>by obtain⟨i,j,rfl⟩:=Ŗ.1 f;exact KL a<|Ő.1 (show ops.all (Eh P g k x)=È from h) i j
 |.rangeFunc _ _ _ _,h=>by simp[nO]at h
 |dE w,_=> .nL w
end Go.Proofs.Y.Lift
namespace Go.Proofs.Y.fu
open Go Go.Conc Go.Proofs.Y.Lift
def qE(t:ħ)(g:Nat)(l:eb):Prop:=∀p a,ġ t p=À a->a.loc=l->bP t g p
def o0(t:ħ)(g:Nat)(l:eb):Prop:=∀p a,ġ t p=À a->a.loc=l->a.write=È->bP t g p
def qE.r{t:ħ}{l:eb}(h:qE t i l):o0 t i l:=λp a b c _=>h p a b c
section
variable{t u:ħ}{g:Nat}{l:eb}
theorem mL{a:dW}(h:ġ (t++u) i=À a):(i<t.size/\ġ t i=À a)\/(t.size<=i/\∃x∈u,x.act.touch?=À a/\(t++u)[i]?=À x):=by
 let⟨x,c,d⟩:=dX h;rcases getElem?_append_cases c with⟨b,e⟩|⟨b,f⟩
 .exact Å ⟨b,by rwa[touchAt_of e]⟩
 .grind
theorem qE.C(h:qE t g l)(j:∀c∈u,∀b,c.act.touch?=À b->b.loc=l->c.g=g):qE (t++u) g l:=by
 intro p a e f;rcases mL e with⟨_,d⟩|⟨_,c,d,k,i⟩
 .exact(h p a d f).app u
 .have:=bG i;grind
theorem o0.r(h:o0 t g l)(k:∀c∈u,∀b,c.act.touch?=À b->b.loc=l->b.write=È->c.g=g):o0 (t++u) g l:=by
 intro p a e f i;rcases mL e with⟨_,d⟩|⟨_,c,d,m,j⟩
 .exact(h p a d f i).app u
 .have:=bG j;grind
def qE.yc(h:∀p a,ġ t p=À a->a.loc≠l):qE t g l:=λp a b c=>absurd c<|h p a b
theorem Pr(h:∀c,¬eR c t)(l:∀d∈u,d.g=g)(m:∀d∈u,∀b,d.act.touch?=À b->(b.write=Â/\o0 t g b.loc)\/qE t g b.loc\/(b.kind=ţ/\∀p a,ġ t p=À a->a.loc=b.loc->a.kind=.plain->bP t g p)):∀c,¬eR c (t++u):=by
 intro c;refine noRace_append (h c) l λi a f d n b o r=> ?_;let⟨j,v,e,w⟩:=r;rcases m d n b o with⟨s,k⟩|q|⟨s,k⟩
 .rcases e with e|e
  .exact k i a f j e
  .grind
 .exact q i a f j
 .grind
theorem Ar(f:∀c,¬eR c t)(r:∀d∈u,d.act.touch?=ì):∀c,¬eR c (t++u):=by
 intro c;rintro⟨i,j,g,⟨a,b,h,k,l⟩,m,n⟩;rcases mL k with⟨s,e⟩|⟨_,d,e,v,_⟩
 .rcases mL h with⟨o,p⟩|⟨o,_⟩
  .exact f c ⟨i,j,g,⟨a,b,p,e,l⟩,λq=>m<|eD u q,λq=>n<|eD u q⟩
  .omega
 .grind
end
structure fc where
 O:Nat->Prop
 I:Nat->Prop
 r:Û->Prop
 N:Û->Prop
 K:Û->Prop
 d:Nat
 q:Prop
 w:Ç
def fc.M(l:fc):Nat->Prop:=λj=>l.O j\/l.I j
def fc.C(l:fc):Û->Prop:=λa=>l.r a\/l.N a
structure fI(l:fc)(w w₁:Ç):Prop where
 r:w.heap.size<=w₁.heap.size
 I:∀j,l.M j->w₁.heap[j]?=w.heap[j]?
 N:∀a,l.C a->w₁.cell? a=w.cell? a
 Y:∀a,l.C a->w₁.frozen? a=w.frozen? a
 S:∀a,l.K a->(w.cell? a).isSome=È->(w₁.cell? a).isSome=È
def fI.fT(l:fc)(w:Ç):fI l w w:=⟨à _,λ_ _=>rfl,λ_ _=>rfl,λ_ _=>rfl,λ_ _ h=>h⟩
def fI.ff{l:fc}{c:Ç}(h:fI l w u)(k:fI l u c):fI l w c:= ⟨û h.r k.r,λj d=>(k.I j d).trans<|h.I j d,λj d=>(k.N j d).trans<|h.N j d,λj d=>(k.Y j d).trans<|h.Y j d,λw e q=>k.S w e<|h.S w e q⟩
def kR(w:Ç)(b:Nat):Option (Nat×Nat):=match w.heap[b]? with
 |some (Ē _ _ fr)=>À fr
 |_=>ì
def wF{w':Ç}(h:w'.heap[b]?=w.heap[b]?):kR w' b=kR w b:=by unfold kR;rw[h]
theorem WZ(w:Ç)(a:Û):w.frozen? a=match kR w a.block with
 |some (lo,hi)=>decide (lo<=a.off)&&decide (a.off<hi)
 |none=>Â:=by
 unfold Č kR;grind
def KM(h:kR u a.block=kR w a.block):u.frozen? a=w.frozen? a:=by rw[WZ,WZ,h]
def yn(l:fc)(e:ă):Prop:=
 (∃a:Û,e.loc=ā a/\(l.O a.block\/l.r a\/((l.I a.block\/l.N a)/\e.write=Â/\e.sync=Â)))\/e.loc=ſ ζ\/(∃f,e.loc=ſ (.extern f))\/e.loc=ſ cX\/e.loc=ſ dJ\/
 ∃a:Û,l.O a.block/\(e.loc=ſ (.read a)\/e.loc=ſ (.write a)\/e.loc=ſ (Ŀ a)\/e.loc=ſ (cZ a))
structure mo(l l':fc)(w w':Ç)(es:Array ă):Prop where
 C:w.heap.size<=w'.heap.size
 S:∀j,l'.O j->l.O j\/w.heap.size<=j
 fx:∀j,l'.O j->j<w'.heap.size
 I:l'.I=l.I
 r:l'.r=l.r
 M:l'.N=l.N
 k:l'.K=l.K
 jO:∀j,j<w.heap.size->¬l.O j->(∀a:Û,a.block=j->¬l.r a)->w'.heap[j]?=w.heap[j]?
 N:∀a:Û,a.block<w.heap.size->¬l.O a.block->¬l.r a->w'.cell? a=w.cell? a
 Y:∀a:Û,a.block<w.heap.size->¬l.O a.block->kR w' a.block=kR w a.block
 f:w'.os=w.os
 g:w'.output=w.output
 m:w'.tape=w.tape
 c:∀e∈es,yn l' e
 h:l'.d=Ž l.d es
 q:l'.q=l.q
 i:l.q->w'=w/\(∀e∈es,e.mute=È)/\l'.O=l.O
 b:l'.w=w'
structure Pt(t:ħ)(g:Nat)(l:fc):Prop where
 fp:∀a:Û,l.O a.block->qE t g (ā a)
 C:∀a:Û,l.I a.block->o0 t g (ā a)
 I:∀a:Û,l.r a->qE t g (ā a)
 r:∀a:Û,l.N a->o0 t g (ā a)
theorem W0{l:fc}{e:ă}(h:yn l e){b:dW}(c:(ê e).touch?=À b):∃a:Û,b.loc=ā a/\(l.O a.block\/l.r a\/((l.I a.block\/l.N a)/\b.write=Â)):=by
 let⟨k,i,j⟩:=e;rcases h with⟨a,g,d⟩|h|⟨f,h⟩|h|h|⟨a,g,d⟩
 .simp only at g d;subst g;have:(ê ⟨ā a,i,j⟩).touch?=À ⟨ā a,i,if j then ţ else .plain⟩:=U;grind
 .simp only at h;subst h;simp[ê,ą]at c
 .simp only at h;subst h;simp[ê,ą]at c
 .simp only at h;subst h;simp[ê,ą]at c
 .simp only at h;subst h;simp[ê,ą]at c
 .simp only at d;rcases d with rfl|rfl|rfl|rfl<;>simp[ê,ą]at c<;>subst c;all_goals grind
def afS{l:fc}(d:∀j,l.O j->j<i)(k:∀j,l.I j->j<i)(g:∀a:Û,l.C a->a.block<i){e:ă}(h:yn l e):(ê e).low i:=by
 let⟨m,n,o⟩:=e;rcases h with⟨a,c,b⟩|h|⟨f,h⟩|h|h|⟨a,c,b⟩
 .simp only at c b;subst c;rcases b with h|h|⟨h|h,_⟩
  .exact d _ h
  .exact g _<|Å h
  .exact k _ h
  .exact g _<|Ì h
 .simp only at h;subst h;trivial
 .simp only at h;subst h;trivial
 .simp only at h;subst h;trivial
 .simp only at h;subst h;trivial
 .simp only at b;rcases b with rfl|rfl|rfl|rfl<;>exact d _ c
def W3(B:Nat)(t:ħ):Prop:=∀a∈t,a.act.low B
def W4(h:W3 i qJ){a:dW}(g:ġ qJ n=À a){x:Û}(d:a.loc=ā x):x.block<i:=by
 let⟨f,j,b⟩:=dX g;have c:=h f<|Ý j;revert b c;cases f.act with
 |access e=>
  intro b c;simp only[ą,Ξ]at b;subst b;simp only at d;simp only[MemAct.low,d,Loc.low]at c;exact c
 |mark m=>
  intro b c;cases m<;>simp[ą]at b;all_goals
   subst b;simp only[Loc.cell.injEq]at d;subst d;exact c
 |_=>intro b _;simp[ą]at b
def n5{a:String}:∀op∈Î i F a V,op.g=i:=λop b=>by obtain⟨e,_,rfl⟩:=î (op:=op) b;rfl
structure iP(B0:Nat)(Live:Nat->Prop)(Y:Nat->Prop)(lot:Nat->fc)(w:Ç)(t:ħ):Prop where
 o:∀i j,Live i->Live j->i≠j->∀b,(lot i).O b->¬(lot j).M b
 h:∀i j,Live i->Live j->i≠j->∀a,(lot i).r a->¬(lot j).C a
 m:∀i,Live i->∀b,(lot i).O b->¬(lot i).I b
 g:∀i,Live i->∀a,(lot i).r a->¬(lot i).N a
 I:∀i,Live i->∀b,(lot i).M b->¬Y b
 e:∀i,Live i->∀a,(lot i).C a->Y a.block
 fx:∀i,Live i->∀b,(lot i).M b->b<w.heap.size
 N:∀b,Y b->b<w.heap.size
 r:∀i,Live i->fI (lot i) (lot i).w w
 S:∀i,Live i->Pt t i (lot i)
 f:∀i,Live i->ρ t i=(lot i).d
 l:∀said,¬eR said t
 q:W3 w.heap.size t
 s:∀p a c,ġ t p=À a->a.loc=.obj c->a.kind=.plain->c<B0
 n:∀i,Live i->∀a,(lot i).K a->Y a.block/\∀k,Live k->¬(lot k).r a
def gq(lot:Nat->fc)(i:Nat)(l:fc):Nat->fc:=λk=>if k=i then l else lot k
def gT(a:Nat->fc)(i:Nat)(l:fc):gq a i l i=l:=if_pos U
def gH(a:Nat->fc)(l:fc)(h:k≠i):gq a i l k=a k:=if_neg h
section
variable{B0:Nat}{Live Y:Nat->Prop}{lot:Nat->fc}{w':Ç}{t u:ħ}
def Pu{g:Nat}(a:k≠g)(t:ħ){u:ħ}(b:∀c∈u,c.g=g):ρ (t++u) k=ρ t k:= Deaf_other t (g:=k) (g':=g) (Ċ a) _ b
def iP.at(h:iP B0 Live Y lot w t)(d:Nat):iP B0 Live Y lot (w.at d) t:= ⟨h.o,h.h,h.m,h.g,h.I,h.e,h.fx,h.N,λi a=>⟨(h.r i a).r,(h.r i a).I,(h.r i a).N,(h.r i a).Y,(h.r i a).S⟩,h.S,h.f,h.l,h.q,h.s,h.n⟩
def iP.afT(h:iP B0 Live Y lot w t)(r:Live i){s:fc}(l:mo (lot i) s w w' V)(E:â)(F:String): iP B0 Live Y (gq lot i s) w' (t++Î i E F V):=by
 have G:=l.S;have Q:∀b,s.M b->(lot i).M b\/w.heap.size<=b:=λb g=>g.elim (λq=>(G b q).imp Å id) (λq=>Å<|Ì<|by rwa[<-l.I]);have J:∀a,s.C a↔(lot i).C a:=λa=>by unfold fc.C;rw[l.r,l.M]
 have I:=λk f a d=>h.N _<|h.e k f a d;have L:∀k,Live k->k≠i->∀b,(lot k).M b->¬s.O b:=by
  intro k f y b g c;rcases G b c with q|q
  .exact h.o i k r f (Ċ y) b q g
  .have:=h.fx k f b g;omega
 have H:∀m∈Î i E F V,∀b,m.act.touch?=À b->∃a:Û,b.loc=ā a/\(s.O a.block\/s.r a\/((s.I a.block\/s.N a)/\b.write=Â)):=by intro m o b g;obtain⟨e,N,rfl⟩:=î o;exact W0 (l.c e N) g
 have T:∀a:Û,s.O a.block->qE t i (ā a):=by
  intro a d;rcases G _ d with q|q
  .exact(h.S i r).fp a q
  .exact .yc λp x P n=>by have:=W4 h.q P n;omega
 have D:Pt t i s:=⟨T,λa d=>(h.S i r).C a (by rwa[<-l.I]),λa d=>(h.S i r).I a (by rwa[<-l.r]),λa d=>(h.S i r).r a<|by rwa[<-l.M]⟩;refine⟨?_,?_,?_,?_,?_,?_,?_,λb g=>Ô (h.N b g) l.C,?_,?_,?_,?_,?_,?_,?_⟩
 .intro k j f u y b g;by_cases c:k=i
  .subst c;rw[gT]at g;rw[gH lot _<|Ċ y];exact λq=>L j u (Ċ y) b q g
  .rw[gH lot _ c]at g;by_cases v:j=i
   .subst v;rw[gT];intro q;rcases Q b q with z|z
    .exact h.o k j f u y b g z
    .have:=h.fx k f b<|Å g;omega
   .rw[gH lot _ v];exact h.o k j f u y b g
 .intro k j f u y a d;by_cases c:k=i
  .subst c;rw[gT,l.r]at d;rw[gH lot _<|Ċ y];exact h.h k j f u y a d
  .rw[gH lot _ c]at d;by_cases v:j=i
   .subst v;rw[gT,J];exact h.h k j f u y a d
   .rw[gH lot _ v];exact h.h k j f u y a d
 .intro k f b g;by_cases c:k=i
  .subst c;rw[gT]at g|-;rw[l.I];rcases G b g with z|z
   .exact h.m k f b z
   .intro q;have:=h.fx k f b<|Ì q;omega
  .rw[gH lot _ c]at g|-;exact h.m k f b g
 .intro k f a d;by_cases c:k=i
  .subst c;rw[gT]at d|-;rw[l.M];rw[l.r]at d;exact h.g k f a d
  .rw[gH lot _ c]at d|-;exact h.g k f a d
 .intro k f b g;by_cases c:k=i
  .subst c;rw[gT]at g;rcases Q b g with z|z
   .exact h.I k f b z
   .intro y;have:=h.N b y;omega
  .rw[gH lot _ c]at g;exact h.I k f b g
 .intro k f a d;by_cases c:k=i
  .subst c;rw[gT,J]at d;exact h.e k f a d
  .rw[gH lot _ c]at d;exact h.e k f a d
 .intro k f b g;by_cases c:k=i
  .subst c;rw[gT]at g;exact g.elim (l.fx b) λq=>Ô (h.fx k f b<|Ì<|by rwa[<-l.I]) l.C
  .rw[gH lot _ c]at g;exact Ô (h.fx k f b g) l.C
 .intro k f;by_cases c:k=i
  .subst c;rw[gT,l.b];exact fI.fT _ _
  .rw[gH lot _ c];refine(h.r k f).ff ⟨l.C,λb g=>l.jO b (h.fx k f b g) (λq=>h.o i k r f (Ċ c) b q g) (λa d q=>h.I k f b g<|by rw[<-d];exact h.e i r a<|Å q),λa d=>l.N a (I k f a d) (λq=>h.I i r _ (Å q)<|h.e k f a d) λq=>h.h i k r f (Ċ c) a q d,λa d=>KM (l.Y a (I k f a d) λq=>h.I i r _ (Å q)<|h.e k f a d),λa d q=> ?_⟩;let⟨y,v⟩:=h.n k f a d;rwa[l.N a (h.N _ y) (λq=>h.I i r _ (Å q) y)<|v i r]
 .intro k f;by_cases c:k=i
  .subst c;rw[gT];exact⟨λa d=>(D.fp a d).C λm o _ _ _=>n5 m o,λa d=>(D.C a d).r λm o _ _ _ _=>n5 m o,λa d=>(D.I a d).C λm o _ _ _=>n5 m o,λa d=>(D.r a d).r λm o _ _ _ _=>n5 m o⟩
  .rw[gH lot _ c];have W:∀a:Û,(lot k).O a.block->∀m∈Î i E F V,∀b,m.act.touch?=À b->b.loc=ā a->False:=by
    intro a d m o b g n;let⟨x,y,v⟩:=H m o b g;rw[y]at n;injection n with n;subst n;rcases v with q|q|⟨q|q,_⟩
    .exact L k f c _ (Å d) q
    .exact h.I k f _ (Å d)<|h.e i r x<|Å<|by rwa[<-l.r]
    .exact h.o k i f r c _ d<|Ì<|by rwa[<-l.I]
    .exact h.I k f _ (Å d)<|h.e i r x<|Ì<|by rwa[<-l.M]
   have X:∀a:Û,(lot k).I a.block->∀m∈Î i E F V,∀b,m.act.touch?=À b->b.loc=ā a->b.write=È->False:=by
    intro a d m o b g n B;let⟨x,y,v⟩:=H m o b g;rw[y]at n;injection n with n;subst n;rcases v with q|q|⟨_,q⟩
    .exact L k f c _ (Ì d) q
    .exact h.I k f _ (Ì d)<|h.e i r x<|Å<|by rwa[<-l.r]
    .rw[q]at B;cases B
   have S:∀a:Û,(lot k).C a->∀m∈Î i E F V,∀b,m.act.touch?=À b->b.loc=ā a->(s.I a.block\/s.N a)/\b.write=Â:=by
    intro a d m o b g n;let⟨x,y,v⟩:=H m o b g;rw[y]at n;injection n with n;subst n;rcases v with q|q|q
    .exfalso;rcases G _ q with z|z
     .exact h.I i r _ (Å z)<|h.e k f x d
     .have:=I k f x d;omega
    .exact absurd d<|h.h i k r f (Ċ c) x<|by rwa[<-l.r]
    .exact q
   refine⟨λa d=>((h.S k f).fp a d).C λm o b g n=>(W a d m o b g n).elim,λa d=>((h.S k f).C a d).r λm o b g n B=>(X a d m o b g n B).elim,λa d=>((h.S k f).I a d).C λm o b g n=> ?_,λa d=>((h.S k f).r a d).r λm o b g n B=> ?_⟩
   .exfalso;obtain⟨q|q,_⟩:=S a (Å d) m o b g n
    .exact h.I i r _ (Ì<|by rwa[<-l.I])<|h.e k f a<|Å d
    .exact h.h k i f r c a d<|Ì<|by rwa[<-l.M]
   .have:=(S a (Ì d) m o b g n).2;rw[this]at B;cases B
 .intro k f;by_cases c:k=i
  .subst c;rw[gT,l.h,Deaf_own,h.f k f]
  .rw[gH lot _ c,Pu c t n5];exact h.f k f
 .refine Pr h.l n5 λm o b g=> ?_;let⟨a,y,v⟩:=H m o b g;rw[y];rcases v with q|q|⟨q,B⟩
  .exact Ì<|Å<|D.fp a q
  .exact Ì<|Å<|D.I a q
  .exact Å ⟨B,q.elim (D.C a)<|D.r a⟩
 .intro m o;rcases ģ.1 o with q|q
  .exact MemAct.low_mono l.C<|h.q m q
  .obtain⟨e,N,rfl⟩:=î q;refine afS l.fx (λj u=>Ô (h.fx i r j<|Ì<|by rwa[<-l.I]) l.C) (λa d=> ?_)<|l.c e N;rw[J]at d;exact Ô (I i r a d) l.C
 .intro p a c d n f;rcases mL d with⟨_,y⟩|⟨_,m,y,v,_⟩
  .exact h.s p a c y n f
  .let⟨x,P,_⟩:=H m y a v;rw[P]at n;cases n
 .intro k f a d;have y:∀j,(gq lot i s j).r=(lot j).r:=λj=>by
   by_cases e:j=i
   .subst e;rw[gT,l.r]
   .rw[gH lot _ e]
  have c:(gq lot i s k).K=(lot k).K:=by
   by_cases e:k=i
   .subst e;rw[gT,l.k]
   .rw[gH lot _ e]
  rw[c]at d;exact⟨(h.n k f a d).1,λj u=>by rw[y];exact(h.n k f a d).2 j u⟩
end
def G7(Live Y:Nat->Prop)(d:Nat->fc)(b:dW):Prop:=(∃a:Û,b.loc=ā a/\Y a.block/\∀k,Live k->¬(d k).C a)\/∃c,b.loc=.obj c/\Y c/\b.kind=ţ
structure pM(Live Y:Nat->Prop)(lot:Nat->fc)(w w':Ç):Prop where
 r:w'.heap.size=w.heap.size
 jO:∀j,¬Y j->w'.heap[j]?=w.heap[j]?
 M:∀k,Live k->∀a,(lot k).C a->w'.cell? a=w.cell? a
 N:∀k,Live k->∀a,(lot k).C a->w'.frozen? a=w.frozen? a
 I:∀a,(w.cell? a).isSome=È->(w'.cell? a).isSome=È
def pM.fT(Live Y:Nat->Prop)(a:Nat->fc)(w:Ç):pM Live Y a w w:=⟨U,λ_ _=>rfl,λ_ _ _ _=>rfl,λ_ _ _ _=>rfl,λ_ h=>h⟩
structure vh(w':Ç)(l l':fc):Prop where
 O:l'.O=l.O
 N:l'.I=l.I
 r:l'.r=l.r
 I:l'.N=l.N
 K:l'.K=l.K
 w:l'.w=l.w\/l'.w=w'
def vh.fT(w':Ç)(l:fc):vh w' l l:=⟨U,U,U,U,U,Å U⟩
def vh.M{w':Ç}{l a:fc}(h:vh w' l a):a.M=l.M:=by unfold fc.M;rw[h.O,h.N]
def vh.C{w':Ç}{l a:fc}(h:vh w' l a):a.C=l.C:=by unfold fc.C;rw[h.r,h.I]
def fI.afU{l c:fc}(h:vh w l c)(r:fI l u W):fI c u W:= ⟨r.r,by rw[h.M];exact r.I,by rw[h.C];exact r.N,by rw[h.C];exact r.Y,by rw[h.K];exact r.S⟩
section
variable{Live Y:Nat->Prop}{lot o:Nat->fc}{w':Ç}{t u:ħ}
def iP.G(h:iP n Live Y lot w t)(m:∀k,vh w' (lot k)<|o k)(s:pM Live Y lot w w')(B:∀l∈u,∀b,l.act.touch?=À b->G7 Live Y lot b)(g:∀l∈u,l.act.low w.heap.size)(E:∀F,¬eR F (t++u))(G:∀k,Live k->ρ (t++u) k=(o k).d):iP n Live Y o w' (t++u) where
 o i j hi v lB b q:=by rw[(m j).M];exact h.o i j hi v lB b<|by rwa[<-(m i).O]
 h i j hi v lB a f:=by rw[(m j).C];exact h.h i j hi v lB a<|by rwa[<-(m i).r]
 m i hi b q:=by rw[(m i).N];exact h.m i hi b<|by rwa[<-(m i).O]
 g i hi a f:=by rw[(m i).I];exact h.g i hi a<|by rwa[<-(m i).r]
 I i hi b q:=h.I i hi b (by rwa[<-(m i).M]);e i hi a f:=h.e i hi a (by rwa[<-(m i).C]);fx i hi b q:=by rw[s.r];exact h.fx i hi b<|by rwa[<-(m i).M]
 N b q:=by rw[s.r];exact h.N b q
 r i hi:=by
  rcases(m i).w with e|e
  .rw[e];refine((h.r i hi).ff ⟨dK s.r.symm,λj v=>s.jO j<|h.I i hi j v,λa f=>s.M i hi a f,λa f=>s.N i hi a f,λa _=>s.I a⟩).afU<|m i
  .rw[e];exact fI.fT _ _
 S i hi:=by
  have z:∀a:Û,(lot i).M a.block->∀l∈u,∀b,l.act.touch?=À b->b.loc=ā a->False:=by
   intro a f l e b q g;rcases B l e b q with⟨x,r,y,_⟩|⟨c,r,_⟩
   .rw[r]at g;injection g with g;subst g;exact h.I i hi _ f y
   .rw[r]at g;cases g
  have D:∀a:Û,(lot i).C a->∀l∈u,∀b,l.act.touch?=À b->b.loc=ā a->False:=by
   intro a f l e b q g;rcases B l e b q with⟨x,r,_,y⟩|⟨c,r,_⟩
   .rw[r]at g;injection g with g;subst g;exact y i hi f
   .rw[r]at g;cases g
  exact⟨λa f=>((h.S i hi).fp a<|by rwa[<-(m i).O]).C λl e b q g=>(z a (Å<|by rwa[<-(m i).O]) l e b q g).elim,λa f=>((h.S i hi).C a<|by rwa[<-(m i).N]).r λl e b q g _=>(z a (Ì<|by rwa[<-(m i).N]) l e b q g).elim,λa f=>((h.S i hi).I a<|by rwa[<-(m i).r]).C λl e b q g=>(D a (Å<|by rwa[<-(m i).r]) l e b q g).elim,λa f=>((h.S i hi).r a<|by rwa[<-(m i).I]).r λl e b q g _=>(D a (Ì<|by rwa[<-(m i).I]) l e b q g).elim⟩
 f:=G;l:=E;q l e:=by rw[s.r];exact(ģ.1 e).elim (h.q l)<|g l
 s p a c f g z:=by
  rcases mL f with⟨_,r⟩|⟨_,l,r,y,_⟩
  .exact h.s p a c r g z
  .rcases B l r a y with⟨x,D,_⟩|⟨x,_,_,D⟩
   .rw[D]at g;cases g
   .rw[D]at z;cases z
 n i hi a f:=by rw[(m i).K]at f;exact⟨(h.n i hi a f).1,λk z=>by rw[(m k).r];exact(h.n i hi a f).2 k z⟩
end
structure gw(l:fc):Prop where
 c:∀b,l.O b->¬l.I b
 Y:∀a,l.r a->¬l.N a
 N:∀a,l.C a->¬l.M a.block
 fx:∀b,l.M b->b<l.w.heap.size
 I:∀a,l.C a->a.block<l.w.heap.size
 S:∀a,l.K a->¬l.M a.block/\a.block<l.w.heap.size/\¬l.r a
def iP.M{Live Y:Nat->Prop}{c:Nat->fc}(h:iP n Live Y c w qJ)(b:Live i):gw {c i with w:=w} where
 c:=h.m i b;Y:=h.g i b;N a ha hb:=h.I i b _ hb<|h.e i b a ha;fx:=h.fx i b;I a ha:=h.N _<|h.e i b a ha;S a ha:=⟨λq=>h.I i b _ q (h.n i b a ha).1,h.N _ (h.n i b a ha).1,(h.n i b a ha).2 i b⟩
abbrev Jd:=fc->Ó->Prop
inductive fh(P:Ö)(main:Bool)(Stop:Jd):Jd
 |fA {l:fc} {g:Ó} (h:∀w₁,fI l l.w w₁->Stop {l with w:=w₁} g):fh P main Stop l g
 |jv {l:fc} {g:Ó} (G':Ç->Ó) (W':Ç->Ç) (E':Ç->Array ă) (L':Ç->fc) (iH:g.status=Ð)
  (h:∀w₁,fI l l.w w₁->Ü P main g w₁=bl (G' w₁) (W' w₁) (E' w₁)) (hd:∀w₁,fI l l.w w₁->mo l (L' w₁) w₁ (W' w₁) (E' w₁))
  (ih:∀w₁,fI l l.w w₁->fh P main Stop (L' w₁) (G' w₁)):fh P main Stop l g
instance:Nonempty fc:=⟨⟨λ_=>False,λ_=>False,λ_=>False,λ_=>False,λ_=>False,0,False,default⟩⟩
instance:Nonempty (Goroutine×World×Array Event×fc):=⟨(default,default,#[],Classical.choice inferInstance)⟩
section
variable{main:Bool}{Stop m:Jd}
def fh.mk{l:fc}(i:g.status=Ð) (h:∀a,fI l l.w a->∃b c d e,Ü P main g a=bl b c d/\mo l e a c d/\fh P main Stop e b):fh P main Stop l g:=by
 let p:=λ(a:Ç) (x:Goroutine×World×Array Event×fc)=>Ü P main g a=bl x.1 x.2.1 x.2.2.1/\mo l x.2.2.2 a x.2.1 x.2.2.1/\fh P main Stop x.2.2.2 x.1
 have f:∀a,fI l l.w a->p a (Classical.epsilon<|p a):=λa r=>Classical.epsilon_spec (let⟨b,c,d,e,h⟩:=h a r;⟨(b,c,d,e),h⟩);exact .jv (λa=>(Classical.epsilon<|p a).1) (λa=>(Classical.epsilon<|p a).2.1) (λa=>(Classical.epsilon<|p a).2.2.1) (λa=>(Classical.epsilon<|p a).2.2.2) i (λa r=>(f a r).1) (λa r=>(f a r).2.1) λa r=>(f a r).2.2
def fh.jW{l:fc}{w₁:Ç}(h:fh P main Stop l g)(r:fI l l.w w₁):fh P main Stop {l with w:=w₁} g:=by
 have e:∀{a b:Ç},fI {l with w:=w₁} a b->fI l a b:=λq=>⟨q.r,q.I,q.N,q.Y,q.S⟩;cases h with
 |fA h=>exact .fA λc d=>h c<|r.ff<|e d
 |jv f i j m n h o p=>
  exact .jv f i j m n (λc d=>h c<|r.ff<|e d) (λc d=>let q:=o c<|r.ff<|e d;⟨q.C,q.S,q.fx,q.I,q.r,q.M,q.k,q.jO,q.N,q.Y,q.f,q.g,q.m,q.c,q.h,q.q,q.i,q.b⟩) λc d=>p c<|r.ff<|e d
def fh.fM(a:∀l g,Stop l g->m l g){l:fc}(h:fh P main Stop l g):fh P main m l g:=by
 induction h with
 |fA h=>exact .fA λb r=>a _ _<|h b r
 |jv b r c d e h f _ i=>exact .jv b r c d e h f i
def fh.ff{l:fc}(h:fh P main (fh P main Stop) l g):fh P main Stop l g:=by
 induction h with
 |fA h=>exact h _<|fI.fT _ _
 |jv a b c d e h f _ i=>exact .jv a b c d e h f i
def fh.lV(a:∀l g,Stop l g->fh P main m l g){l:fc}(h:fh P main Stop l g):fh P main m l g:=(h.fM a).ff
end
inductive gu where
 |fA:gu
 |jv (k:Ç->gu):gu
def W5(x:gu):gu->Prop
 |.fA=>False
 |.jv k=>∃w,x=k w
def W6:WellFounded W5:=⟨λa=>by
 induction a with
 |fA=>exact⟨_,λy h=>h.elim⟩
 |jv k b=>exact⟨_,λy ⟨w,h⟩=>h▸b w⟩⟩
def kX(P:Ö)(b:Bool)(c:Jd):gu->Jd
 |.fA,l,g=>∀a,fI l l.w a->c {l with w:=a} g
 |.jv k,l,g=>g.status=Ð/\∀a,fI l l.w a->∃d e f h,Ü P b g a=bl d e f/\mo l h a e f/\kX P b c (k a) h d
section
variable{main:Bool}{Stop:Jd}
theorem ji{l:fc}(h:fh P main Stop l g):∃tr,kX P main Stop tr l g:=by
 induction h with
 |fA h=>exact⟨.fA,h⟩
 |@jv l g G' W' E' L' iH h hd _ ih=>
  have b:∀a,∃tr,fI l l.w a->kX P main Stop tr (L' a) (G' a):=by
   intro a;by_cases r:fI l l.w a
   .grind
   .exact⟨.fA,λq=>absurd q r⟩
  refine⟨.jv λa=>Classical.choose<|b a,iH,λa r=>⟨G' a,W' a,E' a,L' a,h a r,hd a r,Classical.choose_spec (b a) r⟩⟩
end
theorem afV{l:fc}{b:Nat->Prop}(d:∀j,X j->l.O j)(f:∀j,b j->l.I j){e:ă}(h:Kz X b e):yn l e:=by
 rcases h with⟨a,c,g,i⟩|h|h
 .refine Å ⟨a,c,?_⟩;grind
 .exact Ì<|Å h
 .exact Ì<|Ì<|Å h
theorem afW{b:Nat->Prop}(h:∀e∈V,Kz X b e)(d:Nat):Ž d V=d:=by refine bH (λe c=> ?_) d;rcases h e c with⟨a,g,_⟩|h|⟨f,h⟩;all_goals grind
def gK{w':Ç}(h:w'.heap[a.block]?=w.heap[a.block]?):w'.cell? a=w.cell? a:=by unfold Ĩ;rw[h]
def wG(h:u.heap[a.block]?=w.heap[a.block]?):u.frozen? a=w.frozen? a:=by unfold Č;rw[h]
def afX{t:(Nat->Prop)->Ó->Ç->Prop}{O:Nat->Prop}(h:va P yQ X t O g w):∀l:fc,l.w=w->(∀j,O j->l.O j)->(∀j,X j->l.I j)->(∀j,l.O j->j<w.heap.size)->¬l.q-> fh P yQ (λa b=>∃f,t f b a.w/\(∀j,O j->f j)/\(∀j,f j->a.O j)/\(∀j,l.O j->a.O j)/\(∀j,a.O j->l.O j\/f j)/\(∀j,a.O j->l.O j\/w.heap.size<=j)/\a.I=l.I/\a.r=l.r/\a.N=l.N/\a.d=l.d/\a.q=l.q/\a.K=l.K) l g:=by
 induction h with
 |@fA O g w h=>
  intro l e i m _ _;refine .fA λb r=>⟨O,h b ⟨by rw[<-e];exact r.r,λj c=>by rw[r.I j (c.elim (λq=>Å<|i j q) λq=>Ì<|m j q),e]⟩,λ_ q=>q,i,λ_ q=>q,λ_ q=>Å q,λ_ q=>Å q,U,U,U,U,U,U⟩
 |@jv O g w G' W' E' f iH h hd _ ih=>
  intro l e i m C u;refine .mk iH λb r=> ?_;have n:yj (λj=>O j\/X j) w b:=⟨by rw[<-e];exact r.r,λj c=>by rw[r.I j (c.elim (λq=>Å<|i j q) λq=>Ì<|m j q),e]⟩;have D:=hd b n;have o:=n.r;have v:∀j,(l.O j\/f b j)->j<(W' b).heap.size:=λj c=>c.elim (λq=>Ô (C j q)<|û o D.r)<|D.fx j;have p:∀j,j<b.heap.size->¬l.O j->(W' b).heap[j]?=b.heap[j]?:=λj c k=>D.jO j c λq=>k<|i j q;refine⟨G' b,W' b,E' b,{l with O:=λj=>l.O j\/f b j,w:=W' b},h b n,⟨D.r,λj c=>c.elim Å λq=>(D.I j q).imp (i j) id,v,U,U,U,U,λj c k _=>p j c k,λa s k _=>gK<|p _ s k,λa s k=>wF<|p _ s k,D.N,D.S,D.Y,λx E=>afV (l:={l with O:=λj=>l.O j\/f b j,w:=W' b}) (λj q=>Ì q) m<|D.C x E,(afW D.C _).symm,U,λq=>absurd q u,U⟩,?_⟩;have:=ih b n {l with O:=λj=>l.O j\/f b j,w:=W' b} U (λj q=>Ì q) m v u;apply this.fM;rintro N Q ⟨F,G,B,H,I,J,L,M⟩;refine⟨F,G,λj q=>B j<|D.M j q,H,λj q=>I j<|Å q,λj q=> ?_,λj q=> ?_,M⟩
  .rcases J j q with(z|z)|z
   .exact Å z
   .exact Ì<|B j z
   .exact Ì z
  .rcases L j q with(z|z)|z
   .exact Å z
   .rcases D.I j z with y|y
    .exact Å<|i j y
    .exact Ì<|û o y
   .exact Ì<|û (û o D.r) z
def kx(a:Û):ă:=⟨ā a,Â,È⟩
def mM(a:Û):ă:=⟨ā a,È,È⟩
def jw(m:Mark):ă:=⟨ſ m,Â,È⟩
def fX:Int:=4294967296
def Ei(c:Nat):Array ă:=#[⟨.obj c,Â,È⟩,⟨.obj c,È,È⟩]
section
variable(P:Ö)(main:Bool)
def G8(m:Mark)(N:Jd):Jd:=λl g=>g.status=Ð/\∃a,(∀b,Ü P main g b=bl a b #[jw m])/\fh P main N l a
def W7(a:Û)(N:Int->Jd):Jd:=λl g=>g.status=Ð/\∀v,∃c,(∀b:Ç,b.cell? a=À (ď è v)->Ü P main g b=bl c b #[kx a])/\fh P main (N v) l c
def Pv(a:Û)(d:Int)(N:Int->Jd):Jd:=λl g=>g.status=Ð/\∀v,∃c,(∀b:Ç,b.cell? a=À (ď è v)->b.frozen? a=Â->Ü P main g b=bl c (b.setCell a<|ď è<|è.wrap<|v+d) #[kx a,mM a])/\N (è.wrap<|v+d) l c
def afY(a:Û)(v:Int)(N:Jd):Jd:=λl g=>g.status=Ð/\∃c,(∀(b:Ç) (x:Int),b.cell? a=À (ď è x)->b.frozen? a=Â->Ü P main g b=bl c (b.setCell a<|ď è v) #[mM a])/\fh P main N l c
def afZ(a:Û)(N:Jd):Jd:=λl g=>g.status=Ð/\g.offers=ì/\(∀b:Ç,b.cell? a=À (ď Ŧ 0)->Ü P main g b=bl {g with status:=ž} b #[])/\
 ∃c,(∀(b:Ç) (n:Int),n≠0->b.cell? a=À (ď Ŧ n)->b.frozen? a=Â->Ü P main g b=bl c (b.setCell a<|ď Ŧ<|n-1) (semEvents a))/\fh P main N l c
def af0(a:Û)(N:Jd):Jd:=λl g=>g.status=Ð/\mayWake P g=È/\∃c,c.status=Ð/\(∀(b:Ç) (n:Int),b.cell? a=À (ď Ŧ n)->b.frozen? a=Â->Ü P main g b=bl c (b.setCell a<|ď Ŧ<|Ŧ.wrap<|n+1) (semEvents a))/\N l c
def wH(c:Nat)(z:Ã)(N:Option Ã->Jd):Jd:=λl g=>g.status=Ð/\g.offers=ì/\(∀x,Ü P main g x=.comm g #[ω c z] È (.recv È) x #[])/\
 ∀x:Option Ã,fh P main (N x) l {g with frame:=g.frame.finish (Ο #[x.getD z,Ň x.isSome])}
def As(c:Nat)(v:Ã)(N:Jd):Jd:=λl g=>g.status=Ð/\g.offers=ì/\(∀a,∃b,Ü P main g a=.comm g #[scase c v b] È .send a #[])/\fh P main N l {g with frame:=g.frame.finish ň}
def KN(c:Nat)(N:Jd):Jd:=λl g=>g.status=Ð/\mayWake P g=È/\∃a,a.status=Ð/\(∀(b:Ç) cap buf s r tm,b.heap[c]?=À (ay cap buf Â s r tm)->Ü P main g b=bl a (b.setChan c cap buf È s r tm) (Ei c))/\fh P main N l a
def oC(n:Nat):Jd:=λl g=>QuitsD P n l.d g
inductive SP where
 |fZ (n:Nat)
 |ld (v:Int) (m:Nat)
def Ej(a:Û)(B:Nat)(d e:Int->Jd)(p:SP):Jd:=λl g=>∃T:SP->Ó->Prop,T p g/\∀p g,T p g->g.status=Ð/\match p with
 |.fZ (n+1)=>n+1<=B/\(T (.fZ 0) g\/∀b,∃c,Ü P main g b=bl c b #[]/\T (.fZ n) c)
 |.fZ 0=>∀v,∃c,(∀b:Ç,b.cell? a=À (ď è v)->Ü P main g b=bl c b #[kx a])/\(if 0<=v/\v<fX then v<1000000->fh P main (d v) l c else(fX<=v/\v<fX*2147483648/\v%fX<1000000)->∃m,m<=B/\T (.ld v m) c)
 |.ld v (m+1)=>fX<=v/\m+1<=B/\(T (.ld v 0) g\/∀b,∃c,Ü P main g b=bl c b #[]/\T (.ld v m) c)
 |.ld v 0=>fX<=v/\(∃c,(∀b:Ç,b.cell? a=À (ď è v)->b.frozen? a=Â->Ü P main g b=bl c (b.setCell a<|ď è<|è.wrap<|v+1) #[kx a,mM a])/\fh P main (e v) l c)/\
  ∃c,(∀(b:Ç) (x:Int),x≠v->b.cell? a=À (ď è x)->b.frozen? a=Â->Ü P main g b=bl c b #[kx a])/\∃n,n<=B/\T (.fZ n) c
end
section
variable{P:Ö}{main:Bool}
def KO{e f:Int->Jd}{p:SP}{l:fc}{w₁:Ç}(h:Ej P main a i e f p l g)(r:fI l l.w w₁):Ej P main a i e f p {l with w:=w₁} g:=by
 let⟨T,o,h⟩:=h;refine⟨T,o,λp g j=>⟨(h p g j).1,?_⟩⟩;have:=(h p g j).2;match p,this with
 |.fZ (n+1),q=>exact q
 |.fZ 0,q=>
  intro v;let⟨c,d,b⟩:=q v;refine⟨c,d,?_⟩;by_cases k:0<=v/\v<fX
  .rw[if_pos k]at b|-;exact λq=>(b q).jW r
  .rw[if_neg k]at b|-;exact b
 |.ld v (m+1),q=>exact q
 |.ld v 0,⟨q0,⟨c,d,b⟩,q⟩=>exact⟨q0,⟨c,d,b.jW r⟩,q⟩
end
inductive iw where
 |no|iy|sG (c:Nat) (z:Ã)
inductive wI(g0:Ó):iw->Ó->Prop
 |gk {k:iw}:wI g0 k g0
 |nP (h:g0.status=Ð) (ho:g0.offers=ì):wI g0 .iy {g0 with status:=ž}
 |tK (c:Nat) (z:Ã) (h:g0.status=Ð):wI g0 (.sG c z) (Χ g0 #[ω c z]<|.recv È)
 |ni (c:Nat) (z:Ã) (h:g0.status=Ð):wI g0 (.sG c z) {Χ g0 #[ω c z] (.recv È)with status:=Ð}
section
variable{P:Ö}
theorem af2(h:g.status=Ð\/g.status=Ħ)(w:Ç):g.again w=g:=by unfold ae;grind
def Px{a o:Ó}(h:o.status=Ð\/o.status=Ħ):Ų P g a w o=o:=by
 unfold Ų;split
 .exact af2 h _
 .rfl
def wI.G9{g0 a b:Ó}{k:iw}(h:wI g0 k g)(d:g0.status=Ð\/g0.status=Ħ):wI g0 k (Ų P a b w g):=by
 cases h with
 |gk=>rw[Px d];exact .gk
 |nP h c=>
  unfold Ų;split
  .have:ae w {g0 with status:=ž}=g0:=by
    let⟨z,e,st,f,i⟩:=g0;simp only at h c;subst h c;rfl
   rw[this];exact .gk
  .exact .nP h c
 |tK c z h=>
  unfold Ų;split
  .unfold ae Χ;simp only[];split
   .exact .ni c z h
   .exact .tK c z h
  .exact .tK c z h
 |ni c z h=>
  rw[Px<|Å U];exact .ni c z h
end
structure gL(P:Ö)(B0:Nat)(Y:Nat->Prop)(S:Nat->Jd)(tr:Nat->gu)(kp:Nat->iw)(lot:Nat->fc)(gs:Array Ó)(w:Ç)(t:ħ):Prop where
 r:iP B0 (λi=>i<gs.size) Y lot w t
 C:∀i g,gs[i]?=À g->∃g0,kX P (i==0) (S i) (tr i) (lot i) g0/\wI g0 (kp i) g/\(g0.status=Ð\/g0.status=Ħ)/\(g=g0\/tr i=.fA)
 I:∀j,gs.size<=j->ρ t j=0
def fw{α:Type}(f:Nat->α)(i:Nat)(x:α):Nat->α:=λk=>if k=i then x else f k
def gC{α:Type}(f:Nat->α)(i:Nat)(x:α):fw f i x i=x:=if_pos U
def fH{α:Type}(f:Nat->α)(x:α)(h:k≠i):fw f i x k=f k:=if_neg h
section
variable{P:Ö}{B0:Nat}{Y:Nat->Prop}{S:Nat->Jd}{tr:Nat->gu}{kp:Nat->iw}{lot:Nat->fc}{gs:Array Ó}{w':Ç}{t:ħ}{sl:Option (Nat×Nat)}
theorem Py{a:Ó}(b:gs[i]?=À g)(h:Ü P (i==0) g w=bl a w' V): ∃gs',dp P (ŀ gs w sl) i=(ŕ<|ŀ gs' w' sl,Î i g.frame.fn g.frame.place V)/\gs'.size=gs.size/\gs'[i]?=À a/\∀k,k≠i->gs'[k]?=gs[k]?.map (Ų P g a w'):=by refine⟨_,runT_crowd_go b h,fj,by simp[(Ë.1 b).1],λk c=> ?_⟩;grind
def gL.at(a:gL P B0 Y S tr kp lot gs w t)(d:Nat):gL P B0 Y S tr kp lot gs (w.at d) t:=⟨a.r.at d,a.C,a.I⟩
theorem gL.W8(h:gL P B0 Y S tr kp lot gs w t){a:Ó}{J:Jd}{T:gu}{K:iw}{d:fc}(l:gs[i]?=À g)(o:Ü P (i==0) g w=bl a w' V) (B:iP B0 (λi=>i<gs.size) Y (gq lot i d) w' (t++Î i g.frame.fn g.frame.place V)) (hF:kX P (i==0) J T d a) (p:a.status=Ð\/a.status=Ħ): ∃b,dp P (ŀ gs w sl) i=(ŕ<|ŀ b w' sl,Î i g.frame.fn g.frame.place V)/\b.size=gs.size/\b[i]?=À a/\(∀k,k≠i->b[k]?=gs[k]?.map (Ų P g a w'))/\ gL P B0 Y (fw S i J) (fw tr i T) (fw kp i K) (gq lot i d) b w' (t++Î i g.frame.fn g.frame.place V):=by
 obtain⟨b,q,r,m,n⟩:=Py l o;have C:=(Ë.1 l).1;refine⟨b,q,r,m,n,?_,λk x c=> ?_,λj D=> ?_⟩
 .grind
 .by_cases e:k=i
  .subst e;rw[m]at c;obtain rfl:=Ĭ c;rw[gC,gC,gC,gT];exact⟨a,hF,.gk,p,Å U⟩
  .rw[n k e]at c;obtain⟨y,s,rfl⟩:=ī.1 c;rw[fH S _ e,fH tr _ e,fH kp _ e,gH lot _ e];let⟨g0,u,v,f,z⟩:=h.C k y s;refine⟨g0,u,v.G9 f,f,z.imp (λe=> ?_) id⟩;subst e;exact Px f
 .rw[Pu Z t n5];exact h.I j Z
def af3{J:Jd}{k:Ç->gu}{l:fc}(h:kX P yQ J (.jv k) l g):g.status=Ð:=h.1
def gL.fp(f:gL P B0 Y S tr kp lot gs w t){k:Ç->gu}(m:gs[i]?=À g)(n:tr i=.jv k)(s:∀l g,S i l g->g.status=Ð\/g.status=Ħ): ∃c w' d h,dp P (ŀ gs w sl) i=(ŕ<|ŀ c w' sl,Î i g.frame.fn g.frame.place d)/\c.size=gs.size/\(∃b,c[i]?=À b/\(b.status=Ð\/b.status=Ħ))/\(∀k,k≠i->∃a j:Ó,c[k]?=gs[k]?.map (Ų P a j w'))/\mo (lot i) h w w' d/\ gL P B0 Y S (fw tr i<|k w) kp (gq lot i h) c w' (t++Î i g.frame.fn g.frame.place d):=by
 have o:=(Ë.1 m).1;let⟨g0,hF,F,_,u⟩:=f.C i g m;obtain rfl:g=g0:=u.resolve_right (by rw[n];simp);rw[n]at hF;let⟨G,hF⟩:=hF;let⟨b,w',d,h,v,p,e⟩:=hF w<|f.r.r i o;have q:b.status=Ð\/b.status=Ħ:=by
  cases j:k w with
  |fA=>rw[j]at e;exact s _ _<|e _<|fI.fT _ _
  |jv r=>rw[j]at e;exact Å e.1
 obtain⟨c,x,y,z,B,r⟩:=f.W8 m v (f.r.afT o p _ _) e q;refine⟨c,w',d,h,x,y,⟨b,z,q⟩,λj C=>⟨g,b,B j C⟩,p,?_⟩;have D:fw S i (S i)=S:=by funext j;unfold fw;split<;>simp[*]
 have E:fw kp i (kp i)=kp:=by funext j;unfold fw;split<;>simp[*]
 rwa[D,E]at r
theorem gL.qF(c:gL P B0 Y S tr kp lot gs w t){a:Ó}{J:Jd}{K:iw}{T:gu}(l:gs[i]?=À g)(m:Ü P (i==0) g w=bl a w' V)(n:pM (λi=>i<gs.size) Y lot w w') (hF:kX P (i==0) J T {lot i with d:=Ž (lot i).d V,w:=w'} a) (o:a.status=Ð\/a.status=Ħ) (p:∀e∈V,(∀b,(ê e).touch?=À b->G7 (λi=>i<gs.size) Y lot b)/\(ê e).low w.heap.size) (q:∀r,¬eR r (t++Î i g.frame.fn g.frame.place V)): ∃gs',dp P (ŀ gs w sl) i=(ŕ<|ŀ gs' w' sl,Î i g.frame.fn g.frame.place V)/\gs'.size=gs.size/\gs'[i]?=À a/\(∀k,k≠i->gs'[k]?=gs[k]?.map (Ų P g a w'))/\ gL P B0 Y (fw S i J) (fw tr i T) (fw kp i K) (gq lot i {lot i with d:=Ž (lot i).d V,w:=w'}) gs' w' (t++Î i g.frame.fn g.frame.place V):=by
 refine c.W8 l m (c.r.G (λk=> ?_) n (λh f b j=> ?_) (λh f=> ?_) q λk h=> ?_) hF o
 .by_cases e:k=i
  .subst e;rw[gT];exact⟨U,U,U,U,U,Ì U⟩
  .rw[gH lot _ e];exact vh.fT _ _
 .obtain⟨e,j,rfl⟩:=î f;grind
 .obtain⟨e,j,rfl⟩:=î f;exact(p e j).2
 .by_cases e:k=i
  .subst e;rw[gT,Deaf_own,c.r.f k h]
  .rw[gH lot _ e,Pu e t n5];exact c.r.f k h
def gL.Pz(h:gL P B0 Y S tr kp lot gs w t)(p:gs[i]?=À g)(x:i≠0)(l:g.status=Ð)(q:kp i=.no)(y:tr i=.fA)(z:S i=oC P n): ∃c f b,n=b+1/\dp P (ŀ gs w sl) i=(ŕ<|ŀ c w sl,Î i g.frame.fn g.frame.place f)/\c.size=gs.size/\(∀k,k≠i->∃a e:Ó,c[k]?=gs[k]?.map (Ų P a e w))/\(∀e∈f,e.mute=È)/\ gL P B0 Y (fw S i<|oC P b) tr kp (gq lot i {lot i with d:=Ž (lot i).d f,w:=w}) c w (t++Î i g.frame.fn g.frame.place f):=by
 let⟨g0,hF,r,L,_⟩:=h.C i g p;have B:g=g0:=by
  rw[q]at r;cases r with
  |gk=>rfl
 subst B;rw[y,z]at hF;have s:=hF w<|h.r.r i<|(Ë.1 p).1;cases n with
 |zero=>rw[s.1]at l;cases l
 |succ n=>
  rcases s with⟨C,_⟩|⟨_,D,f,a,E,u⟩
  .rw[C]at l;cases l
  have m:(i==0)=Â:=by simpa using x
  have F:fw kp i .no=kp:=by funext j;unfold fw;split<;>simp[*]
  have G:fw tr i .fA=tr:=by funext j;unfold fw;split<;>simp[*]
  obtain⟨c,H,I,_,K,v⟩:=h.qF (J:=oC P n) (T:=.fA) p (by rw[m];exact E w) (pM.fT _ _ _ _) (λ_ _=>u) u.status (λe o=>⟨λb m=>(by rw[eE<|a e o]at m;cases m),low_mute (a e o) _⟩) (Ar h.r.l λM b=>by obtain⟨e,o,rfl⟩:=î b;exact eE<|a e o);rw[F,G]at v;exact⟨c,f,n,U,H,I,λk q=>⟨g,D,K k q⟩,a,v⟩
end
def wK(u:ħ):Prop:=∀a∈u,a.act.touch?=ì/\∀m,a.act≠ŧ m
theorem af4(t:ħ)(a:dq)(b:a.act≠ŧ cX)(c:a.act≠ŧ dJ)(j:Nat):ρ (t.push a) j=ρ t j:=by
 have d:t.push a=t++#[a]:=fj
 unfold ρ;rw[d,show(t++#[a]).size=t.size+1 by simp];show(match(t++#[a])[t.size]? with
  |some {g:=h,act:=ŧ cX, .. }=>if h=j then(t++#[a]).deaf j t.size+1 else(t++#[a]).deaf j t.size
  |some {g:=h,act:=ŧ dJ, .. }=>if h=j then(t++#[a]).deaf j t.size-1 else(t++#[a]).deaf j t.size
  |_=>(t++#[a]).deaf j t.size)=_
 have e:(t++#[a])[t.size]?=À a:=fj
 rw[e];let⟨g,f,i,k⟩:=a;simp only at b c;split
 .grind
 .grind
 .exact c9<|à _
def W9(t:ħ):∀(u:List dq),(∀a∈u,a.act≠ŧ cX/\a.act≠ŧ dJ)->∀j,ρ (t++u.toArray) j=ρ t j
 |[],_,j=>by simp
 |a::u,h,j=>by
  have e:t++(a::u).toArray=(t.push a)++u.toArray:=by apply Array.ext';simp
  rw[e,W9 (t.push a) u (λx b=>h x<|by simp[b]) j];exact af4 t a (h a fj).1 (h a fj).2 j
def KP{u:ħ}(h:wK u)(j:Nat):ρ (qJ++u) j=ρ qJ j:=by have:=W9 qJ u.toList (λa b=>⟨(h a<|by simpa using b).2 _,(h a<|by simpa using b).2 _⟩) j;simpa using this
section
variable{S:Nat->Jd}{C:Nat->gu}{B:Nat->iw}{lot:Nat->fc}{u:ħ}{sl:Option (Nat×Nat)}
def iP.af5{Live:Nat->Prop}(h:iP i Live X lot w qJ)(f:pM Live X lot w W)(c:wK u)(g:∀a∈u,a.act.low w.heap.size):iP i Live X lot W (qJ++u):= h.G (λk=>vh.fT _ _) f (λa d b e=>by rw[(c a d).1]at e;cases e) g (Ar h.l λa d=>(c a d).1) λk b=>by rw[KP c];exact h.f k b
def KQ{Live:Nat->Prop}{r:Nat}{x:Bool}(y:X i)(p:w.heap[i]?=À (ay n d yQ j r x))(f g h:Nat)(l:Array Ã)(m o:Bool):pM Live X lot w (w.setChan i f l m g h o):=by
 have q:∀b,b≠i->(w.setChan i f l m g h o).heap[b]?=w.heap[b]?:=λb u=>by unfold aI;simp only;exact Ï<|Ċ u
 have v:(w.setChan i f l m g h o).heap[i]?=À (ay f l m g h o):=by unfold aI;simp[(Ë.1 p).1]
 refine⟨by unfold aI;simp,λb u=>q b λe=>u<|e▸y,λk _ a _=> ?_,λk _ a _=> ?_,λa t=> ?_⟩
 .by_cases e:a.block=i
  .unfold Ĩ;rw[e,v,p]
  .unfold Ĩ;rw[q _ e]
 .by_cases e:a.block=i
  .unfold Č;rw[e,v,p]
  .unfold Č;rw[q _ e]
 .by_cases e:a.block=i
  .unfold Ĩ at t;rw[e,p]at t;cases t
  .have:(w.setChan i f l m g h o).cell? a=w.cell? a:=by unfold Ĩ;rw[q _ e]
   rwa[this]
def gL.G(b:gL P i X S C B lot E w qJ){J:Jd}{T:gu}{K:iw}(d:n<E.size)(f:pM (λn=>n<E.size) X lot w W)(c:wK u)(h:∀l∈u,l.act.low w.heap.size) (hF:kX P (n==0) J T (lot n) g) (m:g.status=Ð\/g.status=Ħ): gL P i X (fw S n J) (fw C n T) (fw B n K) lot (E.setIfInBounds n g) W (qJ++u):=by
 refine⟨?_,λk x a=> ?_,λj o=> ?_⟩
 .rw[show(λj=>j<(E.setIfInBounds n g).size)=(λj=>j<E.size) by simp];exact b.r.af5 f c h
 .by_cases e:k=n
  .subst e;rw[Ò d]at a;obtain rfl:=Ĭ a;rw[gC,gC,gC];exact⟨_,hF,.gk,m,Å U⟩
  .rw[Ï<|Ċ e]at a;rw[fH S _ e,fH C _ e,fH B _ e];exact b.C k x a
 .rw[KP c];exact b.I j<|by simpa using o
def PE{γ δ:Type}{f:γ->List δ}:∀{l:List γ},(∀x∈l,f x=[])->l.flatMap f=[]
 |[],_=>rfl
 |x::l,h=>by rw[bq,h x fj,PE λy a=>h y (by simp[a])];rfl
def yo(r:Nat)(b:Bool)(g:Ó):Prop:=g.status=ž/\∃a d,g.offers=À (a,d)/\∃c∈a,(c.send.isSome==b)=È/\(match c.chan with|eG (À r')=>r'==r|_=>Â)=È
theorem Xa{r:Nat}{E:Array Ó}(h:∀(i:Nat) (g:Ó),E[i]?=À g->¬yo r yQ g):ε E r yQ=[]:=by
 unfold ε;refine PE λx m=> ?_;let⟨g,i⟩:=x;have d:E[i]?=À g:=by grind
 simp only[];split
 .rename_i b e f j;rw[aF,ς];intro y n a;let⟨c,k⟩:=y;have l:c∈b:=by
   grind
  simp only[Ģ]at a;exact h i g d ⟨f,b,e,j,c,l,a.1,by have:=a.2;revert this;cases c.chan<;>first|exact id|(rename_i q;cases q<;>exact id)⟩
 .rfl
def Xb{γ δ:Type}(f:γ×Nat->List δ):∀(L:List γ) (n h:Nat) (x:γ),(∀y k,k≠h->(y,k)∈L.zipIdx n->f (y,k)=[])->n<=h->L[h-n]?=À x->(L.zipIdx n).flatMap f=f (x,h)
 |[],n,h,x,_,_,hx=>by simp at hx
 |a::L,n,h,x,hf,hn,hx=>by
  rw[ĵ,bq];by_cases e:h=n
  .subst e;have:a=x:=by simpa using hx
   subst this;rw[PE ?_,List.append_nil];intro y b;let⟨y,k⟩:=y;refine hf y k ?_ (by rw[ĵ];exact ô _ b);have:=List.le_snd_of_mem_zipIdx b;simp only at this;omega
  .rw[hf a n Z (by rw[ĵ];exact ï ..),List.nil_append];refine Xb f L (n+1) h x (λy k c b=>hf y k c<|by rw[ĵ];exact ô _ b) Z ?_;have b:h-n=(h-(n+1))+1:=Z
   rw[b]at hx;simpa using hx
theorem af6{E:Array Ó}(l:E[n]?=À g)(m:g.status=ž)(o:g.offers=À (#[ω i z],.recv È))(p:∀(a:Nat) (b:Ó),a≠n->E[a]?=À b->¬yo i Â b):ε E i Â=[(n,0)]:=by
 unfold ε;have e:E.zipIdx.toList=E.toList.zipIdx:=fj
 rw[e];rw[Xb _ E.toList 0 n g (λy k r B=> ?_) (dL _) (by simpa using l)]
 .simp[m,o,ω]
 .have s:E[k]?=À y:=by
   grind
  simp only[];split
  .rename_i j t u v;rw[aF,ς];intro x C d;let⟨f,D⟩:=x;have w:f∈j:=by
    grind
   simp only[Ģ]at d;exact p k y r s ⟨u,j,t,v,f,w,d.1,by have:=d.2;revert this;cases f.chan<;>first|exact id|(rename_i q;cases q<;>exact id)⟩
  .rfl
theorem PF(h:(E.setIfInBounds i ph)[k]?=À g):g.status=Ħ\/(k≠i/\E[k]?=À g):=by
 by_cases e:k=i
 .subst e;rw[ũ]at h;simp only[if_true]at h;split at h
  .left;obtain rfl:=Ĭ h;rfl
  .cases h
 .grind
theorem gL.PG(l:gL P i X S C B lot E w qJ)(c a:Nat):ε (E.setIfInBounds a ph) c È=[]:=by
 refine Xa λk x m=> ?_;rintro⟨d,p,r,b,n,f,o,_⟩;rcases PF m with q|⟨_,q⟩
 .grind
 .let⟨g0,_,g,j,_⟩:=l.C k x q;generalize B k=K at g;cases g with
  |gk=>rw[d]at j;rcases j with e|e<;>cases e
  |nP h e=>simp only[e]at b;cases b
  |tK e z h=>
   simp only[Χ,Ξ,Prod.mk.injEq]at b;rw[<-b.1]at f;have:n=ω e z:=by simpa using f
   subst this;cases o
  |ni e z h=>cases d
def gL.PH(e:gL P i X S C B lot E w qJ){N:Option Ã->Jd}(f:E[n]?=À g)(k:g.status=Ð)(l:B n=.sG j z)(m:C n=.fA)(o:S n=wH P (n==0) j z N): ∃a,kX P (n==0) (S n) (C n) (lot n) a/\a.status=Ð/\a.offers=ì/\Ü P (n==0) g w=.comm a #[ω j z] È (.recv È) w #[]/\∀x:Option Ã,fh P (n==0) (N x) (lot n) {a with frame:=a.frame.finish (Ο #[x.getD z,Ň x.isSome])}:=by
 let⟨a,hF,b,_,_⟩:=e.C n g f;have p:=hF;rw[o,m]at hF;let⟨x,q,d,r⟩:=hF _<|fI.fT _ _;rw[l]at b;refine⟨a,p,x,q,?_,r⟩;cases b with
 |gk=>exact d w
 |tK j z h=>cases k
 |ni j z h=>rw[stepG_tries];rw[show({a with status:=Ð}:Ó)=a by cases a;simp only at x;subst x;rfl];exact d w
def yp{g0:Ó}{a:Array CommCase}{b:CommShape}{ok:Bool}(c:g0.status=Ð)(d:g0.offers=ì):g0.finishComm P a b h v ok={g0 with frame:=g0.frame.finish (commResult a b h v ok)}:=by let⟨f,a,st,e,o⟩:=g0;simp only at c d;subst c d;rfl
def gL.nj(e:gL P i X S C B lot E w qJ){N:Option Ã->Jd}(h:E[n]?=À g)(G:g.status=Ð)(l:B n=.sG j z)(H:C n=.fA)(I:S n=wH P (n==0) j z N)(p:X j){r:Nat}{o:Bool}(q:w.heap[j]?=À (ay b d yQ m r o))(t:d[0]?=À v)(K:iw): ∃a u T f,dp P (ŀ E w sl) n=(ŕ<|ŀ a (w.setChan j b (d.extract 1 d.size) yQ m (r+1) o) sl,u)/\a.size=E.size/\a[n]?=À f/\f.status=Ð/\(∀k,k≠n->a[k]?=E[k]?)/\wK u/\ gL P i X (fw S n<|N<|À v) (fw C n T) (fw B n K) lot a (w.setChan j b (d.extract 1 d.size) yQ m (r+1) o) (qJ++u):=by
 have x:=(Ë.1 h).1;let⟨g0,_,f,y,J,L⟩:=e.PH h G l H I;have D:d.getD 0 ň=v:=by simp[İ,t]
 have M:=crowd_recv_buf (sl:=sl) h J q ((Ë.1 t).1)<|e.PG j n;let⟨T,O⟩:=ji<|L<|À v;refine⟨_,_,T,{g0 with frame:=g0.frame.finish (Ο #[v,Ň È])},M,fj,?_,f,λk l=>Ï<|Ċ l,?_,?_⟩
 .rw[yp f y,D,Ò x];rfl
 .intro F a;simp[Î]at a;rcases a with rfl|rfl<;>exact⟨U,fj⟩
 .rw[yp f y,D];refine e.G x (KQ p q _ _ _ _ _ _) ?_ ?_ O<|Å f
  .intro F a;simp[Î]at a;rcases a with rfl|rfl<;>exact⟨U,fj⟩
  .intro F a;simp[Î]at a;rcases a with rfl|rfl<;>exact e.r.N j p
def gL.je(e:gL P i X S C B lot E w qJ){N:Option Ã->Jd}(h:E[n]?=À g)(q:g.status=Ð)(l:B n=.sG j z)(t:C n=.fA)(v:S n=wH P (n==0) j z N)(x:X j){r:Nat}(y:w.heap[j]?=À (ay b #[] È k r yQ))(K:iw): ∃d u T f,dp P (ŀ E w sl) n=(ŕ<|ŀ d w sl,u)/\d.size=E.size/\d[n]?=À f/\f.status=Ð/\(∀a,a≠n->d[a]?=E[a]?)/\wK u/\ gL P i X (fw S n<|N ì) (fw C n T) (fw B n K) lot d w (qJ++u):=by
 have m:=(Ë.1 h).1;let⟨g0,_,f,o,D,F⟩:=e.PH h q l t v;let⟨T,G⟩:=ji<|F ì;refine⟨_,_,T,{g0 with frame:=g0.frame.finish (Ο #[z,Ň Â])},crowd_recv_closed (sl:=sl) h D y<|e.PG j n,fj,?_,f,λa l=>Ï<|Ċ l,?_,?_⟩
 .rw[yp f o,Ò m];rfl
 .intro p d;simp[Î]at d;subst d;exact⟨U,fj⟩
 .rw[yp f o];refine e.G m (pM.fT _ _ _ _) ?_ ?_ G<|Å f
  .intro p d;simp[Î]at d;subst d;exact⟨U,fj⟩
  .intro p d;simp[Î]at d;subst d;exact e.r.N j x
def gL.af7(f:gL P i X S C B lot E w qJ){N:Option Ã->Jd}(m:E[n]?=À g)(u:g.status=Ð)(h:B n=.sG j z)(o:C n=.fA)(v:S n=wH P (n==0) j z N){r:Nat}(p:w.heap[j]?=À (ay b #[] Â k r yQ)): ∃d e,dp P (ŀ E w sl) n=(ŕ<|ŀ d w sl,#[])/\d.size=E.size/\d[n]?=À e/\e.status=ž/\(∀a,a≠n->d[a]?=E[a]?)/\gL P i X S C B lot d w qJ:=by
 have q:=(Ë.1 m).1;let⟨g0,hF,t,G,y,H⟩:=f.PH m u h o v;have D:=crowd_waits (sl:=sl) m y (λd e=>by
  have:d=ω j z:=by simpa using e
  subst this;exact⟨by simp[illMade,ω,p],by simp[ways,ω,p,f.PG j n]⟩)
 refine⟨_,Χ g0 #[ω j z]<|.recv È,?_,fj,Ò q,U,λa h=>Ï<|Ċ h,?_,λa x l=> ?_,λd F=>f.I d<|by simpa using F⟩
 .rw[D];rfl
 .rw[show(λd=>d<(E.setIfInBounds n<|Χ g0 #[ω j z]<|.recv È).size)=(λd=>d<E.size) by simp];exact f.r
 .by_cases e:a=n
  .subst e;rw[Ò q]at l;obtain rfl:=Ĭ l;refine⟨g0,hF,?_,Å t,Ì o⟩;rw[h];exact .tK j z t
  .rw[Ï<|Ċ e]at l;exact f.C a x l
def gL.iI(f:gL P i X S C B lot E w qJ){N:Jd}(h:E[n]?=À g)(l:B n=.no)(F:C n=.fA)(G:S n=As P (n==0) b v N)(p:X b){r:Nat}(t:w.heap[b]?=À (ay m d Â J r yQ))(H:d.size<m) (I:∀(k:Nat) (x:Ó),E[k]?=À x->¬yo b Â x): ∃e u T a,dp P (ŀ E w sl) n=(ŕ<|ŀ e (w.setChan b m (d.push v) Â (J+1) r yQ) sl,u)/\e.size=E.size/\e[n]?=À a/\a.status=Ð/\(∀k,k≠n->e[k]?=E[k]?)/\wK u/\ gL P i X (fw S n N) (fw C n T) B lot e (w.setChan b m (d.push v) Â (J+1) r yQ) (qJ++u):=by
 have y:=(Ë.1 h).1;let⟨g0,hF,z,_,_⟩:=f.C n g h;rw[l]at z;cases z with
 |gk=>
  rw[G,F]at hF;let⟨a,D,o,K⟩:=hF _<|fI.fT _ _;let⟨V,o⟩:=o w;have L:ε (E.setIfInBounds n ph) b Â=[]:=Xa λk x M=>by
   rcases PF M with q|⟨_,q⟩
   .rintro⟨e,_⟩;rw[q]at e;cases e
   .exact I k x q
  let⟨T,O⟩:=ji K;have Q:fw B n .no=B:=by funext j;unfold fw;split<;>simp[*]
  refine⟨_,_,T,{g with frame:=g.frame.finish ň},crowd_send_room (sl:=sl) h o t H L,fj,?_,a,λk l=>Ï<|Ċ l,?_,?_⟩
  .rw[yp a D,Ò y];rfl
  .intro q e;simp[Î]at e;rcases e with rfl|rfl<;>exact⟨U,fj⟩
  .rw[yp a D,<-Q];refine f.G y (KQ p t _ _ _ _ _ _) ?_ ?_ O<|Å a
   .intro q e;simp[Î]at e;rcases e with rfl|rfl<;>exact⟨U,fj⟩
   .intro q e;simp[Î]at e;rcases e with rfl|rfl<;>exact f.r.N b p
def gL.af8(o:gL P i X S C B lot E w qJ){p:Ó}{N:Jd}{D:Option Ã->Jd}(F:E[n]?=À g)(f:B n=.no)(ht:C n=.fA)(hs:S n=As P (n==0) b v N)(L:X b){r:Nat}(M:w.heap[b]?=À (ay J d Â j9 r yQ)) (G:j≠n) (t:E[j]?=À p) (O:p.status=ž) (KR:B j=.sG b z) (PK:C j=.fA) (KS:S j=wH P (j==0) b z D) (K:iw) (hp:∀(k:Nat) (x:Ó),k≠j->E[k]?=À x->¬yo b Â x): ∃e u T y h q,dp P (ŀ E w sl) n=(ŕ<|ŀ e (w.setChan b J d Â (j9+1) (r+1) yQ) sl,u)/\e.size=E.size/\e[n]?=À h/\h.status=Ð/\e[j]?=À q/\q.status=Ð/\(∀k,k≠n->k≠j->e[k]?=E[k]?)/\wK u/\ gL P i X (fw (fw S j<|D<|À v) n N) (fw (fw C j y) n T) (fw (fw B j K) n .no) lot e (w.setChan b J d Â (j9+1) (r+1) yQ) (qJ++u):=by
 have Q:=(Ë.1 F).1;have V:=(Ë.1 t).1;let⟨g0,hF,W,_,_⟩:=o.C n g F;let⟨a,Y,Xc,atT,_⟩:=o.C j p t;rw[f]at W;rw[KR]at Xc;cases W with
 |gk=>
  rw[hs,ht]at hF;let⟨H,h2,I,h4⟩:=hF _<|fI.fT _ _;let⟨z',I⟩:=I w;rw[KS,PK]at Y;let⟨l,k2,k3,k4⟩:=Y _<|fI.fT _ _;have Ek:p=Χ a #[ω b z] (.recv È):=by
   cases Xc with
   |gk=>rw[O]at l;cases l
   |tK _ _ h=>rfl
   |ni _ _ h=>cases O
  subst Ek;have hpn:ε (E.setIfInBounds n ph) b Â=[(j,0)]:=af6 (by rwa[Ï<|Ċ G]) U U λk x f hx=>by
   rcases PF hx with q|⟨_,q⟩
   .rintro⟨e,_⟩;rw[q]at e;cases e
   .exact hp k x f q
  have PL:=crowd_send_meets (sl:=sl) F I M G t hpn;let⟨T,hT⟩:=ji h4;let⟨y,hTj⟩:=ji<|k4<|À v;rw[yp H h2,yp l k2]at PL;have q:∀{h:dq},h∈Î n g.frame.fn g.frame.place #[]++#[{g:=n,fn:=g.frame.fn,pos:=g.frame.place,act:=.send b j9},{g:=j,fn:=a.frame.fn,pos:=a.frame.place,act:=.recv b r J},{g:=n,fn:=g.frame.fn,pos:=g.frame.place,act:=.sendDone b j9},{g:=j,fn:=a.frame.fn,pos:=a.frame.place,act:=.recvDone b r}]->(h.act.touch?=ì/\∀m,h.act≠ŧ m)/\h.act.low w.heap.size:=by intro h e;simp[Î]at e;rcases e with rfl|rfl|rfl|rfl<;>exact⟨⟨U,fj⟩,o.r.N b L⟩
  refine⟨_,_,T,y,{g with frame:=g.frame.finish ň},{a with frame:=a.frame.finish (Ο #[v,Ň È])},PL,fj,?_,H,?_,l,λk f tL=> ?_,λh e=>(q e).1,?_⟩
  .rw[Ò (by simpa using Q)];rfl
  .rw[Ï<|Ċ G,Ò V];rfl
  .rw[Ï<|Ċ f,Ï<|Ċ tL]
  .have m:gL P i X (fw S j<|D<|À v) (fw C j y) (fw B j K) lot (E.setIfInBounds j {a with frame:=a.frame.finish (Ο #[v,Ň È])}) w (qJ++#[]):=o.G V (pM.fT _ _ _ _) (λh e=>by simp at e) (λh e=>by simp at e) hTj<|Å l;rw[ĕ]at m;refine m.G (by simpa using Q) (KQ L M _ _ _ _ _ _) (λh e=>(q e).1) (λh e=>(q e).2) hT<|Å H
theorem gL.kS(o:gL P i X S C B lot E w qJ){N:Jd}(I:E[n]?=À g)(K:B n=.no)(ht:C n=.fA)(hs:S n=KN P (n==0) J N)(L:X J)(hB:i<=J){r:Nat}(O:w.heap[J]?=À (ay j9 q Â j7 r yQ)): ∃t u T G,dp P (ŀ E w sl) n=(ŕ<|ŀ t (w.setChan J j9 q È j7 r yQ) sl,u)/\t.size=E.size/\t[n]?=À G/\G.status=Ð/\(∀k x,k≠n->E[k]?=À x->t[k]?=À (x.again<|w.setChan J j9 q È j7 r yQ))/\(∀l∈u,l.g=n)/\(∀l∈u,∀b,l.act.touch?=À b->b.loc=.obj J/\b.kind=ţ)/\(∀l∈u,∀m,l.act≠ŧ m)/\ gL P i X (fw S n N) (fw C n T) B (gq lot n {lot n with w:=w.setChan J j9 q È j7 r yQ}) t (w.setChan J j9 q È j7 r yQ) (qJ++u):=by
 have H:=(Ë.1 I).1;have Q:=o.r.N J L;let⟨g0,hF,V,_,_⟩:=o.C n g I;rw[K]at V;cases V with
 |gk=>
  rw[hs,ht]at hF;let⟨h1,h2,G,M,h4,h5⟩:=hF w<|o.r.r n H;have v:=KQ (lot:=lot) (Live:=λn=>n<E.size) L O j9 j7 r q È yQ;have y:fI (lot n) w (w.setChan J j9 q È j7 r yQ):=⟨dK v.r.symm,λj hj=>v.jO j<|o.r.I n H j hj,λa z=>v.M n H a z,λa z=>v.N n H a z,λa _=>v.I a⟩;let⟨T,hT⟩:=ji<|h5.jW ⟨y.r,y.I,y.N,y.Y,y.S⟩;have W:Ž (lot n).d (Ei J)=(lot n).d:=bH (λe f=>by simp[Ei]at f;grind) _;have D:∀e∈Ei J,(∀b,(ê e).touch?=À b->b.loc=.obj J/\b.kind=ţ)/\(ê e).low w.heap.size:=by
   intro e f;simp[Ei]at f;rcases f with rfl|rfl
   .exact⟨λb h=>by simp[ê,ą]at h;subst h;exact⟨U,U⟩,Q⟩
   .exact⟨λb h=>by simp[ê,ą]at h,Q⟩
  have e2:fw B n .no=B:=by funext j;unfold fw;split<;>simp[*]
  obtain⟨t,q1,q2,q3,q4,Y⟩:=o.qF I (h4 w j9 q j7 r yQ O) v (by rwa[W]) (Å M) (λe f=>⟨λb h=>Ì ⟨J,((D e f).1 b h).1,L,((D e f).1 b h).2⟩,(D e f).2⟩) (Pr o.r.l n5 λl F b h=>by obtain⟨e,f,rfl⟩:=î F;let⟨z1,z2⟩:=(D e f).1 b h;refine Ì (Ì ⟨z2,λp a z hl rz=> ?_⟩);have:=o.r.s p a J z (by rw[hl,z1]) rz;omega);rw[W,e2]at Y;refine⟨t,_,T,G,q1,q2,q3,M,λk x K p=> ?_,n5,λl F b h=> ?_,λl F=> ?_,Y⟩
  .rw[q4 k K,p];simp only[bT,Ξ];unfold Ų;rw[if_pos (by simp[h2,M])]
  .obtain⟨e,f,rfl⟩:=î F;exact(D e f).1 b h
  .obtain⟨e,f,rfl⟩:=î F;simp[Ei]at f;intro m;rcases f with rfl|rfl<;>simp[ê]
end
def fL(b:Nat):Û:=⟨b,0,ì⟩
def gQ(b:Nat):Û:=⟨b,1,ì⟩
inductive GS where
 |cl (c reg:Nat)
 |jE (reg:Nat)
 |gV (r s:Nat)
def GS.st:GS->Int
 |.cl c a=>c*fX+a
 |.jE a=>a
 |.gV _ _=>0
def GS.sm:GS->Int
 |.gV _ s=>s
 |_=>0
def GS.ok:GS->Prop
 |.cl c r=>c<1000000/\r<1000000/\(c=0->r=0)
 |.jE r=>0<r/\r<1000000
 |.gV r s=>r+s<1000000
structure hD(w:Ç)(b:Nat)(G:GS):Prop where
 C:w.cell? (fL b)=À (ď è G.st)
 M:w.cell? (gQ b)=À (ď Ŧ G.sm)
 I:w.frozen? (fL b)=Â
 N:w.frozen? (gQ b)=Â
 r:G.ok
theorem tM(h:w.cell? a=À x):(w.setCell a v).cell? a=À v:=by unfold Ĩ at h|-;unfold č;grind
theorem yq(h:a.block≠p.block\/a.off≠p.off):(w.setCell a v).cell? p=w.cell? p:=by unfold Ĩ č;grind
theorem PN:kR (w.setCell a v) b=kR w b:=by unfold kR č;grind
def sH:(w.setCell a v).frozen? p=w.frozen? p:=by simp_all
theorem lk(h:j≠a.block):(w.setCell a v).heap[j]?=w.heap[j]?:=by unfold č;grind
def jU:(w.setCell a v).heap.size=w.heap.size:=by simp_all
theorem yr(h:(w.cell? p).isSome=È):((w.setCell a v).cell? p).isSome=È:=by unfold Ĩ č at*;grind
theorem af9{Live Y:Nat->Prop}{c:Nat->fc}(f:Y a.block)(l:a.spot=ì)(m:∀k,Live k->¬(c k).C a)(g:∀k,Live k->∀b,(c k).C b->b.spot=ì):pM Live Y c w (w.setCell a v):=by
 refine⟨jU,λj h=>lk λe=>h<|e▸f,λk i b d=>yq ?_,λ_ _ _ _=>sH,λb d=>yr d⟩;by_cases e:a.block=b.block
 .right;intro n;have:=g k i b d;let⟨o,p,q⟩:=b;let⟨r,s,t⟩:=a;grind
 .exact Å e
section
variable{b:Nat}{G:GS}
def hD.vi(h:hD w b G)(a:u.cell? (fL b)=w.cell? (fL b))(c:u.cell? (gQ b)=w.cell? (gQ b))(d:u.frozen? (fL b)=w.frozen? (fL b))(e:u.frozen? (gQ b)=w.frozen? (gQ b)):hD u b G:= ⟨a.trans h.C,c.trans h.M,d.trans h.I,e.trans h.N,h.r⟩
def hD.iQ(h:hD w b G)(c:a.block≠b):hD (w.setCell a v) b G:= h.vi (yq<|Å c) (yq<|Å c) sH sH
def hD.KT{G':GS}(h:hD w b G)(a:G'.sm=G.sm)(d:G'.ok)(e:c=G'.st):hD (w.setCell (fL b)<|ď è c) b G':= ⟨by rw[tM h.C,e],by rw[yq (Ì<|by simp[fL,gQ]),h.M,a],by rw[sH,h.I],by rw[sH,h.N],d⟩
def hD.Xd{G':GS}(h:hD w b G)(a:G'.st=G.st)(d:G'.ok)(e:c=G'.sm):hD (w.setCell (gQ b)<|ď Ŧ c) b G':= ⟨by rw[yq (Ì<|by simp[fL,gQ]),h.C,a],by rw[tM h.M,e],by rw[sH,h.I],by rw[sH,h.N],d⟩
end
def KU(a:0<=h)(b:h<18446744073709551616):è.wrap h=h:=by have:è.wrap h=h%18446744073709551616:=rfl;rw[this];omega
def aga(a:4294967296<=h)(b:h<18446744073709551616):è.wrap (h+18446744069414584320)=h-4294967296:=by have:è.wrap (h+18446744069414584320)=(h+18446744069414584320)%18446744073709551616:=rfl;rw[this];omega
def agb(a:0<=h)(b:h<4294967296):Ŧ.wrap h=h:=by have:Ŧ.wrap h=h%4294967296:=rfl;rw[this];omega
def qG:Int:=18446744069414584320
def GS.jI:GS->GS
 |.cl (c+1) reg=>if c=0/\0<reg then .jE reg else .cl c reg
 |G=>G
section
variable{b:Nat}
def hD.agc(h:hD w b (.cl i 0))(a:i+1<1000000):è.wrap ((GS.cl i 0).st+fX)=(GS.cl (i+1) 0).st/\hD (w.setCell (fL b)<|ď è<|è.wrap<|(GS.cl i 0).st+fX) b (.cl (i+1) 0):=by
 have e:è.wrap ((GS.cl i 0).st+fX)=(GS.cl (i+1) 0).st:=by simp only[GS.st,fX];rw[KU Z Z];omega
 exact⟨e,h.KT (G':=.cl (i+1) 0) U ⟨a,Z,Z⟩ e⟩
def hD.jI(h:hD w b (.cl (i+1) n)):è.wrap ((GS.cl (i+1) n).st+qG)=(GS.jI<|.cl (i+1) n).st/\hD (w.setCell (fL b)<|ď è<|è.wrap<|(GS.cl (i+1) n).st+qG) b (GS.jI<|.cl (i+1) n):=by
 let⟨f,a,g⟩:=h.r;have d:è.wrap ((GS.cl (i+1) n).st+qG)=(i:Int)*fX+n:=by simp only[GS.st,fX,qG];rw[aga Z Z];omega
 have e:è.wrap ((GS.cl (i+1) n).st+qG)=(GS.jI<|.cl (i+1) n).st:=by
  rw[d];simp only[GS.jI];by_cases q:i=0/\0<n
  .rw[if_pos q];obtain⟨rfl,_⟩:=q;simp[GS.st]
  .rw[if_neg q];rfl
 refine⟨e,h.KT ?_ ?_ e⟩
 .simp only[GS.jI];split<;>rfl
 .simp only[GS.jI];by_cases q:i=0/\0<n
  .rw[if_pos q];exact⟨q.2,a⟩
  .rw[if_neg q];exact⟨Z,a,λe=>by omega⟩
def hD.Xe(h:hD w b (.cl i n))(f:0<i)(a:n+1<1000000):è.wrap ((GS.cl i n).st+1)=(GS.cl i<|n+1).st/\hD (w.setCell (fL b)<|ď è<|è.wrap<|(GS.cl i n).st+1) b (.cl i (n+1)):=by
 let⟨d,g,j⟩:=h.r;have e:è.wrap ((GS.cl i n).st+1)=(GS.cl i<|n+1).st:=by simp only[GS.st,fX];rw[KU Z Z];omega
 exact⟨e,h.KT (G':=.cl i (n+1)) U ⟨d,a,λe=>by omega⟩ e⟩
def hD.Xf(h:hD w b (.jE i)):hD (w.setCell (fL b)<|ď è 0) b (.gV i 0):= h.KT (G':=.gV i 0) U (by have:=h.r;simp only[GS.ok]at this|-;omega) U
def hD.jD{r:Nat}(h:hD w b (.gV (r+1) i)):hD (w.setCell (gQ b)<|ď Ŧ<|Ŧ.wrap<|(GS.gV (r+1) i).sm+1) b (.gV r (i+1)):=by have:=h.r;simp only[GS.ok]at this;refine h.Xd (G':=.gV r (i+1)) U (by simp only[GS.ok];omega) ?_;simp only[GS.sm];rw[agb Z Z];omega
def hD.ky{r:Nat}(h:hD w b (.gV r (i+1))):hD (w.setCell (gQ b)<|ď Ŧ<|(GS.gV r<|i+1).sm-1) b (.gV r i):=by have:=h.r;simp only[GS.ok]at this;refine h.Xd (G':=.gV r i) U (by simp only[GS.ok];omega) ?_;simp only[GS.sm];omega
def hD.agd{G:GS}(h:hD w b G):(0<=G.st/\G.st<fX)↔∀c a,G=.cl c a->c=0:=by
 have d:=h.r;cases G with
 |cl c a=>
  let⟨r,s,f⟩:=d;simp only[GS.st,fX];constructor
  .intro q g i e;cases e;omega
  .intro q;have:=q c a U;subst this;omega
 |jE a=>simp only[GS.ok]at d;simp only[GS.st,fX];exact⟨λ_ _ _ e=>(by cases e),λ_=>by omega⟩
 |gV r s=>simp only[GS.st,fX];exact⟨λ_ _ _ e=>(by cases e),λ_=>by omega⟩
end
inductive jF where
 |jD|iE|gy (W:Nat)|ja (W:Nat)|iy (r:Nat)
inductive jq where
 |iW|lW (p:SP)|wr|ky|gy|kY
section
variable(P:Ö)(main:Bool)(B:Nat)(b:Nat)(J:Jd)
def Ha:Nat->Jd
 |0=>J
 |r+1=>λl g=>l.d=1/\af0 P main (gQ b) (match r with|0=>J|_=>fh P main<|Ha r) l g
def KV(W:Nat):Jd:=λl g=>l.d=1/\afY P main (fL b) 0 (Ha P main b J W) l g
def KW(W:Nat):Jd:=λl g=>l.d=1/\W7 P main (fL b) (λv=>if v=(W:Int)then KV P main b J W else λ_ _=>True) l g
def PO:Jd:=λl g=>l.d=1/\Pv P main (fL b) qG (λs=>if s=0\/(fX<=s/\s<1000000*fX/\s%fX<1000000)then J else if 0<s/\s<1000000 then fh P main (KW P main b J s.toNat)else λ_ _=>True) l g
def yt:Jd:=λl g=>l.d=0/\G8 P main (Ŀ<|fL b) (PO P main b J) l g
def El:jF->Jd
 |.jD=>yt P main b J
 |.iE=>PO P main b J
 |.gy W=>KW P main b J W
 |.ja W=>KV P main b J W
 |.iy r=>Ha P main b J r
def Em:Jd:=λl g=>l.d=0/\G8 P main (cZ<|fL b) J l g
def Xg:Jd:=λl g=>l.d=1/\W7 P main (fL b) (λv=>if v=0 then Em P main b J else λ_ _=>True) l g
def KX:Jd:=λl g=>l.d=1/\afZ P main (gQ b) (Xg P main b J) l g
def PQ:Jd:=λl g=>l.d=1/\G8 P main (.write<|gQ b) (KX P main b J) l g
def PU(p:SP):Jd:=λl g=>l.d=1/\Ej P main (fL b) B (λ_=>Em P main b J) (λv=>if v%fX=0 then PQ P main b J else KX P main b J) p l g
def qH:jq->Jd
 |.iW=>λl g=>∃k,k<=B/\PU P main B b J (.fZ k) l g
 |.lW p=>PU P main B b J p
 |.wr=>PQ P main b J
 |.ky=>KX P main b J
 |.gy=>Xg P main b J
 |.kY=>Em P main b J
end
section
variable{P:Ö}{Y:Nat->Prop}{S:Nat->Jd}{tr:Nat->gu}{f:Nat->iw}{lot:Nat->fc}{gs:Array Ó}{t:ħ}
def iP.C{Live:Nat->Prop}(h:iP n Live Y lot w t)(J:Live i){l:fc}(u:∀b,l.O b->(lot i).O b) (x:∀b,l.I b->(lot i).M b\/(b<w.heap.size/\¬Y b/\(∀k,Live k->¬(lot k).O b)/\∀a:Û,a.block=b->o0 t i (ā a))) (s:∀a,l.r a->(lot i).r a) (y:∀a,l.N a->(lot i).C a\/(Y a.block/\(∀k,Live k->¬(lot k).r a)/\o0 t i (ā a))) (D:l.K=(lot i).K) (E:l.d=(lot i).d) (F:l.w=w) (G:∀b,l.O b->¬l.I b) (H:∀a,l.r a->¬l.N a):iP n Live Y (gq lot i l) w t:=by
 have v:∀b,l.M b->(lot i).M b\/(b<w.heap.size/\¬Y b/\(∀k,Live k->¬(lot k).O b)/\∀a:Û,a.block=b->o0 t i (ā a)):=λb g=>g.elim (λq=>Å<|Å<|u b q)<|x b;have B:∀a,l.C a->(lot i).C a\/(Y a.block/\(∀k,Live k->¬(lot k).r a)/\o0 t i (ā a)):=λa f=>f.elim (λq=>Å<|Å<|s a q)<|y a;refine⟨λk j c m o b g=> ?_,λk j c m o a f=> ?_,λk c b g=> ?_,λk c a f=> ?_,λk c b g=> ?_,λk c a f=> ?_,λk c b g=> ?_,h.N,λk c=> ?_,λk c=> ?_,λk c=> ?_,h.l,h.q,h.s,λk c a f=> ?_⟩
 .by_cases e:k=i
  .subst e;rw[gT]at g;rw[gH lot _<|Ċ o];exact h.o k j c m o b<|u b g
  .rw[gH lot _ e]at g;by_cases p:j=i
   .subst p;rw[gT];intro q;rcases v b q with z|⟨_,_,z,_⟩
    .exact h.o k j c m o b g z
    .exact z k c g
   .rw[gH lot _ p];exact h.o k j c m o b g
 .by_cases e:k=i
  .subst e;rw[gT]at f;rw[gH lot _<|Ċ o];exact h.h k j c m o a<|s a f
  .rw[gH lot _ e]at f;by_cases p:j=i
   .subst p;rw[gT];intro q;rcases B a q with z|⟨_,z,_⟩
    .exact h.h k j c m o a f z
    .exact z k c f
   .rw[gH lot _ p];exact h.h k j c m o a f
 .by_cases e:k=i
  .subst e;rw[gT]at g|-;exact G b g
  .rw[gH lot _ e]at g|-;exact h.m k c b g
 .by_cases e:k=i
  .subst e;rw[gT]at f|-;exact H a f
  .rw[gH lot _ e]at f|-;exact h.g k c a f
 .by_cases e:k=i
  .subst e;rw[gT]at g;exact(v b g).elim (h.I k c b) λz=>z.2.1
  .rw[gH lot _ e]at g;exact h.I k c b g
 .by_cases e:k=i
  .subst e;rw[gT]at f;exact(B a f).elim (h.e k c a) λz=>z.1
  .rw[gH lot _ e]at f;exact h.e k c a f
 .by_cases e:k=i
  .subst e;rw[gT]at g;exact(v b g).elim (h.fx k c b) λz=>z.1
  .rw[gH lot _ e]at g;exact h.fx k c b g
 .by_cases e:k=i
  .subst e;rw[gT,F];exact fI.fT _ _
  .rw[gH lot _ e];exact h.r k c
 .by_cases e:k=i
  .subst e;rw[gT];refine⟨λa f=>(h.S k c).fp a<|u _ f,λa f=> ?_,λa f=>(h.S k c).I a<|s a f,λa f=> ?_⟩
   .rcases x _ f with(z|z)|⟨_,_,_,z⟩
    .exact((h.S k c).fp a z).r
    .exact(h.S k c).C a z
    .exact z a U
   .rcases y _ f with(z|z)|⟨_,_,z⟩
    .exact((h.S k c).I a z).r
    .exact(h.S k c).r a z
    .exact z
  .rw[gH lot _ e];exact h.S k c
 .by_cases e:k=i
  .subst e;rw[gT,E];exact h.f k c
  .rw[gH lot _ e];exact h.f k c
 .have z:(lot k).K a:=by
   by_cases e:k=i
   .subst e;rwa[gT,D]at f
   .rwa[gH lot _ e]at f
  let⟨I,p⟩:=h.n k c a z;refine⟨I,λj m q=> ?_⟩;by_cases e:j=i
  .subst e;rw[gT]at q;exact p j m<|s a q
  .rw[gH lot _ e]at q;exact p j m q
def gL.M(b:gL P n Y S tr f lot gs w t){J:Jd}{T:gu}{K:iw}{l:fc}(c:gs[i]?=À g)(d:g.status=Ð\/g.status=Ħ)(h:iP n (λi=>i<gs.size) Y (gq lot i l) w t)(hF:kX P (i==0) J T l g): gL P n Y (fw S i J) (fw tr i T) (fw f i K) (gq lot i l) gs w t:=by
 refine⟨h,λk x a=> ?_,b.I⟩;by_cases e:k=i
 .subst e;rw[c]at a;obtain rfl:=Ĭ a;rw[gC,gC,gC,gT];exact⟨g,hF,.gk,d,Å U⟩
 .rw[fH S _ e,fH tr _ e,fH f _ e,gH lot _ e];exact b.C k x a
end
end Go.Proofs.Y.fu
namespace Go.Proofs.Y.fu
open Go Go.Conc Go.Proofs.Y.Lift
open Go.ConcN (RelBy fork_knows)
def At(t:ħ)(p:Nat)(l:eb):Prop:=∀q a,ġ t q=À a->a.loc=l->a.write=È->Before t q p
theorem At.PV{u:ħ}{l:eb}(h:At qJ i l)(j:∀c∈u,∀b,c.act.touch?=À b->b.loc=l->b.write=È->False):At (qJ++u) i l:=by
 intro q a e f g;rcases mL e with⟨_,d⟩|⟨_,c,d,k,_⟩
 .exact(h q a d f g).app u
 .grind
def At.agf{l:eb}(h:At qJ i l)(b:bP qJ n i):o0 qJ n l:=λq a c d e=>Knows.of_before (h q a c d e) b
theorem agh{l:eb}(h:o0 qJ i l)(c:wQ.g=i)(j:wQ.act.touch?=ì):At (qJ++#[wQ]) qJ.size l:=by
 intro q a d e f;rcases mL d with⟨_,b⟩|⟨_,k,b,m,_⟩
 .exact Ì<|(h q a b e f).hb_new (à _) (by rw[ċ<|à _];simp) c
 .grind
structure Fx where
 L:Nat
 m:Nat
 C:Nat
 I:Nat->Nat
def Fx.M(F:Fx)(b:Nat):Prop:=b=F.C\/∃k,k<=F.m/\b=F.I k
def Fx.G(F:Fx)(x:Û):Prop:=∃b,F.M b/\(x=fL b\/x=gQ b)
def jf(F:Fx)(k:Nat):Û:=⟨F.I k,2,ì⟩
def Fx.PW(F:Fx)(a:Nat->Option Nat)(x:Û)(g:Option Nat):Prop:=(x=gQ F.C/\g=À 0)\/∃k j,k<=F.m/\x=gQ (F.I k)/\a k=À j/\g=À (F.L+1+j)
structure TI(F:Fx)(t0:Nat)(jj:eb->Prop)(sp rl:Nat)(V:Nat->Nat->Prop)(pk:Nat->Nat)(fs:Nat->Option Nat)(rx:Nat->Prop)(ql:Nat->Nat)(t:ħ):Prop where
 N:t0<=t.size
 M:∀p a x,ġ t p=À a->a.loc=ā x->F.G x->(p<t0/\t.g? p=À 0)\/a.kind=ţ\/(a.kind=.said/\F.PW fs x (t.g? p))
 Au:∀x,x<sp->∀p,p<t0->t.g? p=À 0->bP t (F.L+x) p
 Y:∀k,1<=k->k<=rl->t.act? (pk k)=À (ŧ<|Ŀ<|fL<|F.I k)/\t.g? (pk k)=À F.L/\t.heard (pk k)
 I:∀k,1<=k->k<=rl->∀a:Û,(V k a.block\/a=jf F k)->At t (pk k) (ā a)
 c:∀b,F.M b->NoRelease (fL b) t
 r:∀x,x<sp->rx x->RelBy (fL F.C) t (F.L+x) (ql x)/\∀p a,ġ t p=À a->t.g? p=À (F.L+x)->p<=ql x\/((∃y:Û,a.loc=ā y/\y.block=F.C)/\a.kind=ţ)
 S:∀p a,t0<=p->ġ t p=À a->t.g? p=À 0\/∃x,x<sp/\t.g? p=À (F.L+x)
 e:∀p a,p<t0->ġ t p=À a->a.loc.isMemory=È->bP t 0 p\/(jj a.loc/\a.kind=ţ)
 d:∀p g,p<t0->t.g? p=À g->g≠0->t.counts p->∃j,t.g? j=À 0/\HappensBefore t p j
section
variable{F:Fx}{t0:Nat}{jj:eb->Prop}{sp rl:Nat}{V:Nat->Nat->Prop}{pk:Nat->Nat}{fs:Nat->Option Nat}{rx:Nat->Prop}{ql:Nat->Nat}{t u:ħ}
theorem KY(h:t.g? i=À n):i<t.size:=by unfold Œ at h;grind
def Hb(h:t.g? i=À n):(t++u).g? i=À n:=by rwa[aU<|KY h]
theorem PX{a:dW}(h:ġ t i=À a):i<t.size:=by let⟨b,c,_⟩:=dX h;grind
structure KZ(F:Fx)(sp rl:Nat)(V:Nat->Nat->Prop)(fs:Nat->Option Nat)(rx:Nat->Prop)(t u:ħ)(i:Nat):Prop where
 C:∀op∈u,∀a,op.act.touch?=À a->op.g=i
 S:i=0\/(∃x,x<sp/\i=F.L+x)\/∀op∈u,op.act.touch?=ì
 M:∀op∈u,∀a x,op.act.touch?=À a->a.loc=ā x->F.G x->a.kind=ţ\/(a.kind=.said/\F.PW fs x (À i))
 fK:∀op∈u,∀(a:dW) (y:Û),op.act.touch?=À a->a.write=È->a.loc=ā y->∀k,1<=k->k<=rl->¬V k y.block/\y≠jf F k
 N:∀op∈u,∀b,F.M b->op.act≠ŧ (dY<|fL b)
 I:∀x,x<sp->rx x->(∀r,RelBy (fL F.C) t (F.L+x) r->RelBy (fL F.C) (t++u) (F.L+x) r)/\(F.L+x=i->∀op∈u,∀a,op.act.touch?=À a->(∃y:Û,a.loc=ā y/\y.block=F.C)/\a.kind=ţ)
def TI.C(h:TI F t0 jj sp rl V pk fs rx ql t)(f:KZ F sp rl V fs rx t u i):TI F t0 jj sp rl V pk fs rx ql (t++u) where
 N:=by rw[Array.size_append];have:=h.N;omega
 M p a x n y hc:=by
  rcases mL n with⟨d,c⟩|⟨d,m,c,l,j⟩
  .rw[aU d];exact h.M p a x c y hc
  .refine Ì ((f.M m c a x l y hc).imp id λq=>⟨q.1,?_⟩);have:(t++u).g? p=À i:=by unfold Œ;rw[j];simp[f.C m c a l]
   rw[this];exact q.2
 Au x r p d o:=(h.Au x r p d<|by rwa[aU<|Ô d h.N]at o).app u;Y k c l:=by let⟨v,s,b⟩:=h.Y k c l;have w:=KY s;exact⟨by rwa[dZ w],Hb s,(heard_old w).2 b⟩
 I k c l a n:=(h.I k c l a n).PV λm B b z y C=>by have:=f.fK m B b a z C y k c l;exact n.elim this.1 this.2
 c b z:=(h.c b z).app λm B=>f.N m B b z;r x r hr:=by
  let⟨v,s⟩:=h.r x r hr;let⟨D,E⟩:=f.I x r hr;refine⟨D _ v,λp a n o=> ?_⟩;rcases mL n with⟨d,c⟩|⟨d,m,c,l,j⟩
  .exact s p a c<|by rwa[aU d]at o
  .have e:(t++u).g? p=À i:=by unfold Œ;rw[j];simp[f.C m c a l]
   rw[e]at o;exact Ì<|E (Ĭ o).symm m c a l
 S p a d n:=by
  rcases mL n with⟨D,c⟩|⟨_,m,c,l,j⟩
  .rw[aU D];exact h.S p a d c
  .have e:(t++u).g? p=À i:=by unfold Œ;rw[j];simp[f.C m c a l]
   rw[e];rcases f.S with q|⟨x,r,q⟩|q
   .exact Å<|by rw[q]
   .exact Ì ⟨x,r,by rw[q]⟩
   .rw[q m c]at l;cases l
 e p a d n hm:=by rw[touchAt_old<|Ô d h.N]at n;exact(h.e p a d n hm).imp (·.app u) id
 d p g d o lB hc:=by have w:=Ô d h.N;rw[aU w]at o;rw[eF w]at hc;let⟨j,v,s⟩:=h.d p g d o lB hc;exact⟨j,Hb v,eD u s⟩
theorem yu(f:∀c∈u,c.act.touch?=ì)(h:∀c∈u,∀b,F.M b->c.act≠ŧ (dY<|fL b)):KZ F sp rl V fs rx t u 0 where
 C c e a d:=by rw[f c e]at d;cases d
 S:=Å U;M c e a x d:=by rw[f c e]at d;cases d
 fK c e a y d:=by rw[f c e]at d;cases d
 N:=h;I x hx g:=by refine⟨λr g=>g.app λj l m i=> ?_,λ_ c e a d=>by rw[f c e]at d;cases d⟩;let⟨z,k,_⟩:=i;rcases mL k with⟨q,_⟩|⟨_,c,n,o,_⟩;all_goals grind
def TI.agi(h:TI F t0 jj sp rl V pk fs rx ql t){b:Nat->Option Nat}(c:∀k y,fs k=À y->b k=À y):TI F t0 jj sp rl V pk b rx ql t:= {h with M:=λp a x d e f=>(h.M p a x d e f).imp id (Or.imp id λq=>⟨q.1,q.2.imp id λ⟨k,j,g,i,l,m⟩=>⟨k,j,g,i,c k j l,m⟩⟩)}
theorem TI.Hc(h:TI F t0 jj sp rl V pk fs rx ql t){y:dq}(j:wQ.g=0/\wQ.act=.go (F.L+sp))(k:y.g=F.L+sp/\y.act=.start)(m:ρ t 0=0)(n:ρ t (F.L+sp)=0)(B:¬rx sp)(o:∀wQ,rx wQ->wQ<sp):TI F t0 jj (sp+1) rl V pk fs rx ql (t++#[wQ,y]):=by
 have q:∀c∈#[wQ,y],c.act.touch?=ì:=by
  intro c a;simp at a;rcases a with rfl|rfl
  .rw[j.2];rfl
  .rw[k.2];rfl
 have r:∀c∈#[wQ,y],∀b,F.M b->c.act≠ŧ (dY<|fL b):=by grind
 have d:=h.C<|yu q r;refine{d with Au:=λz s p f i=> ?_,r:=λz s l=>d.r z (o z l) l,S:=λp a f u=>((d.S p a f u).imp id λ⟨z,v,e⟩=>⟨z,Z,e⟩)}
 .by_cases e:z<sp
  .exact d.Au z e p f i
  .obtain rfl:z=sp:=Z
   rw[aU<|Ô f h.N]at i;let⟨c,v,w⟩:=ī.1 i;have:=bG v;rw[w]at this;exact da j k m n this
theorem agj{y:dq}(d:wQ.g=0/\wQ.act=.go k)(e:y.g=k/\y.act=.start)(j:ρ t 0=0)(m:ρ t k=0){l:eb}:(qE t 0 l->qE (t++#[wQ,y]) k l)/\(o0 t 0 l->o0 (t++#[wQ,y]) k l):=by
 have q:∀c∈#[wQ,y],c.act.touch?=ì:=by
  intro c a;simp at a;rcases a with rfl|rfl
  .rw[d.2];rfl
  .rw[e.2];rfl
 refine⟨λh p a f i=> ?_,λh p a f i n=> ?_⟩
 .rcases mL f with⟨_,b⟩|⟨_,c,b,o,_⟩
  .exact da d e j m<|h p a b i
  .grind
 .rcases mL f with⟨_,b⟩|⟨_,c,b,o,_⟩
  .exact da d e j m<|h p a b i n
  .grind
theorem TI.agk(h:TI F t0 jj sp rl V pk fs rx ql t)(d:wQ.g=F.L)(f:wQ.act=ŧ (Ŀ<|fL<|F.I<|rl+1))(m:ρ t F.L=0)(n:∀a:Û,(V (rl+1) a.block\/a=jf F (rl+1))->o0 t F.L (ā a)): TI F t0 jj sp (rl+1) V (fw pk (rl+1) t.size) fs rx ql (t++#[wQ]):=by
 have o:∀c∈#[wQ],c.act.touch?=ì:=by
  intro c e;have:c=wQ:=by simpa using e
  rw[this,f];rfl
 have i:=h.C (yu o λc e b _=>by grind);have p:(t++#[wQ])[t.size]?=À wQ:=by rw[ċ<|à _];simp
 have j:∀k,k<=rl->fw pk (rl+1) t.size k=pk k:=λk r=>fH pk _ Z;refine{i with Y:=λk b q=> ?_,I:=λk b q a l=> ?_}
 .by_cases e:k=rl+1
  .subst e;rw[gC];exact⟨by rw[eM p,f],by simp[Œ,d],⟨F.L,by simp[Œ,d],by rwa[c9<|à _]⟩⟩
  .rw[j k Z];exact i.Y k b Z
 .by_cases e:k=rl+1
  .subst e;rw[gC];exact agh (n a l) d<|by rw[f];rfl
  .rw[j k Z];exact i.I k b Z a l
theorem TI.agl(h:TI F t0 jj sp rl V pk fs rx ql t){x:Nat}(r:x<sp)(d:wQ.g=F.L+x)(f:wQ.act=ŧ (Ŀ<|fL F.C))(k:ρ t (F.L+x)=0)(s:¬rx x): TI F t0 jj sp rl V pk fs (λz=>rx z\/z=x) (fw ql x t.size) (t++#[wQ]):=by
 have l:∀c∈#[wQ],c.act.touch?=ì:=by
  intro c a;have:c=wQ:=by simpa using a
  rw[this,f];rfl
 have j:=h.C (yu l λc a b _=>by grind);have b:(t++#[wQ])[t.size]?=À wQ:=by rw[ċ<|à _];simp
 refine{j with r:=λz m n=> ?_};by_cases e:z=x
 .subst e;rw[gC];refine⟨⟨by rw[eM b,f],by simp[Œ,d],⟨F.L+z,by simp[Œ,d],by rwa[c9<|à _]⟩,λi u o=> ?_⟩,λp a q _=>Å ?_⟩
  .have:=KY o;simp at this;omega
  .have:=PX q;simp at this;omega
 .rw[fH ql _ e];exact j.r z m<|n.resolve_right e
def Xh(e:t.act? i=À (ŧ<|Ŀ a))(f:t.g? i=À k)(h:t.heard i)(l:NoRelease a t)(c:wQ.g=n)(m:wQ.act=ŧ (cZ a))(o:ρ t n=0):bP (t++#[wQ]) n i:=by
 have b:=KY f;have d:(t++#[wQ])[t.size]?=À wQ:=by rw[ċ<|à _];simp
 refine⟨t.size,wQ,d,c,Ì<|.single<|Ì ⟨.marked b (Ì<|by rwa[dZ b]) (by rw[eM d,m]) λj _ q=> ?_,(heard_old b).2 h,⟨n,by simp[Œ,c],by rwa[c9<|à _]⟩⟩⟩;rw[dZ q];exact l j
theorem TI.kS(h:TI F t0 jj sp rl V pk fs rx ql t)(G:wQ.g=0)(o:wQ.act=ŧ (cZ<|fL F.C))(H:ρ t 0=0)(k:∀x,x<sp->rx x): (∀p a,ġ (t++#[wQ]) p=À a->a.loc.isMemory=È->bP (t++#[wQ]) 0 p\/((jj a.loc\/∃x:Û,a.loc=ā x/\x.block=F.C)/\a.kind=ţ))/\(t++#[wQ]).HandedOver:=by
 have Q:wQ.act.touch?=ì:=by rw[o];rfl
 have s:=λx c=>by let⟨b,_⟩:=h.r x c<|k x c;exact Xh b.act b.g b.heard (h.c _<|Å U) G o H
 have u:∀p a,ġ (t++#[wQ]) p=À a->p<t.size/\ġ t p=À a:=λp a l=>by rcases mL l with q|⟨_,v,d,w,_⟩;all_goals grind
 have B:∀p q x,t.g? p=À (F.L+x)->t.g? q=À (F.L+x)->p<=q->Before (t++#[wQ]) p q:=λp q x d w S=>by
  rcases Nat.lt_or_ge p q with f|i
  .exact Ì<|.single<|Å ⟨f,_,Hb d,Hb w⟩
  .exact Å Z
 refine⟨λp a l I=> ?_,λp g C J K=> ?_⟩
 .let⟨f,d⟩:=u p a l;by_cases e:p<t0
  .rcases h.e p a e d I with q|⟨b,i⟩
   .exact Å<|q.app _
   .grind
  .rcases h.S p a Z d with q|⟨x,c,q⟩
   .let⟨v,m,n⟩:=ī.1 q;have:=bG m;rw[n]at this;exact Å<|this.app _
   .let⟨b,i⟩:=h.r x c<|k x c;rcases i p a d q with z|⟨j,P⟩
    .exact Å<|Knows.of_before (B p (ql x) x q b.g z)<|s x c
    .grind
 .let⟨z,D,M,N⟩:=K;let⟨f,d⟩:=u p z D;have O:t.g? p=À g:=by rwa[aU f]at C
  have E:=(eF f).1 ⟨z,D,M,N⟩;by_cases e:p<t0
  .let⟨j,b,i⟩:=h.d p g e O J E;exact⟨j,Hb b,eD _ i⟩
  .rcases h.S p z Z d with q|⟨x,c,q⟩
   .grind
   .let⟨b,_⟩:=h.r x c<|k x c;let⟨r,v,m,n,i⟩:=s x c;have j:(t++#[wQ]).g? r=À 0:=by unfold Œ;rw[m];simp[n]
    refine⟨r,j,?_⟩;rcases(B p (ql x) x q b.g<|Nat.le_of_not_lt λP=>b.after p P q E).trans i with P|P;all_goals grind
end
end Go.Proofs.Y.fu
namespace Go.Proofs.Y.fu
open Go Go.Conc Go.Proofs.Y.Lift
open Go.ConcN (sumTo)
structure Ph extends Fx where
 P:Ö
 S:Nat
 n:Nat
 q:Nat
 Y:Nat
 f:Nat
 r:Nat->Nat
 a:Nat->Nat
 b:Nat->Nat
 c:Nat->Ã
 z:Ã
 B:Nat
 γ:Type
 l:γ
 i:Nat->Prop
 p:Nat->γ->γ->Prop
 d:Nat->γ->(Nat->Prop)->Ç->Prop
 o:Nat->ByteArray
 k:Nat->ByteArray
 g:Nat->(Nat->Nat)->Jd
 h:Nat->Jd
 e:Nat->Nat->Jd
 j:(Nat->Nat)->Jd
inductive nk(F:Ph):Nat->F.γ->Prop
 |vd:nk F 0 F.l
 |En {k:Nat} {s s':F.γ} (h:nk F k s) (hn:F.p k s s'):nk F (k+1) s'
def jk(F:Ph)(p:Nat):Û:=⟨F.Y,p,ì⟩
inductive fU where
 |go (j:Nat)|lC (j:Nat)|rd (j:Nat)|iE (j:Nat)|iI (r:Nat)|kS (r:Nat)|fy (p:jq)|gd
inductive jx where
 |kK (k:Nat)|mk (k:Nat)|dn (k:Nat) (p:jF)
inductive gM where
 |nj (r:Nat)|fy (r:Nat) (p:jq)|jH (r:Nat)|nh (r:Nat)
inductive ig where
 |oD|gd (p:jF)|jo (N:Nat)
section
variable(F:Ph)
def Hd:Jd:=λl g=>∃N,QuitsD F.P N l.d g
def kz(l:fc):fc:={l with O:=λ_=>False,I:=λ_=>False,r:=λ_=>False,N:=λ_=>False,q:=True}
def Av:Jd:=λl g=>El F.P Â F.C (Hd F) .jD (kz l) g
def Eo(c j r:Nat):Jd:=wH F.P Â c F.z λx=>match x with
 |some v=>λl g=>v=F.c (j+r*F.n)->qH F.P Â F.B (F.I<|F.r<|j+r*F.n) (F.e c<|j+r*F.n) .iW l g
 |none=>Av F
def vj(l:fc)(i:Nat):fc:={l with r:=λa=>l.r a/\a≠jk F (F.a i),N:=λa=>l.N a\/a=jk F (F.a i)}
def pN(l:fc)(k:Nat):fc:={l with O:=λ_=>False,I:=l.M,r:=λa=>l.r a/\a≠jk F (F.b k)/\a≠jf F.toFx k,N:=λa=>l.N a\/a=jk F (F.b k)\/a=jf F.toFx k}
def JW(c j:Nat):gM->Jd
 |.nj r=>Eo F c j r
 |.fy r p=>qH F.P Â F.B (F.I<|F.r<|j+r*F.n) (F.e c<|j+r*F.n) p
 |.jH r=>F.e c<|j+r*F.n
 |.nh r=>λl g=>l.w.cell? (jk F<|F.a<|j+r*F.n)=À (ğ<|F.k<|j+r*F.n)/\Eo F c j (r+1) (vj F l<|j+r*F.n) g
def JI(sg:Nat->F.γ):jx->Jd
 |.kK k=>F.h k
 |.mk k=>λl g=>∃p V,F.p (k-1) (sg<|k-1) p/\F.d k p V l.w/\(∀b,V b->l.M b)/\l.w.cell? (jk F<|F.b k)=À (ğ<|F.o k)/\El F.P Â (F.I k) (fh F.P Â<|F.h k) .jD (pN F l k) g
 |.dn k p=>El F.P Â (F.I k) (fh F.P Â<|F.h k) p
def JE:ig->Jd
 |.oD=>Av F
 |.gd p=>El F.P Â F.C (Hd F) p
 |.jo N=>oC F.P N
def K0(j:Nat)(a:Nat->Nat):Jd:=λl g=>∃c,F.g j (fw a (j-1) c) l g
def Xi(j:Nat)(a:Nat->Nat):Jd:=λl g=>l.d=1/\G8 F.P È (.read<|gQ F.C) (K0 F j a) l g
def PY(j:Nat)(a:Nat->Nat):Jd:=λl g=>l.d=1/\Pv F.P È (fL F.C) fX (λs=>if s=fX then fh F.P È (Xi F j a)else if fX<s/\s<1000000*fX/\s%fX=0 then fh F.P È (K0 F j a)else λ_ _=>True) l g
def Aw(a:Nat->Nat):Nat->Jd
 |0=>qH F.P È F.B F.C (F.j a) .iW
 |r+1=>KN F.P È (a<|F.n-(r+1))<|Aw a r
def He(a:Nat->Nat):Nat->Jd
 |0=>Aw F a F.n
 |r+1=>As F.P È (a<|(F.q-(r+1))%F.n) (F.c<|F.q-(r+1))<|He a r
def JM(dk:Nat->Nat):fU->Jd
 |.go j=>F.g j dk
 |.lC j=>K0 F j dk
 |.rd j=>Xi F j dk
 |.iE j=>PY F j dk
 |.iI r=>He F dk r
 |.kS r=>Aw F dk r
 |.fy p=>qH F.P È F.B F.C (F.j dk) p
 |.gd=>F.j dk
def lR(x:Nat)(a:Û):Prop:=if x=0 then(∃k,1<=k/\k<=F.m/\(a=jf F.toFx k\/a=jk F (F.b k)))else∃i,i<F.q/\i%F.n=x-1/\a=jk F (F.a i)
end
def fU.sp(n:Nat):fU->Nat
 |.go j|.lC j|.rd j|.iE j=>j
 |_=>n+1
def fU.ad(n:Nat):fU->Nat
 |.iE j=>j
 |.go j|.lC j|.rd j=>j+1
 |_=>n+1
def fU.mq(q:Nat):fU->Nat
 |.go _|.lC _|.rd _|.iE _=>0
 |.iI r=>q-r
 |_=>q
def fU.je(n:Nat):fU->Nat
 |.kS r=>n-r
 |.fy _|.gd=>n
 |_=>0
def jq.sI:jq->Nat
 |.wr|.ky=>1
 |_=>0
def fU.gE:fU->Nat
 |.fy p=>p.sI
 |_=>0
def jF.kL:jF->Nat
 |.jD|.iE=>1
 |_=>0
def ig.kL:ig->Nat
 |.oD=>1
 |.gd p=>p.kL
 |_=>0
def ig.n7:ig->Prop
 |.oD=>False
 |_=>True
def lX:Option ig->Nat
 |none=>1
 |some e=>e.kL
def jF.iq:jF->Prop
 |.jD=>False
 |_=>True
def ig.iq:ig->Prop
 |.oD=>False
 |.gd p=>p.iq
 |_=>True
def jx.md:jx->Nat
 |.kK k=>k
 |.mk k=>k-1
 |.dn k _=>k
def jx.rl:jx->Nat
 |.kK k=>k
 |.mk k=>k-1
 |.dn k .jD=>k-1
 |.dn k _=>k
def jx.od:jx->Nat
 |.kK k=>k
 |.mk k=>k-1
 |.dn k .jD|.dn k .iE=>k-1
 |.dn k _=>k
def gM.iK:gM->Nat
 |.nj r=>r
 |.fy r _|.jH r|.nh r=>r+1
def gM.kA:gM->Nat
 |.nj r|.fy r _|.jH r|.nh r=>r
def gM.gE(F:Ph)(j:Nat)(k:Nat):gM->Nat
 |.fy r p=>if F.r (j+r*F.n)=k then p.sI else 0
 |_=>0
structure fS(F:Ph) where
 M:fU
 S:jx
 C:Nat->gM
 N:Nat->Option ig
 I:Nat->Nat
 c:Nat->F.γ
 V:Nat->Nat->Prop
 e:Nat->Nat
 d:Nat->Option Nat
 f:Nat->Nat
 b:GS
 a:Nat->GS
 g:Option Nat
 h:Nat->Nat
section
variable{F:Ph}
def fS.r(E:fS F):Nat:=E.M.sp F.n
def fS.G(E:fS F)(x:Nat):Nat:=if x<E.M.ad F.n then lX (E.N x)else 0
def fS.iq(E:fS F)(x:Nat):Prop:=∃e,E.N x=À e/\e.iq
def fS.n7(E:fS F)(x:Nat):Prop:=∃e,E.N x=À e/\e.n7
def fS.Y(E:fS F)(b:Nat):Prop:=F.M b\/b=F.Y\/∃j,j+2<=E.r/\b=E.I j
def tN(n j Q s:Nat):Prop:=∀i,i<s↔j+i*n<Q
def kM:fU->iw
 |.fy .ky=> .iy
 |_=> .no
def kW(F:Ph)(c:Nat):gM->iw
 |.nj _=> .sG c F.z
 |.fy _ .ky=> .iy
 |_=> .no
end
structure Ph.Ok(F:Ph):Prop where
 N:1<=F.n
 r:1<=F.L
 fY:F.n+F.q+F.m<1000
 I:∀i,i<F.q->F.r i<=F.m
 M:∀k,k<=F.m->F.I k≠F.C
 S:∀k k',k<=F.m->k'<=F.m->F.I k=F.I k'->k=k'
 C:¬F.M F.Y
 a:∀i i',i<F.q->i'<F.q->F.a i=F.a i'->i=i'
 pi:∀k k',1<=k->k<=F.m->1<=k'->k'<=F.m->F.b k=F.b k'->k=k'
 PZ:∀i k,i<F.q->1<=k->k<=F.m->F.a i≠F.b k
 gp:∀b,F.M b\/b=F.Y->F.S<=b
 Y:(∀k,1<=k->k<=F.m->F.b k≠F.f)/\∀i,i<F.q->F.a i≠F.f
structure iF(F:Ph)(E:fS F)(lot:Nat->fc)(sz:Nat)(w:Ç):Prop where
 gS:∀i,i<sz->∀a,(lot i).C a->(∃k,k<=F.m/\a=jf F.toFx k)\/∃p,p≠F.f/\a=jk F p
 o:∀x,E.r<=x->x<=F.n->∀a,lR F x a->(lot 0).r a
 lP:E.r<=F.n->(lot 0).N (jf F.toFx 0)/\∀b,F.i b->(lot 0).I b
 e:0<E.r->∀k,E.S.md<k->k<=F.m->(lot F.L).r (jf F.toFx k)/\(lot F.L).r (jk F<|F.b k)
 f:0<E.r->E.N 0=ì->(lot F.L).N (jf F.toFx E.S.md)/\∀b,E.V E.S.md b->(lot F.L).I b
 h:∀j,j+2<=E.r->E.N (j+1)=ì->∀r,j+r*F.n<F.q->(E.C j).kA<=r->(lot<|F.L+1+j).r (jk F<|F.a<|j+r*F.n)
 l:∀j,j+2<=E.r->E.N (j+1)=ì->(lot<|F.L+1+j).N (jf F.toFx 0)/\∀b,F.i b->(lot<|F.L+1+j).I b
 S:∀x,E.n7 x->lot (F.L+x)=kz (lot<|F.L+x)
 M:∀i,(i=0\/∃x,x<E.r/\i=F.L+x/\¬E.n7 x)->¬(lot i).q
 c:∀i,0<i->i<F.L->lot i=kz (lot i)
 I:∀k,k<=E.S.md->∀b,E.V k b->b<w.heap.size/\¬E.Y b/\∀i,i<sz->¬(lot i).O b
 N:∀k,k<=E.S.md->∀i,i<sz->¬(lot i).r (jf F.toFx k)
 g:∀k,1<=k->k<=E.S.md->∀i,i<sz->¬(lot i).r (jk F<|F.b k)
 d:∀j,j+2<=E.r->∀r,j+r*F.n<F.q->r<(E.C j).kA->∀i,i<sz->¬(lot i).r (jk F<|F.a<|j+r*F.n)
structure Wd(F:Ph)(E:fS F)(w:Ç):Prop where
 C:hD w F.C E.b
 I:∀k,k<=F.m->hD w (F.I k) (E.a k)
 jG:∀j,j+2<=E.r->∃buf s,w.heap[E.I j]?=À (ay F.q buf (decide<|j<E.M.je F.n) s (E.C j).iK Â)/\tN F.n j (E.M.mq F.q) s/\(E.C j).iK<=s/\buf.size=s-(E.C j).iK/\∀i,i<s-(E.C j).iK->buf[i]?=À (F.c<|j+((E.C j).iK+i)*F.n)
 M:∀k,k<=E.S.md->nk F k (E.c k)/\F.d k (E.c k) (E.V k) w
 S:∀k,1<=k->k<=E.S.md->w.cell? (jk F<|F.b k)=À (ğ<|F.o k)
 N:∀j,j+2<=E.r->∀r,j+r*F.n<F.q->r<(E.C j).kA->w.cell? (jk F<|F.a<|j+r*F.n)=À (ğ<|F.k<|j+r*F.n)
structure Ps(F:Ph)(E:fS F):Prop where
 v:E.V 0=F.i
 C:∀j,E.M=.go j\/E.M=.lC j\/E.M=.rd j\/E.M=.iE j->j<=F.n
 K:∀j,E.M=.lC j\/E.M=.rd j\/E.M=.iE j->1<=j
 L:∀r,(E.M=.iI r->r<=F.q)/\(E.M=.kS r->r<=F.n)
 J:E.r=0->E.S=.kK 0
 I:∀k,(E.S=.kK k->k<=F.m)/\(E.S=.mk k->1<=k/\k<=F.m)/\(∀p,E.S=.dn k p->1<=k/\k<=F.m)
 z:∀j,E.r<j+2->E.C j=.nj 0
 d:∀j r,j+2<=E.r->((∃p,E.C j=.fy r p)\/E.C j=.jH r\/E.C j=.nh r)->j+r*F.n<F.q
 l:∀j,j+2<=E.r->E.N (j+1)≠ì->j<E.M.je F.n/\∃r,E.C j=.nj r/\∀i,j+i*F.n<F.q->i<r
 f:E.N 0≠ì->E.S=.kK F.m
 h:∀x,E.r<=x->E.N x=ì
 M:∀j j',j+2<=E.r->j'+2<=E.r->E.I j=E.I j'->j=j'
 o:∀j,j+2<=E.r->¬F.M (E.I j)/\E.I j≠F.Y/\F.S<=E.I j
 t:∀c reg,E.b=.cl c reg->c=bQ (F.n+1) E.G/\reg=E.M.gE
 g:∀reg,E.b=.jE reg->bQ (F.n+1) E.G=0/\reg=E.M.gE/\∃x,x<E.r/\E.g=À x/\(E.N x=À (.gd (.gy reg))\/E.N x=À (.gd (.ja reg)))
 u:∀r s,E.b=.gV r s->bQ (F.n+1) E.G=0/\r+s=E.M.gE/\(0<r->∃x,x<E.r/\E.g=À x/\E.N x=À (.gd (.iy r)))
 N:∀x p,E.N x=À (.gd p)->(∀W,p=.gy W\/p=.ja W->E.g=À x/\E.b=.jE W)/\(∀r,p=.iy r->0<r/\E.g=À x/\∃s,E.b=.gV r s)
 B:E.M=.fy .gy\/E.M=.fy .kY\/E.M=.gd->bQ (F.n+1) E.G=0
 e:∀k,1<=k->k<=F.m->E.S.od<k->E.a k=.cl 1 (bQ F.n λj=>(E.C j).gE F j k)
 Y:∀k,k<=F.m->k<=E.S.od->(∃W,(E.S=.dn k (.gy W)\/E.S=.dn k (.ja W))/\E.a k=.jE W/\W=bQ F.n λj=>(E.C j).gE F j k)\/(∃r s,E.S=.dn k (.iy r)/\0<r/\E.a k=.gV r s/\r+s=bQ F.n λj=>(E.C j).gE F j k)\/((∀p,E.S≠ .dn k p)/\((E.a k=.cl 0 0/\(bQ F.n λj=>(E.C j).gE F j k)=0)\/∃s,E.a k=.gV 0 s/\s=bQ F.n λj=>(E.C j).gE F j k))
 w:∀j r,j+2<=E.r->(E.C j=.fy r .gy\/E.C j=.fy r .kY\/E.C j=.jH r)->F.r (j+r*F.n)<=E.S.od
 H:∀j r,j+2<=E.r->E.C j=.fy r .gy->∃a b,E.a (F.r<|j+r*F.n)=.gV a b
 O:E.M=.fy .gy->∃a b,E.b=.gV a b
 S:(∀p,E.M≠ .fy p)->E.M≠ .gd->∃c,E.b=.cl c 0
 y:∀k,k<=F.m->E.a k=.cl 1 0->E.d k=ì
 D:∀j r,j+2<=E.r->E.C j=.fy r .wr->E.d (F.r<|j+r*F.n)=À j
def fg(F:Ph)(E:fS F)(a:Array Ó)(w:Ç):Prop:=∀i g,a[i]?=À g->g.status=ž->
 (i=0/\E.M=.fy .ky/\E.b.sm=0)\/(∃j,j+2<=E.r/\E.N (j+1)=ì/\i=F.L+1+j/\((∃r,E.C j=.fy r .ky/\(E.a<|F.r<|j+r*F.n).sm=0)\/∃r b s c,E.C j=.nj r/\w.heap[E.I j]?=À (ay b #[] Â s c Â)))
structure PI(F:Ph)(t0:Nat)(jj:eb->Prop)(E:fS F)(S:Nat->Jd)(tr:Nat->gu)(kp:Nat->iw)(lot:Nat->fc)(gs:Array Ó)(w:Ç)(t:ħ):Prop where
 b:gs.size=F.L+E.r
 I:gL F.P F.S E.Y S tr kp lot gs w t
 h:S 0=JM F E.I E.M/\kp 0=kM E.M
 m:0<E.r->E.N 0=ì->S F.L=JI F E.c E.S/\kp F.L=.no
 g:∀j,j+2<=E.r->E.N (j+1)=ì->S (F.L+1+j)=JW F (E.I j) j (E.C j)/\kp (F.L+1+j)=kW F (E.I j) (E.C j)
 k:∀x e,x<E.r->E.N x=À e->S (F.L+x)=JE F e/\kp (F.L+x)=.no/\((∃N,e=.jo N)->tr (F.L+x)=.fA)
 l:∀i,0<i->i<F.L->S i=oC F.P (E.h i)/\tr i=.fA/\kp i=.no
 a:iF F E lot gs.size w
 M:Wd F E w
 C:Ps F E
 d:TI F.toFx t0 jj E.r (E.S.rl) E.V E.e E.d E.iq E.f t
 c:fg F E gs w
 f:∀j r,j+2<=E.r->E.C j=.jH r->1<=F.r (j+r*F.n)->bP t (F.L+1+j) (E.e<|F.r<|j+r*F.n)
structure gR(F:Ph):Prop where
 C:F.Ok
 S:∀k s V w w',F.d k s V w->(∀b,V b->w'.heap[b]?=w.heap[b]?)->w'.cell? (jf F.toFx k)=w.cell? (jf F.toFx k)->w'.cell? (jk F F.f)=w.cell? (jk F F.f)->kR w' F.Y=kR w F.Y->(w'.os=w.os/\w'.output=w.output)->F.d k s V w'
 Hf:∀j dk l g w₁,F.g j dk l g->fI l l.w w₁->F.g j dk {l with w:=w₁} g
 I:∀j dk l g,F.g j dk l g->g.status=Ð
 N:∀k l g,F.h k l g->g.status=Ð
 Y:∀c i l g,F.e c i l g->g.status=Ð
 M:∀dk l g,F.j dk l g->g.status=Ð
 go:∀j dk l g,j<=F.n->F.g j dk l g->gw l->l.d=0/\∃(g' child:Ó) (X:Nat->Prop),g'.status=Ð/\child.status=Ð/\(∀w₁,Ü F.P È g w₁=.spawn g' child w₁ #[])/\(∀b,X b->l.O b)/\
  (1<=j->l.O (dk<|j-1)/\¬X (dk<|j-1)/\l.w.heap[dk<|j-1]?=À (ay F.q #[] Â 0 0 Â)/\F.S<=dk (j-1))/\
  (∀l':fc,gw l'->(∀b,X b\/l.I b->l'.I b)->l'.w=l.w->l'.d=0->¬l'.q->(∀b,¬l'.O b)->l'.K=l.K->l'.N=l.N->(∀a,l'.r a->l.r a)->fh F.P Â (if j=0 then F.h 0 else Eo F (dk<|j-1) (j-1) 0) l' child)/\
  (∀l':fc,gw l'->l'.O=(λb=>l.O b/\¬X b/\(1<=j->b≠dk (j-1)))->(∀b,X b\/l.I b->l'.I b)->l'.w=l.w->l'.d=0->l'.q=l.q->l'.K=l.K->l'.N=l.N->(∀a,l'.r a->l.r a)->fh F.P È (JM F dk<|if j<F.n then .iE (j+1)else .iI F.q) l' g')
 f:∀k s V l g,k<F.m->F.h k l g->gw l->nk F k s->F.d k s V l.w->(∀b,V b->l.I b)->l.N (jf F.toFx k)->l.r (jf F.toFx<|k+1)->l.r (jk F<|F.b<|k+1)->∀sg:Nat->F.γ,sg k=s->fh F.P Â (JI F sg<|.mk (k+1)) l g
 h:∀l g,F.h F.m l g->gw l->fh F.P Â (Av F) l g
 e:∀c j r s V l g,j+r*F.n<F.q->F.e c (j+r*F.n) l g->∀l':fc,gw l'->l'.O=l.O->(∀b,l.I b\/V b->l'.I b)->l'.w=l.w->l'.d=l.d->l'.q=l.q->l'.r=l.r->l'.K=l.K->nk F (F.r<|j+r*F.n) s->F.d (F.r<|j+r*F.n) s V l.w->l'.N (jf F.toFx<|F.r<|j+r*F.n)->l'.r (jk F<|F.a<|j+r*F.n)->fh F.P Â (JW F c j<|.nh r) l' g
end Go.Proofs.Y.fu
