/- Simulated: the texts of the proof, packed by program out of some 250: remarks struck, names and blanks shortened, for the limit of a claim's size. -/
import Derived.KernelRfl
import Derived.Conc.Own
import Derived.Conc.Events
import Derived.Laws.Sem
import Derived.Conc.Own5
import Derived.Conc.CompanyDraw
import Derived.Conc.Know
import Derived.Conc.Beside
import Derived.Conc.MarkLaws
import Derived.Conc.CrowdComm
import Derived.Conc.CrowdTrace
import Derived.Conc.CrowdBase
set_option linter.all false
set_option maxRecDepth 1000000
set_option maxHeartbeats 8000000
open Option renaming some->À,none->ë,map_eq_some_iff->Ī,map_some->bR
open Go renaming TypeId->Á,Value->Ã,World->Æ,Goroutine->Ó,Program->Ø,Operand->Ù,Addr->Û,stepG->Ü,FuncId->â,execOp->î,underlying->ö,typeInfo->ý,resolve->þ,IntKind->ÿ,Event->Ă,run_program->Ĉ,variablesAt->ĉ,invoke->Ē,builtin->ė,Sem->Ę,zeroValue->Ě,loadBytes->ě,Frame->Ğ,Trace->Ħ,BinOp->Ĩ,results->ı,behindNumber->ķ,FloatKind->ĺ,callFunc->ľ,askRoom->Ł,newRow->ņ,undef->ň,choose->Ō,yielded->ō,sizeOf->ŕ,storeCells->Ŗ,loadCellsFrom->Ř,convert->Ş,movedNumber->š,elemOf->ŧ,Item->Ũ,movedPointer->ů,binOp->Ÿ,sameAddr->Ż,deafBehind->ż,eqGuard->Ζ,partners->Ω,RuntimeError->η,Next->ξ,cellAtBytes->ai,Tape->az,loadVar->aA,Code->aF,store->aG,Oper->aI,BoundsCode->aJ,storeVar->aV,nilAhead->bh,lone->bl,load->bq,noView->br,liesAt->bu,findLabel->bA,stringish->bD,Unsupported->bG,followBlind->bI,Act->bP,Machine->b9,Question->cj,asBool->cu,asAddr->cw,fieldPlace->cx,viewAt->cA,numberAt->cB,asNumber->cC,getObj->cF,shape->cG,exitTo->cN,gotoIn->cO,mayBeOne->cV,runT->dm,MemOp->dp,loadCells->dq,rowAt->dr,program->du,asIntOf->dw,byteOf->dz,unwind->dE,runN->dF,cellsIn->dG,asInt->dK,TypeDesc->dO,runN_add->dR,Touch->dU,step->dY,Loc->dZ,mark->ea,newObj->ei,PanicEntry->ez,isAgg->eF,Race->eN,newVar->eU,asAgg->eV,frozen->eW
open Bool renaming false->Â,false_eq_true->Å,true->È,and_eq_true_iff->ß,not_true->ă,not_false->ć,and_eq_true->ġ,or_eq_true_iff->ũ,eq_iff_iff->ς,or_eq_true->bS
open Go.Sem renaming run_bind->Ä,runT_bind'->Ñ,run->å,bind->é,runT->ì,run_bind'->Ľ,bind_assoc'->ť,runT_eq->Ι,runT_fst->ο,pure->aU,store->dt,halt->eE
open Or renaming inl->Ç,inr->Î
open Go.Result renaming andThen_ok->É,ok->Ĭ,halt->cm
open Go.Op renaming operands->Ê,equal->ù,maxDepth->Ć,eqGuardIn->ĸ,twoPlaces->Ů,equalIn->θ,addrSub->ι,addrCmp->κ,addrMod->ν,call->σ,intDiv->aC,shift->aW,convert->aY,stringOp->bH,unary->cz,makeInterface->cU,floatArith->df,complexOp->dA,buildSlice->dL,intArith->dM,floatCmp->dN,binOp->eb,makeSlice->ec,fieldAddr->ef,indexAddr->eg,intBits->ek,nilCheck->eK,intCmp->eL
open Array renaming getElem?_eq_some_iff->Ë,getElem?_setIfInBounds_ne->Ï,getElem?_setIfInBounds_self_of_lt->Ò,mem_of_getElem?->Ý,getElem?_eq_getElem->à,getElem?_append_right->Č,empty_append->ē,append_empty->Ĕ,mapM_eq_mapM_toList->ę,mem_append->Ģ,getElem?_push_lt->ĩ,getD_eq_getD_getElem?->İ,range->Ĳ,replicate->ń,append_assoc->Ņ,append_singleton->ŋ,all_eq_true->Ŏ,getElem?_modify->Œ,mem_iff_getElem->Ŕ,getElem?_setIfInBounds->Ŧ,getElem_map->Ε,getElem_extract->ae,forIn_toList->aQ
open Go.stepG renaming exec->Ì,apply->bM
open Go.MemOp renaming ofEvents->Í
open Go.GoStatus renaming running->Ð,finished->ĥ,blocked->Ž
open Nat renaming lt_of_lt_of_le->Ô,le_refl->á,le_trans->û,exists_eq_add_of_le->Υ,div_le_div_right->aj,add_assoc->da,le_of_eq->dI,zero_le->dJ
open Go.Builtin renaming firstCells->Õ,unsafeString_->í,unsafeAdd_->ó,zeroCells->ø,unsafeSliceData_->ĝ,mayShare->ģ,nextslicecap->ĳ,min2->Ļ,append_->ł,min_->ŏ,copy_->ŝ,len_->Ŭ,cap_->ŭ,lenOf->Ο,holdsCells->aN,unsafeSliceData->bC,unsafeString->dj
open Go.Value renaming pointer->Ö,slice->õ,int->ċ,string->Į,bool->Ň,tuple->Ξ,nilIface->bn,nilFunc->cg,chan->eD,func->eT
open List renaming map_toArray->Ú,map_cons->ä,map_nil->æ,mem_cons_self->ð,mem_cons_of_mem->ô,eq_nil_of_length_eq_zero->ą,zipIdx_cons->ĵ,mem_cons->ş,mem_singleton->ź,foldlM_cons->Χ,filter_eq_nil_iff->ρ,foldlM_nil->φ,forIn_cons->χ,mapM_cons->ah,forIn_nil->ax,map_eq_nil_iff->aE,flatMap_cons->bm,mapM_nil->de
open Go.IntKind renaming i64->Þ,u64->è,u32->ţ
open Go.Item renaming inRegion->ã,code->ĕ,inLoop->dB,inBlock->dP,inScope->dQ
open Go.Act renaming eval->ç
open Go.MemAct renaming ofEvent->ê,touch?->Ą,mark->Ť
open Go.Conc renaming mem_ofEvents->ï,touchAt->Ġ,crowd->ŀ,woken->Ű,stepG_region_draw->Κ,parked->Τ,Deaf->π,rcase->ψ,stepG_unwanted->av,g?_old->aS,knows_own->bE,deafBehind_still->bF,stepG_value->bK,stepG_enter->bL,Knows->bN,stepG_cond->cP,mem_listed->cQ,stepG_none->cR,enter_at->cS,deaf_old->c8,touch_of->dV,act?_old->dX,hb_app->eA,touch_mute->eB,counts_old->eC,act?_of->eJ
open Go.Next renaming value->ñ,enter->Ź,skip->aT
open Go.TypeDesc renaming pointer->ò,unsafePointer->Ė,string->ğ,int->Ρ,struct->dx,slice->dy
open Go.Call renaming operands->ú
open Go.Conv renaming unsafePointer->ü,bytesToString->ā,seenAt->Μ,runesToString->aR,floatToFloat->bg,intToString->bz,floatToInt->bU,intToInt->dh
open Go.Loc renaming cell->Ā,mark->ž
open Ne renaming symm->Ċ
open Go.World renaming frozen?->č,setCell->Ď,freeze->Ĝ,cell?->ħ,farLoad->ŗ,farStore->ų,shape?->ζ,setChan->aH,noCell->bb,viewStore->bT
open Go.Extern.BytealgMakeNoZero renaming makeNoZero->ď,digits->ő
open Go.Mode renaming atomic->Đ,plain->ű
open Go.Obj renaming cells->đ,pending->Η,chan->ay
open Go.Callee renaming builtin->Ĥ,value->cD
open Option.some renaming inj->ī,injEq->Ν
open Go.Region renaming wanted->ĭ,schedule->bW,Mode->eR
open Go.Instr renaming sliceBounds->į,sliceBound->Ĵ,buildSlice->Ķ,storeAt->ļ,makeSlice->Ń,extract->ř,fieldAt->Ś,indexAt->ś,sliceAt->Ŝ,makeInterface->Ū,loadAt->ū,sureAddr->Ŵ,fill->ŵ,alloc->ſ,field->Α,slice->Β,index->Γ,build->Δ,panic->Λ,box->aB
open Go.Deferred renaming ofValue->Ĺ
open Go.Mark renaming releaseMerge->Ŀ,noRoom->ε,disable->cW,acquire->cX,enable->dH,release->dW
open Go.Extern.AbiNoEscape renaming same->ŉ
open Go.Halt renaming unsupported->Ŋ
open Go.Trace renaming g?->Ő
open Go.Stepped renaming next->œ
open Go.Touch.Kind renaming atomic->Š
open Go.Frame renaming raise->Ţ,finish_at->υ,finish->bk,catches->di,enter->dS
open Go.Unsupported renaming unsafePointer->Ų,resourceLimit->ŷ,noEntry->cy
open Go.Question renaming appendCap->Ŷ
open Go.GStep renaming after->Θ,go->bj
open Go.Goroutine renaming again->ω
open Except renaming bind->ak,pure->ar,error->bQ,map->cE
open Go.Op.Complex renaming corrected->au,quotient->aD,product->aO,arith->bx,conv->bV,cmp->cH,mul->cI,add->cJ,sub->cK,quo->cL
open Go.BinOp renaming eql->aL,neq->aX
open Go.Operand renaming func->aZ,const->eh,global->eG
open Go.Code renaming cond->bJ,region->bZ,refuse->dD,label->ep,block->eu,scope->ew,skip->eX,loop->eY,exit->eZ
open Go.ConcN renaming sumTo->bO,fork_knows->c9
variable{i n j b k m J j9 j7 j6:Nat}{w u W jX:Æ}{v x z jQ:Ã}{g:Ó}{a p:Û}{h c:Int}{e t T:Á}{d q:Array Ã}{P:Ø}{y:bP}{B:ByteArray}{X:Nat->Prop}{O:Option Û}{l:List Ã}{yQ:Bool}{K H:bP->Æ->Prop}{o:aI}{D:Nat->Nat}{E:Array Ó}{L:List Ũ}{jJ:List Nat}{qX:List Ğ}{qQ:Ù}{qJ:Ħ}{zX:dZ->Prop}{zQ:List Int}{zJ:Go.TypeInfo}{xX:Ù->Ã}{xQ:az}{xJ:Nat×Nat}{wX:aF}{wQ:dp}{wJ:Array Bool}{vX:List ByteArray}{vQ:Ã->Æ->Prop}{vJ:Go.Exit->bP->Æ->Prop}{yX:eR}{Q:Array aI}{f:Ğ}{V:Array Ă}{F:â}{s:Go.Func}
namespace Go.Proofs
theorem U{A:Sort _}{a:A}:a=a:=rfl
theorem Z{p:Prop}(h:p:=by omega):p:=h
theorem A{p:Prop}(h:p:=by decide):p:=h
theorem fi{p:Prop}(h:p:=by simp):p:=h
theorem fp{p:Prop}(h:p:=by kernel_rfl):p:=h
theorem fN{p:Prop}(h:p:=by rfl):p:=h
end Go.Proofs
namespace Go.Proofs.Y.Lift
open Go
structure fl where
 jH:Nat->Nat->Prop
 C:Nat
instance:CoeFun fl λ_=>Nat->Nat->Prop:=⟨fl.jH⟩
def Bi(Y:fl):Prop:=(∀i j a,Y i j->Y i a->j=a)/\(∀i a j,Y i j->Y a j->i=a)/\(∀i j,Y i j->(i<Y.C↔j<Y.C))
def fl.r(Y a:fl):Prop:=(∀i j,Y i j->a i j)/\(Bi Y->Bi a)/\a.C=Y.C
def fl.N(Y:fl)(r a:Nat):fl:=⟨λi j=>Y i j\/(i=r/\j=a),Y.C⟩
def fl.M(Y:fl):Y.r Y:=⟨λ_ _ h=>h,id,U⟩
def fl.I{a b c:fl}(h:a.r b)(k:b.r c):a.r c:=⟨λi j x=>k.1 i j<|h.1 i j x,λx=>k.2.1<|h.2.1 x,k.2.2.trans h.2.2⟩
theorem fl.S{Y:fl}{r:Nat}(c:∀j,¬Y r j)(d:∀a,¬Y a i)(f:Y.C<=r)(g:Y.C<=i):Y.r (Y.N r i):=by
 refine⟨λ_ _ h=>Ç h,λb=>⟨?_,?_,?_⟩,U⟩
 .rintro a j k (x|⟨rfl,rfl⟩) (y|⟨e,rfl⟩)
  .exact b.1 _ _ _ x y
  .grind
  .grind
  .rfl
 .rintro a k j (x|⟨rfl,rfl⟩) (y|⟨rfl,e⟩)
  .exact b.2.1 _ _ _ x y
  .grind
  .grind
  .rfl
 .rintro a j (x|⟨rfl,rfl⟩)
  .exact b.2.2 _ _ x
  .show(a<Y.C↔j<Y.C);omega
def ia(Y:fl)(a b:Û):Prop:=Y a.block b.block/\a.off=b.off/\a.spot=b.spot
def ia.r{Y b:fl}(h:Y.r b)(r:ia Y a p):ia b a p:=⟨h.1 _ _ r.1,r.2⟩
def ia.C{Y:fl}(r:ia Y a p)(n:Nat):ia Y (a.add n) (p.add n):=by
 let⟨b,c,d⟩:=r;unfold Addr.add;by_cases e:n=0
 .rw[if_pos e,if_pos e];exact⟨b,c,d⟩
 .rw[if_neg e,if_neg e];exact⟨b,by simp[c],U⟩
inductive fh(Y:fl):Ã->Ã->Prop
 |mD (b:Bool):fh Y (Ň b) (Ň b)
 |iE (k:ÿ) (n:Int):fh Y (ċ k n) (ċ k n)
 |kK (s:ByteArray):fh Y (Į s) (Į s)
 |lT:fh Y (Ö ë) (Ö ë)
 |j2 {a a':Û} (h:ia Y a a'):fh Y (Ö<|À a) (Ö<|À a')
 |nS (n c:Nat):fh Y (õ ë n c) (õ ë n c)
 |kV {a a':Û} (h:ia Y a a') (n c:Nat):fh Y (õ (À a) n c) (õ (À a') n c)
 |ve:fh Y cg cg
 |fn (f:Fn):fh Y (eT f #[] #[]) (eT f #[] #[])
 |vf:fh Y bn bn
 |vg:fh Y (eD ë) (eD ë)
 |vh:fh Y (.map ë) (.map ë)
 |yq (t:Á) {v v':Ã} (h:fh Y v v'):fh Y (.iface t v) (.iface t v')
 |oL {cs lU:Array Ã} (hs:cs.size=lU.size) (h:∀i (h1:i<cs.size) (h2:i<lU.size),fh Y cs[i] lU[i]):fh Y (.agg cs) (.agg lU)
 |nT {cs lU:Array Ã} (hs:cs.size=lU.size) (h:∀i (h1:i<cs.size) (h2:i<lU.size),fh Y cs[i] lU[i]):fh Y (Ξ cs) (Ξ lU)
def fh.fO{Y a:fl}(h:Y.r a)(r:fh Y v x):fh a v x:=by
 induction r with
 |mD b=>exact .mD b
 |iE k n=>exact .iE k n
 |kK s=>exact .kK s
 |lT=>exact .lT
 |j2 b=>exact .j2 (b.r h)
 |nS n c=>exact .nS n c
 |kV b n c=>exact .kV (b.r h) n c
 |ve=>exact .ve
 |fn f=>exact .fn f
 |vf=>exact .vf
 |vg=>exact .vg
 |vh=>exact .vh
 |yq t _ b=>exact .yq t b
 |oL c _ b=>exact .oL c b
 |nT c _ b=>exact .nT c b
structure fT(Y:fl)(cs lU:Array Ã):Prop where
 r:cs.size=lU.size
 C:∀i (h1:i<cs.size) (h2:i<lU.size),fh Y cs[i] lU[i]
def fT.I{Y a:fl}(h:Y.r a){cs:Array Ã}(r:fT Y cs d):fT a cs d:=⟨r.r,λi b c=>(r.C i b c).fO h⟩
theorem fT.S{Y:fl}(r:fT Y d q)(i:Nat):(d[i]?=ë/\q[i]?=ë)\/∃v b,d[i]?=À v/\q[i]?=À b/\fh Y v b:=by
 by_cases h:i<d.size
 .have a:i<q.size:=by rwa[<-r.r]
  exact Î ⟨d[i],q[i],à h,à a,r.C i h a⟩
 .have a:¬i<q.size:=by rwa[<-r.r]
  grind
def fT.N(Y:fl):fT Y #[] #[]:=⟨U,λi h=>absurd h fi⟩
theorem fT.Vf{Y:fl}(r:fT Y d q)(h:fh Y v x):fT Y (d.push v) (q.push x):=by
 refine⟨by simp[r.r],λi b c=> ?_⟩;simp only[Array.getElem_push];have e:=r.r;by_cases a:i<d.size
 .rw[dif_pos a,dif_pos Z];exact r.C i a Z
 .grind
theorem fT.qO{Y:fl}(r:fT Y d q)(n:Nat)(h:fh Y v x):fT Y (d.setIfInBounds n v) (q.setIfInBounds n x):=by
 refine⟨by simp[r.r],λi c e=> ?_⟩;have f:i<d.size:=by simpa using c
 have g:i<q.size:=by simpa using e
 have a:(d.setIfInBounds n v)[i]?=if n=i then À v else d[i]?:=by grind
 have b:(q.setIfInBounds n x)[i]?=if n=i then À x else q[i]?:=by grind
 rw[à c]at a;rw[à e]at b;by_cases j:n=i
 .grind
 .rw[if_neg j]at a b;rw[à f]at a;rw[à g]at b;injection a with a;injection b with b;rw[a,b];exact r.C i f g
def fT.G{Y:fl}{cs b:Array Ã}(r:fT Y cs d)(t:fT Y q b):fT Y (cs++q) (d++b):=by
 refine⟨by simp[r.r,t.r],λi c g=> ?_⟩;have e:=r.r;have f:=t.r;simp only[Array.getElem_append];by_cases a:i<cs.size
 .rw[dif_pos a,dif_pos Z];exact r.C i a Z
 .rw[dif_neg a,dif_neg Z];have:=t.C (i-cs.size) (by simp at c;omega) (by simp at c;omega);simpa[e]using this
def fT.GN{Y:fl}(r:fT Y d q)(a b:Nat):fT Y (d.extract a b) (q.extract a b):=by refine⟨by simp[r.r],λi c e=> ?_⟩;rw[ae ..,ae ..];exact r.C _ _ _
def fT.M{Y:fl}(h:fh Y v x):fT Y #[v] #[x]:= ⟨U,λi a b=>by have:i=0:=(by simpa using a);subst this;exact h⟩
def fh.gV{Y:fl}(h:fh Y v x):fT Y v.cells x.cells:=by
 cases h with
 |oL a h=>exact⟨a,h⟩
 |mD b=>exact fT.M<|.mD b
 |iE k n=>exact fT.M<|.iE k n
 |kK s=>exact fT.M<|.kK s
 |lT=>exact fT.M .lT
 |j2 b=>exact fT.M<|.j2 b
 |nS n c=>exact fT.M<|.nS n c
 |kV b n c=>exact fT.M<|.kV b n c
 |ve=>exact fT.M .ve
 |fn f=>exact fT.M<|.fn f
 |vf=>exact fT.M .vf
 |vg=>exact fT.M .vg
 |vh=>exact fT.M .vh
 |yq t b=>exact fT.M<|.yq t b
 |nT a h=>exact fT.M<|.nT a h
def yr:Ã->Bool
 |.agg _|Ξ _=>Â
 |_=>È
def GO(e:Á)(n:Nat):Prop:=(e=304\/e=305)/\n<=16
class Aq (P:Ø):Prop where
 lt:∀e n,GO e n->n<P.cellsOf e
def Eg(e:Á)(n a:Nat):Prop:=n=a\/(n<=a/\GO e n)
structure pj(Y:fl)(s:Prop)(e:Á)(c c':Array Ã):Prop where
 r:∀i (_:i<c.size) (_:i<c'.size),fh Y c[i] c'[i]
 I:c.size<=c'.size
 C:c.size=c'.size\/(s/\GO e c.size)
section
variable{Y d:fl}{s:Prop}{c c':Array Ã}
def pj.M(h:fT Y c c'):pj Y s e c c':=⟨h.C,by rw[h.r];exact á _,Ç h.r⟩
def pj.N(h:pj Y s e c c')(a:¬s):fT Y c c':=⟨h.C.resolve_right λq=>a q.1,h.r⟩
def pj.fO(h:pj Y s e c c')(l:Y.r d):pj d s e c c':=⟨λi a b=>(h.r i a b).fO l,h.I,h.C⟩
theorem pj.Ar(h:pj Y s e c c')(i:Nat):(c[i]?=ë/\True)\/∃v a,c[i]?=À v/\c'[i]?=À a/\fh Y v a:=by
 by_cases q:i<c.size
 .have b:=Ô q h.I;exact Î ⟨c[i],c'[i],à q,à b,h.r i q b⟩
 .grind
def pj.adk(h:pj Y s e c c'):Eg e c.size c'.size:=h.C.imp id λq=>⟨h.I,q.2⟩
end
inductive fE(P:Ø){α:Type}(V:fl->α->α->Prop):fl->Ę α->Ę α->Prop
 |fC {Y:fl} {a a':α} (h:V Y a a'):fE P V Y (aU a) (aU a')
 |gB {Y:fl} {a a':Û} {k k':Ã->Ę α} (ha:ia Y a a') (hk:∀v v',fh Y v v'->fE P V Y (k v) (k' v')):fE P V Y (.load ű a k) (.load ű a' k')
 |je {Y:fl} {a a':Û} {v v':Ã} {k k':Ę α} (ha:ia Y a a') (hv:fh Y v v') (hk:fE P V Y k k'):fE P V Y (dt ű a v k) (dt ű a' v' k')
 |yt {Y:fl} {c c':Array Ã} {e:Á} {k k':Nat->Ę α} (hc:fT Y c c') (hk:∀r r',(∀j,¬Y r j)->(∀i,¬Y i r')->Y.C<=r->Y.C<=r'->fE P V (Y.N r r') (k r) (k' r')):fE P V Y (.new (đ c e) k) (.new (đ c' e) k')
 |vi {Y:fl} {r r':Nat} {k k':Option (TypeId×Nat)->Ę α} (hr:Y r r') (hk:∀e n n',Eg e n n'->fE P V Y (k<|À (e,n)) (k'<|À (e,n'))):fE P V Y (.shape r k) (.shape r' k')
 |OO {Y:fl} {a a':Û} {k k':Bool->Ę α} (ha:ia Y a a') (hk:∀b b',(b'=È->b=È)->fE P V Y (k b) (k' b')):fE P V Y (.frozen a k) (.frozen a' k')
 |As {Y:fl} {q:cj} {k k':Nat->Ę α} (hk:∀n,fE P V Y (k n)<|k' n):fE P V Y (.choose q k) (.choose q k')
 |Kp {Y:fl} {k k':Ø->Ę α} (hk:fE P V Y (k P) (k' P)):fE P V Y (.program k) (.program k')
 |Eh {Y:fl} {m:Mark} {k k':Ę α} (hm:m=ε\/∃f,m=.extern f) (hk:fE P V Y k k'):fE P V Y (.mark m k) (.mark m k')
 |fS {Y:fl} {h:Halt} {m:Ę α}:fE P V Y (eE h) m
 |oM {Y:fl} {m m':Ę α} (h:∀u x u',m.run P u≠Ĭ x u'):fE P V Y m m'
def wE{α β:Type}{m:Ę α}{f:α->Ę β}(h:∀u x b,m.run P u≠Ĭ x b):∀u x b,(m.bind f).run P u≠Ĭ x b:=by
 intro u x b e;have c:(m>>=f).run P u=Ĭ x b:=e;rw[Ä]at c;cases d:m.run P u with
 |ok a w=>exact h _ _ _ d
 |halt z w=>rw[d]at c;cases c
def fE.lE{α β:Type}{V:fl->α->α->Prop}{l:fl->β->β->Prop}{Y:fl}{m o:Ę α}{f p:α->Ę β}(h:fE P V Y m o) (g:∀i a k,Y.r i->V i a k->fE P l i (f a) (p k)):fE P l Y (m.bind f) (o.bind p):=by
 induction h with
 |fC h=>exact g _ _ _ (fl.M _) h
 |gB j _ d=>exact .gB j λv c b=>d v c b g
 |je j b _ d=>exact .je j b (d g)
 |yt q _ d=>exact .yt q λr s c e n v=>d r s c e n v λi a k t b=>g i a k (fl.I (fl.S c e n v) t) b
 |vi b _ d=>exact .vi b λe n v c=>d e n v c g
 |OO j _ d=>exact .OO j λb c v=>d b c v g
 |As _ d=>exact .As λn=>d n g
 |Kp _ d=>exact .Kp (d g)
 |Eh c _ d=>exact .Eh c (d g)
 |fS=>exact .fS
 |oM h=>exact .oM (wE h)
def yu:Ã->Bool
 |ċ .u8 _=>È
 |_=>Â
def Ei(c:Array Ã):Prop:=∀(k:Nat) (v:Ã),c[k]?=À v->yu v=Â
structure jj(Y:fl)(Sh:Nat->Prop)(u w:Æ):Prop where
 S:u.tape=w.tape
 N:u.drawn=w.drawn
 C:Bi Y
 I:Y.C<=u.heap.size
 M:Y.C<=w.heap.size
 r:∀i j,Y i j->∃c c' e fr wF,u.heap[i]?=À (đ c e fr)/\w.heap[j]?=À (đ c' e wF)/\pj Y (Sh j) e c c'/\(Sh j->fr.1=0/\c.size<=fr.2/\wF.2<=fr.2/\0<c.size/\(Ei c\/GO e c.size))/\(¬Sh j->fr=wF)/\fr.2<=c.size
structure nU(Y:fl)(Sh:Nat->Prop)(w w':Æ):Prop where
 r:w.heap.size<=w'.heap.size
 I:w'.os=w.os
 M:w'.output=w.output
 S:w'.tape=w.tape
 C:∀j,j<w.heap.size->(∀i,¬Y i j)->w'.heap[j]?=w.heap[j]?
 N:∀j,Sh j->j<w.heap.size->w'.heap[j]?=w.heap[j]?
def At(Y:fl)(b:Nat->Prop)(e:Ă):Prop:=
 (∃(a:Û) (i:Nat),e.loc=Ā a/\Y i a.block/\e.sync=Â/\(e.write=È->¬b a.block))\/e.loc=ž ε\/∃f,e.loc=ž (.extern f)
def wG{α:Type}{m:Mode}{k:Ę α}(h:yr v=È): å P (dt m a v k) w=(match w.cell? a with
 |some _=>if w.frozen? a then cm (Ŋ<|Ų "a write to bytes that a string shares") w else k.run P (w.setCell a v)
 |none=>match w.farStore P a v (m==Đ)with
  |.ok (w,_)=>k.run P w
  |bQ h=>cm h w):=by
 cases v<;>first|rfl|cases h
def adl{α:Type}{m:Mode}{k:Ę α}(h:yr v=È): ì P (dt m a v k) w V=(match w.cell? a with
 |some _=>
  if w.frozen? a then(cm (Ŋ<|Ų "a write to bytes that a string shares") w,V)
  else k.runT P (w.setCell a v) (V.push ⟨Ā a,È,m==Đ⟩)
 |none=>match w.farStore P a v (m==Đ)with
  |.ok (w,touched)=>k.runT P w (V++touched.toArray.map (⟨.cell ·,È,m==.atomic⟩))
  |bQ h=>(cm h w,V)):=by
 cases v<;>first|rfl|cases h
def adn{α:Type}{m:Mode}{k:Ę α}(h:yr v=Â){x:α}:å P (dt m a v k) w≠Ĭ x u:=by cases v<;>first|exact Bool.noConfusion h|(intro e;simp[å]at e)
def ado{Y:fl}(h:fh Y v x):yr x=yr v:=by cases h<;>rfl
section
variable{Y:fl}
def Au(h:u.heap[a.block]?=À (đ d e xJ)):u.cell? a=if a.spot.isSome then ë else d[a.off]?:=by simp[ħ,h]
def adp(h:u.heap[a.block]?=À (đ d e xJ))(b:Bool):∃x,u.farLoad P a b=bQ x:=by simp[ŗ,h]
def adq(h:u.heap[a.block]?=À (đ d e xJ))(b:Bool):∃x,u.farStore P a v b=bQ x:=by simp[ų,h]
def jj.gB(h:jj Y X u w){a':Û}(i:ia Y a a')(b:u.cell? a=À v):∃f,w.cell? a'=À f/\fh Y v f:=by
 let⟨j,k,l⟩:=i;let⟨c,s,e,t,y,m,n,o,_⟩:=h.r _ _ j;rw[Au m]at b;rw[Au n,<-k,<-l];cases g:a.spot with
 |some x=>rw[g]at b;cases b
 |none=>
  rw[g]at b;rcases o.Ar a.off with⟨d,_⟩|⟨x,p,d,q,r⟩
  .simp[d]at b
  .simp[d]at b;subst b;exact⟨p,by simp[q],r⟩
theorem jj.adr(h:jj Y X u w)(g:ia Y a p)(i:u.cell? a=À v)(j:u.frozen? a=Â):¬X p.block/\w.frozen? p=Â:=by
 let⟨k,l,q⟩:=g;let⟨c,r,e,b,s,d,m,t,x,n,y⟩:=h.r _ _ k;rw[Au d]at i;have z:a.off<c.size:=by grind
 have o:(decide (b.1<=a.off)&&decide (a.off<b.2))=Â:=by simpa[č,d]using j
 have f:¬X p.block:=by grind
 refine⟨f,?_⟩;have:=n f;subst this;simp only[č,m,<-l];exact o
def Vg{w:Æ}(h:w.heap[a.block]?=À (đ d e xJ))(b:a.spot=ë): (w.setCell a v).heap[a.block]?=À (đ (d.setIfInBounds a.off v) e xJ):=by simp[Ď,Œ,h,b]
def j4{w:Æ}:(w.setCell a v).heap.size=w.heap.size:=by simp[Ď]
def Kq{w:Æ}(h:a.block≠j):(w.setCell a v).heap[j]?=w.heap[j]?:=by simp[Ď,Œ,h]
def jj.je(h:jj Y X u w)(B:ia Y a p)(C:fh Y v z)(D:u.cell? a=À x)(m:¬X p.block):jj Y X (u.setCell a v) (w.setCell p z):=by
 let⟨d,E,F⟩:=B;have n:a.spot=ë:=by let⟨c,o,e,f,g,b,_⟩:=h.r _ _ d;rw[Au b]at D;simp_all
 refine⟨h.S,h.N,h.C,by rw[j4];exact h.I,by rw[j4];exact h.M,λi j k=> ?_⟩;let⟨c,o,e,f,g,b,q,r,G,t,y⟩:=h.r i j k;by_cases l:a.block=i
 .subst l;have:j=p.block:=h.C.1 _ _ _ k d;subst this;exact⟨_,_,e,f,g,Vg b n,Vg q (by rw[<-F,n]),by rw[<-E];exact pj.M<|(r.N m).qO _ C,λs=>absurd s m,t,by simpa using y⟩
 .exact⟨c,o,e,f,g,by rwa[Kq l],by rwa[Kq λe=>l<|h.C.2.1 _ _ _ d<|e▸k],r,G,t,y⟩
theorem jj.yt(h:jj Y X u w)(m:∀j,X j->j<w.heap.size)(n:fT Y d q): jj (Y.N u.heap.size w.heap.size) X {u with heap:=u.heap.push (đ d e)} {w with heap:=w.heap.push (đ q e)}:=by
 have a:∀i j,Y i j->i<u.heap.size/\j<w.heap.size:=by intro i j s;let⟨_,_,_,_,_,f,g,_⟩:=h.r i j s;grind
 have b:=fl.S (Y:=Y) (λj x=>absurd (a _ _ x).1 Z) (λi x=>absurd (a _ _ x).2 Z) h.I h.M;refine⟨h.S,h.N,b.2.1 h.C,by have:=h.I;simp[fl.N];omega,by have:=h.M;simp[fl.N];omega,?_⟩
 .rintro i j (x|⟨rfl,rfl⟩)
  .let⟨s,o,p,r,t,f,g,v,y,z,B⟩:=h.r i j x;let⟨k,l⟩:=a i j x;exact⟨s,o,p,r,t,by simp only[ĩ k];rw[<-f,à k],by simp only[ĩ l];rw[<-g,à l],v.fO b,y,z,B⟩
  .exact⟨d,q,e,(0,0),(0,0),fi,fi,pj.M<|n.I b,λs=>absurd (m _ s) Z,λ_=>rfl,dJ _⟩
def nU.fW(Y:fl)(X:Nat->Prop)(w:Æ):nU Y X w w:=⟨á _,U,U,U,λ_ _ _=>rfl,λ_ _ _=>rfl⟩
def nU.fe{b:fl}{w₁:Æ}(h:nU Y X w w₁)(k:nU b X w₁ u)(d:∀i j,b i j->Y i j\/w.heap.size<=j):nU Y X w u:= ⟨û h.r k.r,k.I.trans h.I,k.M.trans h.M,k.S.trans h.S,λj a c=>(k.C j (Ô a h.r) λi y=>(d i j y).elim (c i) λz=>by omega).trans<|h.C j a c,λj s a=>(k.N j s<|Ô a h.r).trans<|h.N j s a⟩
def Kr{w:Æ}:(w.freeze a n).heap.size=w.heap.size:=by unfold Ĝ;split<;>simp
def ads{w:Æ}:(w.freeze a n).os=w.os:=by unfold Ĝ;split<;>rfl
def adt{w:Æ}:(w.freeze a n).output=w.output:=by unfold Ĝ;split<;>rfl
def OP{w:Æ}:(w.freeze a n).tape=w.tape:=by unfold Ĝ;split<;>rfl
def Vh{w:Æ}:(w.freeze a n).drawn=w.drawn:=by unfold Ĝ;split<;>rfl
theorem Ks{w:Æ}(h:a.block≠j):(w.freeze a n).heap[j]?=w.heap[j]?:=by unfold Ĝ;split;all_goals grind
def sP(a:Û)(n:Nat)(b:Nat×Nat):Nat×Nat:=if n=0 then b else if b.1==b.2 then(a.off,a.off+n)else(min b.1 a.off,max b.2<|a.off+n)
theorem Vi{w:Æ}(h:w.heap[a.block]?=À (đ d e xJ)):(w.freeze a n).heap[a.block]?=À (đ d e<|sP a n xJ):=by unfold Ĝ sP;grind
def Vj(h:a.off=p.off)(n:Nat)(b:Nat×Nat):sP a n b=sP p n b:=by unfold sP;rw[h]
theorem adu(h:a.off+n<=i)(b:xJ.2<=i):(sP a n xJ).2<=i:=by unfold sP;grind
theorem adv{b:Nat×Nat}(c:0<i)(d:xJ.1=0)(e:i<=xJ.2)(f:b.2<=xJ.2):(sP a n xJ).1=0/\i<=(sP a n xJ).2/\(sP a n b).2<=(sP a n xJ).2:=by unfold sP;grind
def jj.adw(h:jj Y X u w)(y:ia Y a p)(n:Nat)(z:∀c e b,u.heap[a.block]?=À (đ c e b)->a.off+n<=c.size):jj Y X (u.freeze a n) (w.freeze p n):=by
 obtain⟨k,l,I⟩:=y;refine⟨OP.trans<|h.S.trans OP.symm,Vh.trans<|h.N.trans Vh.symm,h.C,by rw[Kr];exact h.I,by rw[Kr];exact h.M,λi j d=> ?_⟩;obtain⟨c,m,e,b,B,f,o,q,r,t,v⟩:=h.r i j d;by_cases g:a.block=i
 .subst g;have:j=p.block:=h.C.1 _ _ _ d k;subst this;refine⟨c,m,e,_,_,Vi f,Vi o,q,λs=> ?_,λs=> ?_,adu (z _ _ _ f) v⟩
  .obtain⟨C,D,E,x⟩:=r s;rw[<-Vj l];obtain⟨F,G,H⟩:=adv x.1 C D E;exact⟨F,G,H,x⟩
  .rw[t s,Vj l]
 .exact⟨c,m,e,b,B,by rwa[Ks g],by rwa[Ks λe=>g<|h.C.2.1 _ _ _ k<|e▸d],q,r,t,v⟩
theorem jj.G(h:jj Y X u w)(b:ia Y a p):w.frozen? p=È->u.frozen? a=È:=by let⟨d,f,j⟩:=b;let⟨c,k,e,l,m,g,i,n,o,q,r⟩:=h.r _ _ d;simp only[č,g,i,<-f,ġ,decide_eq_true_eq];rintro⟨x,y⟩;by_cases s:X p.block;all_goals grind
theorem fE.gl{α:Type}{V:fl->α->α->Prop}{Y:fl}{m m':Ę α}(h:fE P V Y m m'):∀{u w:Æ},jj Y X u w->(∀j,X j->j<w.heap.size)->∀{x:α} {E:Æ},m.run P u=Ĭ x E->∀n:Array Ă,∃(l:fl) (t:α) (p:Æ) (B:Array Ă),Y.r l/\(∀i j,l i j->Y i j\/(u.heap.size<=i/\w.heap.size<=j))/\m'.runT P w n=(Ĭ t p,n++B)/\V l x t/\jj l X E p/\nU Y X w p/\(∀e∈B,At l X e)/\u.heap.size<=E.heap.size:=by
 induction h with
 |fC h=>
  intro u w d _ x E b n;simp only[å]at b;cases b;exact⟨_,_,w,#[],fl.M _,λ_ _ h=>Ç h,by simp[ì],h,d,nU.fW _ _ _,λe o=>by simp at o,á _⟩
 |@gB Y a a' k k' ha hk D=>
  intro u w d C x E b n;simp only[å]at b;cases f:u.cell? a with
  |none=>
   let⟨c,Q,e,fr,wF,O,_⟩:=d.r _ _ ha.1;let⟨z,s⟩:=adp (P:=P) O<|ű==Đ;rw[f]at b;simp only[s]at b;cases b
  |some v=>
   rw[f]at b;let⟨W,S,y⟩:=d.gB ha f;let⟨l,t,p,B,F,G,I,J,K,g,L,H⟩:=D v W y d C b<|n.push ⟨Ā a',Â,Â⟩;refine⟨l,t,p,#[⟨Ā a',Â,Â⟩]++B,F,G,?_,J,K,g,λe o=> ?_,H⟩
   .simp only[ì,S];rw[show((ű==Đ)=Â)from U,I];rw[<-Ņ,ŋ]
   .rcases Ģ.1 o with o|o
    .simp at o;subst o;exact Ç ⟨a',_,U,F.1 _ _ ha.1,U,λe=>by cases e⟩
    .exact L e o
 |@je Y a a' v W k k' ha hv _ D=>
  intro u w d C x E b n;cases ho:yr v with
  |false=>exact absurd b<|adn ho
  |true=>
   rw[wG ho]at b;cases f:u.cell? a with
   |none=>
    let⟨c,Q,e,fr,wF,O,_⟩:=d.r _ _ ha.1;let⟨z,s⟩:=adq (P:=P) (v:=v) O<|ű==Đ;rw[f]at b;simp only[s]at b;cases b
   |some y=>
    rw[f]at b;cases M:u.frozen? a with
    |true=>rw[M]at b;simp at b
    |false=>
     simp only[M,Å,if_false]at b;let⟨ns,hf'⟩:=d.adr ha f M;let⟨y',OQ,_⟩:=d.gB ha f;let⟨l,t,p,B,F,G,I,J,K,g,L,H⟩:=D (d.je ha hv f ns) (by rwa[j4]) b<|n.push ⟨Ā a',È,Â⟩;have S:(w.setCell a' W).heap.size=w.heap.size:=j4;have Vk:(u.setCell a v).heap.size=u.heap.size:=j4;refine⟨l,t,p,#[⟨Ā a',È,Â⟩]++B,F,by rwa[S,Vk]at G,?_,J,K,?_,λe o=> ?_,by rwa[Vk]at H⟩
     .rw[adl<|(ado hv).trans ho,OQ];simp only[hf',Å,if_false];rw[show((ű==Đ)=Â)from U,I];rw[<-Ņ,ŋ]
     .refine⟨by rw[<-S];exact g.r,g.I,g.M,g.S,λj N T=> ?_,λj s N=>(g.N j s<|by rwa[S]).trans<|Kq λe=>ns<|e▸s⟩;rw[g.C j (by rwa[S]) T];exact Kq λe=>T a.block<|e▸ha.1
     .rcases Ģ.1 o with o|o
      .simp at o;subst o;exact Ç ⟨a',_,U,F.1 _ _ ha.1,U,λ_=>ns⟩
      .exact L e o
 |@yt Y c Q e k k' f _ D=>
  intro u w d C x E b n;simp only[å]at b;have W:∀i j,Y i j->i<u.heap.size/\j<w.heap.size:=by intro i j S;let⟨_,_,_,_,_,O,hw',_⟩:=d.r i j S;grind
  have n1:∀j,¬Y u.heap.size j:=λj y=>absurd (W _ _ y).1 Z;have n2:∀i,¬Y i w.heap.size:=λi y=>absurd (W _ _ y).2 Z;let⟨l,t,p,B,F,G,I,J,K,g,L,H⟩:=D u.heap.size w.heap.size n1 n2 d.I d.M (d.yt C f) (λj s=>by have:=C j s;simp;omega) b n;refine⟨l,t,p,B,fl.I (fl.S n1 n2 d.I d.M) F,λi j S=> ?_,by simp only[ì];exact I,J,K,?_,L,by simp at H;omega⟩
  .rcases G i j S with(y|⟨rfl,rfl⟩)|y
   .exact Ç y
   .exact Î ⟨á _,á _⟩
   .simp at y;exact Î ⟨Z,Z⟩
  .have hs:=g.r;simp at hs;refine⟨Z,g.I,g.M,g.S,λj N T=> ?_,λj s N=>(g.N j s<|by simp;omega).trans ?_⟩
   .rw[g.C j (by simp;omega) (λi z=>z.elim (T i) λz=>by omega)];simp[ĩ N]
   .simp[ĩ N]
 |@vi Y r r' k k' pn _ D=>
  intro u w d C x E b n;simp only[å]at b;let⟨c,Q,e,fr,wF,O,hw',S,_⟩:=d.r _ _ pn;have f:u.shape? r=À (e,c.size):=by simp[ζ,O]
  have s:w.shape? r'=À (e,Q.size):=by simp[ζ,hw']
  rw[f]at b;let⟨l,t,p,B,h⟩:=D e c.size Q.size S.adk d C b n;exact⟨l,t,p,B,by simp only[ì,s];exact h⟩
 |@OO Y a a' k k' ha _ D=>
  intro u w d C x E b n;simp only[å]at b;let⟨l,t,p,B,h⟩:=D (u.frozen? a) (w.frozen? a') (d.G ha) d C b n;exact⟨l,t,p,B,by simpa only[ì]using h⟩
 |@As Y q k k' _ D=>
  intro u w d C x E b n;simp only[å]at b;cases M:q.forced with
  |true=>
   rw[M]at b;simp only[if_true]at b;let⟨l,t,p,B,h⟩:=D 0 d C b n;exact⟨l,t,p,B,by simpa only[ì,M,if_true]using h⟩
  |false=>
   rw[M]at b;simp only[Å,if_false]at b;have S:jj Y X {u with drawn:=u.drawn+1} {w with drawn:=w.drawn+1}:=⟨d.S,by simp[d.N],d.C,d.I,d.M,d.r⟩;rw[d.S,d.N]at b;obtain⟨l,t,p,B,F,G,I,J,K,g,L,H⟩:=D (q.cut<|w.tape w.drawn q) S C (by rwa[d.S,d.N]) n;exact⟨l,t,p,B,F,G,by simp only[ì,M,Å,if_false];exact I,J,K,⟨g.r,g.I,g.M,g.S,g.C,g.N⟩,L,H⟩
 |Kp _ D=>
  intro u w d C x E b n;simp only[å]at b;let⟨l,t,p,B,h⟩:=D d C b n;exact⟨l,t,p,B,by simpa only[ì]using h⟩
 |@Eh Y mk k k' hm _ D=>
  intro u w d C x E b n;simp only[å]at b;let⟨l,t,p,B,F,G,I,J,K,g,L,H⟩:=D d C b<|n.push ⟨ž mk,Â,È⟩;refine⟨l,t,p,#[⟨ž mk,Â,È⟩]++B,F,G,?_,J,K,g,λe o=> ?_,H⟩
  .simp only[ì];rw[I];rw[<-Ņ,ŋ]
  .rcases Ģ.1 o with o|o
   .simp at o;subst o;rcases hm with rfl|⟨f,rfl⟩
    .exact Î<|Ç U
    .exact Î<|Î ⟨f,U⟩
   .exact L e o
 |fS=>
  intro u w _ _ x E b n;simp only[å]at b;cases b
 |oM h=>
  intro u w _ _ x E b n;exact absurd b<|h _ _ _
end
inductive jU:Ã->Prop
 |mD (b:Bool):jU (Ň b)
 |iE (k:ÿ) (n:Int):jU (ċ k n)
 |kK (s:ByteArray):jU (Į s)
 |lT:jU (Ö ë)
 |nS (n c:Nat):jU (õ ë n c)
 |ve:jU cg
 |vf:jU bn
 |vg:jU (eD ë)
 |vh:jU (.map ë)
 |oL {cs:Array Ã} (h:∀i (h:i<cs.size),jU cs[i]):jU (.agg cs)
 |nT {cs:Array Ã} (h:∀i (h:i<cs.size),jU cs[i]):jU (Ξ cs)
def jU.jH(h:jU v)(Y:fl):fh Y v v:=by
 induction h with
 |mD b=>exact .mD b
 |iE k n=>exact .iE k n
 |kK s=>exact .kK s
 |lT=>exact .lT
 |nS n c=>exact .nS n c
 |ve=>exact .ve
 |vf=>exact .vf
 |vg=>exact .vg
 |vh=>exact .vh
 |oL _ b=>exact .oL U λi c _=>b i c
 |nT _ b=>exact .nT U λi c _=>b i c
def nV(P:Ø):Prop:=∀t i z,P.info? t=À i->i.zero=À z->jU z
def jv{α:Type}:fl->α->α->Prop:=λ_ a b=>a=b
section
variable{Y:fl}
def fD{α β:Type}{V:fl->α->α->Prop}{V':fl->β->β->Prop}{m c:Ę α}{f d:α->Ę β}(h:fE P V Y m c) (g:∀b a e,Y.r b->V b a e->fE P V' b (f a) (d e)):fE P V' Y (m>>=f) (c>>=d):=fE.lE h g
def sQ{α β:Type}{c:fl->β->β->Prop}{m:Ę α}{f d:α->Ę β}(h:fE P jv Y m m) (g:∀b a,Y.r b->fE P c b (f a) (d a)):fE P c Y (m>>=f) (m>>=d):= fE.lE h λb a i j (e:a=i)=>by subst e;exact g b a j
def rG:fE P (λ_ a b=>a=P/\b=P) Y du du:=.Kp (.fC ⟨U,U⟩)
def OS{α:Type}{V:fl->α->α->Prop}{e:η}(h:(∃x y s c,e=.bounds x y s c)\/(∃m,e=.error m)\/(∃m,e=.plain m)\/e=.nilDeref):fE P V Y (runtimePanic e) (runtimePanic e):=by unfold runtimePanic;refine fD rG ?_;rintro f a g _ ⟨b,d⟩;rw[b,d];rcases h with⟨x,y,s,c,rfl⟩|⟨m,rfl⟩|⟨m,rfl⟩|rfl<;>exact .fS
theorem GQ{α:Type}{V:fl->α->α->Prop}{k:ÿ}{y:Int}{c:aJ}:fE P V Y (boundsPanic k h y c) (boundsPanic k h y c):=by
 unfold boundsPanic;simp only[];split
 .apply sQ (.As λn=> .fC U);grind [OS]
 .grind [OS]
def yv(t:Á):fE P (λ_ a b=>a=b/\P.info? t=À a) Y (ý t) (ý t):=by
 unfold ý;apply fD rG;rintro e a b _ ⟨c,d⟩;rw[c,d];cases h:P.info? t with
 |some i=>exact .fC ⟨U,U⟩
 |none=>exact .fS
def jf(t:Á):fE P (λ_ a b=>a=b/\P.underlying t=À a) Y (ö t) (ö t):=by
 unfold ö;apply fD rG;rintro e a b _ ⟨c,d⟩;rw[c,d];cases h:P.underlying t with
 |some i=>exact .fC ⟨U,U⟩
 |none=>exact .fS
def GR(b:nV P)(t:Á):fE P fh Y (Ě t) (Ě t):=by
 unfold Ě;apply fD (yv t);rintro d a e _ ⟨rfl,h⟩;cases c:a.zero with
 |some z=>exact .fC ((b t a z h c).jH _)
 |none=>exact .fS
def np(t:Á):fE P (λ_ a b=>a=b/\∃i,P.info? t=À i/\i.size=a) Y (ŕ t) (ŕ t):=by unfold ŕ;apply fD (yv t);rintro i a b _ ⟨rfl,h⟩;exact .fC ⟨U,_,h,U⟩
def Vl(t:Á):fE P jv Y (eF t) (eF t):=by unfold eF;apply fD (jf t);rintro b a c _ ⟨rfl,_⟩;split<;>exact .fC U
def Kt(h:ia Y a p):fE P fh Y (bq a) (bq p):=.gB h λ_ _ b=> .fC b
def adx(h:ia Y a p)(b:fh Y v x):fE P jv Y (aG a v) (aG p x):=.je h b (.fC U)
def ady:∀{Y:fl} {a b:Û} {i:Nat} {c d:Array Ã},ia Y a b->fT Y c d->fE P fT Y (Ř a i n c) (Ř b i n d):=by
 induction n with
 |zero=>intro Y a b i c d _ e;exact .fC e
 |succ n h=>
  intro Y a b i c d f e;unfold Ř;apply fD (Kt<|f.C i);exact λk v l g j=>h (f.r g)<|(e.I g).Vf j
def OT(h:ia Y a p)(n:Nat):fE P fT Y (dq a n) (dq p n):=ady h<|fT.N Y
def OU:∀{d c:List Ã} {Y:fl} {a e:Û} {i:Nat},ia Y a e->fT Y d.toArray c.toArray->fE P jv Y (Ŗ a d i) (Ŗ e c i):=by
 intro d
 induction d with
 |nil=>
  intro c Y a e i _ b;have:c=[]:=by have:=b.r;simp at this;exact ą this.symm
  subst this;exact .fC U
 |cons v d h=>
  intro c Y a e i f b;match c,b with
  |[],b=>have:=b.r;simp at this
  |v'::c,b=>
   unfold Ŗ;refine fD (adx (f.C i) (by have:=b.C 0 fi fi;simpa using this)) ?_;intro m _ _ g _;apply h (f.r g);refine⟨by have:=b.r;simpa using this,λj k l=> ?_⟩;have:=b.C (j+1) (by simp at k|-;omega) (by simp at l|-;omega);exact(by simpa using this:fh Y _ _).fO g
def Vm(h:ia Y a p)(t:Á):fE P fh Y (aA t a) (aA t p):=by
 unfold aA;apply sQ (Vl t);intro g b d;split
 .apply fD (np t);rintro i n _ f ⟨rfl,_⟩;apply fD (OT ((h.r d).r f) n);exact λj c k _ e=> .fC (.oL e.r e.C)
 .exact Kt<|h.r d
def adz(h:ia Y a p)(t:Á)(d:fh Y v x):fE P jv Y (aV t a v) (aV t p x):=by
 unfold aV;apply fD (np t);rintro f n _ b ⟨rfl,_⟩;have c:=(d.fO b).gV;by_cases e:v.cells.size≠n
 .rw[if_pos e];exact .fS
 .rw[if_neg e,if_neg (by rwa[<-c.r])];exact OU (h.r b) c
def GU(e:Á)(h:fT Y d q):fE P ia Y (ņ e d) (ņ e q):= .yt h λ_ _ _ _ _ _=> .fC ⟨Î ⟨U,U⟩,U,U⟩
def Vo(t:Á)(h:fh Y v x):fE P ia Y (eU t v) (eU t x):=GU t h.gV
def Vp(t:Á)(h:fT Y d q)(a:Nat):fE P fh Y (part t d a) (part t q a):=by
 unfold part;apply sQ (Vl t);intro i b e;split
 .apply fD (np t);rintro g n _ f ⟨rfl,_⟩;have:=((h.I e).I f).GN a<|a+n;exact .fC (.oL this.r this.C)
 .rcases(h.I e).S a with⟨n,f⟩|⟨v,j,n,f,g⟩
  .rw[n];exact .fS
  .rw[n,f];exact .fC g
def GV(h:fh Y v x):fE P ia Y (Ŵ v) (Ŵ x):=by cases h<;>first|exact .fS|(rename_i a;exact .fC a)
def Ku(h:fh Y v x):fE P jv Y (dw v) (dw x):=by cases h<;>first|exact .fC U|exact .fS
def OV(h:fh Y v x):fE P jv Y (dK v) (dK x):=by unfold dK;apply fD (Ku h);rintro b a _ _ rfl;exact .fC U
def Vq(h:fh Y v x):fE P jv Y (cu v) (cu x):=by cases h<;>first|exact .fC U|exact .fS
def adA(h:fh Y v x):fE P fT Y (eV v) (eV x):=by cases h<;>first|exact .fS|(rename_i a y;exact .fC ⟨a,y⟩)
def Vr(h:fh Y v x):fE P ia Y (cw v) (cw x):=by cases h<;>first|exact OS (Î<|Î<|Î U)|(rename_i a;exact .fC a)|exact .fS
def adB(b:nV P)(t:Á)(v:Ã):fE P fh Y (ſ t È v) (ſ t È v):=by unfold ſ;apply fD (GR b t);intro d z e _ h;apply fD (Vo t h);exact λf a g _ c=> .fC (.j2 c)
def adC(t:Á)(h:fh Y v x):fE P fh Y (aB t v) (aB t x):=by unfold aB;apply fD (Vo t h);exact λc a d _ b=> .fC (.j2 b)
theorem adD(t:Á)(h:fh Y v x):fE P fh Y (ū t v) (ū t x):=by unfold ū;apply fD (GV h);grind [Vm]
def adE(t:Á)(b:fh Y x z)(h:fh Y v jQ):fE P jv Y (ļ t x v) (ļ t z jQ):=by unfold ļ;apply fD (GV b);exact λd x z c b=>adz b t<|h.fO c
def adF(h:fh Y v x)(n:Nat):fE P fh Y (ř v n) (ř x n):=by
 cases h<;>first|exact .fS|skip
 rename_i e f c h;simp only[ř];rcases(fT.mk c h).S n with⟨a,b⟩|⟨v,x,a,b,d⟩
 .rw[a];exact .fS
 .rw[a,b];exact .fC d
def adG(t:Á)(h:fh Y v x)(n:Nat):fE P fh Y (Α t v n) (Α t x n):=by
 unfold Α;apply fD (jf t);rintro g d _ a ⟨rfl,_⟩;split
 .rename_i b _;cases i:b[n]? with
  |none=>exact .fS
  |some f=>
   apply fD (adA<|h.fO a);exact λj c k _ e=>Vp f.type e f.offset
 .exact .fS
end
section
variable{Y:fl}
def Av{α β:Type}{V:fl->β->β->Prop}{a b:α}{f c:α->Ę β}(h:fE P V Y (f a) (c b)):fE P V Y (pure a>>=f) (pure b>>=c):=h
def adH(s:Á)(h:fh Y v x)(n:Nat)(e:∀c f i,P.underlying s=À (dx c)->c[n]?=À f->P.info? f.type=À i->i.size≠0): fE P fh Y (Ś s v n) (Ś s x n):=by
 unfold Ś;apply fD (jf s);rintro r d _ g ⟨rfl,j⟩;cases d<;>try exact .fS
 .rename_i c;simp only[];cases k:c[n]? with
  |none=>exact .fS
  |some f=>
   apply fD (GV<|h.fO g);intro t a u _ l;unfold cx;refine fD (fD (V':=ia) (np f.type) ?_) ?_
   .rintro w z _ m ⟨rfl,i,o,p⟩;have:¬z=0:=by rw[<-p];exact e c f i j k o
    rw[if_neg this,if_neg this];exact .fC ((l.r m).C _)
   .exact λy b B _ q=> .fC (.j2 q)
def adI(t:Á){s:Ã}(w:fh Y x v)(y:fh Y jQ s):fE P fh Y (ś t x jQ) (ś t v s):=by
 unfold ś;apply fD (Ku y);rintro I ⟨k,n⟩ _ B rfl;apply fD (jf t);rintro J d _ C ⟨rfl,K⟩;have u:=(w.fO B).fO C;have D:∀{j:fl} {b g:Option Û} (f:Nat) (e:Á),((b=ë/\g=ë)\/∃a h,b=À a/\g=À h/\ia j a h)->∀(o:Bool),fE P fh j (match b with
   |some a=>if 0<=n/\n<f then do pure (Ö<|À<|a.add<|n.toNat*(<-ŕ e))else if o=È then unsupported (cy "op/indexAddr.an index out of range at an array of length 0 or 1 (ledger 616)")else boundsPanic k n f .index
   |none=>boundsPanic k n 0 .index)
  (match g with
   |some a=>if 0<=n/\n<f then do pure (Ö<|À<|a.add<|n.toNat*(<-ŕ e))else if o=È then unsupported (cy "op/indexAddr.an index out of range at an array of length 0 or 1 (ledger 616)")else boundsPanic k n f .index
   |none=>boundsPanic k n 0 .index):=by
  intro j b g f e p o;rcases p with⟨rfl,rfl⟩|⟨a,h,rfl,rfl,l⟩
  .exact GQ
  .simp only[];split
   .apply fD (np e);rintro E z _ q ⟨rfl,_⟩;exact .fC (.j2 ((l.r q).C _))
   .split
    .exact .fS
    .exact GQ
 have r:∀{j:fl} {b g:Option Û} (f:Nat) (e:Á),((b=ë/\g=ë)\/∃a h,b=À a/\g=À h/\ia j a h)->fE P fh j (ö t>>=λd=>match b with
   |some a=>if 0<=n/\n<f then do pure (Ö<|À<|a.add<|n.toNat*(<-ŕ e))else if(decide (f<=1)&&(match d with|.array .. =>È|_=>Â))=È then unsupported (cy "op/indexAddr.an index out of range at an array of length 0 or 1 (ledger 616)")else boundsPanic k n f .index
   |none=>boundsPanic k n 0 .index)
  (ö t>>=λd=>match g with
   |some a=>if 0<=n/\n<f then do pure (Ö<|À<|a.add<|n.toNat*(<-ŕ e))else if(decide (f<=1)&&(match d with|.array .. =>È|_=>Â))=È then unsupported (cy "op/indexAddr.an index out of range at an array of length 0 or 1 (ledger 616)")else boundsPanic k n f .index
   |none=>boundsPanic k n 0 .index):=by
  intro j b g f e p;apply fD (jf t);rintro E d _ q ⟨rfl,_⟩;exact D f e (p.imp id λ⟨a,h,F,G,H⟩=>⟨a,h,F,G,H.r q⟩) _
 cases d<;>try exact .fS
 .rename_i e;cases u<;>first|exact .fS|skip
  .rename_i m c;exact r m e<|Ç ⟨U,U⟩
  .rename_i l m c;exact r m e<|Î ⟨_,_,U,U,l⟩
 .rename_i f e;apply fD (GV u);exact λj a h _ l=>r f e<|Î ⟨_,_,U,U,l⟩
def Ej(h:fh Y x v)(y:Nat)(c:aJ):fE P jv Y (Ĵ x y c) (Ĵ v y c):=by
 unfold Ĵ;apply fD (Ku h);rintro a ⟨k,n⟩ _ b rfl;simp only[];split
 .exact .fC U
 .exact GQ
def rH(Y:fl)(x a:Option Ã):Prop:=(x=ë/\a=ë)\/∃v b,x=À v/\a=À b/\fh Y v b
def rH.r{Y a:fl}(h:Y.r a){x b:Option Ã}(r:rH Y x b):rH a x b:=r.imp id λ⟨v,c,d,e,f⟩=>⟨v,c,d,e,f.fO h⟩
def GX(f:Bool)(g i:Nat){l j h k m n:Option Ã}(c:rH Y l j)(o:rH Y h k)(t:rH Y m n):fE P jv Y (į f g i l h m) (į f g i j k n):=by
 unfold į;rcases t with⟨rfl,rfl⟩|⟨B,C,rfl,rfl,u⟩
 .refine Av ?_;rcases o with⟨rfl,rfl⟩|⟨w,x,rfl,rfl,d⟩
  .refine Av ?_;rcases c with⟨rfl,rfl⟩|⟨v,p,rfl,rfl,b⟩
   .exact .fC U
   .apply fD (Ej b _ _);rintro r q _ _ rfl;exact .fC U
  .refine fD (Ej d _ _) ?_;rintro y a _ e rfl;rcases(c.r e)with⟨rfl,rfl⟩|⟨v,p,rfl,rfl,b⟩
   .exact .fC U
   .apply fD (Ej b _ _);rintro r q _ _ rfl;exact .fC U
 .refine fD (Ej u _ _) ?_;rintro D a _ s rfl;rcases o with⟨rfl,rfl⟩|⟨w,x,rfl,rfl,d⟩
  .exact .fS
  .refine fD (Ej (d.fO s) _ _) ?_;rintro y z _ e rfl;rcases(((c.r s).r e))with⟨rfl,rfl⟩|⟨v,p,rfl,rfl,b⟩
   .exact .fC U
   .apply fD (Ej b _ _);rintro r q _ _ rfl;exact .fC U
def adJ(t:Á)(k:fh Y x v){l C h D m u:Option Ã}(g:rH Y l C)(i:rH Y h D)(j:rH Y m u):fE P fh Y (Β t x l h m) (Β t v C D u):=by
 unfold Β;apply fD (jf t);rintro I d _ o ⟨rfl,J⟩;have k:=k.fO o;have g:=g.r o;have i:=i.r o;have j:=j.r o;cases d<;>try exact .fS
 .cases k<;>first|exact .fS|skip
  rename_i s;have e:m.isSome=u.isSome:=by rcases j with⟨rfl,rfl⟩|⟨_,_,rfl,rfl,_⟩<;>rfl
  simp only[e];split
  .exact .fS
  .apply fD (GX Â s.size s.size g i<|Ç ⟨U,U⟩);rintro G ⟨a,b,c⟩ _ _ rfl;exact .fC (.kK _)
 .rename_i H;apply fD (Vr k);intro G a K B f;apply fD (jf H);rintro L d _ p ⟨rfl,_⟩;have f:=f.r p;cases d<;>try exact .fS
  rename_i n e _;apply fD (GX Â n n ((g.r B).r p) ((i.r B).r p)<|(j.r B).r p);rintro E ⟨x,y,z⟩ _ q rfl;apply fD (np e);rintro F w _ r ⟨rfl,_⟩;have f:=(f.r q).r r;refine .fC (.kV ?_ _ _);split
  .exact f
  .exact f.C _
 .rename_i e;cases k<;>first|exact .fS|skip
  .rename_i n c;apply fD (GX È n c g i j);rintro E ⟨x,y,z⟩ _ q rfl;apply fD (np e);rintro F w _ r ⟨rfl,_⟩;simp only[Option.map_none,ite_self];exact .fC (.nS _ _)
  .rename_i f n c;apply fD (GX È n c g i j);rintro E ⟨x,y,z⟩ _ q rfl;apply fD (np e);rintro F w _ r ⟨rfl,_⟩;have f:=(f.r q).r r;by_cases e:z=x
   .simp only[e,if_true];exact .fC (.kV f _ _)
   .simp only[e,if_false,bR];exact .fC (.kV (f.C _) _ _)
def adK(t:Á)(b:fh Y x v){l o h p m q:Option Ã}(c:rH Y l o)(f:rH Y h p)(g:rH Y m q):fE P fh Y (Ŝ t x l h m) (Ŝ t v o p q):=by
 unfold Ŝ;apply fD (jf t);rintro u d _ i ⟨rfl,B⟩;have b:=b.fO i;have c:=c.r i;have f:=f.r i;have g:=g.r i;cases d<;>try exact adJ t b c f g
 rename_i n e;apply fD (GV b);intro C a D k j;apply fD (GX Â n n (c.r k) (f.r k)<|g.r k);rintro E ⟨x,y,z⟩ _ r rfl;apply fD (np e);rintro F w _ s ⟨rfl,_⟩;have j:=(j.r r).r s;refine .fC (.kV ?_ _ _);split
 .exact j
 .exact j.C _
def adL(t:Á)(a:fh Y x v)(b:fh Y z jQ):fE P fh Y (Γ t x z) (Γ t v jQ):=by
 unfold Γ;apply fD (Ku b);rintro l ⟨k,n⟩ _ c rfl;apply fD (jf t);rintro m d _ f ⟨rfl,o⟩;have a:=(a.fO c).fO f;cases d<;>try exact .fS
 .cases a<;>first|exact .fS|skip
  simp only[];split
  .exact .fC (.iE _ _)
  .exact GQ
 .rename_i p e;cases a<;>first|exact .fS|skip
  rename_i g h;simp only[];split
  .apply fD (np e);rintro q w _ j ⟨rfl,_⟩;exact Vp e ((fT.mk g h).I j) _
  .exact GQ
def adM(a:UnOp)(b:fh Y x v):fE P fh Y (cz a x) (cz a v):=by cases b<;>cases a<;>first|exact .fS|exact .fC (.iE _ _)|exact .fC (.mD _)
end
section
variable{Y:fl}
def adN{α β:Type}{g:α->Ę β}(d:∀{Y:fl} (a:α),fE P jv Y (g a)<|g a):∀{Y:fl} (l:List α),fE P jv Y (l.mapM g) (l.mapM g):=by
 intro Y l
 induction l generalizing Y with
 |nil=>exact .fC U
 |cons a l e=>
  rw[ah];apply sQ (d a);intro f b _;apply sQ e;exact λh c _=> .fC U
def adO{α β:Type}{g:α->Ę β}(b:∀{Y:fl} (a:α),fE P jv Y (g a)<|g a)(l:Array α):fE P jv Y (l.mapM g) (l.mapM g):=by rw[ę];have:=adN b (Y:=Y) l.toList;apply fE.lE this;intro d a c _ (e:a=c);subst e;exact .fC U
def adP(Y:fl)(p a:Nat×Value):Prop:=p.1=a.1/\fh Y p.2 a.2
inductive vj(Y:fl):List (Nat×Value)->List (Nat×Value)->Prop
 |po:vj Y [] []
 |wH {p p':Nat×Value} {l l':List (Nat×Value)} (h:adP Y p p') (t:vj Y l l'):vj Y (p::l) (p'::l')
def vj.fO{Y a:fl}(h:Y.r a){l b:List (Nat×Value)}(r:vj Y l b):vj a l b:=by
 induction r with
 |po=>exact .po
 |wH x _ c=>exact .wH ⟨x.1,x.2.fO h⟩ c
def adQ(f:Nat):∀(c a:List Ã) (k:Nat) (b d:Array Ã),fT Y c.toArray a.toArray->fT Y b d-> fT Y ((c.zipIdx k).foldl (λb (p:Value×Nat)=>b.setIfInBounds (f+p.2) p.1) b) ((a.zipIdx k).foldl (λb (p:Value×Nat)=>b.setIfInBounds (f+p.2) p.1) d):=by
 intro c
 induction c with
 |nil=>
  intro a k b d p e;have:a=[]:=by have:=p.r;simp at this;exact ą this.symm
  subst this;exact e
 |cons x c g=>
  intro a k b d p e;match a,p with
  |[],p=>have:=p.r;simp at this
  |x'::a,p=>
   simp only[ĵ,List.foldl_cons];refine g a (k+1) _ _ ⟨by have:=p.r;simpa using this,λj h i=> ?_⟩ (e.qO _ (by have:=p.C 0 fi fi;simpa using this));have:=p.C (j+1) (by simp at h|-;omega) (by simp at i|-;omega);simpa using this
theorem adR(b:Nat){a c:Array Ã}(e:fT Y d q)(f:fT Y a c): fT Y (d.zipIdx.foldl (λa (p:Value×Nat)=>a.setIfInBounds (b+p.2) p.1) a) (q.zipIdx.foldl (λa (p:Value×Nat)=>a.setIfInBounds (b+p.2) p.1) c):=by have:=adQ b d.toList q.toList 0 a c (by simpa using e) f;grind [Array.toList_zipIdx]
def OW(d:Nat->Option (Nat×Nat)):∀{l e:List (Nat×Value)} {a b:Array Ã},vj Y l e->fT Y a b-> (ŵ d a l=ë)\/∃c h,ŵ d a l=À c/\ŵ d b e=À h/\fT Y c h:=by
 intro l e a b h
 induction h generalizing a b with
 |po=>intro c;exact Î ⟨a,b,U,U,c⟩
 |@wH p p' l e hp _ ih=>
  intro c;let⟨i,v⟩:=p;let⟨k,m⟩:=p';obtain⟨rfl,g⟩:=hp;unfold ŵ;cases d i with
  |none=>exact Ç U
  |some q=>
   let⟨j,n⟩:=q;have f:=g.gV;simp only[<-f.r,<-c.r];split
   .exact Ç U
   .exact ih<|adR j f c
def adS(q:nV P)(t:Á){l m:Array (Nat×Value)}(h:vj Y l.toList m.toList):fE P fh Y (Δ t l) (Δ t m):=by
 unfold Δ;apply fD (GR q t);intro C z D r s;apply fD (jf t);rintro E d _ o ⟨rfl,F⟩;have p:=(s.fO o).gV;have h:=(h.fO r).fO o;cases d<;>try exact .fS
 .rename_i n e;refine fD (np e) ?_;rintro u w _ b ⟨rfl,_⟩;rcases OW (λi=>À (i*w,w)) (h.fO b) (p.I b)with e|⟨c,v,j,k,g⟩
  .simp only[e];exact .fS
  .simp only[j,k];exact .fC (.oL g.r g.C)
 .rename_i x;refine sQ (adO (λ{Y} (f:Field)=>fD (np f.type) λG a H _ y=> ?_) x) ?_
  .obtain⟨rfl,_⟩:=y;exact .fC U
  .intro u B b;rcases OW (B[·]?) (h.fO b) (p.I b)with e|⟨c,v,j,k,g⟩
   .simp only[e];exact .fS
   .simp only[j,k];exact .fC (.oL g.r g.C)
end
section
variable{Y:fl}
def adT(Y:fl):fh Y (default:Ã) default:=.mD _
theorem fT.adU{Y:fl}(r:fT Y d q)(i:Nat):fh Y d[i]! q[i]!:=by
 by_cases h:i<d.size
 .have a:i<q.size:=by rwa[<-r.r]
  rw[getElem!_pos d i h,getElem!_pos q i a];exact r.C i h a
 .have a:¬i<q.size:=by rwa[<-r.r]
  grind [getElem,adT]
def fT.OX{Y:fl}(r:fT Y d q)(n:Nat):fT Y ((Ĳ n).map (d[· %d.size]!)) ((Ĳ n).map (q[· %q.size]!)):=by refine⟨fi,λi a b=> ?_⟩;simp only[Ε,<-r.r];exact r.adU _
def fT.yw{Y:fl}(r:fT Y d q)(n:Nat):fT Y (ø d n) (ø q n):=by
 unfold ø;have e:n*d.size=n*q.size:=by rw[r.r]
 rw[<-e];exact r.OX _
def adV(p:nV P)(t:Á)(b:Nat){j k:Array (Nat×Value)}(h:vj Y j.toList k.toList):fE P fh Y (Ķ t b j) (Ķ t b k):=by
 unfold Ķ;apply fD (jf t);rintro B d _ q ⟨rfl,C⟩;have h:=h.fO q;cases d<;>try exact .fS
 rename_i e;apply fD (np e);rintro r w _ s ⟨rfl,_⟩;simp only[];split
 .exact .fS
 have o:∀{f:fl} {z g:Array Ã},r.r f->fT f z g->fE P fh f (match ŵ (λi=>À (i*w,w)) ((Ĳ<|b*w).map (z[· %z.size]!)) j.toList with
   |some l=>do pure (õ (À<|<-ņ e l) b b)
   |_=>stuck "buildSlice: a part of the wrong size")
  (match ŵ (λi=>À (i*w,w)) ((Ĳ<|b*w).map (g[· %g.size]!)) k.toList with
   |some l=>do pure (õ (À<|<-ņ e l) b b)
   |_=>stuck "buildSlice: a part of the wrong size"):=by
  intro f z g m n;rcases OW (λi=>À (i*w,w)) ((h.fO s).fO m) (n.OX<|b*w)with e0|⟨c,D,u,v,x⟩
  .rw[e0];exact .fS
  .rw[u,v];apply fD (GU e x);exact λE a F _ y=> .fC (.kV y _ _)
 split
 .exact o (fl.M _)<|fT.N _
 .apply fD (GR p e);exact λf z g m n=>o m n.gV
def Kv(h:fh Y x v):fE P jv Y (Ο x) (Ο v):=by cases h<;>first|exact .fS|exact .fC U
def fT.adW(Y:fl)(b:Array UInt8):fT Y (b.map λb=>ċ .u8 b.toNat) (b.map λb=>ċ .u8 b.toNat):= ⟨U,λi a _=>by simp only[Ε];exact .iE _ _⟩
def GY(a n:Nat)(h:fh Y x v):fE P fT Y (Õ a n x) (Õ a n v):=by
 cases h<;>first|exact .fS|exact .fC (fT.N _)|exact .fC (fT.adW _ _)|skip
 rename_i b _ _;exact OT b _
def OY(n:Nat):fE P jv Y (Ł n) (Ł n):=by
 unfold Ł;split
 .exact .Eh (Ç U) (.fC U)
 .exact .fC U
def adX(a:Array Á)(t:Á)(h:fh Y x v):fE P fh Y (Ŭ a t #[x]) (Ŭ a t #[v]):=by
 unfold Ŭ;cases a[0]? with
 |none=>exact .fS
 |some b=>
  apply fD (jf b);rintro f d _ c ⟨rfl,g⟩;have h:=h.fO c;cases d<;>try exact .fS
  .cases h<;>first|exact .fS|exact .fC (.iE _ _)
  .rename_i e;refine fD (jf e) ?_;rintro i d _ j ⟨rfl,_⟩;cases d<;>first|exact .fS|exact .fC (.iE _ _)
  .cases h<;>first|exact .fS|exact .fC (.iE _ _)
  .exact .fC (.iE _ _)
  all_goals cases h<;>first|exact .fS|exact .fC (.iE _ _)
def adY(a:Array Á)(t:Á)(h:fh Y x v):fE P fh Y (ŭ a t #[x]) (ŭ a t #[v]):=by
 unfold ŭ;cases a[0]? with
 |none=>exact .fS
 |some b=>
  apply fD (jf b);rintro f d _ c ⟨rfl,g⟩;have h:=h.fO c;cases d<;>try exact .fS
  .rename_i e;refine fD (jf e) ?_;rintro i d _ j ⟨rfl,_⟩;cases d<;>first|exact .fS|exact .fC (.iE _ _)
  .cases h<;>first|exact .fS|exact .fC (.iE _ _)
  .exact .fC (.iE _ _)
  all_goals cases h<;>first|exact .fS|exact .fC (.iE _ _)
def adZ(g:Array Á)(t:Á)(h:fh Y x v)(a:fh Y z jQ):fE P fh Y (ŝ g t #[x,z]) (ŝ g t #[v,jQ]):=by
 unfold ŝ;cases g[0]? with
 |none=>exact .fS
 |some l=>
  apply fD (jf l);rintro u d _ i ⟨rfl,B⟩;have h:=h.fO i;have a:=a.fO i;cases d<;>try exact .fS
  rename_i e;cases h<;>first|exact .fS|skip
  .rename_i n c;apply fD (Kv a);rintro o m _ b rfl;apply fD (np e);rintro p w _ f ⟨rfl,_⟩;apply fD (GY w _<|(a.fO b).fO f);exact λq c r j k=> .fC (.iE _ _)
  .rename_i s n c;apply fD (Kv a);rintro o m _ b rfl;apply fD (np e);rintro p w _ f ⟨rfl,_⟩;apply fD (GY w _<|(a.fO b).fO f);intro q c r j k;apply fD (OU (((s.r b).r f).r j)<|by simpa using k);exact λC _ _ _ _=> .fC (.iE _ _)
end
section
variable{Y:fl}
def OZ{α:Type}{h:Halt}:∀u x a,(eE h:Ę α).run P u≠Ĭ x a:=by intro u x a e;cases e
def GZ{α β:Type}{m:Ę α}{f:α->Ę β}(h:∀a u x b,(f a).run P u≠Ĭ x b):∀u x b,(m>>=f).run P u≠Ĭ x b:=by
 intro u x b e;rw[Ä]at e;cases c:m.run P u with
 |ok a w=>rw[c]at e;exact h a _ _ _ e
 |halt z w=>rw[c]at e;cases e
def Vt{α:Type}:∀u x a,(goPanic v:Ę α).run P u≠Ĭ x a:=OZ
def ad1{α:Type}{v:bG}:∀u x a,(unsupported v:Ę α).run P u≠Ĭ x a:=OZ
theorem rI{α:Type}(e:η):∀u x a,(runtimePanic e:Ę α).run P u≠Ĭ x a:=by unfold runtimePanic;grind [GZ,Vt]
def O0{α:Type}{V:fl->α->α->Prop}{e:η}{m:Ę α}:fE P V Y (runtimePanic e) m:=.oM (rI e)
def ad2(Q:nV P)(K D t:Á)(y:(∃e,P.underlying D=À (dy e))\/P.underlying D=À ğ){B:Ã}(p:fh Y v jQ)(E:fh Y x B): fE P fh Y (ł #[K,D] t #[v,x]) (ł #[K,D] t #[jQ,B]):=by
 unfold ł;apply fD (jf K);rintro F d _ M ⟨rfl,hd⟩;have p:=p.fO M;have E:=E.fO M;cases d<;>try exact .fS
 rename_i e;have S:∀{g:fl} (z:Bool) (w n c m:Nat) {b f:Option Û},F.r g->fh g (õ b n c) (õ f n c)->fE P fh g (do
   let newCap<-Ō (Ŷ (n+m) c e)
   Ł<|newCap*(<-ý e).bytes;let old<-Õ w n (õ b n c)
   let h<-Õ w m x
   let j:=ø (<-Ě e).cells<|newCap-(n+m)
   pure (õ (À (<-ņ e (old++h++j))) (n+m) newCap))
  (do
   let newCap<-Ō (Ŷ (n+m) c e)
   Ł<|newCap*(<-ý e).bytes;let old<-Õ w n (õ f n c)
   let h<-Õ w m B
   let j:=ø (<-Ě e).cells<|newCap-(n+m)
   pure (õ (À (<-ņ e (old++h++j))) (n+m) newCap)):=by
  intro g _ w n c m b f i p;apply sQ (.As λ_=> .fC U);intro H nc k;apply fD (yv e);rintro I l _ r ⟨rfl,_⟩;apply sQ (OY _);intro ρ5 _ T;have G:=fl.I (fl.I k r) T;apply fD (GY w n<|p.fO G);intro ρ6 o o' V W;apply fD (GY w m<|E.fO<|fl.I i<|fl.I G V);intro ρ7 q X hl7 L;apply fD (GR Q e);intro ρ8 z z' N hzz;apply fD (GU e<|(((W.I hl7).I N).G<|L.I N).G<|hzz.gV.yw _);exact λρ9 a J _ C=> .fC (.kV C _ _)
 have j:∀{g:fl} (w n c m:Nat) {b f:Option Û},F.r g->fh g (õ b n c) (õ f n c)->fE P fh g (do
   let l<-ý e
   if((n+m:Nat):Int)>Þ.max/\(Â=È\/l.bytes=0)then runtimePanic (.error "growslice: len out of range")
   if ĳ (n+m) c*(<-ý e).bytes>2^48 then(if Â=È then runtimePanic (.error "growslice: len out of range")else do
    if !(<-ģ w n m b x)then ea ε
    unsupported (ŷ "append: a slice or a string whose bytes no memory bears"))
   let newCap<-Ō (Ŷ (n+m) c e)
   Ł<|newCap*(<-ý e).bytes;let old<-Õ w n (õ b n c)
   let h<-Õ w m x
   let j:=ø (<-Ě e).cells<|newCap-(n+m)
   pure (õ (À (<-ņ e (old++h++j))) (n+m) newCap))
  (do
   let l<-ý e
   if((n+m:Nat):Int)>Þ.max/\(Â=È\/l.bytes=0)then runtimePanic (.error "growslice: len out of range")
   if ĳ (n+m) c*(<-ý e).bytes>2^48 then(if Â=È then runtimePanic (.error "growslice: len out of range")else do
    if !(<-ģ w n m f B)then ea ε
    unsupported (ŷ "append: a slice or a string whose bytes no memory bears"))
   let newCap<-Ō (Ŷ (n+m) c e)
   Ł<|newCap*(<-ý e).bytes;let old<-Õ w n (õ f n c)
   let h<-Õ w m B
   let j:=ø (<-Ě e).cells<|newCap-(n+m)
   pure (õ (À (<-ņ e (old++h++j))) (n+m) newCap)):=by
  intro g w n c m b f i p;apply fD (yv e);rintro H l _ k ⟨rfl,_⟩;simp only[];split
  .exact .oM (wE<|rI _)
  .apply fD (yv e);rintro I l _ r ⟨rfl,_⟩;have G:=fl.I k r;split
   .refine .oM (wE ?_);simp only[Å,if_false];refine GZ λb=> ?_;simp_all
   .exact S Â w n c m (fl.I i G)<|p.fO G
 have O:∀{b f:Option Û} (n c:Nat),((b=ë/\f=ë)\/∃a J,b=À a/\f=À J/\ia F a J)->fh F (õ b n c) (õ f n c)->∀{g:fl} (w m:Nat),F.r g->fE P fh g (if n+m<=c then(Õ w m x>>=λh=>match b with
   |some a=>Ŗ (a.add<|n*w) h.toList>>=λ_=>pure<|õ b (n+m) c
   |_=>pure (õ b (n+m) c))else(do
   let l<-ý e
   if((n+m:Nat):Int)>Þ.max/\(Â=È\/l.bytes=0)then runtimePanic (.error "growslice: len out of range")
   if ĳ (n+m) c*(<-ý e).bytes>2^48 then(if Â=È then runtimePanic (.error "growslice: len out of range")else do
    if !(<-ģ w n m b x)then ea ε
    unsupported (ŷ "append: a slice or a string whose bytes no memory bears"))
   let newCap<-Ō (Ŷ (n+m) c e)
   Ł<|newCap*(<-ý e).bytes;let old<-Õ w n (õ b n c)
   let h<-Õ w m x
   let j:=ø (<-Ě e).cells<|newCap-(n+m)
   pure (õ (À (<-ņ e (old++h++j))) (n+m) newCap)))
  (if n+m<=c then(Õ w m B>>=λh=>match f with
   |some a=>Ŗ (a.add<|n*w) h.toList>>=λ_=>pure<|õ f (n+m) c
   |_=>pure (õ f (n+m) c))else(do
   let l<-ý e
   if((n+m:Nat):Int)>Þ.max/\(Â=È\/l.bytes=0)then runtimePanic (.error "growslice: len out of range")
   if ĳ (n+m) c*(<-ý e).bytes>2^48 then(if Â=È then runtimePanic (.error "growslice: len out of range")else do
    if !(<-ģ w n m f B)then ea ε
    unsupported (ŷ "append: a slice or a string whose bytes no memory bears"))
   let newCap<-Ō (Ŷ (n+m) c e)
   Ł<|newCap*(<-ý e).bytes;let old<-Õ w n (õ f n c)
   let h<-Õ w m B
   let j:=ø (<-Ě e).cells<|newCap-(n+m)
   pure (õ (À (<-ņ e (old++h++j))) (n+m) newCap))):=by
  intro b f n c hb p g w m i;split
  .refine fD (GY w m<|E.fO i) ?_;intro H q X k L;rcases hb with⟨rfl,rfl⟩|⟨a,J,rfl,rfl,C⟩
   .exact .fC (.nS _ _)
   .apply fD (OU (((C.r i).r k).C _)<|by simpa using L);exact λI _ _ r _=> .fC (.kV (((C.r i).r k).r r) _ _)
  .exact j w n c m i<|p.fO i
 cases p<;>first|exact .fS|skip
 .rename_i n c;refine fD (np e) ?_;rintro g w _ i ⟨rfl,_⟩;refine fD (jf D) ?_;rintro H d1 _ k ⟨rfl,u⟩;rcases y with⟨e1,y⟩|y;all_goals
   rw[y]at u;injection u with u;subst u;apply Av;apply fD (Kv<|E.fO<|fl.I i k);rintro I m _ r rfl;exact O n c (Ç ⟨U,U⟩) (.nS _ _) w m<|fl.I (fl.I i k) r
 .rename_i C n c;refine fD (np e) ?_;rintro g w _ i ⟨rfl,_⟩;refine fD (jf D) ?_;rintro H d1 _ k ⟨rfl,u⟩;rcases y with⟨e1,y⟩|y;all_goals
   rw[y]at u;injection u with u;subst u;apply Av;apply fD (Kv<|E.fO<|fl.I i k);rintro I m _ r rfl;exact O n c (Î ⟨_,_,U,U,C⟩) (.kV C _ _) w m<|fl.I (fl.I i k) r
end
section
variable{Y:fl}
def ad3(p:nV P)(t:Á){j:Ã}(q:fh Y v x)(r:fh Y jQ j):fE P fh Y (Ń t v jQ) (Ń t x j):=by
 unfold Ń;apply fD (jf t);rintro B d _ k ⟨rfl,C⟩;cases d<;>try exact .fS
 rename_i e;apply fD (OV<|q.fO k);rintro D g _ s rfl;apply fD (OV<|(r.fO k).fO s);rintro E b _ F rfl;apply fD (yv e);rintro G m _ H ⟨rfl,_⟩;have u:∀{n:fl},fE P fh n (do
   Ł<|(Þ.wrap b).toNat*m.bytes;let w<-ŕ e
   let zero<-if(Þ.wrap b).toNat*w=0 then pure #[]else do pure (<-Ě e).cells
   let a<-ņ e ((Ĳ<|(Þ.wrap b).toNat*w).map (zero[· %zero.size]!))
   pure (õ (À a) (Þ.wrap g).toNat (Þ.wrap b).toNat))
  (do
   Ł<|(Þ.wrap b).toNat*m.bytes;let w<-ŕ e
   let zero<-if(Þ.wrap b).toNat*w=0 then pure #[]else do pure (<-Ě e).cells
   let a<-ņ e ((Ĳ<|(Þ.wrap b).toNat*w).map (zero[· %zero.size]!))
   pure (õ (À a) (Þ.wrap g).toNat (Þ.wrap b).toNat)):=by
  intro n;apply sQ (OY _);intro I _ J;apply fD (np e);rintro K w _ L ⟨rfl,_⟩;have o:∀{h:fl} {z f:Array Ã},fT h z f->fE P fh h (ņ e ((Ĳ<|(Þ.wrap b).toNat*w).map (z[· %z.size]!))>>=λa=>pure<|õ (À a) (Þ.wrap g).toNat (Þ.wrap b).toNat) (ņ e ((Ĳ<|(Þ.wrap b).toNat*w).map (f[· %f.size]!))>>=λa=>pure<|õ (À a) (Þ.wrap g).toNat (Þ.wrap b).toNat):=by intro h z f i;apply fD (GU e<|i.OX _);intro M a N _ y;exact .fC (.kV y _ _)
  simp only[];split
  .exact o<|fT.N _
  .apply fD (GR p e);intro h z f _ i;exact o i.gV
 simp only[];split
 .split
  .exact .oM (wE<|rI _)
  .split
   .exact .oM (wE<|rI _)
   .exact .oM (GZ λ_=>wE<|rI _)
 .exact u
def tP(P:Ø)(t:Á):Prop:=P.underlying t=À .bool\/(∃k,P.underlying t=À (Ρ k))\/P.underlying t=À ğ
def nt:Ã->Prop
 |Ö (À _)=>False
 |_=>True
def Vu(t:Á)(i:tP P t\/∃e,P.underlying t=À (ò e))(b:fh Y x v)(c:fh Y z jQ)(j:nt x\/nt z):fE P jv Y (ù t x z) (ù t v jQ):=by
 unfold ù Ć θ;refine fD (jf t) ?_;rintro o d _ g ⟨rfl,a⟩;have b:=b.fO g;have c:=c.fO g;rcases i with(h|⟨k,h⟩|h)|⟨e,h⟩;all_goals
  rw[h]at a;injection a with a;subst a;cases b<;>cases c<;>first|exact .fS|exact .fC U|(simp[nt]at j;done)|skip
 .simp only[];split<;>first|exact .fC U|exact .fS
 .rename_i l n _ _ _;by_cases f:n=0
  .subst f;exact .fC U
  .refine .oM λu x m e=> ?_;simp_all
 .rename_i l n;by_cases f:n=0
  .subst f;exact .fC U
  .refine .oM λu x m e=> ?_;simp_all
end
section
variable{Y:fl}
def Kw{r:Nat}(h:Y r i):fE P (λ_ a b=>a=ë/\b=ë) Y (cA r) (cA i):=.vi h λ_ _ _ _=> .fC ⟨U,U⟩
def Vv{r:Nat}(h:Y r i):fE P (λ_ a b=>a=ë/\b=ë) Y (cB r) (cB i):=.vi h λ_ _ _ _=> .fC ⟨U,U⟩
def Aw(h:ia Y a p):fE P (λc x b=>ia c x.1 b.1/\x.2=b.2/\x=(a,Â)/\b=(p,Â)) Y (ķ a) (ķ p):=by unfold ķ;apply fD (Vv h.1);rintro c x d b ⟨rfl,rfl⟩;exact .fC ⟨h.r b,U,U,U⟩
def ad4(h:ia Y a p):fE P jv Y (br a) (br p):=by unfold br;apply fD (Kw h.1);rintro b x c d ⟨rfl,rfl⟩;exact .fC U
def G0(h:ia Y a p):fE P jv Y (dz a) (dz p):=by
 have f:=h;let⟨g,i,b⟩:=f;unfold dz;cases c:a.spot with
 |some s=>
  rw[c]at b;rw[<-b];exact .fC U
 |none=>
  rw[c]at b;rw[<-b];apply fD rG;rintro k s l d ⟨rfl,e⟩;subst e;apply fD (ad4<|h.r d);intro m _ _ j _;refine .vi (j.1 _ _<|d.1 _ _ g) λe n o q=> ?_;simp only[<-i,é];split
  .exact .fC U
  .split
   .exact .fC U
   .exact .fS
def Kx(c:Bi Y){b d:Û}(f:ia Y a p)(g:ia Y b d):(a.block==b.block)=(p.block==d.block):=by
 rw[ς,beq_iff_eq,beq_iff_eq];constructor
 .intro e;exact c.1 _ _ _ f.1<|e▸g.1
 .intro e;exact c.2.1 _ _ _ f.1<|e▸g.1
theorem Vw(g:Bi Y){b c:Û}(d:ia Y a p)(f:ia Y b c):(a==b)=(p==c):=by have e:=Kx g d f;rw[ς,beq_iff_eq,beq_iff_eq]at e;rw[ς,beq_iff_eq,beq_iff_eq];let⟨h,i,j⟩:=a;let⟨k,l,m⟩:=p;let⟨n,o,q⟩:=b;let⟨r,s,t⟩:=c;let⟨_,u,v⟩:=d;let⟨_,w,x⟩:=f;grind
theorem Vx(f:Bi Y)(n:Y.C=P.globals.size){b d:Û}(e:ia Y a p)(g:ia Y b d):fE P jv Y (Ů a b) (Ů p d):=by
 unfold Ů;apply fD rG;rintro o c q h ⟨i,j⟩;rw[i,j];have k:(a.block !=b.block)=(p.block !=d.block):=by simp only[bne];rw[Kx f e g]
 have l:(decide<|a.block≥P.globals.size)=(decide<|p.block≥P.globals.size):=by have:=f.2.2 _ _ e.1;grind
 rw[k,l];split
 .exact .fS
 .apply fD (G0<|e.r h);rintro r x _ m rfl;apply fD (G0<|(g.r h).r m);rintro s y _ t rfl;exact .fC U
def ad5(d:Bi Y)(e:Y.C=P.globals.size)(k:ÿ){b c:Û}(f:ia Y a p)(g:ia Y b c):fE P fh Y (ι k a b) (ι k p c):=by unfold ι;apply fD (Vx d e f g);rintro h ⟨x,y⟩ _ _ rfl;exact .fC (.iE _ _)
def ad6(e:Bi Y)(f:Y.C=P.globals.size)(c:Ĩ){b d:Û}(g:ia Y a p)(h:ia Y b d):fE P fh Y (κ c a b) (κ c p d):=by unfold κ;refine fD (Vx e f g h) ?_;rintro i ⟨x,y⟩ _ _ rfl;cases c<;>first|exact .fC (.mD _)|exact .fS
def Vy(k:ÿ)(b:ia Y a p)(n:Int):fE P fh Y (ν k a n) (ν k p n):=by
 unfold ν;refine .vi b.1 λe m d f=> ?_;apply Av;apply fD (yv e);rintro g h _ c ⟨rfl,_⟩;simp only[];split
 .exact .fS
 .apply fD (G0<|b.r c);rintro i x _ _ rfl;exact .fC (.iE _ _)
def ad7{n:Int}(h:j<=b)(a:ai P i e j k n=À m):ai P i e b k n=À m:=by
 unfold ai at a|-;simp only[bind,Option.bind]at a|-;split at a
 .cases a
 .rename_i f;rw[if_neg f];split at a
  .cases a
  .rename_i g;simp only[g];dsimp only at a;split at a
   .cases a
   .rename_i l;rw[if_neg]
    .exact a
    .intro o;apply l;have:=(λw=>Nat.mul_le_mul_right w h)<|P.bytesOf e;simp at o|-;omega
def ad8{i:Á->Bool}:∀{d:Nat} {e:Á} {c a b n:Nat},c<=a->dr P i d e c b n=È->dr P i d e a b n=È
 |0,_,_,_,_,_,_,h=>by simp[dr]at h
 |d+1,e,c,a,b,n,hc,h=>by
  unfold dr at h|-;simp only at h|-;split at h
  .cases h
  .rename_i j;rw[if_neg j];rw[bS,ġ,ġ,ġ]at h|-;rcases h with⟨⟨f,g⟩,k⟩|⟨f,g⟩
   .exact Ç ⟨⟨f,by simp at g|-;omega⟩,k⟩
   .exact Î ⟨by simp at f|-;omega,g⟩
def Vz:∀{d:Nat} {e:Á} {c a b:Nat} {u:Á} {n:Nat},c<=a->bu P d e c b u n=È->bu P d e a b u n=È
 |0,_,_,_,_,_,_,_,h=>by simp[bu]at h
 |d+1,e,c,a,b,u,n,hc,h=>by
  unfold bu at h|-;rw[bS]at h|-;rcases h with h|h
  .exact Ç<|ad8 hc h
  .right;split at h
   .rename_i f;first|rw[f]|skip
    exact Vz hc h
   .cases h
def ad9{a:Á->Bool}:dr P a i e 0 j (n+1)=Â:=by
 cases i with
 |zero=>simp[dr]
 |succ i=>
  unfold dr;simp
def aea{k:ÿ}(a:P.underlying t=À (Ρ k)):bu P i e 0 j t (n+1)=Â:=by
 cases i with
 |zero=>simp[bu]
 |succ i=>
  unfold bu;rw[ad9];simp[a]
def VA(t:Á)(d:ia Y a p)(k:ÿ)(n:Int):fE P fh Y (ó #[] t #[Ö<|À a,ċ k n]) (ó #[] t #[Ö<|À p,ċ k n]):=by
 have f:=d;let⟨c,g,h⟩:=f;unfold ó;apply Av;simp only[];split
 .apply fD (Kw c);rintro i x e b ⟨rfl,rfl⟩;exact .fC (.j2 (d.r b))
 .split
  .exact .fS
  .refine .vi c λe m u j=> ?_;apply Av;apply fD rG;rintro i b v l ⟨o,r⟩;rw[o,r,<-g];cases s:ai P P.depth e (m/P.cellsOf e) a.off n with
   |none=>exact .fS
   |some x=>
    rw[ad7 (aj<|j.elim (λq=>by omega) λq=>q.1) s];exact .fC (.j2 ⟨l.1 _ _ c,U,h⟩)
end
def yx:Obj->Prop
 |đ .. =>False
 |_=>True
inductive kL(P:Ø){α:Type}(V:fl->α->α->Prop):fl->Ę α->Ę α->Prop
 |gq {Y:fl} {m m':Ę α} (h:fE P V Y m m'):kL P V Y m m'
 |lE {Y:fl} {β:Type} {V0:fl->β->β->Prop} {m m':Ę β} {f f':β->Ę α} (h:fE P V0 Y m m') (hf:∀Y' a a',Y.r Y'->V0 Y' a a'->kL P V Y' (f a) (f' a')):kL P V Y (m.bind f) (m'.bind f')
 |Ek {Y:fl} {o:Obj} {g:Nat->α} {m':Ę α} (ho:yx o):kL P V Y (.new o λr=>aU<|g r) m'
 |El {Y:fl} {m m':Ę α} (h:∀u x u',m.run P u=Ĭ x u'->∃i o,u.heap.size<=i/\u'.heap[i]?=À o/\yx o):kL P V Y m m'
section
variable{Y:fl}
def kL.aeb{α β:Type}{V:fl->α->α->Prop}{i:fl->β->β->Prop}{m e:Ę α}{f j:α->β}(h:kL P V Y m e)(k:∀c a d,Y.r c->V c a d->i c (f a) (j d)): kL P i Y (m.bind λa=>aU<|f a) (e.bind λa=>aU<|j a):=by
 induction h with
 |gq h=>exact .gq (h.lE λc a d u w=> .fC (k c a d u w))
 |lE h _ g=>
  rw[ť,ť];exact .lE h λc a d u w=>g c a d u w λx b z l n=>k x b z (fl.I u l) n
 |Ek b=>exact .Ek b
 |@El Y m e h=>
  refine .El λu x l b=> ?_;rw[Ľ]at b;cases g:m.run P u with
  |halt z w=>rw[g]at b;cases b
  |ok a w=>
   rw[g]at b;simp only[å]at b;cases b;exact h u a _ g
def Em(u a:Æ):Prop:=∀i o,u.heap.size<=i->a.heap[i]?=À o->¬yx o
def kL.gl{α:Type}{V:fl->α->α->Prop}{Y:fl}{m r:Ę α}(h:kL P V Y m r):∀{u w:Æ},jj Y X u w->(∀j,X j->j<w.heap.size)->∀{x:α} {c:Æ},m.run P u=Ĭ x c->Em u c->∀d:Array Ă,∃(a:fl) (n:α) (s:Æ) (b:Array Ă),Y.r a/\(∀i j,a i j->Y i j\/(u.heap.size<=i/\w.heap.size<=j))/\r.runT P w d=(Ĭ n s,d++b)/\V a x n/\jj a X c s/\nU Y X w s/\(∀e∈b,At a X e)/\u.heap.size<=c.heap.size:=by
 induction h with
 |gq h=>intro u w k g x c b _ d;exact h.gl k g b d
 |@lE Y β V0 m r f f' h _ ih=>
  intro u w k g x c b l d;rw[Ľ]at b;cases t:m.run P u with
  |halt z w=>rw[t]at b;cases b
  |ok a u1=>
   rw[t]at b;let⟨G,H,w1,E,p,q,v,I,J,B,K,C⟩:=h.gl k g t d;let⟨L,n,M,N,F,O,Q,S,T,W,k7,k8⟩:=ih G a H p I J (λj s=>Ô (g j s) B.r) b (λi o s=>l i o<|û C s)<|d++E;refine⟨L,n,M,E++N,fl.I p F,λi j D=> ?_,?_,S,T,B.fe W λi j D=>(q i j D).imp id λy=>y.2,λe s=> ?_,û C k8⟩
   .rcases O i j D with y|⟨y1,y2⟩
    .exact q i j y
    .exact Î ⟨û C y1,û B.r y2⟩
   .rw[Ñ,v];simp only[];rw[Q,Ņ]
   .rcases Ģ.1 s with s|s
    .rcases K e s with⟨a,i,y,z2,z3,z4⟩|z
     .exact Ç ⟨a,i,y,F.1 _ _ z2,z3,z4⟩
     .exact Î z
    .exact k7 e s
 |Ek s=>
  intro u w k g x c b l d;simp only[å]at b;cases b;exact absurd s<|l u.heap.size _ (á _) fi
 |El h=>
  intro u w k g x c b l d;let⟨i,o,p,q,v⟩:=h u x c b;exact absurd v<|l i o p q
end
section
variable{Y:fl}
theorem aec(i:Bi Y)(F:Y.C=P.globals.size)(t:Á)(s:tP P t){j b m:Û}(e:ia Y a j)(f:ia Y b m):fE P jv Y (ù t (Ö<|À a)<|Ö<|À b) (ù t (Ö<|À j)<|Ö<|À m):=by
 unfold ù Ć θ;refine fD (jf t) ?_;rintro G d _ g ⟨rfl,c⟩;rcases s with h|⟨k,h⟩|h
 .rw[h]at c;injection c with c;subst c;exact .fS
 .rw[h]at c;injection c with c;subst c;apply fD (Aw<|e.r g);rintro H p u l ⟨_,_,rfl,rfl⟩;apply fD (Aw<|(f.r g).r l);rintro I q J n ⟨_,_,rfl,rfl⟩;apply fD rG;rintro K p u o ⟨v,w⟩;rw[v,w];have z:=(((e.r g).r l).r n).r o;have B:=(((f.r g).r l).r n).r o;have C:=Kx i e f;have D:(decide<|a.block<P.globals.size)=(decide<|j.block<P.globals.size):=by
   have:=i.2.2 _ _ e.1;grind
  simp only[C,D];split
  .apply fD (G0 z);rintro E x _ r rfl;apply fD (G0<|B.r r);rintro L y _ M rfl;exact .fC U
  .apply fD (yv t);rintro E x _ r ⟨rfl,_⟩;split
   .rw[Vw i e f];split
    .exact .fC U
    .exact .fS
   .exact .fS
 .rw[h]at c;injection c with c;subst c;exact .fS
def aed(e:Bi Y)(f:Y.C=P.globals.size)(t:Á)(b:tP P t)(c:fh Y x v)(d:fh Y z jQ):fE P jv Y (ù t x z) (ù t v jQ):=by
 by_cases a:nt x\/nt z
 .exact Vu t (Ç b) c d a
 .have g:=λh=>a<|Ç h;have i:=λh=>a<|Î h;cases c<;>first|exact absurd trivial g|skip
  cases d<;>first|exact absurd trivial i|skip
  rename_i j _ _ k;exact aec e f t b j k
def aee(a:Ĩ)(k:ÿ)(x y:Int):fE P fh Y (aC a k x y) (aC a k x y):=by
 unfold aC;split
 .exact O0
 .cases a<;>first|exact .fS|exact .fC (.iE _ _)
def aef(a:Ĩ)(k b:ÿ)(x y:Int):fE P fh Y (aW a k x b y) (aW a k x b y):=by
 unfold aW;split
 .exact O0
 .cases a<;>first|exact .fS|exact .fC (.iE _ _)
def aeg(a:Ĩ)(t:Á)(k b:ÿ)(x y:Int):fE P fh Y (Ÿ a t (ċ k x)<|ċ b y) (Ÿ a t (ċ k x)<|ċ b y):=by
 cases a<;>simp only[Ÿ]<;>first|exact aef _ _ _ _ _|skip
 all_goals
  split
  .exact .fS
  .first|exact .fC (.iE _ _)|exact .fC (.mD _)|exact aee _ _ _ _
def aeh(a:Ĩ)(t:Á)(x y:ByteArray):fE P fh Y (Ÿ a t (Į x)<|Į y) (Ÿ a t (Į x)<|Į y):=by
 cases a<;>simp only[Ÿ,bH]<;>first|exact .fS|exact .fC (.mD _)|skip
 split
 .exact .fS
 .exact .fC (.kK _)
end
section
variable{Y:fl}
def lh{α β:Type}{V0:fl->β->β->Prop}{V:fl->α->α->Prop}{m c:Ę β}{f d:β->Ę α}(h:fE P V0 Y m c) (g:∀b a e,Y.r b->V0 b a e->kL P V b (f a) (d e)):kL P V Y (m>>=f) (c>>=d):=.lE h g
def aei{α β:Type}{V:fl->α->α->Prop}{c:fl->β->β->Prop}{m d:Ę α}{f e:α->β}(h:kL P V Y m d)(i:∀b a g,Y.r b->V b a g->c b (f a) (e g)): kL P c Y (m>>=λa=>pure<|f a) (d>>=λa=>pure<|e a):=kL.aeb h i
def VB(t:Á)(y:Ã):∀u x a,(ó #[] t #[Ö ë,y]).run P u≠Ĭ x a:=by
 unfold ó;refine GZ λn=> ?_;simp only[];split
 .exact ad1
 .split;all_goals simp_all
def En(t:Á)(i:fh Y x v)(j:∃p,x=Ö p)(k:ÿ)(n:Int):kL P fh Y (š t x<|ċ k n) (š t v<|ċ k n):=by
 obtain⟨p,rfl⟩:=j;cases i with
 |lT=>
  unfold š;refine lh (jf t) ?_;rintro e d _ h ⟨rfl,_⟩;cases d<;>simp only[Å,if_false,if_true]<;>first|exact .gq .fS|exact .gq (.oM (VB t _))
 |j2 f=>
  unfold š;refine lh (jf t) ?_;rintro e d _ h ⟨rfl,_⟩;have l:∀{a g:Û},ia e a g->kL P fh e (ķ a>>=λp=>ó #[] t #[Ö<|À p.1,ċ k n]>>=λc=>match c with|Ö (À b)=>cC b p.2|c=>pure c) (ķ g>>=λp=>ó #[] t #[Ö<|À p.1,ċ k n]>>=λc=>match c with|Ö (À b)=>cC b p.2|c=>pure c):=by intro a g f;refine lh (Aw f) ?_;rintro q p r s ⟨m,u,rfl,rfl⟩;refine lh (VA t m k n) ?_;intro w c y z o;cases o<;>first|exact .Ek trivial|exact .gq (.fC (by constructor<;>assumption))
  cases d<;>simp only[Å,if_false,if_true]<;>first|exact .gq .fS|exact l<|f.r h
def VC(t:Á)(b:fh Y x v)(c:∃p,x=Ö p)(k:ÿ)(n:Int):kL P fh Y (ů t x<|ċ k n) (ů t v<|ċ k n):=by
 unfold ů;obtain⟨p,rfl⟩:=c;cases b with
 |lT=>exact .gq (.oM (VB t _))
 |j2 a=>
  apply lh (Vv a.1);rintro e p f d ⟨rfl,rfl⟩;exact .gq (VA t (a.r d) k n)
def aej(P:Ø)(a:Ĩ)(t:Á)(x y:Ã):Prop:=a=aL\/a=aX->(tP P t\/((∃e,P.underlying t=À (ò e))/\(nt x\/nt y)))
def VD(c:Bi Y)(d:Y.C=P.globals.size)(t:Á)(f:tP P t\/((∃e,P.underlying t=À (ò e))/\(nt x\/nt z)))(a:fh Y x v)(b:fh Y z jQ):fE P jv Y (ù t x z) (ù t v jQ):=by
 rcases f with h|⟨g,i⟩
 .exact aed c d t h a b
 .exact Vu t (Î g) a b i
def aek(m:Bi Y)(n:Y.C=P.globals.size)(c:Ĩ)(t:Á)(r:aej P c t x z)(o:fh Y x v)(h:fh Y z jQ):kL P fh Y (Ÿ c t x z) (Ÿ c t v jQ):=by
 have f:c=aL->fE P fh Y (ù t x z>>=λb=>pure<|Ň b) (ù t v jQ>>=λb=>pure<|Ň b):=by intro e;apply fD (VD m n t (r<|Ç e) o h);rintro i b _ _ rfl;exact .fC (.mD _)
 have g:c=aX->fE P fh Y (ù t x z>>=λb=>pure<|Ň !b) (ù t v jQ>>=λb=>pure<|Ň !b):=by intro e;apply fD (VD m n t (r<|Î e) o h);rintro i b _ _ rfl;exact .fC (.mD _)
 cases o with
 |iE k a=>
  cases h with
  |iE d b=>exact .gq (aeg c t k d a b)
  |j2 l=>
   cases c<;>first|exact .gq .fS|exact .gq (f U)|exact .gq (g U)|exact En t (.j2 l) ⟨_,U⟩ _ _|skip
   apply lh (Aw l);rintro i p s e ⟨j,_,_,_⟩;exact .gq (Vy _ j _)
  |lT=>cases c<;>first|exact .gq .fS|exact .gq (f U)|exact .gq (g U)|exact En t .lT ⟨_,U⟩ _ _
  |_=>cases c<;>first|exact .gq .fS|exact .gq (f U)|exact .gq (g U)
 |kK a=>
  cases h with
  |kK b=>exact .gq (aeh c t a b)
  |_=>cases c<;>first|exact .gq .fS|exact .gq (f U)|exact .gq (g U)
 |lT=>
  cases h with
  |iE k b=>
   cases c<;>first|exact .gq .fS|exact .gq (f U)|exact .gq (g U)|exact En t .lT ⟨_,U⟩ _ _|skip
   refine lh (jf t) ?_;rintro i d _ e ⟨rfl,_⟩;cases d<;>simp only[Å,if_false,if_true]<;>first|exact VC t .lT ⟨_,U⟩ _ _|exact En t .lT ⟨_,U⟩ _ _
  |_=>cases c<;>first|exact .gq .fS|exact .gq (f U)|exact .gq (g U)
 |j2 a=>
  cases h with
  |iE k b=>
   cases c<;>first|exact .gq .fS|exact .gq (f U)|exact .gq (g U)|exact En t (.j2 a) ⟨_,U⟩ _ _|skip
   .refine lh (jf t) ?_;rintro i d _ e ⟨rfl,_⟩;have a:=a.r e;cases d<;>simp only[Å,if_false,if_true]<;>first|exact VC t (.j2 a) ⟨_,U⟩ _ _|exact En t (.j2 a) ⟨_,U⟩ _ _
   all_goals
    apply lh (Aw a);rintro i p s e ⟨j,_,_,_⟩;exact .gq (Vy _ j _)
  |j2 l=>
   cases c<;>first|exact .gq .fS|exact .gq (f U)|exact .gq (g U)|skip
   all_goals
    refine lh (Aw a) ?_;rintro i p s e ⟨j,_,rfl,rfl⟩;refine lh (Aw<|l.r e) ?_;rintro w q B b ⟨d,_,rfl,rfl⟩;have k:=b.2.1<|e.2.1 m;have u:=b.2.2.trans<|e.2.2.trans n;first|exact .gq (ad5 k u _ (j.r b) d)|exact .gq (ad6 k u _ (j.r b) d)
  |_=>cases c<;>first|exact .gq .fS|exact .gq (f U)|exact .gq (g U)
 |_=>
  cases h<;>cases c<;>first|exact .gq .fS|exact .gq (f U)|exact .gq (g U)
end
section
variable{Y:fl}
def ael(a b:Á)(h:(∃k g,P.underlying a=À (Ρ k)/\P.underlying b=À (Ρ g))\/(P.underlying a=À ğ/\P.underlying b=À ğ))(f:fh Y x v):fE P fh Y (Ş a b x) (Ş a b v):=by
 unfold Ş;refine fD (jf a) ?_;rintro n d _ l ⟨rfl,c⟩;refine fD (jf b) ?_;rintro o p _ m ⟨rfl,e⟩;have f:=(f.fO l).fO m;rcases h with⟨k,g,i,j⟩|⟨i,j⟩;all_goals
  rw[i]at c;rw[j]at e;injection c with c;injection e with e;subst c e;cases f<;>first|exact .fS|exact .fC (.iE _ _)|exact .fC (.kK _)
inductive pv(Y:fl):ξ->ξ->Prop
 |nW {v v':Ã} (h:fh Y v v'):pv Y (ñ v) (ñ v')
 |sR:pv Y aT aT
 |sS (f:â) {c c':Array Ã} (h:fT Y c c'):pv Y (Ź f c) (Ź f c')
def G1(P:Ø)(t:Á):Prop:=tP P t\/∃e,P.underlying t=À (ò e)
def aem(t:Á)(f:G1 P t)(a g b i:Ã):fE P jv Y (ĸ Ć t a b) (ĸ Ć t g i):=by
 unfold Ć ĸ;refine fD (jf t) ?_;rintro j d _ l ⟨rfl,c⟩;rcases f with(h|⟨k,h⟩|h)|⟨e,h⟩;all_goals
  rw[h]at c;injection c with c;subst c;exact .fC U
def aen(e:Ĩ)(t:Á)(c:e=aL\/e=aX->G1 P t)(x y:Ù){d:Ã}(h:fh Y v z)(i:fh Y jQ d):fE P jv Y (Ζ e t x y v jQ) (Ζ e t x y z d):=by
 have g:G1 P t->∀{f:fl} (s:bG) (v z jQ d:Ã),fE P jv f (ĸ Ć t v jQ>>=λr=>if r=È then unsupported s else pure ()) (ĸ Ć t z d>>=λr=>if r=È then unsupported s else pure ()):=by
  intro c f s v z jQ d;apply fD (aem t c v z jQ d);rintro j r _ _ rfl;split
  .exact .fS
  .exact .fC U
 unfold Ζ;cases e<;>first|exact .fC U|skip
 all_goals
  have c:=c (by first|exact Ç U|exact Î U);cases h<;>cases i<;>first|exact .fC U|skip
 all_goals first
  |(cases x<;>cases y<;>first|exact .fC U|exact g c _ _ _ _ _)
  |(
   simp only[ă,Å,if_false];apply fD rG;rintro f p m n ⟨r,s⟩;rw[r,s];apply fD rG;rintro j q o u ⟨k,l⟩;rw[k,l];split
   .exact .fC U
   .exact g c _ _ _ _ _)
def mP{m a:Ę Ã}(h:fE P fh Y m a):fE P pv Y (m>>=λv=>pure<|ñ v) (a>>=λv=>pure<|ñ v):=h.lE λ_ _ _ _ v=> .fC (.nW v)
def VE{m a:Ę Ã}(h:kL P fh Y m a):kL P pv Y (m>>=λv=>pure<|ñ v) (a>>=λv=>pure<|ñ v):=aei h λ_ _ _ _ v=> .nW v
def aeo{m a:Ę Unit}(h:fE P jv Y m a):fE P pv Y (m>>=λ_=>pure aT) (a>>=λ_=>pure aT):=h.lE λ_ _ _ _ _=> .fC .sR
def aep(f:â)(b:∃a,P.funcs[f]?=À a/\(a.name== "runtime.NumGoroutine")=Â/\a.body.isNone=Â)(e:fT Y d q):fE P pv Y (ľ f d) (ľ f q):=by let⟨a,g,h,i⟩:=b;unfold ľ;apply fD rG;rintro m p n j ⟨k,l⟩;rw[k,l,g];simp only[h,i,Å,if_false];exact .fC (.sS f (e.I j))
end
inductive kn(P:Ø)(ev:Ù->Ã):Op->Prop
 |Ax (x:Ù):kn P ev (.move x)
 |G2 (x:Ù):kn P ev (.assign x)
 |wI (c a b:Ù):kn P ev (.pick c a b)
 |gG (t:Á):kn P ev (.alloc t)
 |O1 (t:Á) (x:Ù):kn P ev (.box t x)
 |O2 (t:Á) (ps:Array (Nat×Operand)):kn P ev (.build t ps)
 |O3 (t:Á) (n:Nat) (ps:Array (Nat×Operand)):kn P ev (dL t n ps)
 |gB (t:Á) (a:Ù):kn P ev (.load t a)
 |je (t:Á) (a x:Ù):kn P ev (.store t a x)
 |G3 (x:Ù):kn P ev (eK x)
 |Eo (op:Ĩ) (t:Á) (x y:Ù) (r:Á) (h:op=aL\/op=aX->(tP P t\/((∃e,P.underlying t=À (ò e))/\(nt (ev x)\/nt (ev y))))):kn P ev (eb op t x y r)
 |O4 (op:UnOp) (t:Á) (x:Ù):kn P ev (.unOp op t x)
 |O5 (s d:Á) (x:Ù) (h:(∃k k',P.underlying s=À (Ρ k)/\P.underlying d=À (Ρ k'))\/(P.underlying s=À ğ/\P.underlying d=À ğ)):kn P ev (aY s d x)
 |O6 (t:Á) (l c:Ù):kn P ev (ec t l c)
 |kV (t:Á) (x:Ù) (lo hi mx:Option Ù):kn P ev (.slice t x lo hi mx)
 |O7 (s:Á) (x:Ù) (n:Nat) (h:∀fields f i,P.underlying s=À (dx fields)->fields[n]?=À f->P.info? f.type=À i->i.size≠0):kn P ev (ef s x n)
 |O8 (t:Á) (x:Ù) (n:Nat):kn P ev (.field t x n)
 |O9 (t:Á) (x i:Ù):kn P ev (eg t x i)
 |Pa (t:Á) (x i:Ù):kn P ev (.index t x i)
 |GN (x:Ù) (n:Nat):kn P ev (.extract x n)
 |G4 (x:Ù) (ts:Array Á):kn P ev (σ {callee:=Ĥ .len,args:=#[x],argTypes:=ts})
 |G5 (x:Ù) (ts:Array Á):kn P ev (σ {callee:=Ĥ .cap,args:=#[x],argTypes:=ts})
 |G6 (x y:Ù) (ts:Array Á):kn P ev (σ {callee:=Ĥ .copy,args:=#[x,y],argTypes:=ts})
 |G7 (x y:Ù) (t0 t1:Á) (h:(∃e,P.underlying t1=À (dy e))\/P.underlying t1=À ğ):kn P ev (σ {callee:=Ĥ .append,args:=#[x,y],argTypes:=#[t0,t1]})
 |jM (f:â) (args:Array Ù) (ts:Array Á) (VF:ev (aZ f)=eT (.func f) #[] #[]) (h:∃fn,P.funcs[f]?=À fn/\(fn.name== "runtime.NumGoroutine")=Â/\fn.body.isNone=Â):kn P ev (σ {callee:=cD<|aZ f,args:=args,argTypes:=ts})
end Go.Proofs.Y.Lift
namespace Go.Proofs.Y.Lift
open Go Go.Conc
section
variable{Y:fl}
def VG(Y:fl):Ù->Prop
 |eh v=>fh Y v v
 |eG g=>Y g g
 |_=>True
def G8(Y:fl):fh Y ň ň:=.nT U λi h=>absurd h fi
def aer{a a':bP}(h:fT Y a.tmps a'.tmps)(b:VG Y qQ):fh Y (a.eval qQ) (a'.eval qQ):=by
 cases qQ with
 |tmp t=>
  simp only[ç,İ];rcases h.S t with⟨f,g⟩|⟨v,d,f,g,c⟩
  .rw[f,g];exact G8 Y
  .rwa[f,g]
 |const v=>exact b
 |global g=>exact .j2 ⟨b,U,U⟩
 |func f=>exact .fn _
def aes(b:Array aI)(h:fT Y d q)(j:Nat):ō b d j=ō b q j:=by
 unfold ō;cases(b[j]?).bind (·.dst)with
 |none=>rfl
 |some a=>
  simp only[Option.bind_some];rcases h.S a with⟨c,e⟩|⟨v,g,c,e,f⟩
  .rw[c,e]
  .rw[c,e];cases f<;>rfl
def Ky(a:Array aI)(o:aI)(h:fT Y d q):ĭ o (ō a d)=ĭ o (ō a q):=by have:ō a d=ō a q:=funext<|aes a h;rw[this]
def aeu{a a':bP}(h:fT Y a.tmps a'.tmps)(d:Option Tmp)(b:fh Y v x):fT Y (a.put d v).tmps (a'.put d x).tmps:=by
 cases d with
 |none=>exact h
 |some d=>exact h.qO d b
end
section
variable{Y:fl}
def VH{b:Ù->Ã}(a:Array Ù)(h:∀x∈a,fh Y (xX x)<|b x):fT Y (a.map xX) (a.map b):= ⟨fi,λi c d=>by simp only[Ε];exact h _<|Array.getElem_mem _⟩
def VI{c:Ù->Ã}(a:Array (Nat×Operand))(h:∀x∈(a.toList.map (·.2)).toArray,fh Y (xX x)<|c x):vj Y (a.map λp=>(p.1,xX p.2)).toList (a.map λp=>(p.1,c p.2)).toList:=by
 simp only[Array.toList_map];have d:∀x∈a.toList.map (·.2),fh Y (xX x) (c x):=λx b=>h x (by simpa using b);generalize a.toList=l at d
 induction l with
 |nil=>exact .po
 |cons p l e=>exact .wH ⟨U,d _ fi⟩ (e λx b=>d x<|by simp at b|-;exact Î b)
def Pd{a:Ù->Ã}(x:Option Ù)(h:∀y,x=À y->fh Y (xX y) (a y)):rH Y (x.map xX) (x.map a):=by
 cases x with
 |none=>exact Ç ⟨U,U⟩
 |some x=>exact Î ⟨_,_,U,U,h x U⟩
def VJ(p:nV P)(D:Bi Y)(E:Y.C=P.globals.size){w:Ù->Ã}(F:∀f,w (aZ f)=eT (.func f) #[] #[])(B:kn P xX o.op)(g:∀x∈o.op.operands,fh Y (xX x)<|w x):kL P pv Y (î xX o) (î w o):=by
 let⟨O,u,Q,S,T,guard⟩:=o;simp only at B g;unfold î;simp only[];cases B with
 |Ax x=>exact .gq (.fC (pv.nW<|g x<|by simp[Ê]))
 |G2 x=>exact .gq (.fC (pv.nW<|g x<|by simp[Ê]))
 |wI c a b=>
  apply lh (Vq<|g c<|by simp[Ê]);rintro G r _ k rfl;refine .gq (.fC (pv.nW ?_));split
  .exact(g a<|by simp[Ê]).fO k
  .exact(g b<|by simp[Ê]).fO k
 |gG t=>exact .gq (mP<|adB p t _)
 |O1 t x=>exact .gq (mP<|adC t<|g x<|by simp[Ê])
 |O2 t z=>exact .gq (mP<|adS p t<|VI z g)
 |O3 t n z=>exact .gq (mP<|adV p t n<|VI z g)
 |gB t a=>exact .gq (mP<|adD t<|g a<|by simp[Ê])
 |je t a x=>exact .gq (aeo<|adE t (g a<|by simp[Ê])<|g x<|by simp[Ê])
 |G3 x=>
  simp only[];have j:=g x (by simp[Ê]);generalize xX x=v at j;generalize w x=v' at j;cases j<;>first|exact .gq O0|exact .gq (.fC (pv.nW<|by constructor<;>assumption))|skip
  rename_i f;cases f<;>exact .gq (.fC (pv.nW<|.fn _))
 |Eo u t x y r h=>
  have j:=g x (by simp[Ê]);have C:=g y (by simp[Ê]);apply VE;apply lh (aen u t (λe=>(h e).imp id λq=>q.1) x y j C);exact λG _ _ k _=>aek (k.2.1 D) (k.2.2.trans E) u t h (j.fO k)<|C.fO k
 |O4 u t x=>exact .gq (mP<|adM u<|g x<|by simp[Ê])
 |O5 s d x h=>exact .gq (mP<|ael s d h<|g x<|by simp[Ê])
 |O6 t l c=>exact .gq (mP<|ad3 p t (g l<|by simp[Ê])<|g c<|by simp[Ê])
 |kV t x H I J=>exact .gq (mP<|adK t (g x<|by simp[Ê]) (Pd H λy e=>g y<|by simp[Ê,e]) (Pd I λy e=>g y<|by simp[Ê,e])<|Pd J λy e=>g y<|by simp[Ê,e])
 |O7 s x n h=>exact .gq (mP<|adH s (g x<|by simp[Ê]) n h)
 |O8 t x n=>exact .gq (mP<|adG t (g x<|by simp[Ê]) n)
 |O9 t x i=>exact .gq (mP<|adI t (g x<|by simp[Ê])<|g i<|by simp[Ê])
 |Pa t x i=>exact .gq (mP<|adL t (g x<|by simp[Ê])<|g i<|by simp[Ê])
 |GN x n=>exact .gq (mP<|adF (g x<|by simp[Ê]) n)
 |G4 x m=>
  simp only[þ,Ē,ė,pure_bind,Ú,ä,æ];exact .gq (mP<|adX m _<|g x<|by simp[Ê,ú])
 |G5 x m=>
  simp only[þ,Ē,ė,pure_bind,Ú,ä,æ];exact .gq (mP<|adY m _<|g x<|by simp[Ê,ú])
 |G6 x y m=>
  simp only[þ,Ē,ė,pure_bind,Ú,ä,æ];exact .gq (mP<|adZ m _ (g x<|by simp[Ê,ú])<|g y<|by simp[Ê,ú])
 |G7 x y K L h=>
  simp only[þ,Ē,ė,pure_bind,Ú,ä,æ];exact .gq (mP<|ad2 p K L _ h (g x<|by simp[Ê,ú])<|g y<|by simp[Ê,ú])
 |jM f M m N h=>
  simp only[þ,N,F f,Ĺ,Ē,pure_bind,ē,Ĕ];exact .gq (aep f h<|VH M λx j=>g x<|by simp[Ê,ú,j])
end
def World.tp(u:Æ)(T:az)(D:Nat):Æ:={u with tape:=T,drawn:=D}
def vk(T:az)(D:Nat)(a:az)(b n:Nat):Prop:=∀i,i<n->a (b+i)=T (D+i)
def vk.lV{T:az}(h:vk T i xQ j (n+1)):xQ j=T i:=h 0 Z
def vk.jw{T:az}(h:vk T i xQ j (n+m)):vk T i xQ j n:=λa b=>h a Z
def vk.Pe{b:az}(h:vk xQ i b j (n+m)):vk xQ (i+n) b (j+n) m:=λa c=>by have:=h (n+a) Z;rw[show j+n+a=j+(n+a) by omega,show i+n+a=i+(n+a) by omega];exact this
def rJ{α:Type}(P:Ø)(m:Ę α):Prop:=∀(u:Æ) (T:az) (D:Nat),∃(n:Nat) (v:Æ),
 ∀x c,m.run P ((World.tp u T D))=Ĭ x c->c=(World.tp v T<|D+n)/\∀a b,vk T D a b n->m.run P ((World.tp u a b))=Ĭ x ((World.tp v a<|b+n))
section
variable{α β:Type}
def Ay{m:Ę α}(h:∀u x a,m.run P u=Ĭ x a->a=u/\∀b c,m.run P ((World.tp u b c))=Ĭ x ((World.tp u b c))):rJ P m:=λu T D=>⟨0,u,λx a e=>by let⟨d,f⟩:=h _ x a e;exact⟨d,λb c _=>f b c⟩⟩
def Pf{m:Ę α}(h:∀u x a,m.run P u≠Ĭ x a):rJ P m:=λu T D=>⟨0,u,λx a e=>absurd e<|h _ _ _⟩
def aev{m:Ę α}{f:α->Ę β}(h:rJ P m)(i:∀a,rJ P<|f a):rJ P (m.bind f):=by
 intro u T D;let⟨n,v,j⟩:=h u T D;cases b:m.run P ((World.tp u T D))with
 |halt z w=>exact⟨0,u,λx c e=>by rw[Ľ,b]at e;cases e⟩
 |ok a k=>
  obtain⟨rfl,l⟩:=j a k b;let⟨o,w,p⟩:=i a v T<|D+n;refine⟨n+o,w,λx c e=> ?_⟩;rw[Ľ,b]at e;let⟨q,r⟩:=p x c e;refine⟨by rw[q,da],λz d g=> ?_⟩;rw[Ľ,l z d g.jw,<-da];exact r z (d+n) g.Pe
theorem aew{m a:Ę α}(h:∀u,m.run P u=a.run P u)(b:rJ P a):rJ P m:=by intro u T D;let⟨n,v,c⟩:=b u T D;exact⟨n,v,λx d e=>by grind⟩
def aex(q:cj):rJ P (Ō q):=by
 intro u T D;cases a:q.forced with
 |true=>exact⟨0,u,λx d e=>by simp only[Ō,å,a,if_true]at e;cases e;exact⟨U,λb c _=>by simp only[Ō,å,a,if_true];rfl⟩⟩
 |false=>
  refine⟨1,u,λx d e=> ?_⟩;simp only[Ō,å,a,Å,if_false]at e;cases e;refine⟨U,λb c f=> ?_⟩;simp only[Ō,å,a,Å,if_false];have g:(World.tp u b c).tape (World.tp u b c).drawn q=T D q:=congrFun f.lV q;rw[g];rfl
def Kz{γ:Type}(s:String):(MonadExcept.throw s:Except String γ)=bQ s:=rfl
def aey(a:Û)(md:Mode):rJ P (bq a md):=by
 refine Ay λu x f e=> ?_;simp only[bq,å]at e|-;cases b:u.cell? a with
 |some v=>
  rw[b]at e;cases e;exact⟨U,λc d=>by simp only[show((World.tp u c d)).cell? a=À x from b]⟩
 |none=>
  rw[b]at e;cases v:u.farLoad P a (md==Đ)with
  |error z=>simp only[v]at e;cases e
  |ok p=>
   simp only[v]at e;cases e;exact⟨U,λc d=>by simp only[show((World.tp u c d)).cell? a=ë from b,show((World.tp u c d)).farLoad P a (md==Đ)=.ok p from v]⟩
def Pg(u:Æ)(a:Û)(v:Ã)(md:Mode):∀T D,((World.tp u T D)).farStore P a v (md==Đ)=(u.farStore P a v<|md==Đ).map λp=>((World.tp p.1 T D),p.2):=by
 intro T D;have c:∀b t,((World.tp u T D)).viewStore P b t a v (md==Đ)=(u.viewStore P b t a v<|md==Đ).map λp=>((World.tp p.1 T D),p.2):=by
  intro b t;unfold bT;have o:((World.tp u T D)).seen P b t a (md==Đ)=u.seen P b t a (md==Đ):=U;rw[o];simp only[bind,ak,pure,ar,Kz];cases u.seen P b t a (md==Đ)with
  |error e=>simp only[];split<;>rfl
  |ok r=>
   simp only[];repeat' (first|rfl|split)
 unfold ų;have e:((World.tp u T D)).heap=u.heap:=U;cases r:u.heap[a.block]? with
 |none=>simp only[bb,e,r];rfl
 |some o=>
  cases o<;>first
   |(simp only[bb,e,r];rfl)
   |skip
  simp only[e,r,c];cases u.viewStore P _ _ a v (md==Đ)<;>rfl
def aez(a:Û)(v:Ã)(md:Mode):rJ P (aG a v md):=by
 by_cases b:yr v=È
 .intro u T D;cases d:u.cell? a with
  |some y=>
   cases c:u.frozen? a with
   |true=>exact⟨0,u,λx h e=>by simp only[aG]at e;rw[wG b,show((World.tp u T D)).cell? a=À y from d]at e;simp only[show((World.tp u T D)).frozen? a=È from c,if_true]at e;cases e⟩
   |false=>
    refine⟨0,u.setCell a v,λx h e=> ?_⟩;simp only[aG]at e|-;rw[wG b,show((World.tp u T D)).cell? a=À y from d]at e;simp only[show((World.tp u T D)).frozen? a=Â from c,Å,if_false]at e;cases e;refine⟨U,λf g i=> ?_⟩;rw[wG b,show((World.tp u f g)).cell? a=À y from d];simp only[show((World.tp u f g)).frozen? a=Â from c,Å,if_false];rfl
  |none=>
   cases c:u.farStore P a v (md==Đ)with
   |error z=>exact⟨0,u,λx h e=>by simp only[aG]at e;rw[wG b,show((World.tp u T D)).cell? a=ë from d]at e;simp only[Pg u a v md T D,c,cE]at e;cases e⟩
   |ok p=>
    refine⟨0,p.1,λx h e=> ?_⟩;simp only[aG]at e|-;rw[wG b,show((World.tp u T D)).cell? a=ë from d]at e;simp only[Pg u a v md T D,c,cE]at e;cases e;refine⟨U,λf g i=> ?_⟩;rw[wG b,show((World.tp u f g)).cell? a=ë from d];simp only[Pg u a v md f g,c,cE];rfl
 .exact Pf λu x h e=>by cases v<;>first|exact absurd U b|cases e
def aeA(o:Obj):rJ P (ei o):=λu T D=>⟨0,{u with heap:=u.heap.push o},λx a e=>by cases e;exact⟨U,λb c _=>rfl⟩⟩
def aeB(r:Nat):rJ P (cF r):=by
 refine Ay λu x d e=> ?_;simp only[cF,å]at e|-;cases a:u.heap[r]? with
 |none=>rw[a]at e;cases e
 |some o=>
  rw[a]at e;cases o<;>first
   |(cases e;done)
   |(cases e;exact⟨U,λb c=>by simp only[show((World.tp u b c)).heap[r]?=_ from a]⟩)
end
def qP(u:Æ):Prop:=∀(i:Nat) (c:Array Ã) (e:Á),u.heap[i]?≠À (Η c e)
structure Kd(u u':Æ):Prop where
 r:qP u->qP u'
 C:∀(i:Nat) (o:Obj),u.heap[i]?=À o->yx o->∃o',u'.heap[i]?=À o'/\yx o'
def Kd.fW(u:Æ):Kd u u:=⟨id,λ_ o h k=>⟨o,h,k⟩⟩
def Kd.fe{c:Æ}(h:Kd w u)(k:Kd u c):Kd w c:=⟨λx=>k.r<|h.r x,λi o x y=>by let⟨d,e,f⟩:=h.C i o x y;exact k.C i d e f⟩
def G9:Halt->Bool
 |.panic _=>È
 |.stuck _=>È
 |Ŋ (.initOrder _)=>Â
 |Ŋ _=>È
 |_=>Â
def oN{α:Type}(P:Ø)(m:Ę α):Prop:=∀u,qP u->(∀x a,m.run P u=Ĭ x a->Kd u a)/\(∀z a,m.run P u=cm z a->G9 z=È)
section
variable{α β:Type}
def VK(a:α):oN P (aU a):=λu _=>⟨λx b h=>by cases h;exact Kd.fW u,λz b h=>by cases h⟩
def Ha{z:Halt}(h:G9 z=È):oN P (eE z:Ę α):=λu _=>⟨λx a e=>(by cases e),λb a e=>(by cases e;exact h)⟩
def KA{m:Ę α}{f:α->Ę β}(h:oN P m)(j:∀a,oN P<|f a):oN P (m.bind f):=by
 intro u d;let⟨g,k⟩:=h u d;refine⟨λx i e=> ?_,λz i e=> ?_⟩<;>rw[Ľ]at e
 .cases b:m.run P u with
  |ok a c=>
   rw[b]at e;exact(g a c b).fe<|(j a c<|(g a c b).r d).1 x i e
  |halt z w=>rw[b]at e;cases e
 .cases b:m.run P u with
  |ok a c=>
   rw[b]at e;exact(j a c<|(g a c b).r d).2 z i e
  |halt c w=>rw[b]at e;cases e;exact k _ _ b
def VL:oN P du:=λu _=>⟨λx a h=>by cases h;exact Kd.fW u,λz a h=>by cases h⟩
theorem aeC(q:cj):oN P (Ō q):=by
 intro u b;constructor
 .intro x a e;simp only[Ō,å]at e;split at e<;>cases e
  .exact Kd.fW u
  .exact⟨id,λi o h k=>⟨o,h,k⟩⟩
 .intro z a e;simp only[Ō,å]at e;grind
def aeD(m:Mark):oN P (ea m):=λu _=>⟨λx a h=>by cases h;exact Kd.fW u,λz a h=>by cases h⟩
def aeE(r:Nat):oN P (cG r):=λu _=>⟨λx a h=>by cases h;exact Kd.fW u,λz a h=>by cases h⟩
def aeF(a:Û):oN P (eW a):=λu _=>⟨λx b h=>by cases h;exact Kd.fW u,λz b h=>by cases h⟩
theorem aeG(o:Obj)(h:∀c e,o≠Η c e):oN P (ei o):=by
 intro u b;refine⟨λx d e=> ?_,λz d e=>by cases e⟩;cases e;refine⟨λ_ i c e a=> ?_,λi f a g=>⟨f,?_,g⟩⟩
 .simp only[Array.getElem?_push]at a;split at a
  .grind
  .exact b i c e a
 .grind
theorem VM{f:Obj->Obj}(n:∀o,yx o->yx (f o))(j:∀o c e,f o=Η c e->∃d g,o=Η d g):Kd u {u with heap:=u.heap.modify b f}:=by
 refine⟨λh i c e a=> ?_,λi o a p=> ?_⟩
 .simp only[Œ]at a;split at a
  .let⟨o,k,l⟩:=Ī.1 a;let⟨d,g,m⟩:=j o c e l;exact h i d g<|m▸k
  .exact h i c e a
 .grind
theorem aeH(a:Û)(v:Ã):Kd u (u.setCell a v):=by
 unfold Ď;refine VM (λo b=> ?_) λo c e h=> ?_
 .cases o<;>first|exact b.elim|trivial
 .grind
def VN(b:qP u)(a:Û)(s:String):G9 (u.noCell a s)=È:=by
 unfold bb;split
 .rename_i h;exact absurd h<|b _ _ _
 .rfl
 .rfl
theorem aeI(a:Û)(m:Mode):oN P (bq a m):=by
 intro u d;constructor
 .intro x c e;simp only[bq,å]at e;grind [Kd.fW]
 .intro z c e;simp only[bq,å]at e;split at e
  .cases e
  .split at e
   .cases e
   .rename_i b;cases e;unfold ŗ at b;split at b
    .split at b<;>cases b;rfl
    .grind [VN]
theorem aeJ{k:Û}{r:Array Value×TypeId×(Nat×Nat)×Nat×Value×List (Nat×Nat×List UInt8)}(h:w.seen P a t k yQ=.ok r):∃c e d,w.heap[a.block]?=À (đ c e d):=by unfold World.seen at h;simp only[bind,ak,pure,ar,Kz]at h;grind
theorem aeK{k:Û}{l:List Û}(h:w.viewStore P a t k v yQ=.ok (u,l)):Kd w u:=by
 have q:∃c e n d f g,w.heap[a.block]?=À (đ d f g)/\u={w with heap:=w.heap.setIfInBounds a.block (đ c e n)}:=by
  unfold bT at h;cases i:w.seen P a t k yQ with
  |error e=>
   rw[i]at h;simp only[bind,ak,pure,ar,Kz]at h;repeat' (first|contradiction|split at h)
  |ok r=>
   let⟨d,f,g,j⟩:=aeJ i;rw[i]at h;simp only[bind,ak,pure,ar,Kz]at h;repeat' (first|contradiction|split at h)
   all_goals(simp only[Except.ok.injEq,Prod.mk.injEq]at h;obtain⟨rfl,_⟩:=h;exact⟨_,_,_,d,f,g,j,U⟩)
 obtain⟨c,e,n,d,f,g,j,rfl⟩:=q;refine⟨λs i x m r=> ?_,λi o r y=> ?_⟩
 .rw[Ŧ]at r;split at r
  .grind
  .exact s i x m r
 .by_cases m:a.block=i
  .subst m;rw[j]at r;cases r;exact y.elim
  .grind
theorem aeL(a:Û)(v:Ã)(m:Mode):oN P (aG a v m):=by
 intro u d;by_cases c:yr v=È
 .constructor
  .intro x f e;simp only[aG]at e;rw[wG c]at e;split at e
   .split at e
    .cases e
    .cases e;exact aeH a v
   .split at e
    .rename_i b;cases e;unfold ų at b;grind [aeK]
    .cases e
  .intro z f e;simp only[aG]at e;rw[wG c]at e;split at e
   .split at e
    .cases e;rfl
    .cases e
   .split at e
    .cases e
    .rename_i b;cases e;unfold ų at b;split at b
     .split at b<;>cases b;rfl
     .grind [VN]
 .cases v<;>first|exact absurd U c|exact Ha (P:=P) U u d
def fB(P:Ø)(m:Ę α):Prop:=oN P m/\rJ P m
def gF(a:α):fB P (pure a):=⟨VK a,Ay λu x b e=>by cases e;exact⟨U,λ_ _=>rfl⟩⟩
def Pj{z:Halt}(h:G9 z=È):fB P (eE z:Ę α):=⟨Ha h,Pf λu x a e=>by cases e⟩
def gp{m:Ę α}{f:α->Ę β}(h:fB P m)(b:∀a,fB P<|f a):fB P (m>>=f):=⟨KA h.1 λa=>(b a).1,aev h.2 λa=>(b a).2⟩
def Pk{m:Ę α}{f:α->β}(h:fB P m):fB P (f<$>m):=gp h λ_=>gF _
def jg(s:String):fB P (stuck s:Ę α):=Pj U
def VO(v:Ã):fB P (goPanic v:Ę α):=Pj U
def qR:fB P du:=⟨VL,Ay λu x a e=>by cases e;exact⟨U,λ_ _=>rfl⟩⟩
def sT(q:cj):fB P (Ō q):=⟨aeC q,aex q⟩
def Hb(m:Mark):fB P (ea m):=⟨aeD m,Ay λu x a e=>by cases e;exact⟨U,λ_ _=>rfl⟩⟩
def tR(r:Nat):fB P (cG r):=⟨aeE r,Ay λu x a e=>by cases e;exact⟨U,λ_ _=>rfl⟩⟩
def Pl(a:Û):fB P (eW a):=⟨aeF a,Ay λu x b e=>by cases e;exact⟨U,λ_ _=>rfl⟩⟩
def KB(o:Obj)(h:∀c e,o≠Η c e):fB P (ei o):=⟨aeG o h,aeA o⟩
def Hc(a:Û)(m:Mode):fB P (bq a m):=⟨aeI a m,aey a m⟩
def aeM(a:Û)(v:Ã)(m:Mode):fB P (aG a v m):=⟨aeL a v m,aez a v m⟩
def KC{m m':Ę α}(h:∀u,m.run P u=m'.run P u)(a:fB P m'):fB P m:=⟨λu b=>by have:=a.1 u b;rwa[<-h u]at this,aew h a.2⟩
end
section
variable{α:Type}
def nu(u:bG)(h:G9 (Ŋ u)=È):fB P (unsupported u:Ę α):=Pj h
def Hd(e:Á)(c:Array Ã):fB P (ņ e c):=by unfold ņ;exact gp (KB _<|by intro _ _ h;cases h) λ_=>gF _
def VP(t:Á)(v:Ã):fB P (eU t v):=Hd _ _
def vl(t:Á):fB P (ý t):=by unfold ý;repeat' (first|(with_reducible first|exact gF _|exact jg _|exact qR|refine gp ?_ λ_=> ?_)|split)
def rK(t:Á):fB P (ö t):=by unfold ö;repeat' (first|(with_reducible first|exact gF _|exact jg _|exact qR|refine gp ?_ λ_=> ?_)|split)
def tS{p:Prop}(h:p:=by repeat' (first|(with_reducible first|exact gF _|exact jg _|exact qR|exact rK _|exact VO _|exact VP _ _|exact sT _|exact vl _|exact Hc _ _|exact tR _|exact Hb _|refine gp ?_ (λ_=> ?_)|refine Pk ?_|refine nu _ ?_)|split|rfl)):p:=h
def KD(t:Á):fB P (ŧ t):=by unfold ŧ;exact tS
def wK(e:η):fB P (runtimePanic e:Ę α):=by unfold runtimePanic;repeat' (first|(with_reducible first|exact KD _|refine gp ?_ λ_=> ?_)|split|exact tS)
def VQ(k:ÿ)(x y:Int)(c:aJ):fB P (boundsPanic k x y c:Ę α):=by unfold boundsPanic;simp only[];repeat' (first|(with_reducible first|exact wK _|refine gp ?_ λ_=> ?_)|split|exact tS)
def aeN(r:Nat):oN P (cF r):=by
 intro u b;constructor
 .intro x a e;simp only[cF,å]at e;split at e<;>first|(cases e;done)|(cases e;exact Kd.fW u)
 .intro z a e;simp only[cF,å]at e;split at e<;>first|(cases e;done)|(cases e;rfl)
def VR(r:Nat):fB P (cF r):=⟨aeN r,aeB r⟩
def KE(t:Á):fB P (Ě t):=by unfold Ě;exact tS
def tT(t:Á):fB P (ŕ t):=by unfold ŕ;exact tS
def Pm(t:Á):fB P (eF t):=by unfold eF;exact tS
def VS(a:Û):∀(n i:Nat) (b:Array Ã),fB P<|Ř a i n b
 |0,i,b=>gF _
 |n+1,i,b=>by unfold Ř;exact gp (Hc _ _) λ_=>VS a n _ _
def Pn(a:Û)(n:Nat):fB P (dq a n):=VS a n _ _
def KF(a:Û):∀(b:List Ã) (i:Nat),fB P<|Ŗ a b i
 |[],i=>gF _
 |v::b,i=>by unfold Ŗ;exact gp (aeM _ _ _) λ_=>KF a b _
def VT(t:Á)(a:Û):fB P (aA t a):=by unfold aA;repeat' (first|(with_reducible first|exact tT _|exact Pm _|exact Pn _ _|refine gp ?_ λ_=> ?_)|split|exact tS)
def aeO(t:Á)(a:Û)(v:Ã):fB P (aV t a v):=by unfold aV;repeat' (first|(with_reducible first|exact tT _|exact KF _ _ _|refine gp ?_ λ_=> ?_)|split|exact tS)
def VU(t:Á)(c:Array Ã)(o:Nat):fB P (part t c o):=by unfold part;repeat' (first|(with_reducible first|exact tT _|exact Pm _|refine gp ?_ λ_=> ?_)|split|exact tS)
def VW(v:Ã):fB P (Ŵ v):=by unfold Ŵ;exact tS
def VX(v:Ã):fB P (dw v):=by unfold dw;exact tS
def j5{p:Prop}(h:p:=by repeat' (first|(with_reducible first|exact gF _|exact jg _|exact qR|exact rK _|exact VO _|exact VP _ _|exact KD _|exact sT _|exact wK _|exact vl _|exact Hc _ _|exact tT _|exact Pm _|exact Pn _ _|exact KF _ _ _|exact VX _|exact KE _|exact aeO _ _ _|exact VT _ _|exact VW _|exact VU _ _ _|exact tR _|exact VR _|exact VQ _ _ _ _|exact Hb _|refine gp ?_ (λ_=> ?_)|refine Pk ?_|refine nu _ ?_)|split|rfl)):p:=h
def He(v:Ã):fB P (dK v):=by unfold dK;exact j5
def KG(v:Ã):fB P (cu v):=by unfold cu;exact j5
def aeP(v:Ã):fB P (eV v):=by unfold eV;exact j5
def VY(v:Ã):fB P (cw v):=by unfold cw;exact j5
def VZ(t:Á)(b:Bool)(v:Ã):fB P (ſ t b v):=by unfold ſ;exact j5
def V1(t:Á)(v:Ã):fB P (aB t v):=by unfold aB;exact j5
def V2(t:Á)(v:Ã):fB P (ū t v):=by unfold ū;exact j5
def V3(t:Á)(a v:Ã):fB P (ļ t a v):=by unfold ļ;exact j5
def V4(v:Ã)(n:Nat):fB P (ř v n):=by unfold ř;exact j5
def V5(t:Á)(v:Ã)(n:Nat):fB P (Α t v n):=by unfold Α;repeat' (first|(with_reducible first|exact aeP _|refine gp ?_ λ_=> ?_)|split|exact j5)
def V7{γ δ:Type}(f:γ->Ę δ)(a:∀x,fB P<|f x):∀l:List γ,fB P<|l.mapM f
 |[]=>by rw[de];exact gF _
 |x::l=>by rw[ah];exact gp (a x) λ_=>gp (V7 f a l) λ_=>gF _
def V8{γ δ:Type}(f:γ->Ę δ)(a:∀x,fB P<|f x)(l:Array γ):fB P (l.mapM f):=by rw[ę];exact Pk<|V7 f a _
def aeQ(l:Array Field):fB P (l.mapM λf=>do pure (f.offset,<-ŕ f.type)):=V8 _ (λ_=>gp (tT _) λ_=>gF _) l
def KH(r:Nat):fB P (cA r):=by unfold cA;exact j5
def V9(r:Nat):fB P (cB r):=by unfold cB;exact j5
def Wa(a:Û):fB P (br a):=by unfold br;repeat' (first|(with_reducible first|exact KH _|refine gp ?_ λ_=> ?_)|split|exact j5)
def Az(a:Û):fB P (dz a):=by unfold dz;repeat' (first|(with_reducible first|exact gF _|exact jg _|exact qR|exact tR _|exact Wa _|refine gp ?_ λ_=> ?_)|split|simp only[]|(rename_i b;cases b<;>simp only[Å,if_false,if_true,ă,ć]))
def Ep(a:Û):fB P (ķ a):=by unfold ķ;repeat' (first|(with_reducible first|exact V9 _|refine gp ?_ λ_=> ?_)|split|exact j5)
def aeR(a:Û)(x y:Nat):fB P (partAt a x y):=by unfold partAt;repeat' (first|(with_reducible first|exact Az _|refine gp ?_ λ_=> ?_)|split|exact j5)
def aeS(a:Û)(f:Field):fB P (cx a f):=by unfold cx;repeat' (first|(with_reducible first|exact aeR _ _ _|refine gp ?_ λ_=> ?_)|split|exact j5)
def Wb(s:Á)(v:Ã)(n:Nat):fB P (Ś s v n):=by unfold Ś;repeat' (first|(with_reducible first|exact aeS _ _|refine gp ?_ λ_=> ?_)|split|exact j5)
def Wc(t:Á)(x i:Ã):fB P (ś t x i):=by unfold ś;repeat' (first|(with_reducible first|exact gF _|exact jg _|exact rK _|exact VQ _ _ _ _|exact tT _|exact VW _|exact VX _|refine gp ?_ (λ_=> ?_)|refine nu _ ?_)|split|rfl|simp only[])
def aeT(x:Ã)(y:Nat)(c:aJ):fB P (Ĵ x y c):=by unfold Ĵ;exact j5
def Wg(b:Bool)(l c:Nat)(x y z:Option Ã):fB P (į b l c x y z):=by unfold į;repeat' (first|(with_reducible first|exact aeT _ _ _|refine gp ?_ λ_=> ?_)|split|exact j5)
def aeU(t:Á)(v:Ã)(x y z:Option Ã):fB P (Β t v x y z):=by unfold Β;repeat' (first|(with_reducible first|exact VY _|exact Wg _ _ _ _ _ _|refine gp ?_ λ_=> ?_)|split|exact j5)
def Wh(t:Á)(v:Ã)(x y z:Option Ã):fB P (Ŝ t v x y z):=by unfold Ŝ;repeat' (first|(with_reducible first|exact Wg _ _ _ _ _ _|exact aeU _ _ _ _ _|refine gp ?_ λ_=> ?_)|split|exact j5)
def Wi(t:Á)(x i:Ã):fB P (Γ t x i):=by unfold Γ;exact j5
def Wj(o:Ĩ)(k:ÿ)(x y:Int):fB P (dM o k x y):=by unfold dM;exact j5
def Wk(o:Ĩ)(k:ÿ)(x y:Int):fB P (ek o k x y):=by unfold ek;exact j5
def Wl(o:UnOp)(v:Ã):fB P (cz o v):=by unfold cz;repeat' (first|(with_reducible first|exact Wj _ _ _ _|exact Wk _ _ _ _)|split|exact j5)
def Wm(t:Á)(a:Array (Nat×Value)):fB P (Δ t a):=by unfold Δ;repeat' (first|(with_reducible first|exact aeQ _|refine gp ?_ λ_=> ?_)|split|exact j5)
def Wn(t:Á)(n:Nat)(a:Array (Nat×Value)):fB P (Ķ t n a):=by unfold Ķ;repeat' (first|(with_reducible first|exact gF _|exact jg _|exact Hd _ _|exact rK _|exact KE _|exact tT _|refine gp ?_ (λ_=> ?_)|refine nu _ ?_)|split|rfl|simp only[]|(rename_i b;cases b<;>simp only[Å,if_false,if_true,ă,ć]))
def Po(n:Nat):fB P (Ł n):=by unfold Ł;exact j5
def Wo(t:Á)(x y:Ã):fB P (Ń t x y):=by unfold Ń;repeat' (first|(with_reducible first|exact gF _|exact jg _|exact sT _|exact Hd _ _|exact vl _|exact rK _|exact wK _|exact KE _|exact tT _|exact He _|exact Po _|refine gp ?_ λ_=> ?_)|split|simp only[]|(rename_i b;cases b<;>simp only[Å,if_false,if_true,ă,ć]))
def Wp(v:Ã):fB P (Ο v):=by unfold Ο;exact j5
def Wq(s n:Nat)(v:Ã):fB P (Õ s n v):=by unfold Õ;exact j5
def aeV(a:Û)(n:Nat):fB P (aN a n):=by unfold aN;exact j5
def aeW(s l n:Nat)(b:Option Û)(v:Ã):fB P (ģ s l n b v):=by unfold ģ;repeat' (first|(with_reducible first|exact gF _|exact Pl _|exact aeV _ _|refine gp ?_ λ_=> ?_)|split|simp only[]|(rename_i b;cases b<;>simp only[Å,if_false,if_true,ă,ć]))
def Wr(a:Array Á)(t:Á)(x:Array Ã):fB P (Ŭ a t x):=by unfold Ŭ;exact j5
def Ws(a:Array Á)(t:Á)(x:Array Ã):fB P (ŭ a t x):=by unfold ŭ;exact j5
def Wt(a:Array Á)(t:Á)(x:Array Ã):fB P (ŝ a t x):=by unfold ŝ;repeat' (first|(with_reducible first|exact Wp _|exact Wq _ _ _|refine gp ?_ λ_=> ?_)|split|exact j5)
def Wu(a:Array Á)(t:Á)(x:Array Ã):fB P (ł a t x):=by unfold ł;repeat' (first|(with_reducible first|exact gF _|exact jg _|exact sT _|exact Hb _|exact Hd _ _|exact vl _|exact rK _|exact wK _|exact KE _|exact tT _|exact KF _ _ _|exact He _|exact Po _|exact Wp _|exact Wq _ _ _|exact aeW _ _ _ _ _|refine gp ?_ (λ_=> ?_)|refine nu _ ?_)|split|rfl|(rename_i b;cases b<;>simp only[Å,if_false,if_true,ă,ć]))
end
section
variable{α:Type}
def Pp(o:Ĩ)(k:ĺ)(x y:Nat):fB P (df o k x y):=by unfold df;repeat' (first|(with_reducible first|exact gF _|exact jg _|exact sT _|refine gp ?_ λ_=> ?_)|split|simp only[]|(rename_i b;cases b<;>simp only[Å,if_false,if_true,ă,ć]))
theorem Pq(o:Ĩ)(k:ĺ)(x y:Nat):fB P (dN o k x y):=by unfold dN;grind [gF,jg]
theorem aeX(s:ĺ)(b:Nat)(d:ĺ):fB P (bg s b d):=by unfold bg;grind [gF,sT,gp]
theorem Wv(s:ĺ)(b:Nat)(d:ÿ):fB P (bU s b d):=by unfold bU;grind [gF,sT,gp]
theorem aeY(o:Ĩ)(k:ĺ)(x y:Nat):fB P (bx o k x y):=by unfold bx;grind [gF,jg,Pp,gp]
def ny{p:Prop}(h:p:=by repeat' (first|(with_reducible first|exact gF _|exact jg _|exact sT _|exact Pp _ _ _ _|exact KG _|exact Pq _ _ _ _|exact aeX _ _ _|exact aeY _ _ _ _|exact wK _|exact qR|exact Az _|exact tR _|exact He _|exact KH _|exact rK _|exact Ep _|exact V9 _|refine gp ?_ (λ_=> ?_)|refine nu _ ?_)|split|rfl)):p:=h
def Ww(o:Ĩ)(k:ĺ)(x y:Nat):fB P (cH o k x y):=by unfold cH;exact ny
def aeZ(s:ĺ)(b:Nat)(d:ĺ):fB P (bV s b d):=by unfold bV;exact ny
def Pr(x y:Nat):fB P (cI x y):=by unfold cI;exact ny
def Pt(x y:Nat):fB P (cJ x y):=by unfold cJ;exact ny
def Pu(x y:Nat):fB P (cK x y):=by unfold cK;exact ny
def ae0(x y:Nat):fB P (cL x y):=by unfold cL;exact ny
def ae1(a b c d:Nat):fB P (aO a b c d):=by unfold aO;repeat' (first|(with_reducible first|exact Pr _ _|exact Pt _ _|exact Pu _ _|refine gp ?_ λ_=> ?_)|split|exact ny)
def ae2(s a b c d:Nat):fB P (au s a b c d):=by unfold au;repeat' (first|(with_reducible first|exact Pr _ _|exact Pt _ _|exact Pu _ _|refine gp ?_ λ_=> ?_)|split|exact ny)
def ae3(a b c d:Nat):fB P (aD a b c d):=by unfold aD;repeat' (first|(with_reducible first|exact gF _|exact Ww _ _ _ _|exact Pr _ _|exact Pt _ _|exact Pu _ _|exact ae0 _ _|exact ae2 _ _ _ _ _|refine gp ?_ λ_=> ?_)|split|simp only[])
def Wx(o:Ĩ)(k:ĺ)(a b c d:Nat):fB P (dA o k a b c d):=by unfold dA;repeat' (first|(with_reducible first|exact Ww _ _ _ _|exact aeZ _ _ _|exact ae1 _ _ _ _|exact ae3 _ _ _ _|refine gp ?_ λ_=> ?_)|split|exact ny)
def ae4(o:Ĩ)(k:ÿ)(x y:Int):fB P (aC o k x y):=by unfold aC;exact ny
def Wy(o:Ĩ)(x y:Int):fB P (eL o x y):=by unfold eL;exact ny
def ae5(o:Ĩ)(k:ÿ)(x:Int)(a:ÿ)(y:Int):fB P (aW o k x a y):=by unfold aW;exact ny
def Pv(o:Ĩ)(x y:ByteArray):fB P (bH o x y):=by unfold bH;exact ny
def Wz(a b:Û):fB P (Ů a b):=by unfold Ů;exact ny
def ae6(k:ÿ)(a b:Û):fB P (ι k a b):=by unfold ι;repeat' (first|(with_reducible first|exact Wz _ _|refine gp ?_ λ_=> ?_)|split|exact ny)
def ae7(o:Ĩ)(a b:Û):fB P (κ o a b):=by unfold κ;repeat' (first|(with_reducible first|exact Wz _ _|refine gp ?_ λ_=> ?_)|split|exact ny)
def ae8(k:ÿ)(a:Û)(n:Int):fB P (ν k a n):=by unfold ν;repeat' (first|(with_reducible first|exact gF _|exact tR _|exact vl _|exact Az _|refine gp ?_ (λ_=> ?_)|refine nu _ ?_)|split|rfl|simp only[]|(rename_i b;cases b<;>simp only[Å,if_false,if_true,ă,ć]))
def WA(a:Array Á)(t:Á)(x y:Ã):fB P (ó a t #[x,y]):=by
 unfold ó;cases x<;>first|exact jg _|skip
 refine gp (He y) λn=> ?_;exact ny
def ae9(a:Û)(b:Bool):fB P (cC a b):=by unfold cC;repeat' (first|(with_reducible first|exact gF _|refine gp ?_ (λ_=> ?_)|refine KB _ ?_)|split|(intro _ _ h;cases h;done))
def afa(t:Á)(x y:Ã):fB P (š t x y):=by unfold š;repeat' (first|(with_reducible first|exact WA _ _ _ _|exact ae9 _ _|refine gp ?_ λ_=> ?_)|split|exact ny)
def afb(t:Á)(x y:Ã):fB P (ů t x y):=by unfold ů;repeat' (first|(with_reducible first|exact WA _ _ _ _|refine gp ?_ λ_=> ?_)|split|exact ny)
theorem wL{γ:Type}{d:dO}(h:P.underlying t=À d){f:dO->Ę γ}(a:fB P (f d)):fB P (ö t>>=f):=by
 have e:∀u,(ö t).run P u=Ĭ d u:=by intro u;unfold ö;simp_all
 grind [KC,Ä,É]
def WB(t:Á)(x y:Ã)(a:tP P t\/((∃e,P.underlying t=À (ò e))/\(nt x\/nt y))):fB P (ù t x y):=by
 unfold ù Ć θ;rcases a with(h|⟨k,h⟩|h)|⟨⟨e,h⟩,k⟩<;>refine wL h ?_
 .repeat' (first|(with_reducible first|exact gF _|exact jg _|exact qR|exact vl _|exact Az _|exact Ep _|refine gp ?_ (λ_=> ?_)|refine nu _ ?_)|contradiction|split)
 .repeat' (first|(with_reducible first|exact gF _|exact jg _|exact qR|exact vl _|exact Az _|exact Ep _|refine gp ?_ (λ_=> ?_)|refine nu _ ?_)|contradiction|split|rfl)
 .repeat' (first|(with_reducible first|exact gF _|exact jg _|exact qR|exact vl _|exact Az _|exact Ep _|refine gp ?_ (λ_=> ?_)|refine nu _ ?_)|contradiction|split)
 .repeat' (first|(with_reducible first|exact gF _|exact jg _|exact qR|exact vl _|exact Az _|exact Ep _|refine gp ?_ (λ_=> ?_)|refine nu _ ?_)|contradiction|exact(Or.elim k id id:False).elim|split)
def afc(t:Á)(a:G1 P t)(x y:Ã):fB P (ĸ Ć t x y):=by unfold Ć ĸ;rcases a with(h|⟨k,h⟩|h)|⟨e,h⟩<;>refine wL h ?_<;>(cases x<;>cases y<;>exact gF _)
theorem WC(c:Ĩ)(t:Á)(d:c=aL\/c=aX->G1 P t)(x y:Ù)(a b:Ã):fB P (Ζ c t x y a b):=by
 unfold Ζ;by_cases e:c=aL\/c=aX
 .have f:=d e;rcases e with rfl|rfl;all_goals
   repeat' (first|(with_reducible first|exact afc _ f _ _|refine gp ?_ λ_=> ?_)|split|exact ny)
 .grind [gF]
end
section
variable{α:Type}
theorem afd(k:ÿ)(n:Int):fB P (dh k n):=by unfold dh;grind [gF]
theorem WE(n:Int):fB P (bz n):=by unfold bz;grind [gF]
def afe(a:Ĩ)(t:Á)(x y:Ã)(h:a=aL\/a=aX->(tP P t\/((∃e,P.underlying t=À (ò e))/\(nt x\/nt y)))):fB P (Ÿ a t x y):=by unfold Ÿ;repeat' (first|(with_reducible first|exact WB _ _ _ (h<|Ç U)|exact WB _ _ _ (h<|Î U)|exact gF _|exact jg _|exact rK _|exact Ep _|exact Wj _ _ _ _|exact Wk _ _ _ _|exact Pp _ _ _ _|exact Pq _ _ _ _|exact Wx _ _ _ _ _ _|exact ae4 _ _ _ _|exact Wy _ _ _|exact ae5 _ _ _ _ _|exact Pv _ _ _|exact ae6 _ _ _|exact ae7 _ _ _|exact ae8 _ _ _|exact afa _ _ _|exact afb _ _ _|refine gp ?_ (λ_=> ?_)|refine nu _ ?_)|contradiction|split|rfl)
def aff(s d:Á)(x:Ã)(h:(∃k a,P.underlying s=À (Ρ k)/\P.underlying d=À (Ρ a))\/(P.underlying s=À ğ/\P.underlying d=À ğ)):fB P (Ş s d x):=by
 unfold Ş;rcases h with⟨k,a,b,c⟩|⟨b,c⟩<;>refine wL b<|wL c ?_
 .repeat' (first|(with_reducible first|exact afd _ _|exact gF _|exact Wv _ _ _|refine nu _ ?_)|contradiction|split|rfl)
 .repeat' (first|(with_reducible first|exact WE _|exact gF _|exact Wv _ _ _|refine nu _ ?_)|contradiction|split|rfl)
def WG:∀(l:List FieldStep) (t:Á) (x:Option Ã),fB P<|bI l t x
 |[],t,x=>by unfold bI;exact gF _
 |s::l,t,x=>by unfold bI;repeat' (first|(with_reducible first|exact WG l _ _|exact gF _|exact jg _|exact rK _|exact VU _ _ _|refine gp ?_ λ_=> ?_)|split|(intro _ _ h;cases h;done)|rfl|simp only[]|(rename_i b;cases b<;>simp only[Å,if_false,if_true,ă,ć]))
def WH:∀(n:Nat) (t:Á) (v:Ã) (s:String),fB P<|bh n t v s
 |0,t,v,s=>by unfold bh;exact gF _
 |n+1,t,v,s=>by unfold bh;repeat' (first|(with_reducible first|exact WH n _ _ _|exact WG _ _ _|exact gF _|exact jg _|exact vl _|exact rK _|refine gp ?_ λ_=> ?_)|split|(intro _ _ h;cases h;done)|rfl|simp only[]|(rename_i b;cases b<;>simp only[Å,if_false,if_true,ă,ć]))
def lW{m:Ę Ã}(h:fB P m):fB P (m>>=λv=>pure<|ñ v):=gp h λ_=>gF _
theorem afg(f:â)(b:∃a,P.funcs[f]?=À a/\(a.name== "runtime.NumGoroutine")=Â/\a.body.isNone=Â)(c:Array Ã):fB P (ľ f c):=by let⟨a,d,e,g⟩:=b;refine KC (m':=pure<|Ź f c) (λu=> ?_)<|gF _;unfold ľ;rw[Ä,Ĉ];grind [É,Å]
def afh(j:kn P xX o.op):fB P (î xX o):=by
 let⟨k,g,m,p,u,guard⟩:=o;simp only at j;unfold î;simp only[];cases j with
 |Ax x=>exact gF _
 |G2 x=>exact gF _
 |wI c a b=>exact gp (KG _) λ_=>gF _
 |gG t=>exact lW<|VZ _ _ _
 |O1 t x=>exact lW<|V1 _ _
 |O2 t b=>exact lW<|Wm _ _
 |O3 t n b=>exact lW<|Wn _ _ _
 |gB t a=>exact lW<|V2 _ _
 |je t a x=>exact gp (V3 _ _ _) λ_=>gF _
 |G3 x=>
  simp only[];repeat' (first|(with_reducible first|exact WH _ _ _ _|exact gF _|exact qR|exact wK _|exact KG _|exact VZ _ _ _|exact V1 _ _|exact V2 _ _|exact V3 _ _ _|exact V4 _ _|exact V5 _ _ _|exact Wb _ _ _|exact Wc _ _ _|exact Wh _ _ _ _ _|exact Wi _ _ _|exact Wl _ _|exact Wm _ _|exact Wn _ _ _|exact Wo _ _ _|exact Wr _ _ _|exact Ws _ _ _|exact Wt _ _ _|exact Wu _ _ _|refine gp ?_ (λ_=> ?_)|refine nu _ ?_)|split|rfl)
 |Eo g t x y r h=>exact lW<|gp (WC g t (λe=>(h e).imp id λq=>q.1) x y _ _) λ_=>afe g t _ _ h
 |O4 g t x=>exact lW<|Wl _ _
 |O5 s d x h=>exact lW<|aff s d _ h
 |O6 t l c=>exact lW<|Wo _ _ _
 |kV t x b a c=>exact lW<|Wh _ _ _ _ _
 |O7 s x n h=>exact lW<|Wb _ _ _
 |O8 t x n=>exact lW<|V5 _ _ _
 |O9 t x i=>exact lW<|Wc _ _ _
 |Pa t x i=>exact lW<|Wi _ _ _
 |GN x n=>exact lW<|V4 _ _
 |G4 x a=>
  simp only[þ,Ē,ė,pure_bind,Ú,ä,æ];exact lW<|Wr _ _ _
 |G5 x a=>
  simp only[þ,Ē,ė,pure_bind,Ú,ä,æ];exact lW<|Ws _ _ _
 |G6 x y a=>
  simp only[þ,Ē,ė,pure_bind,Ú,ä,æ];exact lW<|Wt _ _ _
 |G7 x y b c h=>
  simp only[þ,Ē,ė,pure_bind,Ú,ä,æ];exact lW<|Wu _ _ _
 |jM f c a b h=>
  simp only[þ,b,Ĺ,Ē,pure_bind,ē,Ĕ];exact afg f h _
end
def fm(f:â)(t:Array Ã)(k:List Ũ):Ğ:=(base f).at ⟨t,[]⟩ k
structure St where
 f:â
 t:Array Ã
 k:List Ũ
 C:Bool
 L:List (FuncId×Array Value×List Ũ)
def St.r(s:St)(cs:List Ğ):Ó:=G (if s.C then{fm s.f s.t s.k with mode:=.returning}else fm s.f s.t s.k)<|s.L.map (λx=>fm x.1 x.2.1 x.2.2)++cs
def pw(t:Array Ã)(d:Option Tmp)(v:Ã):Array Ã:=(Act.put ⟨t,[]⟩ d v).tmps
def sU(t:Array Ã)(d:Option Tmp)(v:Ã):Act.put ⟨t,[]⟩ d v=⟨pw t d v,[]⟩:=by cases d<;>rfl
inductive LS(P:Ø):St->Æ->St->Æ->Prop
 |po {f t L u:_}:LS P ⟨f,t,[],Â,L⟩ u ⟨f,t,[],È,L⟩ u
 |vm {f t k L u:_}:LS P ⟨f,t,ĕ .ret::k,Â,L⟩ u ⟨f,t,ĕ .ret::k,È,L⟩ u
 |sR {f t k L u:_}:LS P ⟨f,t,ĕ eX::k,Â,L⟩ u ⟨f,t,k,Â,L⟩ u
 |wM {f t k L u l:_}:LS P ⟨f,t,ĕ (ep l)::k,Â,L⟩ u ⟨f,t,k,Â,L⟩ u
 |yy {f t k L u id:_}:LS P ⟨f,t,dP id::k,Â,L⟩ u ⟨f,t,k,Â,L⟩ u
 |vn {f t k L u c:_}:LS P ⟨f,t,dQ c::k,Â,L⟩ u ⟨f,t,k,Â,L⟩ u
 |rL {f t k L u x y:_}:LS P ⟨f,t,ĕ (.seq x y)::k,Â,L⟩ u ⟨f,t,ĕ x::ĕ y::k,Â,L⟩ u
 |tU {f t k L u c x y b:_} (h:ç ⟨t,[]⟩ c=Ň b):LS P ⟨f,t,ĕ (bJ c x y)::k,Â,L⟩ u ⟨f,t,ĕ (if b then x else y)::k,Â,L⟩ u
 |rM {f t k L u id c:_}:LS P ⟨f,t,ĕ (eu id c)::k,Â,L⟩ u ⟨f,t,ĕ c::dP id::k,Â,L⟩ u
 |wN {f t k L u c:_}:LS P ⟨f,t,ĕ (eY c)::k,Â,L⟩ u ⟨f,t,ĕ c::dB c::k,Â,L⟩ u
 |wO {f t k L u c:_}:LS P ⟨f,t,dB c::k,Â,L⟩ u ⟨f,t,ĕ c::dB c::k,Â,L⟩ u
 |wP {f t k L u c:_}:LS P ⟨f,t,ĕ (ew c)::k,Â,L⟩ u ⟨f,t,ĕ c::dQ c::k,Â,L⟩ u
 |wR {f t k L u id k':_} (h:cN id k=À k'):LS P ⟨f,t,ĕ (eZ id)::k,Â,L⟩ u ⟨f,t,k',Â,L⟩ u
 |wS {f t k L u l k':_} (h:cO l k=À k'):LS P ⟨f,t,ĕ (.goto l)::k,Â,L⟩ u ⟨f,t,k',Â,L⟩ u
 |tV {f t k L u id ops:_}:LS P ⟨f,t,ĕ (bZ id ops Â)::k,Â,L⟩ u ⟨f,t,ã ops (List.range ops.size)::k,Â,L⟩ u
 |AA {f t k L u id ops:_}:LS P ⟨f,t,ĕ (bZ id ops È)::k,Â,L⟩ u ⟨f,t,ã ops (bW (P.follows .mixedOrders) ops<|u.tape u.drawn<|.order f id)::k,Â,L⟩ {u with drawn:=u.drawn+1}
 |Hf {f t k L u ops:_}:LS P ⟨f,t,ã ops []::k,Â,L⟩ u ⟨f,t,k,Â,L⟩ u
 |Er {f t k L u ops i rest o:_} (ho:ops[i]?=À o) (hw:ĭ o (ō ops t)=Â):LS P ⟨f,t,ã ops (i::rest)::k,Â,L⟩ u ⟨f,pw t o.dst ň,ã ops rest::k,Â,L⟩ u
 |nW {f t k L u ops i rest o v u':_} (ho:ops[i]?=À o) (hw:ĭ o (ō ops t)=È) (hr:(î (ç ⟨t,[]⟩) o).run P u=Ĭ (ñ v) u'):LS P ⟨f,t,ã ops (i::rest)::k,Â,L⟩ u ⟨f,pw t o.dst v,ã ops rest::k,Â,L⟩ u'
 |AB {f t k L u ops i rest o u':_} (ho:ops[i]?=À o) (hw:ĭ o (ō ops t)=È) (hr:(î (ç ⟨t,[]⟩) o).run P u=Ĭ aT u'):LS P ⟨f,t,ã ops (i::rest)::k,Â,L⟩ u ⟨f,pw t o.dst ň,ã ops rest::k,Â,L⟩ u'
 |sS {f t k L u ops i rest o g args fn c u':_} (ho:ops[i]?=À o) (hw:ĭ o (ō ops t)=È) (hr:(î (ç ⟨t,[]⟩) o).run P u=Ĭ (Ź g args) u') (hf:P.funcs[g]?=À fn) (hb:fn.body=À c):LS P ⟨f,t,ã ops (i::rest)::k,Â,L⟩ u ⟨g,args++ń (fn.ntmps-args.size) ň,[ĕ c],Â,(f,t,ã ops (i::rest)::k)::L⟩ u'
 |Es {f t k L u ops i rest:_} (ho:(ops:Array aI)[(i:Nat)]?=ë):LS P ⟨f,t,ã ops (i::rest)::k,Â,L⟩ u ⟨f,t,ã ops rest::k,Â,L⟩ u
 |wT {f t k L u g t' ops i rest k' v fn u':_} (hf:P.funcs[f]?=À fn) (hr:(ı fn t).run P u=Ĭ v u'):LS P ⟨f,t,k,È,(g,t',ã ops (i::rest)::k')::L⟩ u ⟨g,pw t' ((ops[i]?).bind (·.dst)) v,ã ops rest::k',Â,L⟩ u'
inductive mE(GL:Nat->Prop):Ù->Prop
 |WI (t:Tmp):mE GL (.tmp t)
 |WJ {v:Ã} (h:jU v):mE GL (eh v)
 |WK {g:Nat} (h:GL g):mE GL (eG g)
 |WL (f:â):mE GL (aZ f)
structure mQ(P:Ø)(GL:Nat->Prop)(e7:â->Prop)(o:aI):Prop where
 mR:∀{Y:fl} {Sh:Nat->Prop} {t t':Array Ã} {u w:Æ},nV P->Y.C=P.globals.size->(∀g,GL g->Y g g)->fT Y t t'->jj Y Sh u w->(∀j,Sh j->j<w.heap.size)->∀{x:ξ} {u':Æ},(î (ç ⟨t,[]⟩) o).run P u=Ĭ x u'->Em u u'->
  ∃(Y':fl) (x':ξ) (w':Æ) (WM:Array Ă),Y.r Y'/\(∀i j,Y' i j->Y i j\/(u.heap.size<=i/\w.heap.size<=j))/\(î (ç ⟨t',[]⟩) o).runT P w #[]=(Ĭ x' w',#[]++WM)/\pv Y' x x'/\jj Y' Sh u' w'/\nU Y Sh w w'/\(∀e∈WM,At Y' Sh e)/\u.heap.size<=u'.heap.size
 r:∀a:bP,fB P<|î a.eval o
 I:∀(a:bP) (u:Æ) (n:ξ) (u':Æ),(î a.eval o).run P u=Ĭ n u'->(∃v,n=ñ v)\/n=aT\/∃f c,n=Ź f c
 C:∀(a:bP) (u:Æ) (f:â) (c:Array Ã) (u':Æ),(î a.eval o).run P u=Ĭ (Ź f c) u'->e7 f
inductive kN(P:Ø)(GL:Nat->Prop)(e7:â->Prop):aF->Prop
 |vm:kN P GL e7 .ret
 |sR:kN P GL e7 eX
 |wM (l:Nat):kN P GL e7 (ep l)
 |wR (id:Nat):kN P GL e7 (eZ id)
 |wS (l:Nat):kN P GL e7 (.goto l)
 |rL {x y:aF} (hx:kN P GL e7 x) (hy:kN P GL e7 y):kN P GL e7 (.seq x y)
 |tU {c:Ù} {x y:aF} (hc:mE GL c) (hx:kN P GL e7 x) (hy:kN P GL e7 y):kN P GL e7 (bJ c x y)
 |rM (id:Nat) {c:aF} (h:kN P GL e7 c):kN P GL e7 (eu id c)
 |wN {c:aF} (h:kN P GL e7 c):kN P GL e7 (eY c)
 |wP {c:aF} (h:kN P GL e7 c):kN P GL e7 (ew c)
 |tV (id:Nat) {ops:Array aI} (draw:Bool) (h:∀o∈ops,mQ P GL e7 o):kN P GL e7 (bZ id ops draw)
 |nX (WN:String):kN P GL e7 (dD WN)
inductive AF(P:Ø)(GL:Nat->Prop)(e7:â->Prop):Ũ->Prop
 |rN {c:aF} (h:kN P GL e7 c):AF P GL e7 (ĕ c)
 |yy (id:Nat):AF P GL e7 (dP id)
 |vn {c:aF} (h:kN P GL e7 c):AF P GL e7 (dQ c)
 |wO {c:aF} (h:kN P GL e7 c):AF P GL e7 (dB c)
 |wU {ops:Array aI} (is:List Nat) (h:∀o∈ops,mQ P GL e7 o):AF P GL e7 (ã ops is)
def sV(P:Ø)(a:Nat->Prop)(b:â->Prop)(k:List Ũ):Prop:=∀i∈k,AF P a b i
structure lF(P:Ø)(GL:Nat->Prop)(e7:â->Prop)(s:St):Prop where
 gd:sV P GL e7 s.k
 fv:∀x∈s.L,sV P GL e7 x.2.2
def py(P:Ø)(d:Nat->Prop)(a:â->Prop):Prop:=∀f,a f->∀b c,P.funcs[f]?=À b->b.body=À c->kN P d a c
section
variable{GL:Nat->Prop}{e7:â->Prop}
def afi{a:aF}(h:kN P GL e7 wX):bA wX i=À a->kN P GL e7 a:=by
 induction h generalizing a with
 |rL j b d f=>
  intro e;simp only[bA]at e;split at e
  .rename_i r g;cases e;exact .rL (d g) b
  .exact f e
 |wM k=>
  intro e;simp only[bA]at e;split at e<;>cases e;exact .sR
 |_=>intro e;simp only[bA]at e;cases e
def afj{id:Nat}:∀{k a:List Ũ},sV P GL e7 k->cN id k=À a->sV P GL e7 a:=by
 intro k
 induction k with
 |nil=>intro a _ e;simp[cN]at e
 |cons i k c=>
  intro a h e;have b:=λj d=>h j<|ô _ d;cases i with
  |inBlock f=>
   simp only[cN]at e;split at e
   .cases e;exact b
   .exact c b e
  |_=>simp only[cN]at e;exact c b e
def afk:∀{k c:List Ũ},sV P GL e7 k->cO i k=À c->sV P GL e7 c:=by
 intro k
 induction k with
 |nil=>intro c _ e;simp[cO]at e
 |cons a k f=>
  intro c h e;have d:=λj b=>h j<|ô _ b;cases a with
  |inScope m=>
   simp only[cO]at e;have g:kN P GL e7 m:=by cases h _ (ð ..)with|vn h=>exact h
   split at e
   .rename_i r n;cases e;intro j b;rcases ş.1 b with rfl|b
    .exact .rN (afi g n)
    .rcases ş.1 b with rfl|b
     .exact .vn g
     .exact d j b
   .exact f d e
  |_=>simp only[cO]at e;exact f d e
def nY{i:Ũ}(h:sV P GL e7 (i::L)):sV P GL e7 L:=λj a=>h j<|ô _ a
def oO{i:Ũ}(b:AF P GL e7 i)(h:sV P GL e7 L):sV P GL e7 (i::L):=λj a=>by
 rcases ş.1 a with rfl|a
 .exact b
 .exact h j a
def yz{c:aF}{k:List Ũ}(h:sV P GL e7 (ĕ c::k)):kN P GL e7 c:=by cases h _ (ð ..)with|rN h=>exact h
def pz{ops:Array aI}{k:List Ũ}(h:sV P GL e7 (ã ops jJ::k)):∀o∈ops,mQ P GL e7 o:=by cases h _ (ð ..)with|wU _ h=>exact h
def LS.ok(i:py P GL e7)(k:∀o a u f l w,mQ P GL e7 o->(î (ç a) o).run P u=Ĭ (Ź f l) w->e7 f){s g:St}(h:LS P s u g w)(ok:lF P GL e7 s):lF P GL e7 g:=by
 let⟨c,d⟩:=ok;cases h with
 |po=>exact⟨c,d⟩
 |vm=>exact⟨c,d⟩
 |sR=>exact⟨nY c,d⟩
 |wM=>exact⟨nY c,d⟩
 |yy=>exact⟨nY c,d⟩
 |vn=>exact⟨nY c,d⟩
 |rL=>
  cases yz c with
  |rL e j=>exact⟨oO (.rN e)<|oO (.rN j)<|nY c,d⟩
 |@tU _ _ _ _ _ _ _ _ b _=>
  cases yz c with
  |tU _ e j=>exact⟨oO (.rN (by cases b<;>simp[e,j]))<|nY c,d⟩
 |rM=>
  cases yz c with
  |rM _ h=>exact⟨oO (.rN h)<|oO (.yy _)<|nY c,d⟩
 |wN=>
  cases yz c with
  |wN h=>exact⟨oO (.rN h)<|oO (.wO h)<|nY c,d⟩
 |wO=>
  cases c _ (ð ..)with
  |wO h=>exact⟨oO (.rN h) c,d⟩
 |wP=>
  cases yz c with
  |wP h=>exact⟨oO (.rN h)<|oO (.vn h)<|nY c,d⟩
 |wR h=>exact⟨afj (nY c) h,d⟩
 |wS h=>exact⟨afk (nY c) h,d⟩
 |tV=>
  cases yz c with
  |tV _ _ h=>exact⟨oO (.wU _ h)<|nY c,d⟩
 |AA=>
  cases yz c with
  |tV _ _ h=>exact⟨oO (.wU _ h)<|nY c,d⟩
 |Hf=>exact⟨nY c,d⟩
 |Er=>exact⟨oO (.wU _ (pz c))<|nY c,d⟩
 |nW=>exact⟨oO (.wU _ (pz c))<|nY c,d⟩
 |AB=>exact⟨oO (.wU _ (pz c))<|nY c,d⟩
 |sS m _ n p q=>
  refine⟨λj r=> ?_,λx e=> ?_⟩
  .have:=ź.1 r;rw[this];exact .rN (i _ (k _ _ _ _ _ _ (pz c _<|Ý m) n) _ _ p q)
  .rcases ş.1 e with rfl|e
   .exact c
   .exact d x e
 |Es=>exact⟨oO (.wU _ (pz c))<|nY c,d⟩
 |wT=>
  have j:=d _<|ð ..;exact⟨oO (.wU _ (pz j))<|nY j,λx e=>d x<|ô _ e⟩
end
structure KI(Y:fl)(x y:FuncId×Array Value×List Ũ):Prop where
 f:x.1=y.1
 t:fT Y x.2.1 y.2.1
 k:x.2.2=y.2.2
inductive Et(Y:fl):List (FuncId×Array Value×List Ũ)->List (FuncId×Array Value×List Ũ)->Prop
 |po:Et Y [] []
 |wH {x y:FuncId×Array Value×List Ũ} {L L':List (FuncId×Array Value×List Ũ)} (h:KI Y x y) (hs:Et Y L L'):Et Y (x::L) (y::L')
structure KJ(Y:fl)(s s':St):Prop where
 f:s.f=s'.f
 t:fT Y s.t s'.t
 k:s.k=s'.k
 vm:s.C=s'.C
 L:Et Y s.L s'.L
def KI.fO{Y a:fl}(h:Y.r a){x y:FuncId×Array Value×List Ũ}(r:KI Y x y):KI a x y:=⟨r.f,r.t.I h,r.k⟩
def KL{Y b:fl}(h:Y.r b){L c:List (FuncId×Array Value×List Ũ)}(r:Et Y L c):Et b L c:=by
 induction r with
 |po=>exact .po
 |wH a _ d=>exact .wH (a.fO h) d
section
variable{Y:fl}{j:Nat->Prop}{p:â->Prop}
def afl(a:∀g,X g->Y g g)(h:mE X qQ):VG Y qQ:=by
 cases h with
 |WI t=>trivial
 |WJ h=>exact h.jH Y
 |WK h=>exact a _ h
 |WL f=>trivial
def wV(b:∀g,X g->Y g g)(h:fT Y d q)(c:mE X qQ):fh Y (ç ⟨d,[]⟩ qQ) (ç ⟨q,[]⟩ qQ):= aer (a:=⟨d,[]⟩) (a':=⟨q,[]⟩) h<|afl b c
def pw.r{b:Array Ã}(h:fT Y q b)(d:Option Tmp)(c:fh Y v x):fT Y (pw q d v) (pw b d x):= aeu (a:=⟨q,[]⟩) (a':=⟨b,[]⟩) h d c
def WO(n:Nat):fT Y (ń n ň) (ń n ň):=⟨U,λi a b=>by simp only[Array.getElem_replicate];exact G8 Y⟩
def afm(B:kn P xX o.op)(i:(î xX o).run P u=Ĭ (Ź F d) W):∃q l,o.op=σ {callee:=cD<|aZ F,args:=q,argTypes:=l}:=by
 have n:∀{m:Ę Ã} {x:ξ} {k p:Æ},(m>>=λv=>pure (ñ v):Ę ξ).run P k=Ĭ x p->∃v,x=ñ v:=by
  intro m x k p e;rw[Ä]at e;cases j:m.run P k with
  |ok a w=>rw[j]at e;cases e;exact⟨a,U⟩
  |halt z w=>rw[j]at e;cases e
 have C:∀{m:Ę Unit} {x:ξ} {k p:Æ},(m>>=λ_=>pure aT:Ę ξ).run P k=Ĭ x p->x=aT:=by
  intro m x k p e;rw[Ä]at e;cases j:m.run P k with
  |ok a w=>rw[j]at e;cases e;rfl
  |halt z w=>rw[j]at e;cases e
 let⟨E,s,G,H,I,guard⟩:=o;simp only at B|-;unfold î at i;simp only[]at i;cases B with
 |Ax x=>cases i
 |G2 x=>cases i
 |wI c a b=>
  rw[Ä]at i;cases j:(cu<|xX c).run P u with
  |ok a w=>rw[j]at i;cases i
  |halt z w=>rw[j]at i;cases i
 |je t a x=>exact absurd (C i) fi
 |G3 x=>
  simp only[]at i;split at i;all_goals first
   |(cases i;done)
   |exact absurd i<|rI _ _ _ _
   |(
    split at i;all_goals first
     |(cases i;done)
     |exact absurd i<|rI _ _ _ _
     |(
      rw[Ä,Ĉ]at i;simp only[É]at i;rw[Ä]at i;revert i;generalize å P (bh _ _ _ _) u=z;intro i;cases z with
      |halt z w=>cases i
      |ok a w=>
       simp only[É]at i;split at i
       .rw[Ä]at i;cases i
       .cases i))
 |G4 x l=>simp only[þ,Ē,ė,pure_bind,Ú,ä,æ]at i;let⟨v,e⟩:=n i;cases e
 |G5 x l=>simp only[þ,Ē,ė,pure_bind,Ú,ä,æ]at i;let⟨v,e⟩:=n i;cases e
 |G6 x y l=>simp only[þ,Ē,ė,pure_bind,Ú,ä,æ]at i;let⟨v,e⟩:=n i;cases e
 |G7 x y b c h=>simp only[þ,Ē,ė,pure_bind,Ú,ä,æ]at i;let⟨v,e⟩:=n i;cases e
 |jM g q l b h=>
  let⟨J,c,r,D⟩:=h;simp only[þ,b,Ĺ,Ē,pure_bind,ē,Ĕ,ľ]at i;rw[Ä,Ĉ]at i;simp only[É,c,r,D,Å,if_false]at i;cases i;exact⟨q,l,U⟩
 |Eo s t x y r h=>
  rw[Ä]at i;cases j:å P (Ζ s t x y (xX x) (xX y)>>=λ_=>Ÿ s t (xX x)<|xX y) u with
  |ok a w=>rw[j]at i;cases i
  |halt z w=>rw[j]at i;cases i
 |_=>let⟨v,e⟩:=n i;cases e
theorem WQ(j:Func)(h:fT Y d q):fE P fh Y (ı j d) (ı j q):=by
 have k:∀(f:fl),Y.r f->∀n,fh f (d.getD n ň) (q.getD n ň):=by intro f a n;simp only[İ];rcases(h.I a).S n with⟨b,e⟩|⟨v,u,b,e,m⟩;all_goals grind [G8]
 unfold ı;refine fD (V:=fT) ?_ ?_
 .rw[ę,ę];have w:∀(l:List ResultVar) (c:fl),Y.r c->fE P (λf (a o:List Ã)=>fT f a.toArray o.toArray) c (l.mapM fun|ResultVar.tmp n=>pure (d.getD n ň)|ResultVar.cell a e=>do aA e (<-cw (d.getD a ň))) (l.mapM fun|ResultVar.tmp n=>pure (q.getD n ň)|ResultVar.cell a e=>do aA e (<-cw (q.getD a ň))):=by
   intro l
   induction l with
   |nil=>intro c _;simp only[de];exact .fC (fT.N _)
   |cons r l x=>
    intro c g;simp only[ah];refine fD (V:=fh) ?_ ?_
    .cases r with
     |tmp n=>exact .fC (k c g n)
     |cell a e=>
      apply fD (Vr<|k c g a);exact λp b s _ i=>Vm i e
    .intro p v u e m;apply fD (x p<|fl.I g e);intro z s i y b;refine .fC ?_;have:=(fT.M<|m.fO y).G b;simpa using this
  exact fE.lE (w _ Y<|fl.M _) λf a o _ e=> .fC e
 .intro c s i _ b;refine .fC ?_;by_cases e:s.size=1
  .have a:i.size=1:=by rwa[<-b.r]
   rw[dif_pos e,dif_pos a];exact b.C 0 _ _
  .have a:¬i.size=1:=by rwa[<-b.r]
   rw[dif_neg e,dif_neg a];exact .nT b.r b.C
end
section
variable{Y:fl}{d:Nat->Prop}{l:â->Prop}
def iY(P:Ø)(Y:fl)(d:Nat->Prop)(main:Bool)(cs:List Ğ)(h:St)(u w:Æ)(k:St)(c:Æ):Prop:=
 ∃(a:fl) (f:St) (b:Æ) (g:Array Ă),Ü P main (h.r cs) w=bj (f.r cs) b g/\KJ a k f/\Y.r a/\(∀i j,a i j->Y i j\/(u.heap.size<=i/\w.heap.size<=j))/\jj a d c b/\nU Y d w b/\(∀e∈g,At a d e)/\u.heap.size<=c.heap.size
def iY.r{main:Bool}{cs:List Ğ}{a b s1':St}(c:jj Y d u w)(h:Ü P main (a.r cs) w=bj (s1'.r cs) w #[])(f:KJ Y b s1'):iY P Y d main cs a u w b u:= ⟨Y,s1',w,#[],h,f,fl.M _,λ_ _ h=>Ç h,c,nU.fW _ _ w,λe g=>absurd g fi,á _⟩
def KM{α:Type}{m:Ę α}{x:α}(h:m.runT P w #[]=(Ĭ x u,#[]++V)):m.run P w=Ĭ x u/\m.events P w #[]=V:=by simp_all
def Hg{main:Bool}{k:List Ũ}{c:Ğ}{cs:List Ğ}{es:Array Ă}(a:P.funcs[F]?=À s)(b:(ı s q).runT P w #[]=(Ĭ v u,es)): Ü P main (G {fm F q k with mode:=.returning}<|c::cs) w=bj (G (c.finish v) cs) u (seen P F es):=by simp[G,Ü,dE,doReturn,fm,Frame.at,base,a,b,Θ,-Ι]
def LS.mR(hz:nV P)(hb:Y.C=P.globals.size)(hG:∀g,X g->Y g g){s s1 s':St}(h:LS P s u s1 W)(hs:KJ Y s s')(ok:lF P X l s)(n:jj Y d u w)(hl:∀j,d j->j<w.heap.size)(Q:Em u W)(main:Bool)(cs:List Ğ): iY P Y d main cs s' u w s1 W:=by
 let⟨f',r,k',ret',p⟩:=s';let⟨S,m,T,e3,q⟩:=hs;simp only at S T e3 m q;subst S T e3;cases h with
 |po=>exact .r (s1':=⟨_,r,_,È,p⟩) n (by simp[St.r,fm,base,G,Ü,Ì,Frame.at]) ⟨U,m,U,U,q⟩
 |vm=>exact .r (s1':=⟨_,r,_,È,p⟩) n (by simp[St.r,fm,base,G,Ü,Ì,Frame.at]) ⟨U,m,U,U,q⟩
 |sR=>exact .r (s1':=⟨_,r,_,Â,p⟩) n (by simp[St.r,fm,base,G,Ü,Ì,Frame.at]) ⟨U,m,U,U,q⟩
 |wM=>exact .r (s1':=⟨_,r,_,Â,p⟩) n (by simp[St.r,fm,base,G,Ü,Ì,Frame.at]) ⟨U,m,U,U,q⟩
 |yy=>exact .r (s1':=⟨_,r,_,Â,p⟩) n (by simp[St.r,fm,base,G,Ü,Ì,Frame.at]) ⟨U,m,U,U,q⟩
 |vn=>exact .r (s1':=⟨_,r,_,Â,p⟩) n (by simp[St.r,fm,base,G,Ü,Ì,Frame.at]) ⟨U,m,U,U,q⟩
 |rL=>exact .r (s1':=⟨_,r,_,Â,p⟩) n (by simp[St.r,fm,base,G,Ü,Ì,Frame.at]) ⟨U,m,U,U,q⟩
 |@tU _ _ _ _ _ c _ _ b hc'=>
  have V:=wV hG m (by cases yz ok.gd with|tU Q _ _=>exact Q);rw[hc']at V;have e:ç ⟨r,[]⟩ c=Ň b:=by generalize ç ⟨r,[]⟩ c=v' at V;cases V;rfl
  exact .r (s1':=⟨_,r,_,Â,p⟩) n (cP e) ⟨U,m,U,U,q⟩
 |rM=>exact .r (s1':=⟨_,r,_,Â,p⟩) n (by simp[St.r,fm,base,G,Ü,Ì,Frame.at]) ⟨U,m,U,U,q⟩
 |wN=>exact .r (s1':=⟨_,r,_,Â,p⟩) n (by simp[St.r,fm,base,G,Ü,Ì,Frame.at]) ⟨U,m,U,U,q⟩
 |wO=>exact .r (s1':=⟨_,r,_,Â,p⟩) n (by simp[St.r,fm,base,G,Ü,Ì,Frame.at]) ⟨U,m,U,U,q⟩
 |wP=>exact .r (s1':=⟨_,r,_,Â,p⟩) n (by simp[St.r,fm,base,G,Ü,Ì,Frame.at]) ⟨U,m,U,U,q⟩
 |wR B=>exact .r (s1':=⟨_,r,_,Â,p⟩) n (by simp[St.r,fm,base,G,Ü,Ì,Frame.at,B]) ⟨U,m,U,U,q⟩
 |wS B=>exact .r (s1':=⟨_,r,_,Â,p⟩) n (by simp[St.r,fm,base,G,Ü,Ì,Frame.at,B]) ⟨U,m,U,U,q⟩
 |tV=>exact .r (s1':=⟨_,r,_,Â,p⟩) n (by simp[St.r,fm,base,G,Ü,Ì,Frame.at]) ⟨U,m,U,U,q⟩
 |@AA f t k L _ id ops=>
  refine⟨Y,⟨f,r,ã ops (bW (P.follows .mixedOrders) ops<|w.tape w.drawn<|.order f id)::k,Â,p⟩,{w with drawn:=w.drawn+1},#[],Κ,⟨U,m,?_,U,q⟩,fl.M _,λ_ _ h=>Ç h,⟨n.S,by simp[n.N],n.C,n.I,n.M,n.r⟩,⟨á _,U,U,U,λ_ _ _=>rfl,λ_ _ _=>rfl⟩,λe B=>absurd B fi,á _⟩;simp only[n.S,n.N]
 |Hf=>exact .r (s1':=⟨_,r,_,Â,p⟩) n (by simp[St.r,fm,base,G,Ü,Ì,Frame.at]) ⟨U,m,U,U,q⟩
 |@Er f t k L _ ops i rest o ho hw=>
  rw[Ky _ _ m]at hw;have:=av (P:=P) (main:=main) (b:=base f) (a:=⟨r,[]⟩) (k:=k) (cs:=p.map (λx=>fm x.1 x.2.1 x.2.2)++cs) (w:=w) (rest:=rest) ho hw;rw[sU]at this;exact .r (s1':=⟨f,pw r o.dst ň,ã ops rest::k,Â,p⟩) n this ⟨U,pw.r m _<|G8 Y,U,U,q⟩
 |@nW f t k L _ ops i rest o v _ ho hw hr=>
  rw[Ky _ _ m]at hw;let⟨C,x',E,es,z,F,D,H,I,J,K,M⟩:=(pz ok.gd _<|Ý ho).mR hz hb hG m n hl hr Q;let⟨N,O⟩:=KM D;cases H with
  |nW V=>
   have:=bK (main:=main) (b:=base f) (k:=k) (cs:=p.map (λx=>fm x.1 x.2.1 x.2.2)++cs) (rest:=rest) ho hw (by simp[base]) N;rw[sU]at this;rename_i v';exact⟨C,⟨f,pw r o.dst v',ã ops rest::k,Â,p⟩,E,_,this,⟨U,pw.r (m.I z) _ V,U,U,KL z q⟩,z,F,I,J,λe B=>K e (by have:=cQ B;rwa[O]at this),M⟩
 |@AB f t k L _ ops i rest o _ ho hw hr=>
  rw[Ky _ _ m]at hw;let⟨C,x',E,es,z,F,D,H,I,J,K,M⟩:=(pz ok.gd _<|Ý ho).mR hz hb hG m n hl hr Q;let⟨N,O⟩:=KM D;cases H with
  |sR=>
   have:=cR (main:=main) (b:=base f) (k:=k) (cs:=p.map (λx=>fm x.1 x.2.1 x.2.2)++cs) (rest:=rest) ho hw (by simp[base]) N;rw[sU]at this;exact⟨C,⟨f,pw r o.dst ň,ã ops rest::k,Â,p⟩,E,_,this,⟨U,pw.r (m.I z) _<|G8 C,U,U,KL z q⟩,z,F,I,J,λe B=>K e (by have:=cQ B;rwa[O]at this),M⟩
 |@sS f t k L _ ops i rest o g args fn c _ ho hw hr hf KN=>
  rw[Ky _ _ m]at hw;let⟨C,x',E,es,z,F,D,H,I,J,K,M⟩:=(pz ok.gd _<|Ý ho).mR hz hb hG m n hl hr Q;let⟨N,O⟩:=KM D;cases H with
  |sS _ sW=>
   have:=bL (main:=main) (b:=base f) (k:=k) (cs:=p.map (λx=>fm x.1 x.2.1 x.2.2)++cs) (rest:=rest) ho hw (by simp[base]) N;rw[cS _ hf KN]at this;rename_i WR;refine⟨C,⟨g,WR++ń (fn.ntmps-WR.size) ň,[ĕ c],Â,(f,r,ã ops (i::rest)::k)::p⟩,E,_,this,⟨U,?_,U,U,.wH ⟨U,m.I z,U⟩ (KL z q)⟩,z,F,I,J,λe B=>K e (by have:=cQ B;rwa[O]at this),M⟩;rw[sW.r];exact sW.G<|WO _
 |@Es f t k L _ ops i rest ho=>exact .r (s1':=⟨f,r,ã ops rest::k,Â,p⟩) n (by simp[St.r,fm,base,G,Ü,Ì,Frame.at,ho,bk]) ⟨U,m,U,U,q⟩
 |@wT f t k L _ g t2' ops i rest k3 v fn _ hf hr=>
  cases q with
  |wH hx q=>
   rename_i y WS;let⟨g',t2,k2⟩:=y;let⟨S,KO,T⟩:=hx;simp only at S T KO;subst S T;let⟨C,v',E,es,z,F,D,H,I,J,K,M⟩:=(WQ fn m).gl n hl hr #[];let⟨N,O⟩:=KM D;refine⟨C,⟨g,pw t2 ((ops[i]?).bind (·.dst)) v',ã ops rest::k3,Â,WS⟩,E,seen P f es,?_,⟨U,pw.r (KO.I z) _ H,U,U,KL z q⟩,z,F,I,J,λe B=>K e<|mem_seen B,M⟩;have AG:=υ (base g) ⟨t2,[]⟩ ops i rest k3 v';rw[sU]at AG;have nz:=Hg (main:=main) (k:=k) (c:=fm g t2<|ã ops (i::rest)::k3) (cs:=WS.map (λx=>fm x.1 x.2.1 x.2.2)++cs) hf D;unfold fm at nz;rwa[AG,ē]at nz
end
inductive p6(P:Ø)(ko:Ã->Æ->Prop):St->Æ->Prop
 |jN {f:â} {t:Array Ã} {k:List Ũ} {u:Æ} {fn:Func} {v:Ã} (hf:P.funcs[f]?=À fn) (hr:∀tp d,(ı fn t).run P {u with tape:=tp,drawn:=d}=Ĭ v {u with tape:=tp,drawn:=d}) (hp:ko v u):p6 P ko ⟨f,t,k,È,[]⟩ u
 |jO {s:St} {u:Æ} (S:az->Nat->St) (U:az->Nat->Æ) (h:∀tp d,LS P s {u with tape:=tp,drawn:=d} (S tp d)<|U tp d) (hc:∀tp d,Em u<|U tp d) (ih:∀tp d,p6 P ko (S tp d)<|U tp d):p6 P ko s u
structure yA(M:Nat->Prop)(w w₁:Æ):Prop where
 r:w.heap.size<=w₁.heap.size
 C:∀j,M j->w₁.heap[j]?=w.heap[j]?
def KP(O b:Nat->Prop)(e:Ă):Prop:=
 (∃a:Û,e.loc=Ā a/\e.sync=Â/\(O a.block\/(b a.block/\e.write=Â)))\/e.loc=ž ε\/∃f,e.loc=ž (.extern f)
structure KQ(Rd O O':Nat->Prop)(w w':Æ)(es:Array Ă):Prop where
 r:w.heap.size<=w'.heap.size
 M:∀j,O j->O' j
 I:∀j,O' j->O j\/w.heap.size<=j
 fv:∀j,O' j->j<w'.heap.size
 jV:∀j,j<w.heap.size->¬O j->w'.heap[j]?=w.heap[j]?
 N:w'.os=w.os
 S:w'.output=w.output
 Y:w'.tape=w.tape
 C:∀e∈es,KP O' Rd e
inductive vo(P:Ø)(main:Bool)(Rd:Nat->Prop)(Stop:(Nat->Prop)->Ó->Æ->Prop):(Nat->Prop)->Ó->Æ->Prop
 |fy {O:Nat->Prop} {g:Ó} {w:Æ} (h:∀w₁,yA (λj=>O j\/Rd j) w w₁->Stop O g w₁):vo P main Rd Stop O g w
 |jO {O:Nat->Prop} {g:Ó} {w:Æ} (G':Æ->Ó) (W':Æ->Æ) (E':Æ->Array Ă) (O':Æ->Nat->Prop) (iJ:g.status=Ð)
  (h:∀w₁,yA (λj=>O j\/Rd j) w w₁->Ü P main g w₁=bj (G' w₁) (W' w₁) (E' w₁))
  (hd:∀w₁,yA (λj=>O j\/Rd j) w w₁->KQ Rd O (O' w₁) w₁ (W' w₁) (E' w₁))
  (ih:∀w₁,yA (λj=>O j\/Rd j) w w₁->vo P main Rd Stop (O' w₁) (G' w₁) (W' w₁)):vo P main Rd Stop O g w
instance:Nonempty fl:=⟨⟨λ_ _=>False,0⟩⟩
instance:Nonempty St:=⟨⟨0,#[],[],Â,[]⟩⟩
instance:Nonempty (Goroutine×World×Array Event×(Nat->Prop)):=⟨(default,default,#[],λ_=>False)⟩
section
variable{Y:fl}{b Rd:Nat->Prop}{l:â->Prop}{main:Bool}{Stop:(Nat->Prop)->Ó->Æ->Prop}
def vo.mk(i:g.status=Ð) (h:∀a,yA (λj=>X j\/Rd j) w a->∃c b d e,Ü P main g a=bj c b d/\KQ Rd X e a b d/\vo P main Rd Stop e c b):vo P main Rd Stop X g w:=by
 let p:=λ(a:Æ) (x:Goroutine×World×Array Event×(Nat->Prop))=>Ü P main g a=bj x.1 x.2.1 x.2.2.1/\KQ Rd X x.2.2.2 a x.2.1 x.2.2.1/\vo P main Rd Stop x.2.2.2 x.1 x.2.1
 have f:∀a,yA (λj=>X j\/Rd j) w a->p a (Classical.epsilon<|p a):=λa r=>Classical.epsilon_spec (let⟨c,b,d,e,h⟩:=h a r;⟨(c,b,d,e),h⟩);exact .jO (λa=>(Classical.epsilon<|p a).1) (λa=>(Classical.epsilon<|p a).2.1) (λa=>(Classical.epsilon<|p a).2.2.1) (λa=>(Classical.epsilon<|p a).2.2.2) i (λa r=>(f a r).1) (λa r=>(f a r).2.1) λa r=>(f a r).2.2
def rO(Y:fl)(b:Nat->Prop)(u w:Æ):Prop:=jj Y b {u with tape:=w.tape,drawn:=w.drawn} w
def fj(Y:fl)(b:Nat->Prop)(j:Nat):Prop:=(∃i,Y i j)/\¬b j
theorem rO.fM{w₁:Æ}(h:rO Y b u w)(p:∀i j,Y i j->b j->Rd j)(r:yA (λj=>fj Y b j\/Rd j) w w₁):rO Y b u w₁:=by
 refine⟨U,U,h.C,h.I,û h.M r.r,λi j a=> ?_⟩;let⟨c,d,e,f,g,k,l,m,n,o⟩:=h.r i j a;refine⟨c,d,e,f,g,k,?_,m,n,o⟩;rw[r.C j ?_]
 .exact l
 .by_cases s:b j
  .grind
  .exact Ç ⟨⟨i,a⟩,s⟩
def jj.to0(h:jj Y b u w):rO Y b u w:=⟨U,U,h.C,h.I,h.M,h.r⟩
def jj.vp(h:jj Y b u w)(tp:az)(d:Nat):rO Y b {u with tape:=tp,drawn:=d} w:=⟨U,U,h.C,h.I,h.M,h.r⟩
theorem afn{c:fl}(k:∀i j,c i j->b j->Rd j){e:Ă}(h:At c b e):KP (fj c b) Rd e:=by
 rcases h with⟨a,i,d,f,g,l⟩|h|h
 .by_cases s:b a.block
  .refine Ç ⟨a,d,g,Î ⟨k _ _ f s,?_⟩⟩;grind
  .exact Ç ⟨a,d,g,Ç ⟨⟨i,f⟩,s⟩⟩
 .exact Î<|Ç h
 .exact Î<|Î h
def WT{c:fl}(f:Y.r c)(g:∀i j,c i j->Y i j\/(u.heap.size<=i/\w.heap.size<=j))(k:jj c b W jX)(d:nU Y b w jX)(l:∀e∈V,At c b e)(m:∀i j,c i j->b j->Rd j): KQ Rd (fj Y b) (fj c b) w jX V where
 r:=d.r;M j h:=⟨let⟨i,a⟩:=h.1;⟨i,f.1 _ _ a⟩,h.2⟩;I j h:=by
  let⟨⟨i,a⟩,s⟩:=h;rcases g i j a with x|x
  .exact Ç ⟨⟨i,x⟩,s⟩
  .exact Î x.2
 fv j h:=by let⟨⟨i,a⟩,_⟩:=h;let⟨_,_,_,_,_,_,x,_⟩:=k.r i j a;exact(Ë.1 x).1
 jV j hj hn:=by
  by_cases x:∃i,Y i j
  .by_cases s:b j
   .exact d.N j s hj
   .exact absurd ⟨x,s⟩ hn
  .exact d.C j hj λi a=>x ⟨i,a⟩
 N:=d.I;S:=d.M;Y:=d.S;C e he:=afn m<|l e he
def Hh(Y:fl)(b:Nat->Prop)(f:Ã->Æ->Prop)(c:Ğ)(h:List Ğ)(O:Nat->Prop)(g:Ó)(w:Æ):Prop:=
 ∃(a:fl) (d:Æ) (v e:Ã),Y.r a/\O=fj a b/\rO a b d w/\fh a v e/\f v d/\g=G (c.finish e) h
def p6.Px(hz:nV P)(hP:py P X l){s:St}(h:p6 P vQ s u):∀{Y Hi:fl} {s':St} {w:Æ},Hi.r Y->Y.C=P.globals.size->(∀g,X g->Y g g)->KJ Y s s'->lF P X l s->rO Y b u w->(∀j,b j->j<w.heap.size)->(∀i j,Y i j->b j->Rd j)->∀(c:Ğ) (cs:List Ğ),vo P main Rd (Hh Hi b vQ c cs) (fj Y b) (s'.r<|c::cs) w:=by
 have hE:∀o a u f F G,mQ P X l o->(î (ç a) o).run P u=Ĭ (Ź f F) G->l f:=by exact λo a u f F G d H=>d.C a u f F G H
 induction h with
 |@jN f t k u fn v hf H hp=>
  intro Y Hi s' w I J K L M N O n c cs;let⟨f',t',k',ret',L'⟩:=s';let⟨V,W,e2,e3,hL⟩:=L;simp only at V e2 e3 W hL;subst V e2 e3;cases hL;refine .mk rfl λp r=> ?_;have d:=λj s=>Ô (O j s) r.r;let⟨z,v',w',es,B,C,m,D,q,E,Q,h8⟩:=(WQ fn W).gl (N.fM n r) d (H _ _) #[];have y:=λi j T s=>(C i j T).elim (λx=>n i j x s) λx=>absurd (d j s) Z;refine⟨_,w',_,fj z b,Hg hf m,WT B C q E (λe he=>Q e (by have:=mem_seen he;simpa using this)) y,.fy λpA e=>⟨z,u,v,v',fl.I I B,rfl,rO.fM (q.vp _ _) y e,D,hp,rfl⟩⟩
 |@jO s u S U h hc _ ih=>
  intro Y Hi s' w I J K L M N O n c cs;refine .mk rfl λp r=> ?_;have d:=λj s=>Ô (O j s) r.r;let⟨z,H,e,es,B,C,m,D,q,E,Q,h8⟩:=(h p.tape p.drawn).mR hz J K L M (N.fM n r) d (hc p.tape p.drawn) main<|c::cs;have y:=λi j T s=>(D i j T).elim (λx=>n i j x s) λx=>absurd (d j s) Z;refine⟨_,e,es,fj z b,B,WT m D q E Q y,ih _ _ (fl.I I m) (m.2.2.trans J) (λg x=>m.1 _ _<|K g x) C ((h _ _).ok hP hE M) q.to0 (λj s=>Ô (d j s) E.r) y c cs⟩
end
def p7:Ğ:={(default:Ğ)with fn:=0,todo:=[ĕ<|dD ""],defers:=[{target:=.nil,args:=#[]}],mode:=.run,kind:=.normal}
def St.I(s:St):Ğ:=if s.C then{fm s.f s.t s.k with mode:=.returning}else fm s.f s.t s.k
def fv(L:List (FuncId×Array Value×List Ũ)):List Ğ:=L.map (λx=>fm x.1 x.2.1 x.2.2)++[p7]
def LM(s:St)(u:Æ):b9:=bl s.I (fv s.L) u
section
variable{GL:Nat->Prop}{e7:â->Prop}{Q:Ã->Æ->Prop}
def Eu{cs:List Ğ}{a:Ğ}{es:Array Ă}(h:Ü P È (G f cs) w=bj (G a qX) u es):dY P (bl f cs w)=œ (bl a qX u):= step_lone_go<|by show(Ü P È (G f cs) w).bare=_;rw[h];rfl
def KR{fr:Ğ}{cs:List Ğ}{o:Outcome}{es:Array Ă}(h:Ü P È (G fr cs) w=.ended o u es):dY P (bl fr cs w)=.ended o u:= step_lone_ended<|by show(Ü P È (G fr cs) w).bare=_;rw[h];rfl
def mS(P:Ø)(Q:Ã->Æ->Prop)(n:Nat)(m:b9):Prop:=∃b v a,dF P n m=œ (bl b [p7] a)/\b.leaving P a (.returned v)/\Q v a
def mS.r{m a:b9}(h:mS P Q (n+1) m)(b:dY P m=œ a):mS P Q n a:=by let⟨c,v,d,e,f⟩:=h;exact⟨c,v,d,by simpa only[dF,b]using e,f⟩
def mS.M{m:b9}{o:Outcome}(h:mS P Q (n+1) m)(b:dY P m=.ended o w):False:=by let⟨c,v,d,a,e⟩:=h;simp only[dF,b]at a;cases a
theorem WU{fr:Ğ}{cs:List Ğ}(h:bl fr cs w=bl f qX u):fr=f/\cs=qX/\w=u:=by simp only[bl,Machine.mk.injEq,Array.mk.injEq,List.cons.injEq,Goroutine.mk.injEq]at h;grind
theorem mS.C{cs:List Ğ}(h:mS P Q 0 (bl f cs w)):cs=[p7]/\∃v,f.leaving P w (.returned v)/\Q v w:=by let⟨b,v,c,a,d,e⟩:=h;simp only[dF,Stepped.next.injEq]at a;grind [WU]
def afo(h:mS P Q n (bl p7 [] u)):False:=by
 cases n with
 |zero=>let⟨a,_⟩:=h.C;cases a
 |succ n=>exact h.M<|KR (es:=#[])<|by simp[G,Ü,Ì,p7];exact⟨U,U⟩
def afp{a:List ez}(h:mS P Q n (bl (p7.raise a) [] u)):False:=by
 cases n with
 |zero=>let⟨b,_⟩:=h.C;cases b
 |succ n=>exact h.M<|KR (es:=#[])<|by simp[G,Ü,p7,Ţ,dE,callDeferred];exact⟨U,U⟩
def afq(b:List ez):∀(L:List (FuncId×Array Value×List Ũ)) (f:â) (t:Array Ã) (k:List Ũ) (u:Æ) (n:Nat),(∃a,P.funcs[f]?=À a)->(∀x∈L,∃a,P.funcs[x.1]?=À a)->¬mS P Q n (bl ((fm f t k).raise b) (fv L) u):=by
 intro L
 induction L with
 |nil=>
  intro f t k u n ⟨a,c⟩ _ h;cases n with
  |zero=>let⟨_,v,y,_⟩:=h.C;exact absurd y.1<|by simp[Ţ,fm,Frame.at]
  |succ n=>
   have d:dY P (bl ((fm f t k).raise b) (fv []) u)=œ (bl (p7.raise b) [] u):=Eu (es:=#[]) (by simp[G,Ü,fm,base,Frame.at,Ţ,dE,di,c,fv]);exact afp<|h.r d
 |cons x L e=>
  intro f t k u n ⟨a,c⟩ d h;cases n with
  |zero=>let⟨_,v,y,_⟩:=h.C;exact absurd y.1<|by simp[Ţ,fm,Frame.at]
  |succ n=>
   exact e x.1 x.2.1 x.2.2 u n (d x<|ð ..) (λy v=>d y<|ô _ v)<|h.r<|Eu (es:=#[])<|by simp[G,Ü,fm,base,Frame.at,Ţ,dE,di,c,fv]
structure Ok(P:Ø)(GL:Nat->Prop)(e7:â->Prop)(s:St):Prop where
 r:lF P GL e7 s
 I:e7 s.f
 C:∀x∈s.L,e7 x.1/\∃ops i rest k,x.2.2=ã ops (i::rest)::k
def tW(P:Ø)(e7:â->Prop):Prop:=∀f,e7 f->∃a c,P.funcs[f]?=À a/\a.body=À c
theorem Py{t:Array Ã}:fB P (ı s t):=by unfold ı;grind [gp,V8,gF,VY,VT]
def afr(k:kn P xX o.op){n:ξ}(d:(î xX o).run P u=Ĭ n W):(∃v,n=ñ v)\/n=aT\/∃f c,n=Ź f c:=by
 have i:∀{m:Ę Ã} {x:ξ} {j l:Æ},(m>>=λv=>pure (ñ v):Ę ξ).run P j=Ĭ x l->∃v,x=ñ v:=by
  intro m x j l e;rw[Ä]at e;cases g:m.run P j with
  |ok a w=>rw[g]at e;cases e;exact⟨a,U⟩
  |halt z w=>rw[g]at e;cases e
 let⟨p,e,q,s,B,guard⟩:=o;simp only at k;unfold î at d;simp only[]at d;cases k with
 |Ax x=>cases d;exact Ç ⟨_,U⟩
 |G2 x=>cases d;exact Ç ⟨_,U⟩
 |wI c a b=>
  rw[Ä]at d;cases g:(cu<|xX c).run P u with
  |ok a w=>rw[g]at d;cases d;exact Ç ⟨_,U⟩
  |halt z w=>rw[g]at d;cases d
 |je t a x=>
  rw[Ä]at d;cases g:(ļ t (xX a)<|xX x).run P u with
  |ok a w=>rw[g]at d;cases d;exact Î<|Ç U
  |halt z w=>rw[g]at d;cases d
 |G3 x=>
  simp only[]at d;split at d;all_goals first
   |(cases d;exact Ç ⟨_,U⟩)
   |exact absurd d<|rI _ _ _ _
   |(
    split at d;all_goals first
     |(cases d;exact Ç ⟨_,U⟩)
     |exact absurd d<|rI _ _ _ _
     |(
      rw[Ä,Ĉ]at d;simp only[É]at d;rw[Ä]at d;revert d;generalize å P (bh _ _ _ _) u=z;intro d;cases z with
      |halt z w=>cases d
      |ok a w=>
       simp only[É]at d;split at d
       .rw[Ä]at d;cases d
       .cases d;exact Ç ⟨_,U⟩))
 |G4 x a=>simp only[þ,Ē,ė,pure_bind,Ú,ä,æ]at d;exact Ç<|i d
 |G5 x a=>simp only[þ,Ē,ė,pure_bind,Ú,ä,æ]at d;exact Ç<|i d
 |G6 x y a=>simp only[þ,Ē,ė,pure_bind,Ú,ä,æ]at d;exact Ç<|i d
 |G7 x y b g h=>simp only[þ,Ē,ė,pure_bind,Ú,ä,æ]at d;exact Ç<|i d
 |jM g C a b h=>
  let⟨D,r,w,z⟩:=h;simp only[þ,b,Ĺ,Ē,pure_bind,ē,Ĕ,ľ]at d;rw[Ä,Ĉ]at d;simp only[É,r,w,z,Å,if_false]at d;cases d;exact Î<|Î ⟨_,_,U⟩
 |Eo e t x y r h=>exact Ç<|i d
 |_=>exact Ç<|i d
def mS.I(_hP:py P GL e7)(hF:tW P e7){n:Nat}{s:St}{u:Æ}(ok:Ok P GL e7 s)(hu:qP u)(h:mS P Q n (LM s u)): (n=0/\s.C=È/\s.L=[]/\∃fn v,P.funcs[s.f]?=À fn/\(ı fn s.t).run P u=Ĭ v u/\Q v u)\/∃m s' u',n=m+1/\LS P s u s' u'/\mS P Q m (LM s' u'):=by
 let⟨f,t,k,ret,L⟩:=s;let⟨⟨top,lw⟩,fs,ls⟩:=ok;simp only at top lw fs ls;let⟨fn,c,hfn,hbody⟩:=hF f fs;cases n with
 |zero=>
  let⟨h1,v,h2,h3⟩:=h.C;have hL:L=[]:=by simp only[fv]at h1;simp_all
  subst hL;let⟨m1,_,_,fn',m4,m5⟩:=h2;have afs:ret=È:=by
   cases ret with
   |true=>rfl
   |false=>simp[St.I,fm,Frame.at]at m1
  subst afs;exact Ç ⟨U,U,U,fn',v,m4,m5,h3⟩
 |succ n=>
  have go:∀{s':St} {u':Æ},LS P ⟨f,t,k,ret,L⟩ u s' u'->(∃es,Ü P È ((⟨f,t,k,ret,L⟩:St).r [p7]) u=bj (s'.r [p7]) u' es)->(n+1=0/\ret=È/\L=[]/\∃fn v,P.funcs[f]?=À fn/\(ı fn t).run P u=Ĭ v u/\Q v u)\/∃m s' u',n+1=m+1/\LS P ⟨f,t,k,ret,L⟩ u s' u'/\mS P Q m (LM s' u'):=by intro s' u' hl ⟨es,he⟩;exact Î ⟨n,s',u',U,hl,h.r<|Eu he⟩
  have bad:(∃o w es,Ü P È ((⟨f,t,k,ret,L⟩:St).r [p7]) u=.ended o w es)->False:=λ⟨_,_,_,he⟩=>h.M<|KR he;cases ret with
  |true=>
   cases hr:(ı fn t).runT P u #[]with
   |mk r es=>
    cases r with
    |halt z w=>
     refine absurd ?_ id;cases z<;>exact bad ⟨_,_,_,by simp[St.r,fm,base,G,Ü,dE,Frame.at,hfn,hr,Θ,-Ι];exact⟨U,U,U⟩⟩
    |ok v u'=>
     cases L with
     |nil=>
      exact absurd (h.r<|Eu<|Hg hfn hr) afo
     |cons x L=>
      let⟨g,t',k'⟩:=x;let⟨_,ops,i,rest,k2,e⟩:=ls _<|ð ..;simp only at e;subst e;refine go (.wT hfn (by rw[<-ο P (ı fn t) u #[],hr])) ⟨seen P f es,?_⟩;have nz:=Hg (main:=È) (k:=k) (c:=fm g t'<|ã ops (i::rest)::k2) (cs:=fv L) hfn hr;have AG:=υ (base g) ⟨t',[]⟩ ops i rest k2 v;rw[sU]at AG;unfold fm at nz;rwa[AG]at nz
  |false=>
   cases k with
   |nil=>exact go .po ⟨_,by simp[St.r,fm,base,G,Ü,Ì,Frame.at];rfl⟩
   |cons it k=>
    have ti:=top it<|ð ..;cases ti with
    |yy id=>exact go .yy ⟨_,by simp[St.r,fm,base,G,Ü,Ì,Frame.at];rfl⟩
    |vn _=>exact go .vn ⟨_,by simp[St.r,fm,base,G,Ü,Ì,Frame.at];rfl⟩
    |wO _=>exact go .wO ⟨_,by simp[St.r,fm,base,G,Ü,Ì,Frame.at];rfl⟩
    |rN hc=>
     cases hc with
     |vm=>exact go .vm ⟨_,by simp[St.r,fm,base,G,Ü,Ì,Frame.at];rfl⟩
     |sR=>exact go .sR ⟨_,by simp[St.r,fm,base,G,Ü,Ì,Frame.at];rfl⟩
     |wM l=>exact go .wM ⟨_,by simp[St.r,fm,base,G,Ü,Ì,Frame.at];rfl⟩
     |rL hx hy=>exact go .rL ⟨_,by simp[St.r,fm,base,G,Ü,Ì,Frame.at];rfl⟩
     |rM id _=>exact go .rM ⟨_,by simp[St.r,fm,base,G,Ü,Ì,Frame.at];rfl⟩
     |wN _=>exact go .wN ⟨_,by simp[St.r,fm,base,G,Ü,Ì,Frame.at];rfl⟩
     |wP _=>exact go .wP ⟨_,by simp[St.r,fm,base,G,Ü,Ì,Frame.at];rfl⟩
     |nX WN=>exact(bad ⟨_,_,_,by simp[St.r,fm,base,G,Ü,Ì,Frame.at];exact⟨U,U,U⟩⟩).elim
     |wR id=>
      cases he:cN id k with
      |none=>exact(bad ⟨_,_,_,by simp[St.r,fm,base,G,Ü,Ì,Frame.at,he];exact⟨U,U,U⟩⟩).elim
      |some k'=>exact go (.wR he) ⟨_,by simp[St.r,fm,base,G,Ü,Ì,Frame.at,he];rfl⟩
     |wS l=>
      cases he:cO l k with
      |none=>exact(bad ⟨_,_,_,by simp[St.r,fm,base,G,Ü,Ì,Frame.at,he];exact⟨U,U,U⟩⟩).elim
      |some k'=>exact go (.wS he) ⟨_,by simp[St.r,fm,base,G,Ü,Ì,Frame.at,he];rfl⟩
     |@tU c x y _ _ _=>
      by_cases hb:∃b,ç ⟨t,[]⟩ c=Ň b
      .let⟨b,hb⟩:=hb;exact go (.tU hb) ⟨_,cP hb⟩
      .refine(bad ⟨.stuck "cond: bool expected" ((fm f t<|ĕ (bJ c x y)::k).pos P),u,#[],?_⟩).elim;have VF:(fm f t<|ĕ (bJ c x y)::k).eval c=ç ⟨t,[]⟩ c:=Frame.eval_at _ _ _ _;have hx:Ü P È (G (fm f t<|ĕ (bJ c x y)::k)<|fv L) u=(match(fm f t<|ĕ (bJ c x y)::k).eval c with
        |Ň b=>bj (G (fm f t<|ĕ (if b then x else y)::k)<|fv L) u
        |_=>.ended (.stuck "cond: bool expected" ((fm f t (ĕ (bJ c x y)::k)).pos P)) u):=by
        simp only[G,Ü,Ì,fm,Frame.at];rfl
       refine hx.trans ?_;rw[VF];generalize ç ⟨t,[]⟩ c=v at hb;cases v<;>first|exact absurd ⟨_,U⟩ hb|rfl
     |tV id draw _=>
      cases draw with
      |false=>exact go .tV ⟨_,by simp[St.r,fm,base,G,Ü,Ì,Frame.at];rfl⟩
      |true=>exact go .AA ⟨_,Κ⟩
    |wU is hO=>
     rename_i ops;cases is with
     |nil=>exact go .Hf ⟨_,by simp[St.r,fm,base,G,Ü,Ì,Frame.at];rfl⟩
     |cons i rest=>
      cases ho:ops[i]? with
      |none=>exact go (.Es ho) ⟨_,by simp[St.r,fm,base,G,Ü,Ì,Frame.at,ho,bk];rfl⟩
      |some o=>
       cases hw:ĭ o (ō ops t)with
       |false=>
        have:=av (P:=P) (main:=È) (b:=base f) (a:=⟨t,[]⟩) (k:=k) (cs:=fv L) (w:=u) (rest:=rest) ho hw;rw[sU]at this;exact go (.Er ho hw) ⟨_,this⟩
       |true=>
        have oo:=hO o<|Ý ho;have qS:=stepG_oper (P:=P) (main:=È) (b:=base f) (a:=⟨t,[]⟩) (k:=k) (cs:=fv L) (w:=u) (rest:=rest) ho hw;cases hr:(î (ç ⟨t,[]⟩) o).runT P u #[]with
        |mk r es=>
         have pn:(î (ç ⟨t,[]⟩) o).run P u=r:=by rw[<-ο P _ u #[],hr]
         cases r with
         |halt z w=>
          have hz:=((oo.r ⟨t,[]⟩).1 u hu).2 z w pn;cases z with
          |panic v=>
           have hs:dY P (LM ⟨f,t,ã ops (i::rest)::k,Â,L⟩ u)=œ (bl ((fm f t<|ã ops (i::rest)::k).raise [{v,recovered:=Â}]) (fv L) w):= Eu (es:=seen P f es) (qS.trans<|by simp[bM,hr,G,Frame.at,fm,base,Θ,Ţ,-Ι]);exact absurd (h.r hs) (afq _ L f t _ w n ⟨fn,hfn⟩ λx hx=>let⟨fn',_,h1,_⟩:=hF x.1 (ls x hx).1;⟨fn',h1⟩)
          |stuck s=>exact(bad ⟨_,_,_,qS.trans<|by simp[bM,hr,Frame.at,base,Θ,-Ι];exact⟨U,U,U⟩⟩).elim
          |unsupported un=>
           cases un<;>first|(cases hz;done)|exact(bad ⟨_,_,_,qS.trans<|by simp[bM,hr,Frame.at,base,Θ,-Ι];exact⟨U,U,U⟩⟩).elim
          |_=>cases hz
         |ok nx u'=>
          rcases oo.I ⟨t,[]⟩ u nx u' pn with⟨v,rfl⟩|rfl|⟨g,args,rfl⟩
          .have:=bK (main:=È) (b:=base f) (k:=k) (cs:=fv L) (rest:=rest) ho hw (by simp[base]) pn;rw[sU]at this;exact go (.nW ho hw pn) ⟨_,this⟩
          .have:=cR (main:=È) (b:=base f) (k:=k) (cs:=fv L) (rest:=rest) ho hw (by simp[base]) pn;rw[sU]at this;exact go (.AB ho hw pn) ⟨_,this⟩
          .let⟨fn',c',h1,h2⟩:=hF g<|oo.C ⟨t,[]⟩ u g args u' pn;have:=bL (main:=È) (b:=base f) (k:=k) (cs:=fv L) (rest:=rest) ho hw (by simp[base]) pn;rw[cS _ h1 h2]at this;exact go (.sS ho hw pn h1 h2) ⟨_,this⟩
end
def kq(u:Æ):Prop:=∀(i:Nat) (o:Obj),u.heap[i]?=À o->¬yx o
def kq.qP(h:kq u):qP u:=λi _ _ a=>h i _ a trivial
def wW(a:Ã->Æ->Prop):Prop:=∀v u T D,a v u->a v ((World.tp u T D))
section
variable{GL:Nat->Prop}{e7:â->Prop}{ko:Ã->Æ->Prop}
def LS.Px{s s':St}(h:LS P s u s' W)(cs:List Ğ):∃j,Ü P È (s.r cs) u=bj (s'.r cs) W j:=by
 cases h with
 |@tU f t k L _ c x y b hc=>exact⟨_,cP hc⟩
 |wR e=>exact⟨_,by simp[St.r,fm,base,G,Ü,Ì,Frame.at,e];rfl⟩
 |wS e=>exact⟨_,by simp[St.r,fm,base,G,Ü,Ì,Frame.at,e];rfl⟩
 |@AA f t k L _ id ops=>exact⟨_,Κ⟩
 |@Es f t k L _ ops i rest ho=>exact⟨_,by simp[St.r,fm,base,G,Ü,Ì,Frame.at,ho,bk];rfl⟩
 |@Er f t k L _ ops i rest o ho hw=>
  have:=av (P:=P) (main:=È) (b:=base f) (a:=⟨t,[]⟩) (k:=k) (cs:=L.map (λx=>fm x.1 x.2.1 x.2.2)++cs) (w:=u) (rest:=rest) ho hw;rw[sU]at this;exact⟨_,this⟩
 |@nW f t k L _ ops i rest o v _ ho hw hr=>
  have:=bK (main:=È) (b:=base f) (k:=k) (cs:=L.map (λx=>fm x.1 x.2.1 x.2.2)++cs) (rest:=rest) ho hw (by simp[base]) hr;rw[sU]at this;exact⟨_,this⟩
 |@AB f t k L _ ops i rest o _ ho hw hr=>
  have:=cR (main:=È) (b:=base f) (k:=k) (cs:=L.map (λx=>fm x.1 x.2.1 x.2.2)++cs) (rest:=rest) ho hw (by simp[base]) hr;rw[sU]at this;exact⟨_,this⟩
 |@sS f t k L _ ops i rest o g args fn c _ ho hw hr hf hb=>
  have:=bL (main:=È) (b:=base f) (k:=k) (cs:=L.map (λx=>fm x.1 x.2.1 x.2.2)++cs) (rest:=rest) ho hw (by simp[base]) hr;rw[cS _ hf hb]at this;exact⟨_,this⟩
 |@wT f t k L _ g t' ops i rest k' v fn _ hf hr=>
  cases l:(ı fn t).runT P u #[]with
  |mk r j=>
   have e:r=Ĭ v W:=by rw[<-hr,<-ο P (ı fn t) u #[],l]
   subst e;have d:=Hg (main:=È) (k:=k) (c:=fm g t'<|ã ops (i::rest)::k') (cs:=L.map (λx=>fm x.1 x.2.1 x.2.2)++cs) hf l;have x:=υ (base g) ⟨t',[]⟩ ops i rest k' v;rw[sU]at x;unfold fm at d;rw[x]at d;exact⟨_,d⟩
 |_=>exact⟨_,by simp[St.r,fm,base,G,Ü,Ì,Frame.at];rfl⟩
def LS.vq{s a:St}(h:LS P s u a w):dY P (LM s u)=œ (LM a w):= let⟨_,b⟩:=h.Px [p7];Eu b
def LS.Pz(j:py P GL e7){s g:St}(h:LS P s u g w)(ok:Ok P GL e7 s):Ok P GL e7 g:=by
 have i:∀o a u f e w,mQ P GL e7 o->(î (ç a) o).run P u=Ĭ (Ź f e) w->e7 f:=by exact λo a u f e w c d=>c.C a u f e w d
 refine⟨h.ok j i ok.r,?_,?_⟩
 .cases h with
  |sS c _ d _ _=>exact i _ _ _ _ _ _ (pz ok.r.gd _<|Ý c) d
  |wT=>exact(ok.C _<|ð ..).1
  |_=>exact ok.I
 .cases h with
  |sS c _ d _ _=>
   intro x b;rcases ş.1 b with rfl|b
   .exact⟨ok.I,_,_,_,_,U⟩
   .exact ok.C x b
  |wT=>exact λx b=>ok.C x<|ô _ b
  |_=>exact ok.C
def LS.kd{s c:St}{u b:Æ}(h:LS P s u c b)(ok:lF P GL e7 s)(a:qP u):Kd u b:=by
 cases h with
 |nW k _ i=>exact(((pz ok.gd _<|Ý k).r _).1 u a).1 _ _ i
 |AB k _ i=>exact(((pz ok.gd _<|Ý k).r _).1 u a).1 _ _ i
 |sS k _ i _ _=>exact(((pz ok.gd _<|Ý k).r _).1 u a).1 _ _ i
 |wT _ i=>exact(Py.1 u a).1 _ _ i
 |AA=>exact⟨id,λi o h k=>⟨o,h,k⟩⟩
 |_=>exact Kd.fW u
def LS.afu{s o:St}{u p:Æ}{T:az}{D:Nat}(h:LS P s ((World.tp u T D)) o p)(ok:lF P GL e7 s):∃n v,p=(World.tp v T<|D+n)/\∀a b,vk T D a b n->LS P s ((World.tp u a b)) o ((World.tp v a<|b+n)):=by
 cases h with
 |nW c e g=>
  obtain⟨n,v,i⟩:=((pz ok.gd _<|Ý c).r ⟨_,[]⟩).2 u T D;obtain⟨j,l⟩:=i _ _ g;exact⟨n,v,j,λa b d=> .nW c e (l a b d)⟩
 |AB c e g=>
  obtain⟨n,v,i⟩:=((pz ok.gd _<|Ý c).r ⟨_,[]⟩).2 u T D;obtain⟨j,l⟩:=i _ _ g;exact⟨n,v,j,λa b d=> .AB c e (l a b d)⟩
 |sS c e g m q=>
  obtain⟨n,v,i⟩:=((pz ok.gd _<|Ý c).r ⟨_,[]⟩).2 u T D;obtain⟨j,l⟩:=i _ _ g;exact⟨n,v,j,λa b d=> .sS c e (l a b d) m q⟩
 |wT m g=>
  obtain⟨n,v,i⟩:=(Py).2 u T D;obtain⟨j,l⟩:=i _ _ g;exact⟨n,v,j,λa b d=> .wT m (l a b d)⟩
 |@AA f t k L _ id ops=>
  refine⟨1,u,U,λa b d=> ?_⟩;have g:=LS.AA (P:=P) (f:=f) (t:=t) (k:=k) (L:=L) (u:=(World.tp u a b)) (id:=id) (ops:=ops);have i:((World.tp u a b)).tape ((World.tp u a b)).drawn=((World.tp u T D)).tape ((World.tp u T D)).drawn:=d.lV;rwa[i]at g
 |po=>exact⟨0,u,U,λ_ _ _=> .po⟩
 |vm=>exact⟨0,u,U,λ_ _ _=> .vm⟩
 |sR=>exact⟨0,u,U,λ_ _ _=> .sR⟩
 |wM=>exact⟨0,u,U,λ_ _ _=> .wM⟩
 |yy=>exact⟨0,u,U,λ_ _ _=> .yy⟩
 |vn=>exact⟨0,u,U,λ_ _ _=> .vn⟩
 |rL=>exact⟨0,u,U,λ_ _ _=> .rL⟩
 |tU h=>exact⟨0,u,U,λ_ _ _=> .tU h⟩
 |rM=>exact⟨0,u,U,λ_ _ _=> .rM⟩
 |wN=>exact⟨0,u,U,λ_ _ _=> .wN⟩
 |wO=>exact⟨0,u,U,λ_ _ _=> .wO⟩
 |wP=>exact⟨0,u,U,λ_ _ _=> .wP⟩
 |wR h=>exact⟨0,u,U,λ_ _ _=> .wR h⟩
 |wS h=>exact⟨0,u,U,λ_ _ _=> .wS h⟩
 |tV=>exact⟨0,u,U,λ_ _ _=> .tV⟩
 |Hf=>exact⟨0,u,U,λ_ _ _=> .Hf⟩
 |Er c e=>exact⟨0,u,U,λ_ _ _=> .Er c e⟩
 |Es c=>exact⟨0,u,U,λ_ _ _=> .Es c⟩
def mS.gV(c:py P GL e7)(hF:tW P e7)(g:∀v u,vQ v u->kq u):∀(n:Nat) {s:St} {u:Æ},Ok P GL e7 s->qP u->mS P vQ n (LM s u)->kq u:=by
 intro n
 induction n with
 |zero=>
  intro s u a b h;rcases h.I c hF a b with⟨_,_,_,_,v,_,_,d⟩|⟨m,_,_,e,_⟩
  .exact g v u d
  .cases e
 |succ n j=>
  intro s u a b h;rcases h.I c hF a b with⟨e,_⟩|⟨m,w,x,e,d,k⟩
  .cases e
  .cases e;have f:=d.kd a.r b;intro i o l p;let⟨q,r,t⟩:=f.C i o l p;exact j (d.Pz c a) (f.r b) k i q r t
def p6.afv(b:wW ko){s:St}(h:p6 P ko s u)(T:az)(D:Nat):p6 P ko s ((World.tp u T D)):=by
 cases h with
 |jN a S c=>exact .jN a S (b _ _ T D c)
 |jO S a h c d=>exact .jO S a h c d
def WV(m:wW ko)(o:∀v u,vQ v u->ko v u){s:St}(c:s.C=È)(b:s.L=[])(e:∃g v,P.funcs[s.f]?=À g/\(ı g s.t).run P ((World.tp u xQ i))=Ĭ v ((World.tp u xQ i))/\vQ v ((World.tp u xQ i))):p6 P ko s u:=by
 obtain⟨f,t,k,z,L⟩:=s;simp only at c b;subst c b;obtain⟨g,v,p,q,r⟩:=e;refine .jN (v:=v) p (λh d=> ?_) ?_
 .obtain⟨n,w,c⟩:=(Py).2 u xQ i;obtain⟨b,e⟩:=c _ _ q;have x:n=0:=by
   have:((World.tp u xQ i)).drawn=((World.tp w xQ<|i+n)).drawn:=by rw[<-b]
   simp only[World.tp]at this;omega
  subst x;have y:(World.tp w h d)=(World.tp u h d):=by
   have a:((World.tp u xQ i)).heap=((World.tp w xQ<|i+0)).heap:=by rw[<-b]
   have j:((World.tp u xQ i)).os=((World.tp w xQ<|i+0)).os:=by rw[<-b]
   have l:((World.tp u xQ i)).output=((World.tp w xQ<|i+0)).output:=by rw[<-b]
   simp only[World.tp]at a j l|-;rw[a,j,l]
  have:=e h d (λa j=>by omega);rwa[show d+0=d from rfl,y]at this
 .have:=m v _ u.tape u.drawn<|o v _ r;exact this
structure KS where
 s:St
 u:Æ
 D:Nat
 T:az
 n:Nat
structure KT(P:Ø)(GL:Nat->Prop)(e7:â->Prop)(ko:Ã->Æ->Prop)(s0:St)(u0:Æ)(x:KS):Prop where
 ok:Ok P GL e7 x.s
 afw:qP x.u
 afx:¬p6 P ko x.s x.u
 oP:∀T',(∀i,i<x.D->T' i=x.T i)->dF P x.n (LM s0<|(World.tp u0 T' 0))=œ (LM x.s<|(World.tp x.u T' x.D))
def WW{m:b9}{s:St}{N:Nat}(a:dF P n m=œ (LM s u))(e:mS P vQ N m):∃k,N=n+k/\mS P vQ k (LM s u):=by
 by_cases f:n<=N
 .obtain⟨k,rfl⟩:=Υ f;refine⟨k,U,?_⟩;let⟨g,v,c,b,d⟩:=e;rw[dR,a]at b;exact⟨g,v,c,b,d⟩
 .obtain⟨k,rfl⟩:=Nat.exists_eq_add_of_lt<|Nat.lt_of_not_le f;let⟨g,v,c,b,d,_⟩:=e;rw[show N+k+1=N+(k+1) by omega,dR,b]at a;simp only[dF,step_leave_returned d]at a;cases k with
  |zero=>
   simp only[dF,Stepped.next.injEq]at a;have:=(WU a).2.1;simp[fv]at this
  |succ k=>
   simp only[dF,(KR (P:=P) (fr:=p7) (cs:=[]) (w:=c) (es:=#[])<|by simp[G,Ü,Ì,p7];exact⟨U,U⟩)]at a;cases a
theorem PE(f:py P GL e7)(hF:tW P e7)(t:wW ko)(C:∀v u,vQ v u->kq u)(E:∀v u,vQ v u->ko v u){j:St}(F:∀T,∃n,mS P vQ n<|LM j<|(World.tp w T 0)){x:KS}(G:KT P GL e7 ko j w x): ∃y:KS,KT P GL e7 ko j w y/\y.n=x.n+1/\x.D<=y.D/\∀i,i<x.D->y.T i=x.T i:=by
 let⟨s,u,D,T,n⟩:=x;let⟨ok,pend,l,q⟩:=G;simp only at ok pend l q;have H:∃y d,∀a g,LS P s ((World.tp u y d)) a g->Em u g->¬p6 P ko a g:=by
  refine Classical.byContradiction λo=>l ?_;have c:∀y d,∃p:St×World,LS P s ((World.tp u y d)) p.1 p.2/\Em u p.2/\p6 P ko p.1 p.2:=by simp_all
  exact .jO (λy d=>(Classical.choose<|c y d).1) (λy d=>(Classical.choose<|c y d).2) (λy d=>(Classical.choose_spec<|c y d).1) (λy d=>(Classical.choose_spec<|c y d).2.1) λy d=>(Classical.choose_spec<|c y d).2.2
 let⟨y,d,I⟩:=H;let p:az:=λi=>if i<D then T i else y (d+(i-D))
 have r:∀i,i<D->p i=T i:=λi h=>if_pos h;have J:=λi=>by show(if D+i<D then T (D+i)else y (d+(D+i-D)))=y (d+i);grind
 let⟨N,K⟩:=F p;let⟨k,_,L⟩:=WW (q p r) K;have b:qP ((World.tp u p D)):=pend;rcases L.I f hF ok b with⟨_,M,O,S⟩|⟨m,a,g,_,e,V⟩
 .exact absurd (WV t E M O S) l
 .obtain⟨c,v,rfl,z⟩:=e.afu ok.r;have W:¬p6 P ko a v:=λX=>I a _ (z y d λi _=>(J i).symm) (λi o _ B=>(mS.gV f hF C m (e.Pz f ok) ((e.kd ok.r b).r b) V) i o B)<|X.afv t y<|d+c;refine⟨⟨a,v,D+c,p,n+1⟩,⟨e.Pz f ok,(e.kd ok.r b).r b,W,λo B=> ?_⟩,U,fi,r⟩;rw[dR,(q o λi h=>(B i<|by simp only;omega).trans<|r i h)];simp only[dF,(z o D λi h=>B (D+i)<|by simp only;omega).vq]
theorem afy(b:py P GL e7)(hF:tW P e7)(c:wW ko){Q:Ã->Æ->Prop}(g:∀v u,Q v u->kq u)(d:∀v u,Q v u->ko v u){a:St}(ok:Ok P GL e7 a)(q:qP w)(f:∀T,∃n,mS P Q n<|LM a<|(World.tp w T 0)):p6 P ko a w:=by
 refine Classical.byContradiction λr=> ?_;have s:KT P GL e7 ko a w ⟨a,w,0,λ_ _=>0,0⟩:=⟨ok,q,r,λI _=>rfl⟩;let F:Nat->{x:KS//KT P GL e7 ko a w x}:=λk=>Nat.rec ⟨_,s⟩ (λ_ x=>⟨Classical.choose<|PE b hF c g d f x.2,(Classical.choose_spec<|PE b hF c g d f x.2).1⟩) k
 have l:=λk=>(Classical.choose_spec<|PE b hF c g d f (F k).2).2;have t:∀k,(F k).1.n=k:=by
  intro k
  induction k with
  |zero=>rfl
  |succ k e=>rw[(l k).1,e]
 have J:∀j k,(F j).1.D<=(F<|j+k).1.D/\∀i,i<(F j).1.D->(F<|j+k).1.T i=(F j).1.T i:=by
  intro j k
  induction k with
  |zero=>exact⟨á _,λ_ _=>rfl⟩
  |succ k e=>
   have:=(l<|j+k).2;exact⟨û e.1 this.1,λi m=>(this.2 i<|Ô m e.1).trans<|e.2 i m⟩
 have K:∀j k i,i<(F j).1.D->i<(F k).1.D->(F j).1.T i=(F k).1.T i:=by intro j k i e o;rcases Nat.le_total j k with h|h;all_goals grind [Υ]
 let T:az:=λi=>open Classical in if h:∃k,i<(F k).1.D then(F<|Classical.choose h).1.T i else λ_=>0
 have y:∀k i,i<(F k).1.D->T i=(F k).1.T i:=by intro k i m;have e:∃k,i<(F k).1.D:=⟨k,m⟩;show(open Classical in if h:∃k,i<(F k).1.D then(F<|Classical.choose h).1.T i else λ_=>0)=_;rw[dif_pos e];grind
 let⟨N,z⟩:=f T;have p:=(F N).2.oP T<|y N;rw[t N]at p;let⟨k,e,o⟩:=WW p z;have B:k=0:=Z
 subst B;have C:qP ((World.tp (F N).1.u T<|(F N).1.D)):=(F N).2.afw;rcases o.I b hF (F N).2.ok C with⟨_,E,G,H⟩|⟨m,_,_,e,_⟩
 .exact(F N).2.afx<|WV c d E G H
 .cases e
end
section
variable{m:â->Prop}
def PF(f:â)(b:Func)(c:aF)(a:Array Ã):St:=⟨f,a++ń (b.ntmps-a.size) ň,[ĕ c],Â,[]⟩
def WX(a:Array Ã)(b:P.funcs[F]?=À s)(d:s.body=À wX):dS P F a .normal=(PF F s wX a).I:=cS a b d
def afz(b:py P X m)(hF:tW P m)(l:wW vQ)(g:m F)(j:P.funcs[F]?=À s)(k:s.body=À wX)(o:kq u) (p:∀T,Calls P F d ((World.tp u T 0)) fun|.returned v,u'=>vQ v u'/\kq u'|_,_=>False):p6 P vQ (PF F s wX d) u:=by
 refine afy b hF l (Q:=λv u=>vQ v u/\kq u) (λv u h=>h.2) (λv u h=>h.1) ⟨⟨λi q=> ?_,λx h=>by cases h⟩,g,λx h=>by cases h⟩ o.qP λT=> ?_
 .rw[ź.1 q];exact .rN (b F g s wX j k)
 .let⟨e,r,t,a,w,_,y⟩:=p T [p7];cases e with
  |returned v=>
   let⟨n,z⟩:=w;refine⟨n,t,v,r,?_,y,a⟩;rw[<-z,WX d j k];rfl
  |panicked n=>exact a.elim
  |outgrown=>exact a.elim
def afA(r:nV P)(b:py P X m)(hF:tW P m)(t:wW vQ)(n:m F)(e:P.funcs[F]?=À s)(h:s.body=À wX)(y:kq u) (z:∀T,Calls P F d ((World.tp u T 0)) fun|.returned v,u'=>vQ v u'/\kq u'|_,_=>False) {Y:fl} {a o:Nat->Prop} (B:Y.C=P.globals.size) (C:∀g,X g->Y g g) (p:fT Y d q) (D:rO Y a u w) (E:∀j,a j->j<w.heap.size) (H:∀i j,Y i j->a j->o j) (main:Bool) (k:Ğ) (l:List Ğ): vo P main o (Hh Y a vQ k l) (fj Y a) (G (dS P F q .normal)<|k::l) w:=by
 have:=(afz b hF t n e h y z).Px (main:=main) r b (Y:=Y) (Hi:=Y) (s':=PF F s wX q) (fl.M _) B C ⟨U,?_,U,U,.po⟩ ⟨λi I=> ?_,λx J=>by cases J⟩ D E H k l
 .rw[WX q e h];exact this
 .show fT Y (d++_) (q++_);rw[p.r];exact p.G<|WO _
 .rw[ź.1 I];exact .rN (b F n s wX e h)
def yB:Ã->Bool
 |Ň _|ċ _ _|Į _|Ö ë|õ ë _ _|cg|bn|eD ë|.map ë=>È
 |_=>Â
def PG:Ã->Bool
 |.agg a=>a.all yB
 |Ξ a=>a.all yB
 |v=>yB v
def Hj(h:yB v=È):jU v:=by
 cases v with
 |bool b=>exact .mD b
 |int k n=>exact .iE k n
 |string s=>exact .kK s
 |pointer p=>cases p with
  |none=>exact .lT
  |some a=>cases h
 |slice p n c=>cases p with
  |none=>exact .nS n c
  |some a=>cases h
 |nilFunc=>exact .ve
 |nilIface=>exact .vf
 |chan p=>cases p with
  |none=>exact .vg
  |some a=>cases h
 |map p=>cases p with
  |none=>exact .vh
  |some a=>cases h
 |_=>cases h
def afB(h:PG v=È):jU v:=by
 cases v with
 |agg b=>exact .oL λi a=>Hj<|(Ŏ.1 h) i a
 |tuple b=>exact .nT λi a=>Hj<|(Ŏ.1 h) i a
 |_=>exact Hj h
def wY(X:Nat->Bool):Ù->Bool
 |.tmp _=>È
 |eh v=>PG v
 |eG g=>X g
 |aZ _=>È
def KU{g:Nat->Bool}(h:wY g qQ=È):mE (λj=>g j=È) qQ:=by
 cases qQ with
 |tmp t=>exact .WI t
 |const v=>exact .WJ (afB h)
 |global j=>exact .WK h
 |func f=>exact .WL f
def PH(P:Ø)(t:Á):Bool:=match P.underlying t with
 |some .bool=>È
 |some (Ρ _)=>È
 |some ğ=>È
 |_=>Â
def afC(h:PH P t=È):tP P t:=by
 unfold PH at h;split at h
 .rename_i e;exact Ç e
 .rename_i k e;exact Î<|Ç ⟨k,e⟩
 .rename_i e;exact Î<|Î e
 .cases h
def KV:Ù->Bool
 |eh (Ö ë)=>È
 |_=>Â
def WY(h:KV qQ=È):nt (y.eval qQ):=by
 unfold KV at h;split at h
 .trivial
 .cases h
def PK(P:Ø)(t:Á)(x y:Ù):Bool:=PH P t||((match P.underlying t with|some (ò _)=>È|_=>Â)&&(KV x||KV y))
theorem afD{a:bP}{y:Ù}(h:PK P t qQ y=È):tP P t\/((∃e,P.underlying t=À (ò e))/\(nt (a.eval qQ)\/nt (a.eval y))):=by
 unfold PK at h;rcases ũ.1 h with h|h
 .exact Ç<|afC h
 .let⟨b,e⟩:=ß.1 h;refine Î ⟨?_,(ũ.1 e).imp WY WY⟩;grind
def PL(P:Ø)(s d:Á):Bool:=match P.underlying s,P.underlying d with
 |some (Ρ _),À (Ρ _)=>È
 |some ğ,À ğ=>È
 |_,_=>Â
theorem afE(h:PL P e t=È):(∃k a,P.underlying e=À (Ρ k)/\P.underlying t=À (Ρ a))\/(P.underlying e=À ğ/\P.underlying t=À ğ):=by unfold PL at h;grind
def PN(P:Ø)(s:Á)(n:Nat):Bool:=match P.underlying s with
 |some (dx fields)=>match fields[n]? with
  |some f=>match P.info? f.type with
   |some i=>i.size !=0
   |none=>Â
  |none=>Â
 |_=>Â
def afF(h:PN P e n=È):∀a f i,P.underlying e=À (dx a)->a[n]?=À f->P.info? f.type=À i->i.size≠0:=by intro a f i b c d;simp only[PN,b,c,d]at h;simpa using h
def PO(P:Ø)(m:â->Bool)(f:â):Bool:=m f&&(match P.funcs[f]? with
 |some a=> !(a.name== "runtime.NumGoroutine")&&!a.body.isNone
 |none=>Â)
theorem WZ{g:â->Bool}(h:PO P g F=È):g F=È/\∃a,P.funcs[F]?=À a/\(a.name== "runtime.NumGoroutine")=Â/\a.body.isNone=Â:=by let⟨b,c⟩:=ß.1 h;grind
def W0(P:Ø):List Á->Bool
 |[_,t1]=>(match P.underlying t1 with|some (dy _)=>È|some ğ=>È|_=>Â)
 |_=>Â
def W3(P:Ø)(m:â->Bool)(b:Callee)(a:List Ù)(c:List Á):Bool:=match b with
 |Ĥ .len=>a.length==1
 |Ĥ .cap=>a.length==1
 |Ĥ .copy=>a.length==2
 |Ĥ .append=>a.length==2&&W0 P c
 |cD (aZ f)=>PO P m f
 |_=>Â
def Ev(P:Ø)(m:â->Bool):Op->Bool
 |.move _|.assign _|.pick _ _ _|.alloc _|.box _ _|.build _ _|dL _ _ _|.load _ _|.store _ _ _|eK _|.unOp _ _ _|ec _ _ _|.slice _ _ _ _ _|.field _ _ _|eg _ _ _|.index _ _ _|.extract _ _=>È
 |eb c t x y _=>if c==aL||c==aX then PK P t x y else È
 |aY s d _=>PL P s d
 |ef s _ n=>PN P s n
 |σ c=>W3 P m c.callee c.args.toList c.argTypes.toList
 |_=>Â
def KW{a:Array Ù}(h:(a.toList.length==1)=È):∃x,a=#[x]:=by
 let⟨l⟩:=a;match l,h with
 |[x],_=>exact⟨x,U⟩
def PQ{a:Array Ù}(h:(a.toList.length==2)=È):∃x y,a=#[x,y]:=by
 let⟨l⟩:=a;match l,h with
 |[x,y],_=>exact⟨x,y,U⟩
def afG{g:â->Bool}{k:Op}(h:Ev P g k=È)(a:bP):kn P a.eval k:=by
 cases k with
 |binOp o t x y r=>
  refine .Eo o t x y r λe=> ?_;have:(o==aL||o==aX)=È:=by rcases e with rfl|rfl<;>rfl
  simp only[Ev,if_pos this]at h;exact afD h
 |convert s d x=>exact .O5 _ _ _ (afE h)
 |fieldAddr s x n=>exact .O7 _ _ _ (afF h)
 |call c=>
  let⟨z,B,j⟩:=c;simp only[Ev]at h;unfold W3 at h;split at h
  .obtain⟨x,rfl⟩:=KW h;exact .G4 x j
  .obtain⟨x,rfl⟩:=KW h;exact .G5 x j
  .obtain⟨x,y,rfl⟩:=PQ h;exact .G6 x y j
  .let⟨q,f⟩:=ß.1 h;obtain⟨x,y,rfl⟩:=PQ q;let⟨l⟩:=j;match l,f with
   |[t0,t1],f=>
    refine .G7 x y t0 t1 ?_;simp only[W0]at f;split at f
    .rename_i e m;exact Ç ⟨e,m⟩
    .rename_i m;exact Î m
    .cases f
  .exact .jM _ _ _ U (WZ h).2
  .cases h
 |move x=>exact .Ax x
 |assign x=>exact .G2 x
 |pick c a b=>exact .wI c a b
 |alloc t=>exact .gG t
 |box t x=>exact .O1 t x
 |build t p=>exact .O2 t p
 |buildSlice t n p=>exact .O3 t n p
 |load t a=>exact .gB t a
 |store t a x=>exact .je t a x
 |nilCheck x=>exact .G3 x
 |unOp o t x=>exact .O4 o t x
 |makeSlice t l c=>exact .O6 t l c
 |slice t x u v w=>exact .kV t x u v w
 |field t x n=>exact .O8 t x n
 |indexAddr t x i=>exact .O9 t x i
 |index t x i=>exact .Pa t x i
 |extract x n=>exact .GN x n
 |_=>simp[Ev]at h
def PU(P:Ø)(X:Nat->Bool)(m:â->Bool)(o:aI):Bool:=Ev P m o.op&&o.op.operands.all (wY X)
def afH{X:Nat->Prop}{m:â->Prop}{o:aI}(op:∀a:bP,kn P a.eval o.op)(opd:∀x∈o.op.operands,mE X x)(calls:∀f args ts,o.op=σ {callee:=cD<|aZ f,args:=args,argTypes:=ts}->m f):mQ P X m o where
 mR hz hb hG ht hW hl x u' hr hc:=(VJ hz hW.C hb (λf=>rfl) (op _) λx hx=>wV hG ht<|opd x hx).gl hW hl hr hc #[];r a:=afh<|op a;I a u n u' hr:=afr (op a) hr;C a u f c u' hr:=let⟨as,ts,e⟩:=afm (op a) hr;calls f as ts e
theorem afI{g:Nat->Bool}{k:â->Bool}(h:PU P g k o=È):mQ P (λj=>g j=È) (λf=>k f=È) o:=by
 let⟨j,b⟩:=ß.1 h;refine afH (λa=>afG j a) (λx a=>KU ?_) λf a x e=> ?_
 .grind [Ŕ]
 .rw[e]at j;exact(WZ<|show PO P k f=È from j).1
end
section
variable{Y:fl}{g:â->Prop}{α:Type}
def Ew(m:(Ù->Ã)->Ę Ã)(e:∀b,î b o=m b>>=λv=>pure<|ñ v) (i:∀(Y:fl) (b h:Ù->Ã),nV P->Bi Y->Y.C=P.globals.size->(∀x∈o.op.operands,fh Y (b x)<|h x)->kL P fh Y (m b) (m h)) (j:∀b,fB P<|m b) (k:∀x∈o.op.operands,mE X x):mQ P X g o where
 mR hz hb hG ht hW hl x u' hr hc:=by rw[e]at hr|-;exact(VE<|i _ _ _ hz hW.C hb λx d=>wV hG ht<|k x d).gl hW hl hr hc #[]
 r a:=by rw[e];exact lW<|j _
 I a u n u' hr:=by
  rw[e,Ä]at hr;cases d:(m a.eval).run P u with
  |ok v w=>rw[d]at hr;cases hr;exact Ç ⟨v,U⟩
  |halt z w=>rw[d]at hr;cases hr
 C a u f c u' hr:=by
  rw[e,Ä]at hr;cases d:(m a.eval).run P u with
  |ok v w=>rw[d]at hr;cases hr
  |halt z w=>rw[d]at hr;cases hr
theorem afJ(a:o.op=cU t qQ)(b:∀y∈o.op.operands,mE X y):mQ P X g o:=by
 refine Ew (λd=>Ū t<|d qQ) (λd=> ?_) (λY d c _ _ _ h=> .gq ?_) (λd=> ?_) b
 .unfold î;rw[a]
 .unfold Ū;apply fD (jf t);rintro e d _ c ⟨rfl,_⟩;split
  .exact .fS
  .exact .fC (.yq t ((h qQ<|by rw[a];simp[Ê]).fO c))
 .unfold Ū;grind [gF,jg,rK,gp]
theorem afK(c:Sys):oN P (sys c):=by
 intro u hu;refine⟨λx u' e=> ?_,λz u' e=>by cases e⟩;have:u'.heap=u.heap:=by
  simp only[sys,å]at e;cases e;unfold World.sys;have ask:∀{γ:Type} (b:Ask γ) (w:Æ),(w.ask b).2.heap=w.heap:=by
   intro γ b
   induction b with
   |done a=>intro w;rfl
   |ask what range k ih=>
    intro w;simp only[World.ask];split
    .exact ih 0 w
    .exact ih _ _
  grind
 exact⟨λh i c e he=>h i c e (by rwa[<-this]),λi o he ho=>⟨o,by rwa[this],ho⟩⟩
theorem W4(x:Ã):∀u y a,(Λ x).run P u≠Ĭ y a:=by
 unfold Λ;cases x<;>simp only[]<;>first|exact OZ|skip
 grind [GZ,Vt,rI]
def afL(x:Ã):fB P (Λ x):=by
 refine⟨?_,Pf<|W4 x⟩;unfold Λ;cases x<;>simp only[]<;>first|exact Ha U|skip
 refine KA ?_ λa=> ?_
 .unfold Instr.panicnil;refine KA (afK _) λr=> ?_;cases r<;>first|exact Ha U|skip
  exact KA VL λ_=>VK _
 .split
  .exact Ha U
  .exact(wK _).1
def afM(b:o.op=.panic qQ)(c:∀y∈o.op.operands,mE X y):mQ P X g o:=by refine Ew (λa=>Λ<|a qQ) (λa=> ?_) (λY a d _ _ _ h=> .gq (.oM (W4 _))) (λa=>afL _) c;unfold î;rw[b]
def afN(c:fh Y x v)(d:fh Y z jQ):fE P fh Y (Ļ x z) (Ļ v jQ):=by
 cases c<;>cases d<;>first|exact .fS|exact .fC (.iE _ _)|skip
 refine fD (V:=fh) (.fC (.mD _)) λf a g _ e=> ?_;apply fD (Vq e);rintro h b _ _ rfl;exact .fC (.kK _)
def afO(x y:Ã):fB P (Ļ x y):=by unfold Ļ;repeat' (first|(with_reducible first|exact gF _|exact jg _|exact sT _|exact KG _|exact Pv _ _ _|refine gp ?_ (λ_=> ?_)|refine nu _ ?_)|split|rfl)
def afP:∀{l b:List Ã} {Y:fl} {x c:Ã},fh Y x c->fT Y l.toArray b.toArray->fE P fh Y (l.foldlM Ļ x) (b.foldlM Ļ c):=by
 intro l
 induction l with
 |nil=>
  intro b Y x c d a;have:b=[]:=by have:=a.r;simp at this;exact ą this.symm
  subst this;rw[φ,φ];exact .fC d
 |cons v l e=>
  intro b Y x c d a;match b,a with
  |[],a=>have:=a.r;simp at this
  |v'::b,a=>
   rw[Χ,Χ];refine fD (afN d (by have:=a.C 0 fi fi;simpa using this)) ?_;intro k y m f g;refine e g ⟨by have:=a.r;simpa using this,λj h i=> ?_⟩;have:=a.C (j+1) (by simp at h|-;omega) (by simp at i|-;omega);exact(by simpa using this:fh Y _ _).fO f
def W5:∀(l:List Ã) (x:Ã),fB P<|l.foldlM Ļ x
 |[],x=>by rw[φ];exact gF _
 |v::l,x=>by rw[Χ];exact gp (afO _ _) λy=>W5 l y
def afQ(a:Array Á)(t:Á)(h:fT Y d q):fE P fh Y (ŏ a t d) (ŏ a t q):=by
 let⟨l⟩:=d;let⟨b⟩:=q;unfold ŏ;match l,b,h with
 |[],_,_=>exact .fS
 |v::l,[],h=>have:=h.r;simp at this
 |v::l,v'::b,h=>
  refine afP (by have:=h.C 0 fi fi;simpa using this) ⟨by have:=h.r;simpa using this,λj e f=> ?_⟩;have:=h.C (j+1) (by simp at e|-;omega) (by simp at f|-;omega);exact(by simpa using this:fh Y _ _)
theorem afR(a:Array Á)(t:Á)(c:Array Ã):fB P (ŏ a t c):=by let⟨l⟩:=c;unfold ŏ;grind [jg,W5]
def afS{b:Array Ù}{c:Array Á}(d:o.op=σ {callee:=Ĥ .min,args:=b,argTypes:=c})(e:∀y∈o.op.operands,mE X y):mQ P X g o:=by refine Ew (λa=>ŏ c o.type<|b.map a) (λa=> ?_) (λY a i _ _ _ h=> .gq (afQ _ _<|VH b λz f=>h z<|by rw[d];simp[Ê,ú,f])) (λa=>afR _ _ _) e;unfold î;rw[d];simp only[þ,Ē,ė,pure_bind]
def afT{β:Type}{f g:Ã->β->Ę (ForInStep β)}(k:∀a v e b,Y.r a->fh a v e->fE P jv a (f v b) (g e b)):∀{l d:List Ã} {a:fl} (b:β),Y.r a->fT a l.toArray d.toArray->fE P jv a (forIn l b f) (forIn d b g):=by
 intro l
 induction l with
 |nil=>
  intro d a b _ c;have:d=[]:=by have:=c.r;simp at this;exact ą this.symm
  subst this;rw[ax,ax];exact .fC U
 |cons v l m=>
  intro d a b h c;match d,c with
  |[],c=>have:=c.r;simp at this
  |e::d,c=>
   rw[χ,χ];refine fD (k a v e b h (by have:=c.C 0 fi fi;simpa using this)) ?_;rintro p r _ i rfl;cases r with
   |done b=>exact .fC U
   |yield b=>
    apply m b (fl.I h i);refine⟨by have:=c.r;simpa using this,λj n o=> ?_⟩;have:=c.C (j+1) (by simp at n|-;omega) (by simp at o|-;omega);exact(by simpa using this:fh a _ _).fO i
def W6{β:Type}{f:Ã->β->Ę (ForInStep β)}(a:∀v b,fB P<|f v b):∀(l:List Ã) (b:β),fB P<|forIn l b f
 |[],b=>by rw[ax];exact gF _
 |v::l,b=>by
  rw[χ];refine gp (a v b) λr=> ?_;cases r with
  |done b=>exact gF _
  |yield b=>exact W6 a l b
def afU(d:fh Y x v):fE P fh Y (ā x) (ā v):=by
 cases d<;>first|exact .fS|exact .fC (.kK _)|skip
 rename_i h n c;unfold ā;apply fD (OT h n);intro e j l m f;simp only[<-aQ];refine fD (afT (Y:=e) ?_ _ (fl.M _) f) ?_
 .intro g a o b _ i;cases i<;>first|exact .fS|skip
  rename_i k n;cases k<;>first|exact .fS|exact .fC U
 .rintro g s _ _ rfl;exact .fC (.kK _)
theorem afV(x:Ã):fB P (ā x):=by
 unfold ā;split
 .exact gF _
 .refine gp (Pn _ _) λa=> ?_;simp only[<-aQ];grind [gp,W6,gF,jg]
 .exact jg _
theorem afW(i:o.op=aY t T qQ)(k:P.underlying t=À (dy e))(l:P.underlying T=À ğ)(m:P.underlying e=À (Ρ .u8))(n:∀y∈o.op.operands,mE X y):mQ P X g o:=by
 refine Ew (λa=>Ş t T<|a qQ) (λa=> ?_) (λY a f _ _ _ h=> .gq ?_) (λa=> ?_) n
 .unfold î;rw[i]
 .unfold Ş;refine fD (jf t) ?_;rintro z B _ p ⟨rfl,b⟩;rw[k]at b;injection b with b;subst b;refine fD (jf T) ?_;rintro q C _ r ⟨rfl,c⟩;rw[l]at c;injection c with c;subst c;have j:=((h qQ<|by rw[i];simp[Ê]).fO p).fO r;have u:fE P fh q (ö e>>=λy=>match y with|Ρ .u8=>ā (a qQ)|Ρ .i32=>aR (a qQ)|_=>stuck "Convert: a slice of what to string?") (ö e>>=λy=>match y with|Ρ .u8=>ā (f qQ)|Ρ .i32=>aR (f qQ)|_=>stuck "Convert: a slice of what to string?"):=by
   apply fD (jf e);rintro D E _ w ⟨rfl,h⟩;rw[m]at h;injection h with h;subst h;exact afU<|j.fO w
  generalize a qQ=v at*;generalize f qQ=v' at*;cases j<;>first|exact u|exact .fS|exact .fC (.kK _)|skip
 .unfold Ş;grind [wL,afV,WE,gF]
end
section
variable{Y:fl}{b:â->Prop}{α:Type}
def W7(i:∀(Y:fl) (a g:bP),nV P->Bi Y->Y.C=P.globals.size->(∀x∈o.op.operands,fh Y (a.eval x)<|g.eval x)->kL P pv Y (î a.eval o) (î g.eval o)) (j:∀a:bP,fB P<|î a.eval o) (h:∀(a:bP) (u:Æ) (n:ξ) (d:Æ),(î a.eval o).run P u=Ĭ n d->∃v,n=ñ v) (k:∀x∈o.op.operands,mE X x):mQ P X b o where
 mR hz hb hG ht hW hl x d hr hc:=(i _ ⟨_,[]⟩ ⟨_,[]⟩ hz hW.C hb λx e=>wV hG ht<|k x e).gl hW hl hr hc #[];r a:=j a;I a u n d hr:=Ç<|h a u n d hr;C a u f c d hr:=by let⟨v,e⟩:=h a u _ d hr;cases e
def afX{e:Array Ã->Ę Ã}{k:Array Á}(g:o.op=σ {callee:=cD<|aZ F,args:=#[qQ],argTypes:=k})(l:P.funcs[F]?=À s)(m:(s.name== "runtime.NumGoroutine")=Â)(q:s.body.isNone=È)(r:Extern.findNext s=ë)(t:Extern.find s=À e) (B:∀(Y:fl) (v i:Ã),fh Y v i->fE P fh Y (e #[v]) (e #[i])) (C:∀v,fB P<|e #[v]) (D:∀y∈o.op.operands,mE X y):mQ P X b o:=by
 have c:∀a:bP,î a.eval o=ľ F #[a.eval qQ]:=by intro a;unfold î;rw[g];simp only[þ,ç,Ĺ,Ē,pure_bind,ē,Ĕ,Ú,ä,æ]
 have j:∀(v:Ã) (u:Æ),(ľ F #[v]).run P u=(ea (.extern F)>>=λ_=>e #[v]>>=λy=>pure (ñ y):Ę ξ).run P u:=by intro v u;unfold ľ;simp_all
 refine W7 (λY a w _ _ _ h=> ?_) (λa=> ?_) (λa u n E d=> ?_) D
 .rw[c,c];unfold ľ;refine .gq (fD rG ?_);rintro I p J w ⟨z,G⟩;rw[z,G];simp only[l,m,q,r,t,Å,if_false,if_true];apply fD (V:=jv) (.Eh (Î ⟨F,U⟩) (.fC U));exact λK _ _ H _=>mP<|B _ _ _<|((h qQ<|by rw[g];simp[Ê,ú]).fO w).fO H
 .rw[c];exact KC (j _)<|gp (Hb _) λ_=>lW<|C _
 .rw[c,j,Ä]at d;simp only[ea,å,É]at d;have:å P (e #[a.eval qQ]>>=λy=>pure (ñ y):Ę ξ) u=Ĭ n E:=d;rw[Ä]at this;cases h:(e #[a.eval qQ]).run P u with
  |ok v w=>rw[h]at this;cases this;exact⟨v,U⟩
  |halt z w=>rw[h]at this;cases this
def afY(x a:Ã)(h:fh Y x a):fE P fh Y (ŉ #[x]) (ŉ #[a]):=.fC h
def afZ(x:Ã):fB P (ŉ #[x]):=gF _
def W8:∀(n t:Nat) {c a:Array Ã},fT Y c a->fT Y (ő n t c) (ő n t a)
 |0,_,_,_,h=>h
 |n+1,t,_,_,h=>W8 n (t/256)<|h.Vf<|.iE _ _
def af0(b:Array Á)(t:Á)(v c:Ã)(h:fh Y v c):fE P fh Y (ď b #[t] #[v]) (ď b #[t] #[c]):=by
 cases h<;>first|exact .fS|skip
 rename_i k n;cases k<;>first|exact .fS|skip
 refine fD (jf t) ?_;rintro j d _ l ⟨rfl,_⟩;cases d<;>first|exact .fS|skip
 rename_i e _;simp only[];split
 .exact .oM (wE<|rI _)
 .apply sQ (.As λn=> .fC U);intro m f _;apply sQ (OY _);intro o _ _;apply sQ (.As λn=> .fC U);intro p g _;apply fD (GU e<|W8 f g<|fT.N _);exact λq a r _ i=> .fC (.kV i _ _)
def af2(a:Array Á)(t:Á)(v:Ã):fB P (ď a #[t] #[v]):=by
 cases v<;>first|exact jg _|skip
 rename_i k n;cases k<;>first|exact jg _|skip
 refine gp (rK t) λd=> ?_;cases d<;>first|exact jg _|skip
 repeat' (first|(with_reducible first|exact gF _|exact jg _|exact sT _|exact Hd _ _|exact rK _|exact wK _|exact Po _|refine gp ?_ λ_=> ?_)|split)
def Hk(t:Á)(a:Û)(c:Nat):Ę Ã:=
 if c≠0 then pure (Ö<|À a)else do
  if(<-cA a.block).isSome then pure (Ö<|À a)
  else pure (Ö<|À ⟨<-ei (.view a<|<-ŧ t),0,ë⟩)
def af3(g:Array Á)(t:Á)(j:fh Y x v):kL P fh Y (ĝ g t #[x]) (ĝ g t #[v]):=by
 cases j<;>first|exact .gq .fS|exact .gq (.fC .lT)|skip
 rename_i a f h n c;show kL P fh Y (Hk t a c) (Hk t f c);unfold Hk;by_cases i:c≠0
 .simp only[if_pos i];exact .gq (.fC (.j2 h))
 .simp only[if_neg i];apply lh (Kw h.1);rintro l b m o ⟨rfl,rfl⟩;simp only[Option.isSome_none,Å,if_false];refine lh (V0:=λ_ a f=>a=f) ?_ ?_
  .unfold ŧ;refine fD (jf t) ?_;rintro k d _ p ⟨rfl,_⟩;cases d<;>first|exact .fS|exact .fC U
  .rintro k e _ _ rfl;exact .Ek trivial
def af4(b:Array Á)(t:Á)(x:Ã):fB P (ĝ b t #[x]):=by
 cases x<;>first|exact jg _|skip
 rename_i p n c;cases p with
 |none=>exact gF _
 |some a=>
  show fB P (Hk t a c);unfold Hk;repeat' (first|(with_reducible first|exact gF _|exact jg _|exact KD _|exact KH _|refine gp ?_ (λ_=> ?_)|refine KB _ ?_)|split|(intro _ _ h;cases h;done))
def af5{c:Array Á}(d:o.op=σ {callee:=Ĥ bC,args:=#[qQ],argTypes:=c})(e:∀y∈o.op.operands,mE X y):mQ P X b o:=by refine Ew (λa=>ĝ c o.type #[a qQ]) (λa=> ?_) (λY a f _ _ _ h=>af3 _ _<|h qQ<|by rw[d];simp[Ê,ú]) (λa=>af4 _ _ _) e;unfold î;rw[d];simp only[þ,Ē,ė,pure_bind,Ú,ä,æ]
end
section
variable{Y:fl}{f:Nat->Prop}{g:â->Prop}{α:Type}
def W9(h:ia Y a p):fE P ia Y (Μ a) (Μ p):=by unfold Μ;apply fD (Kw h.1);rintro c x d b ⟨rfl,rfl⟩;exact .fC (h.r b)
def af6{r:Nat}(h:Y r i):fE P (λ_ c q=>∃n a,c=À n/\q=À a/\n<=a) Y (dG r) (dG i):=.vi h λ_ n a c=> .fC ⟨n,a,U,U,c.elim (λq=>by omega) λq=>q.1⟩
def Xa(h:ia Y a p)(t:Á)(n:Nat):fE P (λ_ b e=>b=È->e=È) Y (ĉ a t n) (ĉ p t n):=by unfold ĉ;apply fD rG;rintro i b j c ⟨d,f⟩;rw[d,f];refine .vi (c.1 _ _ h.1) λe m k g=> ?_;rw[h.2.1];exact .fC λq=>Vz (aj<|g.elim (λq=>by omega) λq=>q.1) q
def af7(a:Û):fB P (Μ a):=by unfold Μ;repeat' (first|(with_reducible first|exact gF _|exact qR|exact tR _|exact KH _|refine gp ?_ (λ_=> ?_)|refine nu _ ?_)|split|rfl)
theorem af8(r:Nat):fB P (dG r):=by unfold dG;grind [gF,tR,VR,gp]
theorem Xb(a:Û)(t:Á)(n:Nat):fB P (ĉ a t n):=by unfold ĉ;grind [gF,qR,tR,gp]
theorem af9(l:P.underlying e=À (ò t))(m:P.underlying T=À Ė)(o:fh Y x v):kL P fh Y (ü e T x) (ü e T v):=by
 unfold ü;refine lh (jf e) ?_;rintro z B _ p ⟨rfl,f⟩;rw[l]at f;injection f with f;subst f;refine lh (jf T) ?_;rintro C D _ q ⟨rfl,g⟩;rw[m]at g;injection g with g;subst g;have r:=(o.fO p).fO q;cases r<;>first|exact .gq .fS|exact .gq (.fC .lT)|skip
 rename_i a E h;refine lh (W9 h) ?_;intro F b j G i;refine lh (af6 i.1) ?_;rintro H c I u ⟨w,J,rfl,rfl,K⟩;refine lh (np t) ?_;rintro L n _ y ⟨rfl,_⟩;rw[i.2.1,i.2.2];simp only[];by_cases k:(decide (n=0)||(decide (j.off≥w)&&j.spot.isNone))=È
 .rw[if_pos k];exact .Ek trivial
 .rw[if_neg k,if_neg]
  .exact .gq (.fC (.j2 ((i.r u).r y)))
  .grind
theorem aga{d:Á}(l:P.underlying T=À Ė)(o:P.underlying d=À (ò t))(q:fh Y x z):kL P fh Y (ü T d x) (ü T d z):=by
 unfold ü;refine lh (jf T) ?_;rintro F G _ r ⟨rfl,f⟩;rw[l]at f;injection f with f;subst f;refine lh (jf d) ?_;rintro H I _ w ⟨rfl,g⟩;rw[o]at g;injection g with g;subst g;have y:=(q.fO r).fO w;cases y<;>first|exact .gq .fS|exact .gq (.fC .lT)|skip
 rename_i a J h;refine lh (W9 h) ?_;intro K b B L i;refine lh (np t) ?_;rintro M n _ j ⟨rfl,_⟩;refine lh (Xa (i.r j) t 1) ?_;rintro C v N D O;have Q:kL P fh C (pure<|Ö<|À b) (pure<|Ö<|À B):=.gq (.fC (.j2 ((i.r j).r D)));by_cases E:(decide (n=0)||v)=È
 .grind
 .rw[if_neg E];refine .El λu x S c=> ?_;rw[Ä]at c;simp only[cG,å,É]at c;cases k:u.shape? b.block with
  |none=>rw[k]at c;cases c
  |some p=>
   let⟨e,m⟩:=p;rw[k]at c;simp only[Ä,Ĉ,É]at c;split at c
   .cases c
   .cases c;exact⟨u.heap.size,.view b t,á _,fi,trivial⟩
def agb(h:(P.underlying e=À (ò t)/\P.underlying T=À Ė)\/(P.underlying e=À Ė/\P.underlying T=À (ò t)))(x:Ã):fB P (ü e T x):=by
 unfold ü;rcases h with⟨b,c⟩|⟨b,c⟩<;>refine wL b<|wL c ?_;all_goals
  cases x<;>first|exact jg _|skip
  rename_i p;cases p with
  |none=>exact gF _
  |some a=>
   repeat' (first|(with_reducible first|exact af7 _|exact af8 _|exact Xb _ _ _|exact gF _|exact jg _|exact qR|exact tR _|exact tT _|refine gp ?_ (λ_=> ?_)|refine nu _ ?_|refine KB _ ?_)|split|(intro _ _ h;cases h;done)|rfl)
theorem Xc(b:o.op=aY e T qQ)(h:(P.underlying e=À (ò t)/\P.underlying T=À Ė)\/(P.underlying e=À Ė/\P.underlying T=À (ò t)))(c:∀y∈o.op.operands,mE X y):mQ P X g o:=by
 refine Ew (λa=>Ş e T<|a qQ) (λa=> ?_) (λY a i _ _ _ f=> ?_) (λa=> ?_) c
 .unfold î;rw[b]
 .unfold Ş;apply lh (jf e);rintro j k _ a ⟨rfl,l⟩;apply lh (jf T);rintro m n _ i ⟨rfl,p⟩;have q:=((f qQ<|by rw[b];simp[Ê]).fO a).fO i;grind [af9,aga]
 .unfold Ş;grind [agb,wL]
theorem agc(a:Û)(n:Nat):oN P (freeze a n):=by
 intro u f;refine⟨λx b e=> ?_,λz b e=>by cases e⟩;cases e;unfold Ĝ;split
 .exact Kd.fW u
 .refine VM (λo d=> ?_) λo c e h=> ?_
  .cases o<;>first|exact d.elim|trivial
  .grind
def agd(a:Û)(n:Nat):fB P (freeze a n):=by
 refine⟨agc a n,λu T D=>⟨0,u.freeze a n,λx b e=> ?_⟩⟩;have c:∀T D,(World.tp u T D).freeze a n=World.tp (u.freeze a n) T D:=by intro T D;unfold Ĝ;split<;>rfl
 simp_all
def Xd:∀(n:Nat) {Y:fl} {a c:Û} (d:ByteArray),ia Y a c->fE P jv Y (ě a d n) (ě c d n)
 |0,_,_,_,_,_=> .fC U
 |n+1,Y,a,c,d,h=>by
  unfold ě;refine fD (Kt h) ?_;intro g v i e f;cases f<;>first|exact .fS|skip
  rename_i k b;cases k<;>first|exact .fS|exact Xd n _<|(h.r e).C 1
def Xe:∀(n:Nat) (a:Û) (b:ByteArray),fB P<|ě a b n
 |0,_,_=>gF _
 |n+1,a,b=>by
  unfold ě;refine gp (Hc _ _) λv=> ?_;split
  .exact Xe n _ _
  .exact jg _
def jI(pt:Á)(a:Û)(n:Nat):Ę ByteArray:=do
 if<-ĉ a (<-ŧ pt) n then ě a .empty n else unsupported (Ų "String: not so many bytes at ptr")
def agf(pt:Á)(h:ia Y a p)(n:Nat):fE P jv Y (jI pt a n) (jI pt p n):=by
 unfold jI;refine fD (V:=jv) ?_ ?_
 .unfold ŧ;refine fD (jf pt) ?_;rintro f d _ c ⟨rfl,_⟩;cases d<;>first|exact .fS|exact .fC U
 .rintro i e _ d rfl;apply fD (Xa (h.r d) e n);rintro f b j c g;cases b with
  |true=>rw[g U];exact Xd n _<|(h.r d).r c
  |false=>exact .fS
def agh[Aq P](F:jj Y f u w)(h:ia Y a p){pt:Á}(G:∀u l j,(ŧ pt).run P u=Ĭ l j->∃k,P.underlying l=À (Ρ k))(g:(jI pt a<|n+1).run P u=Ĭ B W):¬f p.block:=by
 intro H;let⟨c,L,e,M,N,r,O,Q,t,_⟩:=F.r _ _ h.1;let⟨_,_,_,_,o⟩:=t H;unfold jI at g;rw[Ä]at g;cases i:(ŧ pt).run P u with
 |halt z x=>rw[i]at g;cases g
 |ok l j=>
  have I:j=u:=by
   unfold ŧ at i;rw[Ä]at i;unfold ö at i;rw[Ä,Ĉ]at i;simp only[É]at i;cases D:P.underlying pt with
   |none=>rw[D]at i;cases i
   |some d=>
    rw[D]at i;cases d<;>cases i<;>rfl
  subst I;rw[i]at g;simp only[É]at g;rw[Ä]at g;have y:∃b,(ĉ a l<|n+1).run P j=Ĭ b j:=by unfold ĉ;rw[Ä,Ĉ];simp only[É];rw[Ä];simp only[cG,å,É];split<;>exact⟨_,U⟩
  rcases o with o|o;rotate_left
  .let⟨k,J⟩:=G _ _ _ i;have K:(ĉ a l<|n+1).run P j=Ĭ Â j:=by
    unfold ĉ;rw[Ä,Ĉ];simp only[É];rw[Ä];simp only[cG,å,É];have t:j.shape? a.block=À (e,c.size):=by simp[ζ,r]
    rw[t];simp only[Nat.div_eq_of_lt<|Aq.lt e c.size o,aea J];rfl
   rw[K]at g;cases g
  let⟨b,y⟩:=y;rw[y]at g;simp only[É]at g;split at g
  .unfold ě at g;rw[Ä]at g;simp only[bq,å]at g;cases C:j.cell? a with
   |none=>
    rw[C]at g;simp only[ŗ,r]at g;cases g
   |some v=>
    rw[C]at g;simp only[É]at g;have q:=C;rw[Au r]at q;cases E:a.spot with
    |some x=>rw[E]at q;cases q
    |none=>
     rw[E]at q;have:=o _ _ (by simpa using q);cases v<;>first|(cases g;done)|skip
     rename_i k m;cases k<;>first|(cases g;done)|cases this
  .cases g
end
section
variable{Y:fl}{d:Nat->Prop}{f:â->Prop}{α:Type}
def yC(a:Á)(p:Option Û)(n:Int):Ę Ã:=í #[a] a #[Ö p,ċ Þ n]
def yD(pt a t:Á)(p:Option Û)(k:ÿ)(n:Int):í #[pt,a] t #[Ö p,ċ k n]=yC pt p n:=by cases p<;>rfl
section
variable{pt:Á}{p:Option Û}
def Xf(a:h<0):∃c,∃k:PUnit->Ę Ã,yC pt p h=(runtimePanic c>>=k):=⟨_,_,if_pos a⟩
def Xg(a:¬h<0)(b:h>Þ.max):∃c,yC pt p h=unsupported (Ų c):=⟨_,(if_neg a).trans<|if_pos b⟩
def PV(a:¬h<0)(b:¬h>Þ.max)(c:h=0):yC pt p h=pure (Į .empty):=by cases p<;>exact(if_neg a).trans<|(if_neg b).trans<|if_pos c
def agi(a:¬h<0)(b:¬h>Þ.max)(d:¬h=0):∃c,yC pt ë h=runtimePanic c:=⟨_,(if_neg a).trans<|(if_neg b).trans<|if_neg d⟩
end
def Xh(pt:Á)(a:Û)(c:¬h<0)(d:¬h>Þ.max)(e:¬h=0): yC pt (À a) h=(jI pt a h.toNat>>=λs=>freeze a h.toNat>>=λ_=>pure<|Į s):=by refine((if_neg c).trans<|(if_neg d).trans<|if_neg e).trans ?_;unfold jI;show _=é (é _ _) _;rw[ť];congr 1;funext et;show é _ _=é (é _ _) _;rw[ť];congr 1;funext b;cases b<;>rfl
def agj(pt:Á)(p:Option Û)(n:Int):fB P (yC pt p n):=by cases p<;>show fB P (if n<0 then _ else _)<;>repeat' (first|(with_reducible first|exact Xb _ _ _|exact Xe _ _ _|exact agd _ _|exact gF _|exact KD _|exact wK _|refine gp ?_ (λ_=> ?_)|refine nu _ ?_)|split|rfl)
theorem agk(_hW:jj Y d u w):∀(n:Nat) {a i:Û} {j s:ByteArray},ia Y a i->a.spot=ë->(ě a j n).run P u=Ĭ s W->∀c e f,u.heap[a.block]?=À (đ c e f)->a.off<=c.size->a.off+n<=c.size:=by
 intro n
 induction n with
 |zero=>intro a i j s _ _ _ c e f _ r;exact r
 |succ n t=>
  intro a i j s h p b c e f l _;unfold ě at b;rw[Ä]at b;simp only[bq,å]at b;cases o:u.cell? a with
  |none=>
   rw[o]at b;simp only[ŗ,l]at b;cases b
  |some v=>
   rw[o]at b;simp only[É]at b;have q:=o;rw[Au l,p]at q;have y:=(Ë.1<|by simpa using q).1;cases v<;>first|(cases b;done)|skip
   rename_i k m;cases k<;>first|(cases b;done)|skip
   have g:a.add 1={a with off:=a.off+1}:=by unfold Addr.add;grind
   have x:=h.C 1;have:=t x (by rwa[g]) b c e f (by rwa[g]) (by rw[g];simp only;omega);rw[g]at this;simp only at this;omega
end
section
variable{Y:fl}{g:Nat->Prop}{r:â->Prop}{α:Type}
def PW(pt a t:Á)(p:Option Û)(y:Ã):í #[pt,a] t #[Ö p,y]=(dK y>>=λn=>yC pt p n):=by cases p<;>rfl
def Xi:∀(n:Nat) {a:Û} {f s:ByteArray} {u c:Æ},(ě a f n).run P u=Ĭ s c->c=u
 |0,_,_,_,_,_,h=>by cases h;rfl
 |n+1,a,f,s,u,c,h=>by
  unfold ě at h;rw[Ä]at h;have g:∀v b,(bq a).run P u=Ĭ v b->b=u:=by
   intro v b e;simp only[bq,å]at e;split at e
   .cases e;rfl
   .split at e<;>cases e;rfl
  cases d:(bq a).run P u with
  |halt z w=>rw[d]at h;cases h
  |ok v b=>
   have:=g v b d;subst this;rw[d]at h;simp only[É]at h;cases v<;>first|(cases h;done)|skip
   rename_i k m;cases k<;>first|(cases h;done)|exact Xi n h
def agl{pt:Á}(c:(jI pt a n).run P u=Ĭ B w):w=u/\(ě a .empty n).run P u=Ĭ B u:=by
 unfold jI at c;rw[Ä]at c;cases e:(ŧ pt).run P u with
 |halt z x=>rw[e]at c;cases c
 |ok z x=>
  have f:x=u:=by
   unfold ŧ at e;rw[Ä]at e;unfold ö at e;rw[Ä,Ĉ]at e;simp only[É]at e;cases b:P.underlying pt with
   |none=>rw[b]at e;cases e
   |some d=>
    rw[b]at e;cases d<;>cases e<;>rfl
  subst f;rw[e]at c;simp only[É]at c;rw[Ä]at c;have d:∃b,(ĉ a z n).run P x=Ĭ b x:=by unfold ĉ;rw[Ä,Ĉ];simp only[É];rw[Ä];simp only[cG,å,É];split<;>exact⟨_,U⟩
  let⟨b,d⟩:=d;rw[d]at c;simp only[É]at c;split at c
  .have:=Xi n c;subst this;exact⟨U,c⟩
  .cases c
def KX(P:Ø)(t:Á):Bool:=match P.underlying t with
 |some (ò e)=>(match P.underlying e with|some (Ρ _)=>È|_=>Â)
 |_=>Â
theorem agm{P:Ø}{pt:Á}(h:KX P pt=È):∀u b c,(ŧ pt).run P u=Ĭ b c->∃k,P.underlying b=À (Ρ k):=by
 intro u b c a;unfold ŧ ö at a;rw[Ä,Ä,Ĉ]at a;simp only[É]at a;unfold KX at h;split at h
 .rename_i e d;rw[d]at a;cases a;grind
 .cases h
def agn[Aq P]{y:Ù}{pt:Á}(W:o.op=σ {callee:=Ĥ dj,args:=#[qQ,y],argTypes:=#[pt,T]})(hpt:KX P pt=È)(KY:∀z∈o.op.operands,mE X z):mQ P X r o:=by
 have he:∀M:Ù->Ã,î M o=(í #[pt,T] o.type #[M qQ,M y]>>=λv=>pure<|ñ v):=by intro M;unfold î;rw[W];simp only[þ,Ē,ė,pure_bind,Ú,ä,æ]
 have N:∀v w:Ã,fB P (í #[pt,T] o.type #[v,w]):=by
  intro v w;cases v<;>first|exact jg _|skip
  rw[PW];exact gp (He _) λn=>agj _ _ _
 have hk:∀(a:bP) (u:Æ) (n:ξ) (C:Æ),(î a.eval o).run P u=Ĭ n C->∃v,n=ñ v:=by
  intro a u n C b;rw[he,Ä]at b;cases O:(í #[pt,T] o.type #[a.eval qQ,a.eval y]).run P u with
  |ok v w=>rw[O]at b;cases b;exact⟨v,U⟩
  |halt z w=>rw[O]at b;cases b
 refine⟨?_,λa=>by rw[he];exact lW<|N _ _,λa u n C b=>Ç<|hk a u n C b,λa u f c C b=>by let⟨v,e⟩:=hk a u _ C b;cases e⟩;intro Y g t t' u w hz hb hG ht J hl z C b hc;have hx:=wV hG ht (KY qQ<|by rw[W];simp[Ê,ú]);have Q:=wV hG ht (KY y<|by rw[W];simp[Ê,ú]);rw[he]at b|-;generalize ç ⟨t,[]⟩ qQ=v at hx b;generalize ç ⟨t',[]⟩ qQ=v' at hx|-;generalize ç ⟨t,[]⟩ y=l at Q b;generalize ç ⟨t',[]⟩ y=l' at Q|-;have E:fE P fh Y (í #[pt,T] o.type #[v,l]) (í #[pt,T] o.type #[v',l'])->∃(K:fl) (x':ξ) (w':Æ) (S:Array Ă),Y.r K/\(∀i j,K i j->Y i j\/(u.heap.size<=i/\w.heap.size<=j))/\(í #[pt,T] o.type #[v',l']>>=λv=>pure (ñ v):Ę ξ).runT P w #[]=(Ĭ x' w',#[]++S)/\pv K z x'/\jj K g C w'/\nU Y g w w'/\(∀e∈S,At K g e)/\u.heap.size<=C.heap.size:= λh=>(mP h).gl J hl b #[];cases hx with
 |lT=>
  apply E;rw[PW,PW];apply fD (OV Q);rintro Xj n _ _ rfl;by_cases B:n<0
  .let⟨c,k,q⟩:=Xf (pt:=pt) (p:=ë) B;rw[q];exact .oM (wE<|rI _)
  .by_cases d:n>Þ.max
   .let⟨c,q⟩:=Xg (pt:=pt) (p:=ë) B d;rw[q];exact .fS
   .by_cases D:n=0
    .rw[PV B d D];exact .fC (.kK _)
    .let⟨c,q⟩:=agi (pt:=pt) B d D;rwa[q]
 |j2 F=>
  rename_i a a';cases Q with
  |iE k n=>
   by_cases B:n<0
   .apply E;let⟨c,k,q⟩:=Xf (pt:=pt) (p:=À a) B;rw[yD,yD,q];exact .oM (wE<|rI _)
   .by_cases d:n>Þ.max
    .apply E;let⟨c,q⟩:=Xg (pt:=pt) (p:=À a) B d;rw[yD,yD,q];exact .fS
    .by_cases D:n=0
     .apply E;rw[yD,yD,PV B d D,PV B d D];exact .fC (.kK _)
     .rw[yD,Xh pt a B d D]at b;rw[yD,Xh pt a' B d D];obtain⟨m,O⟩:∃m,n.toNat=m+1:=⟨n.toNat-1,Z⟩;rw[O]at b|-;cases L:(jI pt a<|m+1).run P u with
      |halt z w=>
       rw[Ä,Ä,L]at b;cases b
      |ok s u1=>
       obtain⟨rfl,Xk⟩:=agl L;rw[Ä,Ä,L]at b;have AH:=b;cases AH;let⟨Xj,s',w1,es,k1,k2,k3,k4,k5,G,k7,k8⟩:=(agf pt F<|m+1).gl J hl L #[];have S:=k4;subst S;let⟨c,c',e,fr,wF,V,hw,sW,_⟩:=J.r _ _ F.1;have Xl:a.spot=ë/\a.off<c.size:=by
        have H:=Xk;unfold ě at H;rw[Ä]at H;simp only[bq,å]at H;cases I:u1.cell? a with
        |none=>
         rw[I]at H;simp only[ŗ,V]at H;cases H
        |some v=>
         rw[Au V]at I;cases oQ:a.spot with
         |some qQ=>rw[oQ]at I;cases I
         |none=>rw[oQ]at I;exact⟨U,(Ë.1<|by simpa using I).1⟩
       have fits:∀c e fr,u1.heap[a.block]?=À (đ c e fr)->a.off+(m+1)<=c.size:=by intro c2 e2 qT d;rw[V]at d;injection d with d;injection d with q1 q2 q3;subst q1;exact agk J (m+1) F Xl.1 Xk c e fr V<|Nat.le_of_lt Xl.2
       refine⟨Xj,ñ<|Į s,w1.freeze a'<|m+1,es,k1,k2,?_,.nW (.kK s),k5.adw (F.r k1) (m+1) fits,?_,k7,by rw[Kr];exact á _⟩
       .show ì P (é (é _ _) _) w #[]=_;rw[Ñ,Ñ,k3];rfl
       .refine⟨by rw[Kr];exact G.r,ads.trans G.I,adt.trans G.M,OP.trans G.S,λj hj N=> ?_,λj hs hj=> ?_⟩
        .rw[Ks (λe=>N a.block<|by rw[<-e];exact F.1)];exact G.C j hj N
        .rw[Ks (λe=>(agh J F (agm hpt) L)<|by rwa[e])];exact G.N j hs hj
  |_=>exact E .fS
 |_=>exact E .fS
end
section
variable{Y:fl}{g:Nat->Prop}{i:â->Prop}{α:Type}
theorem agp(a:Û):fB P (bD a):=by unfold bD;grind [gF,tR,Pl,gp]
theorem agq(a b:Û):fB P (cV a b):=by unfold cV;grind [agp,gF,tR,gp]
def agr(a b:Û):fB P (Ż a b):=by unfold Ż;repeat' (first|(with_reducible first|exact agq _ _|exact gF _|exact sT _|exact Pl _|exact Wa _|refine gp ?_ (λ_=> ?_)|refine nu _ ?_)|split|rfl)
def Xm(h:P.underlying t=À (ò e))(x y:Ã):fB P (ù t x y):=by unfold ù Ć θ;refine wL h ?_;repeat' (first|(with_reducible first|exact agr _ _|exact gF _|exact jg _|exact sT _|exact tT _|refine gp ?_ λ_=> ?_)|contradiction|split)
def agt{a:Ĩ}(b:a=aL\/a=aX)(h:P.underlying t=À (ò e))(x y:Ã):fB P (Ÿ a t x y):=by
 have c:=Xm h x y;rcases b with rfl|rfl;all_goals
  unfold Ÿ;repeat' (first|(with_reducible first|exact Xm h _ _|exact gF _|exact jg _|exact Pq _ _ _ _|exact Wx _ _ _ _ _ _|exact Wy _ _ _|exact Pv _ _ _|refine gp ?_ λ_=> ?_)|contradiction|split)
def yE(u:Æ)(r:Nat):Prop:=∃c e a,u.heap[r]?=À (đ c e a)/\a.2<=c.size
def KZ(a:Û)(u:Æ)(b:Array Ă):(eW a).runT P u b=(Ĭ (u.frozen? a) u,b):=rfl
def K0{r:Nat}(h:u.heap[r]?=À (đ d e xJ))(a:Array Ă):(cG r).runT P u a=(Ĭ (À (e,d.size)) u,a):=by simp only[cG,ì,ζ,h]
def Xn(h:yE u a.block)(b:Array Ă):(bD a).runT P u b=(Ĭ (u.frozen? a) u,b):=by
 let⟨c,e,f,d,g⟩:=h;unfold bD;show ì P (é _ _) u b=_;rw[Ñ,KZ];cases i:u.frozen? a with
 |true=>rfl
 |false=>
  simp only[Å,if_false];show ì P (é _ _) u b=_;rw[Ñ,K0 d];simp only[];rw[KZ];have:u.frozen? {block:=a.block,off:=c.size}=Â:=by simp only[č,d];simp;omega
  rw[this]
def Xo(f:u.heap[a.block]?=À (đ d e xJ))(g:xJ.2<=d.size)(b:u.frozen? a=È):d.size≠0:=by simp only[č,f]at b;simp at b;omega
def agu(i:yE u a.block)(j:yE u p.block)(k:(u.frozen? a&&u.frozen? p)=Â)(g:Array Ă):(cV a p).runT P u g=(Ĭ Â u,g):=by
 have q:=i;have r:=j;let⟨c,e,w,l,s⟩:=q;let⟨d,f,x,m,t⟩:=r;unfold cV;show ì P (é _ _) u g=_;rw[Ñ,Xn i];simp only[];show ì P (é _ _) u g=_;rw[Ñ,Xn j];simp only[];show ì P (é (é _ _) _) u g=_;rw[Ñ,Ñ,K0 l];simp only[];show ì P (é (é _ _) _) u g=_;rw[Ñ,Ñ,K0 m];simp only[];congr 2;cases o:u.frozen? a with
 |true=>
  rw[o]at k;have h:u.frozen? p=Â:=by simpa using k
  have:=Xo l s o;simp only[h];cases v:c.size with
  |zero=>exact absurd v this
  |succ n=>rfl
 |false=>
  cases h:u.frozen? p with
  |true=>
   have:=Xo m t h;cases v:d.size with
   |zero=>exact absurd v this
   |succ n=>rfl
  |false=>rfl
def Xp(h:yE u a.block)(b:Array Ă):(br a).runT P u b=(Ĭ () u,b):=by let⟨c,e,f,d,g⟩:=h;unfold br cA;show ì P (é (é _ _) _) u b=_;rw[Ñ,Ñ,K0 d];rfl
def Xq(e:yE u a.block)(f:yE u p.block)(c:Array Ă):(Ż a p).runT P u c= if(a.block==p.block)=È then(Ĭ (a==p) u,c)else if(u.frozen? a&&u.frozen? p)=È then(cm (Ŋ .addressObserved) u,c)else(Ĭ Â u,c):=by
 unfold Ż;by_cases h:(a.block==p.block)=È
 .simp_all
 .rw[if_neg h,if_neg h];show ì P (é _ _) u c=_;rw[Ñ,KZ];simp only[];show ì P (é _ _) u c=_;rw[Ñ,KZ];simp only[];by_cases d:(u.frozen? a&&u.frozen? p)=È
  .simp_all
  .rw[if_neg d,if_neg d];show ì P (é _ _) u c=_;rw[Ñ,Xp e];simp only[];show ì P (é _ _) u c=_;rw[Ñ,Xp f];simp only[];show ì P (é _ _) u c=_;rw[Ñ,agu e f (by simpa using d)];rfl
end
section
variable{Y:fl}{g:Nat->Prop}{j:â->Prop}
def agv{d:dO}(h:P.underlying t=À d)(u:Æ)(a:Array Ă):(ö t).runT P u a=(Ĭ d u,a):=by unfold ö;simp_all
def agw(h:P.info? t=À zJ)(u:Æ)(a:Array Ă):(ŕ t).runT P u a=(Ĭ zJ.size u,a):=by
 unfold ŕ;show ì P (é _ _) u a=_;rw[Ñ];have:(ý t).runT P u a=(Ĭ zJ u,a):=by unfold ý;simp_all
 rw[this];rfl
theorem Xr(h:P.underlying t=À (ò e))(d:P.info? e=À zJ)(f:zJ.size≠0)(a b:Û)(u:Æ)(c:Array Ă):(ù t (Ö<|À a)<|Ö<|À b).runT P u c=(Ż a b).runT P u c:=by unfold ù Ć θ;show ì P (é _ _) u c=_;rw[Ñ,agv h];simp only[];show ì P (é _ _) u c=_;grind [Ñ,agw]
def iz(a:Ĩ)(r:Bool):Bool:=if a=aL then r else !r
def Xs{d:Ĩ}(k:d=aL\/d=aX)(h:P.underlying t=À (ò e))(g:P.info? e=À zJ)(j:zJ.size≠0)(x y:Ù)(a b:Û)(u:Æ)(c:Array Ă): ((Ζ d t x y (Ö<|À a) (Ö<|À b)>>=λ_=>Ÿ d t (Ö<|À a)<|Ö<|À b)>>=λv=>pure (ñ v):Ę ξ).runT P u c= match(Ż a b).runT P u c with
 |(Ĭ r u',f)=>(Ĭ (ñ<|Ň<|iz d r) u',f)
 |(cm z u',f)=>(cm z u',f):=by
 rcases k with rfl|rfl
 .show ì P (é (é (ù t (Ö<|À a)<|Ö<|À b) λr=>aU<|Ň r) λv=>aU<|ñ v) u c=_;rw[Ñ,Ñ,Xr h g j];cases(Ż a b).runT P u c with
  |mk r f=>cases r<;>rfl
 .show ì P (é (é (ù t (Ö<|À a)<|Ö<|À b) λr=>aU<|Ň !r) λv=>aU<|ñ v) u c=_;rw[Ñ,Ñ,Xr h g j];cases(Ż a b).runT P u c with
  |mk r f=>cases r<;>rfl
theorem agx{m:Ĩ}{r:Á}{y:Ù}(E:o.op=eb m t qQ y r)(H:m=aL\/m=aX)(h:P.underlying t=À (ò e))(T:P.info? e=À zJ)(V:zJ.size≠0)(I:∀z∈o.op.operands,mE X z):mQ P X j o:=by
 have J:∀B:Ù->Ã,î B o=((Ζ m t qQ y (B qQ) (B y)>>=λ_=>Ÿ m t (B qQ)<|B y)>>=λv=>pure<|ñ v):=by intro B;unfold î;rw[E]
 have W:∀(a:bP) (u:Æ) (n:ξ) (s:Æ),(î a.eval o).run P u=Ĭ n s->∃v,n=ñ v:=by
  intro a u n s k;rw[J,Ä]at k;cases C:(Ζ m t qQ y (a.eval qQ) (a.eval y)>>=λ_=>Ÿ m t (a.eval qQ)<|a.eval y).run P u with
  |ok v w=>rw[C]at k;cases k;exact⟨v,U⟩
  |halt z w=>rw[C]at k;cases k
 refine⟨?_,λa=> ?_,λa u n s k=>Ç<|W a u n s k,λa u f c s k=>by let⟨v,e⟩:=W a u _ s k;cases e⟩
 .intro Y g D Xt u w K hb L M p hl z s k hc;have N:=wV L M (I qQ<|by rw[E];simp[Ê]);have O:=wV L M (I y<|by rw[E];simp[Ê]);by_cases Q:nt (ç ⟨D,[]⟩ qQ)\/nt (ç ⟨D,[]⟩ y)
  .have hOk:kn P (ç ⟨D,[]⟩) o.op:=by
    rw[E];exact .Eo m t qQ y r λ_=>Î ⟨⟨e,h⟩,Q⟩
   exact(VJ K p.C hb (λf=>rfl) hOk λz K=>wV L M<|I z K).gl p hl k hc #[]
  .have n1:=λq=>Q<|Ç q;have n2:=λq=>Q<|Î q;rw[J]at k|-;generalize ç ⟨D,[]⟩ qQ=v at N k n1;generalize ç ⟨Xt,[]⟩ qQ=v' at N|-;generalize ç ⟨D,[]⟩ y=l at O k n2;generalize ç ⟨Xt,[]⟩ y=l' at O|-;cases N<;>first|exact absurd trivial n1|skip
   cases O<;>first|exact absurd trivial n2|skip
   rename_i a a' F b b' G;have fit:∀{c S:Û},ia Y c S->yE u c.block/\yE w S.block:=by intro c S hcc;let⟨d,d',e2,fr,wF,hu,hw,sW,p8,Ex,hfr⟩:=p.r _ _ hcc.1;refine⟨⟨d,e2,fr,hu,hfr⟩,d',e2,wF,hw,?_⟩;refine û ?_ sW.I;grind
   let⟨fa,fa'⟩:=fit F;let⟨fb,fb'⟩:=fit G;rw[<-ο P _ u #[],Xs H h T V,Xq fa fb]at k;rw[Xs H h T V,Xq fa' fb'];rw[<-(Kx p.C F G),<-(Vw p.C F G)];by_cases q:(a.block==b.block)=È
   .rw[if_pos q]at k|-;cases k;exact⟨Y,_,w,#[],fl.M _,λ_ _ q=>Ç q,U,.nW (.mD _),p,nU.fW _ _ _,λ_ C=>absurd C fi,á _⟩
   .rw[if_neg q]at k|-;by_cases q2:(u.frozen? a&&u.frozen? b)=È
    .grind
    .rw[if_neg q2]at k;have q3:¬(w.frozen? a'&&w.frozen? b')=È:=by
      intro q4;let⟨z1,z2⟩:=ß.1 q4;exact q2<|ß.2 ⟨p.G F z1,p.G G z2⟩
     rw[if_neg q3];cases k;exact⟨Y,_,w,#[],fl.M _,λ_ _ q=>Ç q,U,.nW (.mD _),p,nU.fW _ _ _,λ_ C=>absurd C fi,á _⟩
 .rw[J];exact lW<|gp (WC m t (λ_=>Î ⟨e,h⟩) qQ y _ _) λ_=>agt H h _ _
end
def PX(P:Ø)(s d:Á):Bool:=match P.underlying s,P.underlying d with
 |some (dy e),À ğ=>(match P.underlying e with|some (Ρ .u8)=>È|_=>Â)
 |some (ò _),À Ė=>È
 |some Ė,À (ò _)=>È
 |_,_=>Â
def PY(P:Ø)(t:Á):Bool:=match P.underlying t with
 |some (ò e)=>(match P.info? e with|some i=>i.size !=0|none=>Â)
 |_=>Â
def PZ(P:Ø)(b:â->Bool)(c:Callee)(a:List Ù)(d:List Á):Bool:=match c with
 |Ĥ .min=>a.length !=0
 |Ĥ bC=>a.length==1
 |Ĥ dj=>a.length==2&&(match d with|[t,_]=>KX P t|_=>Â)
 |cD (aZ f)=>b f&&a.length==1
 |_=>Â
def P0(P:Ø)(a:â->Bool):Op->Bool
 |cU _ _|.panic _=>È
 |eb c t _ _ _=>(c==aL||c==aX)&&PY P t
 |aY s d _=>PX P s d
 |σ c=>PZ P a c.callee c.args.toList c.argTypes.toList
 |_=>Â
def Ey(P:Ø)(a:Nat->Bool)(b c:â->Bool)(o:aI):Bool:=PU P a b o||(P0 P c o.op&&o.op.operands.all (wY a))
def Hl(P:Ø)(c:â->Bool):Prop:=∀f,c f=È->∃a e,P.funcs[f]?=À a/\(a.name== "runtime.NumGoroutine")=Â/\a.body.isNone=È/\Extern.findNext a=ë/\Extern.find a=À e/\
 (∀(Y:fl) (v b:Ã),fh Y v b->fE P fh Y (e #[v]) (e #[b]))/\∀v,fB P<|e #[v]
theorem K1[Aq P]{g:Nat->Bool}{k x:â->Bool}(C:Hl P x)(h:Ey P g k x o=È):mQ P (λj=>g j=È) (λf=>k f=È) o:=by
 rcases ũ.1 h with h|h
 .exact afI h
 .let⟨v,S⟩:=ß.1 h;have q:∀z∈o.op.operands,mE (λj=>g j=È) z:=by
   grind [Ŕ,KU,Ŏ]
  cases n:o.op with
  |makeInterface t y=>exact afJ n q
  |panic y=>exact afM n q
  |binOp w t a b r=>
   rw[n]at v;let⟨T,m⟩:=ß.1 (show((w==aL||w==aX)&&PY P t)=È from v);have D:w=aL\/w=aX:=by grind
   unfold PY at m;split at m
   .rename_i e E;split at m
    .rename_i i F;exact agx n D E F (by simpa using m) q
    .cases m
   .cases m
  |convert s d y=>
   rw[n]at v;have m:PX P s d=È:=v;unfold PX at m;split at m
   .rename_i e u p;split at m
    .rename_i G;exact afW n u p G q
    .cases m
   .rename_i t u p;exact Xc n (Ç ⟨u,p⟩) q
   .rename_i t u p;exact Xc n (Î ⟨u,p⟩) q
   .cases m
  |call c=>
   rw[n]at v;let⟨H,I,B⟩:=c;have m:PZ P x H I.toList B.toList=È:=v;unfold PZ at m;split at m
   .exact afS n q
   .obtain⟨y,rfl⟩:=KW m;exact af5 n q
   .let⟨u,p⟩:=ß.1 m;obtain⟨y,z,rfl⟩:=PQ u;let⟨l⟩:=B;match l,p with
    |[t1,t2],p=>exact agn n p q
   .rename_i f;let⟨u,p⟩:=ß.1 m;obtain⟨y,rfl⟩:=KW p;let⟨V,e,J,K,L,M,N,O,Q⟩:=C f u;exact afX n J K L M N O Q q
   .cases m
  |_=>rw[n]at v;simp[P0]at v
def nZ(P:Ø)(a:Nat->Bool)(b d:â->Bool):aF->Bool
 |.ret|eX|ep _|eZ _|.goto _=>È
 |.seq x y=>nZ P a b d x&&nZ P a b d y
 |bJ c x y=>wY a c&&nZ P a b d x&&nZ P a b d y
 |eu _ c|eY c|ew c=>nZ P a b d c
 |bZ _ c _=>c.all<|Ey P a b d
 |dD _=>È
 |_=>Â
def vr[Aq P]{g:Nat->Bool}{k x:â->Bool}(a:Hl P x):∀{c:aF},nZ P g k x c=È->kN P (λj=>g j=È) (λf=>k f=È) c
 |.ret,_=> .vm
 |eX,_=> .sR
 |ep l,_=> .wM l
 |eZ l,_=> .wR l
 |.goto l,_=> .wS l
 |.seq y z,h=>by let⟨f,i⟩:=ß.1 (show(nZ P g k x y&&nZ P g k x z)=È from h);exact .rL (vr a f) (vr a i)
 |bJ c y z,h=>by let⟨f,i⟩:=ß.1 (show(wY g c&&nZ P g k x y&&nZ P g k x z)=È from h);let⟨j,f⟩:=ß.1 f;exact .tU (KU j) (vr a f) (vr a i)
 |eu id c,h=> .rM id (vr a<|show nZ P g k x c=È from h)
 |eY c,h=> .wN (vr a<|show nZ P g k x c=È from h)
 |ew c,h=> .wP (vr a<|show nZ P g k x c=È from h)
 |bZ id ops d,h=> .tV id d λo f=>by obtain⟨i,j,rfl⟩:=Ŕ.1 f;exact K1 a<|Ŏ.1 (show ops.all (Ey P g k x)=È from h) i j
 |.rangeFunc _ _ _ _,h=>by simp[nZ]at h
 |dD w,_=> .nX w
end Go.Proofs.Y.Lift
namespace Go.Proofs.Y.fq
open Go Go.Conc Go.Proofs.Y.Lift
def qU(t:Ħ)(g:Nat)(l:dZ):Prop:=∀p a,Ġ t p=À a->a.loc=l->bN t g p
def pB(t:Ħ)(g:Nat)(l:dZ):Prop:=∀p a,Ġ t p=À a->a.loc=l->a.write=È->bN t g p
def qU.r{t:Ħ}{l:dZ}(h:qU t i l):pB t i l:=λp a b c _=>h p a b c
section
variable{t u:Ħ}{g:Nat}{l:dZ}
theorem mU{a:dU}(h:Ġ (t++u) i=À a):(i<t.size/\Ġ t i=À a)\/(t.size<=i/\∃x∈u,x.act.touch?=À a/\(t++u)[i]?=À x):=by
 let⟨x,c,d⟩:=dV h;rcases getElem?_append_cases c with⟨b,e⟩|⟨b,f⟩
 .exact Ç ⟨b,by rwa[touchAt_of e]⟩
 .grind
theorem qU.C(h:qU t g l)(j:∀c∈u,∀b,c.act.touch?=À b->b.loc=l->c.g=g):qU (t++u) g l:=by
 intro p a e f;rcases mU e with⟨_,d⟩|⟨_,c,d,k,i⟩
 .exact(h p a d f).app u
 .have:=bE i;grind
theorem pB.r(h:pB t g l)(k:∀c∈u,∀b,c.act.touch?=À b->b.loc=l->b.write=È->c.g=g):pB (t++u) g l:=by
 intro p a e f i;rcases mU e with⟨_,d⟩|⟨_,c,d,m,j⟩
 .exact(h p a d f i).app u
 .have:=bE j;grind
def qU.yt(h:∀p a,Ġ t p=À a->a.loc≠l):qU t g l:=λp a b c=>absurd c<|h p a b
theorem P1(h:∀c,¬eN c t)(l:∀d∈u,d.g=g)(m:∀d∈u,∀b,d.act.touch?=À b->(b.write=Â/\pB t g b.loc)\/qU t g b.loc\/(b.kind=Š/\∀p a,Ġ t p=À a->a.loc=b.loc->a.kind=.plain->bN t g p)):∀c,¬eN c (t++u):=by
 intro c;refine noRace_append (h c) l λi a f d n b o r=> ?_;let⟨j,v,e,w⟩:=r;rcases m d n b o with⟨s,k⟩|q|⟨s,k⟩
 .rcases e with e|e
  .exact k i a f j e
  .grind
 .exact q i a f j
 .grind
theorem AJ(f:∀c,¬eN c t)(r:∀d∈u,d.act.touch?=ë):∀c,¬eN c (t++u):=by
 intro c;rintro⟨i,j,g,⟨a,b,h,k,l⟩,m,n⟩;rcases mU k with⟨s,e⟩|⟨_,d,e,v,_⟩
 .rcases mU h with⟨o,p⟩|⟨o,_⟩
  .exact f c ⟨i,j,g,⟨a,b,p,e,l⟩,λq=>m<|eA u q,λq=>n<|eA u q⟩
  .omega
 .grind
end
structure e9 where
 O:Nat->Prop
 I:Nat->Prop
 r:Û->Prop
 N:Û->Prop
 K:Û->Prop
 d:Nat
 q:Prop
 w:Æ
def e9.M(l:e9):Nat->Prop:=λj=>l.O j\/l.I j
def e9.C(l:e9):Û->Prop:=λa=>l.r a\/l.N a
structure fF(l:e9)(w w₁:Æ):Prop where
 r:w.heap.size<=w₁.heap.size
 I:∀j,l.M j->w₁.heap[j]?=w.heap[j]?
 N:∀a,l.C a->w₁.cell? a=w.cell? a
 Y:∀a,l.C a->w₁.frozen? a=w.frozen? a
 S:∀a,l.K a->(w.cell? a).isSome=È->(w₁.cell? a).isSome=È
def fF.fW(l:e9)(w:Æ):fF l w w:=⟨á _,λ_ _=>rfl,λ_ _=>rfl,λ_ _=>rfl,λ_ _ h=>h⟩
def fF.fe{l:e9}{c:Æ}(h:fF l w u)(k:fF l u c):fF l w c:= ⟨û h.r k.r,λj d=>(k.I j d).trans<|h.I j d,λj d=>(k.N j d).trans<|h.N j d,λj d=>(k.Y j d).trans<|h.Y j d,λw e q=>k.S w e<|h.S w e q⟩
def kX(w:Æ)(b:Nat):Option (Nat×Nat):=match w.heap[b]? with
 |some (đ _ _ fr)=>À fr
 |_=>ë
def wZ{w':Æ}(h:w'.heap[b]?=w.heap[b]?):kX w' b=kX w b:=by unfold kX;rw[h]
theorem Xu(w:Æ)(a:Û):w.frozen? a=match kX w a.block with
 |some (lo,hi)=>decide (lo<=a.off)&&decide (a.off<hi)
 |none=>Â:=by
 unfold č kX;grind
def K2(h:kX u a.block=kX w a.block):u.frozen? a=w.frozen? a:=by rw[Xu,Xu,h]
def yF(l:e9)(e:Ă):Prop:=
 (∃a:Û,e.loc=Ā a/\(l.O a.block\/l.r a\/((l.I a.block\/l.N a)/\e.write=Â/\e.sync=Â)))\/e.loc=ž ε\/(∃f,e.loc=ž (.extern f))\/e.loc=ž cW\/e.loc=ž dH\/
 ∃a:Û,l.O a.block/\(e.loc=ž (.read a)\/e.loc=ž (.write a)\/e.loc=ž (Ŀ a)\/e.loc=ž (cX a))
structure mF(l l':e9)(w w':Æ)(es:Array Ă):Prop where
 C:w.heap.size<=w'.heap.size
 N:∀j,l'.O j->l.O j\/w.heap.size<=j
 fv:∀j,l'.O j->j<w'.heap.size
 rd:l'.I=l.I
 r:l'.r=l.r
 I:l'.N=l.N
 k:l'.K=l.K
 jV:∀j,j<w.heap.size->¬l.O j->(∀a:Û,a.block=j->¬l.r a)->w'.heap[j]?=w.heap[j]?
 M:∀a:Û,a.block<w.heap.size->¬l.O a.block->¬l.r a->w'.cell? a=w.cell? a
 S:∀a:Û,a.block<w.heap.size->¬l.O a.block->kX w' a.block=kX w a.block
 c:w'.os=w.os
 f:w'.output=w.output
 i:w'.tape=w.tape
 b:∀e∈es,yF l' e
 g:l'.d=ż l.d es
 q:l'.q=l.q
 h:l.q->w'=w/\(∀e∈es,e.mute=È)/\l'.O=l.O
 Y:l'.w=w'
structure P3(t:Ħ)(g:Nat)(l:e9):Prop where
 fj:∀a:Û,l.O a.block->qU t g (Ā a)
 rd:∀a:Û,l.I a.block->pB t g (Ā a)
 C:∀a:Û,l.r a->qU t g (Ā a)
 r:∀a:Û,l.N a->pB t g (Ā a)
theorem Xv{l:e9}{e:Ă}(h:yF l e){b:dU}(c:(ê e).touch?=À b):∃a:Û,b.loc=Ā a/\(l.O a.block\/l.r a\/((l.I a.block\/l.N a)/\b.write=Â)):=by
 let⟨k,i,j⟩:=e;rcases h with⟨a,g,d⟩|h|⟨f,h⟩|h|h|⟨a,g,d⟩
 .simp only at g d;subst g;have:(ê ⟨Ā a,i,j⟩).touch?=À ⟨Ā a,i,if j then Š else .plain⟩:=U;grind
 .simp only at h;subst h;simp[ê,Ą]at c
 .simp only at h;subst h;simp[ê,Ą]at c
 .simp only at h;subst h;simp[ê,Ą]at c
 .simp only at h;subst h;simp[ê,Ą]at c
 .simp only at d;rcases d with rfl|rfl|rfl|rfl<;>simp[ê,Ą]at c<;>subst c;all_goals grind
def agy{l:e9}(d:∀j,l.O j->j<i)(k:∀j,l.I j->j<i)(g:∀a:Û,l.C a->a.block<i){e:Ă}(h:yF l e):(ê e).low i:=by
 let⟨m,n,o⟩:=e;rcases h with⟨a,c,b⟩|h|⟨f,h⟩|h|h|⟨a,c,b⟩
 .simp only at c b;subst c;rcases b with h|h|⟨h|h,_⟩
  .exact d _ h
  .exact g _<|Ç h
  .exact k _ h
  .exact g _<|Î h
 .simp only at h;subst h;trivial
 .simp only at h;subst h;trivial
 .simp only at h;subst h;trivial
 .simp only at h;subst h;trivial
 .simp only at b;rcases b with rfl|rfl|rfl|rfl<;>exact d _ c
def Xw(B:Nat)(t:Ħ):Prop:=∀a∈t,a.act.low B
def Xx(h:Xw i qJ){a:dU}(g:Ġ qJ n=À a){x:Û}(d:a.loc=Ā x):x.block<i:=by
 let⟨f,j,b⟩:=dV g;have c:=h f<|Ý j;revert b c;cases f.act with
 |access e=>
  intro b c;simp only[Ą,Ν]at b;subst b;simp only at d;simp only[MemAct.low,d,Loc.low]at c;exact c
 |mark m=>
  intro b c;cases m<;>simp[Ą]at b;all_goals
   subst b;simp only[Loc.cell.injEq]at d;subst d;exact c
 |_=>intro b _;simp[Ą]at b
def ow{a:String}:∀op∈Í i F a V,op.g=i:=λop b=>by obtain⟨e,_,rfl⟩:=ï (op:=op) b;rfl
structure iT(B0:Nat)(Live:Nat->Prop)(Y:Nat->Prop)(lot:Nat->e9)(w:Æ)(t:Ħ):Prop where
 o:∀i j,Live i->Live j->i≠j->∀b,(lot i).O b->¬(lot j).M b
 h:∀i j,Live i->Live j->i≠j->∀a,(lot i).r a->¬(lot j).C a
 m:∀i,Live i->∀b,(lot i).O b->¬(lot i).I b
 g:∀i,Live i->∀a,(lot i).r a->¬(lot i).N a
 I:∀i,Live i->∀b,(lot i).M b->¬Y b
 e:∀i,Live i->∀a,(lot i).C a->Y a.block
 fv:∀i,Live i->∀b,(lot i).M b->b<w.heap.size
 N:∀b,Y b->b<w.heap.size
 r:∀i,Live i->fF (lot i) (lot i).w w
 S:∀i,Live i->P3 t i (lot i)
 f:∀i,Live i->π t i=(lot i).d
 l:∀said,¬eN said t
 q:Xw w.heap.size t
 s:∀p a c,Ġ t p=À a->a.loc=.obj c->a.kind=.plain->c<B0
 n:∀i,Live i->∀a,(lot i).K a->Y a.block/\∀k,Live k->¬(lot k).r a
def gu(lot:Nat->e9)(i:Nat)(l:e9):Nat->e9:=λk=>if k=i then l else lot k
def gW(a:Nat->e9)(i:Nat)(l:e9):gu a i l i=l:=if_pos U
def gH(a:Nat->e9)(l:e9)(h:k≠i):gu a i l k=a k:=if_neg h
section
variable{B0:Nat}{Live Y:Nat->Prop}{lot:Nat->e9}{w':Æ}{t u:Ħ}
def P4{g:Nat}(a:k≠g)(t:Ħ){u:Ħ}(b:∀c∈u,c.g=g):π (t++u) k=π t k:= Deaf_other t (g:=k) (g':=g) (Ċ a) _ b
def iT.at(h:iT B0 Live Y lot w t)(d:Nat):iT B0 Live Y lot (w.at d) t:= ⟨h.o,h.h,h.m,h.g,h.I,h.e,h.fv,h.N,λi a=>⟨(h.r i a).r,(h.r i a).I,(h.r i a).N,(h.r i a).Y,(h.r i a).S⟩,h.S,h.f,h.l,h.q,h.s,h.n⟩
def iT.agz(h:iT B0 Live Y lot w t)(r:Live i){s:e9}(l:mF (lot i) s w w' V)(E:â)(F:String): iT B0 Live Y (gu lot i s) w' (t++Í i E F V):=by
 have G:=l.N;have Q:∀b,s.M b->(lot i).M b\/w.heap.size<=b:=λb g=>g.elim (λq=>(G b q).imp Ç id) (λq=>Ç<|Î<|by rwa[<-l.rd]);have J:∀a,s.C a↔(lot i).C a:=λa=>by unfold e9.C;rw[l.r,l.I]
 have I:=λk f a d=>h.N _<|h.e k f a d;have L:∀k,Live k->k≠i->∀b,(lot k).M b->¬s.O b:=by
  intro k f y b g c;rcases G b c with q|q
  .exact h.o i k r f (Ċ y) b q g
  .have:=h.fv k f b g;omega
 have H:∀m∈Í i E F V,∀b,m.act.touch?=À b->∃a:Û,b.loc=Ā a/\(s.O a.block\/s.r a\/((s.I a.block\/s.N a)/\b.write=Â)):=by intro m o b g;obtain⟨e,N,rfl⟩:=ï o;exact Xv (l.b e N) g
 have T:∀a:Û,s.O a.block->qU t i (Ā a):=by
  intro a d;rcases G _ d with q|q
  .exact(h.S i r).fj a q
  .exact .yt λp x P n=>by have:=Xx h.q P n;omega
 have D:P3 t i s:=⟨T,λa d=>(h.S i r).rd a (by rwa[<-l.rd]),λa d=>(h.S i r).C a (by rwa[<-l.r]),λa d=>(h.S i r).r a<|by rwa[<-l.I]⟩;refine⟨?_,?_,?_,?_,?_,?_,?_,λb g=>Ô (h.N b g) l.C,?_,?_,?_,?_,?_,?_,?_⟩
 .intro k j f u y b g;by_cases c:k=i
  .subst c;rw[gW]at g;rw[gH lot _<|Ċ y];exact λq=>L j u (Ċ y) b q g
  .rw[gH lot _ c]at g;by_cases v:j=i
   .subst v;rw[gW];intro q;rcases Q b q with z|z
    .exact h.o k j f u y b g z
    .have:=h.fv k f b<|Ç g;omega
   .rw[gH lot _ v];exact h.o k j f u y b g
 .intro k j f u y a d;by_cases c:k=i
  .subst c;rw[gW,l.r]at d;rw[gH lot _<|Ċ y];exact h.h k j f u y a d
  .rw[gH lot _ c]at d;by_cases v:j=i
   .subst v;rw[gW,J];exact h.h k j f u y a d
   .rw[gH lot _ v];exact h.h k j f u y a d
 .intro k f b g;by_cases c:k=i
  .subst c;rw[gW]at g|-;rw[l.rd];rcases G b g with z|z
   .exact h.m k f b z
   .intro q;have:=h.fv k f b<|Î q;omega
  .rw[gH lot _ c]at g|-;exact h.m k f b g
 .intro k f a d;by_cases c:k=i
  .subst c;rw[gW]at d|-;rw[l.I];rw[l.r]at d;exact h.g k f a d
  .rw[gH lot _ c]at d|-;exact h.g k f a d
 .intro k f b g;by_cases c:k=i
  .subst c;rw[gW]at g;rcases Q b g with z|z
   .exact h.I k f b z
   .intro y;have:=h.N b y;omega
  .rw[gH lot _ c]at g;exact h.I k f b g
 .intro k f a d;by_cases c:k=i
  .subst c;rw[gW,J]at d;exact h.e k f a d
  .rw[gH lot _ c]at d;exact h.e k f a d
 .intro k f b g;by_cases c:k=i
  .subst c;rw[gW]at g;exact g.elim (l.fv b) λq=>Ô (h.fv k f b<|Î<|by rwa[<-l.rd]) l.C
  .rw[gH lot _ c]at g;exact Ô (h.fv k f b g) l.C
 .intro k f;by_cases c:k=i
  .subst c;rw[gW,l.Y];exact fF.fW _ _
  .rw[gH lot _ c];refine(h.r k f).fe ⟨l.C,λb g=>l.jV b (h.fv k f b g) (λq=>h.o i k r f (Ċ c) b q g) (λa d q=>h.I k f b g<|by rw[<-d];exact h.e i r a<|Ç q),λa d=>l.M a (I k f a d) (λq=>h.I i r _ (Ç q)<|h.e k f a d) λq=>h.h i k r f (Ċ c) a q d,λa d=>K2 (l.S a (I k f a d) λq=>h.I i r _ (Ç q)<|h.e k f a d),λa d q=> ?_⟩;let⟨y,v⟩:=h.n k f a d;rwa[l.M a (h.N _ y) (λq=>h.I i r _ (Ç q) y)<|v i r]
 .intro k f;by_cases c:k=i
  .subst c;rw[gW];exact⟨λa d=>(D.fj a d).C λm o _ _ _=>ow m o,λa d=>(D.rd a d).r λm o _ _ _ _=>ow m o,λa d=>(D.C a d).C λm o _ _ _=>ow m o,λa d=>(D.r a d).r λm o _ _ _ _=>ow m o⟩
  .rw[gH lot _ c];have W:∀a:Û,(lot k).O a.block->∀m∈Í i E F V,∀b,m.act.touch?=À b->b.loc=Ā a->False:=by
    intro a d m o b g n;let⟨x,y,v⟩:=H m o b g;rw[y]at n;injection n with n;subst n;rcases v with q|q|⟨q|q,_⟩
    .exact L k f c _ (Ç d) q
    .exact h.I k f _ (Ç d)<|h.e i r x<|Ç<|by rwa[<-l.r]
    .exact h.o k i f r c _ d<|Î<|by rwa[<-l.rd]
    .exact h.I k f _ (Ç d)<|h.e i r x<|Î<|by rwa[<-l.I]
   have X:∀a:Û,(lot k).I a.block->∀m∈Í i E F V,∀b,m.act.touch?=À b->b.loc=Ā a->b.write=È->False:=by
    intro a d m o b g n B;let⟨x,y,v⟩:=H m o b g;rw[y]at n;injection n with n;subst n;rcases v with q|q|⟨_,q⟩
    .exact L k f c _ (Î d) q
    .exact h.I k f _ (Î d)<|h.e i r x<|Ç<|by rwa[<-l.r]
    .rw[q]at B;cases B
   have S:∀a:Û,(lot k).C a->∀m∈Í i E F V,∀b,m.act.touch?=À b->b.loc=Ā a->(s.I a.block\/s.N a)/\b.write=Â:=by
    intro a d m o b g n;let⟨x,y,v⟩:=H m o b g;rw[y]at n;injection n with n;subst n;rcases v with q|q|q
    .exfalso;rcases G _ q with z|z
     .exact h.I i r _ (Ç z)<|h.e k f x d
     .have:=I k f x d;omega
    .exact absurd d<|h.h i k r f (Ċ c) x<|by rwa[<-l.r]
    .exact q
   refine⟨λa d=>((h.S k f).fj a d).C λm o b g n=>(W a d m o b g n).elim,λa d=>((h.S k f).rd a d).r λm o b g n B=>(X a d m o b g n B).elim,λa d=>((h.S k f).C a d).C λm o b g n=> ?_,λa d=>((h.S k f).r a d).r λm o b g n B=> ?_⟩
   .exfalso;obtain⟨q|q,_⟩:=S a (Ç d) m o b g n
    .exact h.I i r _ (Î<|by rwa[<-l.rd])<|h.e k f a<|Ç d
    .exact h.h k i f r c a d<|Î<|by rwa[<-l.I]
   .have:=(S a (Î d) m o b g n).2;rw[this]at B;cases B
 .intro k f;by_cases c:k=i
  .subst c;rw[gW,l.g,Deaf_own,h.f k f]
  .rw[gH lot _ c,P4 c t ow];exact h.f k f
 .refine P1 h.l ow λm o b g=> ?_;let⟨a,y,v⟩:=H m o b g;rw[y];rcases v with q|q|⟨q,B⟩
  .exact Î<|Ç<|D.fj a q
  .exact Î<|Ç<|D.C a q
  .exact Ç ⟨B,q.elim (D.rd a)<|D.r a⟩
 .intro m o;rcases Ģ.1 o with q|q
  .exact MemAct.low_mono l.C<|h.q m q
  .obtain⟨e,N,rfl⟩:=ï q;refine agy l.fv (λj u=>Ô (h.fv i r j<|Î<|by rwa[<-l.rd]) l.C) (λa d=> ?_)<|l.b e N;rw[J]at d;exact Ô (I i r a d) l.C
 .intro p a c d n f;rcases mU d with⟨_,y⟩|⟨_,m,y,v,_⟩
  .exact h.s p a c y n f
  .let⟨x,P,_⟩:=H m y a v;rw[P]at n;cases n
 .intro k f a d;have y:∀j,(gu lot i s j).r=(lot j).r:=λj=>by
   by_cases e:j=i
   .subst e;rw[gW,l.r]
   .rw[gH lot _ e]
  have c:(gu lot i s k).K=(lot k).K:=by
   by_cases e:k=i
   .subst e;rw[gW,l.k]
   .rw[gH lot _ e]
  rw[c]at d;exact⟨(h.n k f a d).1,λj u=>by rw[y];exact(h.n k f a d).2 j u⟩
end
def Hm(Live Y:Nat->Prop)(d:Nat->e9)(b:dU):Prop:=(∃a:Û,b.loc=Ā a/\Y a.block/\∀k,Live k->¬(d k).C a)\/∃c,b.loc=.obj c/\Y c/\b.kind=Š
structure p9(Live Y:Nat->Prop)(lot:Nat->e9)(w w':Æ):Prop where
 r:w'.heap.size=w.heap.size
 jV:∀j,¬Y j->w'.heap[j]?=w.heap[j]?
 M:∀k,Live k->∀a,(lot k).C a->w'.cell? a=w.cell? a
 N:∀k,Live k->∀a,(lot k).C a->w'.frozen? a=w.frozen? a
 I:∀a,(w.cell? a).isSome=È->(w'.cell? a).isSome=È
def p9.fW(Live Y:Nat->Prop)(a:Nat->e9)(w:Æ):p9 Live Y a w w:=⟨U,λ_ _=>rfl,λ_ _ _ _=>rfl,λ_ _ _ _=>rfl,λ_ h=>h⟩
structure vt(w':Æ)(l l':e9):Prop where
 O:l'.O=l.O
 N:l'.I=l.I
 r:l'.r=l.r
 I:l'.N=l.N
 K:l'.K=l.K
 w:l'.w=l.w\/l'.w=w'
def vt.fW(w':Æ)(l:e9):vt w' l l:=⟨U,U,U,U,U,Ç U⟩
def vt.M{w':Æ}{l a:e9}(h:vt w' l a):a.M=l.M:=by unfold e9.M;rw[h.O,h.N]
def vt.C{w':Æ}{l a:e9}(h:vt w' l a):a.C=l.C:=by unfold e9.C;rw[h.r,h.I]
def fF.agA{l c:e9}(h:vt w l c)(r:fF l u W):fF c u W:= ⟨r.r,by rw[h.M];exact r.I,by rw[h.C];exact r.N,by rw[h.C];exact r.Y,by rw[h.K];exact r.S⟩
section
variable{Live Y:Nat->Prop}{lot o:Nat->e9}{w':Æ}{t u:Ħ}
def iT.G(h:iT n Live Y lot w t)(m:∀k,vt w' (lot k)<|o k)(s:p9 Live Y lot w w')(B:∀l∈u,∀b,l.act.touch?=À b->Hm Live Y lot b)(g:∀l∈u,l.act.low w.heap.size)(E:∀F,¬eN F (t++u))(G:∀k,Live k->π (t++u) k=(o k).d):iT n Live Y o w' (t++u) where
 o i j hi v lu b q:=by rw[(m j).M];exact h.o i j hi v lu b<|by rwa[<-(m i).O]
 h i j hi v lu a f:=by rw[(m j).C];exact h.h i j hi v lu a<|by rwa[<-(m i).r]
 m i hi b q:=by rw[(m i).N];exact h.m i hi b<|by rwa[<-(m i).O]
 g i hi a f:=by rw[(m i).I];exact h.g i hi a<|by rwa[<-(m i).r]
 I i hi b q:=h.I i hi b (by rwa[<-(m i).M]);e i hi a f:=h.e i hi a (by rwa[<-(m i).C]);fv i hi b q:=by rw[s.r];exact h.fv i hi b<|by rwa[<-(m i).M]
 N b q:=by rw[s.r];exact h.N b q
 r i hi:=by
  rcases(m i).w with e|e
  .rw[e];refine((h.r i hi).fe ⟨dI s.r.symm,λj v=>s.jV j<|h.I i hi j v,λa f=>s.M i hi a f,λa f=>s.N i hi a f,λa _=>s.I a⟩).agA<|m i
  .rw[e];exact fF.fW _ _
 S i hi:=by
  have z:∀a:Û,(lot i).M a.block->∀l∈u,∀b,l.act.touch?=À b->b.loc=Ā a->False:=by
   intro a f l e b q g;rcases B l e b q with⟨x,r,y,_⟩|⟨c,r,_⟩
   .rw[r]at g;injection g with g;subst g;exact h.I i hi _ f y
   .rw[r]at g;cases g
  have D:∀a:Û,(lot i).C a->∀l∈u,∀b,l.act.touch?=À b->b.loc=Ā a->False:=by
   intro a f l e b q g;rcases B l e b q with⟨x,r,_,y⟩|⟨c,r,_⟩
   .rw[r]at g;injection g with g;subst g;exact y i hi f
   .rw[r]at g;cases g
  exact⟨λa f=>((h.S i hi).fj a<|by rwa[<-(m i).O]).C λl e b q g=>(z a (Ç<|by rwa[<-(m i).O]) l e b q g).elim,λa f=>((h.S i hi).rd a<|by rwa[<-(m i).N]).r λl e b q g _=>(z a (Î<|by rwa[<-(m i).N]) l e b q g).elim,λa f=>((h.S i hi).C a<|by rwa[<-(m i).r]).C λl e b q g=>(D a (Ç<|by rwa[<-(m i).r]) l e b q g).elim,λa f=>((h.S i hi).r a<|by rwa[<-(m i).I]).r λl e b q g _=>(D a (Î<|by rwa[<-(m i).I]) l e b q g).elim⟩
 f:=G;l:=E;q l e:=by rw[s.r];exact(Ģ.1 e).elim (h.q l)<|g l
 s p a c f g z:=by
  rcases mU f with⟨_,r⟩|⟨_,l,r,y,_⟩
  .exact h.s p a c r g z
  .rcases B l r a y with⟨x,D,_⟩|⟨x,_,_,D⟩
   .rw[D]at g;cases g
   .rw[D]at z;cases z
 n i hi a f:=by rw[(m i).K]at f;exact⟨(h.n i hi a f).1,λk z=>by rw[(m k).r];exact(h.n i hi a f).2 k z⟩
end
structure gy(l:e9):Prop where
 Y:∀b,l.O b->¬l.I b
 S:∀a,l.r a->¬l.N a
 I:∀a,l.C a->¬l.M a.block
 fv:∀b,l.M b->b<l.w.heap.size
 r:∀a,l.C a->a.block<l.w.heap.size
 N:∀a,l.K a->¬l.M a.block/\a.block<l.w.heap.size/\¬l.r a
def iT.M{Live Y:Nat->Prop}{c:Nat->e9}(h:iT n Live Y c w qJ)(b:Live i):gy {c i with w:=w} where
 Y:=h.m i b;S:=h.g i b;I a ha hb:=h.I i b _ hb<|h.e i b a ha;fv:=h.fv i b;r a ha:=h.N _<|h.e i b a ha;N a ha:=⟨λq=>h.I i b _ q (h.n i b a ha).1,h.N _ (h.n i b a ha).1,(h.n i b a ha).2 i b⟩
abbrev Jd:=e9->Ó->Prop
inductive fg(P:Ø)(main:Bool)(Stop:Jd):Jd
 |fy {l:e9} {g:Ó} (h:∀w₁,fF l l.w w₁->Stop {l with w:=w₁} g):fg P main Stop l g
 |jO {l:e9} {g:Ó} (G':Æ->Ó) (W':Æ->Æ) (E':Æ->Array Ă) (L':Æ->e9) (iJ:g.status=Ð)
  (h:∀w₁,fF l l.w w₁->Ü P main g w₁=bj (G' w₁) (W' w₁) (E' w₁)) (hd:∀w₁,fF l l.w w₁->mF l (L' w₁) w₁ (W' w₁) (E' w₁))
  (ih:∀w₁,fF l l.w w₁->fg P main Stop (L' w₁) (G' w₁)):fg P main Stop l g
instance:Nonempty e9:=⟨⟨λ_=>False,λ_=>False,λ_=>False,λ_=>False,λ_=>False,0,False,default⟩⟩
instance:Nonempty (Goroutine×World×Array Event×e9):=⟨(default,default,#[],Classical.choice inferInstance)⟩
section
variable{main:Bool}{Stop m:Jd}
def fg.mk{l:e9}(i:g.status=Ð) (h:∀a,fF l l.w a->∃b c d e,Ü P main g a=bj b c d/\mF l e a c d/\fg P main Stop e b):fg P main Stop l g:=by
 let p:=λ(a:Æ) (x:Goroutine×World×Array Event×e9)=>Ü P main g a=bj x.1 x.2.1 x.2.2.1/\mF l x.2.2.2 a x.2.1 x.2.2.1/\fg P main Stop x.2.2.2 x.1
 have f:∀a,fF l l.w a->p a (Classical.epsilon<|p a):=λa r=>Classical.epsilon_spec (let⟨b,c,d,e,h⟩:=h a r;⟨(b,c,d,e),h⟩);exact .jO (λa=>(Classical.epsilon<|p a).1) (λa=>(Classical.epsilon<|p a).2.1) (λa=>(Classical.epsilon<|p a).2.2.1) (λa=>(Classical.epsilon<|p a).2.2.2) i (λa r=>(f a r).1) (λa r=>(f a r).2.1) λa r=>(f a r).2.2
def fg.fM{l:e9}{w₁:Æ}(h:fg P main Stop l g)(r:fF l l.w w₁):fg P main Stop {l with w:=w₁} g:=by
 have e:∀{a b:Æ},fF {l with w:=w₁} a b->fF l a b:=λq=>⟨q.r,q.I,q.N,q.Y,q.S⟩;cases h with
 |fy h=>exact .fy λc d=>h c<|r.fe<|e d
 |jO f i j m n h o p=>
  exact .jO f i j m n (λc d=>h c<|r.fe<|e d) (λc d=>let q:=o c<|r.fe<|e d;⟨q.C,q.N,q.fv,q.rd,q.r,q.I,q.k,q.jV,q.M,q.S,q.c,q.f,q.i,q.b,q.g,q.q,q.h,q.Y⟩) λc d=>p c<|r.fe<|e d
def fg.fO(a:∀l g,Stop l g->m l g){l:e9}(h:fg P main Stop l g):fg P main m l g:=by
 induction h with
 |fy h=>exact .fy λb r=>a _ _<|h b r
 |jO b r c d e h f _ i=>exact .jO b r c d e h f i
def fg.fe{l:e9}(h:fg P main (fg P main Stop) l g):fg P main Stop l g:=by
 induction h with
 |fy h=>exact h _<|fF.fW _ _
 |jO a b c d e h f _ i=>exact .jO a b c d e h f i
def fg.lE(a:∀l g,Stop l g->fg P main m l g){l:e9}(h:fg P main Stop l g):fg P main m l g:=(h.fO a).fe
end
inductive gw where
 |fy:gw
 |jO (k:Æ->gw):gw
def Xy(x:gw):gw->Prop
 |.fy=>False
 |.jO k=>∃w,x=k w
def Xz:WellFounded Xy:=⟨λa=>by
 induction a with
 |fy=>exact⟨_,λy h=>h.elim⟩
 |jO k b=>exact⟨_,λy ⟨w,h⟩=>h▸b w⟩⟩
def lj(P:Ø)(b:Bool)(c:Jd):gw->Jd
 |.fy,l,g=>∀a,fF l l.w a->c {l with w:=a} g
 |.jO k,l,g=>g.status=Ð/\∀a,fF l l.w a->∃d e f h,Ü P b g a=bj d e f/\mF l h a e f/\lj P b c (k a) h d
section
variable{main:Bool}{Stop:Jd}
theorem jo{l:e9}(h:fg P main Stop l g):∃tr,lj P main Stop tr l g:=by
 induction h with
 |fy h=>exact⟨.fy,h⟩
 |@jO l g G' W' E' L' iJ h hd _ ih=>
  have b:∀a,∃tr,fF l l.w a->lj P main Stop tr (L' a) (G' a):=by
   intro a;by_cases r:fF l l.w a
   .grind
   .exact⟨.fy,λq=>absurd q r⟩
  refine⟨.jO λa=>Classical.choose<|b a,iJ,λa r=>⟨G' a,W' a,E' a,L' a,h a r,hd a r,Classical.choose_spec (b a) r⟩⟩
end
theorem agB{l:e9}{b:Nat->Prop}(d:∀j,X j->l.O j)(f:∀j,b j->l.I j){e:Ă}(h:KP X b e):yF l e:=by
 rcases h with⟨a,c,g,i⟩|h|h
 .refine Ç ⟨a,c,?_⟩;grind
 .exact Î<|Ç h
 .exact Î<|Î<|Ç h
theorem agC{b:Nat->Prop}(h:∀e∈V,KP X b e)(d:Nat):ż d V=d:=by refine bF (λe c=> ?_) d;rcases h e c with⟨a,g,_⟩|h|⟨f,h⟩;all_goals grind
def gO{w':Æ}(h:w'.heap[a.block]?=w.heap[a.block]?):w'.cell? a=w.cell? a:=by unfold ħ;rw[h]
def w7(h:u.heap[a.block]?=w.heap[a.block]?):u.frozen? a=w.frozen? a:=by unfold č;rw[h]
def agD{t:(Nat->Prop)->Ó->Æ->Prop}{O:Nat->Prop}(h:vo P yQ X t O g w):∀l:e9,l.w=w->(∀j,O j->l.O j)->(∀j,X j->l.I j)->(∀j,l.O j->j<w.heap.size)->¬l.q-> fg P yQ (λa b=>∃f,t f b a.w/\(∀j,O j->f j)/\(∀j,f j->a.O j)/\(∀j,l.O j->a.O j)/\(∀j,a.O j->l.O j\/f j)/\(∀j,a.O j->l.O j\/w.heap.size<=j)/\a.I=l.I/\a.r=l.r/\a.N=l.N/\a.d=l.d/\a.q=l.q/\a.K=l.K) l g:=by
 induction h with
 |@fy O g w h=>
  intro l e i m _ _;refine .fy λb r=>⟨O,h b ⟨by rw[<-e];exact r.r,λj c=>by rw[r.I j (c.elim (λq=>Ç<|i j q) λq=>Î<|m j q),e]⟩,λ_ q=>q,i,λ_ q=>q,λ_ q=>Ç q,λ_ q=>Ç q,U,U,U,U,U,U⟩
 |@jO O g w G' W' E' f iJ h hd _ ih=>
  intro l e i m C u;refine .mk iJ λb r=> ?_;have n:yA (λj=>O j\/X j) w b:=⟨by rw[<-e];exact r.r,λj c=>by rw[r.I j (c.elim (λq=>Ç<|i j q) λq=>Î<|m j q),e]⟩;have D:=hd b n;have o:=n.r;have v:∀j,(l.O j\/f b j)->j<(W' b).heap.size:=λj c=>c.elim (λq=>Ô (C j q)<|û o D.r)<|D.fv j;have p:∀j,j<b.heap.size->¬l.O j->(W' b).heap[j]?=b.heap[j]?:=λj c k=>D.jV j c λq=>k<|i j q;refine⟨G' b,W' b,E' b,{l with O:=λj=>l.O j\/f b j,w:=W' b},h b n,⟨D.r,λj c=>c.elim Ç λq=>(D.I j q).imp (i j) id,v,U,U,U,U,λj c k _=>p j c k,λa s k _=>gO<|p _ s k,λa s k=>wZ<|p _ s k,D.N,D.S,D.Y,λx E=>agB (l:={l with O:=λj=>l.O j\/f b j,w:=W' b}) (λj q=>Î q) m<|D.C x E,(agC D.C _).symm,U,λq=>absurd q u,U⟩,?_⟩;have:=ih b n {l with O:=λj=>l.O j\/f b j,w:=W' b} U (λj q=>Î q) m v u;apply this.fO;rintro N Q ⟨F,G,B,H,I,J,L,M⟩;refine⟨F,G,λj q=>B j<|D.M j q,H,λj q=>I j<|Ç q,λj q=> ?_,λj q=> ?_,M⟩
  .rcases J j q with(z|z)|z
   .exact Ç z
   .exact Î<|B j z
   .exact Î z
  .rcases L j q with(z|z)|z
   .exact Ç z
   .rcases D.I j z with y|y
    .exact Ç<|i j y
    .exact Î<|û o y
   .exact Î<|û (û o D.r) z
def kB(a:Û):Ă:=⟨Ā a,Â,È⟩
def mV(a:Û):Ă:=⟨Ā a,È,È⟩
def jA(m:Mark):Ă:=⟨ž m,Â,È⟩
def fZ:Int:=4294967296
def Ez(c:Nat):Array Ă:=#[⟨.obj c,Â,È⟩,⟨.obj c,È,È⟩]
section
variable(P:Ø)(main:Bool)
def Hn(m:Mark)(N:Jd):Jd:=λl g=>g.status=Ð/\∃a,(∀b,Ü P main g b=bj a b #[jA m])/\fg P main N l a
def XA(a:Û)(N:Int->Jd):Jd:=λl g=>g.status=Ð/\∀v,∃c,(∀b:Æ,b.cell? a=À (ċ è v)->Ü P main g b=bj c b #[kB a])/\fg P main (N v) l c
def P5(a:Û)(d:Int)(N:Int->Jd):Jd:=λl g=>g.status=Ð/\∀v,∃c,(∀b:Æ,b.cell? a=À (ċ è v)->b.frozen? a=Â->Ü P main g b=bj c (b.setCell a<|ċ è<|è.wrap<|v+d) #[kB a,mV a])/\N (è.wrap<|v+d) l c
def agE(a:Û)(v:Int)(N:Jd):Jd:=λl g=>g.status=Ð/\∃c,(∀(b:Æ) (x:Int),b.cell? a=À (ċ è x)->b.frozen? a=Â->Ü P main g b=bj c (b.setCell a<|ċ è v) #[mV a])/\fg P main N l c
def agF(a:Û)(N:Jd):Jd:=λl g=>g.status=Ð/\g.offers=ë/\(∀b:Æ,b.cell? a=À (ċ ţ 0)->Ü P main g b=bj {g with status:=Ž} b #[])/\
 ∃c,(∀(b:Æ) (n:Int),n≠0->b.cell? a=À (ċ ţ n)->b.frozen? a=Â->Ü P main g b=bj c (b.setCell a<|ċ ţ<|n-1) (semEvents a))/\fg P main N l c
def agG(a:Û)(N:Jd):Jd:=λl g=>g.status=Ð/\mayWake P g=È/\∃c,c.status=Ð/\(∀(b:Æ) (n:Int),b.cell? a=À (ċ ţ n)->b.frozen? a=Â->Ü P main g b=bj c (b.setCell a<|ċ ţ<|ţ.wrap<|n+1) (semEvents a))/\N l c
def xa(c:Nat)(z:Ã)(N:Option Ã->Jd):Jd:=λl g=>g.status=Ð/\g.offers=ë/\(∀x,Ü P main g x=.comm g #[ψ c z] È (.recv È) x #[])/\
 ∀x:Option Ã,fg P main (N x) l {g with frame:=g.frame.finish (Ξ #[x.getD z,Ň x.isSome])}
def AK(c:Nat)(v:Ã)(N:Jd):Jd:=λl g=>g.status=Ð/\g.offers=ë/\(∀a,∃b,Ü P main g a=.comm g #[scase c v b] È .send a #[])/\fg P main N l {g with frame:=g.frame.finish ň}
def K3(c:Nat)(N:Jd):Jd:=λl g=>g.status=Ð/\mayWake P g=È/\∃a,a.status=Ð/\(∀(b:Æ) cap buf s r tm,b.heap[c]?=À (ay cap buf Â s r tm)->Ü P main g b=bj a (b.setChan c cap buf È s r tm) (Ez c))/\fg P main N l a
def pC(n:Nat):Jd:=λl g=>QuitsD P n l.d g
inductive SP where
 |gd (n:Nat)
 |ld (v:Int) (m:Nat)
def EA(a:Û)(B:Nat)(d e:Int->Jd)(p:SP):Jd:=λl g=>∃T:SP->Ó->Prop,T p g/\∀p g,T p g->g.status=Ð/\match p with
 |.gd (n+1)=>n+1<=B/\(T (.gd 0) g\/∀b,∃c,Ü P main g b=bj c b #[]/\T (.gd n) c)
 |.gd 0=>∀v,∃c,(∀b:Æ,b.cell? a=À (ċ è v)->Ü P main g b=bj c b #[kB a])/\(if 0<=v/\v<fZ then v<1000000->fg P main (d v) l c else(fZ<=v/\v<fZ*2147483648/\v%fZ<1000000)->∃m,m<=B/\T (.ld v m) c)
 |.ld v (m+1)=>fZ<=v/\m+1<=B/\(T (.ld v 0) g\/∀b,∃c,Ü P main g b=bj c b #[]/\T (.ld v m) c)
 |.ld v 0=>fZ<=v/\(∃c,(∀b:Æ,b.cell? a=À (ċ è v)->b.frozen? a=Â->Ü P main g b=bj c (b.setCell a<|ċ è<|è.wrap<|v+1) #[kB a,mV a])/\fg P main (e v) l c)/\
  ∃c,(∀(b:Æ) (x:Int),x≠v->b.cell? a=À (ċ è x)->b.frozen? a=Â->Ü P main g b=bj c b #[kB a])/\∃n,n<=B/\T (.gd n) c
end
section
variable{P:Ø}{main:Bool}
def K4{e f:Int->Jd}{p:SP}{l:e9}{w₁:Æ}(h:EA P main a i e f p l g)(r:fF l l.w w₁):EA P main a i e f p {l with w:=w₁} g:=by
 let⟨T,o,h⟩:=h;refine⟨T,o,λp g j=>⟨(h p g j).1,?_⟩⟩;have:=(h p g j).2;match p,this with
 |.gd (n+1),q=>exact q
 |.gd 0,q=>
  intro v;let⟨c,d,b⟩:=q v;refine⟨c,d,?_⟩;by_cases k:0<=v/\v<fZ
  .rw[if_pos k]at b|-;exact λq=>(b q).fM r
  .rw[if_neg k]at b|-;exact b
 |.ld v (m+1),q=>exact q
 |.ld v 0,⟨q0,⟨c,d,b⟩,q⟩=>exact⟨q0,⟨c,d,b.fM r⟩,q⟩
end
inductive iB where
 |no|iC|sX (c:Nat) (z:Ã)
inductive xb(g0:Ó):iB->Ó->Prop
 |gl {k:iB}:xb g0 k g0
 |n5 (h:g0.status=Ð) (ho:g0.offers=ë):xb g0 .iC {g0 with status:=Ž}
 |tX (c:Nat) (z:Ã) (h:g0.status=Ð):xb g0 (.sX c z) (Τ g0 #[ψ c z]<|.recv È)
 |nA (c:Nat) (z:Ã) (h:g0.status=Ð):xb g0 (.sX c z) {Τ g0 #[ψ c z] (.recv È)with status:=Ð}
section
variable{P:Ø}
theorem agH(h:g.status=Ð\/g.status=ĥ)(w:Æ):g.again w=g:=by unfold ω;grind
theorem P7{a o:Ó}(h:o.status=Ð\/o.status=ĥ):Ű P g a w o=o:=by unfold Ű;grind [agH]
def xb.Ho{g0 a b:Ó}{k:iB}(h:xb g0 k g)(d:g0.status=Ð\/g0.status=ĥ):xb g0 k (Ű P a b w g):=by
 cases h with
 |gl=>rw[P7 d];exact .gl
 |n5 h c=>
  unfold Ű;split
  .have:ω w {g0 with status:=Ž}=g0:=by
    let⟨z,e,st,f,i⟩:=g0;simp only at h c;subst h c;rfl
   rw[this];exact .gl
  .exact .n5 h c
 |tX c z h=>
  unfold Ű;split
  .unfold ω Τ;simp only[];split
   .exact .nA c z h
   .exact .tX c z h
  .exact .tX c z h
 |nA c z h=>
  rw[P7<|Ç U];exact .nA c z h
end
structure gP(P:Ø)(B0:Nat)(Y:Nat->Prop)(S:Nat->Jd)(tr:Nat->gw)(kp:Nat->iB)(lot:Nat->e9)(gs:Array Ó)(w:Æ)(t:Ħ):Prop where
 r:iT B0 (λi=>i<gs.size) Y lot w t
 C:∀i g,gs[i]?=À g->∃g0,lj P (i==0) (S i) (tr i) (lot i) g0/\xb g0 (kp i) g/\(g0.status=Ð\/g0.status=ĥ)/\(g=g0\/tr i=.fy)
 I:∀j,gs.size<=j->π t j=0
def fw{α:Type}(f:Nat->α)(i:Nat)(x:α):Nat->α:=λk=>if k=i then x else f k
def gE{α:Type}(f:Nat->α)(i:Nat)(x:α):fw f i x i=x:=if_pos U
def fG{α:Type}(f:Nat->α)(x:α)(h:k≠i):fw f i x k=f k:=if_neg h
section
variable{P:Ø}{B0:Nat}{Y:Nat->Prop}{S:Nat->Jd}{tr:Nat->gw}{kp:Nat->iB}{lot:Nat->e9}{gs:Array Ó}{w':Æ}{t:Ħ}{sl:Option (Nat×Nat)}
theorem P8{a:Ó}(b:gs[i]?=À g)(h:Ü P (i==0) g w=bj a w' V): ∃gs',dm P (ŀ gs w sl) i=(œ<|ŀ gs' w' sl,Í i g.frame.fn g.frame.place V)/\gs'.size=gs.size/\gs'[i]?=À a/\∀k,k≠i->gs'[k]?=gs[k]?.map (Ű P g a w'):=by refine⟨_,runT_crowd_go b h,fi,by simp[(Ë.1 b).1],λk c=> ?_⟩;grind
def gP.at(a:gP P B0 Y S tr kp lot gs w t)(d:Nat):gP P B0 Y S tr kp lot gs (w.at d) t:=⟨a.r.at d,a.C,a.I⟩
theorem gP.XB(f:gP P B0 Y S tr kp lot gs w t){a:Ó}{J:Jd}{T:gw}{K:iB}{d:e9}(h:gs[i]?=À g)(o:Ü P (i==0) g w=bj a w' V) (B:iT B0 (λi=>i<gs.size) Y (gu lot i d) w' (t++Í i g.frame.fn g.frame.place V)) (hF:lj P (i==0) J T d a) (p:a.status=Ð\/a.status=ĥ): ∃b,dm P (ŀ gs w sl) i=(œ<|ŀ b w' sl,Í i g.frame.fn g.frame.place V)/\b.size=gs.size/\b[i]?=À a/\(∀k,k≠i->b[k]?=gs[k]?.map (Ű P g a w'))/\ gP P B0 Y (fw S i J) (fw tr i T) (fw kp i K) (gu lot i d) b w' (t++Í i g.frame.fn g.frame.place V):=by
 obtain⟨b,q,r,l,m⟩:=P8 h o;have C:=(Ë.1 h).1;refine⟨b,q,r,l,m,?_,λk x c=> ?_,λj D=> ?_⟩
 .grind
 .by_cases e:k=i
  .subst e;rw[l]at c;obtain rfl:=ī c;rw[gE,gE,gE,gW];exact⟨a,hF,.gl,p,Ç U⟩
  .rw[m k e]at c;obtain⟨y,s,rfl⟩:=Ī.1 c;rw[fG S _ e,fG tr _ e,fG kp _ e,gH lot _ e];let⟨g0,u,v,n,z⟩:=f.C k y s;refine⟨g0,u,v.Ho n,n,z.imp (λe=> ?_) id⟩;grind [P7]
 .rw[P4 Z t ow];exact f.I j Z
def agI{J:Jd}{k:Æ->gw}{l:e9}(h:lj P yQ J (.jO k) l g):g.status=Ð:=h.1
def gP.fj(f:gP P B0 Y S tr kp lot gs w t){k:Æ->gw}(m:gs[i]?=À g)(n:tr i=.jO k)(s:∀l g,S i l g->g.status=Ð\/g.status=ĥ): ∃c w' d h,dm P (ŀ gs w sl) i=(œ<|ŀ c w' sl,Í i g.frame.fn g.frame.place d)/\c.size=gs.size/\(∃b,c[i]?=À b/\(b.status=Ð\/b.status=ĥ))/\(∀k,k≠i->∃a j:Ó,c[k]?=gs[k]?.map (Ű P a j w'))/\mF (lot i) h w w' d/\ gP P B0 Y S (fw tr i<|k w) kp (gu lot i h) c w' (t++Í i g.frame.fn g.frame.place d):=by
 have o:=(Ë.1 m).1;let⟨g0,hF,F,_,u⟩:=f.C i g m;obtain rfl:g=g0:=u.resolve_right (by rw[n];simp);rw[n]at hF;let⟨G,hF⟩:=hF;let⟨b,w',d,h,v,p,e⟩:=hF w<|f.r.r i o;have q:b.status=Ð\/b.status=ĥ:=by
  cases j:k w with
  |fy=>rw[j]at e;exact s _ _<|e _<|fF.fW _ _
  |jO r=>rw[j]at e;exact Ç e.1
 obtain⟨c,x,y,z,B,r⟩:=f.XB m v (f.r.agz o p _ _) e q;refine⟨c,w',d,h,x,y,⟨b,z,q⟩,λj C=>⟨g,b,B j C⟩,p,?_⟩;have D:fw S i (S i)=S:=by funext j;unfold fw;split<;>simp[*]
 have E:fw kp i (kp i)=kp:=by funext j;unfold fw;split<;>simp[*]
 rwa[D,E]at r
theorem gP.qV(c:gP P B0 Y S tr kp lot gs w t){a:Ó}{J:Jd}{K:iB}{T:gw}(l:gs[i]?=À g)(m:Ü P (i==0) g w=bj a w' V)(n:p9 (λi=>i<gs.size) Y lot w w') (hF:lj P (i==0) J T {lot i with d:=ż (lot i).d V,w:=w'} a) (o:a.status=Ð\/a.status=ĥ) (p:∀e∈V,(∀b,(ê e).touch?=À b->Hm (λi=>i<gs.size) Y lot b)/\(ê e).low w.heap.size) (q:∀r,¬eN r (t++Í i g.frame.fn g.frame.place V)): ∃gs',dm P (ŀ gs w sl) i=(œ<|ŀ gs' w' sl,Í i g.frame.fn g.frame.place V)/\gs'.size=gs.size/\gs'[i]?=À a/\(∀k,k≠i->gs'[k]?=gs[k]?.map (Ű P g a w'))/\ gP P B0 Y (fw S i J) (fw tr i T) (fw kp i K) (gu lot i {lot i with d:=ż (lot i).d V,w:=w'}) gs' w' (t++Í i g.frame.fn g.frame.place V):=by
 refine c.XB l m (c.r.G (λk=> ?_) n (λh f b j=> ?_) (λh f=> ?_) q λk h=> ?_) hF o
 .by_cases e:k=i
  .subst e;rw[gW];exact⟨U,U,U,U,U,Î U⟩
  .grind [gH,vt.fW]
 .obtain⟨e,j,rfl⟩:=ï f;grind
 .obtain⟨e,j,rfl⟩:=ï f;exact(p e j).2
 .by_cases e:k=i
  .subst e;rw[gW,Deaf_own,c.r.f k h]
  .rw[gH lot _ e,P4 e t ow];exact c.r.f k h
def gP.P9(h:gP P B0 Y S tr kp lot gs w t)(p:gs[i]?=À g)(x:i≠0)(l:g.status=Ð)(q:kp i=.no)(y:tr i=.fy)(z:S i=pC P n): ∃c f b,n=b+1/\dm P (ŀ gs w sl) i=(œ<|ŀ c w sl,Í i g.frame.fn g.frame.place f)/\c.size=gs.size/\(∀k,k≠i->∃a e:Ó,c[k]?=gs[k]?.map (Ű P a e w))/\(∀e∈f,e.mute=È)/\ gP P B0 Y (fw S i<|pC P b) tr kp (gu lot i {lot i with d:=ż (lot i).d f,w:=w}) c w (t++Í i g.frame.fn g.frame.place f):=by
 let⟨g0,hF,r,L,_⟩:=h.C i g p;have B:g=g0:=by
  rw[q]at r;cases r with
  |gl=>rfl
 subst B;rw[y,z]at hF;have s:=hF w<|h.r.r i<|(Ë.1 p).1;cases n with
 |zero=>rw[s.1]at l;cases l
 |succ n=>
  rcases s with⟨C,_⟩|⟨_,D,f,a,E,u⟩
  .rw[C]at l;cases l
  have m:(i==0)=Â:=by simpa using x
  have F:fw kp i .no=kp:=by funext j;unfold fw;split<;>simp[*]
  have G:fw tr i .fy=tr:=by funext j;unfold fw;split<;>simp[*]
  obtain⟨c,H,I,_,K,v⟩:=h.qV (J:=pC P n) (T:=.fy) p (by rw[m];exact E w) (p9.fW _ _ _ _) (λ_ _=>u) u.status (λe o=>⟨λb m=>(by rw[eB<|a e o]at m;cases m),low_mute (a e o) _⟩) (AJ h.r.l λM b=>by obtain⟨e,o,rfl⟩:=ï b;exact eB<|a e o);rw[F,G]at v;exact⟨c,f,n,U,H,I,λk q=>⟨g,D,K k q⟩,a,v⟩
end
def xc(u:Ħ):Prop:=∀a∈u,a.act.touch?=ë/\∀m,a.act≠Ť m
theorem agJ(t:Ħ)(a:dp)(b:a.act≠Ť cW)(c:a.act≠Ť dH)(j:Nat):π (t.push a) j=π t j:=by
 have d:t.push a=t++#[a]:=fi
 unfold π;rw[d,show(t++#[a]).size=t.size+1 by simp];show(match(t++#[a])[t.size]? with
  |some {g:=h,act:=Ť cW, .. }=>if h=j then(t++#[a]).deaf j t.size+1 else(t++#[a]).deaf j t.size
  |some {g:=h,act:=Ť dH, .. }=>if h=j then(t++#[a]).deaf j t.size-1 else(t++#[a]).deaf j t.size
  |_=>(t++#[a]).deaf j t.size)=_
 have e:(t++#[a])[t.size]?=À a:=fi
 rw[e];let⟨g,f,i,k⟩:=a;simp only at b c;split
 .grind
 .grind
 .exact c8<|á _
def XC(t:Ħ):∀(u:List dp),(∀a∈u,a.act≠Ť cW/\a.act≠Ť dH)->∀j,π (t++u.toArray) j=π t j
 |[],_,j=>by simp
 |a::u,h,j=>by
  have e:t++(a::u).toArray=(t.push a)++u.toArray:=by apply Array.ext';simp
  rw[e,XC (t.push a) u (λx b=>h x<|by simp[b]) j];exact agJ t a (h a fi).1 (h a fi).2 j
def K5{u:Ħ}(h:xc u)(j:Nat):π (qJ++u) j=π qJ j:=by have:=XC qJ u.toList (λa b=>⟨(h a<|by simpa using b).2 _,(h a<|by simpa using b).2 _⟩) j;simpa using this
section
variable{S:Nat->Jd}{C:Nat->gw}{B:Nat->iB}{lot:Nat->e9}{u:Ħ}{sl:Option (Nat×Nat)}
def iT.agK{Live:Nat->Prop}(h:iT i Live X lot w qJ)(f:p9 Live X lot w W)(c:xc u)(g:∀a∈u,a.act.low w.heap.size):iT i Live X lot W (qJ++u):= h.G (λk=>vt.fW _ _) f (λa d b e=>by rw[(c a d).1]at e;cases e) g (AJ h.l λa d=>(c a d).1) λk b=>by rw[K5 c];exact h.f k b
def K6{Live:Nat->Prop}{r:Nat}{x:Bool}(y:X i)(p:w.heap[i]?=À (ay n d yQ j r x))(f g h:Nat)(l:Array Ã)(m o:Bool):p9 Live X lot w (w.setChan i f l m g h o):=by
 have q:∀b,b≠i->(w.setChan i f l m g h o).heap[b]?=w.heap[b]?:=λb u=>by unfold aH;simp only;exact Ï<|Ċ u
 have v:(w.setChan i f l m g h o).heap[i]?=À (ay f l m g h o):=by unfold aH;simp[(Ë.1 p).1]
 refine⟨by unfold aH;simp,λb u=>q b λe=>u<|e▸y,λk _ a _=> ?_,λk _ a _=> ?_,λa t=> ?_⟩
 .by_cases e:a.block=i
  .unfold ħ;rw[e,v,p]
  .unfold ħ;rw[q _ e]
 .by_cases e:a.block=i
  .unfold č;rw[e,v,p]
  .unfold č;rw[q _ e]
 .by_cases e:a.block=i
  .unfold ħ at t;rw[e,p]at t;cases t
  .have:(w.setChan i f l m g h o).cell? a=w.cell? a:=by unfold ħ;rw[q _ e]
   rwa[this]
def gP.G(b:gP P i X S C B lot E w qJ){J:Jd}{T:gw}{K:iB}(d:n<E.size)(f:p9 (λn=>n<E.size) X lot w W)(c:xc u)(h:∀l∈u,l.act.low w.heap.size) (hF:lj P (n==0) J T (lot n) g) (m:g.status=Ð\/g.status=ĥ): gP P i X (fw S n J) (fw C n T) (fw B n K) lot (E.setIfInBounds n g) W (qJ++u):=by
 refine⟨?_,λk x a=> ?_,λj o=> ?_⟩
 .rw[show(λj=>j<(E.setIfInBounds n g).size)=(λj=>j<E.size) by simp];exact b.r.agK f c h
 .by_cases e:k=n
  .subst e;rw[Ò d]at a;obtain rfl:=ī a;rw[gE,gE,gE];exact⟨_,hF,.gl,m,Ç U⟩
  .rw[Ï<|Ċ e]at a;rw[fG S _ e,fG C _ e,fG B _ e];exact b.C k x a
 .rw[K5 c];exact b.I j<|by simpa using o
def Qa{γ δ:Type}{f:γ->List δ}:∀{l:List γ},(∀x∈l,f x=[])->l.flatMap f=[]
 |[],_=>rfl
 |x::l,h=>by rw[bm,h x fi,Qa λy a=>h y (by simp[a])];rfl
def yH(r:Nat)(b:Bool)(g:Ó):Prop:=g.status=Ž/\∃a d,g.offers=À (a,d)/\∃c∈a,(c.send.isSome==b)=È/\(match c.chan with|eD (À r')=>r'==r|_=>Â)=È
theorem XD{r:Nat}{E:Array Ó}(h:∀(i:Nat) (g:Ó),E[i]?=À g->¬yH r yQ g):Ω E r yQ=[]:=by
 unfold Ω;refine Qa λx m=> ?_;let⟨g,i⟩:=x;have d:E[i]?=À g:=by grind
 simp only[];split
 .rename_i b e f j;rw[aE,ρ];intro y n a;let⟨c,k⟩:=y;have l:c∈b:=by
   grind
  simp only[ġ]at a;exact h i g d ⟨f,b,e,j,c,l,a.1,by have:=a.2;revert this;cases c.chan<;>first|exact id|(rename_i q;cases q<;>exact id)⟩
 .rfl
def XF{γ δ:Type}(f:γ×Nat->List δ):∀(L:List γ) (n h:Nat) (x:γ),(∀y k,k≠h->(y,k)∈L.zipIdx n->f (y,k)=[])->n<=h->L[h-n]?=À x->(L.zipIdx n).flatMap f=f (x,h)
 |[],n,h,x,_,_,hx=>by simp at hx
 |a::L,n,h,x,hf,hn,hx=>by
  rw[ĵ,bm];by_cases e:h=n
  .subst e;have:a=x:=by simpa using hx
   subst this;rw[Qa ?_,List.append_nil];intro y b;let⟨y,k⟩:=y;refine hf y k ?_ (by rw[ĵ];exact ô _ b);have:=List.le_snd_of_mem_zipIdx b;simp only at this;omega
  .rw[hf a n Z (by rw[ĵ];exact ð ..),List.nil_append];refine XF f L (n+1) h x (λy k c b=>hf y k c<|by rw[ĵ];exact ô _ b) Z ?_;have b:h-n=(h-(n+1))+1:=Z
   rw[b]at hx;simpa using hx
theorem agL{E:Array Ó}(l:E[n]?=À g)(m:g.status=Ž)(o:g.offers=À (#[ψ i z],.recv È))(p:∀(a:Nat) (b:Ó),a≠n->E[a]?=À b->¬yH i Â b):Ω E i Â=[(n,0)]:=by
 unfold Ω;have e:E.zipIdx.toList=E.toList.zipIdx:=fi
 rw[e];rw[XF _ E.toList 0 n g (λy k r B=> ?_) (dJ _) (by simpa using l)]
 .simp[m,o,ψ]
 .have s:E[k]?=À y:=by
   grind
  simp only[];split
  .rename_i j t u v;rw[aE,ρ];intro x C d;let⟨f,D⟩:=x;have w:f∈j:=by
    grind
   simp only[ġ]at d;exact p k y r s ⟨u,j,t,v,f,w,d.1,by have:=d.2;revert this;cases f.chan<;>first|exact id|(rename_i q;cases q<;>exact id)⟩
  .rfl
theorem Qb(h:(E.setIfInBounds i ph)[k]?=À g):g.status=ĥ\/(k≠i/\E[k]?=À g):=by
 by_cases e:k=i
 .subst e;rw[Ŧ]at h;simp only[if_true]at h;split at h
  .left;obtain rfl:=ī h;rfl
  .cases h
 .grind
theorem gP.Qc(l:gP P i X S C B lot E w qJ)(c a:Nat):Ω (E.setIfInBounds a ph) c È=[]:=by
 refine XD λk x m=> ?_;rintro⟨d,p,r,b,n,f,o,_⟩;rcases Qb m with q|⟨_,q⟩
 .grind
 .let⟨g0,_,g,j,_⟩:=l.C k x q;generalize B k=K at g;cases g with
  |gl=>rw[d]at j;rcases j with e|e<;>cases e
  |n5 h e=>simp only[e]at b;cases b
  |tX e z h=>
   simp only[Τ,Ν,Prod.mk.injEq]at b;rw[<-b.1]at f;have:n=ψ e z:=by simpa using f
   subst this;cases o
  |nA e z h=>cases d
def gP.Qd(e:gP P i X S C B lot E w qJ){N:Option Ã->Jd}(f:E[n]?=À g)(k:g.status=Ð)(l:B n=.sX j z)(m:C n=.fy)(o:S n=xa P (n==0) j z N): ∃a,lj P (n==0) (S n) (C n) (lot n) a/\a.status=Ð/\a.offers=ë/\Ü P (n==0) g w=.comm a #[ψ j z] È (.recv È) w #[]/\∀x:Option Ã,fg P (n==0) (N x) (lot n) {a with frame:=a.frame.finish (Ξ #[x.getD z,Ň x.isSome])}:=by
 let⟨a,hF,b,_,_⟩:=e.C n g f;have p:=hF;rw[o,m]at hF;let⟨x,q,d,r⟩:=hF _<|fF.fW _ _;rw[l]at b;refine⟨a,p,x,q,?_,r⟩;cases b with
 |gl=>exact d w
 |tX j z h=>cases k
 |nA j z h=>rw[stepG_tries];rw[show({a with status:=Ð}:Ó)=a by cases a;simp only at x;subst x;rfl];exact d w
def yI{g0:Ó}{a:Array CommCase}{b:CommShape}{ok:Bool}(c:g0.status=Ð)(d:g0.offers=ë):g0.finishComm P a b h v ok={g0 with frame:=g0.frame.finish (commResult a b h v ok)}:=by let⟨f,a,st,e,o⟩:=g0;simp only at c d;subst c d;rfl
def gP.nD(e:gP P i X S C B lot E w qJ){N:Option Ã->Jd}(h:E[n]?=À g)(G:g.status=Ð)(l:B n=.sX j z)(H:C n=.fy)(I:S n=xa P (n==0) j z N)(p:X j){r:Nat}{o:Bool}(q:w.heap[j]?=À (ay b d yQ m r o))(t:d[0]?=À v)(K:iB): ∃a u T f,dm P (ŀ E w sl) n=(œ<|ŀ a (w.setChan j b (d.extract 1 d.size) yQ m (r+1) o) sl,u)/\a.size=E.size/\a[n]?=À f/\f.status=Ð/\(∀k,k≠n->a[k]?=E[k]?)/\xc u/\ gP P i X (fw S n<|N<|À v) (fw C n T) (fw B n K) lot a (w.setChan j b (d.extract 1 d.size) yQ m (r+1) o) (qJ++u):=by
 have x:=(Ë.1 h).1;let⟨g0,_,f,y,J,L⟩:=e.Qd h G l H I;have D:d.getD 0 ň=v:=by simp[İ,t]
 have M:=crowd_recv_buf (sl:=sl) h J q ((Ë.1 t).1)<|e.Qc j n;let⟨T,O⟩:=jo<|L<|À v;refine⟨_,_,T,{g0 with frame:=g0.frame.finish (Ξ #[v,Ň È])},M,fi,?_,f,λk l=>Ï<|Ċ l,?_,?_⟩
 .rw[yI f y,D,Ò x];rfl
 .intro F a;simp[Í]at a;rcases a with rfl|rfl<;>exact⟨U,fi⟩
 .rw[yI f y,D];refine e.G x (K6 p q _ _ _ _ _ _) ?_ ?_ O<|Ç f
  .intro F a;simp[Í]at a;rcases a with rfl|rfl<;>exact⟨U,fi⟩
  .intro F a;simp[Í]at a;rcases a with rfl|rfl<;>exact e.r.N j p
def gP.jh(e:gP P i X S C B lot E w qJ){N:Option Ã->Jd}(h:E[n]?=À g)(q:g.status=Ð)(l:B n=.sX j z)(t:C n=.fy)(v:S n=xa P (n==0) j z N)(x:X j){r:Nat}(y:w.heap[j]?=À (ay b #[] È k r yQ))(K:iB): ∃d u T f,dm P (ŀ E w sl) n=(œ<|ŀ d w sl,u)/\d.size=E.size/\d[n]?=À f/\f.status=Ð/\(∀a,a≠n->d[a]?=E[a]?)/\xc u/\ gP P i X (fw S n<|N ë) (fw C n T) (fw B n K) lot d w (qJ++u):=by
 have m:=(Ë.1 h).1;let⟨g0,_,f,o,D,F⟩:=e.Qd h q l t v;let⟨T,G⟩:=jo<|F ë;refine⟨_,_,T,{g0 with frame:=g0.frame.finish (Ξ #[z,Ň Â])},crowd_recv_closed (sl:=sl) h D y<|e.Qc j n,fi,?_,f,λa l=>Ï<|Ċ l,?_,?_⟩
 .rw[yI f o,Ò m];rfl
 .intro p d;simp[Í]at d;subst d;exact⟨U,fi⟩
 .rw[yI f o];refine e.G m (p9.fW _ _ _ _) ?_ ?_ G<|Ç f
  .intro p d;simp[Í]at d;subst d;exact⟨U,fi⟩
  .intro p d;simp[Í]at d;subst d;exact e.r.N j x
def gP.agM(f:gP P i X S C B lot E w qJ){N:Option Ã->Jd}(m:E[n]?=À g)(u:g.status=Ð)(h:B n=.sX j z)(o:C n=.fy)(v:S n=xa P (n==0) j z N){r:Nat}(p:w.heap[j]?=À (ay b #[] Â k r yQ)): ∃d e,dm P (ŀ E w sl) n=(œ<|ŀ d w sl,#[])/\d.size=E.size/\d[n]?=À e/\e.status=Ž/\(∀a,a≠n->d[a]?=E[a]?)/\gP P i X S C B lot d w qJ:=by
 have q:=(Ë.1 m).1;let⟨g0,hF,t,G,y,H⟩:=f.Qd m u h o v;have D:=crowd_waits (sl:=sl) m y (λd e=>by
  have:d=ψ j z:=by simpa using e
  subst this;exact⟨by simp[illMade,ψ,p],by simp[ways,ψ,p,f.Qc j n]⟩)
 refine⟨_,Τ g0 #[ψ j z]<|.recv È,?_,fi,Ò q,U,λa h=>Ï<|Ċ h,?_,λa x l=> ?_,λd F=>f.I d<|by simpa using F⟩
 .rw[D];rfl
 .rw[show(λd=>d<(E.setIfInBounds n<|Τ g0 #[ψ j z]<|.recv È).size)=(λd=>d<E.size) by simp];exact f.r
 .by_cases e:a=n
  .subst e;rw[Ò q]at l;obtain rfl:=ī l;refine⟨g0,hF,?_,Ç t,Î o⟩;rw[h];exact .tX j z t
  .rw[Ï<|Ċ e]at l;exact f.C a x l
def gP.iK(f:gP P i X S C B lot E w qJ){N:Jd}(h:E[n]?=À g)(l:B n=.no)(F:C n=.fy)(G:S n=AK P (n==0) b v N)(p:X b){r:Nat}(t:w.heap[b]?=À (ay m d Â J r yQ))(H:d.size<m) (I:∀(k:Nat) (x:Ó),E[k]?=À x->¬yH b Â x): ∃e u T a,dm P (ŀ E w sl) n=(œ<|ŀ e (w.setChan b m (d.push v) Â (J+1) r yQ) sl,u)/\e.size=E.size/\e[n]?=À a/\a.status=Ð/\(∀k,k≠n->e[k]?=E[k]?)/\xc u/\ gP P i X (fw S n N) (fw C n T) B lot e (w.setChan b m (d.push v) Â (J+1) r yQ) (qJ++u):=by
 have y:=(Ë.1 h).1;let⟨g0,hF,z,_,_⟩:=f.C n g h;rw[l]at z;cases z with
 |gl=>
  rw[G,F]at hF;let⟨a,D,o,K⟩:=hF _<|fF.fW _ _;let⟨V,o⟩:=o w;have L:Ω (E.setIfInBounds n ph) b Â=[]:=XD λk x M=>by
   rcases Qb M with q|⟨_,q⟩
   .rintro⟨e,_⟩;rw[q]at e;cases e
   .exact I k x q
  let⟨T,O⟩:=jo K;have Q:fw B n .no=B:=by funext j;unfold fw;split<;>simp[*]
  refine⟨_,_,T,{g with frame:=g.frame.finish ň},crowd_send_room (sl:=sl) h o t H L,fi,?_,a,λk l=>Ï<|Ċ l,?_,?_⟩
  .rw[yI a D,Ò y];rfl
  .intro q e;simp[Í]at e;rcases e with rfl|rfl<;>exact⟨U,fi⟩
  .rw[yI a D,<-Q];refine f.G y (K6 p t _ _ _ _ _ _) ?_ ?_ O<|Ç a
   .intro q e;simp[Í]at e;rcases e with rfl|rfl<;>exact⟨U,fi⟩
   .intro q e;simp[Í]at e;rcases e with rfl|rfl<;>exact f.r.N b p
def gP.agN(o:gP P i X S C B lot E w qJ){p:Ó}{N:Jd}{D:Option Ã->Jd}(F:E[n]?=À g)(f:B n=.no)(ht:C n=.fy)(hs:S n=AK P (n==0) b v N)(L:X b){r:Nat}(M:w.heap[b]?=À (ay J d Â j9 r yQ)) (G:j≠n) (t:E[j]?=À p) (O:p.status=Ž) (K7:B j=.sX b z) (Qe:C j=.fy) (K8:S j=xa P (j==0) b z D) (K:iB) (hp:∀(k:Nat) (x:Ó),k≠j->E[k]?=À x->¬yH b Â x): ∃e u T y h q,dm P (ŀ E w sl) n=(œ<|ŀ e (w.setChan b J d Â (j9+1) (r+1) yQ) sl,u)/\e.size=E.size/\e[n]?=À h/\h.status=Ð/\e[j]?=À q/\q.status=Ð/\(∀k,k≠n->k≠j->e[k]?=E[k]?)/\xc u/\ gP P i X (fw (fw S j<|D<|À v) n N) (fw (fw C j y) n T) (fw (fw B j K) n .no) lot e (w.setChan b J d Â (j9+1) (r+1) yQ) (qJ++u):=by
 have Q:=(Ë.1 F).1;have V:=(Ë.1 t).1;let⟨g0,hF,W,_,_⟩:=o.C n g F;let⟨a,Y,XG,auM,_⟩:=o.C j p t;rw[f]at W;rw[K7]at XG;cases W with
 |gl=>
  rw[hs,ht]at hF;let⟨H,h2,I,h4⟩:=hF _<|fF.fW _ _;let⟨z',I⟩:=I w;rw[K8,Qe]at Y;let⟨l,k2,k3,k4⟩:=Y _<|fF.fW _ _;have EB:p=Τ a #[ψ b z] (.recv È):=by
   cases XG with
   |gl=>rw[O]at l;cases l
   |tX _ _ h=>rfl
   |nA _ _ h=>cases O
  subst EB;have hpn:Ω (E.setIfInBounds n ph) b Â=[(j,0)]:=agL (by rwa[Ï<|Ċ G]) U U λk x f hx=>by
   rcases Qb hx with q|⟨_,q⟩
   .rintro⟨e,_⟩;rw[q]at e;cases e
   .exact hp k x f q
  have Qf:=crowd_send_meets (sl:=sl) F I M G t hpn;let⟨T,hT⟩:=jo h4;let⟨y,hTj⟩:=jo<|k4<|À v;rw[yI H h2,yI l k2]at Qf;have q:∀{h:dp},h∈Í n g.frame.fn g.frame.place #[]++#[{g:=n,fn:=g.frame.fn,pos:=g.frame.place,act:=.send b j9},{g:=j,fn:=a.frame.fn,pos:=a.frame.place,act:=.recv b r J},{g:=n,fn:=g.frame.fn,pos:=g.frame.place,act:=.sendDone b j9},{g:=j,fn:=a.frame.fn,pos:=a.frame.place,act:=.recvDone b r}]->(h.act.touch?=ë/\∀m,h.act≠Ť m)/\h.act.low w.heap.size:=by intro h e;simp[Í]at e;rcases e with rfl|rfl|rfl|rfl<;>exact⟨⟨U,fi⟩,o.r.N b L⟩
  refine⟨_,_,T,y,{g with frame:=g.frame.finish ň},{a with frame:=a.frame.finish (Ξ #[v,Ň È])},Qf,fi,?_,H,?_,l,λk f tY=> ?_,λh e=>(q e).1,?_⟩
  .rw[Ò (by simpa using Q)];rfl
  .rw[Ï<|Ċ G,Ò V];rfl
  .rw[Ï<|Ċ f,Ï<|Ċ tY]
  .have m:gP P i X (fw S j<|D<|À v) (fw C j y) (fw B j K) lot (E.setIfInBounds j {a with frame:=a.frame.finish (Ξ #[v,Ň È])}) w (qJ++#[]):=o.G V (p9.fW _ _ _ _) (λh e=>by simp at e) (λh e=>by simp at e) hTj<|Ç l;rw[Ĕ]at m;refine m.G (by simpa using Q) (K6 L M _ _ _ _ _ _) (λh e=>(q e).1) (λh e=>(q e).2) hT<|Ç H
theorem gP.kY(o:gP P i X S C B lot E w qJ){N:Jd}(I:E[n]?=À g)(K:B n=.no)(ht:C n=.fy)(hs:S n=K3 P (n==0) J N)(L:X J)(hB:i<=J){r:Nat}(O:w.heap[J]?=À (ay j9 q Â j7 r yQ)): ∃t u T G,dm P (ŀ E w sl) n=(œ<|ŀ t (w.setChan J j9 q È j7 r yQ) sl,u)/\t.size=E.size/\t[n]?=À G/\G.status=Ð/\(∀k x,k≠n->E[k]?=À x->t[k]?=À (x.again<|w.setChan J j9 q È j7 r yQ))/\(∀l∈u,l.g=n)/\(∀l∈u,∀b,l.act.touch?=À b->b.loc=.obj J/\b.kind=Š)/\(∀l∈u,∀m,l.act≠Ť m)/\ gP P i X (fw S n N) (fw C n T) B (gu lot n {lot n with w:=w.setChan J j9 q È j7 r yQ}) t (w.setChan J j9 q È j7 r yQ) (qJ++u):=by
 have H:=(Ë.1 I).1;have Q:=o.r.N J L;let⟨g0,hF,V,_,_⟩:=o.C n g I;rw[K]at V;cases V with
 |gl=>
  rw[hs,ht]at hF;let⟨h1,h2,G,M,h4,h5⟩:=hF w<|o.r.r n H;have v:=K6 (lot:=lot) (Live:=λn=>n<E.size) L O j9 j7 r q È yQ;have y:fF (lot n) w (w.setChan J j9 q È j7 r yQ):=⟨dI v.r.symm,λj hj=>v.jV j<|o.r.I n H j hj,λa z=>v.M n H a z,λa z=>v.N n H a z,λa _=>v.I a⟩;let⟨T,hT⟩:=jo<|h5.fM ⟨y.r,y.I,y.N,y.Y,y.S⟩;have W:ż (lot n).d (Ez J)=(lot n).d:=bF (λe f=>by simp[Ez]at f;grind) _;have D:∀e∈Ez J,(∀b,(ê e).touch?=À b->b.loc=.obj J/\b.kind=Š)/\(ê e).low w.heap.size:=by
   intro e f;simp[Ez]at f;rcases f with rfl|rfl
   .exact⟨λb h=>by simp[ê,Ą]at h;subst h;exact⟨U,U⟩,Q⟩
   .exact⟨λb h=>by simp[ê,Ą]at h,Q⟩
  have e2:fw B n .no=B:=by funext j;unfold fw;split<;>simp[*]
  obtain⟨t,q1,q2,q3,q4,Y⟩:=o.qV I (h4 w j9 q j7 r yQ O) v (by rwa[W]) (Ç M) (λe f=>⟨λb h=>Î ⟨J,((D e f).1 b h).1,L,((D e f).1 b h).2⟩,(D e f).2⟩) (P1 o.r.l ow λl F b h=>by obtain⟨e,f,rfl⟩:=ï F;let⟨z1,z2⟩:=(D e f).1 b h;refine Î (Î ⟨z2,λp a z hl rQ=> ?_⟩);have:=o.r.s p a J z (by rw[hl,z1]) rQ;omega);rw[W,e2]at Y;refine⟨t,_,T,G,q1,q2,q3,M,λk x K p=> ?_,ow,λl F b h=> ?_,λl F=> ?_,Y⟩
  .rw[q4 k K,p];simp only[bR,Ν];unfold Ű;rw[if_pos (by simp[h2,M])]
  .obtain⟨e,f,rfl⟩:=ï F;exact(D e f).1 b h
  .obtain⟨e,f,rfl⟩:=ï F;simp[Ez]at f;intro m;rcases f with rfl|rfl<;>simp[ê]
end
def fL(b:Nat):Û:=⟨b,0,ë⟩
def gT(b:Nat):Û:=⟨b,1,ë⟩
inductive GS where
 |cl (c reg:Nat)
 |jI (reg:Nat)
 |gY (r s:Nat)
def GS.st:GS->Int
 |.cl c a=>c*fZ+a
 |.jI a=>a
 |.gY _ _=>0
def GS.sm:GS->Int
 |.gY _ s=>s
 |_=>0
def GS.ok:GS->Prop
 |.cl c r=>c<1000000/\r<1000000/\(c=0->r=0)
 |.jI r=>0<r/\r<1000000
 |.gY r s=>r+s<1000000
structure ie(w:Æ)(b:Nat)(G:GS):Prop where
 C:w.cell? (fL b)=À (ċ è G.st)
 M:w.cell? (gT b)=À (ċ ţ G.sm)
 I:w.frozen? (fL b)=Â
 N:w.frozen? (gT b)=Â
 r:G.ok
theorem AL(h:w.cell? a=À x):(w.setCell a v).cell? a=À v:=by unfold ħ at h|-;unfold Ď;grind
theorem yJ(h:a.block≠p.block\/a.off≠p.off):(w.setCell a v).cell? p=w.cell? p:=by unfold ħ Ď;grind
theorem Qg:kX (w.setCell a v) b=kX w b:=by unfold kX Ď;grind
def sY:(w.setCell a v).frozen? p=w.frozen? p:=by simp_all
theorem ly(h:j≠a.block):(w.setCell a v).heap[j]?=w.heap[j]?:=by unfold Ď;grind
def j4:(w.setCell a v).heap.size=w.heap.size:=by simp_all
theorem yK(h:(w.cell? p).isSome=È):((w.setCell a v).cell? p).isSome=È:=by unfold ħ Ď at*;grind
theorem agO{Live Y:Nat->Prop}{c:Nat->e9}(f:Y a.block)(l:a.spot=ë)(m:∀k,Live k->¬(c k).C a)(g:∀k,Live k->∀b,(c k).C b->b.spot=ë):p9 Live Y c w (w.setCell a v):=by
 refine⟨j4,λj h=>ly λe=>h<|e▸f,λk i b d=>yJ ?_,λ_ _ _ _=>sY,λb d=>yK d⟩;by_cases e:a.block=b.block
 .right;intro n;have:=g k i b d;let⟨o,p,q⟩:=b;let⟨r,s,t⟩:=a;grind
 .exact Ç e
section
variable{b:Nat}{G:GS}
def ie.vu(h:ie w b G)(a:u.cell? (fL b)=w.cell? (fL b))(c:u.cell? (gT b)=w.cell? (gT b))(d:u.frozen? (fL b)=w.frozen? (fL b))(e:u.frozen? (gT b)=w.frozen? (gT b)):ie u b G:= ⟨a.trans h.C,c.trans h.M,d.trans h.I,e.trans h.N,h.r⟩
def ie.iU(h:ie w b G)(c:a.block≠b):ie (w.setCell a v) b G:= h.vu (yJ<|Ç c) (yJ<|Ç c) sY sY
def ie.K9{G':GS}(h:ie w b G)(a:G'.sm=G.sm)(d:G'.ok)(e:c=G'.st):ie (w.setCell (fL b)<|ċ è c) b G':= ⟨by rw[AL h.C,e],by rw[yJ (Î<|by simp[fL,gT]),h.M,a],by rw[sY,h.I],by rw[sY,h.N],d⟩
def ie.XH{G':GS}(h:ie w b G)(a:G'.st=G.st)(d:G'.ok)(e:c=G'.sm):ie (w.setCell (gT b)<|ċ ţ c) b G':= ⟨by rw[yJ (Î<|by simp[fL,gT]),h.C,a],by rw[AL h.M,e],by rw[sY,h.I],by rw[sY,h.N],d⟩
end
def La(a:0<=h)(b:h<18446744073709551616):è.wrap h=h:=by have:è.wrap h=h%18446744073709551616:=rfl;rw[this];omega
def agP(a:4294967296<=h)(b:h<18446744073709551616):è.wrap (h+18446744069414584320)=h-4294967296:=by have:è.wrap (h+18446744069414584320)=(h+18446744069414584320)%18446744073709551616:=rfl;rw[this];omega
def agQ(a:0<=h)(b:h<4294967296):ţ.wrap h=h:=by have:ţ.wrap h=h%4294967296:=rfl;rw[this];omega
def qW:Int:=18446744069414584320
def GS.jN:GS->GS
 |.cl (c+1) reg=>if c=0/\0<reg then .jI reg else .cl c reg
 |G=>G
section
variable{b:Nat}
theorem ie.agR(h:ie w b (.cl i 0))(a:i+1<1000000):è.wrap ((GS.cl i 0).st+fZ)=(GS.cl (i+1) 0).st/\ie (w.setCell (fL b)<|ċ è<|è.wrap<|(GS.cl i 0).st+fZ) b (.cl (i+1) 0):=by
 have e:è.wrap ((GS.cl i 0).st+fZ)=(GS.cl (i+1) 0).st:=by simp only[GS.st,fZ];grind [La]
 exact⟨e,h.K9 (G':=.cl (i+1) 0) U ⟨a,Z,Z⟩ e⟩
def ie.jN(h:ie w b (.cl (i+1) n)):è.wrap ((GS.cl (i+1) n).st+qW)=(GS.jN<|.cl (i+1) n).st/\ie (w.setCell (fL b)<|ċ è<|è.wrap<|(GS.cl (i+1) n).st+qW) b (GS.jN<|.cl (i+1) n):=by
 let⟨f,a,g⟩:=h.r;have d:è.wrap ((GS.cl (i+1) n).st+qW)=(i:Int)*fZ+n:=by simp only[GS.st,fZ,qW];rw[agP Z Z];omega
 have e:è.wrap ((GS.cl (i+1) n).st+qW)=(GS.jN<|.cl (i+1) n).st:=by
  rw[d];simp only[GS.jN];by_cases q:i=0/\0<n
  .rw[if_pos q];obtain⟨rfl,_⟩:=q;simp[GS.st]
  .rw[if_neg q];rfl
 refine⟨e,h.K9 ?_ ?_ e⟩
 .simp only[GS.jN];split<;>rfl
 .simp only[GS.jN];by_cases q:i=0/\0<n
  .rw[if_pos q];exact⟨q.2,a⟩
  .rw[if_neg q];exact⟨Z,a,λe=>by omega⟩
theorem ie.XJ(h:ie w b (.cl i n))(f:0<i)(a:n+1<1000000):è.wrap ((GS.cl i n).st+1)=(GS.cl i<|n+1).st/\ie (w.setCell (fL b)<|ċ è<|è.wrap<|(GS.cl i n).st+1) b (.cl i (n+1)):=by
 let⟨d,g,j⟩:=h.r;have e:è.wrap ((GS.cl i n).st+1)=(GS.cl i<|n+1).st:=by simp only[GS.st,fZ];grind [La]
 exact⟨e,h.K9 (G':=.cl i (n+1)) U ⟨d,a,λe=>by omega⟩ e⟩
def ie.XK(h:ie w b (.jI i)):ie (w.setCell (fL b)<|ċ è 0) b (.gY i 0):= h.K9 (G':=.gY i 0) U (by have:=h.r;simp only[GS.ok]at this|-;omega) U
theorem ie.jH{r:Nat}(h:ie w b (.gY (r+1) i)):ie (w.setCell (gT b)<|ċ ţ<|ţ.wrap<|(GS.gY (r+1) i).sm+1) b (.gY r (i+1)):=by have:=h.r;simp only[GS.ok]at this;refine h.XH (G':=.gY r (i+1)) U (by simp only[GS.ok];omega) ?_;simp only[GS.sm];grind [agQ]
def ie.kC{r:Nat}(h:ie w b (.gY r (i+1))):ie (w.setCell (gT b)<|ċ ţ<|(GS.gY r<|i+1).sm-1) b (.gY r i):=by have:=h.r;simp only[GS.ok]at this;refine h.XH (G':=.gY r i) U (by simp only[GS.ok];omega) ?_;simp only[GS.sm];omega
def ie.agS{G:GS}(h:ie w b G):(0<=G.st/\G.st<fZ)↔∀c a,G=.cl c a->c=0:=by
 have d:=h.r;cases G with
 |cl c a=>
  let⟨r,s,f⟩:=d;simp only[GS.st,fZ];constructor
  .intro q g i e;cases e;omega
  .intro q;have:=q c a U;subst this;omega
 |jI a=>simp only[GS.ok]at d;simp only[GS.st,fZ];exact⟨λ_ _ _ e=>(by cases e),λ_=>by omega⟩
 |gY r s=>simp only[GS.st,fZ];exact⟨λ_ _ _ e=>(by cases e),λ_=>by omega⟩
end
inductive jK where
 |jH|iG|gB (W:Nat)|je (W:Nat)|iC (r:Nat)
inductive jx where
 |iZ|me (p:SP)|wr|kC|gB|lk
section
variable(P:Ø)(main:Bool)(B:Nat)(b:Nat)(J:Jd)
def Hp:Nat->Jd
 |0=>J
 |r+1=>λl g=>l.d=1/\agG P main (gT b) (match r with|0=>J|_=>fg P main<|Hp r) l g
def Lb(W:Nat):Jd:=λl g=>l.d=1/\agE P main (fL b) 0 (Hp P main b J W) l g
def Lc(W:Nat):Jd:=λl g=>l.d=1/\XA P main (fL b) (λv=>if v=(W:Int)then Lb P main b J W else λ_ _=>True) l g
def Qh:Jd:=λl g=>l.d=1/\P5 P main (fL b) qW (λs=>if s=0\/(fZ<=s/\s<1000000*fZ/\s%fZ<1000000)then J else if 0<s/\s<1000000 then fg P main (Lc P main b J s.toNat)else λ_ _=>True) l g
def yL:Jd:=λl g=>l.d=0/\Hn P main (Ŀ<|fL b) (Qh P main b J) l g
def EC:jK->Jd
 |.jH=>yL P main b J
 |.iG=>Qh P main b J
 |.gB W=>Lc P main b J W
 |.je W=>Lb P main b J W
 |.iC r=>Hp P main b J r
def ED:Jd:=λl g=>l.d=0/\Hn P main (cX<|fL b) J l g
def XL:Jd:=λl g=>l.d=1/\XA P main (fL b) (λv=>if v=0 then ED P main b J else λ_ _=>True) l g
def Ld:Jd:=λl g=>l.d=1/\agF P main (gT b) (XL P main b J) l g
def Qi:Jd:=λl g=>l.d=1/\Hn P main (.write<|gT b) (Ld P main b J) l g
def Qj(p:SP):Jd:=λl g=>l.d=1/\EA P main (fL b) B (λ_=>ED P main b J) (λv=>if v%fZ=0 then Qi P main b J else Ld P main b J) p l g
def qY:jx->Jd
 |.iZ=>λl g=>∃k,k<=B/\Qj P main B b J (.gd k) l g
 |.me p=>Qj P main B b J p
 |.wr=>Qi P main b J
 |.kC=>Ld P main b J
 |.gB=>XL P main b J
 |.lk=>ED P main b J
end
section
variable{P:Ø}{Y:Nat->Prop}{S:Nat->Jd}{tr:Nat->gw}{f:Nat->iB}{lot:Nat->e9}{gs:Array Ó}{t:Ħ}
theorem iT.C{Live:Nat->Prop}(h:iT n Live Y lot w t)(E:Live i){l:e9}(s:∀b,l.O b->(lot i).O b) (x:∀b,l.I b->(lot i).M b\/(b<w.heap.size/\¬Y b/\(∀k,Live k->¬(lot k).O b)/\∀a:Û,a.block=b->pB t i (Ā a))) (u:∀a,l.r a->(lot i).r a) (y:∀a,l.N a->(lot i).C a\/(Y a.block/\(∀k,Live k->¬(lot k).r a)/\pB t i (Ā a))) (F:l.K=(lot i).K) (D:l.d=(lot i).d) (G:l.w=w) (H:∀b,l.O b->¬l.I b) (I:∀a,l.r a->¬l.N a):iT n Live Y (gu lot i l) w t:=by
 have v:∀b,l.M b->(lot i).M b\/(b<w.heap.size/\¬Y b/\(∀k,Live k->¬(lot k).O b)/\∀a:Û,a.block=b->pB t i (Ā a)):=λb g=>g.elim (λq=>Ç<|Ç<|s b q)<|x b;have B:∀a,l.C a->(lot i).C a\/(Y a.block/\(∀k,Live k->¬(lot k).r a)/\pB t i (Ā a)):=λa f=>f.elim (λq=>Ç<|Ç<|u a q)<|y a;refine⟨λk j c o m b g=> ?_,λk j c o m a f=> ?_,λk c b g=> ?_,λk c a f=> ?_,λk c b g=> ?_,λk c a f=> ?_,λk c b g=> ?_,h.N,λk c=> ?_,λk c=> ?_,λk c=> ?_,h.l,h.q,h.s,λk c a f=> ?_⟩
 .by_cases e:k=i
  .subst e;rw[gW]at g;rw[gH lot _<|Ċ m];exact h.o k j c o m b<|s b g
  .rw[gH lot _ e]at g;by_cases p:j=i
   .subst p;rw[gW];intro q;rcases v b q with z|⟨_,_,z,_⟩
    .exact h.o k j c o m b g z
    .exact z k c g
   .rw[gH lot _ p];exact h.o k j c o m b g
 .by_cases e:k=i
  .subst e;rw[gW]at f;rw[gH lot _<|Ċ m];exact h.h k j c o m a<|u a f
  .rw[gH lot _ e]at f;by_cases p:j=i
   .subst p;rw[gW];intro q;rcases B a q with z|⟨_,z,_⟩
    .exact h.h k j c o m a f z
    .exact z k c f
   .rw[gH lot _ p];exact h.h k j c o m a f
 .by_cases e:k=i
  .grind [gW]
  .rw[gH lot _ e]at g|-;exact h.m k c b g
 .by_cases e:k=i
  .grind [gW]
  .rw[gH lot _ e]at f|-;exact h.g k c a f
 .by_cases e:k=i
  .subst e;rw[gW]at g;exact(v b g).elim (h.I k c b) λz=>z.2.1
  .rw[gH lot _ e]at g;exact h.I k c b g
 .by_cases e:k=i
  .subst e;rw[gW]at f;exact(B a f).elim (h.e k c a) λz=>z.1
  .rw[gH lot _ e]at f;exact h.e k c a f
 .by_cases e:k=i
  .subst e;rw[gW]at g;exact(v b g).elim (h.fv k c b) λz=>z.1
  .rw[gH lot _ e]at g;exact h.fv k c b g
 .by_cases e:k=i
  .grind [gW,fF.fW]
  .rw[gH lot _ e];exact h.r k c
 .by_cases e:k=i
  .subst e;rw[gW];refine⟨λa f=>(h.S k c).fj a<|s _ f,λa f=> ?_,λa f=>(h.S k c).C a<|u a f,λa f=> ?_⟩
   .rcases x _ f with(z|z)|⟨_,_,_,z⟩
    .exact((h.S k c).fj a z).r
    .exact(h.S k c).rd a z
    .exact z a U
   .rcases y _ f with(z|z)|⟨_,_,z⟩
    .exact((h.S k c).C a z).r
    .exact(h.S k c).r a z
    .exact z
  .rw[gH lot _ e];exact h.S k c
 .by_cases e:k=i
  .subst e;rw[gW,D];exact h.f k c
  .rw[gH lot _ e];exact h.f k c
 .have e:(lot k).K a:=by
   grind [gW,gH]
  let⟨p,q⟩:=h.n k c a e;grind [gW,gH]
def gP.M(b:gP P n Y S tr f lot gs w t){J:Jd}{T:gw}{K:iB}{l:e9}(c:gs[i]?=À g)(d:g.status=Ð\/g.status=ĥ)(h:iT n (λi=>i<gs.size) Y (gu lot i l) w t)(hF:lj P (i==0) J T l g): gP P n Y (fw S i J) (fw tr i T) (fw f i K) (gu lot i l) gs w t:=by
 refine⟨h,λk x a=> ?_,b.I⟩;by_cases e:k=i
 .subst e;rw[c]at a;obtain rfl:=ī a;rw[gE,gE,gE,gW];exact⟨g,hF,.gl,d,Ç U⟩
 .rw[fG S _ e,fG tr _ e,fG f _ e,gH lot _ e];exact b.C k x a
end
end Go.Proofs.Y.fq
namespace Go.Proofs.Y.fq
open Go Go.Conc Go.Proofs.Y.Lift
open Go.ConcN (RelBy fork_knows)
def AN(t:Ħ)(p:Nat)(l:dZ):Prop:=∀q a,Ġ t q=À a->a.loc=l->a.write=È->Before t q p
theorem AN.Qk{u:Ħ}{l:dZ}(h:AN qJ i l)(j:∀c∈u,∀b,c.act.touch?=À b->b.loc=l->b.write=È->False):AN (qJ++u) i l:=by
 intro q a e f g;rcases mU e with⟨_,d⟩|⟨_,c,d,k,_⟩
 .exact(h q a d f g).app u
 .grind
def AN.agT{l:dZ}(h:AN qJ i l)(b:bN qJ n i):pB qJ n l:=λq a c d e=>Knows.of_before (h q a c d e) b
theorem agU{l:dZ}(h:pB qJ i l)(c:wQ.g=i)(j:wQ.act.touch?=ë):AN (qJ++#[wQ]) qJ.size l:=by
 intro q a d e f;rcases mU d with⟨_,b⟩|⟨_,k,b,m,_⟩
 .exact Î<|(h q a b e f).hb_new (á _) (by rw[Č<|á _];simp) c
 .grind
structure Fx where
 L:Nat
 m:Nat
 C:Nat
 I:Nat->Nat
def Fx.M(F:Fx)(b:Nat):Prop:=b=F.C\/∃k,k<=F.m/\b=F.I k
def Fx.G(F:Fx)(x:Û):Prop:=∃b,F.M b/\(x=fL b\/x=gT b)
def ji(F:Fx)(k:Nat):Û:=⟨F.I k,2,ë⟩
def Fx.Ql(F:Fx)(a:Nat->Option Nat)(x:Û)(g:Option Nat):Prop:=(x=gT F.C/\g=À 0)\/∃k j,k<=F.m/\x=gT (F.I k)/\a k=À j/\g=À (F.L+1+j)
structure TI(F:Fx)(t0:Nat)(jq:dZ->Prop)(sp rl:Nat)(V:Nat->Nat->Prop)(pk:Nat->Nat)(fs:Nat->Option Nat)(rx:Nat->Prop)(ql:Nat->Nat)(t:Ħ):Prop where
 N:t0<=t.size
 M:∀p a x,Ġ t p=À a->a.loc=Ā x->F.G x->(p<t0/\t.g? p=À 0)\/a.kind=Š\/(a.kind=.said/\F.Ql fs x (t.g? p))
 AO:∀x,x<sp->∀p,p<t0->t.g? p=À 0->bN t (F.L+x) p
 Y:∀k,1<=k->k<=rl->t.act? (pk k)=À (Ť<|Ŀ<|fL<|F.I k)/\t.g? (pk k)=À F.L/\t.heard (pk k)
 I:∀k,1<=k->k<=rl->∀a:Û,(V k a.block\/a=ji F k)->AN t (pk k) (Ā a)
 c:∀b,F.M b->NoRelease (fL b) t
 r:∀x,x<sp->rx x->RelBy (fL F.C) t (F.L+x) (ql x)/\∀p a,Ġ t p=À a->t.g? p=À (F.L+x)->p<=ql x\/((∃y:Û,a.loc=Ā y/\y.block=F.C)/\a.kind=Š)
 S:∀p a,t0<=p->Ġ t p=À a->t.g? p=À 0\/∃x,x<sp/\t.g? p=À (F.L+x)
 e:∀p a,p<t0->Ġ t p=À a->a.loc.isMemory=È->bN t 0 p\/(jq a.loc/\a.kind=Š)
 d:∀p g,p<t0->t.g? p=À g->g≠0->t.counts p->∃j,t.g? j=À 0/\HappensBefore t p j
section
variable{F:Fx}{t0:Nat}{jq:dZ->Prop}{sp rl:Nat}{V:Nat->Nat->Prop}{pk:Nat->Nat}{fs:Nat->Option Nat}{rx:Nat->Prop}{ql:Nat->Nat}{t u:Ħ}
theorem Le(h:t.g? i=À n):i<t.size:=by unfold Ő at h;grind
def Hq(h:t.g? i=À n):(t++u).g? i=À n:=by rwa[aS<|Le h]
theorem Qm{a:dU}(h:Ġ t i=À a):i<t.size:=by let⟨b,c,_⟩:=dV h;grind
structure Lf(F:Fx)(sp rl:Nat)(V:Nat->Nat->Prop)(fs:Nat->Option Nat)(rx:Nat->Prop)(t u:Ħ)(i:Nat):Prop where
 C:∀op∈u,∀a,op.act.touch?=À a->op.g=i
 S:i=0\/(∃x,x<sp/\i=F.L+x)\/∀op∈u,op.act.touch?=ë
 M:∀op∈u,∀a x,op.act.touch?=À a->a.loc=Ā x->F.G x->a.kind=Š\/(a.kind=.said/\F.Ql fs x (À i))
 fK:∀op∈u,∀(a:dU) (y:Û),op.act.touch?=À a->a.write=È->a.loc=Ā y->∀k,1<=k->k<=rl->¬V k y.block/\y≠ji F k
 N:∀op∈u,∀b,F.M b->op.act≠Ť (dW<|fL b)
 I:∀x,x<sp->rx x->(∀r,RelBy (fL F.C) t (F.L+x) r->RelBy (fL F.C) (t++u) (F.L+x) r)/\(F.L+x=i->∀op∈u,∀a,op.act.touch?=À a->(∃y:Û,a.loc=Ā y/\y.block=F.C)/\a.kind=Š)
def TI.C(h:TI F t0 jq sp rl V pk fs rx ql t)(f:Lf F sp rl V fs rx t u i):TI F t0 jq sp rl V pk fs rx ql (t++u) where
 N:=by rw[Array.size_append];have:=h.N;omega
 M p a x n y hc:=by
  rcases mU n with⟨d,c⟩|⟨d,m,c,l,j⟩
  .rw[aS d];exact h.M p a x c y hc
  .refine Î ((f.M m c a x l y hc).imp id λq=>⟨q.1,?_⟩);have:(t++u).g? p=À i:=by unfold Ő;rw[j];simp[f.C m c a l]
   rw[this];exact q.2
 AO x r p d o:=(h.AO x r p d<|by rwa[aS<|Ô d h.N]at o).app u;Y k c l:=by let⟨v,s,b⟩:=h.Y k c l;have w:=Le s;exact⟨by rwa[dX w],Hq s,(heard_old w).2 b⟩
 I k c l a n:=(h.I k c l a n).Qk λm B b z y C=>by have:=f.fK m B b a z C y k c l;exact n.elim this.1 this.2
 c b z:=(h.c b z).app λm B=>f.N m B b z;r x r hr:=by
  let⟨v,s⟩:=h.r x r hr;let⟨D,E⟩:=f.I x r hr;refine⟨D _ v,λp a n o=> ?_⟩;rcases mU n with⟨d,c⟩|⟨d,m,c,l,j⟩
  .exact s p a c<|by rwa[aS d]at o
  .have e:(t++u).g? p=À i:=by unfold Ő;rw[j];simp[f.C m c a l]
   rw[e]at o;exact Î<|E (ī o).symm m c a l
 S p a d n:=by
  rcases mU n with⟨D,c⟩|⟨_,m,c,l,j⟩
  .rw[aS D];exact h.S p a d c
  .have e:(t++u).g? p=À i:=by unfold Ő;rw[j];simp[f.C m c a l]
   rw[e];rcases f.S with q|⟨x,r,q⟩|q
   .exact Ç<|by rw[q]
   .exact Î ⟨x,r,by rw[q]⟩
   .rw[q m c]at l;cases l
 e p a d n hm:=by rw[touchAt_old<|Ô d h.N]at n;exact(h.e p a d n hm).imp (·.app u) id
 d p g d o lu hc:=by have w:=Ô d h.N;rw[aS w]at o;rw[eC w]at hc;let⟨j,v,s⟩:=h.d p g d o lu hc;exact⟨j,Hq v,eA u s⟩
theorem yM(f:∀c∈u,c.act.touch?=ë)(h:∀c∈u,∀b,F.M b->c.act≠Ť (dW<|fL b)):Lf F sp rl V fs rx t u 0 where
 C c e a d:=by rw[f c e]at d;cases d
 S:=Ç U;M c e a x d:=by rw[f c e]at d;cases d
 fK c e a y d:=by rw[f c e]at d;cases d
 N:=h;I x hx g:=by refine⟨λr g=>g.app λj l m i=> ?_,λ_ c e a d=>by rw[f c e]at d;cases d⟩;let⟨z,k,_⟩:=i;rcases mU k with⟨q,_⟩|⟨_,c,n,o,_⟩;all_goals grind
def TI.agV(h:TI F t0 jq sp rl V pk fs rx ql t){b:Nat->Option Nat}(c:∀k y,fs k=À y->b k=À y):TI F t0 jq sp rl V pk b rx ql t:= {h with M:=λp a x d e f=>(h.M p a x d e f).imp id (Or.imp id λq=>⟨q.1,q.2.imp id λ⟨k,j,g,i,l,m⟩=>⟨k,j,g,i,c k j l,m⟩⟩)}
theorem TI.Hr(h:TI F t0 jq sp rl V pk fs rx ql t){y:dp}(j:wQ.g=0/\wQ.act=.go (F.L+sp))(k:y.g=F.L+sp/\y.act=.start)(m:π t 0=0)(n:π t (F.L+sp)=0)(B:¬rx sp)(o:∀wQ,rx wQ->wQ<sp):TI F t0 jq (sp+1) rl V pk fs rx ql (t++#[wQ,y]):=by
 have q:∀c∈#[wQ,y],c.act.touch?=ë:=by
  intro c a;simp at a;rcases a with rfl|rfl
  .rw[j.2];rfl
  .rw[k.2];rfl
 have r:∀c∈#[wQ,y],∀b,F.M b->c.act≠Ť (dW<|fL b):=by grind
 have d:=h.C<|yM q r;refine{d with AO:=λz s p f i=> ?_,r:=λz s l=>d.r z (o z l) l,S:=λp a f u=>((d.S p a f u).imp id λ⟨z,v,e⟩=>⟨z,Z,e⟩)}
 .by_cases e:z<sp
  .exact d.AO z e p f i
  .obtain rfl:z=sp:=Z
   rw[aS<|Ô f h.N]at i;let⟨c,v,w⟩:=Ī.1 i;have:=bE v;rw[w]at this;exact c9 j k m n this
theorem agW{y:dp}(d:wQ.g=0/\wQ.act=.go k)(e:y.g=k/\y.act=.start)(j:π t 0=0)(m:π t k=0){l:dZ}:(qU t 0 l->qU (t++#[wQ,y]) k l)/\(pB t 0 l->pB (t++#[wQ,y]) k l):=by
 have q:∀c∈#[wQ,y],c.act.touch?=ë:=by
  intro c a;simp at a;rcases a with rfl|rfl
  .rw[d.2];rfl
  .rw[e.2];rfl
 refine⟨λh p a f i=> ?_,λh p a f i n=> ?_⟩
 .rcases mU f with⟨_,b⟩|⟨_,c,b,o,_⟩
  .exact c9 d e j m<|h p a b i
  .grind
 .rcases mU f with⟨_,b⟩|⟨_,c,b,o,_⟩
  .exact c9 d e j m<|h p a b i n
  .grind
theorem TI.agX(h:TI F t0 jq sp rl V pk fs rx ql t)(f:wQ.g=F.L)(i:wQ.act=Ť (Ŀ<|fL<|F.I<|rl+1))(l:π t F.L=0)(q:∀a:Û,(V (rl+1) a.block\/a=ji F (rl+1))->pB t F.L (Ā a)): TI F t0 jq sp (rl+1) V (fw pk (rl+1) t.size) fs rx ql (t++#[wQ]):=by
 have m:∀c∈#[wQ],c.act.touch?=ë:=by
  intro c e;have:c=wQ:=by simpa using e
  rw[this,i];rfl
 have d:=h.C (yM m λc e b _=>by grind);have n:(t++#[wQ])[t.size]?=À wQ:=by rw[Č<|á _];simp
 have j:∀k,k<=rl->fw pk (rl+1) t.size k=pk k:=λk r=>fG pk _ Z;refine{d with Y:=λk b o=> ?_,I:=λk b o a p=> ?_}
 .by_cases e:k=rl+1
  .subst e;rw[gE];exact⟨by rw[eJ n,i],by simp[Ő,f],⟨F.L,by simp[Ő,f],by rwa[c8<|á _]⟩⟩
  .rw[j k Z];exact d.Y k b Z
 .by_cases e:k=rl+1
  .grind [gE,agU]
  .rw[j k Z];exact d.I k b Z a p
theorem TI.agY(h:TI F t0 jq sp rl V pk fs rx ql t){x:Nat}(r:x<sp)(d:wQ.g=F.L+x)(f:wQ.act=Ť (Ŀ<|fL F.C))(k:π t (F.L+x)=0)(s:¬rx x): TI F t0 jq sp rl V pk fs (λz=>rx z\/z=x) (fw ql x t.size) (t++#[wQ]):=by
 have l:∀c∈#[wQ],c.act.touch?=ë:=by
  intro c a;have:c=wQ:=by simpa using a
  rw[this,f];rfl
 have j:=h.C (yM l λc a b _=>by grind);have b:(t++#[wQ])[t.size]?=À wQ:=by rw[Č<|á _];simp
 refine{j with r:=λz m n=> ?_};by_cases e:z=x
 .subst e;rw[gE];refine⟨⟨by rw[eJ b,f],by simp[Ő,d],⟨F.L+z,by simp[Ő,d],by rwa[c8<|á _]⟩,λi u o=> ?_⟩,λp a q _=>Ç ?_⟩
  .have:=Le o;simp at this;omega
  .have:=Qm q;simp at this;omega
 .rw[fG ql _ e];exact j.r z m<|n.resolve_right e
def XM(e:t.act? i=À (Ť<|Ŀ a))(f:t.g? i=À k)(h:t.heard i)(l:NoRelease a t)(c:wQ.g=n)(m:wQ.act=Ť (cX a))(o:π t n=0):bN (t++#[wQ]) n i:=by
 have b:=Le f;have d:(t++#[wQ])[t.size]?=À wQ:=by rw[Č<|á _];simp
 refine⟨t.size,wQ,d,c,Î<|.single<|Î ⟨.marked b (Î<|by rwa[dX b]) (by rw[eJ d,m]) λj _ q=> ?_,(heard_old b).2 h,⟨n,by simp[Ő,c],by rwa[c8<|á _]⟩⟩⟩;rw[dX q];exact l j
theorem TI.kY(h:TI F t0 jq sp rl V pk fs rx ql t)(G:wQ.g=0)(o:wQ.act=Ť (cX<|fL F.C))(H:π t 0=0)(k:∀x,x<sp->rx x): (∀p a,Ġ (t++#[wQ]) p=À a->a.loc.isMemory=È->bN (t++#[wQ]) 0 p\/((jq a.loc\/∃x:Û,a.loc=Ā x/\x.block=F.C)/\a.kind=Š))/\(t++#[wQ]).HandedOver:=by
 have Q:wQ.act.touch?=ë:=by rw[o];rfl
 have s:=λx c=>by let⟨b,_⟩:=h.r x c<|k x c;exact XM b.act b.g b.heard (h.c _<|Ç U) G o H
 have u:∀p a,Ġ (t++#[wQ]) p=À a->p<t.size/\Ġ t p=À a:=λp a l=>by rcases mU l with q|⟨_,v,d,w,_⟩;all_goals grind
 have B:∀p q x,t.g? p=À (F.L+x)->t.g? q=À (F.L+x)->p<=q->Before (t++#[wQ]) p q:=λp q x d w S=>by
  rcases Nat.lt_or_ge p q with f|i
  .exact Î<|.single<|Ç ⟨f,_,Hq d,Hq w⟩
  .exact Ç Z
 refine⟨λp a l I=> ?_,λp g C J K=> ?_⟩
 .let⟨f,d⟩:=u p a l;by_cases e:p<t0
  .rcases h.e p a e d I with q|⟨b,i⟩
   .exact Ç<|q.app _
   .grind
  .rcases h.S p a Z d with q|⟨x,c,q⟩
   .let⟨v,m,n⟩:=Ī.1 q;have:=bE m;rw[n]at this;exact Ç<|this.app _
   .let⟨b,i⟩:=h.r x c<|k x c;rcases i p a d q with z|⟨j,P⟩
    .exact Ç<|Knows.of_before (B p (ql x) x q b.g z)<|s x c
    .grind
 .let⟨z,D,M,N⟩:=K;let⟨f,d⟩:=u p z D;have O:t.g? p=À g:=by rwa[aS f]at C
  have E:=(eC f).1 ⟨z,D,M,N⟩;by_cases e:p<t0
  .let⟨j,b,i⟩:=h.d p g e O J E;exact⟨j,Hq b,eA _ i⟩
  .rcases h.S p z Z d with q|⟨x,c,q⟩
   .grind
   .let⟨b,_⟩:=h.r x c<|k x c;let⟨r,v,m,n,i⟩:=s x c;have j:(t++#[wQ]).g? r=À 0:=by unfold Ő;rw[m];simp[n]
    refine⟨r,j,?_⟩;rcases(B p (ql x) x q b.g<|Nat.le_of_not_lt λP=>b.after p P q E).trans i with P|P;all_goals grind
end
end Go.Proofs.Y.fq
namespace Go.Proofs.Y.fq
open Go Go.Conc Go.Proofs.Y.Lift
open Go.ConcN (sumTo)
structure Ph extends Fx where
 P:Ø
 S:Nat
 n:Nat
 q:Nat
 Y:Nat
 f:Nat
 r:Nat->Nat
 a:Nat->Nat
 b:Nat->Nat
 c:Nat->Ã
 z:Ã
 B:Nat
 γ:Type
 l:γ
 i:Nat->Prop
 p:Nat->γ->γ->Prop
 d:Nat->γ->(Nat->Prop)->Æ->Prop
 o:Nat->ByteArray
 k:Nat->ByteArray
 g:Nat->(Nat->Nat)->Jd
 h:Nat->Jd
 e:Nat->Nat->Jd
 j:(Nat->Nat)->Jd
inductive nF(F:Ph):Nat->F.γ->Prop
 |vp:nF F 0 F.l
 |EE {k:Nat} {s s':F.γ} (h:nF F k s) (hn:F.p k s s'):nF F (k+1) s'
def jr(F:Ph)(p:Nat):Û:=⟨F.Y,p,ë⟩
inductive fX where
 |go (j:Nat)|lG (j:Nat)|rd (j:Nat)|iG (j:Nat)|iK (r:Nat)|kY (r:Nat)|fx (p:jx)|gf
inductive jB where
 |kO (k:Nat)|mk (k:Nat)|dn (k:Nat) (p:jK)
inductive gQ where
 |nD (r:Nat)|fx (r:Nat) (p:jx)|jM (r:Nat)|oP (r:Nat)
inductive il where
 |oR|gf (p:jK)|jw (N:Nat)
section
variable(F:Ph)
def Hs:Jd:=λl g=>∃N,QuitsD F.P N l.d g
def kD(l:e9):e9:={l with O:=λ_=>False,I:=λ_=>False,r:=λ_=>False,N:=λ_=>False,q:=True}
def AP:Jd:=λl g=>EC F.P Â F.C (Hs F) .jH (kD l) g
def EF(c j r:Nat):Jd:=xa F.P Â c F.z λx=>match x with
 |some v=>λl g=>v=F.c (j+r*F.n)->qY F.P Â F.B (F.I<|F.r<|j+r*F.n) (F.e c<|j+r*F.n) .iZ l g
 |none=>AP F
def vv(l:e9)(i:Nat):e9:={l with r:=λa=>l.r a/\a≠jr F (F.a i),N:=λa=>l.N a\/a=jr F (F.a i)}
def qa(l:e9)(k:Nat):e9:={l with O:=λ_=>False,I:=l.M,r:=λa=>l.r a/\a≠jr F (F.b k)/\a≠ji F.toFx k,N:=λa=>l.N a\/a=jr F (F.b k)\/a=ji F.toFx k}
def JW(c j:Nat):gQ->Jd
 |.nD r=>EF F c j r
 |.fx r p=>qY F.P Â F.B (F.I<|F.r<|j+r*F.n) (F.e c<|j+r*F.n) p
 |.jM r=>F.e c<|j+r*F.n
 |.oP r=>λl g=>l.w.cell? (jr F<|F.a<|j+r*F.n)=À (Į<|F.k<|j+r*F.n)/\EF F c j (r+1) (vv F l<|j+r*F.n) g
def JI(sg:Nat->F.γ):jB->Jd
 |.kO k=>F.h k
 |.mk k=>λl g=>∃p V,F.p (k-1) (sg<|k-1) p/\F.d k p V l.w/\(∀b,V b->l.M b)/\l.w.cell? (jr F<|F.b k)=À (Į<|F.o k)/\EC F.P Â (F.I k) (fg F.P Â<|F.h k) .jH (qa F l k) g
 |.dn k p=>EC F.P Â (F.I k) (fg F.P Â<|F.h k) p
def JE:il->Jd
 |.oR=>AP F
 |.gf p=>EC F.P Â F.C (Hs F) p
 |.jw N=>pC F.P N
def Lg(j:Nat)(a:Nat->Nat):Jd:=λl g=>∃c,F.g j (fw a (j-1) c) l g
def XO(j:Nat)(a:Nat->Nat):Jd:=λl g=>l.d=1/\Hn F.P È (.read<|gT F.C) (Lg F j a) l g
def Qo(j:Nat)(a:Nat->Nat):Jd:=λl g=>l.d=1/\P5 F.P È (fL F.C) fZ (λs=>if s=fZ then fg F.P È (XO F j a)else if fZ<s/\s<1000000*fZ/\s%fZ=0 then fg F.P È (Lg F j a)else λ_ _=>True) l g
def AQ(a:Nat->Nat):Nat->Jd
 |0=>qY F.P È F.B F.C (F.j a) .iZ
 |r+1=>K3 F.P È (a<|F.n-(r+1))<|AQ a r
def Ht(a:Nat->Nat):Nat->Jd
 |0=>AQ F a F.n
 |r+1=>AK F.P È (a<|(F.q-(r+1))%F.n) (F.c<|F.q-(r+1))<|Ht a r
def JM(dk:Nat->Nat):fX->Jd
 |.go j=>F.g j dk
 |.lG j=>Lg F j dk
 |.rd j=>XO F j dk
 |.iG j=>Qo F j dk
 |.iK r=>Ht F dk r
 |.kY r=>AQ F dk r
 |.fx p=>qY F.P È F.B F.C (F.j dk) p
 |.gf=>F.j dk
def lX(x:Nat)(a:Û):Prop:=if x=0 then(∃k,1<=k/\k<=F.m/\(a=ji F.toFx k\/a=jr F (F.b k)))else∃i,i<F.q/\i%F.n=x-1/\a=jr F (F.a i)
end
def fX.sp(n:Nat):fX->Nat
 |.go j|.lG j|.rd j|.iG j=>j
 |_=>n+1
def fX.ad(n:Nat):fX->Nat
 |.iG j=>j
 |.go j|.lG j|.rd j=>j+1
 |_=>n+1
def fX.mG(q:Nat):fX->Nat
 |.go _|.lG _|.rd _|.iG _=>0
 |.iK r=>q-r
 |_=>q
def fX.jh(n:Nat):fX->Nat
 |.kY r=>n-r
 |.fx _|.gf=>n
 |_=>0
def jx.sZ:jx->Nat
 |.wr|.kC=>1
 |_=>0
def fX.gD:fX->Nat
 |.fx p=>p.sZ
 |_=>0
def jK.kQ:jK->Nat
 |.jH|.iG=>1
 |_=>0
def il.kQ:il->Nat
 |.oR=>1
 |.gf p=>p.kQ
 |_=>0
def il.ox:il->Prop
 |.oR=>False
 |_=>True
def mf:Option il->Nat
 |none=>1
 |some e=>e.kQ
def jK.iz:jK->Prop
 |.jH=>False
 |_=>True
def il.iz:il->Prop
 |.oR=>False
 |.gf p=>p.iz
 |_=>True
def jB.md:jB->Nat
 |.kO k=>k
 |.mk k=>k-1
 |.dn k _=>k
def jB.rl:jB->Nat
 |.kO k=>k
 |.mk k=>k-1
 |.dn k .jH=>k-1
 |.dn k _=>k
def jB.od:jB->Nat
 |.kO k=>k
 |.mk k=>k-1
 |.dn k .jH|.dn k .iG=>k-1
 |.dn k _=>k
def gQ.iO:gQ->Nat
 |.nD r=>r
 |.fx r _|.jM r|.oP r=>r+1
def gQ.kE:gQ->Nat
 |.nD r|.fx r _|.jM r|.oP r=>r
def gQ.gD(F:Ph)(j:Nat)(k:Nat):gQ->Nat
 |.fx r p=>if F.r (j+r*F.n)=k then p.sZ else 0
 |_=>0
structure fV(F:Ph) where
 M:fX
 S:jB
 C:Nat->gQ
 N:Nat->Option il
 I:Nat->Nat
 c:Nat->F.γ
 V:Nat->Nat->Prop
 e:Nat->Nat
 d:Nat->Option Nat
 f:Nat->Nat
 b:GS
 a:Nat->GS
 g:Option Nat
 h:Nat->Nat
section
variable{F:Ph}
def fV.r(E:fV F):Nat:=E.M.sp F.n
def fV.G(E:fV F)(x:Nat):Nat:=if x<E.M.ad F.n then mf (E.N x)else 0
def fV.iz(E:fV F)(x:Nat):Prop:=∃e,E.N x=À e/\e.iz
def fV.ox(E:fV F)(x:Nat):Prop:=∃e,E.N x=À e/\e.ox
def fV.Y(E:fV F)(b:Nat):Prop:=F.M b\/b=F.Y\/∃j,j+2<=E.r/\b=E.I j
def tZ(n j Q s:Nat):Prop:=∀i,i<s↔j+i*n<Q
def kM:fX->iB
 |.fx .kC=> .iC
 |_=> .no
def kW(F:Ph)(c:Nat):gQ->iB
 |.nD _=> .sX c F.z
 |.fx _ .kC=> .iC
 |_=> .no
end
structure Ph.Ok(F:Ph):Prop where
 N:1<=F.n
 r:1<=F.L
 gh:F.n+F.q+F.m<1000
 I:∀i,i<F.q->F.r i<=F.m
 M:∀k,k<=F.m->F.I k≠F.C
 S:∀k k',k<=F.m->k'<=F.m->F.I k=F.I k'->k=k'
 C:¬F.M F.Y
 a:∀i i',i<F.q->i'<F.q->F.a i=F.a i'->i=i'
 pi:∀k k',1<=k->k<=F.m->1<=k'->k'<=F.m->F.b k=F.b k'->k=k'
 Qp:∀i k,i<F.q->1<=k->k<=F.m->F.a i≠F.b k
 gq:∀b,F.M b\/b=F.Y->F.S<=b
 Y:(∀k,1<=k->k<=F.m->F.b k≠F.f)/\∀i,i<F.q->F.a i≠F.f
structure iI(F:Ph)(E:fV F)(lot:Nat->e9)(sz:Nat)(w:Æ):Prop where
 gV:∀i,i<sz->∀a,(lot i).C a->(∃k,k<=F.m/\a=ji F.toFx k)\/∃p,p≠F.f/\a=jr F p
 o:∀x,E.r<=x->x<=F.n->∀a,lX F x a->(lot 0).r a
 lV:E.r<=F.n->(lot 0).N (ji F.toFx 0)/\∀b,F.i b->(lot 0).I b
 e:0<E.r->∀k,E.S.md<k->k<=F.m->(lot F.L).r (ji F.toFx k)/\(lot F.L).r (jr F<|F.b k)
 f:0<E.r->E.N 0=ë->(lot F.L).N (ji F.toFx E.S.md)/\∀b,E.V E.S.md b->(lot F.L).I b
 h:∀j,j+2<=E.r->E.N (j+1)=ë->∀r,j+r*F.n<F.q->(E.C j).kE<=r->(lot<|F.L+1+j).r (jr F<|F.a<|j+r*F.n)
 l:∀j,j+2<=E.r->E.N (j+1)=ë->(lot<|F.L+1+j).N (ji F.toFx 0)/\∀b,F.i b->(lot<|F.L+1+j).I b
 S:∀x,E.ox x->lot (F.L+x)=kD (lot<|F.L+x)
 M:∀i,(i=0\/∃x,x<E.r/\i=F.L+x/\¬E.ox x)->¬(lot i).q
 c:∀i,0<i->i<F.L->lot i=kD (lot i)
 I:∀k,k<=E.S.md->∀b,E.V k b->b<w.heap.size/\¬E.Y b/\∀i,i<sz->¬(lot i).O b
 N:∀k,k<=E.S.md->∀i,i<sz->¬(lot i).r (ji F.toFx k)
 g:∀k,1<=k->k<=E.S.md->∀i,i<sz->¬(lot i).r (jr F<|F.b k)
 d:∀j,j+2<=E.r->∀r,j+r*F.n<F.q->r<(E.C j).kE->∀i,i<sz->¬(lot i).r (jr F<|F.a<|j+r*F.n)
structure Wd(F:Ph)(E:fV F)(w:Æ):Prop where
 C:ie w F.C E.b
 I:∀k,k<=F.m->ie w (F.I k) (E.a k)
 jL:∀j,j+2<=E.r->∃buf s,w.heap[E.I j]?=À (ay F.q buf (decide<|j<E.M.jh F.n) s (E.C j).iO Â)/\tZ F.n j (E.M.mG F.q) s/\(E.C j).iO<=s/\buf.size=s-(E.C j).iO/\∀i,i<s-(E.C j).iO->buf[i]?=À (F.c<|j+((E.C j).iO+i)*F.n)
 M:∀k,k<=E.S.md->nF F k (E.c k)/\F.d k (E.c k) (E.V k) w
 S:∀k,1<=k->k<=E.S.md->w.cell? (jr F<|F.b k)=À (Į<|F.o k)
 N:∀j,j+2<=E.r->∀r,j+r*F.n<F.q->r<(E.C j).kE->w.cell? (jr F<|F.a<|j+r*F.n)=À (Į<|F.k<|j+r*F.n)
structure Ps(F:Ph)(E:fV F):Prop where
 v:E.V 0=F.i
 C:∀j,E.M=.go j\/E.M=.lG j\/E.M=.rd j\/E.M=.iG j->j<=F.n
 K:∀j,E.M=.lG j\/E.M=.rd j\/E.M=.iG j->1<=j
 L:∀r,(E.M=.iK r->r<=F.q)/\(E.M=.kY r->r<=F.n)
 J:E.r=0->E.S=.kO 0
 I:∀k,(E.S=.kO k->k<=F.m)/\(E.S=.mk k->1<=k/\k<=F.m)/\(∀p,E.S=.dn k p->1<=k/\k<=F.m)
 z:∀j,E.r<j+2->E.C j=.nD 0
 d:∀j r,j+2<=E.r->((∃p,E.C j=.fx r p)\/E.C j=.jM r\/E.C j=.oP r)->j+r*F.n<F.q
 l:∀j,j+2<=E.r->E.N (j+1)≠ë->j<E.M.jh F.n/\∃r,E.C j=.nD r/\∀i,j+i*F.n<F.q->i<r
 f:E.N 0≠ë->E.S=.kO F.m
 h:∀x,E.r<=x->E.N x=ë
 M:∀j j',j+2<=E.r->j'+2<=E.r->E.I j=E.I j'->j=j'
 o:∀j,j+2<=E.r->¬F.M (E.I j)/\E.I j≠F.Y/\F.S<=E.I j
 t:∀c reg,E.b=.cl c reg->c=bO (F.n+1) E.G/\reg=E.M.gD
 g:∀reg,E.b=.jI reg->bO (F.n+1) E.G=0/\reg=E.M.gD/\∃x,x<E.r/\E.g=À x/\(E.N x=À (.gf (.gB reg))\/E.N x=À (.gf (.je reg)))
 u:∀r s,E.b=.gY r s->bO (F.n+1) E.G=0/\r+s=E.M.gD/\(0<r->∃x,x<E.r/\E.g=À x/\E.N x=À (.gf (.iC r)))
 N:∀x p,E.N x=À (.gf p)->(∀W,p=.gB W\/p=.je W->E.g=À x/\E.b=.jI W)/\(∀r,p=.iC r->0<r/\E.g=À x/\∃s,E.b=.gY r s)
 B:E.M=.fx .gB\/E.M=.fx .lk\/E.M=.gf->bO (F.n+1) E.G=0
 e:∀k,1<=k->k<=F.m->E.S.od<k->E.a k=.cl 1 (bO F.n λj=>(E.C j).gD F j k)
 Y:∀k,k<=F.m->k<=E.S.od->(∃W,(E.S=.dn k (.gB W)\/E.S=.dn k (.je W))/\E.a k=.jI W/\W=bO F.n λj=>(E.C j).gD F j k)\/(∃r s,E.S=.dn k (.iC r)/\0<r/\E.a k=.gY r s/\r+s=bO F.n λj=>(E.C j).gD F j k)\/((∀p,E.S≠ .dn k p)/\((E.a k=.cl 0 0/\(bO F.n λj=>(E.C j).gD F j k)=0)\/∃s,E.a k=.gY 0 s/\s=bO F.n λj=>(E.C j).gD F j k))
 w:∀j r,j+2<=E.r->(E.C j=.fx r .gB\/E.C j=.fx r .lk\/E.C j=.jM r)->F.r (j+r*F.n)<=E.S.od
 H:∀j r,j+2<=E.r->E.C j=.fx r .gB->∃a b,E.a (F.r<|j+r*F.n)=.gY a b
 O:E.M=.fx .gB->∃a b,E.b=.gY a b
 S:(∀p,E.M≠ .fx p)->E.M≠ .gf->∃c,E.b=.cl c 0
 y:∀k,k<=F.m->E.a k=.cl 1 0->E.d k=ë
 D:∀j r,j+2<=E.r->E.C j=.fx r .wr->E.d (F.r<|j+r*F.n)=À j
def ff(F:Ph)(E:fV F)(a:Array Ó)(w:Æ):Prop:=∀i g,a[i]?=À g->g.status=Ž->
 (i=0/\E.M=.fx .kC/\E.b.sm=0)\/(∃j,j+2<=E.r/\E.N (j+1)=ë/\i=F.L+1+j/\((∃r,E.C j=.fx r .kC/\(E.a<|F.r<|j+r*F.n).sm=0)\/∃r b s c,E.C j=.nD r/\w.heap[E.I j]?=À (ay b #[] Â s c Â)))
structure PI(F:Ph)(t0:Nat)(jq:dZ->Prop)(E:fV F)(S:Nat->Jd)(tr:Nat->gw)(kp:Nat->iB)(lot:Nat->e9)(gs:Array Ó)(w:Æ)(t:Ħ):Prop where
 b:gs.size=F.L+E.r
 I:gP F.P F.S E.Y S tr kp lot gs w t
 h:S 0=JM F E.I E.M/\kp 0=kM E.M
 m:0<E.r->E.N 0=ë->S F.L=JI F E.c E.S/\kp F.L=.no
 g:∀j,j+2<=E.r->E.N (j+1)=ë->S (F.L+1+j)=JW F (E.I j) j (E.C j)/\kp (F.L+1+j)=kW F (E.I j) (E.C j)
 k:∀x e,x<E.r->E.N x=À e->S (F.L+x)=JE F e/\kp (F.L+x)=.no/\((∃N,e=.jw N)->tr (F.L+x)=.fy)
 l:∀i,0<i->i<F.L->S i=pC F.P (E.h i)/\tr i=.fy/\kp i=.no
 a:iI F E lot gs.size w
 M:Wd F E w
 C:Ps F E
 d:TI F.toFx t0 jq E.r (E.S.rl) E.V E.e E.d E.iz E.f t
 c:ff F E gs w
 f:∀j r,j+2<=E.r->E.C j=.jM r->1<=F.r (j+r*F.n)->bN t (F.L+1+j) (E.e<|F.r<|j+r*F.n)
structure gU(F:Ph):Prop where
 C:F.Ok
 S:∀k s V w w',F.d k s V w->(∀b,V b->w'.heap[b]?=w.heap[b]?)->w'.cell? (ji F.toFx k)=w.cell? (ji F.toFx k)->w'.cell? (jr F F.f)=w.cell? (jr F F.f)->kX w' F.Y=kX w F.Y->(w'.os=w.os/\w'.output=w.output)->F.d k s V w'
 Hu:∀j dk l g w₁,F.g j dk l g->fF l l.w w₁->F.g j dk {l with w:=w₁} g
 I:∀j dk l g,F.g j dk l g->g.status=Ð
 N:∀k l g,F.h k l g->g.status=Ð
 Y:∀c i l g,F.e c i l g->g.status=Ð
 M:∀dk l g,F.j dk l g->g.status=Ð
 go:∀j dk l g,j<=F.n->F.g j dk l g->gy l->l.d=0/\∃(g' child:Ó) (X:Nat->Prop),g'.status=Ð/\child.status=Ð/\(∀w₁,Ü F.P È g w₁=.spawn g' child w₁ #[])/\(∀b,X b->l.O b)/\
  (1<=j->l.O (dk<|j-1)/\¬X (dk<|j-1)/\l.w.heap[dk<|j-1]?=À (ay F.q #[] Â 0 0 Â)/\F.S<=dk (j-1))/\
  (∀l':e9,gy l'->(∀b,X b\/l.I b->l'.I b)->l'.w=l.w->l'.d=0->¬l'.q->(∀b,¬l'.O b)->l'.K=l.K->l'.N=l.N->(∀a,l'.r a->l.r a)->fg F.P Â (if j=0 then F.h 0 else EF F (dk<|j-1) (j-1) 0) l' child)/\
  (∀l':e9,gy l'->l'.O=(λb=>l.O b/\¬X b/\(1<=j->b≠dk (j-1)))->(∀b,X b\/l.I b->l'.I b)->l'.w=l.w->l'.d=0->l'.q=l.q->l'.K=l.K->l'.N=l.N->(∀a,l'.r a->l.r a)->fg F.P È (JM F dk<|if j<F.n then .iG (j+1)else .iK F.q) l' g')
 f:∀k s V l g,k<F.m->F.h k l g->gy l->nF F k s->F.d k s V l.w->(∀b,V b->l.I b)->l.N (ji F.toFx k)->l.r (ji F.toFx<|k+1)->l.r (jr F<|F.b<|k+1)->∀sg:Nat->F.γ,sg k=s->fg F.P Â (JI F sg<|.mk (k+1)) l g
 h:∀l g,F.h F.m l g->gy l->fg F.P Â (AP F) l g
 e:∀c j r s V l g,j+r*F.n<F.q->F.e c (j+r*F.n) l g->∀l':e9,gy l'->l'.O=l.O->(∀b,l.I b\/V b->l'.I b)->l'.w=l.w->l'.d=l.d->l'.q=l.q->l'.r=l.r->l'.K=l.K->nF F (F.r<|j+r*F.n) s->F.d (F.r<|j+r*F.n) s V l.w->l'.N (ji F.toFx<|F.r<|j+r*F.n)->l'.r (jr F<|F.a<|j+r*F.n)->fg F.P Â (JW F c j<|.oP r) l' g
end Go.Proofs.Y.fq
